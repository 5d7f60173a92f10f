import PyProof.Rows.All
import Wide.All
import OpenK.AllK
import Wide.FinOn
import Lean
import PyProof.EqAt
import PyProof.EqKinds
import PyProof.TupleCall
import PyProof.WalksMore
import PyProof.ListRange
import PyProof.NeKinds
import PyProof.SliceStr2
import PyProof.StrOps2
import PyProof.Rows.SetFrom
import PyProof.MinMaxWalk
import KE.KRevIter
import KE.KDictList
import PyProof.AttrMiss
import PyProof.IsiH_list
import PyProof.IsiH_tuple
import KE.KDictOf
import PyProof.ZipIter
import PyProof.TupleIter
import PySem.Challenge.RW_backissues_k40_whole_true_course
set_option Elab.async false
set_option linter.all false
set_option maxHeartbeats 4000000
set_option maxRecDepth 100000
namespace L2
open PySem PySem.Spec PyProof.Rows
abbrev Key := Sum Int Str
def z8I : Key -> Value -> Bool
 | .inl k, v => Value.isInt k v
 | .inr x, v => Value.isStrOf x v
def keyH (w : World) : Key -> Int
 | .inl k => hashInt k
 | .inr x => hashStr w x
theorem z0V : ∀ {k : Key} {v : Value}, z8I k v = true -> (∃ i t, k = Sum.inl i /\ v = Value.int i t) \/ (∃ x t, k = Sum.inr x /\ v = Value.str x t)
 | .inl i, v, h => by
  obtain ⟨t, e⟩ := Value.isInt_shape (k := i) (v := v) h
  exact .inl ⟨i, t, rfl, e⟩
 | .inr x, v, h => by
  obtain ⟨t, e⟩ := Value.isStrOf_shape (x := x) (v := v) h
  exact .inr ⟨x, t, rfl, e⟩
theorem y1i (i : Int) (t : Tok) : z8I (.inl i) (.int i t) = true := by simp [z8I, Value.isInt]
theorem y0X (x : Str) (t : Tok) : z8I (.inr x) (.str x t) = true := by simp [z8I, Value.isStrOf]
theorem y5f (a b : Int) : decide ((Sum.inl a : Key) = Sum.inl b) = (a == b) := by
 by_cases e : a = b
 ·subst e; simp
 ·have h : ¬ (Sum.inl a : Key) = Sum.inl b := fun q => e (Sum.inl.inj q)
  rw [decide_eq_false h]
  exact (beq_eq_false_iff_ne.mpr e).symm
theorem y5x (a b : Str) : decide ((Sum.inr a : Key) = Sum.inr b) = decide (a = b) := by
 by_cases e : a = b
 ·subst e; simp
 ·have h : ¬ (Sum.inr a : Key) = Sum.inr b := fun q => e (Sum.inr.inj q)
  rw [decide_eq_false h, decide_eq_false e]
theorem y5g (a : Int) (b : Str) : decide ((Sum.inl a : Key) = Sum.inr b) = false := decide_eq_false (fun q => nomatch q)
theorem y5o (a : Str) (b : Int) : decide ((Sum.inr a : Key) = Sum.inl b) = false := decide_eq_false (fun q => nomatch q)
def z1d (prog : Program) (w : World) : PySem.KeyKind prog w Key where
 is := z8I
 hash := keyH w
 inj := fun v a b ha hb => by
  rcases z0V ha with ⟨i, t, rfl, rfl⟩ | ⟨x, t, rfl, rfl⟩
  ·rcases z0V hb with ⟨j, u, rfl, e⟩ | ⟨y, u, rfl, e⟩
   ·injection e with e1 _; rw [e1]
   ·exact nomatch e
  ·rcases z0V hb with ⟨j, u, rfl, e⟩ | ⟨y, u, rfl, e⟩
   ·exact nomatch e
   ·injection e with e1 _; rw [e1]
 byValue := fun k v h => by
  rcases z0V h with ⟨i, t, rfl, rfl⟩ | ⟨x, t, rfl, rfl⟩ <;> rfl
 pyHash := fun hv h => by
  rcases z0V hv with ⟨i, t, rfl, rfl⟩ | ⟨x, t, rfl, rfl⟩
  ·exact wpAny_pyHash_int h
  ·exact wpAny_pyHash_str h
 eqBool := fun hu hv h => by
  rcases z0V hu with ⟨i, t, rfl, rfl⟩ | ⟨x, t, rfl, rfl⟩
  ·rcases z0V hv with ⟨j, u, rfl, rfl⟩ | ⟨y, u, rfl, rfl⟩
   ·rw [y5f] at h; exact wpAny_eqBool_int h
   ·rw [y5g] at h; exact SeqAt.EqAt.int_str i t y u _ _ _ _ h
  ·rcases z0V hv with ⟨j, u, rfl, rfl⟩ | ⟨y, u, rfl, rfl⟩
   ·rw [y5o] at h; exact SeqAt.EqAt.str_int x t j u _ _ _ _ h
   ·rw [y5x] at h; exact wpAny_eqBool_str h
 «strs» := fun k x t v h => by
  rcases z0V h with ⟨i, u, rfl, e⟩ | ⟨y, u, rfl, e⟩
  ·exact nomatch e
  ·injection e with e1 _
   subst e1
   cases v <;> rfl
theorem z99 (prog : Program) (w : World) (i : Int) (t : Tok) : (z1d prog w).is (.inl i) (.int i t) = true := y1i i t
theorem z96 (prog : Program) (w : World) (x : Str) (t : Tok) : (z1d prog w).is (.inr x) (.str x t) = true := y0X x t
inductive V where
 | non | bl (b : Bool) | int (i : Int) | str (x : Str) | byt (b : Array UInt8) | flt (b : UInt64) | ref (a : Addr) | ty (n : String)
 deriving DecidableEq
def RelV : V -> Value -> Prop
 | .non, u => u = Value.none
 | .bl b, u => u = Value.bool b
 | .int i, u => ∃ t, u = Value.int i t
 | .str x, u => ∃ t, u = Value.str x t
 | .byt b, u => ∃ t, u = Value.bytes b t
 | .flt b, u => ∃ t, u = Value.float b t
 | .ref a, u => u = Value.ref a
 | .ty n, u => u = Value.type n
abbrev Vals : List V -> List Value -> Prop := Paired RelV
theorem Vals.length {xs : List V} {us : List Value} (r : Vals xs us) : xs.length = us.length := Paired.length r
theorem Vals.get : ∀ {xs : List V} {us : List Value} {i : Nat} {x : V}, Vals xs us -> xs[i]? = some x -> ∃ u, us[i]? = some u /\ RelV x u
 | _, _, _, _, .nil, e => by simp at e
 | _, _, 0, _, .cons r _, e => by simp at e; subst e; exact ⟨_, rfl, r⟩
 | _, _, i + 1, x, .cons _ t, e => by
  obtain ⟨u, h1, h2⟩ := Vals.get (i := i) (x := x) t (by simpa using e)
  exact ⟨u, by simpa using h1, h2⟩
theorem Vals.set {x : V} {u : Value} (r : RelV x u) : ∀ {xs : List V} {us : List Value} (i : Nat), Vals xs us -> Vals (xs.set i x) (us.set i u)
 | _, _, _, .nil => .nil
 | _, _, 0, .cons _ t => .cons r t
 | _, _, i + 1, .cons q t => .cons q (Vals.set r i t)
theorem Vals.append : ∀ {xs ys : List V} {us ws : List Value}, Vals xs us -> Vals ys ws -> Vals (xs ++ ys) (us ++ ws)
 | _, _, _, _, .nil, s => s
 | _, _, _, _, .cons r t, s => .cons r (Vals.append t s)
theorem Vals.take : ∀ {xs : List V} {us : List Value} (n : Nat), Vals xs us -> Vals (xs.take n) (us.take n)
 | _, _, 0, _ => .nil
 | _, _, _ + 1, .nil => .nil
 | _, _, n + 1, .cons r t => .cons r (Vals.take n t)
theorem Vals.drop : ∀ {xs : List V} {us : List Value} (n : Nat), Vals xs us -> Vals (xs.drop n) (us.drop n)
 | _, _, 0, r => r
 | _, _, _ + 1, .nil => .nil
 | _, _, n + 1, .cons _ t => Vals.drop n t
def RelO : Option V -> Option Value -> Prop
 | some v, some u => RelV v u
 | none, none => True
 | _, _ => False
def KV {κ : Type} : List (κ × V) -> List (κ × Value) -> Prop := Paired fun (p : κ × V) (q : κ × Value) => p.1 = q.1 /\ RelV p.2 q.2
def kV : Key -> V
 | .inl i => .int i
 | .inr x => .str x
inductive HO where
 /-- a list -/
 | lst (xs : List V)
 /-- a tuple (never changes) -/
 | tup (xs : List V)
 /-- a dict whose keys are ints and texts; one whose keys are tuples of ints and texts (the empty one is both) -/
 | dK (kvs : List (Key × V)) | dT (kvs : List (List Key × V))
 /-- a set of ints: its members, its size -/
 | set (S : Int -> Bool) (n : Nat)
 /-- an instance of the class at C, its dict at dx, its attributes -/
 | ins (C dx : Addr) (fs : List (Str × V))
 /-- the dict of the instance at x -/
 | own (x : Addr)
 /-- the dict of an exception -/
 | xd (fs : List (Str × V))
 /-- a bound method, f of x -/
 | met (f x : Addr)
 /-- a range object lo, lo + 1, .. below hi -/
 | rng (lo hi : Int)
 /-- a thing that is known to the object (the script; a dict while a loop walks it): read, never written while it is so -/
 | frz (o : Obj) (u : HO)
 /-- a code object's table -/
 | tbl (ps : Array Value)
 /-- any other thing, by what is true of its one object (a def of one's own: SetO a S n := HO.ext fun h => ..) -/
 | ext (φ : Heap -> Prop)
abbrev Hp := Addr -> Option HO
def upd (H : Hp) (a : Addr) (o : HO) : Hp := fun b => if b = a then some o else H b
def PlT (h : Heap) (a : Addr) (items : Array Value) : Prop := ∃ o, h.get? a = some o /\ o.cls = .type "tuple" /\ (∃ n, o.data = .seq items n) /\ o.dict = none
theorem PlT.tup {h : Heap} {a : Addr} {items : Array Value} (p : PlT h a items) : IsTup h a items := let ⟨o, e, c, d, _⟩ := p; ⟨o, e, c, d⟩
theorem PlT.new (h : Heap) (items : Array Value) : PlT (h.push { cls := .type "tuple", data := .seq items }) h.objs.size items := ⟨_, Heap.get?_push_size _ rfl, rfl, ⟨_, rfl⟩, rfl⟩
theorem z02 {H : Hp} {a : Addr} {o : HO} : upd H a o a = some o := by unfold upd; rw [if_pos rfl]
theorem z09 {H : Hp} {a b : Addr} {o : HO} (h : b ≠ a) : upd H a o b = H b := by unfold upd; rw [if_neg h]
theorem z4h {H : Hp} {a : Addr} {o u : HO} : upd (upd H a o) a u = upd H a u := by
 funext b; unfold upd; split <;> rfl
theorem z4L {H : Hp} {a b : Addr} {o u : HO} (h : H a = some o) (h' : H b = some u) (d : o ≠ u) : a ≠ b := by
 intro e; subst e; rw [h] at h'; exact d (Option.some.inj h')
theorem z0i {H : Hp} {a b : Addr} {o : HO} (h : H a = some o) (h' : H b = none) : a ≠ b := by
 intro e; subst e; rw [h] at h'; cases h'
section
variable (P : Program) (w : World)
def z1a (H : Hp) (h : Heap) (a : Addr) : HO -> Prop
 | .lst xs => xs.length ≤ sizeLine /\ ∃ (its : List Value) (n : Nat), Vals xs its /\ h.get? a = some { cls := .type "list", data := .seq its.toArray n }
 | .tup xs => xs.length ≤ sizeLine /\ ∃ its : List Value, Vals xs its /\ PlT h a its.toArray
 | .dK kvs => kvs.length ≤ sizeLine /\ (a == sysModules) = false /\ ∃ vs, KV kvs vs /\ h.DictOf (z1d P w) a vs
 | .dT kvs => kvs.length ≤ sizeLine /\ (a == sysModules) = false /\ ∃ xs : List (List Key × Addr × Value),
   Paired (fun (p : List Key × V) (q : List Key × Addr × Value) => p.1 = q.1 /\ H q.2.1 = some (.tup (p.1.map kV)) /\ RelV p.2 q.2.2) kvs xs /\
   ∃ o es ep, h.get? a = some o /\ o.ExactDict /\ o.data = .dict es ep /\ es.toList = xs.map (entryOfKey (tupleKind (z1d P w))) /\ (xs.map (·.1)).Nodup
 | .set S n => h.SetOf (intKind P w) a S n
 | .ins C dx fs => H dx = some (.own a) /\ fs.length ≤ 1000 /\ dx ≠ a /\ h.get? a = some (PySem.W.instObj C dx) /\
   ∃ mA, h.Ns1 dx mA /\ (∀ f, RelO (fs.lookup f) (mA f)) /\ PySem.Within mA (fs.map (·.1))
 | .own _ => ∃ o, h.get? a = some o
 | .xd fs => ∃ mA, h.Ns1 a mA /\ ∀ f, RelO (fs.lookup f) (mA f)
 | .rng lo hi => ∃ t u v, h.get? a = some { cls := .type "range", data := .fields #[.int lo t, .int hi u, .int 1 v] }
 | .frz o u => h.get? a = some o /\ z1a H h a u
 | .tbl ps => h.get? a = some { cls := .none, data := .fields ps }
 | .met f x => h.get? a = some (PySem.W.methodObj (.ref f) (.ref x))
 | .ext φ => φ h /\ (∃ o, h.get? a = some o) /\ ∀ h1 h2 : Heap, φ h1 -> (∀ o, h1.get? a = some o -> h2.get? a = some o) -> φ h2
def HOk (H : Hp) (h : Heap) : Prop := ∀ a o, H a = some o -> z1a P w H h a o
end
section
variable {P : Program} {w : World} {H H' : Hp} {h h' : Heap} {a : Addr} {o : HO}
theorem z1a.lt (x : z1a P w H h a o) : a < h.objs.size := by
 cases o with
 | lst xs => obtain ⟨_, _, _, _, e⟩ := x; exact Heap.lt_size e
 | tup xs => obtain ⟨_, _, _, o, e, _⟩ := x; exact Heap.lt_size e
 | dK kvs => obtain ⟨_, _, _, _, o, _, _, e, _⟩ := x; exact Heap.lt_size e
 | dT kvs => obtain ⟨_, _, _, _, o, _, _, e, _⟩ := x; exact Heap.lt_size e
 | set S n => obtain ⟨o, _, _, _, e, _⟩ := x; exact Heap.lt_size e
 | ins C dx fs => obtain ⟨_, _, _, e, _⟩ := x; exact Heap.lt_size e
 | own y => obtain ⟨_, e⟩ := x; exact Heap.lt_size e
 | xd fs => obtain ⟨_, ⟨_, _, _, e, _⟩, _⟩ := x; exact Heap.lt_size e
 | rng lo hi => obtain ⟨_, _, _, e⟩ := x; exact Heap.lt_size e
 | frz ob u => obtain ⟨e, _⟩ := x; exact Heap.lt_size e
 | tbl ps => exact Heap.lt_size (show h.get? a = some _ from x)
 | met f y => exact Heap.lt_size (show h.get? a = some _ from x)
 | ext φ => obtain ⟨_, ⟨_, e⟩, _⟩ := x; exact Heap.lt_size e
theorem Paired.mapP {α β : Type} {F G : α -> β -> Prop} : ∀ {l₁ : List α} {l₂ : List β}, Paired F l₁ l₂ -> (∀ a b, F a b -> G a b) -> Paired G l₁ l₂
 | _, _, .nil, _ => .nil
 | _, _, .cons r t, f => .cons (f _ _ r) (Paired.mapP t f)
theorem z1a.stay (x : z1a P w H h a o) (k : ∀ b u, (b = a \/ H b = some (.own a)) -> h.get? b = some u -> h'.get? b = some u)
  (ho : ∀ b, H b = some (.own a) -> H' b = some (.own a)) (ht : ∀ b xs, H b = some (.tup xs) -> H' b = some (.tup xs)) : z1a P w H' h' a o := by
 induction o with
 | lst xs => obtain ⟨z, its, n, r, e⟩ := x; exact ⟨z, its, n, r, k _ _ (.inl rfl) e⟩
 | tup xs => obtain ⟨z, its, r, ob, e, c⟩ := x; exact ⟨z, its, r, ob, k _ _ (.inl rfl) e, c⟩
 | dK kvs => obtain ⟨z, y, vs, r, ob, es, ep, e, c⟩ := x; exact ⟨z, y, vs, r, ob, es, ep, k _ _ (.inl rfl) e, c⟩
 | dT kvs =>
  obtain ⟨z, y, xs, r, ob, es, ep, e, c⟩ := x
  exact ⟨z, y, xs, Paired.mapP r fun p q z => ⟨z.1, ht _ _ z.2.1, z.2.2⟩, ob, es, ep, k _ _ (.inl rfl) e, c⟩
 | set S n => obtain ⟨ob, es, ep, t, e, c⟩ := x; exact ⟨ob, es, ep, t, k _ _ (.inl rfl) e, c⟩
 | ins C dx fs =>
  obtain ⟨d, z, ne, e, mA, ⟨od, es, ep, e2, c⟩, r⟩ := x
  exact ⟨ho _ d, z, ne, k _ _ (.inl rfl) e, mA, ⟨od, es, ep, k _ _ (.inr d) e2, c⟩, r⟩
 | own y => obtain ⟨ob, e⟩ := x; exact ⟨ob, k _ _ (.inl rfl) e⟩
 | xd fs => obtain ⟨mA, ⟨od, es, ep, e, c⟩, r⟩ := x; exact ⟨mA, ⟨od, es, ep, k _ _ (.inl rfl) e, c⟩, r⟩
 | rng lo hi => obtain ⟨t, u, v, e⟩ := x; exact ⟨t, u, v, k _ _ (.inl rfl) e⟩
 | frz ob u ih => obtain ⟨e, q⟩ := x; exact ⟨k _ _ (.inl rfl) e, ih q⟩
 | tbl ps =>
  have e : h.get? a = some { cls := .none, data := .fields ps } := x
  show h'.get? a = some { cls := .none, data := .fields ps }
  exact k a _ (.inl rfl) e
 | met f y =>
  have e : h.get? a = some (PySem.W.methodObj (.ref f) (.ref y)) := x
  show h'.get? a = some (PySem.W.methodObj (.ref f) (.ref y))
  exact k a _ (.inl rfl) e
 | ext φ => obtain ⟨p, ⟨o, e⟩, st⟩ := x; exact ⟨st _ _ p fun o q => k _ _ (.inl rfl) q, ⟨o, k _ _ (.inl rfl) e⟩, st⟩
theorem HOk.lt (x : HOk P w H h) (e : H a = some o) : a < h.objs.size := (x a o e).lt
theorem HOk.fresh (x : HOk P w H h) (e : h.objs.size ≤ a) : H a = none := by
 cases q : H a with
 | none => rfl
 | some u => exact absurd (Nat.lt_of_lt_of_le (x.lt q) e) (Nat.lt_irrefl _)
theorem HOk.kept (x : HOk P w H h) (k : ∀ b u, h.get? b = some u -> h'.get? b = some u) : HOk P w H h' := fun a o e =>
 (x a o e).stay (fun b u _ q => k b u q) (fun _ q => q) fun _ _ q => q
theorem HOk.laid (x : HOk P w H h) (k : ∀ b u, h.get? b = some u -> h'.get? b = some u) (hp : h.objs.size ≤ a) (new : z1a P w (upd H a o) h' a o) : HOk P w (upd H a o) h' := fun b u e => by
 have hn := x.fresh hp
 by_cases hb : b = a
 ·subst hb; rw [z02] at e; cases e; exact new
 ·rw [z09 hb] at e
  exact (x b u e).stay (fun c v _ q => k c v q) (fun c q => by rw [z09 (z0i q hn)]; exact q) fun c xs q => by rw [z09 (z0i q hn)]; exact q
end
def Rd (H : Hp) (a : Addr) (u : HO) : Prop := H a = some u \/ ∃ o, H a = some (.frz o u)
theorem Rd.ok {P : Program} {w : World} {H : Hp} {h : Heap} {a : Addr} {u : HO} (r : Rd H a u) (x : HOk P w H h) : z1a P w H h a u := by
 rcases r with r | ⟨o, r⟩
 ·exact x a u r
 ·obtain ⟨_, q⟩ := x a _ r
  exact q
def Mut : Option HO -> Prop
 | some (.lst _) => True
 | some (.dK _) => True
 | some (.dT _) => True
 | some (.set _ _) => True
 | some (.ins _ _ _) => True
 | some (.ext _) => True
 | _ => False
section
variable {P : Program} {w : World} {H : Hp} {h h' : Heap} {x e : Addr} {o' : HO}
theorem HOk.write (ok : HOk P w H h) (mu : Mut (H x)) (he : e = x \/ H e = some (.own x)) (k : ∀ b u, b ≠ e -> h.get? b = some u -> h'.get? b = some u) (heo : ∃ u, h'.get? e = some u)
  (new : z1a P w (upd H x o') h' x o') : HOk P w (upd H x o') h' := fun b u q => by
 have nown : ∀ c y, H c = some (.own y) -> c ≠ x := fun c y r z => by subst z; rw [r] at mu; exact mu
 have ntup : ∀ c xs, H c = some (.tup xs) -> c ≠ x := fun c xs r z => by subst z; rw [r] at mu; exact mu
 by_cases hb : b = x
 ·subst hb; rw [z02] at q; cases q; exact new
 ·rw [z09 hb] at q
  by_cases hbe : b = e
  ·have q' : H b = some (.own x) := by
    rcases he with z | z
    ·exact absurd (hbe.trans z) hb
    ·rw [hbe]; exact z
   rw [q] at q'; cases q'
   obtain ⟨v, hv⟩ := heo
   exact ⟨v, by rw [hbe]; exact hv⟩
  ·refine (ok b u q).stay (fun c v hc r => k c v ?_ r) (fun c r => by rw [z09 (nown c b r)]; exact r) fun c xs r => by rw [z09 (ntup c xs r)]; exact r
   rcases hc with rfl | hc
   ·exact hbe
   ·rintro rfl
    rcases he with z | z
    ·exact nown c b hc z
    ·rw [hc] at z; cases z; exact hb rfl
end
structure Un (fs ex : List Addr) (H H' : Hp) (h h' : Heap) : Prop where
 keep : ∀ b o, h.get? b = some o -> H b = none -> b ∉ fs -> b ∉ ex -> h'.get? b = some o
 slot : ∀ b o, h.get? b = some o -> H b = none -> b ∈ fs -> b ∉ ex -> ∃ sl, h'.get? b = some { o with slots := sl }
 free : ∀ b o, h.get? b = some o -> H b = none -> b ∉ ex -> H' b = none
 there : ∀ b o, h.get? b = some o -> b ∉ ex -> ∃ o', h'.get? b = some o'
 tups : ∀ b xs, H b = some (.tup xs) -> H' b = some (.tup xs)
 frzs : ∀ b o u, H b = some (.frz o u) -> H' b = some (.frz o u)
 tbls : ∀ b ps, H b = some (.tbl ps) -> ∃ more, H' b = some (.tbl (ps ++ more))
section
variable {fs fs' ex ex' : List Addr} {H H1 H2 : Hp} {h h1 h2 h' : Heap} {a x e : Addr} {o : HO}
theorem Un.any (u : Un fs ex H H1 h h1) {b : Addr} {ob : Obj} (q : h.get? b = some ob) (n : H b = none) (hx : b ∉ ex) : ∃ sl, h1.get? b = some { ob with slots := sl } := by
 by_cases hb : b ∈ fs
 ·exact u.slot b ob q n hb hx
 ·exact ⟨ob.slots, u.keep b ob q n hb hx⟩
theorem Un.kept (k : ∀ b u, h.get? b = some u -> h'.get? b = some u) : Un fs ex H H h h' :=
 ⟨fun b ob q _ _ _ => k b ob q, fun b ob q _ _ _ => ⟨ob.slots, k b ob q⟩, fun _ _ _ n _ => n, fun b ob q _ => ⟨ob, k b ob q⟩, fun _ _ q => q, fun _ _ _ q => q, fun _ ps q => ⟨#[], by rw [q]; simp⟩⟩
theorem Un.refl : Un fs ex H H h h := Un.kept fun _ _ q => q
theorem Un.laid (k : ∀ b u, h.get? b = some u -> h'.get? b = some u) (hp : h.objs.size ≤ a) (hn : H a = none) : Un fs ex H (upd H a o) h h' where
 keep := fun b u q _ _ _ => k b u q
 slot := fun b u q _ _ _ => ⟨u.slots, k b u q⟩
 free := fun b u q n _ => by rw [z09 (Nat.ne_of_lt (Nat.lt_of_lt_of_le (Heap.lt_size q) hp))]; exact n
 there := fun b u q _ => ⟨u, k b u q⟩
 tups := fun b xs q => by rw [z09 (z0i q hn)]; exact q
 frzs := fun b u xs q => by rw [z09 (z0i q hn)]; exact q
 tbls := fun b ps q => ⟨#[], by rw [z09 (z0i q hn), q]; simp⟩
theorem Un.write (mu : Mut (H x)) (he : e = x \/ H e = some (.own x)) (k : ∀ b u, b ≠ e -> h.get? b = some u -> h'.get? b = some u) (heo : ∃ u, h'.get? e = some u) : Un fs ex H (upd H x o) h h' := by
 have hx : ∀ b, H b = none -> b ≠ x := fun b n z => by subst z; rw [n] at mu; exact mu
 have hb : ∀ b, H b = none -> b ≠ e := fun b n z => by
  subst z
  rcases he with r | r
  ·exact hx b n r
  ·rw [n] at r; cases r
 have hm : ∀ b u, H b = some u -> ¬ Mut (some u) -> b ≠ x := fun b u q nm z => by subst z; rw [q] at mu; exact nm mu
 refine ⟨fun b u q n _ _ => k b u (hb b n) q, fun b u q n _ _ => ⟨u.slots, k b u (hb b n) q⟩, fun b u q n _ => by rw [z09 (hx b n)]; exact n, fun b u q _ => ?_,
  fun b xs q => by rw [z09 (hm b _ q fun z => z)]; exact q, fun b u xs q => by rw [z09 (hm b _ q fun z => z)]; exact q, fun b ps q => ⟨#[], by rw [z09 (hm b _ q fun z => z), q]; simp⟩⟩
 by_cases hbe : b = e
 ·subst hbe; exact heo
 ·exact ⟨u, k b u hbe q⟩
end
def trk (h : Heap) (H : Hp) : List Addr := (List.range h.objs.size).filter fun a => (H a).isSome
def hidT (h : Heap) (H : Hp) : Heap := PySem.W.hideAll h (trk h H)
theorem y1A (h : Heap) (H : Hp) : (hidT h H).objs.size = h.objs.size := PySem.W.hideAll_size _ _
theorem y3b {h : Heap} {H : Hp} {b : Addr} {o : Obj} (e : h.get? b = some o) (n : H b = none) : (hidT h H).get? b = some o :=
 PySem.W.hideAll_get _ e fun hm => by
  have q : (H b).isSome = true := (List.mem_filter.mp hm).2
  rw [n] at q; simp at q
theorem y48 {h : Heap} {H : Hp} {b : Addr} {o : Obj} (e : (hidT h H).get? b = some o) : h.get? b = some o /\ H b = none := by
 have e' : h.get? b = some o := PySem.W.of_hideAll (trk h H) e
 refine ⟨e', ?_⟩
 cases q : H b with
 | none => rfl
 | some x =>
  have hm : b ∈ trk h H := List.mem_filter.mpr ⟨List.mem_range.mpr (Heap.lt_size e'), by simp [q]⟩
  have z : (hidT h H).get? b = none := PySem.W.hideAll_none (trk h H) hm
  rw [z] at e; cases e
def y4h (g h : Heap) (L : Addr) : List (Addr × Obj) := (List.range h.objs.size).filterMap fun a => if a = L \/ (g.get? a).isSome = true then none else (h.get? a).map fun o => (a, o)
def rest (g h : Heap) (L d : Addr) : List (Addr × Obj) := (y4h g h L).filter fun p => decide (p.1 ≠ d)
structure Mod (K : PySem.W.Frag) (mg : Str -> Option Value) (base : Heap) : Prop where
 kin : K.In base
 glob : base.Ns mainGlobals mg
 blt : ∃ mb, base.Ns builtinsNs mb /\ ∀ x : Str, x ≠ "__name__" -> mb x = bootBuiltins x
 nolimit : base.NoLimit
structure Cx where
 prog : Program
 w : World
 K : PySem.W.Frag
 mg : Str -> Option Value
 base : Heap
 A : Around
 N : List Str
 s₀ : Shared
 H₀ : Hp
 env : Env
 outer : List Env
 stack : List Env
 ex : List Addr
 fn : Str -> Bool
 calm : Bool
 pn : List (Addr × Obj)
 xe : Value -> Shared -> Prop
def frs (l : List Env) : List Addr := l.filterMap (·.frame)
abbrev Cx.fs (X : Cx) : List Addr := frs X.outer
def Vis (sc : Scope) (x : Str) : Prop := sc.names.lookup x = some .local \/ sc.names.lookup x = some .cell \/ sc.names.lookup x = some .free
def Loc (sc : Scope) (x : Str) : Prop := sc.names.lookup x = some .local \/ sc.names.lookup x = some .cell
def Look (env : Env) (h : Heap) (m : Str -> Option Value) (x : Str) (u : Value) : Prop :=
 (env.kindOf x = some .local /\ m x = some u) \/ ((env.kindOf x = some .cell \/ env.kindOf x = some .free) /\ ∃ c, env.cells.lookup x = some c /\ h.IsCell c (some u))
structure Cx.Ok (X : Cx) : Prop where
 mod : Mod X.K X.mg X.base
 kind : X.env.scope.kind = .function
 glob : X.env.globals = mainGlobals
 blt : X.env.builtins = builtinsNs
 above : X.s₀.heap.objs.size ≤ X.env.locals
 inj : ∀ x y c, X.env.cells.lookup x = some c -> X.env.cells.lookup y = some c -> x = y
 has : ∀ x, (X.env.kindOf x = some .cell \/ X.env.kindOf x = some .free) -> ∃ c, X.env.cells.lookup x = some c
 cab : ∀ x c, X.fn x = true -> X.env.cells.lookup x = some c -> X.s₀.heap.objs.size ≤ c
 hd : X.calm = true -> X.A.handled = none
 frames : X.A.frames = some X.stack
 stk : X.stack = X.outer \/ (X.stack = X.env :: X.outer /\ X.env.frame = some X.env.locals)
 exf : ∀ b ∈ X.ex, b ≠ X.env.locals /\ ∀ x c, X.env.cells.lookup x = some c -> c ≠ b
 bs : ∀ b o, X.base.get? b = some o -> X.s₀.heap.get? b = some o /\ X.H₀ b = none
 bsz : X.base.objs.size ≤ X.s₀.heap.objs.size
 noex : ∀ b o, X.base.get? b = some o -> b ∉ X.ex
 exfs : ∀ b ∈ X.ex, b ∉ X.fs
 funs : X.s₀.heap.FunFrames X.base X.outer
 frf : ∀ b ∈ X.fs, X.H₀ b = none
structure Inv (X : Cx) (pins : List (Addr × Obj)) (σ : List (Option V)) (H : Hp) (s : Shared) : Prop where
 ok : X.Ok
 os : s.os = X.s₀.os
 bare : AllBare s.gens
 base : Un X.fs X.ex X.H₀ H X.s₀.heap s.heap
 loc : ∃ m, s.heap.Ns X.env.locals m /\ ∀ (i : Nat) (x : Str) (v : V), X.N[i]? = some x -> σ[i]? = some (some v) -> Vis X.env.scope x -> ∃ u, RelV v u /\ Look X.env s.heap m x u
 cell : ∀ x c, X.env.cells.lookup x = some c -> ∃ v, s.heap.IsCell c v
 free : H X.env.locals = none
 freeC : ∀ x c, X.env.cells.lookup x = some c -> H c = none
 pin : ∀ p ∈ X.pn ++ pins, s.heap.get? p.1 = some p.2 /\ H p.1 = none /\ p.1 ≠ X.env.locals /\ p.1 ∉ X.fs /\ ∀ v, p.2.data ≠ .cell v
 hok : HOk X.prog X.w H s.heap
 len : σ.length = X.N.length
section
variable {X : Cx} {pins : List (Addr × Obj)} {σ : List (Option V)} {H H' : Hp} {s : Shared} {h' : Heap}
theorem Cx.Ok.nofr (ok : X.Ok) {b : Addr} {o : Obj} (e : X.base.get? b = some o) : b ∉ X.fs := fun hb => by
 have := (ok.funs.mem hb).1
 rw [e] at this; cases this
theorem Inv.bs (I : Inv X pins σ H s) : ∀ b o, X.base.get? b = some o -> s.heap.get? b = some o /\ H b = none := fun b o e =>
 ⟨I.base.keep b o (I.ok.bs b o e).1 (I.ok.bs b o e).2 (I.ok.nofr e) (I.ok.noex b o e), I.base.free b o (I.ok.bs b o e).1 (I.ok.bs b o e).2 (I.ok.noex b o e)⟩
theorem Inv.bk (I : Inv X pins σ H s) : ∀ b o, X.base.get? b = some o -> s.heap.get? b = some o := fun b o e => (I.bs b o e).1
theorem Inv.mod (I : Inv X pins σ H s) : Mod X.K X.mg X.base := I.ok.mod
theorem Inv.kIn (I : Inv X pins σ H s) : X.K.In s.heap := I.ok.mod.kin.keeps I.bk
theorem Inv.fr (I : Inv X pins σ H s) : ∃ m, Fr X.base X.env.locals s.heap m :=
 let ⟨m, hn, _⟩ := I.loc
 ⟨m, hn, I.bk, Nat.le_trans I.ok.bsz I.ok.above⟩
theorem Inv.lt (I : Inv X pins σ H s) : X.env.locals < s.heap.objs.size := let ⟨_, hn, _⟩ := I.loc; hn.lt
theorem Inv.sz (I : Inv X pins σ H s) : X.s₀.heap.objs.size ≤ s.heap.objs.size := Nat.le_trans I.ok.above (Nat.le_of_lt I.lt)
theorem Inv.nofs (I : Inv X pins σ H s) {a : Addr} (h : s.heap.objs.size ≤ a) : a ∉ X.fs := fun hb => by
 obtain ⟨_, o, ho, _⟩ := I.ok.funs.mem hb
 exact absurd (Nat.lt_of_lt_of_le (Heap.lt_size ho) (Nat.le_trans I.sz h)) (Nat.lt_irrefl _)
theorem Inv.cne (I : Inv X pins σ H s) : ∀ x c, X.env.cells.lookup x = some c -> c ≠ X.env.locals := fun x c e z => by
 obtain ⟨v, o, ho, hd⟩ := I.cell x c e
 obtain ⟨m, ⟨o', es, ep, ho', hd', _⟩, _⟩ := I.loc
 rw [z, ho'] at ho; cases ho; rw [hd'] at hd; cases hd
theorem Inv.funs (I : Inv X pins σ H s) : s.heap.FunFrames X.base X.outer := by
 have all : ∀ (l : List Env), (∀ b ∈ frs l, b ∈ X.fs) -> X.s₀.heap.FunFrames X.base l -> s.heap.FunFrames X.base l := by
  intro l
  induction l with
  | nil => intro _ _; trivial
  | cons env r ih =>
   intro hs hl
   obtain ⟨hk, ⟨L, o, hf, hn, ho, hd⟩, hr⟩ := hl
   have hL : L ∈ X.fs := hs L (by unfold frs; rw [List.filterMap_cons, hf]; exact List.mem_cons_self)
   obtain ⟨sl, e⟩ := I.base.slot L o ho (I.ok.frf L hL) hL fun z => I.ok.exfs L z hL
   exact ⟨hk, ⟨L, _, hf, hn, e, hd⟩, ih (fun b hb => hs b (by unfold frs; rw [List.filterMap_cons, hf]; exact List.mem_cons_of_mem _ hb)) hr⟩
 exact all X.outer (fun _ hb => hb) I.ok.funs
theorem Inv.stack (I : Inv X pins σ H s) : s.heap.FunFrames X.base X.stack := by
 rcases I.ok.stk with e | ⟨e, hf⟩
 ·rw [e]; exact I.funs
 ·rw [e]
  obtain ⟨m, hn, _⟩ := I.loc
  refine .cons (by rw [I.ok.kind]; decide) hf hn ?_ I.funs
  exact Heap.get?_none_of_le (Nat.le_trans I.ok.bsz I.ok.above)
theorem Inv.stkSub (I : Inv X pins σ H s) : ∀ b ∈ frs X.stack, b ∈ X.env.locals :: X.fs := fun b hb => by
 rcases I.ok.stk with e | ⟨e, hf⟩
 ·rw [e] at hb; exact List.mem_cons_of_mem _ hb
 ·rw [e] at hb
  unfold frs at hb
  rw [List.filterMap_cons, hf] at hb
  exact hb
theorem Inv.stkFree (I : Inv X pins σ H s) : ∀ b ∈ frs X.stack, H b = none := fun b hb => by
 rcases List.mem_cons.mp (I.stkSub b hb) with e | hb
 ·rw [e]; exact I.free
 ·obtain ⟨_, o, ho, _⟩ := I.ok.funs.mem hb
  exact I.base.free b o ho (I.ok.frf b hb) fun z => I.ok.exfs b z hb
theorem Inv.step {g' : Array GenState} {t' : Nat} {d' : Drawn} {ch : List Addr} (I : Inv X pins σ H s)
  (hch : ∀ b ∈ ch, (b ∈ X.ex \/ X.s₀.heap.objs.size ≤ b) /\ b ≠ X.env.locals /\ (∀ x c, X.env.cells.lookup x = some c -> c ≠ b) /\ ∀ p ∈ X.pn ++ pins, p.1 ≠ b)
  (keep : ∀ b o, b ≠ X.env.locals -> b ∉ X.fs -> b ∉ ch -> s.heap.get? b = some o -> H b = none -> h'.get? b = some o)
  (slot : ∀ b o, b ≠ X.env.locals -> b ∈ X.fs -> b ∉ ch -> s.heap.get? b = some o -> H b = none -> ∃ sl, h'.get? b = some { o with slots := sl }) (free : ∀ b o, b ∉ ch -> s.heap.get? b = some o -> H b = none -> H' b = none)
  (there : ∀ b o, b ∉ ch -> s.heap.get? b = some o -> ∃ o', h'.get? b = some o')
  (tups : ∀ b xs, H b = some (.tup xs) -> H' b = some (.tup xs)) (frzs : ∀ b o u, H b = some (.frz o u) -> H' b = some (.frz o u)) (tbls : ∀ b ps, H b = some (.tbl ps) -> ∃ more, H' b = some (.tbl (ps ++ more)))
  (ns : ∀ m, s.heap.Ns X.env.locals m -> h'.Ns X.env.locals m) (hok : HOk X.prog X.w H' h') (hg : AllBare g') :
  Inv X pins σ H' { s with heap := h', gens := g', drawn := d', toks := t' } := by
 have neL : ∀ b o, X.s₀.heap.get? b = some o -> b ≠ X.env.locals := fun b o e => Nat.ne_of_lt (Nat.lt_of_lt_of_le (Heap.lt_size e) I.ok.above)
 have neC : ∀ b o, X.s₀.heap.get? b = some o -> b ∉ X.ex -> b ∉ ch := fun b o e hx hb => by
  rcases (hch b hb).1 with z | z
  ·exact hx z
  ·exact absurd (Nat.lt_of_lt_of_le (Heap.lt_size e) z) (Nat.lt_irrefl _)
 have cellK : ∀ x c, X.env.cells.lookup x = some c -> ∀ v, s.heap.IsCell c v -> h'.IsCell c v := fun x c e v ⟨o, ho, hd⟩ => by
  have nch : c ∉ ch := fun z => (hch c z).2.2.1 x c e rfl
  by_cases hc : c ∈ X.fs
  ·obtain ⟨sl, q⟩ := slot c o (I.cne x c e) hc nch ho (I.freeC x c e)
   exact ⟨_, q, hd⟩
  ·exact ⟨o, keep c o (I.cne x c e) hc nch ho (I.freeC x c e), hd⟩
 refine ⟨I.ok, I.os, hg, ⟨fun b o e n hb hx => ?_, fun b o e n hb hx => ?_, fun b o e n hx => ?_, fun b o e hx => ?_, fun b xs e => tups b xs (I.base.tups b xs e), fun b o xs e => frzs b o xs (I.base.frzs b o xs e), fun b ps e => ?_⟩, ?_, fun x c e => ?_, ?_, fun x c e => ?_, fun p hp => ?_, hok, I.len⟩
 ·exact keep b o (neL b o e) hb (neC b o e hx) (I.base.keep b o e n hb hx) (I.base.free b o e n hx)
 ·obtain ⟨sl, e1⟩ := I.base.slot b o e n hb hx
  obtain ⟨sl', e2⟩ := slot b _ (neL b o e) hb (neC b o e hx) e1 (I.base.free b o e n hx)
  exact ⟨sl', e2⟩
 ·obtain ⟨o', e1⟩ := I.base.there b o e hx
  exact free b o' (neC b o e hx) e1 (I.base.free b o e n hx)
 ·obtain ⟨o', e1⟩ := I.base.there b o e hx
  exact there b o' (neC b o e hx) e1
 ·obtain ⟨m1, e1⟩ := I.base.tbls b ps e
  obtain ⟨m2, e2⟩ := tbls b _ e1
  exact ⟨m1 ++ m2, by rw [e2, Array.append_assoc]⟩
 ·obtain ⟨m, hn, hl⟩ := I.loc
  refine ⟨m, ns m hn, fun i x v e1 e2 e3 => ?_⟩
  obtain ⟨u, r, l⟩ := hl i x v e1 e2 e3
  refine ⟨u, r, ?_⟩
  rcases l with l | ⟨k, c, e, z⟩
  ·exact .inl l
  ·exact .inr ⟨k, c, e, cellK x c e _ z⟩
 ·obtain ⟨v, z⟩ := I.cell x c e
  exact ⟨v, cellK x c e v z⟩
 ·obtain ⟨m, ⟨o, _, _, ho, _⟩, _⟩ := I.loc
  exact free _ o (fun z => (hch _ z).2.1 rfl) ho I.free
 ·obtain ⟨v, o, ho, hd⟩ := I.cell x c e
  exact free c o (fun z => (hch c z).2.2.1 x c e rfl) ho (I.freeC x c e)
 ·obtain ⟨e, n, ne, nf, d⟩ := I.pin p hp
  have nch : p.1 ∉ ch := fun z => (hch p.1 z).2.2.2 p hp rfl
  exact ⟨keep p.1 p.2 ne nf nch e n, free p.1 p.2 nch e n, ne, nf, d⟩
theorem Inv.un {t' : Nat} (I : Inv X pins σ H s) (u : Un X.fs [] H H' s.heap h') (hok : HOk X.prog X.w H' h') : Inv X pins σ H' { s with heap := h', toks := t' } := by
 obtain ⟨m, ⟨o, es, ep, ho, r⟩, _⟩ := id I.loc
 obtain ⟨sl, hL⟩ := u.any ho I.free (by simp)
 exact I.step (g' := s.gens) (d' := s.drawn) (ch := []) (fun _ z => nomatch z) (fun b o _ hb _ e n => u.keep b o e n hb (by simp)) (fun b o _ hb _ e n => u.slot b o e n hb (by simp)) (fun b o _ e n => u.free b o e n (by simp)) (fun b o _ e => u.there b o e (by simp)) u.tups u.frzs u.tbls (fun m' hm => by
  obtain ⟨o', es', ep', ho', r'⟩ := hm
  rw [ho] at ho'; cases ho'
  exact ⟨_, es', ep', hL, r'⟩) hok I.bare
theorem Inv.call {g' : Array GenState} {t' : Nat} {d' : Drawn} {ch : List Addr} (I : Inv X pins σ H s) (u : Un (frs X.stack) ch H H' s.heap h') (hok : HOk X.prog X.w H' h') (hg : AllBare g')
  (hch : ∀ b ∈ ch, (b ∈ X.ex \/ X.s₀.heap.objs.size ≤ b) /\ b ≠ X.env.locals /\ (∀ x c, X.env.cells.lookup x = some c -> c ≠ b) /\ ∀ p ∈ X.pn ++ pins, p.1 ≠ b) :
  Inv X pins σ H' { s with heap := h', gens := g', drawn := d', toks := t' } := by
 obtain ⟨m, ⟨o, es, ep, ho, r⟩, _⟩ := id I.loc
 obtain ⟨sl, hL⟩ := u.any ho I.free fun z => (hch _ z).2.1 rfl
 exact I.step (ch := ch) hch (fun b o hL hb hc e n => u.keep b o e n (fun z => (List.mem_cons.mp (I.stkSub b z)).elim hL hb) hc) (fun b o _ _ hc e n => u.any e n hc) (fun b o hc e n => u.free b o e n hc) (fun b o hc e => u.there b o e hc) u.tups u.frzs u.tbls (fun m' hm => by
  obtain ⟨o', es', ep', ho', r'⟩ := hm
  rw [ho] at ho'; cases ho'
  exact ⟨_, es', ep', hL, r'⟩) hok hg
theorem Inv.turned {t' : Nat} {it : Addr} (I : Inv X pins σ H s) (k : ∀ b o, b ≠ it -> s.heap.get? b = some o -> h'.get? b = some o) (hn : H it = none) (hL : it ≠ X.env.locals)
  (h1 : it ∈ X.ex \/ X.s₀.heap.objs.size ≤ it) (h2 : ∀ x c, X.env.cells.lookup x = some c -> c ≠ it) (h3 : ∀ p ∈ X.pn ++ pins, p.1 ≠ it) : Inv X pins σ H { s with heap := h', toks := t' } := by
 have nit : ∀ b u, H b = some u -> b ≠ it := fun b u e z => by rw [z, hn] at e; cases e
 refine I.step (g' := s.gens) (d' := s.drawn) (ch := [it]) (fun b hb => ?_) (fun b o _ _ hc e _ => k b o (fun z => hc (by simp [z])) e) (fun b o _ _ hc e _ => ⟨o.slots, k b o (fun z => hc (by simp [z])) e⟩) (fun _ _ _ _ n => n)
  (fun b o hc e => ⟨o, k b o (fun z => hc (by simp [z])) e⟩) (fun _ _ e => e) (fun _ _ _ e => e) (fun b ps e => ⟨#[], by rw [e]; simp⟩) (fun m hm => ?_) (fun b u e => ?_) I.bare
 ·have e : b = it := by simpa using hb
  subst e
  exact ⟨h1, hL, h2, h3⟩
 ·obtain ⟨o, es, ep, ho, r⟩ := hm
  exact ⟨o, es, ep, k _ o (Ne.symm hL) ho, r⟩
 ·refine (I.hok b u e).stay (fun c v hc q => k c v ?_ q) (fun _ q => q) fun _ _ q => q
  rcases hc with z | z
  ·rw [z]; exact nit b u e
  ·exact nit c _ z
theorem Inv.tok (I : Inv X pins σ H s) (t : Nat) : Inv X pins σ H { s with toks := t } := I.un (h' := s.heap) (t' := t) Un.refl I.hok
theorem Inv.kept {t' : Nat} (I : Inv X pins σ H s) (k : ∀ b u, s.heap.get? b = some u -> h'.get? b = some u) : Inv X pins σ H { s with heap := h', toks := t' } := I.un (Un.kept k) (I.hok.kept k)
theorem Inv.laid {a : Addr} {o : HO} {t' : Nat} (I : Inv X pins σ H s) (k : ∀ b u, s.heap.get? b = some u -> h'.get? b = some u) (hp : s.heap.objs.size ≤ a) (new : z1a X.prog X.w (upd H a o) h' a o) :
  Inv X pins σ (upd H a o) { s with heap := h', toks := t' } := I.un (Un.laid k hp (I.hok.fresh hp)) (I.hok.laid k hp new)
theorem Inv.write {x e : Addr} {o : HO} {t' : Nat} (I : Inv X pins σ H s) (mu : Mut (H x)) (he : e = x \/ H e = some (.own x)) (k : ∀ b u, b ≠ e -> s.heap.get? b = some u -> h'.get? b = some u) (heo : ∃ u, h'.get? e = some u)
  (new : z1a X.prog X.w (upd H x o) h' x o) : Inv X pins σ (upd H x o) { s with heap := h', toks := t' } := I.un (Un.write mu he k heo) (I.hok.write mu he k heo new)
theorem Inv.weak {σ' : List (Option V)} (I : Inv X pins σ H s) (hl : σ'.length = σ.length) (w : ∀ (i : Nat) v, σ'[i]? = some (some v) -> σ[i]? = some (some v)) : Inv X pins σ' H s :=
 ⟨I.ok, I.os, I.bare, I.base, let ⟨m, hn, hl'⟩ := I.loc; ⟨m, hn, fun i x v e1 e2 e3 => hl' i x v e1 (w i v e2) e3⟩, I.cell, I.free, I.freeC, I.pin, I.hok, hl.trans I.len⟩
theorem Inv.pins_of {pins' : List (Addr × Obj)} (I : Inv X pins σ H s) (h : ∀ p ∈ pins', s.heap.get? p.1 = some p.2 /\ H p.1 = none /\ p.1 ≠ X.env.locals /\ p.1 ∉ X.fs /\ ∀ v, p.2.data ≠ .cell v) : Inv X pins' σ H s :=
 ⟨I.ok, I.os, I.bare, I.base, I.loc, I.cell, I.free, I.freeC, fun p hp => (List.mem_append.mp hp).elim (fun z => I.pin p (List.mem_append_left _ z)) (h p), I.hok, I.len⟩
theorem z9Q {N : List Str} (hN : N.Nodup) {i j : Nat} {x : Str} (a : N[i]? = some x) (b : N[j]? = some x) : i = j := by
 obtain ⟨h1, e1⟩ := List.getElem?_eq_some_iff.mp a
 obtain ⟨h2, e2⟩ := List.getElem?_eq_some_iff.mp b
 exact (List.getElem_inj hN).mp (e1.trans e2.symm)
theorem y1c {M : Model} {A : Around} {E : Value -> Shared -> Prop} {i : Nat} {x : Str} {v : V} {u : Value} {Q : Unit -> Shared -> Prop} (I : Inv X pins σ H s) (hN : X.N.Nodup) (hi : X.N[i]? = some x) (hx : Loc X.env.scope x) (r : RelV v u)
  (h : ∀ s', Inv X pins (σ.set i (some v)) H s' -> (∃ a, Heap.SameBut a s.heap s'.heap /\ (a = X.env.locals \/ X.env.cells.lookup x = some a)) -> Q () s') (hf : X.fn x = true \/ X.env.scope.names.lookup x = some .local := by first | exact .inl rfl | exact .inr rfl | assumption) : wpAny M A (storeName X.env x u) Q E s := by
 obtain ⟨m, hn, hl⟩ := id I.loc
 have hcls : (X.env.scope.kind == .class || (X.env.scope.kind == .module && X.env.locals != X.env.globals)) = false := by rw [I.ok.kind]; rfl
 have hiσ : i < σ.length := by rw [I.len]; exact (List.getElem?_eq_some_iff.mp hi).1
 have cne := I.cne
 have tracked : ∀ {a : Addr} {h' : Heap}, (∃ o, s.heap.get? a = some o /\ H a = none) -> Heap.SameBut a s.heap h' -> HOk X.prog X.w H h' := fun {a h'} ha hs b ob e => by
  obtain ⟨_, _, hfree⟩ := ha
  refine (I.hok b ob e).stay (fun c w' hc q => (hs.2 c ?_).trans q) (fun _ q => q) fun _ _ q => q
  rintro rfl
  rcases hc with rfl | hc
  ·rw [hfree] at e; cases e
  ·rw [hfree] at hc; cases hc
 rcases hx with hk | hk
 ·refine wpAny_storeName_local hk hn (fun h' hn' hs => ?_) hcls
  obtain ⟨oL, _, _, hoL, _⟩ := id hn
  refine h _ ⟨I.ok, I.os, I.bare, ⟨fun b o e n hb hx => ?_, fun b o e n hb hx => ?_, I.base.free, fun b o e hx => ?_, I.base.tups, I.base.frzs, I.base.tbls⟩, ⟨_, hn', fun j y v' e1 e2 e3 => ?_⟩, fun y c e => ?_, I.free, I.freeC, fun p hp => ?_, tracked ⟨oL, hoL, I.free⟩ hs, by simpa using I.len⟩ ⟨_, hs, .inl rfl⟩
  ·exact (hs.2 b (Nat.ne_of_lt (Nat.lt_of_lt_of_le (Heap.lt_size e) I.ok.above))).trans (I.base.keep b o e n hb hx)
  ·obtain ⟨sl, e1⟩ := I.base.slot b o e n hb hx
   exact ⟨sl, (hs.2 b (Nat.ne_of_lt (Nat.lt_of_lt_of_le (Heap.lt_size e) I.ok.above))).trans e1⟩
  ·obtain ⟨o', e1⟩ := I.base.there b o e hx
   exact ⟨o', (hs.2 b (Nat.ne_of_lt (Nat.lt_of_lt_of_le (Heap.lt_size e) I.ok.above))).trans e1⟩
  ·by_cases hj : j = i
   ·subst hj
    rw [hi] at e1; cases e1
    rw [List.getElem?_set_self hiσ] at e2
    cases e2
    exact ⟨u, r, .inl ⟨hk, by simp⟩⟩
   ·rw [List.getElem?_set_ne (Ne.symm hj)] at e2
    obtain ⟨u', r', q⟩ := hl j y v' e1 e2 e3
    refine ⟨u', r', ?_⟩
    rcases q with ⟨k, e⟩ | ⟨k, c, e, z⟩
    ·refine .inl ⟨k, ?_⟩
     have : y ≠ x := fun e => hj (z9Q hN e1 (e ▸ hi))
     simp [this, e]
    ·exact .inr ⟨k, c, e, z.sameBut hs (cne y c e)⟩
  ·obtain ⟨w', z⟩ := I.cell y c e
   exact ⟨w', z.sameBut hs (cne y c e)⟩
  ·obtain ⟨e, n, ne, nf, d⟩ := I.pin p hp
   exact ⟨(hs.2 p.1 ne).trans e, n, ne, nf, d⟩
 ·have hfn : X.fn x = true := by
   rcases hf with z | z
   ·exact z
   ·rw [z] at hk; cases hk
  obtain ⟨c, hc⟩ := I.ok.has x (.inl hk)
  obtain ⟨w', z⟩ := I.cell x c hc
  refine wpAny_storeName_cell I.ok.kind hk hc z (fun h' hc' hs => ?_)
  obtain ⟨oc, hoc, hocd⟩ := id z
  refine h { s with heap := h' } ⟨I.ok, I.os, I.bare, ⟨fun b o e n hb hx => ?_, fun b o e n hb hx => ?_, I.base.free, fun b o e hx => ?_, I.base.tups, I.base.frzs, I.base.tbls⟩, ⟨m, hn.sameBut hs (Ne.symm (cne x c hc)), fun j y v' e1 e2 e3 => ?_⟩, fun y c' e => ?_, I.free, I.freeC, fun p hp => ?_, tracked ⟨oc, hoc, I.freeC x c hc⟩ hs, by simpa using I.len⟩ ⟨c, hs, .inr hc⟩
  ·exact (hs.2 b (Nat.ne_of_lt (Nat.lt_of_lt_of_le (Heap.lt_size e) (I.ok.cab x c hfn hc)))).trans (I.base.keep b o e n hb hx)
  ·obtain ⟨sl, e1⟩ := I.base.slot b o e n hb hx
   exact ⟨sl, (hs.2 b (Nat.ne_of_lt (Nat.lt_of_lt_of_le (Heap.lt_size e) (I.ok.cab x c hfn hc)))).trans e1⟩
  ·obtain ⟨o', e1⟩ := I.base.there b o e hx
   exact ⟨o', (hs.2 b (Nat.ne_of_lt (Nat.lt_of_lt_of_le (Heap.lt_size e) (I.ok.cab x c hfn hc)))).trans e1⟩
  ·by_cases hj : j = i
   ·subst hj
    rw [hi] at e1; cases e1
    rw [List.getElem?_set_self hiσ] at e2
    cases e2
    exact ⟨u, r, .inr ⟨.inl hk, c, hc, hc'⟩⟩
   ·rw [List.getElem?_set_ne (Ne.symm hj)] at e2
    obtain ⟨u', r', q⟩ := hl j y v' e1 e2 e3
    refine ⟨u', r', ?_⟩
    rcases q with q | ⟨k, c', e, z'⟩
    ·exact .inl q
    ·refine .inr ⟨k, c', e, z'.sameBut hs ?_⟩
     rintro rfl
     exact hj (z9Q hN e1 (I.ok.inj _ _ _ e hc ▸ hi))
  ·by_cases hcc : c' = c
   ·subst hcc; exact ⟨_, hc'⟩
   ·obtain ⟨w2, z2⟩ := I.cell y c' e
    exact ⟨w2, z2.sameBut hs hcc⟩
  ·obtain ⟨e, n, ne, nf, d⟩ := I.pin p hp
   refine ⟨(hs.2 p.1 ?_).trans e, n, ne, nf, d⟩
   intro q
   rw [q, hoc] at e
   have q' : oc = p.2 := Option.some.inj e
   exact d w' (by rw [<- q']; exact hocd)
theorem z9t {M : Model} {A : Around} {E : Value -> Shared -> Prop} {i : Nat} {x : Str} {v : V} {u : Value} {Q : Unit -> Shared -> Prop} (I : Inv X pins σ H s) (hN : X.N.Nodup) (hi : X.N[i]? = some x) (hx : Loc X.env.scope x) (r : RelV v u)
  (h : ∀ s', Inv X pins (σ.set i (some v)) H s' -> Q () s') (hf : X.fn x = true \/ X.env.scope.names.lookup x = some .local := by first | exact .inl rfl | exact .inr rfl | assumption) : wpAny M A (storeName X.env x u) Q E s :=
 y1c I hN hi hx r (fun s' I' _ => h s' I') hf
theorem Inv.call' {s' : Shared} {ch : List Addr} (I : Inv X pins σ H s) (ho : s'.os = s.os) (u : Un (frs X.stack) ch H H' s.heap s'.heap) (hok : HOk X.prog X.w H' s'.heap) (hg : AllBare s'.gens)
  (hch : ∀ b ∈ ch, (b ∈ X.ex \/ X.s₀.heap.objs.size ≤ b) /\ b ≠ X.env.locals /\ (∀ x c, X.env.cells.lookup x = some c -> c ≠ b) /\ ∀ p ∈ X.pn ++ pins, p.1 ≠ b) : Inv X pins σ H' s' := by
 obtain ⟨h', g', d', t', o'⟩ := s'
 have e : o' = s.os := ho
 subst e
 exact I.call (g' := g') (t' := t') (d' := d') u hok hg hch
end
abbrev XK := Value -> Option Addr -> Hp -> Prop
abbrev St := List (Option V)
abbrev VK := V -> Hp -> Prop
abbrev TE := St -> Hp -> VK -> Prop
abbrev TT := St -> Hp -> (Bool -> Hp -> Prop) -> Prop
abbrev TA := St -> Hp -> (List V -> Hp -> Prop) -> Prop
structure Ends where
 nx : St -> Hp -> Prop
 rt : VK
 bk : St -> Hp -> Prop := fun _ _ => False
 ct : St -> Hp -> Prop := fun _ _ => False
abbrev TS := Ends -> St -> Hp -> Prop
def EP (X : Cx) (pins : List (Addr × Obj)) (σ : St) (Q : VK) (u : Value) (s' : Shared) : Prop := ∃ v H', Inv X pins σ H' s' /\ RelV v u /\ Q v H'
def TP (X : Cx) (pins : List (Addr × Obj)) (σ : St) (Q : Bool -> Hp -> Prop) (b : Bool) (s' : Shared) : Prop := ∃ H', Inv X pins σ H' s' /\ Q b H'
def AP (X : Cx) (pins : List (Addr × Obj)) (σ : St) (Q : List V -> Hp -> Prop) (us : List Value) (s' : Shared) : Prop := ∃ vs H', Inv X pins σ H' s' /\ Vals vs us /\ Q vs H'
def SP (X : Cx) (pins : List (Addr × Obj)) (D : Ends) (f : Flow) (s' : Shared) : Prop :=
 match f with
 | .next => ∃ σ' H', Inv X pins σ' H' s' /\ D.nx σ' H'
 | .brk => ∃ σ' H', Inv X pins σ' H' s' /\ D.bk σ' H'
 | .cont => ∃ σ' H', Inv X pins σ' H' s' /\ D.ct σ' H'
 | .ret u => ∃ v σ' H', Inv X pins σ' H' s' /\ RelV v u /\ D.rt v H'
def PE (X : Cx) (e : Expr) (t : TE) : Prop :=
 ∀ (pins : List (Addr × Obj)) (s : Shared) (σ : St) (H : Hp) (Q : VK), Inv X pins σ H s -> t σ H Q -> wpAny (model X.prog X.w) X.A (eval e X.env) (EP X pins σ Q) X.xe s
def PT (X : Cx) (e : Expr) (t : TT) : Prop :=
 ∀ (pins : List (Addr × Obj)) (s : Shared) (σ : St) (H : Hp) (Q : Bool -> Hp -> Prop), Inv X pins σ H s -> t σ H Q -> wpAny (model X.prog X.w) X.A (isTrue e X.env (eval e X.env)) (TP X pins σ Q) X.xe s
def PW (X : Cx) (e : Expr) (t : TT) : Prop :=
 ∀ (whole : Sem Value) (pins : List (Addr × Obj)) (s : Shared) (σ : St) (H : Hp) (Q : Bool -> Hp -> Prop), Inv X pins σ H s -> t σ H Q -> wpAny (model X.prog X.w) X.A (isTrue e X.env whole) (TP X pins σ Q) X.xe s
theorem PW.pt {X : Cx} {e : Expr} {t : TT} (h : PW X e t) : PT X e t := h _
def PA (X : Cx) (es : List Expr) (t : TA) : Prop :=
 ∀ (pos : Pos) (pins : List (Addr × Obj)) (s : Shared) (σ : St) (H : Hp) (Q : List V -> Hp -> Prop), Inv X pins σ H s -> t σ H Q -> wpAny (model X.prog X.w) X.A (spliced (backTo pos (starEach es X.env))) (AP X pins σ Q) X.xe s
def PS (X : Cx) (st : Stmt) (t : TS) : Prop :=
 ∀ (pins : List (Addr × Obj)) (s : Shared) (σ : St) (H : Hp) (D : Ends), Inv X pins σ H s -> t D σ H -> wpAny (model X.prog X.w) X.A (exec st X.env) (SP X pins D) X.xe s
def PSs (X : Cx) (st : List Stmt) (t : TS) : Prop :=
 ∀ (pins : List (Addr × Obj)) (s : Shared) (σ : St) (H : Hp) (D : Ends), Inv X pins σ H s -> t D σ H -> wpAny (model X.prog X.w) X.A (execs st X.env) (SP X pins D) X.xe s
theorem thn {α : Type} {t : Sem α} {Q Q' : α -> Shared -> Prop} {M : Model} {A : Around} {E : Value -> Shared -> Prop} {s : Shared} (h : wpAny M A t Q E s) (hQ : ∀ a s, Q a s -> Q' a s) : wpAny M A t Q' E s := wpAny_mono h hQ fun _ _ x => x
section
variable {X : Cx}
def tVar (i : Nat) : TE := fun σ H Q => ∃ v, σ[i]? = some (some v) /\ Q v H
def tC (v : V) : TE := fun _ H Q => Q v H
theorem y56 {i : Nat} {x : Str} {pos : Pos} (hN : X.N[i]? = some x) (hv : Vis X.env.scope x) (hd : (x == ("__debug__" : Str)) = false := by decide) (hcd : (x == ("__classdict__" : Str)) = false := by decide) : PE X (.Name x pos) (tVar i) := by
 intro pins s σ H Q I h
 obtain ⟨v, e, h⟩ := h
 obtain ⟨m, hn, hl⟩ := I.loc
 obtain ⟨u, r, l⟩ := hl i x v hN e hv
 have fin : EP X pins σ Q u s := ⟨v, H, I, r, h⟩
 rcases l with ⟨hk, hm⟩ | ⟨hk, c, hc, hcell⟩
 ·exact wpAny_Name (wpAny_loadName_local I.ok.kind hk hn hm fin) hd
 ·rcases hk with hk | hk
  ·exact wpAny_Name (wpAny_loadName_cell I.ok.kind hk hc hcell fin) hd
  ·exact wpAny_Name (wpAny_loadName_free I.ok.kind hk hc hcell fin hcd) hd
theorem z07 {i j pos} : PE X (.Constant (.int i) j pos) (tC (.int i)) := fun _ _ _ H _ I h => wpAny_Constant_int ⟨.int i, H, I.tok _, ⟨_, rfl⟩, h⟩
theorem z4f {b j pos} : PE X (.Constant (.bool b) j pos) (tC (.bl b)) := fun _ _ _ H _ I h => Constant_bool ⟨.bl b, H, I, rfl, h⟩
theorem y2h {j pos} : PE X (.Constant .none j pos) (tC .non) := fun _ _ _ H _ I h => Constant_none ⟨.non, H, I, rfl, h⟩
theorem z80 {x j pos} : PE X (.Constant (.str x) j pos) (tC (.str x)) := fun _ _ _ H _ I h => Calls.Constant_str ⟨.str x, H, I.tok _, ⟨_, rfl⟩, h⟩
def Gl (X : Cx) (x : Str) : Prop := X.env.kindOf x = some .globalImplicit
theorem z8Q {E : Value -> Shared -> Prop} {pins : List (Addr × Obj)} {s : Shared} {σ : St} {H : Hp} {x : Str} {u : Value} {pos : Pos} {Q : Value -> Shared -> Prop} (I : Inv X pins σ H s) (hg : Gl X x) (hm : X.mg x = some u) (h : Q u s)
  (hd : (x == ("__debug__" : Str)) = false := by decide) : wpAny (model X.prog X.w) X.A (eval (.Name x pos) X.env) Q E s :=
 Calls.Name_function_global I.ok.kind hg (Calls.loadGlobal_global (by rw [I.ok.glob]; exact I.mod.glob.keeps I.bk) hm h) hd
theorem z4U {E : Value -> Shared -> Prop} {pins : List (Addr × Obj)} {s : Shared} {σ : St} {H : Hp} {x : Str} {u : Value} {pos : Pos} {Q : Value -> Shared -> Prop} (I : Inv X pins σ H s) (hg : Gl X x) (hm : X.mg x = none) (hv : bootBuiltins x = some u) (h : Q u s)
  (hn : x ≠ "__name__" := by decide) (hd : (x == ("__debug__" : Str)) = false := by decide) : wpAny (model X.prog X.w) X.A (eval (.Name x pos) X.env) Q E s := by
 obtain ⟨mb, h1, h2⟩ := I.mod.blt
 exact Calls.Name_function_global I.ok.kind hg (Calls.loadGlobal_builtin (by rw [I.ok.glob]; exact I.mod.glob.keeps I.bk) hm (by rw [I.ok.blt]; exact h1.keeps I.bk) ((h2 x hn).trans hv) h) hd
theorem y0H {x : Str} {v : V} {u : Value} {pos : Pos} (hg : Gl X x) (hm : X.mg x = some u) (r : RelV v u) (hd : (x == ("__debug__" : Str)) = false := by decide) : PE X (.Name x pos) (tC v) :=
 fun _ _ _ H _ I h => z8Q I hg hm ⟨v, H, I, r, h⟩ hd
theorem z5n {x : Str} {v : V} {u : Value} {pos : Pos} (hg : Gl X x) (hm : X.mg x = none) (hv : bootBuiltins x = some u) (r : RelV v u) (hn : x ≠ "__name__" := by decide) (hd : (x == ("__debug__" : Str)) = false := by decide) : PE X (.Name x pos) (tC v) :=
 fun _ _ _ H _ I h => z4U I hg hm hv ⟨v, H, I, r, h⟩ hn hd
variable {a b : Expr} {ta tb : TE} {pos : Pos}
def PC (X : Cx) (op : CmpOp) (a b : Expr) (t : TE) : Prop :=
 ∀ (pins : List (Addr × Obj)) (s : Shared) (σ : St) (H : Hp) (Q : VK), Inv X pins σ H s -> t σ H Q ->
  wpAny (model X.prog X.w) X.A (eval a X.env) (fun v s₁ => wpAny (model X.prog X.w) X.A (eval b X.env) (fun u s₂ => wpAny (model X.prog X.w) X.A (compareOp op v u) (EP X pins σ Q) X.xe s₂) X.xe s₁) X.xe s
theorem y32 (b : Expr) {op : CmpOp} (h : op ≠ .In) (h2 : op ≠ .NotIn) : behindInMarks op b = false := by
 have e1 : (op == CmpOp.In) = false := by cases op <;> first | rfl | exact absurd rfl h
 have e2 : (op == CmpOp.NotIn) = false := by cases op <;> first | rfl | exact absurd rfl h2
 cases b <;> simp [behindInMarks, e1, e2]
def tIsN (ta : TE) : TE := fun σ H Q => ta σ H fun x H1 => Q (.bl (decide (x = .non))) H1
def tNotN (ta : TE) : TE := fun σ H Q => ta σ H fun x H1 => Q (.bl (!decide (x = .non))) H1
theorem RelV.none_iff {x : V} {v : Value} (r : RelV x v) : (v == Value.none) = decide (x = .non) := by
 cases x with
 | non => cases r; rfl
 | bl _ => cases r; rfl
 | int _ => obtain ⟨t, rfl⟩ := r; rfl
 | str _ => obtain ⟨t, rfl⟩ := r; rfl
 | byt _ => obtain ⟨t, rfl⟩ := r; rfl
 | flt _ => obtain ⟨t, rfl⟩ := r; rfl
 | ref _ => cases r; rfl
 | ty _ => cases r; rfl
theorem y27 {j pos'} (ha : PE X a ta) : PC X .Is a (.Constant .none j pos') (tIsN ta) := by
 intro pins s σ H Q I h
 refine thn (ha pins s σ H _ I h) fun v s1 hz => ?_
 obtain ⟨x, H1, I1, r1, q1⟩ := hz
 exact Constant_none (is_none_gen ⟨.bl _, H1, I1, by rw [r1.none_iff]; rfl, q1⟩)
theorem y4E {j pos'} (ha : PE X a ta) : PC X .IsNot a (.Constant .none j pos') (tNotN ta) := by
 intro pins s σ H Q I h
 refine thn (ha pins s σ H _ I h) fun v s1 hz => ?_
 obtain ⟨x, H1, I1, r1, q1⟩ := hz
 exact Constant_none (isnot_none_gen ⟨.bl _, H1, I1, by rw [r1.none_iff]; rfl, q1⟩)
def tB (t : TE) : TT := fun σ H Q => t σ H fun x H1 => ∃ c, x = .bl c /\ Q c H1
theorem z7c {op : CmpOp} {t : TE} (h : PC X op a b t) (h1 : behindInMarks op b = false := by first | exact y32 _ (by decide) (by decide) | rfl) : PT X (.Compare a [op] [b] pos) (tB t) := by
 intro pins s σ H Q I hw
 refine wpAny_isTrue_Compare1 (thn (h pins s σ H _ I hw) fun v s1 h1 => thn h1 fun u s2 h2 => thn h2 fun c s3 hz => ?_) h1
 obtain ⟨x, H1, I1, r1, q1⟩ := hz
 obtain ⟨d, rfl, q⟩ := q1
 cases r1
 exact wpAny_truthy_bool ⟨H1, I1, q⟩
theorem z3W {e : Expr} {t : TE} (h : PE X e t) (he : ∀ whole, isTrue e X.env whole = (do let v <- whole; standAt e.pos; holding [v] (truthy v)) := by intro _; rfl) : PT X e (tB t) := by
 intro pins s σ H Q I hw
 refine isTrue_plain (thn (h pins s σ H _ I hw) fun v s1 hz => ?_) (he _)
 obtain ⟨x, H1, I1, r1, q1⟩ := hz
 obtain ⟨d, rfl, q⟩ := q1
 cases r1
 exact wpAny_truthy_bool ⟨H1, I1, q⟩
variable {tA tB' : TT} {rest : List Expr}
def tAnd (t u : TT) : TT := fun σ H Q => t σ H fun c H1 => if c = true then u σ H1 Q else Q false H1
def tOr (t u : TT) : TT := fun σ H Q => t σ H fun c H1 => if c = true then Q true H1 else u σ H1 Q
def tNot (t : TT) : TT := fun σ H Q => t σ H fun c H1 => Q (!c) H1
theorem z6i (ha : PT X a tA) : PW X (.BoolOp .And [a] pos) tA := by
 intro wh pins s σ H Q I h
 refine isTrue_and (thn (ha pins s σ H Q I h) fun c s1 e => ?_)
 cases c with
 | true => exact isTrue_and_nil e
 | false => exact e
theorem z2t (ha : PT X a tA) : PW X (.BoolOp .Or [a] pos) tA := by
 intro wh pins s σ H Q I h
 refine isTrue_or (thn (ha pins s σ H Q I h) fun c s1 e => ?_)
 cases c with
 | false => exact isTrue_or_nil e
 | true => exact e
theorem z8o (ha : PT X a tA) (hb : PW X (.BoolOp .And (b :: rest) pos) tB') : PW X (.BoolOp .And (a :: b :: rest) pos) (tAnd tA tB') := by
 intro wh pins s σ H Q I h
 refine isTrue_and (thn (ha pins s σ H _ I h) fun c s1 hz => ?_)
 obtain ⟨H1, I1, q1⟩ := hz
 cases c with
 | true => exact hb wh pins s1 σ H1 Q I1 q1
 | false => exact ⟨H1, I1, q1⟩
theorem z4W (ha : PT X a tA) (hb : PW X (.BoolOp .Or (b :: rest) pos) tB') : PW X (.BoolOp .Or (a :: b :: rest) pos) (tOr tA tB') := by
 intro wh pins s σ H Q I h
 refine isTrue_or (thn (ha pins s σ H _ I h) fun c s1 hz => ?_)
 obtain ⟨H1, I1, q1⟩ := hz
 cases c with
 | true => exact ⟨H1, I1, q1⟩
 | false => exact hb wh pins s1 σ H1 Q I1 q1
theorem z6Z (ha : PT X a tA) : PT X (.UnaryOp .Not a pos) (tNot tA) := by
 intro pins s σ H Q I h
 exact isTrue_not (ha pins s σ H (fun c H1 => Q (!c) H1) I h)
def tAndV (ta tb : TE) : TE := fun σ H Q => ta σ H fun x H1 => ∃ c, x = .bl c /\ if c = true then tb σ H1 Q else Q (.bl false) H1
def tNotV (ta : TE) : TE := fun σ H Q => ta σ H fun x H1 => ∃ c, x = .bl c /\ Q (.bl (!c)) H1
theorem y3Q {op} {t : TE} (h : PE X a t) : PE X (.BoolOp op [a] pos) t := fun pins s σ H Q I hw => BoolOp_one (h pins s σ H Q I hw)
theorem y3m (ha : PE X a ta) (hb : PE X (.BoolOp .And (b :: rest) pos) tb) : PE X (.BoolOp .And (a :: b :: rest) pos) (tAndV ta tb) := by
 intro pins s σ H Q I h
 refine BoolOp_and (thn (ha pins s σ H _ I h) fun v s1 hz => ?_)
 obtain ⟨x, H1, I1, r1, q1⟩ := hz
 obtain ⟨c, rfl, q1⟩ := q1
 cases r1
 refine wpAny_truthy_bool ?_
 cases c with
 | true => exact hb pins s1 σ H1 Q I1 q1
 | false => exact ⟨.bl false, H1, I1, rfl, q1⟩
theorem y3y (ha : PE X a ta) : PE X (.UnaryOp .Not a pos) (tNotV ta) := by
 intro pins s σ H Q I h
 refine UnaryOp_ (thn (ha pins s σ H _ I h) fun v s1 hz => ?_)
 obtain ⟨x, H1, I1, r1, q1⟩ := hz
 obtain ⟨c, rfl, q1⟩ := q1
 cases r1
 exact not_of (wpAny_truthy_bool ⟨.bl (!c), H1, I1, rfl, q1⟩)
def tIf (t : TT) (ta tb : TE) : TE := fun σ H Q => t σ H fun c H1 => if c = true then ta σ H1 Q else tb σ H1 Q
theorem z61 {c : Expr} (hc : PT X c tA) (ha : PE X a ta) (hb : PE X b tb) : PE X (.IfExp c a b pos) (tIf tA ta tb) := by
 intro pins s σ H Q I h
 refine wpAny_IfExp (thn (hc pins s σ H _ I h) fun d s1 hz => ?_)
 obtain ⟨H1, I1, q1⟩ := hz
 cases d with
 | true => exact ha pins s1 σ H1 Q I1 q1
 | false => exact hb pins s1 σ H1 Q I1 q1
end
def SqL (K : PySem.W.Frag) (H : Hp) (a : Addr) (xs : List V) : Prop :=
 Rd H a (.lst xs) \/
  ∃ (o : Obj) (its : Array Value) (n : Nat), K.lookup a = some o /\ o.cls = .type "list" /\ o.dict = none /\ o.data = .seq its n /\ its.size ≤ sizeLine /\ Vals xs its.toList
def SqT (K : PySem.W.Frag) (H : Hp) (a : Addr) (xs : List V) : Prop :=
 Rd H a (.tup xs) \/
  ∃ (o : Obj) (its : Array Value) (n : Nat), K.lookup a = some o /\ o.cls = .type "tuple" /\ o.data = .seq its n /\ its.size ≤ sizeLine /\ Vals xs its.toList
def absV : Value -> Option V
 | .none => some .non
 | .bool b => some (.bl b)
 | .int i _ => some (.int i)
 | .str x _ => some (.str x)
 | .bytes b _ => some (.byt b)
 | .float b _ => some (.flt b)
 | .ref a => some (.ref a)
 | .type n => some (.ty n)
 | _ => none
theorem RelV.abs {x : V} {u : Value} (r : RelV x u) : absV u = some x := by
 cases x with
 | non => cases r; rfl
 | bl _ => cases r; rfl
 | int _ => obtain ⟨t, rfl⟩ := r; rfl
 | str _ => obtain ⟨t, rfl⟩ := r; rfl
 | byt _ => obtain ⟨t, rfl⟩ := r; rfl
 | flt _ => obtain ⟨t, rfl⟩ := r; rfl
 | ref _ => cases r; rfl
 | ty _ => cases r; rfl
theorem RelV.inj {x y : V} {u : Value} (r : RelV x u) (q : RelV y u) : x = y := Option.some.inj (r.abs.symm.trans q.abs)
theorem Vals.inj : ∀ {xs ys : List V} {us : List Value}, Vals xs us -> Vals ys us -> xs = ys
 | _, _, _, .nil, .nil => rfl
 | _, _, _, .cons r t, .cons r' t' => by rw [r.inj r', Vals.inj t t']
section
variable {X : Cx} {pins : List (Addr × Obj)} {σ : St} {H : Hp} {s : Shared} {a : Addr} {xs ys : List V}
theorem SqL.of {K : PySem.W.Frag} (h : H a = some (.lst xs)) : SqL K H a xs := .inl (.inl h)
theorem SqT.of {K : PySem.W.Frag} (h : H a = some (.tup xs)) : SqT K H a xs := .inl (.inl h)
theorem Inv.list (I : Inv X pins σ H s) (h : SqL X.K H a xs) : ∃ its : List Value, Vals xs its /\ PlainL s.heap a its.toArray /\ xs.length ≤ sizeLine := by
 rcases h with h | ⟨o, its, n, hk, hc, hd, hs, hz, r⟩
 ·obtain ⟨z, its, n, r, e⟩ := h.ok I.hok
  exact ⟨its, r, ⟨_, n, e, rfl, rfl, rfl⟩, z⟩
 ·refine ⟨its.toList, r, ⟨o, n, I.kIn a o hk, hc, hd, by simpa using hs⟩, ?_⟩
  have e := r.length
  simp only [Array.length_toList] at e
  omega
theorem Inv.tuple (I : Inv X pins σ H s) (h : SqT X.K H a xs) : ∃ its : List Value, Vals xs its /\ IsTup s.heap a its.toArray /\ xs.length ≤ sizeLine := by
 rcases h with h | ⟨o, its, n, hk, hc, hs, hz, r⟩
 ·obtain ⟨z, its, r, p⟩ := h.ok I.hok
  exact ⟨its, r, PlT.tup p, z⟩
 ·refine ⟨its.toList, r, ⟨o, I.kIn a o hk, hc, n, by simpa using hs⟩, ?_⟩
  have e := r.length
  simp only [Array.length_toList] at e
  omega
theorem Inv.list_inj (I : Inv X pins σ H s) (h : SqL X.K H a xs) (h' : SqL X.K H a ys) : xs = ys := by
 obtain ⟨its, r, ⟨o, n, e, _, _, d⟩, _⟩ := I.list h
 obtain ⟨its', r', ⟨o', n', e', _, _, d'⟩, _⟩ := I.list h'
 rw [e] at e'; cases e'
 rw [d] at d'
 injection d' with d1 _
 have : its = its' := by simpa using congrArg Array.toList d1
 subst this
 exact r.inj r'
theorem Inv.tuple_inj (I : Inv X pins σ H s) (h : SqT X.K H a xs) (h' : SqT X.K H a ys) : xs = ys := by
 obtain ⟨its, r, ⟨o, e, _, n, d⟩, _⟩ := I.tuple h
 obtain ⟨its', r', ⟨o', e', _, n', d'⟩, _⟩ := I.tuple h'
 rw [e] at e'; cases e'
 rw [d] at d'
 injection d' with d1 _
 have : its = its' := by simpa using congrArg Array.toList d1
 subst this
 exact r.inj r'
end
abbrev Cx.wish (X : Cx) (E : Value -> Shared -> Prop) : Cx := { X with xe := E }
abbrev Cx.nox (X : Cx) : Cx := X.wish fun _ _ => False
theorem Cx.Ok.wish {X : Cx} (ok : X.Ok) (E : Value -> Shared -> Prop) : (X.wish E).Ok :=
 ⟨ok.mod, ok.kind, ok.glob, ok.blt, ok.above, ok.inj, ok.has, ok.cab, ok.hd, ok.frames, ok.stk, ok.exf, ok.bs, ok.bsz, ok.noex, ok.exfs, ok.funs, ok.frf⟩
theorem Cx.Ok.unwish {X : Cx} {E : Value -> Shared -> Prop} (ok : (X.wish E).Ok) : X.Ok :=
 ⟨ok.mod, ok.kind, ok.glob, ok.blt, ok.above, ok.inj, ok.has, ok.cab, ok.hd, ok.frames, ok.stk, ok.exf, ok.bs, ok.bsz, ok.noex, ok.exfs, ok.funs, ok.frf⟩
section
variable {X : Cx} {pins : List (Addr × Obj)} {σ : St} {H : Hp} {s : Shared} {E : Value -> Shared -> Prop}
theorem Inv.wish (I : Inv X pins σ H s) (E : Value -> Shared -> Prop) : Inv (X.wish E) pins σ H s := ⟨I.ok.wish E, I.os, I.bare, I.base, I.loc, I.cell, I.free, I.freeC, I.pin, I.hok, I.len⟩
theorem Inv.unwish (I : Inv (X.wish E) pins σ H s) : Inv X pins σ H s := ⟨I.ok.unwish, I.os, I.bare, I.base, I.loc, I.cell, I.free, I.freeC, I.pin, I.hok, I.len⟩
theorem SP.unwish {D : Ends} {f : Flow} {s' : Shared} (h : SP (X.wish E) pins D f s') : SP X pins D f s' := by
 cases f with
 | next => obtain ⟨σ', H', I, q⟩ := h; exact ⟨σ', H', I.unwish, q⟩
 | brk => obtain ⟨σ', H', I, q⟩ := h; exact ⟨σ', H', I.unwish, q⟩
 | cont => obtain ⟨σ', H', I, q⟩ := h; exact ⟨σ', H', I.unwish, q⟩
 | ret u => obtain ⟨v, σ', H', I, r, q⟩ := h; exact ⟨v, σ', H', I.unwish, r, q⟩
theorem PSs.nox {st : List Stmt} {t : TS} (h : PSs X.nox st t) : PSs X st t := fun pins s σ H D I hw =>
 wpAny_mono (h pins s σ H D (I.wish _) hw) (fun _ _ q => q.unwish) fun _ _ z => False.elim z
end
section
variable {X : Cx} {st : Stmt} {rest : List Stmt} {t u : TS} {e : Expr} {te : TE} {pos : Pos}
def tNext : TS := fun D σ H => D.nx σ H
def tSeq (t u : TS) : TS := fun D σ H => t { D with nx := u D } σ H
theorem z0r : PSs X [] tNext := fun _ _ σ H _ I h => wpAny_execs_nil ⟨σ, H, I, h⟩
theorem z03 (h1 : PS X st t) (h2 : PSs X rest u) : PSs X (st :: rest) (tSeq t u) := by
 intro pins s σ H D I h
 refine wpAny_execs_cons (thn (h1 pins s σ H { D with nx := u D } I h) fun f s1 q => ?_)
 cases f with
 | next =>
  obtain ⟨σ', H', I', q⟩ := q
  exact h2 pins s1 σ' H' D I' q
 | ret v => exact q
 | brk => exact q
 | cont => exact q
theorem z05 (h1 : PS X st t) : PSs X [st] t := by
 intro pins s σ H D I h
 refine wpAny_execs_cons (thn (h1 pins s σ H D I h) fun f s1 q => ?_)
 cases f with
 | next => exact wpAny_execs_nil q
 | ret v => exact q
 | brk => exact q
 | cont => exact q
theorem Inv.quiet {pins : List (Addr × Obj)} {σ : St} {H : Hp} {s : Shared} (I : Inv X pins σ H s) : interactive X.env = false := by simp [interactive, I.ok.kind]
def tDrop (te : TE) : TS := fun D σ H => te σ H fun _ H1 => D.nx σ H1
theorem z0y (he : PE X e te) (hs : swapsWith e none pos.line X.env = pure false := by rfl) : PS X (.Expr e pos) (tDrop te) := by
 intro pins s σ H D I h
 exact wpAny_Expr_any (thn (he pins s σ H _ I h) fun v s1 ⟨x, H1, I1, r1, q1⟩ => ⟨σ, H1, I1, q1⟩) I.quiet hs
def tRet (te : TE) : TS := fun D σ H => te σ H D.rt
theorem z0k (he : PE X e te) : PS X (.Return (some e) pos) (tRet te) := by
 intro pins s σ H D I h
 exact wpAny_Return_some (thn (he pins s σ H _ I h) fun v s1 ⟨x, H1, I1, r1, q1⟩ => ⟨x, σ, H1, I1, r1, q1⟩)
def tIfS (c : TT) (t u : TS) : TS := fun D σ H => c σ H fun b H1 => if b = true then t D σ H1 else u D σ H1
theorem z0P {c : Expr} {a b : List Stmt} {tc : TT} (hc : PT X c tc) (ha : PSs X a t) (hb : PSs X b u) : PS X (.If c a b pos) (tIfS tc t u) := by
 intro pins s σ H D I h
 refine wpAny_If (thn (hc pins s σ H _ I h) fun d s1 hz => ?_)
 obtain ⟨H1, I1, q1⟩ := hz
 cases d with
 | true => exact ha pins s1 σ H1 D I1 q1
 | false => exact hb pins s1 σ H1 D I1 q1
def y5a : TS := fun _ _ _ => False
theorem z1h : PS X st y5a := fun _ _ _ _ _ _ h => h.elim
end
abbrev TG := V -> St -> Hp -> (St -> Hp -> Prop) -> Prop
abbrev TGs := List V -> St -> Hp -> (St -> Hp -> Prop) -> Prop
def PG (X : Cx) (target : Expr) (t : TG) : Prop :=
 ∀ (pins : List (Addr × Obj)) (s : Shared) (σ : St) (H : Hp) (v : V) (u : Value) (Q : St -> Hp -> Prop), Inv X pins σ H s -> RelV v u -> t v σ H Q ->
  wpAny (model X.prog X.w) X.A (assign target X.env u) (fun _ s' => ∃ σ' H', Inv X pins σ' H' s' /\ Q σ' H') X.xe s
def PGs (X : Cx) (ts : List Expr) (t : TGs) : Prop :=
 ∀ (pins : List (Addr × Obj)) (s : Shared) (σ : St) (H : Hp) (vs : List V) (us : List Value) (Q : St -> Hp -> Prop), Inv X pins σ H s -> Vals vs us -> t vs σ H Q ->
  wpAny (model X.prog X.w) X.A (assignInOrder ((assignEach ts X.env).map (·.2)) us) (fun _ s' => ∃ σ' H', Inv X pins σ' H' s' /\ Q σ' H') X.xe s
abbrev TSet := V -> V -> V -> Hp -> (Hp -> Prop) -> Prop
def PSet (X : Cx) (t : TSet) : Prop :=
 ∀ (pins : List (Addr × Obj)) (s : Shared) (σ : St) (H : Hp) (o i v : V) (ov iv u : Value) (Q : Hp -> Prop), Inv X pins σ H s -> RelV o ov -> RelV i iv -> RelV v u -> t o i v H Q ->
  wpAny (model X.prog X.w) X.A (setItem ov iv u) (fun _ s' => ∃ H', Inv X pins σ H' s' /\ Q H') X.xe s
section
variable {X : Cx} {pos : Pos}
def y0m (i : Nat) : TG := fun v σ H Q => Q (σ.set i (some v)) H
theorem z0j {i : Nat} {x : Str} (hN : X.N.Nodup) (hi : X.N[i]? = some x) (hx : Loc X.env.scope x) (hf : X.fn x = true \/ X.env.scope.names.lookup x = some .local := by first | exact .inl rfl | exact .inr rfl | assumption) : PG X (.Name x pos) (y0m i) := by
 intro pins s σ H v u Q I r h
 exact wpAny_assign_Name (z9t I hN hi hx r (fun s' I' => ⟨_, H, I', h⟩) hf)
def gNil : TGs := fun vs σ H Q => vs = [] /\ Q σ H
def y3U (t : TG) (u : TGs) : TGs := fun vs σ H Q => ∃ v r, vs = v :: r /\ t v σ H fun σ' H' => u r σ' H' Q
theorem z4a : PGs X [] gNil := by
 intro pins s σ H vs us Q I r h
 obtain ⟨e, h⟩ := h
 subst e
 cases r
 exact assignInOrder_nil ⟨σ, H, I, h⟩
theorem z14 {e : Expr} {es : List Expr} {t : TG} {u : TGs} (h1 : PG X e t) (h2 : PGs X es u)
  (hs : (assignEach (e :: es) X.env).map (·.2) = assign e X.env :: (assignEach es X.env).map (·.2) := by rfl) : PGs X (e :: es) (y3U t u) := by
 intro pins s σ H vs us Q I r h
 obtain ⟨v, vr, e1, h⟩ := h
 subst e1
 cases r with
 | cons r rr =>
  rw [hs]
  refine assignInOrder_cons (thn (h1 pins s σ H _ _ _ I r h) fun _ s1 hz => ?_)
  obtain ⟨σ1, H1, I1, q1⟩ := hz
  exact h2 pins s1 σ1 H1 _ _ Q I1 rr q1
def gTup (K : PySem.W.Frag) (n : Nat) (t : TGs) : TG := fun v σ H Q => ∃ a xs, v = .ref a /\ SqT K H a xs /\ xs.length = n /\ t xs σ H Q
theorem y3J {es : List Expr} {k : Nat} {t : TGs} {n : Nat} (hc : X.calm = true) (h : PGs X es t)
  (hn : (assignEach es X.env).length = n := by rfl) (hst : (assignEach es X.env).findIdx? (·.1) = none := by rfl) : PG X (.Tuple es k pos) (gTup X.K n t) := by
 intro pins s σ H v u Q I r hw
 obtain ⟨a, xs, e1, hq, hl, hw⟩ := hw
 subst e1
 cases r
 obtain ⟨its, rv, ht, hz⟩ := I.tuple hq
 refine assign_Tuple_tuple (I.ok.hd hc) ht (by simp [hn, <- hl, rv.length]) hst fun h' hx => ?_
 have I1 : Inv X pins σ H { s with heap := h' } := I.kept (t' := s.toks) fun b o e => hx b o (Nat.ne_of_lt (Heap.lt_size e)) e
 exact h pins _ σ H xs _ Q I1 (by simpa using rv) hw
def gSub (to ti : TE) (t : TSet) : TG := fun v σ H Q => to σ H fun o H1 => ti σ H1 fun i H2 => t o i v H2 fun H3 => Q σ H3
theorem y3o {o i : Expr} {to ti : TE} {t : TSet} (ho : PE X o to) (hi : PE X i ti) (hs : PSet X t)
  (ha : ∀ v, assign (.Subscript o i pos) X.env v = (do
   let ov <- holding [v] (eval o X.env)
   let iv <- holding [v, ov] (eval i X.env)
   standAt pos
   holding [v, ov, iv] (setItem ov iv v)
   release [v, ov, iv] []) := by intro _; rfl) : PG X (.Subscript o i pos) (gSub to ti t) := by
 intro pins s σ H v u Q I r h
 rw [ha]
 refine wpAny_bind (wpAny_holding (thn (ho pins s σ H _ I h) fun ov s1 hz => ?_))
 obtain ⟨x, H1, I1, r1, q1⟩ := hz
 refine wpAny_bind (wpAny_holding (thn (hi pins s1 σ H1 _ I1 q1) fun iv s2 hz => ?_))
 obtain ⟨y, H2, I2, r2, q2⟩ := hz
 refine wpAny_bind (wpAny_standAt (wpAny_bind (wpAny_holding (thn (hs pins s2 σ H2 x y v ov iv u _ I2 r1 r2 r q2) fun _ s3 hz => ?_))))
 obtain ⟨H3, I3, q3⟩ := hz
 exact wpAny_release ⟨σ, H3, I3, q3⟩
def tAsg (te : TE) (g : TG) : TS := fun D σ H => te σ H fun x H1 => g x σ H1 D.nx
theorem y3I {tg e : Expr} {te : TE} {g : TG} (he : PE X e te) (hg : PG X tg g) (hs : swapsWithSole [tg] e pos.line X.env = pure false := by rfl) (hw : swappedStores [tg] e X.env = pure none := by rfl)
  (h1 : (assignEach [tg] X.env).map (·.2) = [assign tg X.env] := by rfl) : PS X (.Assign [tg] e pos) (tAsg te g) := by
 intro pins s σ H D I h
 refine wpAny_Assign_stores (thn (he pins s σ H _ I h) fun v s1 hz => ?_) hs hw
 obtain ⟨x, H1, I1, r1, q1⟩ := hz
 rw [h1]
 exact thn (hg pins s1 σ H1 x v _ I1 r1 q1) fun _ s2 q => q
theorem z0m {i : Nat} {x : Str} {e : Expr} {te : TE} {pos' : Pos} (hN : X.N.Nodup) (hi : X.N[i]? = some x) (hx : Loc X.env.scope x) (he : PE X e te) (hs : swapsWith e (some (.Name x pos')) pos.line X.env = pure false := by rfl) (hf : X.fn x = true \/ X.env.scope.names.lookup x = some .local := by first | exact .inl rfl | exact .inr rfl | assumption) :
  PS X (.Assign [.Name x pos'] e pos) (tAsg te (y0m i)) := by
 intro pins s σ H D I h
 refine wpAny_Assign_Name (thn (he pins s σ H _ I h) fun v s1 hz => ?_) hs
 obtain ⟨y, H1, I1, r1, q1⟩ := hz
 exact z9t I1 hN hi hx r1 (fun s2 I2 => ⟨_, H1, I2, q1⟩) hf
end
section
variable {X : Cx} {pos : Pos}
end
structure It where
 go : Nat -> Hp -> Prop
 yld : Nat -> Hp -> V -> Hp -> Prop
 stop : Nat -> Hp -> Prop
def FpOk (X : Cx) (pins : List (Addr × Obj)) (H : Hp) (b : Addr) : Prop :=
 H b = none /\ b ≠ X.env.locals /\ b ∉ X.fs /\ (b ∈ X.ex \/ X.s₀.heap.objs.size ≤ b) /\ (∀ x c, X.env.cells.lookup x = some c -> c ≠ b) /\ ∀ p ∈ X.pn ++ pins, p.1 ≠ b
theorem Inv.fpOk {X : Cx} {pins : List (Addr × Obj)} {σ : St} {H H' : Hp} {s : Shared} {b : Addr} (I : Inv X pins σ H s) (hb : s.heap.objs.size ≤ b) (hn : H' b = none) : FpOk X pins H' b := by
 refine ⟨hn, Nat.ne_of_gt (Nat.lt_of_lt_of_le I.lt hb), I.nofs hb, .inr (Nat.le_trans I.sz hb), fun x c e z => ?_, fun p hp z => ?_⟩
 ·obtain ⟨v, q⟩ := I.cell x c e
  exact absurd (Nat.lt_of_lt_of_le q.lt (by rw [z]; exact hb)) (Nat.lt_irrefl _)
 ·exact absurd (Nat.lt_of_lt_of_le (Heap.lt_size (I.pin p hp).1) (by rw [z]; exact hb)) (Nat.lt_irrefl _)
structure Turn (P : Program) (w : World) (K : PySem.W.Frag) (tg : Expr) (J : It) (fp : List Addr) (it : Addr) (tn : Nat -> Heap -> Prop) : Prop where
 mem : it ∈ fp
 obj : ∀ i h, tn i h -> ∀ b ∈ fp, ∃ o, h.get? b = some o /\ ∀ v, o.data ≠ .cell v
 keep : ∀ i h h', tn i h -> (∀ b ∈ fp, ∀ o, h.get? b = some o -> h'.get? b = some o) -> tn i h'
 item : ∀ (X : Cx), X.prog = P -> X.w = w -> X.K = K -> X.calm = true -> ∀ (i : Nat) (pins : List (Addr × Obj)) (s : Shared) (σ : St) (H : Hp) (E : Value -> Shared -> Prop), Inv X pins σ H s -> (∀ b ∈ fp, FpOk X pins H b) -> tn i s.heap -> J.go i H ->
  wpAny (model P w) X.A (pyNext (.ref it)) (fun r s1 => ∃ u, r = some u /\
   wpAny (model P w) X.A (letOwnedTupleGo tg (.ref it) u) (fun _ s2 => ∃ x H', Inv X pins σ H' s2 /\ RelV x u /\ J.yld i H x H' /\ tn (i + 1) s2.heap /\ ∀ b ∈ fp, H' b = none) E s1) E s
 done : ∀ (X : Cx), X.prog = P -> X.w = w -> X.K = K -> X.calm = true -> ∀ (i : Nat) (pins : List (Addr × Obj)) (s : Shared) (σ : St) (H : Hp) (E : Value -> Shared -> Prop), Inv X pins σ H s -> (∀ b ∈ fp, FpOk X pins H b) -> tn i s.heap -> J.stop i H ->
  wpAny (model P w) X.A (pyNext (.ref it)) (fun r s1 => r = none /\ Inv X pins σ H s1) E s
 self : ∀ (A : Around) (i : Nat) (s : Shared) (Q : Value -> Shared -> Prop) (E : Value -> Shared -> Prop), tn i s.heap -> Q (.ref it) s -> wpAny (model P w) A (pyIter (.ref it)) Q E s
abbrev TI := St -> Hp -> (It -> Hp -> Prop) -> Prop
def PIE (X : Cx) (pins : List (Addr × Obj)) (σ : St) (tg : Expr) (R : It -> Hp -> Prop) (itv : Value) (s2 : Shared) : Prop :=
 ∃ (it : Addr) (fp : List Addr) (tn : Nat -> Heap -> Prop) (J : It) (H' : Hp), itv = .ref it /\ Inv X pins σ H' s2 /\ Turn X.prog X.w X.K tg J fp it tn /\ tn 0 s2.heap /\ (∀ b ∈ fp, FpOk X pins H' b) /\ R J H'
def PI (X : Cx) (tg iter : Expr) (wi : TI) : Prop :=
 ∀ (pins : List (Addr × Obj)) (s : Shared) (σ : St) (H : Hp) (R : It -> Hp -> Prop), Inv X pins σ H s -> wi σ H R ->
  wpAny (model X.prog X.w) X.A (eval iter X.env) (fun v s1 => wpAny (model X.prog X.w) X.A (pyIter v) (PIE X pins σ tg R) X.xe s1) X.xe s
theorem y2F {M : Model} {A : Around} {E : Value -> Shared -> Prop} {s : Shared} {tg : Expr} {it : Addr} {u : Value} {o : Obj} {n : String} {vs : Array Value} {Q : Unit -> Shared -> Prop} (ho : s.heap.get? it = some o) (hc : o.cls = .type n) (hd : o.data = .fields vs)
    (hn : ["enumerate", "zip", "dict_itemiterator", "dict_reverseitemiterator", "odict_iterator", "itertools.zip_longest", "itertools.pairwise"].contains n = false) (hQ : Q () s) : wpAny M A (letOwnedTupleGo tg (.ref it) u) Q E s := by
  unfold letOwnedTupleGo
  cases tg <;> first
    | exact wpAny_pure hQ
    | (cases u <;> first
        | exact wpAny_pure hQ
        | (refine wpAny_bind (wpAny_load ho ?_)
           rw [hc, hd]
           show wpAny M A (if (["enumerate", "zip", "dict_itemiterator", "dict_reverseitemiterator", "odict_iterator", "itertools.zip_longest", "itertools.pairwise"].contains n && vs[0]? == some (rawInt _)) = true then _ else _) Q E s
           rw [if_neg (by intro h; rw [hn, Bool.false_and] at h; cases h)]
           exact wpAny_pure hQ))
def Itl (K : PySem.W.Frag) (a : Addr) : It :=
 ⟨fun i H => ∃ xs x, SqL K H a xs /\ xs[i]? = some x, fun i H x H' => H' = H /\ ∀ xs, SqL K H a xs -> xs[i]? = some x, fun i H => ∃ xs, SqL K H a xs /\ xs.length ≤ i⟩
def Itt (K : PySem.W.Frag) (a : Addr) : It :=
 ⟨fun i H => ∃ xs x, SqT K H a xs /\ xs[i]? = some x, fun i H x H' => H' = H /\ ∀ xs, SqT K H a xs -> xs[i]? = some x, fun i H => ∃ xs, SqT K H a xs /\ xs.length ≤ i⟩
def Itr (lo : Int) (n : Nat) : It := ⟨fun i _ => i < n, fun i H x H' => H' = H /\ x = .int (lo + i), fun i _ => n ≤ i⟩
theorem z8e {P : Program} {w : World} {K : PySem.W.Frag} {tg : Expr} (a it : Addr) : Turn P w K tg (Itl K a) [it] it (fun i h => h.IsListIter it a i) where
 mem := by simp
 obj := fun i h st b hb => by
  have e : b = it := by simpa using hb
  subst e
  obtain ⟨o, e, c, d⟩ := st
  exact ⟨o, e, fun v z => by rw [d] at z; cases z⟩
 keep := fun i h h' st k => st.at fun o e => k it (by simp) o e
 item := by
  intro X hP hw hK hc i pins s σ H E I hf st hg
  subst hP hw hK
  obtain ⟨xs, x, hq, hx⟩ := hg
  obtain ⟨its, rv, p, hz⟩ := I.list hq
  obtain ⟨u, hu, ru⟩ := rv.get hx
  obtain ⟨f0, f1, f2, f3, f4, f5⟩ := hf it (by simp)
  refine wpAny_pyNext_list_item st p.isList (x := u) (by simpa using hu) fun h' st' sb => ?_
  have I1 : Inv X pins σ H { s with heap := h' } := I.turned (t' := s.toks) (fun b o hb e => (sb.2 b hb).trans e) f0 f1 f3 f4 f5
  obtain ⟨o, e, c, d⟩ := id st'
  exact ⟨u, rfl, y2F (s := { s with heap := h' }) e c d (by decide) ⟨x, H, I1, ru, ⟨rfl, fun ys hy => by rw [I.list_inj hy hq]; exact hx⟩, st', fun b hb => (hf b hb).1⟩⟩
 done := by
  intro X hP hw hK hc i pins s σ H E I hf st hg
  subst hP hw hK
  obtain ⟨xs, hq, hx⟩ := hg
  obtain ⟨its, rv, p, hz⟩ := I.list hq
  obtain ⟨f0, f1, f2, f3, f4, f5⟩ := hf it (by simp)
  have hl := rv.length
  exact wpAny_pyNext_list_end (I.ok.hd hc) st p.isList (by simp; omega) fun h' eb => ⟨rfl, I.turned (t' := s.toks) (fun b o hb e => eb b o hb e) f0 f1 f3 f4 f5⟩
 self := fun _ _ _ _ _ st h => wpAny_pyIter_listiter st h
theorem z7e {P : Program} {w : World} {K : PySem.W.Frag} {tg : Expr} (a it : Addr) : Turn P w K tg (Itt K a) [it] it (fun i h => h.IsTupleIter it a i) where
 mem := by simp
 obj := fun i h st b hb => by
  have e : b = it := by simpa using hb
  subst e
  obtain ⟨o, e, c, d⟩ := st
  exact ⟨o, e, fun v z => by rw [d] at z; cases z⟩
 keep := fun i h h' st k => st.at fun o e => k it (by simp) o e
 item := by
  intro X hP hw hK hc i pins s σ H E I hf st hg
  subst hP hw hK
  obtain ⟨xs, x, hq, hx⟩ := hg
  obtain ⟨its, rv, p, hz⟩ := I.tuple hq
  obtain ⟨u, hu, ru⟩ := rv.get hx
  obtain ⟨f0, f1, f2, f3, f4, f5⟩ := hf it (by simp)
  refine wpAny_pyNext_tuple_item st (show s.heap.IsTuple a its.toArray from p) (x := u) (by simpa using hu) fun h' st' sb => ?_
  have I1 : Inv X pins σ H { s with heap := h' } := I.turned (t' := s.toks) (fun b o hb e => (sb.2 b hb).trans e) f0 f1 f3 f4 f5
  obtain ⟨o, e, c, d⟩ := id st'
  exact ⟨u, rfl, y2F (s := { s with heap := h' }) e c d (by decide) ⟨x, H, I1, ru, ⟨rfl, fun ys hy => by rw [I.tuple_inj hy hq]; exact hx⟩, st', fun b hb => (hf b hb).1⟩⟩
 done := by
  intro X hP hw hK hc i pins s σ H E I hf st hg
  subst hP hw hK
  obtain ⟨xs, hq, hx⟩ := hg
  obtain ⟨its, rv, p, hz⟩ := I.tuple hq
  obtain ⟨f0, f1, f2, f3, f4, f5⟩ := hf it (by simp)
  have hl := rv.length
  exact wpAny_pyNext_tuple_end (I.ok.hd hc) st (show s.heap.IsTuple a its.toArray from p) (by simp; omega) fun h' eb => ⟨rfl, I.turned (t' := s.toks) (fun b o hb e => eb b o hb e) f0 f1 f3 f4 f5⟩
 self := fun _ _ _ _ _ st h => wpAny_pyIter_tupleiter st h
theorem y06 {P : Program} {w : World} {K : PySem.W.Frag} {tg : Expr} (it : Addr) (lo : Int) (n : Nat) : Turn P w K tg (Itr lo n) [it] it (fun i h => IsRangeIter h it (lo + (i : Nat) * 1) ((n : Int) - (i : Nat)) 1) where
 mem := by simp
 obj := fun i h st b hb => by
  have e : b = it := by simpa using hb
  subst e
  exact ⟨_, st, fun v z => by
   have z' : Data.fields _ = Data.cell v := z
   cases z'⟩
 keep := fun i h h' st k => k it (by simp) _ st
 item := by
  intro X hP hw hK hc i pins s σ H E I hf st hg
  subst hP hw hK
  obtain ⟨f0, f1, f2, f3, f4, f5⟩ := hf it (by simp)
  have W := Walks.range (prog := X.prog) (w := X.w) (I.ok.hd hc) it lo 1 n
  refine W.item i s _ _ hg st fun v h' tk hv st' kk => ?_
  obtain ⟨t, rfl⟩ := hv
  have I1 : Inv X pins σ H { s with heap := h', toks := tk } := I.turned (fun b o hb e => kk b o (by simpa using hb) e) f0 f1 f3 f4 f5
  refine ⟨_, rfl, y2F (s := { s with heap := h', toks := tk }) (n := "range_iterator") st' rfl rfl (by decide) ⟨.int (lo + i), H, I1, ⟨t, ?_⟩, ⟨rfl, rfl⟩, st', fun b hb => (hf b hb).1⟩⟩
  rw [Int.mul_one]
 done := by
  intro X hP hw hK hc i pins s σ H E I hf st hg
  subst hP hw hK
  obtain ⟨f0, f1, f2, f3, f4, f5⟩ := hf it (by simp)
  exact wpAny_pyNext_range_end (I.ok.hd hc) st (by have : n ≤ i := hg; omega) fun h' eb => ⟨rfl, I.turned (t' := s.toks) (fun b o hb e => eb b o hb e) f0 f1 f3 f4 f5⟩
 self := fun _ _ _ _ _ st h => wpAny_pyIter_rangeiter st h
section
variable {X : Cx} {tg : Expr}
def iList (K : PySem.W.Frag) (tl : TE) : TI := fun σ H R => tl σ H fun x H1 => ∃ a, x = .ref a /\ (∃ xs, SqL K H1 a xs) /\ R (Itl K a) H1
def iTup (K : PySem.W.Frag) (tl : TE) : TI := fun σ H R => tl σ H fun x H1 => ∃ a, x = .ref a /\ (∃ xs, SqT K H1 a xs) /\ R (Itt K a) H1
theorem z1u {l : Expr} {tl : TE} (hl : PE X l tl) : PI X tg l (iList X.K tl) := by
 intro pins s σ H R I h
 refine thn (hl pins s σ H _ I h) fun v s1 hz => ?_
 obtain ⟨x, H1, I1, r1, q1⟩ := hz
 obtain ⟨a, e, ⟨xs, hq⟩, q⟩ := q1
 subst e
 cases r1
 obtain ⟨its, rv, p, hz⟩ := I1.list hq
 refine wpAny_pyIter_list p.isList ?_
 refine ⟨s1.heap.objs.size, [s1.heap.objs.size], _, _, H1, rfl, I1.kept (t' := s1.toks) fun b o e => Heap.get?_push_of_some _ e, z8e a _, ⟨_, Heap.get?_push_size _ rfl, rfl, rfl⟩, fun b hb => ?_, q⟩
 have e : b = s1.heap.objs.size := by simpa using hb
 subst e
 exact I1.fpOk (Nat.le_refl _) (I1.hok.fresh (Nat.le_refl _))
theorem z3F {l : Expr} {tl : TE} (hl : PE X l tl) : PI X tg l (iTup X.K tl) := by
 intro pins s σ H R I h
 refine thn (hl pins s σ H _ I h) fun v s1 hz => ?_
 obtain ⟨x, H1, I1, r1, q1⟩ := hz
 obtain ⟨a, e, ⟨xs, hq⟩, q⟩ := q1
 subst e
 cases r1
 obtain ⟨its, rv, p, hz⟩ := I1.tuple hq
 refine wpAny_pyIter_tuple (show s1.heap.IsTuple a its.toArray from p) ?_
 refine ⟨s1.heap.objs.size, [s1.heap.objs.size], _, _, H1, rfl, I1.kept (t' := s1.toks) fun b o e => Heap.get?_push_of_some _ e, z7e a _, ⟨_, Heap.get?_push_size _ rfl, rfl, rfl⟩, fun b hb => ?_, q⟩
 have e : b = s1.heap.objs.size := by simpa using hb
 subst e
 exact I1.fpOk (Nat.le_refl _) (I1.hok.fresh (Nat.le_refl _))
theorem z9m {pins : List (Addr × Obj)} {σ : St} {H : Hp} {s : Shared} {R : It -> Hp -> Prop} {E : Value -> Shared -> Prop} {lo hi : Int} {t u v : Tok} {tk : Nat} (I : Inv X pins σ H s) (h1 : -(2 ^ 62) ≤ lo) (h2 : lo < 2 ^ 62) (h3 : -(2 ^ 62) ≤ hi) (h4 : hi < 2 ^ 62)
  (q : R (Itr lo (hi - lo).toNat) H) : wpAny (model X.prog X.w) X.A (pyIter (.ref s.heap.objs.size)) (PIE X pins σ tg R) E { s with heap := s.heap.push { cls := .type "range", data := .fields #[.int lo t, .int hi u, .int 1 v] }, toks := tk } := by
 refine wpAny_pyIter_range (IsRange.new ..) (small_one h1 h2 h3 h4) ?_
 have I1 : Inv X pins σ H { s with heap := s.heap.push { cls := .type "range", data := .fields #[.int lo t, .int hi u, .int 1 v] }, toks := tk } := I.kept fun b o e => Heap.get?_push_of_some _ e
 refine ⟨(s.heap.push { cls := .type "range", data := .fields #[.int lo t, .int hi u, .int 1 v] }).objs.size, [(s.heap.push { cls := .type "range", data := .fields #[.int lo t, .int hi u, .int 1 v] }).objs.size], _, _, H, rfl,
  I1.kept (t' := tk) fun b o e => Heap.get?_push_of_some _ e, y06 _ lo (hi - lo).toNat, ?_, fun b hb => ?_, q⟩
 ·have e1 : lo + ((0 : Nat) : Int) * 1 = lo := by simp
  have e2 : (((hi - lo).toNat : Nat) : Int) - ((0 : Nat) : Int) = Builtin.Range.rangeSize lo hi 1 := by rw [rangeSize_one]; split <;> omega
  show IsRangeIter _ _ (lo + ((0 : Nat) : Int) * 1) ((((hi - lo).toNat : Nat) : Int) - ((0 : Nat) : Int)) 1
  rw [e1, e2]
  exact Heap.get?_push_size _ rfl
 ·have e : b = (s.heap.push { cls := .type "range", data := .fields #[.int lo t, .int hi u, .int 1 v] }).objs.size := by simpa using hb
  subst e
  exact I1.fpOk (Nat.le_refl _) (I1.hok.fresh (Nat.le_refl _))
def iRng1 (ta : TA) : TI := fun σ H R => ta σ H fun vs H1 => ∃ j : Int, vs = [.int j] /\ -(2 ^ 62) ≤ j /\ j < 2 ^ 62 /\ R (Itr 0 j.toNat) H1
def iRng2 (ta : TA) : TI := fun σ H R => ta σ H fun vs H1 => ∃ i j : Int, vs = [.int i, .int j] /\ (-(2 ^ 62) ≤ i /\ i < 2 ^ 62 /\ -(2 ^ 62) ≤ j /\ j < 2 ^ 62) /\ R (Itr i (j - i).toNat) H1
theorem z17 {a : Expr} {ta : TA} {p pos : Pos} (hg : Gl X "range") (hm : X.mg "range" = none) (ha : PA X [a] ta) (hs : starEach [a] X.env = [(false, eval a X.env)] := by rfl) : PI X tg (.Call (.Name "range" p) [a] [] pos) (iRng1 ta) := by
 intro pins s σ H R I h
 refine Call_ (z4U I hg hm boot_range (PyProof.Rows.callWith_type1 (thn (ha pos pins s σ H _ I h) fun us s1 hz => ?_) hs rfl))
 obtain ⟨vs, H1, I1, r1, q1⟩ := hz
 obtain ⟨j, e, q1, q2, q⟩ := q1
 subst e
 cases r1 with
 | cons r rr =>
  cases rr
  obtain ⟨t, rfl⟩ := r
  exact call_range_1 (z9m I1 (by omega) (by omega) q1 q2 (by simpa using q))
theorem z4D {a b : Expr} {ta : TA} {p pos : Pos} (hg : Gl X "range") (hm : X.mg "range" = none) (ha : PA X [a, b] ta) (hs : starEach [a, b] X.env = [(false, eval a X.env), (false, eval b X.env)] := by rfl) (hs2 : starEach [b] X.env = [(false, eval b X.env)] := by rfl) :
  PI X tg (.Call (.Name "range" p) [a, b] [] pos) (iRng2 ta) := by
 intro pins s σ H R I h
 refine Call_ (z4U I hg hm boot_range (PyProof.Rows.callWith_type1 (thn (ha pos pins s σ H _ I h) fun us s1 ⟨vs, H1, I1, r1, q1⟩ => ?_) (by rw [hs, hs2]) (by rw [hs2]; rfl)))
 obtain ⟨i, j, e, ⟨q1, q2, q3, q4⟩, q⟩ := q1
 subst e
 cases r1 with
 | cons r rr =>
  cases rr with
  | cons r' rr =>
   cases rr
   obtain ⟨t, rfl⟩ := r
   obtain ⟨t', rfl⟩ := r'
   exact call_range_2 (z9m I1 q1 q2 q3 q4 q)
def tFor (wi : TI) (g : TG) (tb : TS) : TS := fun D σ H => wi σ H fun J H1 => ∃ W : Nat -> Nat -> St -> Hp -> Prop, (∃ m, W 0 m σ H1) /\ ∀ i m σ H, W i m σ H ->
 (J.stop i H /\ D.nx σ H) \/ (J.go i H /\ ∃ N : St -> Hp -> Prop, (∀ σ' H', N σ' H' -> ∃ m', m' < m /\ W (i + 1) m' σ' H') /\ ∀ x H', J.yld i H x H' -> g x σ H' fun σ2 H2 => tb { D with nx := N, ct := N, bk := D.nx } σ2 H2)
def z86 (fp : List Addr) (h : Heap) : List (Addr × Obj) := fp.filterMap fun b => (h.get? b).map fun o => (b, o)
theorem z3N {fp : List Addr} {h : Heap} {b : Addr} {o : Obj} (hb : b ∈ fp) (e : h.get? b = some o) : (b, o) ∈ z86 fp h := List.mem_filterMap.mpr ⟨b, hb, by rw [e]; rfl⟩
theorem y1B {fp : List Addr} {h : Heap} {p : Addr × Obj} (hp : p ∈ z86 fp h) : p.1 ∈ fp /\ h.get? p.1 = some p.2 := by
 obtain ⟨b, hb, e⟩ := List.mem_filterMap.mp hp
 cases q : h.get? b with
 | none => rw [q] at e; cases e
 | some o =>
  rw [q] at e
  have e' : (b, o) = p := Option.some.inj e
  subst e'
  exact ⟨hb, q⟩
theorem Inv.pinned {pins : List (Addr × Obj)} {σ : St} {H : Hp} {s : Shared} {fp : List Addr} (I : Inv X pins σ H s) (hf : ∀ b ∈ fp, FpOk X pins H b) (ho : ∀ b ∈ fp, ∃ o, s.heap.get? b = some o /\ ∀ v, o.data ≠ .cell v) : Inv X (pins ++ z86 fp s.heap) σ H s :=
 I.pins_of fun p hp => (List.mem_append.mp hp).elim (fun z => I.pin p (List.mem_append_right _ z)) fun z => by
  obtain ⟨hb, e⟩ := y1B z
  obtain ⟨f0, f1, f2, _⟩ := hf p.1 hb
  obtain ⟨o, e', d⟩ := ho p.1 hb
  rw [e] at e'; cases e'
  exact ⟨e, f0, f1, f2, d⟩
theorem Inv.unpinned {pins pl : List (Addr × Obj)} {σ : St} {H : Hp} {s : Shared} (I : Inv X (pins ++ pl) σ H s) : Inv X pins σ H s := I.pins_of fun p hp => I.pin p (List.mem_append_right _ (List.mem_append_left _ hp))
theorem z1g {iter : Expr} {body : List Stmt} {wi : TI} {g : TG} {tb : TS} {pos : Pos} (hp : PassesOwn (model X.prog X.w) X.A X.env X.xe) (hc : X.calm = true) (hi : PI X tg iter wi) (hg : PG X tg g) (hb : PSs X body tb)
  (hs : ∀ x, foldedSetIterable iter X.env x = pure x := by intro _; rfl) : PS X (.For tg iter body [] pos) (tFor wi g tb) := by
 intro pins s σ H D I h
 refine wpAny_For (thn (hi pins s σ H _ I h) fun v s1 h1 => thn h1 fun itv s2 h2 => ?_) hs
 obtain ⟨it, fp, tn, J, H2, e, I2, T, st2, f2, W, ⟨m0, w0⟩, turn⟩ := h2
 subst e
 have stat : ∀ {H' : Hp}, (∀ b ∈ fp, H' b = none) -> ∀ b ∈ fp, FpOk X pins H' b := fun hn b hb => ⟨hn b hb, (f2 b hb).2⟩
 refine codeAny_forLoop_any (fun n s' => ∃ i σ' H', Inv X pins σ' H' s' /\ tn i s'.heap /\ (∀ b ∈ fp, H' b = none) /\ W i n σ' H') ?_ m0 ⟨0, σ, H2, I2, st2, fun b hb => (f2 b hb).1, w0⟩
 rintro n s3 ⟨i, σ3, H3, I3, st3, fr3, w3⟩
 rcases turn i n σ3 H3 w3 with ⟨stop, qn⟩ | ⟨go, N, hN, step⟩
 ·refine wpAny_passesOwn hp (thn (T.done X rfl rfl rfl hc i pins s3 σ3 H3 X.xe I3 (stat fr3) st3 stop) fun r s4 hz => ?_)
  obtain ⟨hr, I4⟩ := hz
  subst hr
  exact wpAny_execs_nil ⟨σ3, H3, I4, qn⟩
 ·refine wpAny_passesOwn hp (thn (T.item X rfl rfl rfl hc i pins s3 σ3 H3 X.xe I3 (stat fr3) st3 go) fun r s4 hz => ?_)
  obtain ⟨u, hr, h4⟩ := hz
  subst hr
  refine wpAny_passesOwn hp (thn h4 fun _ s5 hz => ?_)
  obtain ⟨x, H5, I5, r5, y5, st5, fr5⟩ := hz
  have I5' := I5.pinned (stat fr5) (T.obj _ _ st5)
  refine wpAny_passesOwn hp (thn (hg _ s5 σ3 H5 x u _ I5' r5 (step x H5 y5)) fun _ s6 hz => ?_)
  obtain ⟨σ6, H6, I6, q6⟩ := hz
  refine wpAny_passesOwn hp (thn (hb _ s6 σ6 H6 _ I6 q6) fun f s7 q7 => ?_)
  have again : ∀ {σ7 : St} {H7 : Hp}, Inv X (pins ++ z86 fp s5.heap) σ7 H7 s7 -> N σ7 H7 -> ∃ m, m < n /\ ∃ i σ' H', Inv X pins σ' H' s7 /\ tn i s7.heap /\ (∀ b ∈ fp, H' b = none) /\ W i m σ' H' := fun {σ7 H7} I7 n7 => by
   obtain ⟨m', hm, w7⟩ := hN σ7 H7 n7
   refine ⟨m', hm, i + 1, σ7, H7, I7.unpinned, T.keep _ _ _ st5 fun b hb o e => (I7.pin (b, o) (List.mem_append_right _ (List.mem_append_right _ (z3N hb e)))).1, fun b hb => ?_, w7⟩
   obtain ⟨o, e, d⟩ := T.obj _ _ st5 b hb
   exact (I7.pin (b, o) (List.mem_append_right _ (List.mem_append_right _ (z3N hb e)))).2.1
  cases f with
  | next => obtain ⟨σ7, H7, I7, n7⟩ := q7; exact again I7 n7
  | cont => obtain ⟨σ7, H7, I7, n7⟩ := q7; exact again I7 n7
  | brk => obtain ⟨σ7, H7, I7, q7⟩ := q7; exact ⟨σ7, H7, I7.unpinned, q7⟩
  | ret v => obtain ⟨x7, σ7, H7, I7, r7, q7⟩ := q7; exact ⟨x7, σ7, H7, I7.unpinned, r7, q7⟩
end
theorem z1I {K : PySem.W.Frag} {a : Addr} {xs : List V} {g : TG} {tb : TS} {D : Ends} {σ : St} {H : Hp} (Pv : Nat -> St -> Hp -> Prop) (h0 : Pv 0 σ H) (hl : ∀ i σ H, i ≤ xs.length -> Pv i σ H -> SqL K H a xs)
  (hs : ∀ i x σ H, xs[i]? = some x -> Pv i σ H -> g x σ H fun σ2 H2 => tb { D with nx := Pv (i + 1), ct := Pv (i + 1), bk := D.nx } σ2 H2) (hd : ∀ σ H, Pv xs.length σ H -> D.nx σ H) :
  ∃ W : Nat -> Nat -> St -> Hp -> Prop, (∃ m, W 0 m σ H) /\ ∀ i m σ H, W i m σ H ->
   ((Itl K a).stop i H /\ D.nx σ H) \/ ((Itl K a).go i H /\ ∃ N : St -> Hp -> Prop, (∀ σ' H', N σ' H' -> ∃ m', m' < m /\ W (i + 1) m' σ' H') /\ ∀ x H', (Itl K a).yld i H x H' -> g x σ H' fun σ2 H2 => tb { D with nx := N, ct := N, bk := D.nx } σ2 H2) := by
 refine ⟨fun i m σ H => m = xs.length - i /\ i ≤ xs.length /\ Pv i σ H, ⟨xs.length, by simp, Nat.zero_le _, h0⟩, ?_⟩
 rintro i m σ H ⟨rfl, hi, p⟩
 have q := hl i σ H hi p
 by_cases hlt : i < xs.length
 ·refine .inr ⟨⟨xs, xs[i], q, by simp [hlt]⟩, Pv (i + 1), fun σ' H' p' => ⟨xs.length - (i + 1), by omega, rfl, hlt, p'⟩, fun x H' y => ?_⟩
  obtain ⟨e, y⟩ := y
  subst e
  exact hs i x σ _ (y xs q) p
 ·have e : i = xs.length := by omega
  subst e
  exact .inl ⟨⟨xs, q, Nat.le_refl _⟩, hd σ H p⟩
theorem z7I {K : PySem.W.Frag} {a : Addr} {xs : List V} {g : TG} {tb : TS} {D : Ends} {σ : St} {H : Hp} (Pv : Nat -> St -> Hp -> Prop) (h0 : Pv 0 σ H) (hl : ∀ i σ H, i ≤ xs.length -> Pv i σ H -> SqT K H a xs)
  (hs : ∀ i x σ H, xs[i]? = some x -> Pv i σ H -> g x σ H fun σ2 H2 => tb { D with nx := Pv (i + 1), ct := Pv (i + 1), bk := D.nx } σ2 H2) (hd : ∀ σ H, Pv xs.length σ H -> D.nx σ H) :
  ∃ W : Nat -> Nat -> St -> Hp -> Prop, (∃ m, W 0 m σ H) /\ ∀ i m σ H, W i m σ H ->
   ((Itt K a).stop i H /\ D.nx σ H) \/ ((Itt K a).go i H /\ ∃ N : St -> Hp -> Prop, (∀ σ' H', N σ' H' -> ∃ m', m' < m /\ W (i + 1) m' σ' H') /\ ∀ x H', (Itt K a).yld i H x H' -> g x σ H' fun σ2 H2 => tb { D with nx := N, ct := N, bk := D.nx } σ2 H2) := by
 refine ⟨fun i m σ H => m = xs.length - i /\ i ≤ xs.length /\ Pv i σ H, ⟨xs.length, by simp, Nat.zero_le _, h0⟩, ?_⟩
 rintro i m σ H ⟨rfl, hi, p⟩
 have q := hl i σ H hi p
 by_cases hlt : i < xs.length
 ·refine .inr ⟨⟨xs, xs[i], q, by simp [hlt]⟩, Pv (i + 1), fun σ' H' p' => ⟨xs.length - (i + 1), by omega, rfl, hlt, p'⟩, fun x H' y => ?_⟩
  obtain ⟨e, y⟩ := y
  subst e
  exact hs i x σ _ (y xs q) p
 ·have e : i = xs.length := by omega
  subst e
  exact .inl ⟨⟨xs, q, Nat.le_refl _⟩, hd σ H p⟩
theorem z1y {lo : Int} {n : Nat} {g : TG} {tb : TS} {D : Ends} {σ : St} {H : Hp} (Pv : Nat -> St -> Hp -> Prop) (h0 : Pv 0 σ H)
  (hs : ∀ i σ H, i < n -> Pv i σ H -> g (.int (lo + i)) σ H fun σ2 H2 => tb { D with nx := Pv (i + 1), ct := Pv (i + 1), bk := D.nx } σ2 H2) (hd : ∀ σ H, Pv n σ H -> D.nx σ H) :
  ∃ W : Nat -> Nat -> St -> Hp -> Prop, (∃ m, W 0 m σ H) /\ ∀ i m σ H, W i m σ H ->
   ((Itr lo n).stop i H /\ D.nx σ H) \/ ((Itr lo n).go i H /\ ∃ N : St -> Hp -> Prop, (∀ σ' H', N σ' H' -> ∃ m', m' < m /\ W (i + 1) m' σ' H') /\ ∀ x H', (Itr lo n).yld i H x H' -> g x σ H' fun σ2 H2 => tb { D with nx := N, ct := N, bk := D.nx } σ2 H2) := by
 refine ⟨fun i m σ H => m = n - i /\ i ≤ n /\ Pv i σ H, ⟨n, by simp, Nat.zero_le _, h0⟩, ?_⟩
 rintro i m σ H ⟨rfl, hi, p⟩
 by_cases hlt : i < n
 ·refine .inr ⟨hlt, Pv (i + 1), fun σ' H' p' => ⟨n - (i + 1), by omega, rfl, hlt, p'⟩, fun x H' y => ?_⟩
  obtain ⟨e, y⟩ := y
  subst e y
  exact hs i σ _ hlt p
 ·have e : i = n := by omega
  subst e
  exact .inl ⟨Nat.le_refl _, hd σ H p⟩
abbrev R2 := V -> V -> Hp -> VK -> Prop
def OpR (X : Cx) (f : Value -> Value -> Sem Value) (r : R2) : Prop :=
 ∀ (pins : List (Addr × Obj)) (s : Shared) (σ : St) (H : Hp) (x y : V) (v u : Value) (Q : VK), Inv X pins σ H s -> RelV x v -> RelV y u -> r x y H Q ->
  wpAny (model X.prog X.w) X.A (f v u) (EP X pins σ Q) X.xe s
def UnR (X : Cx) (f : Value -> Sem Value) (r : V -> Hp -> VK -> Prop) : Prop :=
 ∀ (pins : List (Addr × Obj)) (s : Shared) (σ : St) (H : Hp) (x : V) (v : Value) (Q : VK), Inv X pins σ H s -> RelV x v -> r x H Q ->
  wpAny (model X.prog X.w) X.A (f v) (EP X pins σ Q) X.xe s
def z3c (X : Cx) (f : Value) (r : List V -> Hp -> VK -> Prop) : Prop :=
 ∀ (pins : List (Addr × Obj)) (s : Shared) (σ : St) (H : Hp) (xs : List V) (us : List Value) (Q : VK), Inv X pins σ H s -> Vals xs us -> r xs H Q ->
  wpAny (model X.prog X.w) X.A (call f us) (EP X pins σ Q) X.xe s
def tOp (r : R2) (ta tb : TE) : TE := fun σ H Q => ta σ H fun x H1 => tb σ H1 fun y H2 => r x y H2 Q
def tUn (r : V -> Hp -> VK -> Prop) (ta : TE) : TE := fun σ H Q => ta σ H fun x H1 => r x H1 Q
def rI (C : Int -> Int -> Prop) (g : Int -> Int -> V) : R2 := fun x y H Q => ∃ i j, x = .int i /\ y = .int j /\ C i j /\ Q (g i j) H
def rI0 (g : Int -> Int -> V) : R2 := fun x y H Q => ∃ i j, x = .int i /\ y = .int j /\ Q (g i j) H
def rU (g : Int -> V) : V -> Hp -> VK -> Prop := fun x H Q => ∃ i, x = .int i /\ Q (g i) H
section
variable {X : Cx} {a b c : Expr} {ta tb tc : TE} {pos : Pos}
theorem binT (ha : PE X a ta) (hb : PE X b tb) {pins : List (Addr × Obj)} {s : Shared} {σ : St} {H : Hp} {R : V -> V -> Hp -> Prop} (I : Inv X pins σ H s)
  (h : ta σ H fun x H1 => tb σ H1 fun y H2 => R x y H2) {Q : Value -> Shared -> Prop} {f : Value -> Value -> Sem Value}
  (hf : ∀ v u s2 x y H2, Inv X pins σ H2 s2 -> RelV x v -> RelV y u -> R x y H2 -> wpAny (model X.prog X.w) X.A (f v u) Q X.xe s2) :
  wpAny (model X.prog X.w) X.A (eval a X.env) (fun v s₁ => wpAny (model X.prog X.w) X.A (eval b X.env) (fun u s₂ => wpAny (model X.prog X.w) X.A (f v u) Q X.xe s₂) X.xe s₁) X.xe s := by
 refine thn (ha pins s σ H _ I h) fun v s1 hz => ?_
 obtain ⟨x, H1, I1, r1, q1⟩ := hz
 refine thn (hb pins s1 σ H1 _ I1 q1) fun u s2 hz => ?_
 obtain ⟨y, H2, I2, r2, q2⟩ := hz
 exact hf v u s2 x y H2 I2 r1 r2 q2
theorem z0p {op : Operator} {r : R2} (ho : OpR X (binaryOp op) r) (ha : PE X a ta) (hb : PE X b tb) : PE X (.BinOp a op b pos) (tOp r ta tb) := by
 intro pins s σ H Q I h
 exact wpAny_BinOp (binT ha hb I h fun v u s2 x y H2 I2 rx ry q => ho pins s2 σ H2 x y v u Q I2 rx ry q)
theorem pe_un {op : UnaryOp} {r : V -> Hp -> VK -> Prop} (ho : UnR X (unaryOp op) r) (ha : PE X a ta) : PE X (.UnaryOp op a pos) (tUn r ta) := by
 intro pins s σ H Q I h
 exact UnaryOp_ (thn (ha pins s σ H _ I h) fun v s1 ⟨x, H1, I1, r1, q1⟩ => ho pins s1 σ H1 x v Q I1 r1 q1)
theorem opI {f : Value -> Value -> Sem Value} {C : Int -> Int -> Prop} {g : Int -> Int -> Int}
  (rule : ∀ (i j : Int) (t u : Tok) (s : Shared) (Q : Value -> Shared -> Prop) (E : Value -> Shared -> Prop), C i j -> Q (.int (g i j) s.toks) { s with toks := s.toks + 1 } -> wpAny (model X.prog X.w) X.A (f (.int i t) (.int j u)) Q E s) :
  OpR X f (rI C fun i j => .int (g i j)) := by
 intro pins s σ H x y v u Q I rx ry h
 obtain ⟨i, j, rfl, rfl, hc, q⟩ := h
 obtain ⟨t, rfl⟩ := rx
 obtain ⟨t', rfl⟩ := ry
 exact rule i j t t' s _ _ hc ⟨.int (g i j), H, I.tok _, ⟨_, rfl⟩, q⟩
theorem opI0 {f : Value -> Value -> Sem Value} {g : Int -> Int -> Int}
  (rule : ∀ (i j : Int) (t u : Tok) (s : Shared) (Q : Value -> Shared -> Prop) (E : Value -> Shared -> Prop), Q (.int (g i j) s.toks) { s with toks := s.toks + 1 } -> wpAny (model X.prog X.w) X.A (f (.int i t) (.int j u)) Q E s) :
  OpR X f (rI0 fun i j => .int (g i j)) := by
 intro pins s σ H x y v u Q I rx ry h
 obtain ⟨i, j, rfl, rfl, q⟩ := h
 obtain ⟨t, rfl⟩ := rx
 obtain ⟨t', rfl⟩ := ry
 exact rule i j t t' s _ _ ⟨.int (g i j), H, I.tok _, ⟨_, rfl⟩, q⟩
theorem opB0 {f : Value -> Value -> Sem Value} {g : Int -> Int -> Bool}
  (rule : ∀ (i j : Int) (t u : Tok) (s : Shared) (Q : Value -> Shared -> Prop) (E : Value -> Shared -> Prop), Q (.bool (g i j)) s -> wpAny (model X.prog X.w) X.A (f (.int i t) (.int j u)) Q E s) :
  OpR X f (rI0 fun i j => .bl (g i j)) := by
 intro pins s σ H x y v u Q I rx ry h
 obtain ⟨i, j, rfl, rfl, q⟩ := h
 obtain ⟨t, rfl⟩ := rx
 obtain ⟨t', rfl⟩ := ry
 exact rule i j t t' s _ _ ⟨.bl (g i j), H, I, rfl, q⟩
def CDiv (i j : Int) : Prop := 0 < j /\ j < 1073741824
def CMul (i j : Int) : Prop := (-(2 ^ 64) < i /\ i < 2 ^ 64) \/ (-(2 ^ 64) < j /\ j < 2 ^ 64)
theorem CMul.ok {i j : Int} (h : CMul i j) : IntMulOk i j := by
 rcases h with ⟨h1, h2⟩ | ⟨h1, h2⟩
 ·exact .of_left (intBits_le_64 h1 h2)
 ·exact .of_right (intBits_le_64 h1 h2)
theorem z1s : OpR X (binaryOp .Add) (rI0 fun i j => .int (i + j)) := opI0 fun _ _ _ _ _ _ _ q => add_int q
theorem z4H : OpR X (binaryOp .Sub) (rI0 fun i j => .int (i - j)) := opI0 fun _ _ _ _ _ _ _ q => sub_int q
theorem z3K : OpR X (binaryOp .Mult) (rI CMul fun i j => .int (i * j)) := opI fun _ _ _ _ _ _ _ hc q => mul_int q hc.ok
theorem z1b : OpR X (binaryOp .FloorDiv) (rI CDiv fun i j => .int (i / j)) := opI fun i j _ _ _ _ _ hc q => by
 have h1 : (0 : Int) < j := hc.1
 have h2 : j < 1073741824 := hc.2
 exact floordiv_int (by omega) (by rw [Int.fdiv_eq_ediv_of_nonneg i (by omega)]; exact q) (.inl (PyProof.noPylong_small (by omega)))
theorem z0R : OpR X (binaryOp .Mod) (rI (fun _ j => 0 < j) fun i j => .int (i % j)) := opI fun i j _ _ _ _ _ hc q => by
 have h1 : (0 : Int) < j := hc
 exact mod_int' (by omega) (by rw [Int.fmod_eq_emod_of_nonneg i (by omega)]; exact q)
theorem unI {f : Value -> Sem Value} {g : Int -> Int}
  (rule : ∀ (i : Int) (t : Tok) (s : Shared) (Q : Value -> Shared -> Prop) (E : Value -> Shared -> Prop), Q (.int (g i) s.toks) { s with toks := s.toks + 1 } -> wpAny (model X.prog X.w) X.A (f (.int i t)) Q E s) :
  UnR X f (rU fun i => .int (g i)) := by
 intro pins s σ H x v Q I rx h
 obtain ⟨i, rfl, q⟩ := h
 obtain ⟨t, rfl⟩ := rx
 exact rule i t s _ _ ⟨.int (g i), H, I.tok _, ⟨_, rfl⟩, q⟩
theorem y4Y : UnR X (unaryOp .USub) (rU fun i => .int (-i)) := unI fun _ _ _ _ _ q => neg_int q
end
def scal : V -> V -> Bool
 | .non, .non => true | .non, .int _ => true | .int _, .non => true | .non, .bl _ => true | .bl _, .non => true | .non, .str _ => true | .str _, .non => true
 | .int _, .int _ => true | .bl _, .bl _ => true | .str _, .str _ => true | .byt _, .byt _ => true
 | .int _, .str _ => true | .str _, .int _ => true | .bl _, .str _ => true | .str _, .bl _ => true
 | _, _ => false
def rEq : R2 := fun x y H Q => scal x y = true /\ Q (.bl (decide (x = y))) H
def rNe : R2 := fun x y H Q => scal x y = true /\ Q (.bl (!decide (x = y))) H
theorem y1C {i j : Int} : decide (V.int i = V.int j) = (i == j) := by
 rw [Bool.eq_iff_iff]
 simp
theorem y3x {i j : Bool} : decide (V.bl i = V.bl j) = (i == j) := by
 rw [Bool.eq_iff_iff]
 simp
theorem y12 {i j : Str} : decide (V.str i = V.str j) = (i == j) := by
 rw [Bool.eq_iff_iff]
 simp
theorem y0Q {i j : Array UInt8} : decide (V.byt i = V.byt j) = (i.toList == j.toList) := by
 rw [Bool.eq_iff_iff]
 cases i
 cases j
 simp
section
variable {X : Cx} {a b c : Expr} {ta tb tc : TE} {pos : Pos}
theorem z0Q {pins : List (Addr × Obj)} {σ : St} {H : Hp} {s : Shared} {Q : VK} {k k' : Bool} (I : Inv X pins σ H s) (q : Q (.bl k) H) (e : k = k') : EP X pins σ Q (.bool k') s := by
 subst e
 exact ⟨.bl k, H, I, rfl, q⟩
theorem z3P : OpR X (compareOp .Eq) rEq := by
 intro pins s σ H x y v u Q I rx ry h
 obtain ⟨hs, q⟩ := h
 cases x with
 | non =>
  cases rx
  cases y with
  | non => cases ry; exact PySem.EqNone.eq_none_none (z0Q I q (by simp))
  | bl j => cases ry; exact PySem.EqNone.eq_none_bool (z0Q I q (by simp))
  | int j => obtain ⟨t', rfl⟩ := ry; exact PySem.EqNone.eq_none_int (z0Q I q (by simp))
  | str j => obtain ⟨t', rfl⟩ := ry; exact PySem.EqNone.eq_none_str (z0Q I q (by simp))
  | _ => exact absurd (show false = true from hs) Bool.false_ne_true
 | bl i =>
  cases rx
  cases y with
  | non => cases ry; exact PySem.EqNone.eq_bool_none (z0Q I q (by simp))
  | bl j => cases ry; exact eq_bool (z0Q I q y3x)
  | str j => obtain ⟨t', rfl⟩ := ry; exact PySem.EqMixed.eq_bool_str (z0Q I q (by simp))
  | _ => exact absurd (show false = true from hs) Bool.false_ne_true
 | int i =>
  obtain ⟨t, rfl⟩ := rx
  cases y with
  | non => cases ry; exact PySem.EqNone.eq_int_none (z0Q I q (by simp))
  | int j => obtain ⟨t', rfl⟩ := ry; exact eq_int (z0Q I q y1C)
  | str j => obtain ⟨t', rfl⟩ := ry; exact PySem.EqMixed.eq_int_str (z0Q I q (by simp))
  | _ => exact absurd (show false = true from hs) Bool.false_ne_true
 | str i =>
  obtain ⟨t, rfl⟩ := rx
  cases y with
  | non => cases ry; exact PySem.EqNone.eq_str_none (z0Q I q (by simp))
  | bl j => cases ry; exact PySem.EqMixed.eq_str_bool (z0Q I q (by simp))
  | int j => obtain ⟨t', rfl⟩ := ry; exact PySem.EqMixed.eq_str_int (z0Q I q (by simp))
  | str j => obtain ⟨t', rfl⟩ := ry; exact eq_str (z0Q I q y12)
  | _ => exact absurd (show false = true from hs) Bool.false_ne_true
 | byt i =>
  obtain ⟨t, rfl⟩ := rx
  cases y with
  | byt j => obtain ⟨t', rfl⟩ := ry; exact PySem.W.eq_bytes (z0Q I q y0Q)
  | _ => exact absurd (show false = true from hs) Bool.false_ne_true
 | _ => cases y <;> exact absurd (show false = true from hs) Bool.false_ne_true
theorem y0I : OpR X (compareOp .NotEq) rNe := by
 intro pins s σ H x y v u Q I rx ry h
 obtain ⟨hs, q⟩ := h
 cases x with
 | non =>
  cases rx
  cases y with
  | non => cases ry; exact PySem.EqNone.ne_none_none (z0Q I q (by simp))
  | bl j => cases ry; exact PySem.EqNone.ne_none_bool (z0Q I q (by simp))
  | int j => obtain ⟨t', rfl⟩ := ry; exact PySem.EqNone.ne_none_int (z0Q I q (by simp))
  | str j => obtain ⟨t', rfl⟩ := ry; exact PySem.EqNone.ne_none_str (z0Q I q (by simp))
  | _ => exact absurd (show false = true from hs) Bool.false_ne_true
 | bl i =>
  cases rx
  cases y with
  | non => cases ry; exact PySem.EqNone.ne_bool_none (z0Q I q (by simp))
  | bl j => cases ry; exact ne_bool (z0Q I q (congrArg not y3x))
  | str j => obtain ⟨t', rfl⟩ := ry; exact PySem.EqMixed.ne_bool_str (z0Q I q (by simp))
  | _ => exact absurd (show false = true from hs) Bool.false_ne_true
 | int i =>
  obtain ⟨t, rfl⟩ := rx
  cases y with
  | non => cases ry; exact PySem.EqNone.ne_int_none (z0Q I q (by simp))
  | int j => obtain ⟨t', rfl⟩ := ry; exact ne_int (z0Q I q (congrArg not y1C))
  | str j => obtain ⟨t', rfl⟩ := ry; exact PySem.EqMixed.ne_int_str (z0Q I q (by simp))
  | _ => exact absurd (show false = true from hs) Bool.false_ne_true
 | str i =>
  obtain ⟨t, rfl⟩ := rx
  cases y with
  | non => cases ry; exact PySem.EqNone.ne_str_none (z0Q I q (by simp))
  | bl j => cases ry; exact PySem.EqMixed.ne_str_bool (z0Q I q (by simp))
  | int j => obtain ⟨t', rfl⟩ := ry; exact PySem.EqMixed.ne_str_int (z0Q I q (by simp))
  | str j => obtain ⟨t', rfl⟩ := ry; exact ne_str (z0Q I q (congrArg not y12))
  | _ => exact absurd (show false = true from hs) Bool.false_ne_true
 | byt i =>
  obtain ⟨t, rfl⟩ := rx
  cases y with
  | byt j => obtain ⟨t', rfl⟩ := ry; exact PySem.W.ne_bytes (z0Q I q (congrArg not y0Q))
  | _ => exact absurd (show false = true from hs) Bool.false_ne_true
 | _ => cases y <;> exact absurd (show false = true from hs) Bool.false_ne_true
theorem z7L : OpR X (compareOp .Lt) (rI0 fun i j => .bl (decide (i < j))) := opB0 fun _ _ _ _ _ _ _ q => lt_int q
theorem y41 : OpR X (compareOp .LtE) (rI0 fun i j => .bl (decide (i ≤ j))) := opB0 fun _ _ _ _ _ _ _ q => le_int q
theorem z4b : OpR X (compareOp .Gt) (rI0 fun i j => .bl (decide (j < i))) := opB0 fun _ _ _ _ _ _ _ q => gt_int q
theorem y38 : OpR X (compareOp .GtE) (rI0 fun i j => .bl (decide (j ≤ i))) := opB0 fun _ _ _ _ _ _ _ q => ge_int q
theorem z0v (b : Expr) {op : CmpOp} (h : op ≠ .In := by decide) (h2 : op ≠ .NotIn := by decide) : behindInMarks op b = false := by
 have e1 : (op == CmpOp.In) = false := by cases op <;> first | rfl | exact absurd rfl h
 have e2 : (op == CmpOp.NotIn) = false := by cases op <;> first | rfl | exact absurd rfl h2
 cases b <;> simp [behindInMarks, e1, e2]
theorem z7O {op : CmpOp} {r : R2} (ho : OpR X (compareOp op) r) (ha : PE X a ta) (hb : PE X b tb) (hm : behindInMarks op b = false) : PE X (.Compare a [op] [b] pos) (tOp r ta tb) := by
 intro pins s σ H Q I h
 exact wpAny_Compare1 (binT ha hb I h fun v u s2 x y H2 I2 rx ry q => ho pins s2 σ H2 x y v u Q I2 rx ry q) hm
def tTest (t : TE) : TT := fun σ H Q => t σ H fun x H' => ∃ k, x = .bl k /\ Q k H'
theorem z0e {op : CmpOp} {r : R2} (ho : OpR X (compareOp op) r) (ha : PE X a ta) (hb : PE X b tb) (hm : behindInMarks op b = false) : PT X (.Compare a [op] [b] pos) (tTest (tOp r ta tb)) := by
 intro pins s σ H Q I h
 refine wpAny_isTrue_Compare1 (thn (ha pins s σ H _ I h) fun v s1 ⟨x, H1, I1, r1, q1⟩ => thn (hb pins s1 σ H1 _ I1 q1) fun u s2 ⟨y, H2, I2, r2, q2⟩ =>
  thn (ho pins s2 σ H2 x y v u _ I2 r1 r2 q2) fun c s3 ⟨z, H3, I3, r3, k, e, q3⟩ => ?_) hm
 subst e
 cases r3
 exact wpAny_truthy_bool ⟨H3, I3, q3⟩
theorem z50 : (sizeLine : Nat) < 2 ^ 63 := by rw [sizeLine_eq]; decide
theorem z7b : OpR X (binaryOp .Add) (fun x y H Q => ∃ i j, x = .str i /\ y = .str j /\ i.length + j.length ≤ sizeLine /\ Q (.str (i ++ j)) H) := by
 intro pins s σ H x y v u Q I rx ry h
 obtain ⟨i, j, rfl, rfl, hz, q⟩ := h
 obtain ⟨t, rfl⟩ := rx
 obtain ⟨t', rfl⟩ := ry
 exact add_str (fun t' tk => ⟨.str (i ++ j), H, I.tok _, ⟨_, rfl⟩, q⟩) hz
theorem z3r {x : V} {us : List Value} (r : Vals [x] us) : ∃ u, us = [u] /\ RelV x u := by
 cases r with
 | cons r1 r2 => cases r2; exact ⟨_, rfl, r1⟩
theorem y2X {x y : V} {us : List Value} (r : Vals [x, y] us) : ∃ u w', us = [u, w'] /\ RelV x u /\ RelV y w' := by
 cases r with
 | cons r1 r2 =>
  cases r2 with
  | cons r3 r4 => cases r4; exact ⟨_, _, rfl, r1, r3⟩
theorem y24 (hc : X.calm = true) : z3c X (.builtin "max") (fun xs H Q => ∃ i j, xs = [.int i, .int j] /\ Q (.int (if j > i then j else i)) H) := by
 intro pins s σ H xs us Q I r h
 obtain ⟨i, j, rfl, q⟩ := h
 obtain ⟨u, w', rfl, ⟨t, rfl⟩, ⟨t', rfl⟩⟩ := y2X r
 refine max_two_ints (I.ok.hd hc) fun h' tk k => ⟨_, H, I.kept k, ?_, q⟩
 by_cases hj : j > i
 ·rw [if_pos hj, if_pos hj]; exact ⟨_, rfl⟩
 ·rw [if_neg hj, if_neg hj]; exact ⟨_, rfl⟩
end
structure ObjM (h : Heap) (x dx C : Addr) (mA : Str -> Option Value) : Prop where
 obj : h.get? x = some (PySem.W.instObj C dx)
 ns : h.Ns1 dx mA
 ne : dx ≠ x
theorem y2m {h : Heap} {dx : Addr} {mA : Str -> Option Value} (n : h.Ns1 dx mA) : ∃ od, h.get? dx = some od /\ ∀ name, PySem.W.lookIn name od = some (mA name) := by
 obtain ⟨o, es, ep, ho, hd, hk, _, hm⟩ := n
 refine ⟨o, ho, fun name => ?_⟩
 have e := hm name
 unfold nsFind findBy at e
 rw [<- Array.find?_toList] at e
 unfold PySem.W.lookIn
 rw [hd]
 dsimp only
 split
 ·rename_i y q
  rw [q] at e
  exact congrArg some e
 ·rename_i q
  rw [q] at e
  have a : es.toList.any (·.refKey) = false := by
   rw [List.any_eq_false]
   intro y hy
   obtain ⟨z, t, hkey⟩ := hk y (Array.mem_toList_iff.mp hy)
   simp [DictEntry.refKey, hkey]
  have a' : ¬ es.toList.any (·.refKey) = true := by rw [a]; exact Bool.false_ne_true
  rw [if_neg a']
  exact congrArg some e
theorem ObjM.look {h : Heap} {x dx C : Addr} {mA : Str -> Option Value} (I : ObjM h x dx C mA) : ∃ od, PySem.W.InstAt h x (PySem.W.instObj C dx) C (some od) /\ ∀ name, PySem.W.lookIn name od = some (mA name) :=
 let ⟨od, ho, hl⟩ := y2m I.ns
 ⟨od, ⟨I.obj, rfl, rfl, ho⟩, hl⟩
section
variable {prog : Program} {w : World} {A : Around} {E : Value -> Shared -> Prop} {s : Shared} {K : PySem.W.Frag} {x dx C f : Addr} {mA : Str -> Option Value} {name : Str} {v : Value}
theorem y4t {expr : Bool} {Q : Value -> Shared -> Prop} (X : K.In s.heap) (I : ObjM s.heap x dx C mA) (hg : PySem.W.plainGet K C name = true) (hh : PySem.W.hasDictIn K C = true)
  (ha : PySem.W.findIn K (.ref C) name = some none) (hv : mA name = some v) (hv' : PySem.W.handedIn v = true) (h : Q v { s with toks := s.toks + 1 }) :
  wpAny (model prog w) A (getAttr (.ref x) name expr) Q E s := by
 obtain ⟨od, J, hl⟩ := I.look
 exact PySem.W.get_value X J (PySem.W.plainGet_of hg).1 (PySem.W.findObj_own hh ha rfl (by rw [hl, hv])) hv' h
theorem y2G {pl : Sem Bool} {Q : Value × List Value -> Shared -> Prop} (X : K.In s.heap) (I : ObjM s.heap x dx C mA) (hg : PySem.W.plainGet K C name = true)
  (hf : PySem.W.findIn K (.ref C) name = some (some (.ref f))) (ht : PySem.W.isFn K (.ref f) = true) (hv : mA name = none) (h : Q (.ref f, [.ref x]) s) :
  wpAny (model prog w) A (getMethod (.ref x) name pl) Q E s := by
 obtain ⟨od, J, hl⟩ := I.look
 exact PySem.W.method_fn X J (PySem.W.plainGet_of hg).1 (PySem.W.plainGet_of hg).2 hf (beq_iff_eq.mp ht) (by show (PySem.W.lookIn name od).map (·.isSome) = some false; rw [hl, hv]; rfl) h
theorem y3Z {ns : List Str} {Q : Unit -> Shared -> Prop} (X : K.In s.heap) (I : ObjM s.heap x dx C mA)
  (hs : PySem.W.findIn K (.ref C) "__setattr__" = some (some (.builtin "object.__setattr__"))) (hp : PySem.W.plainOver K C = true) (ht : PySem.W.takerIn K C name = some none) (hh : PySem.W.hasDictIn K C = true)
  (hw : PySem.Within mA ns) (hsz : ns.length ≤ sizeLine)
  (h : ∀ h', ObjM h' x dx C (fun y => if y = name then some v else mA y) -> Heap.SameBut dx s.heap h' -> Q () { s with heap := h', toks := s.toks + 2 }) :
  wpAny (model prog w) A (setAttr (.ref x) name v) Q E s := by
 obtain ⟨od, J, hl⟩ := I.look
 refine PySem.W.set_plain X J hs (PySem.W.osa_open (s := { s with toks := s.toks + 1 }) (r := none) X J hp ht fun b => ?_)
 obtain ⟨cd, hc, hd'⟩ := PySem.W.any_some hh
 have hx : s.heap.get? x = some ⟨.ref C, some dx, .plain, #[]⟩ := I.obj
 refine wpAny_bind (wpAny_pure (wpAny_bind (wpAny_bind (wpAny_loadPart hx (wpAny_bind (PySem.W.Looks.here (s := { s with toks := s.toks + 1 }) (PySem.W.looks_clsIn X hc) ?_))))))
 rw [hd']
 refine wpAny_pure (a := some dx) (wpAny_bind (wpAny_pure (wpAny_bind ?_)))
 refine wpAny_nsSet1 (s := { s with toks := s.toks + 1 }) I.ns fun h' hn2 hs2 => ?_
 obtain ⟨oD, esD, epD, hoD, hdD, hcD⟩ := hn2.count (PySem.Within.cons name v hw)
 refine wpAny_bind (wpAny_lookBehind hoD (by rw [hdD]; exact pastItsLine_dict (Nat.le_trans hcD (by rw [List.length_cons]; omega))) ?_)
 exact wpAny_pure (h _ ⟨(hs2.2 _ (Ne.symm I.ne)).trans I.obj, hn2, I.ne⟩ hs2)
theorem y30 {R : Result -> Shared -> Prop} {vs : List Value} {kw : List (Str × Value)} (X : K.In s.heap) (hm : PySem.W.makesIn K C = true)
  (hi : PySem.W.findIn K (.ref C) "__init__" = some (some (.ref f))) (hf : PySem.W.typeIn K (.ref f) = some (.type "function"))
  (h : codeAny (model prog w) (A.under (.builtin "type.__call__" ⟨.ref C :: vs, kw⟩)) (.call (.ref f) ⟨.ref (s.heap.objs.size + 1) :: vs, kw⟩) (PySem.W.InitBack (s.heap.objs.size + 1) R)
   { s with heap := (s.heap.push PySem.W.emptyDict).push (PySem.W.instObj C s.heap.objs.size) }) :
  codeAny (model prog w) A (.call (.ref C) ⟨vs, kw⟩) R s := by
 obtain ⟨hh, g, d, t, os⟩ := s
 exact PySem.W.make_core (PySem.W.makes_of X hm) (PySem.W.looks_findIn X hi) (fun self => PySem.W.bind_fn X self hf) (.inl rfl) h
end
def putF (f : Str) (v : V) : List (Str × V) -> List (Str × V)
 | [] => [(f, v)]
 | (g, x) :: r => if g = f then (g, v) :: r else (g, x) :: putF f v r
theorem z0h (f g : Str) (v : V) : ∀ fs : List (Str × V), (putF f v fs).lookup g = if g = f then some v else fs.lookup g
 | [] => by
  show List.lookup g [(f, v)] = _
  by_cases h : g = f
  ·have hb : (g == f) = true := beq_iff_eq.mpr h
   simp only [List.lookup, hb, if_pos h]
  ·have hb : (g == f) = false := beq_eq_false_iff_ne.mpr h
   simp only [List.lookup, hb, if_neg h]
 | (k, x) :: r => by
  have ih := z0h f g v r
  rw [show putF f v ((k, x) :: r) = (if k = f then (k, v) :: r else (k, x) :: putF f v r) from rfl]
  by_cases hk : k = f
  ·rw [if_pos hk]
   by_cases h : g = k
   ·have hb : (g == k) = true := beq_iff_eq.mpr h
    simp only [List.lookup, hb, if_pos (h.trans hk)]
   ·have hb : (g == k) = false := beq_eq_false_iff_ne.mpr h
    simp only [List.lookup, hb, if_neg (fun e : g = f => h (e.trans hk.symm))]
  ·rw [if_neg hk]
   by_cases h : g = k
   ·have hb : (g == k) = true := beq_iff_eq.mpr h
    simp only [List.lookup, hb, if_neg (fun e : g = f => hk (h.symm.trans e))]
   ·have hb : (g == k) = false := beq_eq_false_iff_ne.mpr h
    simp only [List.lookup, hb]
    exact ih
theorem z6G (f : Str) (v : V) : ∀ fs : List (Str × V), f ∈ (putF f v fs).map (·.1) /\ ∀ g, g ∈ fs.map (·.1) -> g ∈ (putF f v fs).map (·.1)
 | [] => ⟨by simp [putF], fun g h => by simp at h⟩
 | (k, x) :: r => by
  obtain ⟨i1, i2⟩ := z6G f v r
  rw [show putF f v ((k, x) :: r) = (if k = f then (k, v) :: r else (k, x) :: putF f v r) from rfl]
  by_cases hk : k = f
  ·rw [if_pos hk]
   subst hk
   exact ⟨by simp, fun g h => by simpa using h⟩
  ·rw [if_neg hk]
   refine ⟨?_, fun g h => ?_⟩
   ·rw [List.map_cons]
    exact List.mem_cons_of_mem _ i1
   ·rw [List.map_cons] at h ⊢
    rcases List.mem_cons.mp h with e | e
    ·exact List.mem_cons.mpr (.inl e)
    ·exact List.mem_cons_of_mem _ (i2 g e)
theorem z1k (f : Str) (v : V) : ∀ fs : List (Str × V), (putF f v fs).length ≤ fs.length + 1
 | [] => by simp [putF]
 | (k, x) :: r => by
  have ih := z1k f v r
  rw [show putF f v ((k, x) :: r) = (if k = f then (k, v) :: r else (k, x) :: putF f v r) from rfl]
  by_cases hk : k = f
  ·rw [if_pos hk, List.length_cons, List.length_cons]; omega
  ·rw [if_neg hk, List.length_cons, List.length_cons]; omega
theorem RelO.some_of {v : V} {o : Option Value} (r : RelO (some v) o) : ∃ u, o = some u /\ RelV v u := by
 cases o with
 | none => exact (show False from r).elim
 | some u => exact ⟨u, rfl, r⟩
theorem RelO.none_of {o : Option Value} (r : RelO none o) : o = none := by
 cases o with
 | none => rfl
 | some u => exact (show False from r).elim
theorem y1Z {v : V} {u : Value} (r : RelV v u) : PySem.W.handedIn u = true := by
 cases v with
 | non => cases (show u = Value.none from r); rfl
 | bl b => cases (show u = Value.bool b from r); rfl
 | int i => obtain ⟨t, e⟩ := (show ∃ t, u = Value.int i t from r); cases e; rfl
 | str x => obtain ⟨t, e⟩ := (show ∃ t, u = Value.str x t from r); cases e; rfl
 | byt b => obtain ⟨t, e⟩ := (show ∃ t, u = Value.bytes b t from r); cases e; rfl
 | flt b => obtain ⟨t, e⟩ := (show ∃ t, u = Value.float b t from r); cases e; rfl
 | ref a => cases (show u = Value.ref a from r); rfl
 | ty n => cases (show u = Value.type n from r); rfl
section
variable {P : Program} {w : World} {H H' : Hp} {h h' : Heap} {a C dx : Addr} {fs fs' : List (Str × V)}
theorem z7T (hok : HOk P w H h) (e : H a = some (.ins C dx fs)) : ∃ mA, ObjM h a dx C mA /\ (∀ f, RelO (fs.lookup f) (mA f)) /\ PySem.Within mA (fs.map (·.1)) /\ fs.length ≤ 1000 /\ H dx = some (.own a) := by
 obtain ⟨d, z, ne, ob, mA, n, r, q⟩ := (show z1a P w H h a (.ins C dx fs) from hok a _ e)
 exact ⟨mA, ⟨ob, n, ne⟩, r, q, z, d⟩
end
structure Cls (K : PySem.W.Frag) (C : Addr) : Prop where
 pg : PySem.W.plainGet K C Str.empty = true
 hd : PySem.W.hasDictIn K C = true
 po : PySem.W.plainOver K C = true
 sa : PySem.W.findIn K (.ref C) "__setattr__" = some (some (.builtin "object.__setattr__"))
theorem Cls.get {K : PySem.W.Frag} {C : Addr} (c : Cls K C) (f : Str) : PySem.W.plainGet K C f = true := c.pg
def z2m (K : PySem.W.Frag) (C : Addr) (f : Str) : Prop := PySem.W.findIn K (.ref C) f = some none
theorem z2m.taker {K : PySem.W.Frag} {C : Addr} {f : Str} (n : z2m K C f) : PySem.W.takerIn K C f = some none := by
 unfold PySem.W.takerIn
 rw [show PySem.W.findIn K (.ref C) f = some none from n]
 rfl
structure Meth (K : PySem.W.Frag) (C : Addr) (m : Str) (f : Addr) : Prop where
 at_ : PySem.W.findIn K (.ref C) m = some (some (.ref f))
 fn : PySem.W.isFn K (.ref f) = true
 kp : PySem.W.keepIn K (.ref f) = true
section
variable {X : Cx} {pins : List (Addr × Obj)} {σ : St} {H : Hp} {s : Shared} {a C dx : Addr} {fs : List (Str × V)} {f : Str} {v : V} {A : Around} {E : Value -> Shared -> Prop}
theorem y0x {b : Bool} {Q : Value -> Shared -> Prop} (I : Inv X pins σ H s) (e : H a = some (.ins C dx fs)) (c : Cls X.K C) (n : z2m X.K C f) (l : fs.lookup f = some v)
  (h : ∀ u s', Inv X pins σ H s' -> RelV v u -> Q u s') : wpAny (model X.prog X.w) A (getAttr (.ref a) f b) Q E s := by
 obtain ⟨mA, O, r, _, _, _⟩ := z7T I.hok e
 obtain ⟨u, hu, ru⟩ := RelO.some_of (v := v) (o := mA f) (by rw [<- l]; exact r f)
 exact y4t I.kIn O (c.get f) c.hd n hu (y1Z ru) (h u _ (I.tok _) ru)
theorem z5a {m : Str} {g : Addr} {pl : Sem Bool} {Q : Value × List Value -> Shared -> Prop} (I : Inv X pins σ H s) (e : H a = some (.ins C dx fs)) (c : Cls X.K C) (k : Meth X.K C m g) (l : fs.lookup m = none)
  (h : Q (.ref g, [.ref a]) s) : wpAny (model X.prog X.w) A (getMethod (.ref a) m pl) Q E s := by
 obtain ⟨mA, O, r, _, _, _⟩ := z7T I.hok e
 have hn : mA m = none := RelO.none_of (by rw [<- l]; exact r m)
 exact y2G I.kIn O (c.get m) k.at_ k.fn hn h
theorem y09 {y : V} {u : Value} {Q : Unit -> Shared -> Prop} (I : Inv X pins σ H s) (e : H a = some (.ins C dx fs)) (c : Cls X.K C) (n : z2m X.K C f) (hl : fs.length < 1000) (ry : RelV y u)
  (h : ∀ s', Inv X pins σ (upd H a (.ins C dx (putF f y fs))) s' -> Q () s') : wpAny (model X.prog X.w) A (setAttr (.ref a) f u) Q E s := by
 obtain ⟨mA, O, r, wi, _, ho⟩ := z7T I.hok e
 have hz : (fs.map (·.1)).length ≤ sizeLine := by rw [List.length_map, sizeLine_eq]; omega
 refine y3Z I.kIn O c.sa c.po n.taker c.hd wi hz fun h' O' sb => h _ ?_
 have hd : ∃ o, h'.get? dx = some o := let ⟨o, _, _, e', _⟩ := O'.ns; ⟨o, e'⟩
 refine I.write (x := a) (e := dx) (by rw [e]; exact True.intro) (.inr ho) (fun b q hb z => (sb.2 b hb).trans z) hd ?_
 refine ⟨by rw [z09 O.ne]; exact ho, ?_, O.ne, O'.obj, _, O'.ns, fun g => ?_, fun g hg => ?_⟩
 ·have := z1k f y fs; omega
 ·show RelO ((putF f y fs).lookup g) (if g = f then some u else mA g)
  rw [z0h]
  by_cases q : g = f
  ·rw [if_pos q, if_pos q]; exact ry
  ·rw [if_neg q, if_neg q]; exact r g
 ·by_cases q : g = f
  ·rw [q]; exact (z6G f y fs).1
  ·refine (z6G f y fs).2 g (wi g fun z => hg ?_)
   show (if g = f then some u else mA g) = none
   rw [if_neg q]; exact z
theorem Inv.made (I : Inv X pins σ H s) : Inv X pins σ (upd (upd H s.heap.objs.size (.own (s.heap.objs.size + 1))) (s.heap.objs.size + 1) (.ins C s.heap.objs.size []))
  { s with heap := (s.heap.push PySem.W.emptyDict).push (PySem.W.instObj C s.heap.objs.size) } := by
 have e1 : (s.heap.push PySem.W.emptyDict).get? s.heap.objs.size = some PySem.W.emptyDict := Heap.get?_push_size s.heap rfl
 have e2 : ((s.heap.push PySem.W.emptyDict).push (PySem.W.instObj C s.heap.objs.size)).get? (s.heap.objs.size + 1) = some (PySem.W.instObj C s.heap.objs.size) := by
  have := Heap.get?_push_size (s.heap.push PySem.W.emptyDict) (o := PySem.W.instObj C s.heap.objs.size) rfl
  rwa [Heap.size_push] at this
 have e3 : (s.heap.push PySem.W.emptyDict).Ns s.heap.objs.size (fun _ => none) := ⟨PySem.W.emptyDict, #[], _, e1, rfl, (fun e he => absurd he (by simp)), fun _ => rfl⟩
 have I1 := I.laid (a := s.heap.objs.size) (o := .own (s.heap.objs.size + 1)) (h' := s.heap.push PySem.W.emptyDict) (t' := s.toks) (fun b u q => Heap.get?_push_of_some _ q) (Nat.le_refl _) ⟨_, e1⟩
 refine I1.laid (a := s.heap.objs.size + 1) (o := .ins C s.heap.objs.size []) (t' := s.toks) (fun b u q => Heap.get?_push_of_some _ q) (Nat.le_of_eq (Heap.size_push _ _)) ?_
 have ne : s.heap.objs.size ≠ s.heap.objs.size + 1 := Nat.ne_of_lt (Nat.lt_succ_self _)
 refine ⟨by rw [z09 ne, z02], Nat.zero_le _, ne, e2, fun _ => none, (Heap.Ns1.of_empty e3).at fun o q => Heap.get?_push_of_some _ q, fun _ => True.intro, fun y hy => absurd rfl hy⟩
theorem y49 {prog : Program} {w : World} {env : Env} {e : Expr} {f : Str} {pos : Pos} {s : Shared} {Q : Value -> Shared -> Prop} (hb : attributeBase e f env (eval e env) = eval e env)
  (h : wpAny (model prog w) A (eval e env) (fun o s₁ => wpAny (model prog w) A (getAttr o f true) Q E s₁) E s) : wpAny (model prog w) A (eval (.Attribute e f pos) env) Q E s :=
 Attribute_any_ h (by rw [arm_eval_Attribute, hb])
end
def tFld (K : PySem.W.Frag) (ta : TE) (f : Str) : TE := fun σ H Q => ta σ H fun x H1 => ∃ a C dx fs v, x = .ref a /\ H1 a = some (.ins C dx fs) /\ Cls K C /\ z2m K C f /\ fs.lookup f = some v /\ Q v H1
def sFld (K : PySem.W.Frag) (ta tv : TE) (f : Str) : TS := fun D σ H => tv σ H fun y H1 => ta σ H1 fun x H2 => ∃ a C dx fs, x = .ref a /\ H2 a = some (.ins C dx fs) /\ Cls K C /\ z2m K C f /\ fs.length < 1000 /\
 D.nx σ (upd H2 a (.ins C dx (putF f y fs)))
section
variable {X : Cx} {o e value : Expr} {f : Str} {pos pos' tpos : Pos} {ta tv : TE}
theorem z0C (he : PE X e ta) (hb : attributeBase e f X.env (eval e X.env) = eval e X.env) : PE X (.Attribute e f pos) (tFld X.K ta f) := by
 intro pins s σ H Q I h
 refine y49 hb (thn (he pins s σ H _ I h) fun u s1 hz => ?_)
 obtain ⟨x, H1, I1, rx, a, C, dx, fs, v, ex, ea, c, n, l, q⟩ := hz
 subst ex
 obtain rfl : u = Value.ref a := rx
 exact y0x I1 ea c n l fun u' s2 I2 ru => ⟨v, H1, I2, ru, q⟩
theorem z4J (ha : PE X o ta) (hv : PE X value tv) (hs : swapsWith value (some (.Attribute o f pos')) pos.line X.env = pure false) : PS X (.Assign [.Attribute o f pos'] value pos) (sFld X.K ta tv f) := by
 intro pins s σ H D I h
 refine plainObj_wpAny_Assign_Attribute (thn (hv pins s σ H _ I h) fun u s1 ⟨y, H1, I1, ry, q⟩ => thn (ha pins s1 σ H1 _ I1 q) fun ov s2 hz => ?_) hs
 obtain ⟨x, H2, I2, rx, a, C, dx, fs, ex, ea, c, n, l, q2⟩ := hz
 subst ex
 obtain rfl : ov = Value.ref a := rx
 exact y09 I2 ea c n l ry fun s3 I3 => ⟨σ, _, I3, q2⟩
theorem y4q {pl : Sem Bool} {m : Str} {apos : Pos} {args : List Expr} {pins : List (Addr × Obj)} {s : Shared} {σ : St} {H : Hp} {Q : Value -> Shared -> Prop} {te : TE} (he : PE X e te) (I : Inv X pins σ H s)
  (h : te σ H fun x H1 => ∃ a C dx fs g, x = .ref a /\ H1 a = some (.ins C dx fs) /\ Cls X.K C /\ Meth X.K C m g /\ fs.lookup m = none /\
   ∀ s1, Inv X pins σ H1 s1 -> wpAny (model X.prog X.w) X.A (callWith pos (.ref g) [.ref a] (backTo pos (starEach args X.env)) (backToKw pos (keywordEach [] X.env))) Q X.xe s1)
  (ht : eval (.Call (.Attribute e m apos) args [] pos) X.env = (do
   let ov <- eval e X.env
   standAt apos.atName
   let (f, first) <- holding [ov] (getMethod ov m pl)
   callWith pos f first (backTo pos (starEach args X.env)) (backToKw pos (keywordEach [] X.env)))) :
  wpAny (model X.prog X.w) X.A (eval (.Call (.Attribute e m apos) args [] pos) X.env) Q X.xe s := by
 refine PySem.W.methodCall_KW (pl := pl) (thn (he pins s σ H _ I h) fun u s1 hz => ?_) ht
 obtain ⟨x, H1, I1, rx, a, C, dx, fs, g, ex, ea, c, k, l, q⟩ := hz
 subst ex
 obtain rfl : u = Value.ref a := rx
 exact z5a I1 ea c k l (q s1 I1)
end
section
variable {X : Cx} {pins : List (Addr × Obj)} {σ : St} {H : Hp} {s : Shared} {A : Around} {E : Value -> Shared -> Prop} {Q : Value -> Shared -> Prop} {c : Value} {b : Bool}
inductive TyOf (K : PySem.W.Frag) (H : Hp) : V -> Value -> Prop where
 | non : TyOf K H .non (.type "NoneType")
 | bl (x : Bool) : TyOf K H (.bl x) (.type "bool")
 | int (i : Int) : TyOf K H (.int i) (.type "int")
 | str (x : Str) : TyOf K H (.str x) (.type "str")
 | flt (x : UInt64) : TyOf K H (.flt x) (.type "float")
 | lst {a : Addr} {xs : List V} (e : H a = some (.lst xs)) : TyOf K H (.ref a) (.type "list")
 | frz {a : Addr} {o : Obj} {xs : List V} (e : H a = some (.frz o (.lst xs))) : TyOf K H (.ref a) (.type "list")
 | tup {a : Addr} {xs : List V} (e : H a = some (.tup xs)) : TyOf K H (.ref a) (.type "tuple")
 | dK {a : Addr} {kvs : List (Key × V)} (e : H a = some (.dK kvs)) : TyOf K H (.ref a) (.type "dict")
 | dT {a : Addr} {kvs : List (List Key × V)} (e : H a = some (.dT kvs)) : TyOf K H (.ref a) (.type "dict")
 | ins {a C dx : Addr} {fs : List (Str × V)} (e : H a = some (.ins C dx fs)) (cl : Cls K C) (ha : PySem.W.findIn K (.ref C) "__class__" = some (some (.builtin "object.__class__")))
   (hn : PySem.W.specialIn K (.builtin "object.__class__") "__get__" = some (some (.builtin "getset_descriptor.__get__"))) (htk : PySem.W.takesIn K (.builtin "object.__class__") = some true)
   (hm : PySem.W.mroIn K C (.type "object") = some true) : TyOf K H (.ref a) (.ref C)
theorem y1r {x : V} {u t : Value} (I : Inv X pins σ H s) (rx : RelV x u) (ty : TyOf X.K H x t) (e : PySem.W.kitOne X.K t c = some b) (h : ∀ tk, Q (.bool b) { s with toks := tk }) :
  wpAny (model X.prog X.w) A (call (.builtin "isinstance") [u, c]) Q E s := by
 cases ty with
 | non => cases (show u = Value.none from rx); exact PySem.W.kia_one PySem.W.kitx_none I.kIn True.intro e (fun z => nomatch z) h
 | bl y => cases (show u = Value.bool y from rx); exact PySem.W.kia_one PySem.W.kitx_bool I.kIn True.intro e (fun z => nomatch z) h
 | int i => obtain ⟨t, q⟩ := (show ∃ t, u = Value.int i t from rx); cases q; exact PySem.W.kia_one PySem.W.kitx_int I.kIn True.intro e (fun z => nomatch z) h
 | str y => obtain ⟨t, q⟩ := (show ∃ t, u = Value.str y t from rx); cases q; exact PySem.W.kia_one PySem.W.kitx_str I.kIn True.intro e (fun z => nomatch z) h
 | flt y => obtain ⟨t, q⟩ := (show ∃ t, u = Value.float y t from rx); cases q; exact PySem.W.kia_one PySem.W.kitx_float I.kIn True.intro e (fun z => nomatch z) h
 | @lst a xs ea =>
  cases (show u = Value.ref a from rx)
  obtain ⟨_, _, n, _, h1⟩ := (show z1a X.prog X.w H s.heap a (.lst xs) from I.hok a _ ea)
  exact PySem.W.kia_one PySem.W.kitx_list I.kIn ⟨_, h1, rfl⟩ e (fun z => nomatch z) h
 | @frz a ob xs ea =>
  cases (show u = Value.ref a from rx)
  obtain ⟨_, _, _, n, _, h1⟩ := (show z1a X.prog X.w H s.heap a (.frz ob (.lst xs)) from I.hok a _ ea)
  exact PySem.W.kia_one PySem.W.kitx_list I.kIn ⟨_, h1, rfl⟩ e (fun z => nomatch z) h
 | @tup a xs ea =>
  cases (show u = Value.ref a from rx)
  obtain ⟨_, _, _, p⟩ := (show z1a X.prog X.w H s.heap a (.tup xs) from I.hok a _ ea)
  obtain ⟨o, h1, h2, _⟩ := p
  exact PySem.W.kia_one PySem.W.kitx_tuple I.kIn ⟨o, h1, h2⟩ e (fun z => nomatch z) h
 | @dK a kvs ea =>
  cases (show u = Value.ref a from rx)
  obtain ⟨_, _, vs, _, p⟩ := (show z1a X.prog X.w H s.heap a (.dK kvs) from I.hok a _ ea)
  obtain ⟨o, es, ep, h1, h2, _⟩ := p
  exact PySem.W.kia_one PySem.W.kitx_dict I.kIn ⟨o, h1, h2.1⟩ e (fun z => nomatch z) h
 | @dT a kvs ea =>
  cases (show u = Value.ref a from rx)
  obtain ⟨_, _, xs, _, o, es, ep, h1, h2, _⟩ := (show z1a X.prog X.w H s.heap a (.dT kvs) from I.hok a _ ea)
  exact PySem.W.kia_one PySem.W.kitx_dict I.kIn ⟨o, h1, h2.1⟩ e (fun z => nomatch z) h
 | @ins a C dx fs ea cl ha hn htk hm =>
  cases (show u = Value.ref a from rx)
  obtain ⟨mA, O, _⟩ := z7T I.hok ea
  obtain ⟨od, J, _⟩ := O.look
  exact PySem.W.kia_one (PySem.W.kitx_own (cl.get _) cl.hd ha hn htk hm) I.kIn J e (fun z => nomatch z) h
end
structure Room (k : Nat) (A : Around) : Prop where
 hd : A.handled = none
 dp : A.depth + 3 * k + 5 < recursionLimit
 un : A.units + 16 * k + 200 < cLine
theorem Room.mono {j k : Nat} {A : Around} (r : Room k A) (h : j ≤ k) : Room j A := ⟨r.hd, by have := r.dp; omega, by have := r.un; omega⟩
theorem Room.deeper {k : Nat} {A : Around} (r : Room (k + 1) A) (env : Env) : Room k (A.deeper env) :=
 ⟨r.hd, by have := r.dp; show A.depth + 1 + 3 * k + 5 < _; omega, by have := r.un; show A.units + 3 + 16 * k + 200 < _; omega⟩
theorem y0f {A : Around} {C : Addr} {us : List Value} {kw : List (Str × Value)} : (A.under (.builtin "type.__call__" ⟨.ref C :: us, kw⟩)).depth = A.depth + 1 := by
 first | rfl | simp [Around.under, Code.weight, Code.isCreation, Code.isGuard, Code.isCaller, Code.frames, Code.isFrame, guardIds]
theorem y05 {A : Around} {C : Addr} {us : List Value} {kw : List (Str × Value)} : (A.under (.builtin "type.__call__" ⟨.ref C :: us, kw⟩)).units = A.units + 1 := by
 first | rfl | simp [Around.under, Code.cUnits, Code.frames, Code.isFrame]
theorem Room.make {k : Nat} {A : Around} (r : Room (k + 1) A) (C : Addr) (us : List Value) (kw : List (Str × Value)) : Room k (A.under (.builtin "type.__call__" ⟨.ref C :: us, kw⟩)) :=
 ⟨r.hd, by have := r.dp; rw [y0f]; omega, by have := r.un; rw [y05]; omega⟩
theorem Room.depth {k : Nat} {A : Around} (r : Room k A) : A.depth < recursionLimit := by have := r.dp; omega
theorem Room.units {k : Nat} {A : Around} (r : Room k A) : A.units + 64 < cLine := by have := r.un; omega
theorem Room.units0 {k : Nat} {A : Around} (r : Room k A) : A.units < cLine := by have := r.un; omega
def tNil : TA := fun _ H Q => Q [] H
def y4z (ta : TE) (tr : TA) : TA := fun σ H Q => ta σ H fun x H1 => tr σ H1 fun xs H2 => Q (x :: xs) H2
section
variable {X : Cx} {e : Expr} {es : List Expr} {te : TE} {t : TA} {pos : Pos}
theorem z04 : PA X [] tNil := fun _ _ _ _ H Q I h => Calls.spliced_nil ⟨[], H, I, .nil, h⟩
theorem z00 (ha : PE X e te) (hr : PA X es t) (hs : starEach (e :: es) X.env = (false, eval e X.env) :: starEach es X.env := by rfl) : PA X (e :: es) (y4z te t) := by
 intro pos pins s σ H Q I h
 rw [hs]
 show wpAny _ _ (spliced ((false, eval e X.env) :: backTo pos (starEach es X.env))) _ _ s
 refine Calls.spliced_cons (thn (ha pins s σ H _ I h) fun u s1 hz => ?_)
 obtain ⟨x, H1, I1, r1, q1⟩ := hz
 exact thn (hr pos pins s1 σ H1 _ I1 q1) fun us s2 ⟨xs, H2, I2, r2, q2⟩ => ⟨x :: xs, H2, I2, .cons r1 r2, q2⟩
def tTup (t : TA) : TE := fun σ H Q => t σ H fun xs H1 => xs.length ≤ sizeLine /\ ∀ p, H1 p = none -> Q (.ref p) (upd H1 p (.tup xs))
def tLst (t : TA) : TE := fun σ H Q => t σ H fun xs H1 => xs.length ≤ sizeLine /\ ∀ p, H1 p = none -> Q (.ref p) (upd H1 p (.lst xs))
theorem z41 {x1} (h : PA X es t) : PE X (.Tuple es x1 pos) (tTup t) := by
 intro pins s σ H Q I hq
 refine wpAny_Tuple_spliced (thn (h pos pins s σ H _ I hq) fun us s1 ⟨xs, H1, I1, r, z, q⟩ => ⟨by rw [<- r.length]; exact z, ?_⟩)
 have hf : H1 s1.heap.objs.size = none := I1.hok.fresh (Nat.le_refl _)
 refine ⟨.ref s1.heap.objs.size, upd H1 s1.heap.objs.size (.tup xs), I1.laid (t' := s1.toks) (fun b u e => Heap.get?_push_of_some _ e) (Nat.le_refl _) ?_, rfl, q _ hf⟩
 exact ⟨z, us, r, ⟨_, Heap.get?_push_size _ rfl, rfl, ⟨_, rfl⟩, rfl⟩⟩
theorem z1N (h : PA X es t) : PE X (.List es pos) (tLst t) := by
 intro pins s σ H Q I hq
 refine wpAny_List_spliced (thn (h pos pins s σ H _ I hq) fun us s1 ⟨xs, H1, I1, r, z, q⟩ => ⟨by rw [<- r.length]; exact z, ?_⟩)
 have hf : H1 s1.heap.objs.size = none := I1.hok.fresh (Nat.le_refl _)
 refine ⟨.ref s1.heap.objs.size, upd H1 s1.heap.objs.size (.lst xs), I1.laid (t' := s1.toks) (fun b u e => Heap.get?_push_of_some _ e) (Nat.le_refl _) ?_, rfl, q _ hf⟩
 exact ⟨z, us, 0, r, Heap.get?_push_size _ rfl⟩
end
abbrev Sp := List V -> Hp -> VK -> XK -> Prop
abbrev CXT := List Env -> Hp -> Shared -> XK -> Value -> Shared -> Prop
structure Env0 (P : Program) (w : World) (K : PySem.W.Frag) (mg : Str -> Option Value) (base : Heap) (A : Around) (outer : List Env) (s : Shared) (H : Hp) : Prop where
 frames : A.frames = some outer
 mod : Mod K mg base
 bs : ∀ b o, base.get? b = some o -> s.heap.get? b = some o /\ H b = none
 bsz : base.objs.size ≤ s.heap.objs.size
 funs : s.heap.FunFrames base outer
 frf : ∀ b ∈ frs outer, H b = none
 hok : HOk P w H s.heap
 bare : AllBare s.gens
def CE (outer : List Env) (P : Program) (w : World) (H : Hp) (s : Shared) (Q : VK) (u : Value) (s' : Shared) : Prop :=
 ∃ v H', s'.os = s.os /\ AllBare s'.gens /\ Un (frs outer) [] H H' s.heap s'.heap /\ HOk P w H' s'.heap /\ RelV v u /\ Q v H'
def CR (CX : CXT) (outer : List Env) (P : Program) (w : World) (H : Hp) (s : Shared) (Q : VK) (E : XK) (r : Result) (s' : Shared) : Prop :=
 match r with
 | .ok (.ret u) => CE outer P w H s Q u s'
 | .ok _ => False
 | .error e => CX outer H s E e s'
structure FnOk (P : Program) (w : World) (K : PySem.W.Frag) (mg : Str -> Option Value) (base : Heap) (CX : CXT) (k : Nat) (f : Addr) (fd : FuncData) (ps : List Str) (sp : Sp) : Prop where
 len : ∀ vs H Q E, sp vs H Q E -> vs.length = ps.length
 run : ∀ (A : Around) (outer : List Env) (s : Shared) (H : Hp) (args : Args) (us : List Value) (vs : List V) (Q : VK) (E : XK), Room k A -> Env0 P w K mg base A outer s H -> BindsTo s fd args (ps.zip us) -> Vals vs us -> sp vs H Q E ->
  codeAny (model P w) A (.call (.ref f) args) (CR CX outer P w H s Q E) s
theorem FnOk.mono {P : Program} {w : World} {K : PySem.W.Frag} {mg : Str -> Option Value} {base : Heap} {CX : CXT} {j k : Nat} {f : Addr} {fd : FuncData} {ps : List Str} {sp : Sp} (F : FnOk P w K mg base CX j f fd ps sp) (h : j ≤ k) :
  FnOk P w K mg base CX k f fd ps sp := ⟨F.len, fun A outer s H args us vs Q E hr => F.run A outer s H args us vs Q E (hr.mono h)⟩
theorem Env0.make {P : Program} {w : World} {K : PySem.W.Frag} {mg : Str -> Option Value} {base : Heap} {A : Around} {outer : List Env} {s : Shared} {H : Hp} (e : Env0 P w K mg base A outer s H) (C : Addr) (us : List Value) (kw : List (Str × Value)) :
  Env0 P w K mg base (A.under (.builtin "type.__call__" ⟨.ref C :: us, kw⟩)) outer s H := ⟨by first | exact e.frames | (simpa [Around.under, Code.envs, Code.isFrame, pushEnvs] using e.frames), e.mod, e.bs, e.bsz, e.funs, e.frf, e.hok, e.bare⟩
section
variable {X : Cx} {pins : List (Addr × Obj)} {σ : St} {H : Hp} {s s' : Shared}
theorem Inv.env0 (I : Inv X pins σ H s) : Env0 X.prog X.w X.K X.mg X.base X.A X.stack s H :=
 ⟨I.ok.frames, I.ok.mod, I.bs, Nat.le_trans I.ok.bsz I.sz, I.stack, I.stkFree, I.hok, I.bare⟩
theorem Inv.after {Q : VK} {u : Value} (I : Inv X pins σ H s) (h : CE X.stack X.prog X.w H s Q u s') : EP X pins σ Q u s' := by
 obtain ⟨v, H', os, bare, un, hok, r, q⟩ := h
 obtain ⟨hh, g, d, t, os'⟩ := s'
 obtain rfl : os' = s.os := os
 exact ⟨v, H', I.call (h' := hh) (g' := g) (d' := d) (t' := t) (ch := []) un hok bare (fun b z => absurd z (by simp)), r, q⟩
end
def y50 (sp : Sp) (dvs : List V) (E : XK) (t : TA) : TE := fun σ H Q => t σ H fun vs H1 => sp (vs ++ dvs) H1 Q E
def y2e (C : Addr) (m : Str) (sp : Sp) (dvs : List V) (E : XK) (ta : TE) (t : TA) : TE := fun σ H Q => ta σ H fun x H1 => ∃ a dx fs, x = .ref a /\ H1 a = some (.ins C dx fs) /\ fs.lookup m = none /\
 t σ H1 fun vs H2 => sp (x :: (vs ++ dvs)) H2 Q E
def y5v (C : Addr) (sp : Sp) (dvs : List V) (E : XK) (t : TA) : TE := fun σ H Q => t σ H fun vs H1 => ∀ x dx, H1 x = none -> H1 dx = none -> dx ≠ x ->
 sp (.ref x :: (vs ++ dvs)) (upd (upd H1 dx (.own x)) x (.ins C dx [])) (fun v H2 => v = .non /\ Q (.ref x) H2) E
def z1J (K : PySem.W.Frag) (fd : FuncData) (ps : List Str) (ds : List Value) : Prop :=
 ∀ (s : Shared) (us : List Value), K.In s.heap -> (us ++ ds).length = ps.length -> BindsTo s fd ⟨us, []⟩ (ps.zip (us ++ ds))
theorem z1J.all {K : PySem.W.Frag} {fd : FuncData} {ps : List Str} (h : ∀ us : List Value, us.length = ps.length -> bindArgs fd ⟨us, []⟩ = pure (ps.zip us)) : z1J K fd ps [] := fun s us _ hl => by
 rw [List.append_nil] at hl ⊢
 exact .of_eq (h us hl)
def z6y (CX : CXT) (X : Cx) (E : XK) : Prop := ∀ (pins : List (Addr × Obj)) (σ : St) (H : Hp) (s : Shared) (e : Value) (s' : Shared), Inv X pins σ H s -> CX X.stack H s E e s' -> X.xe e s'
section
variable {X : Cx} {CX : CXT} {k : Nat} {f C : Addr} {fd : FuncData} {ps : List Str} {sp : Sp} {dvs : List V} {ds : List Value} {E : XK} {x m : Str} {p pos apos : Pos} {e o : Expr} {es : List Expr} {ta : TE} {t : TA}
theorem y17 {pins : List (Addr × Obj)} {σ : St} {H : Hp} {s : Shared} {Q : VK} {us : List Value} {vs : List V} (F : FnOk X.prog X.w X.K X.mg X.base CX k f fd ps sp) (hr : Room k X.A) (hb : z1J X.K fd ps ds) (hd : Vals dvs ds) (hx : z6y CX X E)
  (I : Inv X pins σ H s) (r : Vals vs us) (h : sp (vs ++ dvs) H Q E) : wpAny (model X.prog X.w) X.A (call (.ref f) us) (EP X pins σ Q) X.xe s := by
 have r2 : Vals (vs ++ dvs) (us ++ ds) := r.append hd
 have hl : (us ++ ds).length = ps.length := by rw [<- r2.length]; exact F.len _ _ _ _ h
 refine wpAny_call (codeAny_mono (F.run X.A X.stack s H ⟨us, []⟩ (us ++ ds) (vs ++ dvs) Q E hr I.env0 (hb s us I.kIn hl) r2 h) fun r s' hq => ?_)
 cases r with
 | error e => exact hx pins σ H s e s' I hq
 | ok fl =>
  cases fl with
  | ret u => exact I.after hq
  | next => exact False.elim hq
  | brk => exact False.elim hq
  | cont => exact False.elim hq
theorem y4p (F : FnOk X.prog X.w X.K X.mg X.base CX k f fd ps sp) (hr : Room k X.A) (hg : Gl X x) (hm : X.mg x = some (.ref f)) (hk : PySem.W.keepIn X.K (.ref f) = true) (hb : z1J X.K fd ps ds) (hd : Vals dvs ds) (hx : z6y CX X E)
  (ha : PA X (e :: es) t) (hdb : (x == ("__debug__" : Str)) = false := by decide) (he : starEach (e :: es) X.env = (false, eval e X.env) :: starEach es X.env := by rfl) (hpl : (backTo pos (starEach es X.env)).any (·.1) = false := by rfl) :
  PE X (.Call (.Name x p) (e :: es) [] pos) (y50 sp dvs E t) := by
 intro pins s σ H Q I h
 refine wpAny_Call_Name_kw (z8Q I hg hm ?_ hdb)
 refine PySem.W.callWith_K (h₀ := X.base) I.ok.mod.kin hk (thn (ha pos pins s σ H _ I h) fun us s1 ⟨vs, H1, I1, r, q⟩ => ⟨I1.kIn, ?_⟩) he hpl
 exact y17 F hr hb hd hx I1 r q
theorem y0Z {pl : Sem Bool} (he : PE X o ta) (c : Cls X.K C) (hm : Meth X.K C m f) (F : FnOk X.prog X.w X.K X.mg X.base CX k f fd ps sp) (hr : Room k X.A) (hb : z1J X.K fd ps ds) (hd : Vals dvs ds) (hx : z6y CX X E) (ha : PA X (e :: es) t)
  (hst : starEach (e :: es) X.env = (false, eval e X.env) :: starEach es X.env := by rfl) (hpl : (backTo pos (starEach es X.env)).any (·.1) = false := by rfl)
  (ht : eval (.Call (.Attribute o m apos) (e :: es) [] pos) X.env = (do
   let ov <- eval o X.env
   standAt apos.atName
   let (f, first) <- holding [ov] (getMethod ov m pl)
   callWith pos f first (backTo pos (starEach (e :: es) X.env)) (backToKw pos (keywordEach [] X.env))) := by rfl) :
  PE X (.Call (.Attribute o m apos) (e :: es) [] pos) (y2e C m sp dvs E ta t) := by
 intro pins s σ H Q I h
 refine PySem.W.methodCall_KW (pl := pl) (thn (he pins s σ H _ I h) fun u s1 hz => ?_) ht
 obtain ⟨x, H1, I1, rx, a, dx, fs, ex, ea, l, q⟩ := hz
 subst ex
 obtain rfl : u = Value.ref a := rx
 refine z5a I1 ea c hm l ?_
 refine PySem.W.callWith_K (first := [.ref a]) (h₀ := X.base) I.ok.mod.kin hm.kp (thn (ha pos pins s1 σ H1 _ I1 q) fun us s2 ⟨vs, H2, I2, r, q2⟩ => ⟨I2.kIn, ?_⟩) hst hpl
 exact y17 (us := .ref a :: us) (vs := .ref a :: vs) F hr hb hd hx I2 (.cons rfl r) q2
theorem y2L {pl : Sem Bool} (he : PE X o ta) (c : Cls X.K C) (hm : Meth X.K C m f) (F : FnOk X.prog X.w X.K X.mg X.base CX k f fd ps sp) (hr : Room k X.A) (hb : z1J X.K fd ps ds) (hd : Vals dvs ds) (hx : z6y CX X E)
  (ht : eval (.Call (.Attribute o m apos) [] [] pos) X.env = (do
   let ov <- eval o X.env
   standAt apos.atName
   let (f, first) <- holding [ov] (getMethod ov m pl)
   callWith pos f first (backTo pos (starEach [] X.env)) (backToKw pos (keywordEach [] X.env))) := by rfl) :
  PE X (.Call (.Attribute o m apos) [] [] pos) (y2e C m sp dvs E ta tNil) := by
 intro pins s σ H Q I h
 refine PySem.W.methodCall_KW (pl := pl) (thn (he pins s σ H _ I h) fun u s1 hz => ?_) ht
 obtain ⟨x, H1, I1, rx, a, dx, fs, ex, ea, l, q⟩ := hz
 subst ex
 obtain rfl : u = Value.ref a := rx
 refine z5a I1 ea c hm l ?_
 exact PySem.W.callWith_K0 (first := [.ref a]) I1.kIn hm.kp (y17 (us := [.ref a]) (vs := [.ref a]) F hr hb hd hx I1 (.cons rfl .nil) q)
structure Mk (K : PySem.W.Frag) (C f : Addr) : Prop where
 makes : PySem.W.makesIn K C = true
 init : PySem.W.findIn K (.ref C) "__init__" = some (some (.ref f))
 fn : PySem.W.isFn K (.ref f) = true
 kp : PySem.W.keepIn K (.ref C) = true
theorem y34 {pins : List (Addr × Obj)} {σ : St} {H : Hp} {s : Shared} {Q : VK} {us : List Value} {vs : List V} (M : Mk X.K C f) (F : FnOk X.prog X.w X.K X.mg X.base CX k f fd ps sp) (hr : Room (k + 1) X.A) (hb : z1J X.K fd ps ds) (hd : Vals dvs ds)
  (hx : z6y CX X E) (I : Inv X pins σ H s) (r : Vals vs us)
  (h : ∀ x dx, H x = none -> H dx = none -> dx ≠ x -> sp (.ref x :: (vs ++ dvs)) (upd (upd H dx (.own x)) x (.ins C dx [])) (fun v H2 => v = .non /\ Q (.ref x) H2) E) :
  wpAny (model X.prog X.w) X.A (call (.ref C) us) (EP X pins σ Q) X.xe s := by
 have hq := h (s.heap.objs.size + 1) s.heap.objs.size (I.hok.fresh (Nat.le_succ _)) (I.hok.fresh (Nat.le_refl _)) (Nat.ne_of_lt (Nat.lt_succ_self _))
 have I2 := Inv.made (C := C) I
 have r2 : Vals (V.ref (s.heap.objs.size + 1) :: (vs ++ dvs)) (Value.ref (s.heap.objs.size + 1) :: (us ++ ds)) := .cons rfl (r.append hd)
 have hl : (Value.ref (s.heap.objs.size + 1) :: us ++ ds).length = ps.length := by
  have e := r2.length
  rw [F.len _ _ _ _ hq] at e
  exact e.symm
 refine wpAny_call (y30 (f := f) I.kIn M.makes M.init (beq_iff_eq.mp M.fn) (codeAny_mono (F.run _ X.stack _ _ ⟨Value.ref (s.heap.objs.size + 1) :: us, []⟩ (Value.ref (s.heap.objs.size + 1) :: (us ++ ds)) _ _ E (hr.make C us [])
  (I2.env0.make C us []) (hb _ (Value.ref (s.heap.objs.size + 1) :: us) I2.kIn hl) r2 hq) fun r s' hq' => ?_))
 cases r with
 | error e => exact hx pins σ _ _ e s' I2 hq'
 | ok fl =>
  cases fl with
  | ret u =>
   obtain ⟨v, H', I3, rv, ev, q3⟩ := I2.after hq'
   subst ev
   exact ⟨rv, ⟨V.ref (s.heap.objs.size + 1), H', I3, rfl, q3⟩⟩
  | next => exact False.elim hq'
  | brk => exact False.elim hq'
  | cont => exact False.elim hq'
theorem y4C (M : Mk X.K C f) (F : FnOk X.prog X.w X.K X.mg X.base CX k f fd ps sp) (hr : Room (k + 1) X.A) (hg : Gl X x) (hm : X.mg x = some (.ref C)) (hb : z1J X.K fd ps ds) (hd : Vals dvs ds) (hx : z6y CX X E)
  (ha : PA X (e :: es) t) (hdb : (x == ("__debug__" : Str)) = false := by decide) (he : starEach (e :: es) X.env = (false, eval e X.env) :: starEach es X.env := by rfl) (hpl : (backTo pos (starEach es X.env)).any (·.1) = false := by rfl) :
  PE X (.Call (.Name x p) (e :: es) [] pos) (y5v C sp dvs E t) := by
 intro pins s σ H Q I h
 refine wpAny_Call_Name_kw (z8Q I hg hm ?_ hdb)
 refine PySem.W.callWith_K (h₀ := X.base) I.ok.mod.kin M.kp (thn (ha pos pins s σ H _ I h) fun us s1 ⟨vs, H1, I1, r, q⟩ => ⟨I1.kIn, ?_⟩) he hpl
 exact y34 M F hr hb hd hx I1 r q
end
def PK (X : Cx) (kws : List Keyword) (t : TA) : Prop :=
 ∀ (pos : Pos) (pins : List (Addr × Obj)) (s : Shared) (σ : St) (H : Hp) (Q : List V -> Hp -> Prop), Inv X pins σ H s -> t σ H Q -> wpAny (model X.prog X.w) X.A (evalAll ((backToKw pos (keywordEach kws X.env)).map (·.2))) (AP X pins σ Q) X.xe s
section
variable {X : Cx} {CX : CXT} {k : Nat} {f C : Addr} {fd : FuncData} {ps ks : List Str} {sp : Sp} {E : XK} {x m : Str} {p pos apos kpos : Pos} {e o : Expr} {es : List Expr} {kws : List Keyword} {te ta : TE} {t tk : TA} {nm : Option Str}
theorem z9M : PK X [] tNil := fun _ _ _ _ H Q I h => wpAny_evalAll_nil ⟨[], H, I, .nil, h⟩
theorem z7q (ha : PE X e te) (hr : PK X kws t) : PK X (⟨nm, e, kpos⟩ :: kws) (y4z te t) := by
 intro pos pins s σ H Q I h
 show wpAny _ _ (evalAll ((do let v <- eval e X.env; standAt pos; pure v) :: (backToKw pos (keywordEach kws X.env)).map (·.2))) _ _ s
 refine wpAny_evalAll_cons (wpAny_bind (thn (ha pins s σ H _ I h) fun u s1 ⟨x, H1, I1, r1, q1⟩ => wpAny_bind (wpAny_standAt (wpAny_pure ?_))))
 exact thn (hr pos pins s1 σ H1 _ I1 q1) fun us s2 ⟨xs, H2, I2, r2, q2⟩ => ⟨x :: xs, H2, I2, .cons r1 r2, q2⟩
variable {g : List Value -> List Value -> List Value} {gV : List V -> List V -> List V}
end
structure FnScope (N P : List Str) (sc : Scope) : Prop where
 kind : sc.kind = .function
 co : sc.isCoroutine = false
 gen : sc.isGenerator = false
 nd : N.Nodup
 pre : N.take P.length = P
 par : ∀ x ∈ P, sc.names.lookup x = some .local \/ sc.names.lookup x = some .cell
 nofree : ∀ y ∈ sc.names, y.2 ≠ .free
theorem z8j {kindOf : Str -> Option NameKind} {x : Str} : ∀ {binds : List (Str × Value)} {m : Str -> Option Value}, (∀ v, (x, v) ∉ binds) -> bindL kindOf binds m x = m x
 | [], _, _ => rfl
 | (n, v) :: r, m, h => by
  unfold bindL
  rw [z8j fun w hw => h w (List.mem_cons_of_mem _ hw)]
  split
  ·have : x ≠ n := by rintro rfl; exact h v List.mem_cons_self
   simp [this]
  ·rfl
theorem z8E {kindOf : Str -> Option NameKind} {x : Str} : ∀ {binds : List (Str × Value)} {m : Str -> Option Value}, (∀ v, (x, v) ∉ binds) -> bindC kindOf binds m x = m x
 | [], _, _ => rfl
 | (n, v) :: r, m, h => by
  unfold bindC
  rw [z8E fun w hw => h w (List.mem_cons_of_mem _ hw)]
  split
  ·rfl
  ·have : x ≠ n := by rintro rfl; exact h v List.mem_cons_self
   simp [this]
theorem z87 {kindOf : Str -> Option NameKind} {x : Str} {v : Value} : ∀ {P : List Str} {vs : List Value} {i : Nat} {m : Str -> Option Value}, P.Nodup -> P[i]? = some x -> vs[i]? = some v -> kindOf x = some .local ->
  bindL kindOf (P.zip vs) m x = some v
 | [], _, _, _, _, h, _, _ => by simp at h
 | _ :: _, [], _, _, _, _, h, _ => by simp at h
 | p :: P, w :: vs, 0, m, nd, h1, h2, hk => by
  simp at h1 h2; subst h1; subst h2
  show bindL kindOf ((p, w) :: P.zip vs) m p = _
  unfold bindL
  rw [z8j fun v hv => (List.nodup_cons.mp nd).1 (List.of_mem_zip hv).1, if_pos hk]
  simp
 | p :: P, w :: vs, i + 1, m, nd, h1, h2, hk => by
  show bindL kindOf ((p, w) :: P.zip vs) m x = _
  unfold bindL
  exact z87 (i := i) (List.nodup_cons.mp nd).2 (by simpa using h1) (by simpa using h2) hk
theorem z8C {kindOf : Str -> Option NameKind} {x : Str} {v : Value} : ∀ {P : List Str} {vs : List Value} {i : Nat} {m : Str -> Option Value}, P.Nodup -> P[i]? = some x -> vs[i]? = some v -> kindOf x ≠ some .local ->
  bindC kindOf (P.zip vs) m x = some v
 | [], _, _, _, _, h, _, _ => by simp at h
 | _ :: _, [], _, _, _, _, h, _ => by simp at h
 | p :: P, w :: vs, 0, m, nd, h1, h2, hk => by
  simp at h1 h2; subst h1; subst h2
  show bindC kindOf ((p, w) :: P.zip vs) m p = _
  unfold bindC
  rw [z8E fun v hv => (List.nodup_cons.mp nd).1 (List.of_mem_zip hv).1, if_neg hk]
  simp
 | p :: P, w :: vs, i + 1, m, nd, h1, h2, hk => by
  show bindC kindOf ((p, w) :: P.zip vs) m x = _
  unfold bindC
  exact z8C (i := i) (List.nodup_cons.mp nd).2 (by simpa using h1) (by simpa using h2) hk
def z5t (N : List Str) (vs : List V) : St := vs.map some ++ List.replicate (N.length - vs.length) none
def cxOf (CX : CXT) (P : Program) (w : World) (K : PySem.W.Frag) (mg : Str -> Option Value) (base : Heap) (N : List Str) (qual : Str) (scope : Scope) (f : Addr) (cd : Value) (A : Around) (outer : List Env) (s : Shared) (H : Hp) (E : XK) : Cx where
 prog := P
 w := w
 K := K
 mg := mg
 base := base
 A := A.deeper (envOfC qual scope s.heap.objs.size f cd)
 N := N
 s₀ := s
 H₀ := H
 env := envOfC qual scope s.heap.objs.size f cd
 outer := outer
 stack := envOfC qual scope s.heap.objs.size f cd :: outer
 ex := []
 calm := true
 fn := fun _ => true
 pn := []
 xe := fun e s' => wpAny (model P w) (A.deeper (envOfC qual scope s.heap.objs.size f cd)) (leaving (envOfC qual scope s.heap.objs.size f cd) e) (fun _ s'' => CX outer H s E e s'') (fun e' s'' => CX outer H s E e' s'') s'
theorem z9j {sc : Scope} {n : Nat} {x : Str} (h : sc.names.lookup x = some .cell) : ∃ c, (cellsFrom n sc.names []).lookup x = some c := by
 have q := PySem.W.cellsFrom_some sc.names n [] (.inl h)
 exact Option.isSome_iff_exists.mp q
theorem y2b {CX : CXT} {P : Program} {w : World} {K : PySem.W.Frag} {mg : Str -> Option Value} {base : Heap} {N ps : List Str} {qual : Str} {scope : Scope} {f : Addr} {cd : Value} {A : Around} {outer : List Env} {s s1 : Shared} {H : Hp} {E : XK} {us : List Value} {vs : List V}
  (S : FnScope N ps scope) (hd : A.handled = none) (e0 : Env0 P w K mg base A outer s H) (hl : vs.length = ps.length) (r : Vals vs us)
  (x : InCallC s s.heap.objs.size (bindL (envOfC qual scope s.heap.objs.size f cd).kindOf (ps.zip us) fun _ => none) (cellsFrom (s.heap.objs.size + 1) scope.names []) (bindC (envOfC qual scope s.heap.objs.size f cd).kindOf (ps.zip us) fun _ => none) s1) :
  Inv (cxOf CX P w K mg base N qual scope f cd A outer s H E) [] (z5t N vs) H s1 := by
 have hpl : ps.length ≤ N.length := by have := congrArg List.length S.pre; rw [List.length_take] at this; omega
 obtain ⟨h1, tk, rfl, hk⟩ := x.done
 have noA : ∀ b : Addr, b ∉ (cxOf CX P w K mg base N qual scope f cd A outer s H E).ex := fun b z => absurd (show b ∈ ([] : List Addr) from z) (by simp)
 refine ⟨⟨e0.mod, S.kind, rfl, rfl, Nat.le_refl _, fun y z c h1 h2 => ?_, fun y hy => ?_, fun y c _ h => ?_, fun _ => hd, Around.frames_deeper e0.frames, .inr ⟨rfl, rfl⟩, fun b z => absurd z (noA b), e0.bs, e0.bsz, fun b _ _ => noA b, fun b z => absurd z (noA b), e0.funs, e0.frf⟩,
  rfl, e0.bare, Un.kept hk, ⟨_, x.toInCall.ns, fun i y v h1 h2 h3 => ?_⟩, fun y c h => ⟨_, x.cell y c h⟩, e0.hok.fresh (Nat.le_refl _), fun y c h => ?_, fun p hp => absurd (show p ∈ ([] : List (Addr × Obj)) from hp) (by simp), e0.hok.kept hk, ?_⟩
 ·exact name_of_addr x.apart (PySem.mem_of_lookup h1) (PySem.mem_of_lookup h2)
 ·have hy : scope.names.lookup y = some .cell \/ scope.names.lookup y = some .free := hy
  rcases hy with hy | hy
  ·exact z9j hy
  ·exact absurd rfl (S.nofree _ (PySem.mem_of_lookup hy))
 ·exact Nat.le_of_lt (x.above y c (PySem.mem_of_lookup h))
 ·have hi : i < vs.length := by
   unfold z5t at h2
   by_cases hi : i < vs.length
   ·exact hi
   ·rw [List.getElem?_append_right (by simpa using hi)] at h2
    rw [List.getElem?_replicate] at h2
    split at h2 <;> cases h2
  have ha : vs[i]? = some v := by
   unfold z5t at h2
   rw [List.getElem?_append_left (by simpa using hi), List.getElem?_map] at h2
   cases e : vs[i]? with
   | none => rw [e] at h2; cases h2
   | some a => rw [e] at h2; cases h2; rfl
  obtain ⟨u, hu, rv⟩ := r.get ha
  have hp : ps[i]? = some y := by
   rw [<- S.pre, List.getElem?_take_of_lt (by omega)]; exact h1
  have ndP : ps.Nodup := by rw [<- S.pre]; exact S.nd.sublist (List.take_sublist _ _)
  refine ⟨u, rv, ?_⟩
  rcases S.par y (List.mem_of_getElem? hp) with k | k
  ·exact .inl ⟨k, z87 ndP hp hu k⟩
  ·obtain ⟨c, e⟩ := z9j (n := s.heap.objs.size + 1) k
   refine .inr ⟨.inl k, c, e, ?_⟩
   have q := x.cell y c e
   rw [z8C ndP hp hu (by show scope.names.lookup y ≠ _; rw [k]; decide)] at q
   exact q
 ·exact e0.hok.fresh (Nat.le_of_lt (x.above y c (PySem.mem_of_lookup h)))
 ·unfold z5t
  show _ = N.length
  rw [List.length_append, List.length_map, List.length_replicate]
  omega
theorem y5n {CX : CXT} {P : Program} {w : World} {K : PySem.W.Frag} {mg : Str -> Option Value} {base : Heap} {k : Nat} {f : Addr} {name qual : Str} {params : Arguments} {body : List Stmt} {scope : Scope} {dV kV doc pm cdv ct oc : Value} {an od : Option Addr}
  {osl : Array (Option Value)} {N ps : List Str} {sp : Sp} (lk : K.lookup f = some ⟨oc, od, .func (PySem.W.fnOf name qual params body scope dV kV doc pm an cdv ct), osl⟩) (hcd : PySem.W.codeIn K cdv qual = true) (S : FnScope N ps scope)
  (len : ∀ vs H Q E, sp vs H Q E -> vs.length = ps.length)
  (hbody : ∀ (A : Around) (outer : List Env) (s : Shared) (H : Hp) (vs : List V) (Q : VK) (E : XK), Room k (A.deeper (envOfC qual scope s.heap.objs.size f cdv)) -> sp vs H Q E ->
   ∃ t, PSs (cxOf CX P w K mg base N qual scope f cdv A outer s H E) body t /\ t { nx := fun _ H' => Q .non H', rt := Q } (z5t N vs) H) :
  FnOk P w K mg base CX (k + 1) f (PySem.W.fnOf name qual params body scope dV kV doc pm an cdv ct) ps sp := by
 refine ⟨len, fun A outer s H args us vs Q E hr e0 hb r hsp => ?_⟩
 have hl := len _ _ _ _ hsp
 have KX : K.In s.heap := e0.mod.kin.keeps fun b o e => (e0.bs b o e).1
 have lim : s.heap.NoLimit := e0.mod.nolimit.keeps fun b o e => (e0.bs b o e).1
 have hkind : ∀ y ∈ ps.zip us, scope.names.lookup y.1 = some .local \/ (scope.names.lookup y.1 = some .cell /\ ((cellsFrom (s.heap.objs.size + 1) scope.names []).lookup y.1).isSome = true) := fun ⟨n, v⟩ hy => by
  rcases S.par n (List.of_mem_zip hy).1 with q | q
  ·exact .inl q
  ·exact .inr ⟨q, PySem.W.cellsFrom_some _ _ _ (.inl q)⟩
 refine codeAny_call_function hr.depth (KX _ _ lk) rfl S.co S.gen rfl (PySem.W.codeRec_of KX hcd) (hb _ _ _ _ ?_)
 refine wpAny_newFunctionEnv_cells S.kind hkind fun env he s1 x => ?_
 subst he
 refine ⟨lim.keeps x.toInCall.keep, codeAny_func ?_⟩
 obtain ⟨t, ht, hq⟩ := hbody A outer s H vs Q E (hr.deeper _) hsp
 have I : Inv (cxOf CX P w K mg base N qual scope f cdv A outer s H E) [] (z5t N vs) H s1 := y2b S hr.hd e0 hl r x
 refine wpAny_mono (ht [] s1 (z5t N vs) H _ I hq) (fun fl s' hs => ?_) fun e s' hs => hs
 have fin : ∀ {σ' : St} {H' : Hp} {v : V} {u : Value}, Inv (cxOf CX P w K mg base N qual scope f cdv A outer s H E) [] σ' H' s' -> RelV v u -> Q v H' -> CE outer P w H s Q u s' :=
  fun {σ' H' v u} J rv q => ⟨v, H', J.os, J.bare, J.base, J.hok, rv, q⟩
 cases fl with
 | ret u =>
  obtain ⟨v, σ', H', J, rv, q⟩ := hs
  exact fin J rv q
 | next =>
  obtain ⟨σ', H', J, q⟩ := hs
  exact fin (v := V.non) (u := Value.none) J rfl q
 | brk =>
  obtain ⟨_, _, _, q⟩ := hs
  exact False.elim q
 | cont =>
  obtain ⟨_, _, _, q⟩ := hs
  exact False.elim q
section
variable {X : Cx} {x : Str} {p pos : Pos} {e : Expr} {es : List Expr} {t : TA} {id T : String} {r : List V -> Hp -> VK -> Prop}
def tCB (r : List V -> Hp -> VK -> Prop) (t : TA) : TE := fun σ H Q => t σ H fun vs H1 => r vs H1 Q
theorem z0c (hc : z3c X (.builtin id) r) (hg : Gl X x) (hm : X.mg x = none) (hv : bootBuiltins x = some (.builtin id)) (ha : PA X (e :: es) t) (hn : x ≠ "__name__" := by decide) (hdb : (x == ("__debug__" : Str)) = false := by decide)
  (he : starEach (e :: es) X.env = (false, eval e X.env) :: starEach es X.env := by rfl) (hpl : (backTo pos (starEach es X.env)).any (·.1) = false := by rfl) : PE X (.Call (.Name x p) (e :: es) [] pos) (tCB r t) := by
 intro pins s σ H Q I h
 refine wpAny_Call_Name_kw (z4U I hg hm hv ?_ hn hdb)
 exact PyProof.Rows.callWith_builtin1 (thn (ha pos pins s σ H _ I h) fun us s1 ⟨vs, H1, I1, r1, q1⟩ => hc pins s1 σ H1 vs us Q I1 r1 q1) he hpl
theorem z0t (hc : z3c X (.type T) r) (hg : Gl X x) (hm : X.mg x = none) (hv : bootBuiltins x = some (.type T)) (ha : PA X (e :: es) t) (hn : x ≠ "__name__" := by decide) (hdb : (x == ("__debug__" : Str)) = false := by decide)
  (he : starEach (e :: es) X.env = (false, eval e X.env) :: starEach es X.env := by rfl) (hpl : (backTo pos (starEach es X.env)).any (·.1) = false := by rfl) : PE X (.Call (.Name x p) (e :: es) [] pos) (tCB r t) := by
 intro pins s σ H Q I h
 refine wpAny_Call_Name_kw (z4U I hg hm hv ?_ hn hdb)
 exact PyProof.Rows.callWith_type1 (thn (ha pos pins s σ H _ I h) fun us s1 ⟨vs, H1, I1, r1, q1⟩ => hc pins s1 σ H1 vs us Q I1 r1 q1) he hpl
end
end L2
namespace HT
open PySem PyProof.Rows
section
open PySem.SeqAt
open PySem.AutoSeq1 (wpAny_loadPart')
open PySem.MeetsSeq PySem.MeetsSeq2 PySem.MeetsSeq3
end
section
variable {prog : Program} {w : World} {A : Around} {E : Value -> Shared -> Prop} {s : Shared}
def sIx (n d : Nat) : Option Int -> Nat
 | none => d
 | some v => if v < 0 then (v + (n : Int)).toNat else min v.toNat n
theorem z8V (n d k : Nat) : sIx n d (some (k : Int)) = min k n := by
 show (if (k : Int) < 0 then ((k : Int) + (n : Int)).toNat else min (k : Int).toNat n) = min k n
 rw [if_neg (by omega), Int.toNat_natCast]
theorem y3z (n d : Nat) (hd : d ≤ n) (o : Option Int) : sIx n d o ≤ n := by
 cases o with
 | none => exact hd
 | some v =>
  show (if v < 0 then (v + (n : Int)).toNat else min v.toNat n) ≤ n
  by_cases hv : v < 0
  ·rw [if_pos hv]; omega
  ·rw [if_neg hv]; exact Nat.min_le_right _ _
theorem y1R (v : Int) (n d : Nat) : (if v < 0 then max (v + (n : Int)) 0 else min v (n : Int)) = ((sIx n d (some v) : Nat) : Int) := by
 show (if v < 0 then max (v + (n : Int)) 0 else min v (n : Int)) = (((if v < 0 then (v + (n : Int)).toNat else min v.toNat n) : Nat) : Int)
 by_cases hv : v < 0
 ·simp only [if_pos hv]; omega
 ·simp only [if_neg hv]; omega
theorem y0a (lo hi : Option Int) (n : Nat) : Builtin.Slice.sliceAdjust lo hi 1 (n : Int) = (((sIx n 0 lo : Nat) : Int), ((sIx n n hi : Nat) : Int)) := by
 have h1 : ¬ ((1 : Int) < 0) := by omega
 unfold Builtin.Slice.sliceAdjust
 simp only [h1, if_false]
 refine Prod.ext ?_ ?_
 ·cases lo with
  | none => rfl
  | some v => exact y1R v n 0
 ·cases hi with
  | none => rfl
  | some v => exact y1R v n n
theorem y0d (i j : Nat) : Builtin.Slice.slicePlaces (i : Int) (j : Int) 1 = j - i := by
 unfold Builtin.Slice.slicePlaces
 have h1 : (1 : Int) > 0 := by omega
 simp only [h1, if_true, Int.ediv_one]
 split <;> omega
theorem z7f {v : Value} {o : Option Int} {Q : Option Int -> Shared -> Prop} (p : IsPart v o) (h : Q o s) : wpAny (model prog w) A (Builtin.Slice.slicePartIndex v) Q E s := by
 cases p with
 | none => exact slicePart_none h
 | int i t => exact slicePart_int h
theorem z3j {sl : Addr} {vl vu : Value} {lo hi : Option Int} {n : Nat} {Q : Int × Int × Nat -> Shared -> Prop} (hs : s.heap.IsSliceOf sl vl vu .none) (pl : IsPart vl lo) (pu : IsPart vu hi)
  (h : Q (((sIx n 0 lo : Nat) : Int), 1, sIx n n hi - sIx n 0 lo) s) : wpAny (model prog w) A (Builtin.Slice.sliceApplied (.ref sl) (pure (n : Int))) Q E s := by
 obtain ⟨os, hos, hcs, hds⟩ := id hs
 unfold Builtin.Slice.sliceApplied Builtin.Slice.sliceFields
 refine wpAny_bind (wpAny_bind (wpAny_field hos hds (x := vl) rfl (wpAny_bind (wpAny_field hos hds (x := vu) rfl (wpAny_bind (wpAny_field hos hds (x := .none) rfl (wpAny_pure ?_)))))))
 refine wpAny_bind (slicePart_none ?_)
 show wpAny _ _ (if ((1 : Int) == 0) = true then _ else _) _ _ s
 rw [if_neg (by decide)]
 refine wpAny_bind (z7f pl (wpAny_bind (z7f pu (wpAny_bind (wpAny_pure ?_)))))
 show wpAny _ _ (match Builtin.Slice.sliceAdjust lo hi 1 (n : Int) with | (lo, hi) => pure (lo, (1 : Int), Builtin.Slice.slicePlaces lo hi 1)) _ _ s
 rw [y0a lo hi n]
 show wpAny _ _ (pure (((sIx n 0 lo : Nat) : Int), (1 : Int), Builtin.Slice.slicePlaces ((sIx n 0 lo : Nat) : Int) ((sIx n n hi : Nat) : Int) 1)) _ _ s
 rw [y0d]
 exact wpAny_pure h
theorem y2T (xs : Array Value) (i k : Nat) : ((List.range k).filterMap fun (m : Nat) => xs[((i : Int) + (m : Int) * 1).toNat]?).toArray = ((xs.toList.drop i).take k).toArray := by
 have e : (fun (m : Nat) => xs[((i : Int) + (m : Int) * 1).toNat]?) = fun m => xs[i + m]? := by
  funext m
  have : ((i : Int) + (m : Int) * 1).toNat = i + m := by omega
  rw [this]
 rw [e]
 have := pick_run xs i k
 rw [List.filterMap_map] at this
 have e2 : ((fun x => xs[x]?) ∘ fun x => i + x) = fun m => xs[i + m]? := rfl
 rw [e2] at this
 rw [this]
theorem z5g {t sl : Addr} {items : Array Value} {vl vu : Value} {lo hi : Option Int} {Q : Value -> Shared -> Prop} (ht : IsTup s.heap t items) (hs : s.heap.IsSliceOf sl vl vu .none) (pl : IsPart vl lo) (pu : IsPart vu hi)
  (hw : ¬ (sIx items.size 0 lo = 0 /\ sIx items.size items.size hi = items.size))
  (h : Q (.ref s.heap.objs.size) { s with heap := s.heap.push { cls := .type "tuple", data := .seq ((items.toList.drop (sIx items.size 0 lo)).take (sIx items.size items.size hi - sIx items.size 0 lo)).toArray } })
  (hsz : items.size ≤ sizeLine) : wpAny (model prog w) A (getItem (.ref t) (.ref sl)) Q E s := by
 have htake : sizeOk (.seq ((items.toList.drop (sIx items.size 0 lo)).take (sIx items.size items.size hi - sIx items.size 0 lo)).toArray) := by
  show ((items.toList.drop (sIx items.size 0 lo)).take (sIx items.size items.size hi - sIx items.size 0 lo)).toArray.size ≤ sizeLine
  rw [List.size_toArray, List.length_take, List.length_drop, Array.length_toList]
  omega
 have hj : sIx items.size items.size hi ≤ items.size := y3z _ _ (Nat.le_refl _) hi
 obtain ⟨os, hos, hcs, hds⟩ := id hs
 have hTs : s.TypeIs (.ref sl) "slice" := ⟨os, hos, hcs⟩
 unfold getItem
 try with_reducible refine wpAny_holding ?_
 first | refine wpAny_bind (wpAny_pure ?_) | skip
 refine wpAny_bind (wpAny_sequenceKey ht.typeIs (by decide) ?_)
 refine wpAny_bind (wpAny_callSpecial?_slot (name := Str.ofString "__getitem__") ht.typeIs PyProof.Rows.slot_tuple_getitem
  (wpAny_call_entry PyProof.Rows.slot_tuple_getitem ht.typeIs entry_tuple_getitem ?_ (args_tuple_getitem _ _)))
 show wpAny _ _ (Builtin.Tuple.tupleItemsOf (.ref t) >>= _) _ _ s
 refine wpAny_bind (tupleItemsOf_ ht ?_)
 refine wpAny_bind (wpAny_typeOf hTs ?_)
 rw [if_pos (by decide)]
 refine wpAny_bind (z3j hs pl pu ?_)
 have hno : ¬ ((((sIx items.size 0 lo : Nat) : Int) == 0 && (1 : Int) == 1 && (sIx items.size items.size hi - sIx items.size 0 lo) == items.size) = true) := by
  intro q
  rw [Bool.and_eq_true, Bool.and_eq_true] at q
  have q1 : ((sIx items.size 0 lo : Nat) : Int) = 0 := eq_of_beq q.1.1
  have q2 : sIx items.size items.size hi - sIx items.size 0 lo = items.size := eq_of_beq q.2
  exact hw ⟨by omega, by omega⟩
 show wpAny _ _ (if (((sIx items.size 0 lo : Nat) : Int) == 0 && (1 : Int) == 1 && (sIx items.size items.size hi - sIx items.size 0 lo) == items.size) = true then _ else _) _ _ s
 rw [if_neg hno, y2T]
 first
  | exact wpAny_bind (m := Builtin.Tuple.tupleExact _) (wpAny_newObj_type (wpAny_pure ⟨_, rfl, wpAny_pure h⟩) htake)
  | exact wpAny_bind (m := Builtin.Tuple.tupleExact _) (wpAny_newObj_type (wpAny_bind (wpAny_pure (wpAny_pure ⟨_, rfl, wpAny_pure h⟩))) htake)
  | exact wpAny_bind (wpAny_bind (m := Builtin.Tuple.tupleExact _) (wpAny_newObj_type (wpAny_pure (wpAny_pure ⟨_, rfl, wpAny_pure h⟩)) htake))
  | exact wpAny_bind (wpAny_bind (m := Builtin.Tuple.tupleExact _) (wpAny_newObj_type (wpAny_pure ⟨_, rfl, wpAny_pure h⟩) htake))
end
end HT
namespace L2
open PySem PySem.Spec PyProof.Rows
abbrev TO := St -> Hp -> (Option Int -> Hp -> Prop) -> Prop
def PO (X : Cx) (e : Option Expr) (t : TO) : Prop :=
 ∀ (pins : List (Addr × Obj)) (s : Shared) (σ : St) (H : Hp) (Q : Option Int -> Hp -> Prop), Inv X pins σ H s -> t σ H Q ->
  wpAny (model X.prog X.w) X.A (evalPart e X.env) (fun u s' => ∃ o H', Inv X pins σ H' s' /\ IsPart u o /\ Q o H') X.xe s
def y4K : TO := fun _ H Q => Q none H
def tPart (t : TE) : TO := fun σ H Q => t σ H fun x H1 => ∃ i, x = .int i /\ Q (some i) H1
theorem y0i {ns : List Int} : ∀ {us : List Value}, Vals (ns.map V.int) us -> IntsAre us ns := by
 induction ns with
 | nil => intro us r; rw [List.map_nil] at r; cases r; exact .nil
 | cons n ns ih =>
  intro us r
  rw [List.map_cons] at r
  cases r with
  | cons r1 r2 =>
   obtain ⟨t, e⟩ := r1
   subst e
   exact .cons n t (ih r2)
section
variable {X : Cx} {e : Expr} {te : TE} {lo hi : Option Expr} {tl th : TO} {pos p2 : Pos}
theorem z4x : PO X none y4K := by
 intro pins s σ H Q I h
 rw [evalPart_none]
 exact wpAny_pure ⟨none, H, I, .none, h⟩
theorem z4r (h : PE X e te) : PO X (some e) (tPart te) := by
 intro pins s σ H Q I hw
 rw [evalPart_some]
 refine thn (h pins s σ H _ I hw) fun u s1 hz => ?_
 obtain ⟨x, H1, I1, r1, q1⟩ := hz
 obtain ⟨i, rfl, q⟩ := q1
 obtain ⟨t, rfl⟩ := r1
 exact ⟨some i, H1, I1, .int i t, q⟩
def SlR (X : Cx) (r : V -> Option Int -> Option Int -> Hp -> VK -> Prop) : Prop :=
 ∀ (pins : List (Addr × Obj)) (s : Shared) (σ : St) (H : Hp) (x : V) (v vl vu : Value) (lo hi : Option Int) (sl : Addr) (Q : VK), Inv X pins σ H s -> RelV x v -> s.heap.IsSliceOf sl vl vu .none -> IsPart vl lo -> IsPart vu hi -> r x lo hi H Q ->
  ∃ T id, typeLookup (.type T) "__getitem__" = pure (some (.builtin id)) /\ s.TypeIs v T /\ wpAny (model X.prog X.w) X.A (getItem v (.ref sl)) (EP X pins σ Q) X.xe s
def tSl (r : V -> Option Int -> Option Int -> Hp -> VK -> Prop) (te : TE) (tl th : TO) : TE := fun σ H Q => te σ H fun x H1 => tl σ H1 fun l H2 => th σ H2 fun u H3 => r x l u H3 Q
theorem z35 {r : V -> Option Int -> Option Int -> Hp -> VK -> Prop} (hr : SlR X r) (he : PE X e te) (hl : PO X lo tl) (hu : PO X hi th) : PE X (.Subscript e (.Slice lo hi none p2) pos) (tSl r te tl th) := by
 intro pins s σ H Q I h
 refine Subscript_ (thn (he pins s σ H _ I h) fun v s1 hz => ?_)
 obtain ⟨x, H1, I1, r1, q1⟩ := hz
 refine wpAny_Slice (thn (hl pins s1 σ H1 _ I1 q1) fun vl s2 ⟨l, H2, I2, pl, q2⟩ => thn (hu pins s2 σ H2 _ I2 q2) fun vu s3 hz => ?_)
 obtain ⟨u, H3, I3, pu, q3⟩ := hz
 rw [evalPart_none]
 refine wpAny_pure ?_
 have I4 : Inv X pins σ H3 { s3 with heap := s3.heap.push { cls := .type "slice", data := .fields #[vl, vu, .none] } } := I3.kept (t' := s3.toks) fun b ob q => Heap.get?_push_of_some _ q
 obtain ⟨T, id, hT, ht, hg⟩ := hr pins { s3 with heap := s3.heap.push { cls := .type "slice", data := .fields #[vl, vu, .none] } } σ H3 x v vl vu l u s3.heap.objs.size Q I4 r1 (Heap.IsSliceOf.new ..) pl pu q3
 show wpAny (model X.prog X.w) X.A (subscriptTail e (.Slice lo hi none p2) v (.ref s3.heap.objs.size)) (EP X pins σ Q) X.xe { s3 with heap := s3.heap.push { cls := .type "slice", data := .fields #[vl, vu, .none] } }
 exact tail_any (ops := [.ref s3.heap.objs.size, v]) ht hT hg (by with_unfolding_all rfl)
def cutV (xs : List V) (lo hi : Option Int) : List V := (xs.drop (HT.sIx xs.length 0 lo)).take (HT.sIx xs.length xs.length hi - HT.sIx xs.length 0 lo)
theorem z6a (xs : List V) (lo hi : Option Int) : (cutV xs lo hi).length ≤ xs.length := by
 unfold cutV
 rw [List.length_take, List.length_drop]
 omega
def rSlT (K : PySem.W.Frag) : V -> Option Int -> Option Int -> Hp -> VK -> Prop := fun x lo hi H Q => ∃ a xs, x = .ref a /\ SqT K H a xs /\
 ¬ (HT.sIx xs.length 0 lo = 0 /\ HT.sIx xs.length xs.length hi = xs.length) /\ ∀ p, H p = none -> Q (.ref p) (upd H p (.tup (cutV xs lo hi)))
theorem y3s : SlR X (rSlT X.K) := by
 intro pins s σ H x v vl vu lo hi sl Q I rx hs pl pu h
 obtain ⟨a, xs, rfl, hx, hw, q⟩ := h
 cases rx
 obtain ⟨its, r, ht, hz⟩ := I.tuple hx
 have hlen : its.toArray.size = xs.length := by rw [List.size_toArray]; exact r.length.symm
 refine ⟨"tuple", _, PyProof.Rows.slot_tuple_getitem.lookup, ht.typeIs, ?_⟩
 refine HT.z5g ht hs pl pu (by rw [hlen]; exact hw) ?_ (by rw [hlen]; exact hz)
 rw [hlen]
 refine ⟨.ref s.heap.objs.size, _, I.laid (t' := s.toks) (o := .tup (cutV xs lo hi)) (fun b ob q => Heap.get?_push_of_some _ q) (Nat.le_refl _) ?_, rfl, q _ (I.hok.fresh (Nat.le_refl _))⟩
 exact ⟨Nat.le_trans (z6a xs lo hi) hz, _, (r.drop (HT.sIx xs.length 0 lo)).take (HT.sIx xs.length xs.length hi - HT.sIx xs.length 0 lo), PlT.new _ _⟩
end
def ixN (n : Nat) (i : Int) : Option Nat := if 0 ≤ i then (if i < n then some i.toNat else none) else if -(n : Int) ≤ i then some (i + n).toNat else none
def atI {α : Type} (xs : List α) (i : Int) : Option α := (ixN xs.length i).bind fun j => xs[j]?
theorem y1s {n : Nat} {i : Int} {j : Nat} (h : ixN n i = some j) : seqIndex? i n = some j /\ j < n /\ -(n : Int) ≤ i /\ i < n := by
 unfold ixN at h
 by_cases h0 : 0 ≤ i
 ·rw [if_pos h0] at h
  by_cases h1 : i < n
  ·rw [if_pos h1] at h
   have e : i.toNat = j := Option.some.inj h
   exact ⟨by rw [seqIndex_of h0 h1, e], by omega, by omega, h1⟩
  ·rw [if_neg h1] at h; cases h
 ·rw [if_neg h0] at h
  by_cases h1 : -(n : Int) ≤ i
  ·rw [if_pos h1] at h
   have e : (i + n).toNat = j := Option.some.inj h
   exact ⟨by rw [seqIndex_neg (by omega) h1, e], by omega, h1, by omega⟩
  ·rw [if_neg h1] at h; cases h
theorem z91 {α : Type} {xs : List α} {i : Int} {v : α} (h : atI xs i = some v) : ∃ j, seqIndex? i xs.length = some j /\ xs[j]? = some v /\ j < xs.length /\ -(xs.length : Int) ≤ i /\ i < xs.length := by
 unfold atI at h
 cases e : ixN xs.length i with
 | none => rw [e] at h; cases h
 | some j =>
  rw [e] at h
  obtain ⟨h1, h2, h3, h4⟩ := y1s e
  exact ⟨j, h1, h, h2, h3, h4⟩
theorem z0J {α : Type} {xs : List α} {j : Nat} {v : α} (h : xs[j]? = some v) : atI xs (j : Int) = some v := by
 have hj : j < xs.length := (List.getElem?_eq_some_iff.mp h).1
 have e : ixN xs.length (j : Int) = some j := by
  unfold ixN
  rw [if_pos (by omega), if_pos (by omega)]; simp
 unfold atI; rw [e]; exact h
def y42 (b : Expr) : Prop := ∀ o i, subscripted b false o i = operate [o, i] (getItem o i)
def IxR (X : Cx) (r : R2) : Prop :=
 ∀ (value slice : Expr) (pins : List (Addr × Obj)) (s : Shared) (σ : St) (H : Hp) (x y : V) (v u : Value) (Q : VK), Inv X pins σ H s -> RelV x v -> RelV y u -> r x y H Q ->
  subscripted slice false v u = operate [v, u] (getItem v u) -> wpAny (model X.prog X.w) X.A (subscriptTail value slice v u) (EP X pins σ Q) X.xe s
def MtR (X : Cx) (id : String) (r : V -> List V -> Hp -> VK -> Prop) : Prop :=
 ∀ (pins : List (Addr × Obj)) (s : Shared) (σ : St) (H : Hp) (x : V) (xs : List V) (v : Value) (us : List Value) (Q : VK), Inv X pins σ H s -> RelV x v -> Vals xs us -> r x xs H Q ->
  wpAny (model X.prog X.w) X.A (call (.builtin id) (v :: us)) (EP X pins σ Q) X.xe s
section
variable {X : Cx} {a b : Expr} {ta tb : TE} {pos : Pos}
theorem IxR.or {r r' : R2} (h : IxR X r) (h' : IxR X r') : IxR X (fun x y H Q => r x y H Q \/ r' x y H Q) := by
 intro value slice pins s σ H x y v u Q I rx ry q hs
 rcases q with q | q
 ·exact h value slice pins s σ H x y v u Q I rx ry q hs
 ·exact h' value slice pins s σ H x y v u Q I rx ry q hs
theorem z0Z {r : R2} (hr : IxR X r) (ha : PE X a ta) (hb : PE X b tb) (hs : y42 b) : PE X (.Subscript a b pos) (tOp r ta tb) := by
 intro pins s σ H Q I h
 exact Subscript_ (binT ha hb I h fun v u s2 x y H2 I2 rx ry q => hr a b pins s2 σ H2 x y v u Q I2 rx ry q (hs _ _))
def rIxL (K : PySem.W.Frag) : R2 := fun x y H Q => ∃ p xs i v, x = .ref p /\ y = .int i /\ SqL K H p xs /\ atI xs i = some v /\ Q v H
def rIxT (K : PySem.W.Frag) : R2 := fun x y H Q => ∃ p xs i v, x = .ref p /\ y = .int i /\ SqT K H p xs /\ atI xs i = some v /\ Q v H
def rIxS : R2 := fun x y H Q => ∃ z i c, x = .str z /\ y = .int i /\ z.length ≤ sizeLine /\ atI z.cps.toList i = some c /\ Q (.str ⟨#[c]⟩) H
theorem z0B : IxR X (rIxL X.K) := by
 intro value slice pins s σ H x y v u Q I rx ry h hs
 obtain ⟨p, xs, i, z, rfl, rfl, hq, he, q⟩ := h
 cases rx
 obtain ⟨t, rfl⟩ := ry
 obtain ⟨its, r, pl, hz⟩ := I.list hq
 obtain ⟨j, h1, h2, h3, h4, h5⟩ := z91 he
 obtain ⟨w, ew, rw'⟩ := r.get h2
 have hl := r.length
 have hn := z50
 have fin : EP X pins σ Q w s := ⟨z, H, I, rw', q⟩
 by_cases h0 : 0 ≤ i
 ·have hj : i.toNat = j := by
   rw [seqIndex_of h0 h5] at h1
   exact Option.some.inj h1
  exact item_listR pl.isList h0 (by omega) (by rw [hj]; simpa using ew) fin hs
 ·have hj : (i + (its.toArray.size : Int)).toNat = j := by
   rw [seqIndex_neg (by omega) h4] at h1
   rw [List.size_toArray, <- hl]
   exact Option.some.inj h1
  exact subscriptTail_builtinR (x := w) pl.isList.typeIs slot_list_getitem.lookup
   (wpAny_getItem_list_neg (Q := fun r s' => r = w /\ EP X pins σ Q r s') pl.isList (by omega) (by rw [List.size_toArray] <;> omega) (by omega) (by rw [hj]; simpa using ew) ⟨rfl, fin⟩) hs
theorem z3u : IxR X (rIxT X.K) := by
 intro value slice pins s σ H x y v u Q I rx ry h hs
 obtain ⟨p, xs, i, z, rfl, rfl, hq, he, q⟩ := h
 cases rx
 obtain ⟨t, rfl⟩ := ry
 obtain ⟨its, r, pl, hz⟩ := I.tuple hq
 obtain ⟨j, h1, h2, h3, h4, h5⟩ := z91 he
 obtain ⟨w, ew, rw'⟩ := r.get h2
 have hl := r.length
 have hn := z50
 have fin : EP X pins σ Q w s := ⟨z, H, I, rw', q⟩
 exact subscriptTail_builtinR (x := w) pl.typeIs slot_tuple_getitem.lookup
  (getItem_tuple (j := j) (Q := fun r s' => r = w /\ EP X pins σ Q r s') pl (by omega) (by omega) (by rw [List.size_toArray, <- hl]; exact h1) (by simpa using ew) ⟨rfl, fin⟩) hs
theorem y20 : IxR X rIxS := by
 intro value slice pins s σ H x y v u Q I rx ry h hs
 obtain ⟨z, i, c, rfl, rfl, hz, he, q⟩ := h
 obtain ⟨t, rfl⟩ := rx
 obtain ⟨t', rfl⟩ := ry
 obtain ⟨j, h1, h2, h3, h4, h5⟩ := z91 he
 have hl : z.cps.toList.length = z.length := by simp [Str.length]
 rw [hl] at h1 h4 h5
 have hn := z50
 exact tail_any (typeIs_str s z t) slot_str_getitem.lookup (getItem_str (c := c) (by
  have e1 : decide (i < -(2 ^ 63 : Int)) = false := decide_eq_false (by omega)
  have e2 : decide (i ≥ 2 ^ 63) = false := decide_eq_false (by omega)
  rw [e1, e2, Bool.or_false]) (by rw [h1]; simpa using h2) ⟨.str ⟨#[c]⟩, H, I.tok _, ⟨_, rfl⟩, q⟩) hs
def rIx (K : PySem.W.Frag) : R2 := fun x y H Q => rIxL K x y H Q \/ rIxT K x y H Q \/ rIxS x y H Q
theorem y4O : IxR X (rIx X.K) := z0B.or (z3u.or y20)
theorem y0j (its : List Value) (n j : Nat) (u : Value) : Obj.mapSeq (·.setIfInBounds j u) { cls := .type "list", data := .seq its.toArray n } = { cls := .type "list", data := .seq (its.set j u).toArray n } := by
 simp [Obj.mapSeq]
theorem Inv.lst {pins : List (Addr × Obj)} {σ : St} {H : Hp} {s : Shared} {p : Addr} {xs : List V} (I : Inv X pins σ H s) (h : H p = some (.lst xs)) :
  ∃ (its : List Value) (n : Nat), Vals xs its /\ s.heap.get? p = some { cls := .type "list", data := .seq its.toArray n } /\ xs.length ≤ sizeLine := by
 obtain ⟨z, its, n, r, e⟩ := I.hok p _ h
 exact ⟨its, n, r, e, z⟩
theorem Inv.lstUpd {pins : List (Addr × Obj)} {σ : St} {H : Hp} {s : Shared} {p : Addr} {xs ys : List V} {its its' : List Value} {n n' : Nat} {f : Obj -> Obj} (I : Inv X pins σ H s) (h : H p = some (.lst xs))
  (ho : s.heap.get? p = some { cls := .type "list", data := .seq its.toArray n }) (hf : f { cls := .type "list", data := .seq its.toArray n } = { cls := .type "list", data := .seq its'.toArray n' }) (r : Vals ys its') (hz : ys.length ≤ sizeLine) (t : Nat) :
  Inv X pins σ (upd H p (.lst ys)) { s with heap := s.heap.update p f, toks := t } := by
 have e : (s.heap.update p f).get? p = some { cls := .type "list", data := .seq its'.toArray n' } := by
  rw [Heap.get?_update_self f ho (by rw [hf] <;> rfl), hf]
 refine I.write (x := p) (e := p) (by rw [h]; trivial) (.inl rfl) (fun b u hb q => (Heap.get?_update_other _ _ (Ne.symm hb)).trans q) ⟨_, e⟩ ?_
 exact ⟨hz, its', n', r, e⟩
def rSetL : V -> V -> V -> Hp -> (Hp -> Prop) -> Prop := fun o i v H Q => ∃ p xs k j, o = .ref p /\ i = .int k /\ H p = some (.lst xs) /\ ixN xs.length k = some j /\ Q (upd H p (.lst (xs.set j v)))
theorem z9n : PSet X rSetL := by
 intro pins s σ H o i v ov iv u Q I ro ri rv h
 obtain ⟨p, xs, k, j, rfl, rfl, hp, hj, q⟩ := h
 cases ro
 obtain ⟨t, rfl⟩ := ri
 obtain ⟨its, n, r, ho, hz⟩ := I.lst hp
 obtain ⟨h1, h2, h3, h4⟩ := y1s hj
 have hl := r.length
 have hn := z50
 have I' : Inv X pins σ (upd H p (.lst (xs.set j v))) { s with heap := s.heap.update p (Obj.mapSeq (·.setIfInBounds j u)) } :=
  I.lstUpd hp ho (y0j its n j u) (r.set rv j) (by rw [List.length_set]; exact hz) s.toks
 by_cases h0 : 0 ≤ k
 ·have hk : k.toNat = j := by
   rw [seqIndex_of h0 h4] at h1
   exact Option.some.inj h1
  exact PySem.W.ki_setAt ho h0 (by omega) (by rw [List.size_toArray, <- hl]; exact h4) (by rw [hk]; exact ⟨_, I', q⟩)
 ·have hk : (k + (its.toArray.size : Int)).toNat = j := by
   rw [seqIndex_neg (by omega) h3] at h1
   rw [List.size_toArray, <- hl]
   exact Option.some.inj h1
  exact PySem.W.ki_setBack ho (by omega) (by rw [List.size_toArray, <- hl]; exact h3) (by omega) (by rw [hk]; exact ⟨_, I', q⟩)
theorem z5N (lo hi : Option Int) (n : Nat) : (sliceBounds lo hi none n).1 = ((HT.sIx n 0 lo : Nat) : Int) /\ (sliceBounds lo hi none n).2.1 = ((HT.sIx n n hi : Nat) : Int) /\ (sliceBounds lo hi none n).2.2 = 1 := by
 refine ⟨?_, ?_, rfl⟩
 ·cases lo with
  | none => simp [sliceBounds, HT.sIx]
  | some i =>
   simp only [sliceBounds, HT.sIx, Option.getD_none, show (1 : Int) > 0 by decide, if_true]
   by_cases h : i < 0
   ·simp only [h, if_true] <;> omega
   ·simp only [h, if_false] <;> omega
 ·cases hi with
  | none => simp [sliceBounds, HT.sIx]
  | some i =>
   simp only [sliceBounds, HT.sIx, Option.getD_none, show (1 : Int) > 0 by decide, if_true]
   by_cases h : i < 0
   ·simp only [h, if_true] <;> omega
   ·simp only [h, if_false] <;> omega
theorem z7Q (its : List Value) (lo hi : Option Int) : slicePick its.toArray lo hi none = ((its.drop (HT.sIx its.length 0 lo)).take (HT.sIx its.length its.length hi - HT.sIx its.length 0 lo)).toArray := by
 obtain ⟨h1, h2, h3⟩ := z5N lo hi its.toArray.size
 unfold slicePick
 rw [h1, h2, h3]
 simp only [sliceRange_one, pick_run, List.size_toArray] <;> rfl
def rSlL (K : PySem.W.Frag) : V -> Option Int -> Option Int -> Hp -> VK -> Prop := fun x lo hi H Q => ∃ a xs, x = .ref a /\ SqL K H a xs /\ ∀ p, H p = none -> Q (.ref p) (upd H p (.lst (cutV xs lo hi)))
theorem z8Y : SlR X (rSlL X.K) := by
 intro pins s σ H x v vl vu lo hi sl Q I rx hs pl pu h
 obtain ⟨a, xs, rfl, hx, q⟩ := h
 cases rx
 obtain ⟨its, r, ht, hz⟩ := I.list hx
 have hlen := r.length
 refine ⟨"list", _, slot_list_getitem.lookup, ht.isList.typeIs, ?_⟩
 refine wpAny_getItem_list_slice ht.isList hs pl pu .none (by simp) ?_ (by rw [List.size_toArray] <;> omega)
 rw [z7Q, <- hlen]
 refine ⟨.ref s.heap.objs.size, _, I.laid (t' := s.toks) (o := .lst (cutV xs lo hi)) (fun b ob q => Heap.get?_push_of_some _ q) (Nat.le_refl _) ?_, rfl, q _ (I.hok.fresh (Nat.le_refl _))⟩
 exact ⟨Nat.le_trans (z6a xs lo hi) hz, _, 0, (r.drop (HT.sIx xs.length 0 lo)).take (HT.sIx xs.length xs.length hi - HT.sIx xs.length 0 lo), Heap.get?_push_size _ rfl⟩
def z1G : V -> Bool
 | .non => true
 | .bl _ => true
 | .int _ => true
 | .str _ => true
 | _ => false
def eqV : V -> V -> Bool
 | .non, .non => true
 | .bl a, .bl b => a == b
 | .bl a, .int b => (if a then 1 else 0) == b
 | .int a, .bl b => a == (if b then 1 else 0)
 | .int a, .int b => a == b
 | .str a, .str b => a == b
 | _, _ => false
theorem y1P {A : Around} {s : Shared} {y x : V} {u v : Value} (ry : RelV y u) (rx : RelV x v) (fy : z1G y = true) (fx : z1G x = true) : SeqAt.EqAt A s u v (eqV y x) := by
 cases y with
 | non =>
  cases ry
  cases x with
  | non => cases rx; exact SeqAt.EqAt.same _
  | bl b => cases rx; exact SeqAt.EqAt.none_bool b
  | int b => obtain ⟨t, rfl⟩ := rx; exact SeqAt.EqAt.none_int b t
  | str b => obtain ⟨t, rfl⟩ := rx; exact SeqAt.EqAt.none_str b t
  | _ => exact absurd (show false = true from fx) Bool.false_ne_true
 | bl a =>
  cases ry
  cases x with
  | non => cases rx; exact SeqAt.EqAt.bool_none a
  | bl b => cases rx; exact SeqAt.EqAt.bool_bool a b
  | int b => obtain ⟨t, rfl⟩ := rx; exact SeqAt.EqAt.bool_int a b t
  | str b => obtain ⟨t, rfl⟩ := rx; exact SeqAt.EqAt.bool_str a b t
  | _ => exact absurd (show false = true from fx) Bool.false_ne_true
 | int a =>
  obtain ⟨t', rfl⟩ := ry
  cases x with
  | non => cases rx; exact SeqAt.EqAt.int_none a t'
  | bl b => cases rx; exact SeqAt.EqAt.int_bool a t' b
  | int b => obtain ⟨t, rfl⟩ := rx; exact SeqAt.EqAt.int_int a t' b t
  | str b => obtain ⟨t, rfl⟩ := rx; exact SeqAt.EqAt.int_str a t' b t
  | _ => exact absurd (show false = true from fx) Bool.false_ne_true
 | str a =>
  obtain ⟨t', rfl⟩ := ry
  cases x with
  | non => cases rx; exact SeqAt.EqAt.str_none a t'
  | bl b => cases rx; exact SeqAt.EqAt.str_bool a t' b
  | int b => obtain ⟨t, rfl⟩ := rx; exact SeqAt.EqAt.str_int a t' b t
  | str b => obtain ⟨t, rfl⟩ := rx; exact SeqAt.EqAt.str_str a t' b t
  | _ => exact absurd (show false = true from fx) Bool.false_ne_true
 | _ => exact absurd (show false = true from fy) Bool.false_ne_true
def eqU (x : V) (u : Value) : Bool := match u with
 | .none => eqV .non x
 | .bool b => eqV (.bl b) x
 | .int i _ => eqV (.int i) x
 | .str z _ => eqV (.str z) x
 | _ => false
theorem z9O {x y : V} {u : Value} (r : RelV y u) (f : z1G y = true) : eqU x u = eqV y x := by
 cases y with
 | non => cases r; rfl
 | bl b => cases r; rfl
 | int i => obtain ⟨t, rfl⟩ := r; rfl
 | str z => obtain ⟨t, rfl⟩ := r; rfl
 | _ => exact absurd (show false = true from f) Bool.false_ne_true
theorem z6z {x : V} : ∀ {xs : List V} {us : List Value}, Vals xs us -> xs.all z1G = true -> us.any (eqU x) = xs.any fun y => eqV y x
 | _, _, .nil, _ => rfl
 | y :: xs, u :: us, .cons r t, f => by
  rw [List.all_cons, Bool.and_eq_true] at f
  rw [List.any_cons, List.any_cons, z9O r f.1, z6z t f.2]
theorem z3O {A : Around} {s : Shared} {x : V} {v : Value} (rx : RelV x v) (fx : z1G x = true) : ∀ {xs : List V} {us : List Value}, Vals xs us -> xs.all z1G = true -> ∀ u ∈ us, SeqAt.EqAt A s u v (eqU x u)
 | _, _, .nil, _ => fun u hu => by cases hu
 | y :: xs, u :: us, .cons r t, f => fun u' hu => by
  rw [List.all_cons, Bool.and_eq_true] at f
  rcases List.mem_cons.mp hu with rfl | hu
  ·rw [z9O r f.1]; exact y1P r rx f.1 fx
  ·exact z3O rx fx t f.2 u' hu
def inV (x : V) (xs : List V) : Bool := xs.any fun y => eqV y x
def rIn (K : PySem.W.Frag) (neg : Bool) : R2 := fun x y H Q => ∃ p xs, y = .ref p /\ (SqL K H p xs \/ SqT K H p xs) /\ z1G x = true /\ xs.all z1G = true /\ Q (.bl (if neg then !inV x xs else inV x xs)) H
theorem z8G : OpR X (compareOp .In) (rIn X.K false) := by
 intro pins s σ H x y v u Q I rx ry h
 obtain ⟨p, xs, rfl, hq, fx, fs, q⟩ := h
 cases ry
 rcases hq with hq | hq
 ·obtain ⟨its, r, pl, hz⟩ := I.list hq
  refine SeqAt.in_listAt (eqU x) pl.isList (fun w hw => z3O rx fx r fs w (by simpa using hw)) ⟨.bl _, H, I, rfl, ?_⟩
  rw [show its.toArray.any (eqU x) = its.any (eqU x) by simp, z6z r fs]
  exact q
 ·obtain ⟨its, r, pl, hz⟩ := I.tuple hq
  refine SeqAt.in_tupleAt (eqU x) pl (fun w hw => z3O rx fx r fs w (by simpa using hw)) ⟨.bl _, H, I, rfl, ?_⟩
  rw [show its.toArray.any (eqU x) = its.any (eqU x) by simp, z6z r fs]
  exact q
theorem z1E : OpR X (compareOp .NotIn) (rIn X.K true) := by
 intro pins s σ H x y v u Q I rx ry h
 obtain ⟨p, xs, rfl, hq, fx, fs, q⟩ := h
 cases ry
 rcases hq with hq | hq
 ·obtain ⟨its, r, pl, hz⟩ := I.list hq
  refine SeqAt.notIn_listAt (eqU x) pl.isList (fun w hw => z3O rx fx r fs w (by simpa using hw)) ⟨.bl _, H, I, rfl, ?_⟩
  rw [show its.toArray.any (eqU x) = its.any (eqU x) by simp, z6z r fs]
  exact q
 ·obtain ⟨its, r, pl, hz⟩ := I.tuple hq
  refine SeqAt.notIn_tupleAt (eqU x) pl (fun w hw => z3O rx fx r fs w (by simpa using hw)) ⟨.bl _, H, I, rfl, ?_⟩
  rw [show its.toArray.any (eqU x) = its.any (eqU x) by simp, z6z r fs]
  exact q
theorem z0a : z3c X (.builtin "len") (fun xs H Q => ∃ p ys, xs = [.ref p] /\ (SqL X.K H p ys \/ SqT X.K H p ys) /\ Q (.int ys.length) H) := by
 intro pins s σ H xs us Q I r h
 obtain ⟨p, ys, rfl, hq, q⟩ := h
 obtain ⟨u, rfl, rx⟩ := z3r r
 cases rx
 have hn := z50
 rcases hq with hq | hq
 ·obtain ⟨its, r', pl, hz⟩ := I.list hq
  have hlen := r'.length
  exact Calls.call_len_list pl.isList (by simp only [List.size_toArray] <;> omega) ⟨.int ys.length, H, I.tok _, ⟨s.toks + 1, by rw [List.size_toArray, hlen]⟩, q⟩
 ·obtain ⟨its, r', pl, hz⟩ := I.tuple hq
  have hlen := r'.length
  exact len_tuple pl (by simp only [List.size_toArray] <;> omega) ⟨.int ys.length, H, I.tok _, ⟨s.toks + 1, by rw [List.size_toArray, hlen]⟩, q⟩
theorem z7W : z3c X (.builtin "len") (fun xs H Q => ∃ z, xs = [.str z] /\ z.length ≤ sizeLine /\ Q (.int z.length) H) := by
 intro pins s σ H xs us Q I r h
 obtain ⟨z, rfl, hz, q⟩ := h
 obtain ⟨u, rfl, t, rfl⟩ := z3r r
 have hn := z50
 exact len_str (by omega) ⟨.int z.length, H, I.tok _, ⟨_, rfl⟩, q⟩
theorem z2u : z3c X (.type "list") (fun xs H Q => ∃ p ys, xs = [.ref p] /\ (SqL X.K H p ys \/ SqT X.K H p ys) /\ ∀ l, H l = none -> Q (.ref l) (upd H l (.lst ys))) := by
 intro pins s σ H xs us Q I r h
 obtain ⟨p, ys, rfl, hq, q⟩ := h
 obtain ⟨u, rfl, rx⟩ := z3r r
 cases rx
 have fin : ∀ (its : List Value), Vals ys its -> ys.length ≤ sizeLine -> ∀ (h' : Heap) (c' : Nat), (∀ b o', s.heap.get? b = some o' -> h'.get? b = some o') ->
   h'.get? s.heap.objs.size = some { cls := .type "list", dict := none, data := .seq its.toArray c', slots := #[] } -> EP X pins σ Q (.ref s.heap.objs.size) { s with heap := h' } := fun its r' hz h' c' kp e =>
  ⟨.ref s.heap.objs.size, _, I.laid (t' := s.toks) kp (Nat.le_refl _) (show z1a X.prog X.w _ h' _ (.lst ys) from ⟨hz, its, c', r', e⟩), rfl, q _ (I.hok.fresh (Nat.le_refl _))⟩
 rcases hq with hq | hq
 ·obtain ⟨its, r', pl, hz⟩ := I.list hq
  have hlen := r'.length
  obtain ⟨o, ho, hc, n, hd⟩ := pl.isList
  exact call_list_seq p (.inl rfl) ho hc hd (fun h' c' kp e => fin its r' hz h' c' kp e) (by simp only [List.size_toArray] <;> omega)
 ·obtain ⟨its, r', pl, hz⟩ := I.tuple hq
  have hlen := r'.length
  obtain ⟨o, ho, hc, n, hd⟩ := pl
  exact call_list_seq p (.inr rfl) ho hc hd (fun h' c' kp e => fin its r' hz h' c' kp e) (by simp only [List.size_toArray] <;> omega)
theorem z0s : z3c X (.type "tuple") (fun xs H Q => ∃ p ys, xs = [.ref p] /\ ((SqL X.K H p ys /\ ∀ l, H l = none -> Q (.ref l) (upd H l (.tup ys))) \/ (SqT X.K H p ys /\ Q (.ref p) H))) := by
 intro pins s σ H xs us Q I r h
 obtain ⟨p, ys, rfl, h⟩ := h
 obtain ⟨u, rfl, rx⟩ := z3r r
 cases rx
 rcases h with ⟨hq, q⟩ | ⟨hq, q⟩
 ·obtain ⟨its, r', pl, hz⟩ := I.list hq
  have hlen := r'.length
  refine call_tuple_list pl.isList (fun h' kp => ?_) (by simp only [List.size_toArray] <;> omega)
  have I1 : Inv X pins σ H { s with heap := h' } := I.kept (t' := s.toks) kp
  have I2 : Inv X pins σ (upd H h'.objs.size (.tup ys)) { s with heap := h'.push { cls := .type "tuple", data := .seq its.toArray } } :=
   I1.laid (t' := s.toks) (fun b o e => Heap.get?_push_of_some _ e) (Nat.le_refl _) (show z1a X.prog X.w _ _ _ (.tup ys) from ⟨hz, its, r', PlT.new _ _⟩)
  exact ⟨.ref h'.objs.size, _, I2, rfl, q _ (I1.hok.fresh (Nat.le_refl _))⟩
 ·obtain ⟨its, r', pl, hz⟩ := I.tuple hq
  exact call_tuple_same pl ⟨.ref p, H, I, rfl, q⟩
def tyV (K : PySem.W.Frag) (T : String) (x : V) (H : Hp) : Prop := match x with
 | .str _ => T = "str"
 | .int _ => T = "int"
 | .ref p => (T = "list" /\ ∃ xs, SqL K H p xs) \/ (T = "tuple" /\ ∃ o, K.lookup p = some o /\ o.cls = .type "tuple" /\ o.dict = none) \/
   (T = "dict" /\ ((∃ kvs, H p = some (.dK kvs)) \/ ∃ kvs, H p = some (.dT kvs))) \/ (T = "set" /\ ∃ S n, H p = some (.set S n))
 | _ => False
theorem y4M {pins : List (Addr × Obj)} {σ : St} {H : Hp} {s : Shared} {T : String} {x : V} {v : Value} (I : Inv X pins σ H s) (r : RelV x v) (ty : tyV X.K T x H) :
  s.TypeIs v T /\ ∀ a, v = .ref a -> ∃ ob, s.heap.get? a = some ob /\ ob.dict = none := by
 cases x with
 | str z =>
  obtain ⟨t, rfl⟩ := r
  cases (show T = "str" from ty)
  exact ⟨typeIs_str s z t, fun _ e => nomatch e⟩
 | int i =>
  obtain ⟨t, rfl⟩ := r
  cases (show T = "int" from ty)
  exact ⟨typeIs_int s i t, fun _ e => nomatch e⟩
 | ref p =>
  cases r
  rcases ty with ⟨rfl, xs, hq⟩ | ⟨rfl, o, hk, hc, hd⟩ | ⟨rfl, hk⟩ | ⟨rfl, S, n, hk⟩
  ·obtain ⟨its, _, pl, _⟩ := I.list hq
   refine ⟨pl.isList.typeIs, fun a e => ?_⟩
   cases e
   obtain ⟨o, n, e, c, hd, _⟩ := pl
   exact ⟨o, e, hd⟩
  ·refine ⟨⟨o, I.kIn p o hk, hc⟩, fun a e => ?_⟩
   cases e
   exact ⟨o, I.kIn _ o hk, hd⟩
  ·have z : ∃ o, s.heap.get? p = some o /\ o.ExactDict := by
    rcases hk with ⟨kvs, hk⟩ | ⟨kvs, hk⟩
    ·obtain ⟨_, _, _, _, o, _, _, e, ex, _⟩ := I.hok p _ hk
     exact ⟨o, e, ex⟩
    ·obtain ⟨_, _, _, _, o, _, _, e, ex, _⟩ := I.hok p _ hk
     exact ⟨o, e, ex⟩
   obtain ⟨o, e, ex⟩ := z
   refine ⟨⟨o, e, ex.1⟩, fun a e2 => ?_⟩
   cases e2
   exact ⟨o, e, ex.2.1⟩
  ·obtain ⟨o, _, _, _, e, ex, _⟩ := I.hok p _ hk
   refine ⟨⟨o, e, ex.1⟩, fun a e2 => ?_⟩
   cases e2
   exact ⟨o, e, ex.2.1⟩
 | _ => exact False.elim ty
def tBM (K : PySem.W.Frag) (T : String) (r : V -> List V -> Hp -> VK -> Prop) (to : TE) (t : TA) : TE := fun σ H Q => to σ H fun x H1 => tyV K T x H1 /\ t σ H1 fun xs H2 => r x xs H2 Q
variable {o e : Expr} {es : List Expr} {to : TE} {t : TA} {name : Str} {apos cpos : Pos} {T id : String} {r : V -> List V -> Hp -> VK -> Prop}
theorem z2V (pa : PlainAttrs T) (slot : Slot T name id) (hty : typeOf (.builtin id) = pure (.type "method_descriptor")) (hm : MtR X id r) (ho : PE X o to) (ha : PA X (e :: es) t)
  (hbase : attributeBase o name X.env (eval o X.env) = eval o X.env := by rfl)
  (hfew : ((backTo cpos (starEach (e :: es) X.env)).all (fun x => !x.1) && (backToKw cpos (keywordEach [] X.env)).all (fun x => x.1.isSome)
   && decide ((e :: es).length + ([] : List Keyword).length + (if ([] : List Keyword).isEmpty then 0 else 1) < 30)) = true := by rfl)
  (hline : (apos.endLine == cpos.line) = true := by rfl) (hs : starEach (e :: es) X.env = (false, eval e X.env) :: starEach es X.env := by rfl) (hplain : (backTo cpos (starEach es X.env)).any (·.1) = false := by rfl) :
  PE X (.Call (.Attribute o name apos) (e :: es) [] cpos) (tBM X.K T r to t) := by
 intro pins s σ H Q I h
 refine wpAny_Call_method_late hbase hfew hline rfl (thn (ho pins s σ H _ I h) fun v s1 hz => ?_)
 obtain ⟨x, H1, I1, r1, ty, q1⟩ := hz
 obtain ⟨h1, h2⟩ := y4M I1 r1 ty
 refine ⟨T, id, pa, slot, hty, h1, h2, ?_⟩
 have hA := ha cpos pins s1 σ H1 _ I1 q1
 rw [hs] at hA ⊢
 refine Calls.callWith_builtin (by show (false || (backTo cpos (starEach es X.env)).any (·.1)) = false; rw [hplain] <;> rfl) (Calls.evalArgs_plain ?_)
 exact thn hA fun us s2 ⟨vs, H2, I2, r2, q2⟩ => hm pins s2 σ H2 x vs v us Q I2 r1 r2 q2
end
def MtM (X : Cx) (id : String) (r : V -> List V -> Hp -> VK -> Prop) : Prop :=
 ∀ (pins : List (Addr × Obj)) (s : Shared) (σ : St) (H : Hp) (x : V) (xs : List V) (v : Value) (us : List Value) (Q : VK), Inv X pins σ H s -> RelV x v -> Vals xs us -> r x xs H Q ->
  wpAny (model X.prog X.w) X.A (call (.builtin id) (v :: us)) (EP X pins σ Q) X.xe s
theorem Vals.one : ∀ {x : V} {us : List Value}, Vals [x] us -> ∃ u, us = [u] /\ RelV x u
 | _, _, .cons r .nil => ⟨_, rfl, r⟩
theorem Vals.two : ∀ {x y : V} {us : List Value}, Vals [x, y] us -> ∃ u v, us = [u, v] /\ RelV x u /\ RelV y v
 | _, _, _, .cons r (.cons q .nil) => ⟨_, _, rfl, r, q⟩
theorem Vals.rep {xs : List V} {us : List Value} (h : Vals xs us) : ∀ k : Nat, Vals (List.replicate k xs).flatten (List.replicate k us).flatten
 | 0 => .nil
 | k + 1 => by
  rw [List.replicate_succ, List.replicate_succ, List.flatten_cons, List.flatten_cons]
  exact Vals.append h (Vals.rep h k)
theorem z8H (its : List Value) : ∀ (k : Nat) (acc : List Value),
  List.foldl (fun x1 x2 => x1 ++ x2) acc.toArray (List.replicate k its.toArray) = (acc ++ (List.replicate k its).flatten).toArray
 | 0, acc => by simp
 | k + 1, acc => by
  have e : acc.toArray ++ its.toArray = (acc ++ its).toArray := by simp
  have e2 : (acc ++ its) ++ (List.replicate k its).flatten = acc ++ (List.replicate (k + 1) its).flatten := by
   rw [List.replicate_succ, List.flatten_cons, List.append_assoc]
  rw [<- e2, <- z8H its k (acc ++ its), <- e, List.replicate_succ, List.foldl_cons]
section
variable {X : Cx} {pins : List (Addr × Obj)} {σ : St} {H : Hp} {s : Shared} {l b : Addr} {xs ys zs : List V}
theorem Inv.lset {its its' : List Value} {n : Nat} {f : Array Value -> Array Value} {t' : Nat} (I : Inv X pins σ H s) (hH : H l = some (.lst xs))
  (e : s.heap.get? l = some { cls := .type "list", data := .seq its.toArray n }) (hf : f its.toArray = its'.toArray) (hv : Vals ys its') (hz : ys.length ≤ sizeLine) :
  Inv X pins σ (upd H l (.lst ys)) { s with heap := s.heap.update l (Obj.mapSeq f), toks := t' } := by
 have q := PySem.IsL.update e f
 rw [hf] at q
 refine I.write (x := l) (e := l) (by rw [hH]; exact trivial) (.inl rfl) (fun b' u hb hu => (Heap.get?_update_other s.heap (Obj.mapSeq f) (Ne.symm hb)).trans hu) ⟨_, q⟩ ?_
 exact ⟨hz, its', _, hv, q⟩
theorem Inv.lnew {its : List Value} {t' : Nat} (I : Inv X pins σ H s) (hv : Vals ys its) (hz : ys.length ≤ sizeLine) :
  Inv X pins σ (upd H s.heap.objs.size (.lst ys)) { s with heap := s.heap.push { cls := .type "list", data := .seq its.toArray }, toks := t' } :=
 I.laid (fun _ _ q => Heap.get?_push_of_some _ q) (Nat.le_refl _) ⟨hz, its, 0, hv, Heap.get?_push_size _ rfl⟩
theorem Inv.fresh (I : Inv X pins σ H s) : H s.heap.objs.size = none := I.hok.fresh (Nat.le_refl _)
theorem Inv.lstM (I : Inv X pins σ H s) (hH : H l = some (.lst xs)) : xs.length ≤ sizeLine /\ ∃ (its : List Value) (n : Nat), Vals xs its /\ xs.length = its.length /\ s.heap.get? l = some { cls := .type "list", data := .seq its.toArray n } := by
 obtain ⟨z, its, n, r, e⟩ := I.hok l _ hH
 exact ⟨z, its, n, r, r.length, e⟩
theorem z9V {n : Nat} (h : n ≤ sizeLine) : Builtin.List.listTooLong n = false := by
 unfold Builtin.List.listTooLong
 exact decide_eq_false (by omega)
end
section
variable {X : Cx}
def y4x : V -> List V -> Hp -> VK -> Prop := fun x vs H Q => ∃ l xs y, x = .ref l /\ vs = [y] /\ H l = some (.lst xs) /\ xs.length < sizeLine /\ Q .non (upd H l (.lst (xs ++ [y])))
theorem z0I : MtM X "list.append" y4x := by
 intro pins s σ H x vs v us Q I rx rv h
 obtain ⟨l, xs, y, rfl, rfl, hH, hz, q⟩ := h
 cases rx
 obtain ⟨u, rfl, ru⟩ := rv.one
 obtain ⟨z, its, n, r, hl, e⟩ := I.lstM hH
 refine call_meets F.slot_list_append ⟨_, e, rfl⟩ F.entry_list_append (F.args_list_append_2 _ _) (PySem.list_append l its.toArray n u (by rw [List.size_toArray]; omega)) ⟨e, ?_⟩
 refine ⟨.non, _, I.lset (its' := its ++ [u]) hH e (by simp) (r.append (.cons ru .nil)) ?_, rfl, q⟩
 rw [List.length_append, List.length_singleton]
 omega
def y4y : V -> List V -> Hp -> VK -> Prop := fun x vs H Q => ∃ l b xs zs, x = .ref l /\ vs = [.ref b] /\ H l = some (.lst xs) /\ H b = some (.lst zs) /\ xs.length + zs.length ≤ sizeLine /\ Q .non (upd H l (.lst (xs ++ zs)))
theorem y4S : MtM X "list.extend" y4y := by
 intro pins s σ H x vs v us Q I rx rv h
 obtain ⟨l, b, xs, zs, rfl, rfl, hH, hB, hz, q⟩ := h
 cases rx
 obtain ⟨u, rfl, ru⟩ := rv.one
 cases ru
 obtain ⟨z, its, n, r, hl, e⟩ := I.lstM hH
 obtain ⟨z2, its2, n2, r2, hl2, e2⟩ := I.lstM hB
 have hsz : its.toArray.size + its2.toArray.size ≤ sizeLine := by rw [List.size_toArray, List.size_toArray]; omega
 have hlong : ¬ (!its.toArray.isEmpty && Builtin.List.listTooLong (its.toArray.size + its2.toArray.size)) = true := by
  rw [z9V hsz, Bool.and_false]
  exact Bool.false_ne_true
 refine call_meets F.slot_list_extend ⟨_, e, rfl⟩ F.entry_list_extend (F.args_list_extend_2 _ _)
  (AutoSeq1.list_extend_list_list_0 l its.toArray n b its2.toArray n2 hlong (by rw [List.size_toArray]; omega) (by omega)) ⟨e, e2, ?_⟩
 refine ⟨.non, _, I.lset (its' := its ++ its2) hH e (by simp) (r.append r2) ?_, rfl, q⟩
 rw [List.length_append]
 omega
def rCat : R2 := fun x y H Q => ∃ l b xs zs, x = .ref l /\ y = .ref b /\ H l = some (.lst xs) /\ H b = some (.lst zs) /\ xs.length + zs.length ≤ sizeLine /\ ∀ p, H p = none -> Q (.ref p) (upd H p (.lst (xs ++ zs)))
theorem y3w : OpR X (binaryOp .Add) rCat := by
 intro pins s σ H x y v u Q I rx ry h
 obtain ⟨l, b, xs, zs, rfl, rfl, hH, hB, hz, q⟩ := h
 cases rx
 cases ry
 obtain ⟨z, its, n, r, hl, e⟩ := I.lstM hH
 obtain ⟨z2, its2, n2, r2, hl2, e2⟩ := I.lstM hB
 refine PySem.P.add_list e e2 ?_ (by rw [List.size_toArray, List.size_toArray]; omega)
 have ea : its.toArray ++ its2.toArray = (its ++ its2).toArray := by simp
 rw [ea]
 exact ⟨.ref _, _, I.lnew (t' := s.toks) (r.append r2) (by rw [List.length_append]; omega), rfl, q _ I.fresh⟩
def rRep : R2 := fun x y H Q => ∃ l k xs, x = .ref l /\ y = .int k /\ H l = some (.lst xs) /\ -(2 ^ 63) ≤ k /\ k < 2 ^ 63 /\ xs.length * k.toNat ≤ sizeLine /\
 ∀ p, H p = none -> Q (.ref p) (upd H p (.lst (List.replicate k.toNat xs).flatten))
theorem y4f {α : Type} (xs : List α) (k : Nat) : (List.replicate k xs).flatten.length = k * xs.length := by
 induction k with
 | zero => simp
 | succ k ih => rw [List.replicate_succ, List.flatten_cons, List.length_append, ih, Nat.succ_mul, Nat.add_comm]
theorem y57 : OpR X (binaryOp .Mult) rRep := by
 intro pins s σ H x y v u Q I rx ry h
 obtain ⟨l, k, xs, rfl, rfl, hH, h1, h2, hz, q⟩ := h
 cases rx
 obtain ⟨t, rfl⟩ := ry
 obtain ⟨z, its, n, r, hl, e⟩ := I.lstM hH
 have hlen : its.toArray.size * k.toNat ≤ sizeLine := by rw [List.size_toArray, <- hl]; exact hz
 have hcap : ¬ its.toArray.size * k.toNat > (2 ^ 63 - 1) / 8 := by
  have : (sizeLine : Nat) ≤ (2 ^ 63 - 1) / 8 := by decide
  omega
 have hfit : ¬ (!Builtin.List.listFitsIndex k) = true := by
  rw [fitsIndex_both h1 h2]
  exact Bool.false_ne_true
 have hlong : ¬ Builtin.List.listTooLong (its.toArray.size * k.toNat) = true := by
  rw [z9V hlen]
  exact Bool.false_ne_true
 have hnew : List.foldl (fun x1 x2 => x1 ++ x2) #[] (List.replicate (if its.toArray.isEmpty = true then 0 else k.toNat) its.toArray) = (List.replicate k.toNat its).flatten.toArray := by
  have f0 : ∀ m : Nat, List.foldl (fun x1 x2 => x1 ++ x2) #[] (List.replicate m its.toArray) = (List.replicate m its).flatten.toArray := fun m => by
   have := z8H its m []
   rw [List.nil_append] at this
   exact this
  rw [f0]
  cases its with
  | nil => simp
  | cons a r' => rw [if_neg (by simp)]
 refine wpAny_binaryOp_repeat_ref (T := "list") (U := "int") (by decide) ⟨_, e, rfl⟩ (fun s' => typeIs_int s' k t) noFill_list_mul F.fills_int_mul F.slot_int_rmul repeat_list F.slot_int_index.lookup
  (call_meets F.slot_int_rmul (typeIs_int s k t) F.entry_int_rmul (F.args_int_rmul_2 _ _) (int___rmul___int_list k t l its.toArray n)
   ⟨e, rfl, ⟨_, e, rfl⟩, call_meets F.slot_list_mul ⟨_, e, rfl⟩ F.entry_list_mul (F.args_list_mul_2 _ _) (AutoListH.list___mul___list_int_3 l its.toArray n k t hfit hcap hlong) ⟨e, ?_⟩⟩)
 rw [hnew]
 exact ⟨.ref _, _, I.lnew (t' := s.toks) (r.rep k.toNat) (by rw [y4f, Nat.mul_comm]; exact hz), rfl, q _ I.fresh⟩
end
section
variable {prog : Program} {w : World} {A : Around} {E : Value -> Shared -> Prop} {s : Shared}
end
section
variable {X : Cx}
end
end L2
namespace Att
open PySem PySem.W PySem.Calls PyProof.Rows
theorem z6d {P : Params} {h : Heap} : ∀ (ns : List Int) (vs : List Value), WellAll P h vs (ns.map WData.int) -> IntsAre vs ns := by
 intro ns
 induction ns with
 | nil =>
  intro vs w
  rw [List.map_nil] at w
  cases w
  exact .nil
 | cons n ns ih =>
  intro vs w
  rw [List.map_cons] at w
  cases w with
  | cons a b =>
   cases a
   exact .cons _ _ (ih _ b)
theorem y2q {l : OpenLaw} {n : Nat} (hn : l.most = some n) {P : Params} {h : Heap} {args : List WData} {vals : List Value}
  (hpre : l.row.toRowW.claim.pre args = true) (hwl : WellAll P h vals args) :
  ∃ a vs ns, vals = [Value.ref a] /\ args = [WData.list (ns.map WData.int)] /\ h.get? a = some { cls := .type "list", data := .seq vs.toArray } /\ IntsAre vs ns /\ ns.length ≤ n := by
 have hsh : WShape.hasAll [] args [.list .int] = true := (pre_splitW hpre).1
 have hc : l.pre.holds [] { args := args } = true := (pre_splitW hpre).2
 obtain ⟨d, r, rfl, h1, h2⟩ := hasAllW_cons hsh
 obtain rfl := hasAllW_nil h2
 obtain ⟨xs, rfl, h3⟩ := hasW_list h1
 obtain ⟨ns, rfl⟩ := items_int h3
 have hlen : ns.length ≤ n := by
  unfold OpenLaw.pre at hc
  have h4 : (WTm.not (.lt (.lit (.int (n : Int))) (.len (.arg 0)))).holds [] { args := [.list (ns.map .int)] } = true := by
   have h4 := (holds_andW hc).1
   rw [hn] at h4
   exact h4
  have h5 := condW_of h4 (w_not (w_lt w_lit (w_len_list (w_arg rfl))))
  rw [List.length_map] at h5
  refine Nat.le_of_not_lt fun q => ?_
  have q' : (n : Int) < ((ns.length : Nat) : Int) := by omega
  first
   | (rw [decide_eq_true q'] at h5; exact absurd h5 (by decide))
   | (simp at h5; omega)
 cases hwl with
 | cons w1 w2 =>
  cases w2
  cases w1 with
  | list ho hall => exact ⟨_, _, ns, rfl, rfl, ho, z6d ns _ hall, hlen⟩
theorem y23 (l : OpenLaw) (args : List WData) : l.row.toRowW.claim.post args (.bool true) args = true :=
 postW_of (r := l.row.toRowW) (X := (true == true))
  (show WShape.has [] (.bool true) .bool = true by first | rfl | decide | simp [WShape.has, WShape.arms, WShape.armsAll])
  (show (WTm.eq .res (.lit (.bool true))).value [] { args := args, res := some (.bool true), after := args } = some (.bool (true == true)) from w_eq_bool (w_res rfl) w_lit) rfl
theorem z8J {l : OpenLaw} {n : Nat} {q : Program} {loose : List Str} {XP : (Str -> Option Value) -> Heap -> Prop} {YP : World -> Heap -> Prop} {d : DefRec}
  (hn : l.most = some n) (hdf : d.params.defaults = [])
  (call : ∀ (w : World) (s₀ s₁ : Shared) (mg mb : Str -> Option Value) (fa : Addr) (o : Obj) (pm cd doc : Value) (a : Addr) (vs : List Value) (ns : List Int),
   Ground q loose [] XP w s₀ mg mb s₁.heap -> YP w s₁.heap ->
   s₁.heap.get? fa = some o -> o.data = .func (docDef d.name d.params d.body d.scope pm cd doc) -> s₁.heap.CodeRec cd d.name -> mg d.name = some (.ref fa) ->
   s₁.heap.get? a = some { cls := .type "list", data := .seq vs.toArray } -> IntsAre vs ns -> ns.length ≤ n -> s₁.gens = #[] ->
   codeAny (model l.prog w) callerA (.call (.ref fa) ⟨[.ref a], []⟩) (fun r s' => r = .ok (.ret (.bool true)) /\ OldK s₁.heap s'.heap /\ s'.os = s₁.os /\ AllBare s'.gens) s₁) :
  WalkO q loose XP YP l.row.toRowW d [] (fun f vs => PySem.call f vs) := by
 intro w s₀ s₁ mg mb G Y fa o pm cd doc dV kV ho hd hcd hD hmg hg args vals as hpre hlay hrd hwl hlo
 obtain rfl : dV = .none := Dflts.none hD hdf
 obtain rfl : kV = .none := Dflts.noKw hD
 obtain ⟨a, vs, ns, rfl, rfl, hobj, hints, hlen⟩ := y2q hn hpre hwl
 refine enter_call (codeAny_mono (call w s₀ s₁ mg mb fa o pm cd doc a vs ns G Y ho (fd_plain hd) hcd hmg hobj hints hlen hg) fun r s' hq => ?_)
 obtain ⟨rfl, h2, h3, h4⟩ := hq
 exact ⟨.inl ⟨.bool true, .bool true, [], rfl, fun _ => rfl, .bool true, y23 l _, fun _ => ⟨List.Pairwise.nil, fun _ hm => (nomatch hm)⟩⟩, h2, h3, h4⟩
section
variable {prog : Program} {w : World} {A : Around} {E : Value -> Shared -> Prop} {s : Shared} {K : Frag}
end
end Att
namespace L2
open PySem PySem.Spec PyProof.Rows
theorem z4P : ∀ {vs : List Value} {ns : List Int}, IntsAre vs ns -> Vals (ns.map V.int) vs
 | _, _, .nil => .nil
 | _, _, .cons n t h => .cons ⟨t, rfl⟩ (z4P h)
def Only (H : Hp) : Prop := ∀ b, H b = none \/ ∃ o xs, H b = some (.frz o (.lst xs))
theorem y2Z {P : Program} {w : World} {K : PySem.W.Frag} {mg mb : Str -> Option Value} {CX : CXT} {k : Nat} {fa a : Addr} {fd : FuncData} {x : Str} {sp : Sp} {s₁ : Shared} {vs : List Value} {ns : List Int}
  (KX : K.In s₁.heap) (hns : s₁.heap.Ns mainGlobals mg) (hb : s₁.heap.Ns builtinsNs mb) (hbb : ∀ x : Str, x ≠ "__name__" -> mb x = bootBuiltins x) (hlim : s₁.heap.NoLimit) (hg : s₁.gens = #[])
  (ha : s₁.heap.get? a = some { cls := .type "list", data := .seq vs.toArray }) (hi : IntsAre vs ns) (hl : ns.length ≤ sizeLine) (hr : Room k callerA)
  (F : ∀ base : Heap, K.In base -> base.Ns mainGlobals mg -> FnOk P w K mg base CX k fa fd [x] sp) (hbind : ∀ (s : Shared) (u : Value), BindsTo s fd ⟨[u], []⟩ [(x, u)])
  (hsp : ∀ H : Hp, Only H -> SqL K H a (ns.map V.int) -> sp [.ref a] H (fun v _ => v = .bl true) fun _ _ _ => False)
  (hCX : ∀ H e s', CX [] H s₁ (fun _ _ _ => False) e s' -> False) :
  codeAny (model P w) callerA (.call (.ref fa) ⟨[.ref a], []⟩) (fun r s' => r = .ok (.ret (.bool true)) /\ OldK s₁.heap s'.heap /\ s'.os = s₁.os /\ AllBare s'.gens) s₁ := by
 have rv := z4P hi
 have lenV := hi.length
 have core : ∀ H : Hp, Only H -> SqL K H a (ns.map V.int) -> HOk P w H s₁.heap -> (∀ b, H b ≠ none -> b = a) -> (H a ≠ none -> K.lookup a = none) ->
   codeAny (model P w) callerA (.call (.ref fa) ⟨[.ref a], []⟩) (fun r s' => r = .ok (.ret (.bool true)) /\ OldK s₁.heap s'.heap /\ s'.os = s₁.os /\ AllBare s'.gens) s₁ := by
  intro H hO hS hok hA hK
  have base_of : ∀ {b : Addr} {o : Obj}, s₁.heap.get? b = some o -> H b = none -> (hidT s₁.heap H).get? b = some o := fun e n => y3b e n
  have noA : ∀ {b : Addr} {o : Obj} {es : Array DictEntry} {ep : Nat}, s₁.heap.get? b = some o -> o.data = .dict es ep -> H b = none := fun {b o es ep} e d => by
   cases q : H b with
   | none => rfl
   | some u =>
    have e' : b = a := hA b (by rw [q]; simp)
    subst e'
    rw [ha] at e; cases e
    have d' : Data.seq vs.toArray _ = Data.dict es ep := d
    cases d'
  have nsK : ∀ {b : Addr} {m : Str -> Option Value}, s₁.heap.Ns b m -> (hidT s₁.heap H).Ns b m := fun {b m} ⟨o, es, ep, e, d, r⟩ => ⟨o, es, ep, base_of e (noA e d), d, r⟩
  have hKb : K.In (hidT s₁.heap H) := fun b o e => base_of (KX b o e) (by
   cases q : H b with
   | none => rfl
   | some u =>
    have e' : b = a := hA b (by rw [q]; simp)
    subst e'
    rw [hK (by rw [q]; simp)] at e; cases e)
  have hM : Mod K mg (hidT s₁.heap H) := ⟨hKb, nsK hns, ⟨mb, nsK hb, hbb⟩, let ⟨mc, h1, h2⟩ := hlim; ⟨mc, nsK h1, h2⟩⟩
  have e0 : Env0 P w K mg (hidT s₁.heap H) callerA [] s₁ H := ⟨rfl, hM, fun b o e => y48 e, Nat.le_of_eq (y1A _ _), trivial, fun b hb => absurd (show b ∈ ([] : List Addr) from hb) (by simp), hok, .of_eq hg⟩
  refine codeAny_mono ((F _ hKb (nsK hns)).run callerA [] s₁ H ⟨[.ref a], []⟩ [.ref a] [.ref a] _ _ hr e0 (hbind s₁ (.ref a)) (.cons rfl .nil) (hsp H hO hS)) fun r s' h => ?_
  cases r with
  | error e => exact (hCX H e s' h).elim
  | ok fl =>
   cases fl with
   | next => exact False.elim h
   | brk => exact False.elim h
   | cont => exact False.elim h
   | ret u =>
    obtain ⟨v, H', os, bare, un, hok', r', q⟩ := h
    have q' : v = .bl true := q
    subst q'
    obtain rfl : u = Value.bool true := r'
    refine ⟨rfl, OldK.of_keep fun b o e => ?_, os, bare⟩
    cases q : H b with
    | none => exact un.keep b o e q (by intro z; exact absurd (show b ∈ ([] : List Addr) from z) (by simp)) (by simp)
    | some u =>
     rcases hO b with z | ⟨ob, xs, z⟩
     ·rw [q] at z; cases z
     ·have z2 := un.frzs b ob _ z
      obtain ⟨e1, _⟩ := hok b _ z
      obtain ⟨e2, _⟩ := hok' b _ z2
      rw [e] at e1; cases e1
      exact e2
 cases hk : K.lookup a with
 | some o =>
  have e := KX a o hk
  rw [ha] at e
  cases e
  refine core (fun _ => none) (fun _ => .inl rfl) (.inr ⟨_, vs.toArray, _, hk, rfl, rfl, rfl, by rw [List.size_toArray, lenV]; exact hl, by simpa using rv⟩) (fun b u z => by have z' : (none : Option HO) = some u := z; cases z') (fun b z => absurd rfl z) fun z => absurd rfl z
 | none =>
  refine core (fun b => if b = a then some (.frz { cls := .type "list", data := .seq vs.toArray } (.lst (ns.map V.int))) else none) (fun b => ?_) (.inl (.inr ⟨{ cls := .type "list", data := .seq vs.toArray }, if_pos rfl⟩)) (fun b u z => ?_) (fun b z => ?_) fun _ => hk
  ·by_cases hb : b = a
   ·exact .inr ⟨_, _, if_pos hb⟩
   ·exact .inl (if_neg hb)
  ·by_cases hb : b = a
   ·have z' := (if_pos hb).symm.trans z
    cases z'
    subst hb
    exact ⟨ha, by rw [List.length_map]; exact hl, vs, _, rv, ha⟩
   ·have z' := (if_neg hb).symm.trans z
    cases z'
  ·by_cases hb : b = a
   ·exact hb
   ·exact absurd (if_neg hb) z
theorem y4H {l : PySem.W.OpenLaw} {n k : Nat} {q : Program} {loose : List Str} {XP : (Str -> Option Value) -> Heap -> Prop} {YP : World -> Heap -> Prop} {d : DefRec} {K : Params -> PySem.W.Frag} {CX : World -> CXT} {sp : World -> Sp} {x : Str}
  (hn : l.most = some n) (hn2 : n ≤ sizeLine) (hdf : d.params.defaults = []) (hr : Room k callerA)
  (hY : ∀ (w : World) (h : Heap), YP w h -> (K w.params).In h)
  (F : ∀ (w : World) (mg : Str -> Option Value) (fa : Addr) (h : Heap), (K w.params).In h -> h.Ns mainGlobals mg -> mg d.name = some (.ref fa) ->
   ∃ fd : FuncData, (∀ (s : Shared) (u : Value), BindsTo s fd ⟨[u], []⟩ [(x, u)]) /\
    ∀ base : Heap, (K w.params).In base -> base.Ns mainGlobals mg -> FnOk l.prog w (K w.params) mg base (CX w) k fa fd [x] (sp w))
  (hsp : ∀ (w : World) (H : Hp) (a : Addr) (ns : List Int), ns.length ≤ n -> Only H -> SqL (K w.params) H a (ns.map V.int) -> sp w [.ref a] H (fun v _ => v = .bl true) fun _ _ _ => False)
  (hCX : ∀ (w : World) (H : Hp) (s : Shared) (e : Value) (s' : Shared), CX w [] H s (fun _ _ _ => False) e s' -> False) :
  PySem.W.WalkO q loose XP YP l.row.toRowW d [] (fun f vs => PySem.call f vs) := by
 refine Att.z8J hn hdf fun w s₀ s₁ mg mb fa o pm cd doc a vs ns G Y ho hd hcd hmg hobj hints hlen hg => ?_
 have KX := hY w _ Y
 obtain ⟨fd, hb, hF⟩ := F w mg fa _ KX G.T.g hmg
 exact y2Z KX G.T.g G.T.b G.T.builtins G.T.nolimit hg hobj hints (Nat.le_trans hlen hn2) hr hF hb (fun H hO hS => hsp w H a ns hlen hO hS) fun H e s' => hCX w H s₁ e s'
def z0Y (s : Stmt) (j : Nat) : Stmt := match s with
 | .ClassDef _ _ _ body _ _ _ _ _ _ _ => body.getD j (.Pass ⟨0, 0, 0, 0⟩)
 | _ => .Pass ⟨0, 0, 0, 0⟩
def z1c (s : Stmt) : Arguments := match s with
 | .FunctionDef _ a _ _ _ _ _ _ _ _ => a
 | _ => { posonlyargs := [], args := [], vararg := none, kwonlyargs := [], kw_defaults := [], kwarg := none, defaults := [] }
def z10 (s : Stmt) : List Stmt := match s with
 | .FunctionDef _ _ b _ _ _ _ _ _ _ => b
 | _ => []
def z06 (s : Stmt) : Scope := match s with
 | .FunctionDef _ _ _ _ _ _ sc _ _ _ => sc
 | _ => { kind := .function, names := [], isGenerator := false, isCoroutine := false }
abbrev CX0 : CXT := fun _ _ _ _ _ _ => False
abbrev E0 : XK := fun _ _ _ => False
theorem y1z {X : Cx} : z6y CX0 X E0 := fun _ _ _ _ _ _ _ h => h.elim
structure Fun (K : PySem.W.Frag) (x qual : Str) (st : Stmt) (f : Addr) (fd : FuncData) : Prop where
 ex : ∃ (oc : Value) (od : Option Addr) (kV doc pm : Value) (an : Option Addr) (cdv ct : Value) (osl : Array (Option Value)),
  fd = PySem.W.fnOf x qual (z1c st) (z10 st) (z06 st) .none kV doc pm an cdv ct /\ K.lookup f = some ⟨oc, od, .func fd, osl⟩ /\ PySem.W.codeIn K cdv qual = true
 kp : PySem.W.keepIn K (.ref f) = true
section
variable {P : Program} {w : World} {K : PySem.W.Frag} {mg : Str -> Option Value} {base : Heap}
theorem Fun.ok {x qual : Str} {st : Stmt} {f : Addr} {fd : FuncData} {N ps : List Str} {k : Nat} {sp : Sp} (F : Fun K x qual st f fd) (S : FnScope N ps (z06 st)) (len : ∀ vs H Q E, sp vs H Q E -> vs.length = ps.length)
  (hbody : ∀ (cdv : Value) (A : Around) (outer : List Env) (s : Shared) (H : Hp) (vs : List V) (Q : VK) (E : XK), Room k (A.deeper (envOfC qual (z06 st) s.heap.objs.size f cdv)) -> sp vs H Q E ->
   ∃ t, PSs (cxOf CX0 P w K mg base N qual (z06 st) f cdv A outer s H E).nox (z10 st) t /\ t { nx := fun _ H' => Q .non H', rt := Q } (z5t N vs) H) : FnOk P w K mg base CX0 (k + 1) f fd ps sp := by
 obtain ⟨oc, od, kV, doc, pm, an, cdv, ct, osl, rfl, lk, hcd⟩ := F.ex
 refine y5n lk hcd S len fun A outer s H vs Q E hr hsp => ?_
 obtain ⟨t, h, q⟩ := hbody cdv A outer s H vs Q E hr hsp
 exact ⟨t, h.nox, q⟩
theorem Fun.binds {x qual : Str} {st : Stmt} {f : Addr} {fd : FuncData} {ps : List Str} (F : Fun K x qual st f fd)
  (h : ∀ (kV doc pm : Value) (an : Option Addr) (cdv ct : Value) (us : List Value), us.length = ps.length -> bindArgs (PySem.W.fnOf x qual (z1c st) (z10 st) (z06 st) .none kV doc pm an cdv ct) ⟨us, []⟩ = pure (ps.zip us)) : z1J K fd ps [] := by
 obtain ⟨oc, od, kV, doc, pm, an, cdv, ct, osl, rfl, lk, hcd⟩ := F.ex
 exact .all (h kV doc pm an cdv ct)
theorem y53 {x qual : Str} {st : Stmt} {f : Addr} {oc : Value} {od an : Option Addr} {osl : Array (Option Value)} {kV doc pm cdv ct : Value} (l : K.lookup f = some ⟨oc, od, .func (PySem.W.fnOf x qual (z1c st) (z10 st) (z06 st) .none kV doc pm an cdv ct), osl⟩)
  (c : PySem.W.codeIn K cdv qual = true) (k : PySem.W.keepIn K (.ref f) = true) : Fun K x qual st f (PySem.W.fnOf x qual (z1c st) (z10 st) (z06 st) .none kV doc pm an cdv ct) := ⟨⟨oc, od, kV, doc, pm, an, cdv, ct, osl, rfl, l, c⟩, k⟩
end
theorem z8K {A : Around} {k : Nat} (hr : Room k A) : A.units + 1 < cLine := Nat.lt_of_le_of_lt (Nat.add_le_add_left (by decide : 1 ≤ 64) _) hr.units
theorem z0d {n : Nat} (h : n ≤ 1000) : n < sizeLine := Nat.lt_of_le_of_lt h (by decide)
section
variable {X : Cx}
theorem pv (i : Nat) {x : Str} {pos : Pos} (hN : X.N[i]? = some x := by rfl) (hv : Vis X.env.scope x := by first | exact Or.inl rfl | exact Or.inr (Or.inl rfl) | exact Or.inr (Or.inr rfl)) (hd : (x == ("__debug__" : Str)) = false := by decide)
  (hcd : (x == ("__classdict__" : Str)) = false := by decide) : PE X (.Name x pos) (tVar i) := y56 hN hv hd hcd
end
theorem iteF {A B : Prop} (h : B) : if false = true then A else B := by
 rw [if_neg Bool.false_ne_true]
 exact h
theorem iteT {A B : Prop} (h : A) : if true = true then A else B := by
 rw [if_pos rfl]
 exact h
theorem ite2 {c A B : Prop} [Decidable c] (h1 : c -> A) (h2 : ¬ c -> B) : if c then A else B := by
 by_cases h : c
 ·rw [if_pos h]
  exact h1 h
 ·rw [if_neg h]
  exact h2 h
theorem y5p {c A B : Prop} [Decidable c] (hc : c) (h : B) : if (!decide c) = true then A else B := by
 rw [decide_eq_true hc]
 exact iteF h
def Same (H H' : Hp) : Prop := ∀ b o, H b = some o -> H' b = some o
theorem Same.refl (H : Hp) : Same H H := fun _ _ h => h
theorem Same.trans {H H1 H2 : Hp} (a : Same H H1) (b : Same H1 H2) : Same H H2 := fun c o h => b c o (a c o h)
theorem Same.free {H H' : Hp} (e : Same H H') {l : Addr} (h : H' l = Option.none) : H l = Option.none := by
 cases q : H l with
 | none => rfl
 | some o =>
  rw [e l o q] at h
  cases h
theorem Same.seq {K : PySem.W.Frag} {H H' : Hp} {a : Addr} {xs : List V} (e : Same H H') (h : SqL K H a xs) : SqL K H' a xs := by
 rcases h with (h | ⟨o, h⟩) | h
 ·exact .inl (.inl (e _ _ h))
 ·exact .inl (.inr ⟨o, e _ _ h⟩)
 ·exact .inr h
abbrev noE : Value -> Shared -> Prop := fun _ _ => False
theorem z8O {prog : Program} {w : World} {A : Around} {R : Result -> Shared -> Prop} {s : Shared} {elt target iter : Expr} {ifs : List Expr} {scope : Scope} {pos : Pos} {it acc : Value} {env : Env} (I : Nat -> Shared -> Prop)
  (turn : ∀ n s, I n s -> wpAny (model prog w) A (pyNext it) (fun r s1 => match r with
   | none => R (.ok .next) s1
   | some v => wpAny (model prog w) A (letOwnedTupleGo target it v) (fun _ s0 => wpAny (model prog w) A (assign target env v) (fun _ s2 =>
     wpAny (model prog w) A (forIn ifs true fun c r => if r = true then do let ok <- isTrue c env (eval c env); pure (ForInStep.yield ok) else pure (ForInStep.yield r)) (fun ok s3 =>
      if ok = true then wpAny (model prog w) A (eval elt env) (fun x s4 =>
       wpAny (model prog w) A (call (.builtin "list.append") [acc, x]) (fun _ s5 => ∃ m, m < n /\ I m s5) noE s4) noE s3
      else ∃ m, m < n /\ I m s3) noE s2) noE s0) noE s1) noE s)
  (n : Nat) (h : I n s) : codeAny (model prog w) A (.compLoop (.ListComp elt [⟨target, iter, ifs, 0⟩] scope pos) 0 it acc env) R s := by
 refine codeAny_loop rfl I (fun n s hI => ?_) n h
 show wpAny _ A ((compTurn (.ListComp elt [⟨target, iter, ifs, 0⟩] scope pos) 0 it acc env).onRaise (fun x => do noteFrame x env; theTreesLotGoes x)) _ _ s
 refine wpAny_noted ?_
 rw [compTurn_list]
 refine wpAny_bind (wpAny_standAt (wpAny_bind (wpAny_mono (turn n s hI) (fun r s1 h1 => ?_) fun _ _ z => False.elim z)))
 cases r with
 | none => exact wpAny_pure h1
 | some v =>
  refine wpAny_bind (wpAny_mono h1 (fun _ s0 h0 => ?_) fun _ _ z => False.elim z)
  refine wpAny_bind (wpAny_mono h0 (fun _ s2 h2 => wpAny_bind (wpAny_mono h2 (fun ok s3 h3 => ?_) fun _ _ z => False.elim z)) fun _ _ z => False.elim z)
  cases ok with
  | false => exact wpAny_pure ⟨rfl, h3⟩
  | true =>
   exact wpAny_bind (wpAny_bind (wpAny_mono h3 (fun x s4 h4 => wpAny_bind (wpAny_mono h4 (fun _ s5 h5 => wpAny_pure (wpAny_pure ⟨rfl, h5⟩)) fun _ _ z => False.elim z)) fun _ _ z => False.elim z))
def z6R (cells : List (Str × Addr)) : List (Str × NameKind) -> List (Str × Addr) -> Option (List (Str × Addr))
 | [], acc => some acc
 | (n, k) :: r, acc => if k == .free then (match cells.lookup n with
   | some a => z6R cells r ((n, a) :: acc)
   | none => none) else z6R cells r acc
theorem z57 {env : Env} : ∀ (names : List (Str × NameKind)) (acc cl : List (Str × Addr)), z6R env.cells names acc = some cl ->
  (forIn names acc fun (x : Str × NameKind) (cs : List (Str × Addr)) => match x with
   | (name, kind) => if (kind == NameKind.free) = true then do let c <- cellOf env name; pure (ForInStep.yield ((name, c) :: cs)) else pure (ForInStep.yield cs) : Sem (List (Str × Addr))) = pure cl
 | [], acc, cl, h => by
  have h' : acc = cl := Option.some.inj h
  subst h'
  rfl
 | (n, k) :: r, acc, cl, h => by
  rw [List.forIn_cons]
  unfold z6R at h
  by_cases hk : (k == NameKind.free) = true
  ·rw [if_pos hk] at h
   cases e : env.cells.lookup n with
   | none => rw [e] at h; cases h
   | some a =>
    rw [e] at h
    have ih := z57 r ((n, a) :: acc) cl h
    have hc : cellOf env n = pure a := by unfold cellOf; rw [e]
    dsimp only
    rw [if_pos hk, hc]
    simpa using ih
  ·rw [if_neg hk] at h
   have ih := z57 r acc cl h
   dsimp only
   rw [if_neg hk]
   simpa using ih
theorem z5G {scope : Scope} {env : Env} {cl : List (Str × Addr)} (h : z6R env.cells scope.names [] = some cl) : closureFor scope env = pure cl := by
 have q := z57 (env := env) scope.names [] cl h
 unfold closureFor
 simpa using q
theorem z6f {cells : List (Str × Addr)} : ∀ {names : List (Str × NameKind)} {acc cl : List (Str × Addr)}, z6R cells names acc = some cl ->
  (∀ x c, acc.lookup x = some c -> cells.lookup x = some c) -> ∀ x c, cl.lookup x = some c -> cells.lookup x = some c
 | [], acc, cl, h, ha, x, c, e => by
  have h' : acc = cl := Option.some.inj h
  subst h'
  exact ha x c e
 | (n, k) :: r, acc, cl, h, ha, x, c, e => by
  unfold z6R at h
  by_cases hk : (k == NameKind.free) = true
  ·rw [if_pos hk] at h
   cases q : cells.lookup n with
   | none => rw [q] at h; cases h
   | some a =>
    rw [q] at h
    refine z6f (names := r) (acc := (n, a) :: acc) h (fun y d z => ?_) x c e
    rw [List.lookup_cons] at z
    cases hy : y == n with
    | true =>
     rw [hy] at z
     have z' : a = d := Option.some.inj z
     rw [<- z', beq_iff_eq.mp hy]
     exact q
    | false =>
     rw [hy] at z
     exact ha y d z
  ·rw [if_neg hk] at h
   exact z6f (names := r) (acc := acc) h ha x c e
theorem z4Z {cells : List (Str × Addr)} : ∀ {names : List (Str × NameKind)} {acc cl : List (Str × Addr)}, z6R cells names acc = some cl ->
  ∀ x, ((∃ c, acc.lookup x = some c) \/ (x, NameKind.free) ∈ names) -> ∃ c, cl.lookup x = some c
 | [], acc, cl, h, x, hx => by
  have h' : acc = cl := Option.some.inj h
  subst h'
  rcases hx with hx | hx
  ·exact hx
  ·cases hx
 | (n, k) :: r, acc, cl, h, x, hx => by
  unfold z6R at h
  by_cases hk : (k == NameKind.free) = true
  ·rw [if_pos hk] at h
   cases q : cells.lookup n with
   | none => rw [q] at h; cases h
   | some a =>
    rw [q] at h
    refine z4Z (names := r) (acc := (n, a) :: acc) h x ?_
    rcases hx with ⟨c, hx⟩ | hx
    ·left
     rw [List.lookup_cons]
     cases hy : x == n with
     | true => exact ⟨a, rfl⟩
     | false => exact ⟨c, hx⟩
    ·rcases List.mem_cons.mp hx with e | e
     ·left
      have e1 : x = n := congrArg Prod.fst e
      rw [List.lookup_cons, e1, beq_self_eq_true]
      exact ⟨a, rfl⟩
     ·exact .inr e
  ·rw [if_neg hk] at h
   refine z4Z (names := r) (acc := acc) h x ?_
   rcases hx with hx | hx
   ·exact .inl hx
   ·rcases List.mem_cons.mp hx with e | e
    ·have e2 : NameKind.free = k := congrArg Prod.snd e
     exact absurd (by rw [<- e2]; rfl) hk
    ·exact .inr e
theorem z6M {α β : Type} [BEq α] [LawfulBEq α] : ∀ {l : List (α × β)} {x : α} {b : β}, l.lookup x = some b -> (x, b) ∈ l
 | [], x, b, h => by cases h
 | (a, c) :: r, x, b, h => by
  rw [List.lookup_cons] at h
  cases hx : x == a with
  | true =>
   rw [hx] at h
   have h' : c = b := Option.some.inj h
   rw [beq_iff_eq.mp hx, h']
   exact List.mem_cons_self
  | false =>
   rw [hx] at h
   exact List.mem_cons_of_mem _ (z6M h)
theorem z5H {scope : Scope} {env : Env} (hcell : ∀ y ∈ scope.names, y.2 ≠ .cell) {x : Str} (h : (relabel scope env).names.lookup x = some .cell \/ (relabel scope env).names.lookup x = some .free) : (x, NameKind.free) ∈ scope.names := by
 have go : ∀ k, (relabel scope env).names.lookup x = some k -> (k = .cell \/ k = .free) -> (x, NameKind.free) ∈ scope.names := fun k h hk => by
  have m := z6M h
  obtain ⟨⟨n, k'⟩, hm, e⟩ := List.mem_map.mp m
  dsimp only at e
  by_cases c : (k' == NameKind.free && env.scope.kind == .function && env.kindOf n == some .cell) = true
  ·rw [if_pos c] at e
   have e1 : n = x := congrArg Prod.fst e
   have c1 : (k' == NameKind.free) = true := by
    rw [Bool.and_eq_true, Bool.and_eq_true] at c
    exact c.1.1
   have c2 : k' = .free := eq_of_beq c1
   rw [<- e1, <- c2]
   exact hm
  ·rw [if_neg c] at e
   have e1 : n = x := congrArg Prod.fst e
   have e2 : k' = k := congrArg Prod.snd e
   rcases hk with z | z
   ·exact absurd (e2.trans z) (hcell _ hm)
   ·rw [<- e1, <- z, <- e2]
    exact hm
 rcases h with h | h
 ·exact go _ h (.inl rfl)
 ·exact go _ h (.inr rfl)
def z3m (X : Cx) (scope : Scope) (cl : List (Str × Addr)) (N : List Str) (C : Addr) (s3 : Shared) (H1 : Hp) (ex : List Addr) (pins : List (Addr × Obj)) : Cx :=
 { X with N := N, s₀ := s3, H₀ := H1, env := compEnvC scope cl C X.env, outer := X.stack, ex := ex, fn := fun _ => false, pn := X.pn ++ pins, xe := noE }
def z6P (own : Nat) (ix : List Nat) (σ : St) : St := List.replicate own none ++ ix.map fun i => (σ[i]?).join
structure CompScope (X : Cx) (scope : Scope) (cl : List (Str × Addr)) (own caps : List Str) (ix : List Nat) : Prop where
 clos : z6R X.env.cells scope.names [] = some cl
 cell : ∀ y ∈ scope.names, y.2 ≠ .cell
 kind : scope.kind = .function
 names : ∀ y ∈ scope.names, y.2 = .local -> scope.names.lookup y.1 = some .local
 capn : caps.length = ix.length
 cap : ∀ (j i : Nat) (x : Str), caps[j]? = some x -> ix[j]? = some i -> X.N[i]? = some x /\ X.env.kindOf x ≠ some .local /\ Vis X.env.scope x /\ ((relabel scope X.env).names.lookup x = some .cell \/ (relabel scope X.env).names.lookup x = some .free)
theorem Inv.track {X : Cx} {pins : List (Addr × Obj)} {σ : St} {H : Hp} {s : Shared} {D : Addr} {o : HO} (I : Inv X pins σ H s) (f : FpOk X pins H D) (new : z1a X.prog X.w (upd H D o) s.heap D o) : Inv X pins σ (upd H D o) s := by
 obtain ⟨f0, f1, f2, f3, f4, f5⟩ := f
 have q := I.step (H' := upd H D o) (h' := s.heap) (g' := s.gens) (t' := s.toks) (d' := s.drawn) (ch := [D]) (fun b hb => by
   have e : b = D := by simpa using hb
   subst e
   exact ⟨f3, f1, f4, f5⟩)
  (fun _ _ _ _ _ e _ => e) (fun b ob _ _ _ e _ => ⟨ob.slots, e⟩) (fun b ob hb _ n => by
   have e : b ≠ D := fun z => hb (by simp [z])
   rw [z09 e]; exact n)
  (fun b ob _ e => ⟨ob, e⟩) (fun b xs e => by rw [z09 (z0i e f0)]; exact e) (fun b ob u e => by rw [z09 (z0i e f0)]; exact e)
  (fun b ps e => ⟨#[], by rw [z09 (z0i e f0), e]; simp⟩) (fun _ hm => hm) (fun b u e => by
   by_cases hb : b = D
   ·subst hb
    rw [z02] at e
    cases e
    exact new
   ·rw [z09 hb] at e
    exact (I.hok b u e).stay (fun _ _ _ q => q) (fun c q => by rw [z09 (z0i q f0)]; exact q) fun c xs q => by rw [z09 (z0i q f0)]; exact q) I.bare
 exact q
section
variable {X : Cx} {scope : Scope} {cl : List (Str × Addr)} {own caps : List Str} {ix : List Nat}
theorem CompScope.look (S : CompScope X scope cl own caps ix) : ∀ x c, cl.lookup x = some c -> X.env.cells.lookup x = some c :=
 z6f S.clos fun x c e => by cases e
theorem y3d {pins : List (Addr × Obj)} {σ : St} {H1 : Hp} {s3 : Shared} {h1 : Heap} {ex : List Addr} {m : Str -> Option Value} {tk : Nat} (S : CompScope X scope cl own caps ix) (I : Inv X pins σ H1 s3)
  (hex : ∀ b ∈ ex, b < s3.heap.objs.size /\ b ≠ X.env.locals /\ b ∉ X.fs /\ (b ∈ X.ex \/ X.s₀.heap.objs.size ≤ b) /\ ∀ x c, X.env.cells.lookup x = some c -> c ≠ b)
  (hn : h1.Ns s3.heap.objs.size m) (hk : ∀ b o, s3.heap.get? b = some o -> h1.get? b = some o) :
  Inv (z3m X scope cl (own ++ caps) s3.heap.objs.size s3 H1 ex pins) [] (z6P own.length ix σ) H1 { s3 with heap := h1, toks := tk } := by
 have stkN : ∀ b ∈ frs X.stack, b < s3.heap.objs.size := fun b hb => by
  obtain ⟨_, o, ho, _⟩ := I.stack.mem hb
  exact Heap.lt_size ho
 have lt0 : ∀ b o, X.base.get? b = some o -> b < X.s₀.heap.objs.size := fun b o e => Heap.lt_size (I.ok.bs b o e).1
 refine ⟨⟨I.ok.mod, S.kind, I.ok.glob, I.ok.blt, Nat.le_refl _, ?_, ?_, ?_, I.ok.hd, I.ok.frames, .inl rfl, ?_, I.bs, Nat.le_trans I.ok.bsz I.sz, ?_, ?_, I.stack, I.stkFree⟩, rfl, I.bare, ?_, ?_, ?_, ?_, ?_, ?_, ?_, ?_⟩
 ·intro x y c e1 e2
  exact I.ok.inj x y c (S.look x c e1) (S.look y c e2)
 ·intro x hx
  exact z4Z S.clos x (.inr (z5H S.cell hx))
 ·intro x c hf
  exact absurd hf Bool.false_ne_true
 ·intro b hb
  obtain ⟨l, a1, a2, a3, a4⟩ := hex b hb
  exact ⟨Nat.ne_of_lt l, fun x c e => a4 x c (S.look x c e)⟩
 ·intro b o e hb
  obtain ⟨l, a1, a2, a3, a4⟩ := hex b hb
  rcases a3 with z | z
  ·exact I.ok.noex b o e z
  ·exact absurd (Nat.lt_of_lt_of_le (lt0 b o e) z) (Nat.lt_irrefl _)
 ·intro b hb hf
  obtain ⟨l, a1, a2, a3, a4⟩ := hex b hb
  rcases List.mem_cons.mp (I.stkSub b hf) with z | z
  ·exact a1 z
  ·exact a2 z
 ·exact Un.kept hk
 ·refine ⟨m, hn, fun i x v e1 e2 e3 => ?_⟩
  have e2' : (List.replicate own.length none ++ ix.map fun i => (σ[i]?).join : St)[i]? = some (some v) := e2
  have e1' : (own ++ caps)[i]? = some x := e1
  by_cases hi : i < own.length
  ·rw [List.getElem?_append_left (by simpa using hi), List.getElem?_replicate, if_pos hi] at e2'
   cases e2'
  ·have hi' : own.length ≤ i := Nat.le_of_not_lt hi
   rw [List.getElem?_append_right (by simpa using hi'), List.length_replicate, List.getElem?_map] at e2'
   rw [List.getElem?_append_right hi'] at e1'
   cases q : ix[i - own.length]? with
   | none => rw [q] at e2'; cases e2'
   | some k =>
    rw [q] at e2'
    have e2'' : (σ[k]?).join = some v := Option.some.inj e2'
    have e4 : σ[k]? = some (some v) := by
     cases z : σ[k]? with
     | none => rw [z] at e2''; cases e2''
     | some u => rw [z] at e2''; rw [show u = some v from e2'']
    obtain ⟨n1, n2, n3, n4⟩ := S.cap (i - own.length) k x e1' q
    obtain ⟨mX, _, hl⟩ := I.loc
    obtain ⟨u, r, l⟩ := hl k x v n1 e4 n3
    refine ⟨u, r, ?_⟩
    rcases l with ⟨kl, _⟩ | ⟨_, c, ec, ic⟩
    ·exact absurd kl n2
    ·obtain ⟨c', ec'⟩ := z4Z S.clos x (.inr (z5H S.cell n4))
     have e5 := S.look x c' ec'
     rw [ec] at e5
     cases e5
     exact .inr ⟨n4, c, ec', ic.keeps hk⟩
 ·intro x c e
  obtain ⟨v, q⟩ := I.cell x c (S.look x c e)
  exact ⟨v, q.keeps hk⟩
 ·exact I.hok.fresh (Nat.le_refl _)
 ·intro x c e
  exact I.freeC x c (S.look x c e)
 ·intro p hp
  have hp' : p ∈ X.pn ++ pins := by
   have : p ∈ (X.pn ++ pins) ++ [] := hp
   rwa [List.append_nil] at this
  obtain ⟨e, n, ne, nf, d⟩ := I.pin p hp'
  refine ⟨hk _ _ e, n, Nat.ne_of_lt (Heap.lt_size e), fun z => ?_, d⟩
  rcases List.mem_cons.mp (I.stkSub p.1 z) with z | z
  ·exact ne z
  ·exact nf z
 ·exact I.hok.kept hk
 ·show (List.replicate own.length none ++ ix.map fun i => (σ[i]?).join : St).length = (own ++ caps).length
  rw [List.length_append, List.length_replicate, List.length_map, List.length_append, S.capn]
def PTs (X : Cx) (ifs : List Expr) (t : TT) : Prop :=
 ∀ (pins : List (Addr × Obj)) (s : Shared) (σ : St) (H : Hp) (Q : Bool -> Hp -> Prop), Inv X pins σ H s -> t σ H Q ->
  wpAny (model X.prog X.w) X.A (forIn ifs true fun c r => if r = true then do let ok <- isTrue c X.env (eval c X.env); pure (ForInStep.yield ok) else pure (ForInStep.yield r)) (TP X pins σ Q) X.xe s
def tYes : TT := fun _ H Q => Q true H
theorem z1B : PTs X [] tYes := fun _ _ _ H _ I h => wpAny_tests_nil ⟨H, I, h⟩
theorem z3e {c : Expr} {t : TT} (hc : PT X c t) : PTs X [c] t := fun pins s σ H Q I h => wpAny_tests_one (hc pins s σ H Q I h)
def z4I (n : Nat) (σ σ' : St) : Prop := σ'.length = σ.length /\ ∀ i, n ≤ i -> σ'[i]? = σ[i]?
def OwnG (n : Nat) (g : TG) : Prop := ∀ v σ H Q, g v σ H Q -> g v σ H fun σ' H' => Q σ' H' /\ z4I n σ σ'
def y2c (n : Nat) (g : TGs) : Prop := ∀ vs σ H Q, g vs σ H Q -> g vs σ H fun σ' H' => Q σ' H' /\ z4I n σ σ'
theorem z4I.refl (n : Nat) (σ : St) : z4I n σ σ := ⟨rfl, fun _ _ => rfl⟩
theorem z4I.trans {n : Nat} {a b c : St} (x : z4I n a b) (y : z4I n b c) : z4I n a c := ⟨y.1.trans x.1, fun i h => (y.2 i h).trans (x.2 i h)⟩
theorem z0w {n i : Nat} (h : i < n) : OwnG n (y0m i) := fun v σ H Q q => ⟨q, by simp, fun j hj => List.getElem?_set_ne (by omega)⟩
theorem z67 {n : Nat} : y2c n gNil := fun vs σ H Q q => ⟨q.1, q.2, z4I.refl n σ⟩
def z8d (g : TG) : Prop := ∀ v σ H (Q Q' : St -> Hp -> Prop), (∀ σ' H', Q σ' H' -> Q' σ' H') -> g v σ H Q -> g v σ H Q'
def z7d (g : TGs) : Prop := ∀ vs σ H (Q Q' : St -> Hp -> Prop), (∀ σ' H', Q σ' H' -> Q' σ' H') -> g vs σ H Q -> g vs σ H Q'
theorem z0b {i : Nat} : z8d (y0m i) := fun _ _ _ _ _ f q => f _ _ q
theorem z15 : z7d gNil := fun _ _ _ _ _ f q => ⟨q.1, f _ _ q.2⟩
theorem z0L {t : TG} {u : TGs} (a : z8d t) (b : z7d u) : z7d (y3U t u) := fun vs σ H Q Q' f q => by
 obtain ⟨v, r, e, q⟩ := q
 exact ⟨v, r, e, a _ _ _ _ _ (fun σ' H' z => b _ _ _ _ _ f z) q⟩
theorem z62 {K : PySem.W.Frag} {n : Nat} {t : TGs} (a : z7d t) : z8d (gTup K n t) := fun v σ H Q Q' f q => by
 obtain ⟨p, xs, e, h1, h2, q⟩ := q
 exact ⟨p, xs, e, h1, h2, a _ _ _ _ _ f q⟩
theorem z1Z {n : Nat} {t : TG} {u : TGs} (a : OwnG n t) (m : z8d t) (b : y2c n u) (m' : z7d u) : y2c n (y3U t u) := fun vs σ H Q q => by
 obtain ⟨v, r, e, q⟩ := q
 refine ⟨v, r, e, m _ _ _ _ _ (fun σ' H' z => ?_) (a _ _ _ _ q)⟩
 exact m' _ _ _ _ _ (fun σ2 H2 y => ⟨y.1, z.2.trans y.2⟩) (b _ _ _ _ z.1)
theorem z7N {K : PySem.W.Frag} {n k : Nat} {t : TGs} (a : y2c n t) : OwnG n (gTup K k t) := fun v σ H Q q => by
 obtain ⟨p, xs, e, h1, h2, q⟩ := q
 exact ⟨p, xs, e, h1, h2, a _ _ _ _ q⟩
def z18 (g : TG) (tc : TT) (te : TE) (σ0 : St) (x : V) (H : Hp) (ys : List V) (N : List V -> Hp -> Prop) : Prop :=
 g x σ0 H fun σ2 H2 => tc σ2 H2 fun b H3 => if b = true then te σ2 H3 fun y H4 => N (ys ++ [y]) H4 else N ys H3
def y51 (own : Nat) (ix : List Nat) (wi : TI) (g : TG) (tc : TT) (te : TE) (σ : St) (H : Hp) (F : List V -> Hp -> Prop) : Prop :=
 wi σ H fun J H1 => ∃ W : Nat -> Nat -> List V -> Hp -> Prop, (∃ m, W 0 m [] H1) /\ ∀ i m ys H, W i m ys H ->
  (J.stop i H /\ F ys H) \/ (J.go i H /\ ys.length < sizeLine /\ ∃ N : List V -> Hp -> Prop, (∀ zs H', N zs H' -> ∃ m', m' < m /\ W (i + 1) m' zs H') /\
   ∀ x H', J.yld i H x H' -> z18 g tc te (z6P own ix σ) x H' ys N)
theorem z77 {elt iter tg : Expr} {ifs : List Expr} {pos : Pos} {pins : List (Addr × Obj)} {σ : St} {s2 : Shared} {itv : Value} {g : TG} {tc : TT} {te : TE} {F : List V -> Hp -> Prop} {RR : Value -> Addr -> Result -> Shared -> Prop} {E : Value -> Shared -> Prop}
  (S : CompScope X scope cl own caps ix) (hc : X.calm = true)
  (hg : ∀ C s3 H1 ex pn, PG (z3m X scope cl (own ++ caps) C s3 H1 ex pn) tg g) (og : OwnG own.length g) (mg : z8d g)
  (ht : ∀ C s3 H1 ex pn, PTs (z3m X scope cl (own ++ caps) C s3 H1 ex pn) ifs tc)
  (he : ∀ C s3 H1 ex pn, PE (z3m X scope cl (own ++ caps) C s3 H1 ex pn) elt te)
  (h : PIE X pins σ tg (fun J H1 => ∃ W : Nat -> Nat -> List V -> Hp -> Prop, (∃ m, W 0 m [] H1) /\ ∀ i m ys H, W i m ys H ->
   (J.stop i H /\ F ys H) \/ (J.go i H /\ ys.length < sizeLine /\ ∃ N : List V -> Hp -> Prop, (∀ zs H', N zs H' -> ∃ m', m' < m /\ W (i + 1) m' zs H') /\
    ∀ x H', J.yld i H x H' -> z18 g tc te (z6P own.length ix σ) x H' ys N)) itv s2)
  (hRR : ∀ D C m H' ys s', Inv X pins σ (upd H' D (.lst ys)) s' -> FpOk X pins (upd H' D (.lst ys)) C -> s'.heap.Ns C m -> H' D = none -> F ys H' -> RR (.ref D) C (.ok .next) s') :
  wpAny (model X.prog X.w) X.A (newList []) (fun acc s3 => wpAny (model X.prog X.w) X.A (newFunctionEnv scope X.env.globals cl [] X.env.qual none .none (some X.env)) (fun cenv s4 =>
   codeAny (model X.prog X.w) X.A (.compStart (.ListComp elt [⟨tg, iter, ifs, 0⟩] scope pos) 0 itv acc { cenv with scope := relabel scope X.env }) (RR acc cenv.locals) s4) E s3) E s2 := by
 obtain ⟨it, fp, tn, J, H1, e, I2, T, st2, f2, W, ⟨m0, w0⟩, turn⟩ := h
 subst e
 refine wpAny_newObj_type (wpAny_newFunctionEnv S.cell (by intro y hy; simp at hy) (fun h1 hns1 hsb1 => ?_) S.kind)
 dsimp only at hns1 hsb1 ⊢
 generalize hH2 : s2.heap.push { cls := .type "list", dict := none, data := .seq ([] : List Value).toArray } = h2 at hns1 hsb1 ⊢
 have keep2 : ∀ b o, s2.heap.get? b = some o -> h2.get? b = some o := fun b o e => hH2 ▸ Heap.get?_push_of_some _ e
 have sz2 : h2.objs.size = s2.heap.objs.size + 1 := by rw [<- hH2, Heap.size_push]
 have hDC : s2.heap.objs.size ≠ h2.objs.size := by omega
 have keep1 : ∀ b o, h2.get? b = some o -> h1.get? b = some o := fun b o e => hsb1.extBut b o (Nat.ne_of_lt (Heap.lt_size e)) (Heap.get?_push_of_some _ e)
 have getD2 : h2.get? s2.heap.objs.size = some { cls := .type "list", dict := none, data := .seq ([] : List Value).toArray } := hH2 ▸ Heap.get?_push_size _ rfl
 have I3 : Inv X pins σ H1 { s2 with heap := h2, toks := s2.toks } := I2.kept keep2
 have fD : FpOk X pins H1 s2.heap.objs.size := I2.fpOk (Nat.le_refl _) I2.fresh
 have fDs : ∀ {H' : Hp}, H' s2.heap.objs.size = none -> FpOk X pins H' s2.heap.objs.size := fun hn => ⟨hn, fD.2⟩
 have fpLt : ∀ b ∈ fp, b < s2.heap.objs.size := fun b hb => by
  obtain ⟨o, e, _⟩ := T.obj _ _ st2 b hb
  exact Heap.lt_size e
 have hDfp : s2.heap.objs.size ∉ fp := fun z => Nat.lt_irrefl _ (fpLt _ z)
 have exOk : ∀ b ∈ s2.heap.objs.size :: fp, b < h2.objs.size /\ b ≠ X.env.locals /\ b ∉ X.fs /\ (b ∈ X.ex \/ X.s₀.heap.objs.size ≤ b) /\ ∀ x c, X.env.cells.lookup x = some c -> c ≠ b := fun b hb => by
  rcases List.mem_cons.mp hb with rfl | hb
  ·exact ⟨by omega, fD.2.1, fD.2.2.1, fD.2.2.2.1, fD.2.2.2.2.1⟩
  ·have := fpLt b hb
   obtain ⟨_, a1, a2, a3, a4, _⟩ := f2 b hb
   exact ⟨by rw [sz2]; exact Nat.lt_succ_of_lt this, a1, a2, a3, a4⟩
 have I4 : Inv (z3m X scope cl (own ++ caps) h2.objs.size { s2 with heap := h2, toks := s2.toks } H1 (s2.heap.objs.size :: fp) pins) [] (z6P own.length ix σ) H1 { s2 with heap := h1, toks := s2.toks + ([] : List (Str × Value)).length } :=
  y3d S I3 exOk hns1 keep1
 generalize hX : z3m X scope cl (own ++ caps) h2.objs.size { s2 with heap := h2, toks := s2.toks } H1 (s2.heap.objs.size :: fp) pins = Y at I4
 have HG : PG Y tg g := by rw [<- hX]; exact hg _ _ _ _ _
 have HT : PTs Y ifs tc := by rw [<- hX]; exact ht _ _ _ _ _
 have HE : PE Y elt te := by rw [<- hX]; exact he _ _ _ _ _
 have eP : Y.prog = X.prog := by rw [<- hX]; rfl
 have eW : Y.w = X.w := by rw [<- hX]; rfl
 have eK : Y.K = X.K := by rw [<- hX]; rfl
 have eA : Y.A = X.A := by rw [<- hX]; rfl
 have eC : Y.calm = true := by rw [<- hX]; exact hc
 have eE : Y.xe = noE := by rw [<- hX]; rfl
 have eEnv : Y.env = compEnvC scope cl h2.objs.size X.env := by rw [<- hX]; rfl
 have eEx : Y.ex = s2.heap.objs.size :: fp := by rw [<- hX]; rfl
 have ePn : Y.pn = X.pn ++ pins := by rw [<- hX]; rfl
 have eFs : Y.fs = frs X.stack := by rw [<- hX]; rfl
 have eCells : ∀ x c, Y.env.cells.lookup x = some c -> X.env.cells.lookup x = some c := fun x c e => by
  rw [eEnv] at e
  exact S.look x c e
 have eLoc : Y.env.locals = h2.objs.size := by rw [eEnv]; rfl
 have fY : ∀ {pl : List (Addr × Obj)} {H' : Hp} {b : Addr}, b ∈ s2.heap.objs.size :: fp -> H' b = none -> (∀ p ∈ pl, p.1 ≠ b) -> FpOk Y pl H' b := fun {pl H' b} hb hn hpl => by
  obtain ⟨l, a1, a2, a3, a4⟩ := exOk b hb
  refine ⟨hn, by rw [eLoc]; exact Nat.ne_of_lt l, fun z => ?_, .inl (by rw [eEx]; exact hb), fun x c e => a4 x c (eCells x c e), fun p hp => ?_⟩
  ·rw [eFs] at z
   rcases List.mem_cons.mp (I3.stkSub b z) with z | z
   ·exact a1 z
   ·exact a2 z
  ·rcases List.mem_append.mp hp with z | z
   ·rw [ePn] at z
    rcases List.mem_cons.mp hb with rfl | hb
    ·exact fD.2.2.2.2.2 p z
    ·exact (f2 b hb).2.2.2.2.2 p z
   ·exact hpl p z
 let IV : Nat -> Shared -> Prop := fun n s' => ∃ i ys its c H', Inv Y [] (z6P own.length ix σ) H' s' /\ tn i s'.heap /\ (∀ b ∈ fp, H' b = none) /\ H' s2.heap.objs.size = none /\ Vals ys its /\
  s'.heap.get? s2.heap.objs.size = some { cls := .type "list", data := .seq its.toArray c } /\ ys.length ≤ sizeLine /\ W i n ys H'
 have loop : ∀ s3 : Shared, s3 = { s2 with heap := h1, toks := s2.toks + ([] : List (Str × Value)).length } ->
   codeAny (model X.prog X.w) X.A (.compLoop (.ListComp elt [⟨tg, iter, ifs, 0⟩] scope pos) 0 (.ref it) (.ref s2.heap.objs.size) (compEnvC scope cl h2.objs.size X.env)) (RR (.ref s2.heap.objs.size) h2.objs.size) s3 := by
  rintro s3 rfl
  refine z8O IV ?_ m0 ⟨0, [], [], _, H1, I4, T.keep _ _ _ st2 fun b _ o e => keep1 b o (keep2 b o e), fun b hb => (f2 b hb).1, I2.fresh, .nil, keep1 _ _ getD2, Nat.zero_le _, w0⟩
  rintro n s5 ⟨i, ys, its, c, H5, I5, st5, fr5, nD5, v5, gD5, z5, w5⟩
  have I5p : Inv Y [(s2.heap.objs.size, { cls := .type "list", data := .seq its.toArray c })] (z6P own.length ix σ) H5 s5 := I5.pins_of fun p hp => by
   have e : p = (s2.heap.objs.size, { cls := .type "list", data := .seq its.toArray c }) := by simpa using hp
   subst e
   obtain ⟨_, b1, b2, _⟩ := fY (pl := []) (H' := H5) (b := s2.heap.objs.size) List.mem_cons_self nD5 (fun p hp => nomatch hp)
   exact ⟨gD5, nD5, b1, b2, fun v z => by cases z⟩
  have fps : ∀ {H' : Hp}, (∀ b ∈ fp, H' b = none) -> ∀ b ∈ fp, FpOk Y [(s2.heap.objs.size, { cls := .type "list", data := .seq its.toArray c })] H' b := fun hn b hb =>
   fY (List.mem_cons_of_mem _ hb) (hn b hb) fun p hp => by
    have e : p = (s2.heap.objs.size, { cls := .type "list", data := .seq its.toArray c }) := by simpa using hp
    subst e
    exact fun z => hDfp (by have z' : s2.heap.objs.size = b := z; rw [z']; exact hb)
  rcases turn i n ys H5 w5 with ⟨stop, fin⟩ | ⟨go, hlen, N, hN, step⟩
  ·have q := T.done Y eP eW eK eC i _ s5 _ H5 noE I5p (fps fr5) st5 stop
   rw [eA] at q
   refine thn q fun r s6 ⟨hr, I6⟩ => ?_
   subst hr
   have gD6 := (I6.pin (s2.heap.objs.size, { cls := .type "list", data := .seq its.toArray c }) (List.mem_append_right _ (by simp))).1
   have u6 : Un (frs X.stack) (s2.heap.objs.size :: fp) H1 H5 h2 s6.heap := by
    have := I6.base
    rw [eFs, eEx] at this
    rw [<- hX] at this
    exact this
   have os6 : s6.os = s2.os := by
    have := I6.os
    rw [<- hX] at this
    exact this
   have hok6 : HOk X.prog X.w H5 s6.heap := by
    have := I6.hok
    rw [eP, eW] at this
    exact this
   have J6 : Inv X pins σ H5 s6 := I3.call' (s' := s6) os6 u6 hok6 I6.bare fun b hb => by
    obtain ⟨l, a1, a2, a3, a4⟩ := exOk b hb
    refine ⟨a3, a1, a4, ?_⟩
    rcases List.mem_cons.mp hb with rfl | hb
    ·exact fD.2.2.2.2.2
    ·exact (f2 b hb).2.2.2.2.2
   have J7 : Inv X pins σ (upd H5 s2.heap.objs.size (.lst ys)) s6 := J6.track (fDs nD5) ⟨z5, its, c, v5, gD6⟩
   obtain ⟨mC, hC, _⟩ := I6.loc
   rw [eLoc] at hC
   have nC : H5 h2.objs.size = none := by
    have := I6.free
    rw [eLoc] at this
    exact this
   refine hRR _ _ mC H5 ys s6 J7 (I3.fpOk (Nat.le_refl _) ?_) hC nD5 fin
   show upd H5 s2.heap.objs.size (.lst ys) h2.objs.size = none
   rw [z09 (Ne.symm hDC)]
   exact nC
  ·have q := T.item Y eP eW eK eC i _ s5 _ H5 noE I5p (fps fr5) st5 go
   rw [eA] at q
   refine thn q fun r s6 ⟨u, hr, h6⟩ => ?_
   subst hr
   refine thn h6 fun _ s7 ⟨x, H7, I7, r7, y7, st7, fr7⟩ => ?_
   have I7p := I7.pinned (fps fr7) (T.obj _ _ st7)
   have st := og _ _ _ _ (step x H7 y7)
   have q2 := HG _ s7 _ H7 x u _ I7p r7 st
   rw [eE, eP, eW, eA, eEnv] at q2
   refine thn q2 fun _ s8 ⟨σ8, H8, I8, q8, fr8⟩ => ?_
   have q3 := HT _ s8 σ8 H8 _ I8 q8
   rw [eE, eP, eW, eA, eEnv] at q3
   refine thn q3 fun ok s9 ⟨H9, I9, q9⟩ => ?_
   have back : ∀ {H' : Hp} {s' : Shared}, Inv Y ([(s2.heap.objs.size, ({ cls := .type "list", data := .seq its.toArray c } : Obj))] ++ z86 fp s7.heap) σ8 H' s' ->
     Inv Y [] (z6P own.length ix σ) H' s' /\ tn (i + 1) s'.heap /\ (∀ b ∈ fp, H' b = none) /\ H' s2.heap.objs.size = none /\ s'.heap.get? s2.heap.objs.size = some { cls := .type "list", data := .seq its.toArray c } := fun {H' s'} I' => by
    have pD := I'.pin (s2.heap.objs.size, { cls := .type "list", data := .seq its.toArray c }) (List.mem_append_right _ (List.mem_append_left _ (by simp)))
    refine ⟨(I'.pins_of (pins' := []) fun p hp => nomatch hp).weak fr8.1.symm fun j v e => ?_, T.keep _ _ _ st7 fun b hb o e => (I'.pin (b, o) (List.mem_append_right _ (List.mem_append_right _ (z3N hb e)))).1, fun b hb => ?_, pD.2.1, pD.1⟩
    ·by_cases hj : j < own.length
     ·have e' : (List.replicate own.length none ++ ix.map fun i => (σ[i]?).join : St)[j]? = some (some v) := e
      rw [List.getElem?_append_left (by simpa using hj), List.getElem?_replicate, if_pos hj] at e'
      cases e'
     ·rw [fr8.2 j (Nat.le_of_not_lt hj)]
      exact e
    ·obtain ⟨o, e, d⟩ := T.obj _ _ st7 b hb
     exact (I'.pin (b, o) (List.mem_append_right _ (List.mem_append_right _ (z3N hb e)))).2.1
   cases ok with
   | false =>
    obtain ⟨m', hm, w9⟩ := hN _ _ (show N ys H9 from q9)
    obtain ⟨b1, b2, b3, b4, b5⟩ := back I9
    exact ⟨m', hm, i + 1, ys, its, c, H9, b1, b2, b3, b4, v5, b5, z5, w9⟩
   | true =>
    have q9' : te σ8 H9 fun y H4 => N (ys ++ [y]) H4 := q9
    have q4 := HE _ s9 σ8 H9 _ I9 q9'
    rw [eE, eP, eW, eA, eEnv] at q4
    refine thn q4 fun yv s10 ⟨y, H10, I10, r10, n10⟩ => ?_
    obtain ⟨b1, b2, b3, b4, b5⟩ := back I10
    obtain ⟨m', hm, w10⟩ := hN _ _ n10
    have hl := v5.length
    refine call_meets PySem.F.slot_list_append ⟨_, b5, rfl⟩ PySem.F.entry_list_append (PySem.F.args_list_append_2 _ _) (PySem.list_append s2.heap.objs.size its.toArray c yv (by rw [List.size_toArray]; omega)) ⟨b5, ?_⟩
    have q5 := PySem.IsL.update b5 (fun a => a.push yv)
    have e5 : its.toArray.push yv = (its ++ [yv]).toArray := by simp
    rw [e5] at q5
    have k5 : ∀ b o, b ≠ s2.heap.objs.size -> s10.heap.get? b = some o -> (s10.heap.update s2.heap.objs.size (Obj.mapSeq fun a => a.push yv)).get? b = some o := fun b o hb e =>
     (Heap.get?_update_other s10.heap (Obj.mapSeq fun a => a.push yv) (Ne.symm hb)).trans e
    obtain ⟨f0, f1, f2', f3, f4, f5⟩ := fY (pl := []) (H' := H10) (b := s2.heap.objs.size) List.mem_cons_self b4 (fun p hp => nomatch hp)
    have b1' := b1.turned (t' := s10.toks) k5 f0 f1 f3 f4 f5
    refine ⟨m', hm, i + 1, ys ++ [y], its ++ [yv], _, H10, b1', T.keep _ _ _ b2 fun b hb o e => k5 b o (fun z => hDfp (by rw [<- z]; exact hb)) e, b3, b4, v5.append (.cons r10 .nil), q5, ?_, w10⟩
    ·rw [List.length_append, List.length_singleton]
     omega
 exact codeAny_compStart_list (loop _ rfl) (T.self _ 0 _ _ _ (T.keep _ _ _ st2 fun b _ o e => keep1 b o (keep2 b o e)) (loop _ rfl))
def y55 (own : Nat) (ix : List Nat) (wi : TI) (g : TG) (tc : TT) (te : TE) : TE := fun σ H Q => y51 own ix wi g tc te σ H fun ys H' => ∀ D, H' D = none -> Q (.ref D) (upd H' D (.lst ys))
theorem z1p {elt iter tg : Expr} {ifs : List Expr} {pos : Pos} {wi : TI} {g : TG} {tc : TT} {te : TE} (own caps : List Str) (ix : List Nat)
  (hc : X.calm = true) (S : CompScope X scope cl own caps ix) (hi : PI X tg iter wi)
  (hg : ∀ C s3 H1 ex pn, PG (z3m X scope cl (own ++ caps) C s3 H1 ex pn) tg g) (og : OwnG own.length g) (mg : z8d g)
  (ht : ∀ C s3 H1 ex pn, PTs (z3m X scope cl (own ++ caps) C s3 H1 ex pn) ifs tc)
  (he : ∀ C s3 H1 ex pn, PE (z3m X scope cl (own ++ caps) C s3 H1 ex pn) elt te)
  (hs : ∀ x, foldedSetIterable iter X.env x = pure x := by intro _; rfl) :
  PE X (.ListComp elt [⟨tg, iter, ifs, 0⟩] scope pos) (y55 own.length ix wi g tc te) := by
 intro pins s σ H Q I h
 rw [eval_ListComp]
 refine wpAny_comprehension_free (use := none) rfl hs (z5G S.clos) S.kind S.names (thn (hi pins s σ H _ I h) fun v s1 h1 => thn h1 fun itv s2 h2 => ?_)
 refine z77 (RR := fun acc C => compPost (model X.prog X.w) X.A X.xe none (EP X pins σ Q) acc C) S hc hg og mg ht he h2 ?_
 intro D C m H' ys s' I' fC hn hD fin
 refine ⟨m, hn, fun h' sb => ?_⟩
 obtain ⟨f0, f1, f2, f3, f4, f5⟩ := fC
 have I2 := I'.turned (t' := s'.toks) (h' := h') (it := C) (fun b o hb e => (sb.2 b hb).trans e) f0 f1 f3 f4 f5
 exact ⟨.ref D, _, I2, rfl, fin D hD⟩
theorem z45 {elt iter tg : Expr} {ifs : List Expr} {pos pos' spos : Pos} {x : Str} {i : Nat} {wi : TI} {g : TG} {tc : TT} {te : TE} (own caps : List Str) (ix : List Nat)
  (hc : X.calm = true) (hN : X.N.Nodup) (hx : X.N[i]? = some x) (hl : Loc X.env.scope x) (S : CompScope X scope cl own caps ix) (hi : PI X tg iter wi)
  (hg : ∀ C s3 H1 ex pn, PG (z3m X scope cl (own ++ caps) C s3 H1 ex pn) tg g) (og : OwnG own.length g) (mg : z8d g)
  (ht : ∀ C s3 H1 ex pn, PTs (z3m X scope cl (own ++ caps) C s3 H1 ex pn) ifs tc)
  (he : ∀ C s3 H1 ex pn, PE (z3m X scope cl (own ++ caps) C s3 H1 ex pn) elt te)
  (hsw : swapsWith (.ListComp elt [⟨tg, iter, ifs, 0⟩] scope pos) (some (.Name x pos')) spos.line X.env = pure true := by rfl)
  (hf : X.fn x = true \/ X.env.scope.names.lookup x = some .local := by first | exact .inl rfl | exact .inr rfl | assumption)
  (hs : ∀ x, foldedSetIterable iter X.env x = pure x := by intro _; rfl) :
  PS X (.Assign [.Name x pos'] (.ListComp elt [⟨tg, iter, ifs, 0⟩] scope pos) spos) (tAsg (y55 own.length ix wi g tc te) (y0m i)) := by
 intro pins s σ H D I h
 rw [exec_Assign_Name_used _ _ _ _ hsw]
 refine wpAny_bind (wpAny_standAt (wpAny_bind ?_))
 show wpAny _ X.A (do let _ <- comprehension (.ListComp elt [⟨tg, iter, ifs, 0⟩] scope pos) scope X.env _ (newList []) false (eval iter X.env) (some (assign (.Name x pos') X.env))) _ _ s
 refine wpAny_bind (wpAny_mono (wpAny_comprehension_free (use := some (assign (.Name x pos') X.env)) (Q := fun _ s' => SP X pins D .next s') rfl hs (z5G S.clos) S.kind S.names
  (thn (hi pins s σ H _ I h) fun v s1 h1 => thn h1 fun itv s2 h2 => ?_)) (fun _ s' hq => wpAny_pure (wpAny_pure hq)) fun _ _ e => e)
 refine z77 (RR := fun acc C => compPost (model X.prog X.w) X.A X.xe (some (assign (.Name x pos') X.env)) (fun _ s' => SP X pins D .next s') acc C) S hc hg og mg ht he h2 ?_
 intro D' C m H' ys s' I' fC hn hD fin
 obtain ⟨f0, f1, f2, f3, f4, f5⟩ := fC
 obtain ⟨oC, es, ep, hoC, hdC, hr⟩ := id hn
 show wpAny _ X.A (assign (.Name x pos') X.env (.ref D')) _ _ _
 have Ip : Inv X (pins ++ [(C, oC)]) σ (upd H' D' (.lst ys)) s' := I'.pins_of fun p hp => (List.mem_append.mp hp).elim (fun z => I'.pin p (List.mem_append_right _ z)) fun z => by
  have e : p = (C, oC) := by simpa using z
  subst e
  exact ⟨hoC, f0, f1, f2, fun v z => by rw [hdC] at z; cases z⟩
 refine thn (z0j hN hx hl hf (pins ++ [(C, oC)]) s' σ _ (.ref D') (.ref D') _ Ip rfl (fin D' hD)) fun _ s3 ⟨σ3, H3, I3, q3⟩ => ?_
 have pC := I3.pin (C, oC) (List.mem_append_right _ (List.mem_append_right _ (by simp)))
 refine ⟨m, ⟨oC, es, ep, pC.1, hdC, hr⟩, fun h' sb => ?_⟩
 have I4 : Inv X pins σ3 H3 s3 := I3.unpinned
 exact ⟨σ3, H3, I4.turned (t' := s3.toks) (h' := h') (it := C) (fun b o hb e => (sb.2 b hb).trans e) pC.2.1 f1 f3 f4 f5, q3⟩
end
section
variable {prog : Program} {w : World} {A : Around} {R : Result -> Shared -> Prop} {I : Addr} {fp wr : List Addr} {n : Nat} {P : Nat -> Value -> Prop} {St : Nat -> Heap -> Prop}
theorem y2x (W : Walks prog w A.in1 I fp wr n P St) (bt : Nat -> Nat -> Bool) (hcmp : CmpOf prog w A.in1 .Gt P bt) (S : Addr) (hSf : S ∉ fp) (kw : List (Str × Value)) :
  ∀ (k j : Nat) (s : Shared) (vb : Value) (c : Nat), n - (j + 1) = k -> j + 1 ≤ n -> St (j + 1) s.heap -> P (argBest bt j) vb ->
  s.heap.get? S = some { cls := .type "list", dict := none, data := .seq #[vb, vb] c, slots := #[] } ->
  (∀ v h' tk, P (argBest bt (n - 1)) v -> (∀ b o, b ∉ wr -> b ≠ S -> s.heap.get? b = some o -> h'.get? b = some o) -> R (.ok (.ret v)) { s with heap := h', toks := tk }) ->
  codeAny (model prog w) A (.builtin "max.loop" ⟨[.ref I, .none, .ref S], kw⟩) R s := by
 have hSw : S ∉ wr := fun h => hSf (W.sub _ h)
 have hname : (toString "max" ++ toString ".loop" : String) = "max.loop" := by decide
 intro k
 induction k with
 | zero =>
  intro j s vb c hk hj hst hPb hS hR
  have hin : j + 1 = n := by omega
  refine codeAny_builtin PySem.F.entry_max_loop ?_
  rw [Around.under_plainId PySem.F.plain_max_loop _]
  show wpAny _ A.in1 (seqItems? (.ref S) >>= _) _ _ s
  refine wpAny_bind (wpAny_seqItems hS rfl ?_)
  show wpAny _ A.in1 (tryCatch (pyNext (.ref I)) _ >>= _) _ _ s
  refine wpAny_bind (wpAny_tryCatch (W.done s _ _ (hin ▸ hst) fun h' tk hk' => ?_))
  have hS' := hk' S _ hSw hS
  show wpAny _ A.in1 (updateSeq S (fun _ => #[]) >>= _) _ _ _
  refine wpAny_bind ?_
  refine wpAny_updateSeq hS' rfl (wpAny_bind (wpAny_letGo (wpAny_pure ?_)))
  refine hR vb _ tk (by rw [<- hin]; exact hPb) fun b o hbw hbS e => (Heap.get?_update_other _ _ (Ne.symm hbS)).trans (hk' b o hbw e)
 | succ k ih =>
  intro j s vb c hk hj hst hPb hS hR
  have hlt : j + 1 < n := by omega
  refine codeAny_builtin PySem.F.entry_max_loop ?_
  rw [Around.under_plainId PySem.F.plain_max_loop _]
  show wpAny _ A.in1 (seqItems? (.ref S) >>= _) _ _ s
  refine wpAny_bind (wpAny_seqItems hS rfl ?_)
  show wpAny _ A.in1 (tryCatch (pyNext (.ref I)) _ >>= _) _ _ s
  refine wpAny_bind (wpAny_tryCatch (W.item (j + 1) s _ _ hlt hst fun v h' tk hP hst' hk' => ?_))
  have hS' := hk' S _ hSw hS
  show wpAny _ A.in1 (tryCatch (holding [v, v] (richCompare .Gt v vb >>= _)) _ >>= _) _ _ _
  refine wpAny_bind (wpAny_tryCatch (wpAny_holding (wpAny_bind (hcmp (j + 1) (argBest bt j) v vb _ _ _ hP hPb ?_))))
  refine wpAny_bind (wpAny_holding (wpAny_truthy_bool ?_))
  refine wpAny_bind (wpAny_letGo (wpAny_pure ?_))
  cases hb : bt (j + 1) (argBest bt j) with
  | true =>
   simp only [if_true]
   refine wpAny_bind ?_
   refine wpAny_updateSeq hS' rfl (wpAny_bind (wpAny_letGo ?_))
   rw [hname]
   refine wpAny_pure ⟨plainId_quiet PySem.F.plain_max_loop _, ih (j + 1) _ v _ (by omega) hlt (W.frame _ _ _ hst' fun b hbf o e => ?_) (by simp only [argBest, hb, if_true]; exact hP) (Heap.get?_update_self _ hS' rfl)
    fun v' h'' tk'' hP' hk'' => ?_⟩
   ·exact (Heap.get?_update_other _ _ (fun h : S = b => hSf (by rw [h]; exact hbf))).trans e
   ·exact hR v' h'' tk'' hP' fun b o hbw hbS e => hk'' b o hbw hbS ((Heap.get?_update_other _ _ (Ne.symm hbS)).trans (hk' b o hbw e))
  | false =>
   simp only [Bool.false_eq_true, if_false]
   refine wpAny_bind (wpAny_letGo ?_)
   rw [hname]
   refine wpAny_pure ⟨plainId_quiet PySem.F.plain_max_loop _, ih (j + 1) _ vb c (by omega) hlt hst' (by simp only [argBest, hb, Bool.false_eq_true, if_false]; exact hPb) hS' fun v' h'' tk'' hP' hk'' => ?_⟩
   exact hR v' h'' tk'' hP' fun b o hbw hbS e => hk'' b o hbw hbS (hk' b o hbw e)
theorem y0U (W : Walks prog w A.in1 I fp wr n P St) (bt : Nat -> Nat -> Bool) (hcmp : CmpOf prog w A.in1 .Gt P bt) (S : Addr) (hSf : S ∉ fp) (kw : List (Str × Value)) (hn : 0 < n) {s : Shared} {c : Nat} (hst : St 0 s.heap)
  (hS : s.heap.get? S = some { cls := .type "list", dict := none, data := .seq #[] c, slots := #[] })
  (hR : ∀ v h' tk, P (argBest bt (n - 1)) v -> (∀ b o, b ∉ wr -> b ≠ S -> s.heap.get? b = some o -> h'.get? b = some o) -> R (.ok (.ret v)) { s with heap := h', toks := tk }) :
  codeAny (model prog w) A (.builtin "max.loop" ⟨[.ref I, .none, .ref S], kw⟩) R s := by
 have hSw : S ∉ wr := fun h => hSf (W.sub _ h)
 have hname : (toString "max" ++ toString ".loop" : String) = "max.loop" := by decide
 refine codeAny_builtin PySem.F.entry_max_loop ?_
 rw [Around.under_plainId PySem.F.plain_max_loop _]
 show wpAny _ A.in1 (seqItems? (.ref S) >>= _) _ _ s
 refine wpAny_bind (wpAny_seqItems hS rfl ?_)
 show wpAny _ A.in1 (tryCatch (pyNext (.ref I)) _ >>= _) _ _ s
 refine wpAny_bind (wpAny_tryCatch (W.item 0 s _ _ hn hst fun v h' tk hP hst' hk' => ?_))
 have hS' := hk' S _ hSw hS
 show wpAny _ A.in1 (updateSeq S (fun _ => #[v, v]) >>= _) _ _ _
 refine wpAny_bind ?_
 refine wpAny_updateSeq hS' rfl ?_
 rw [hname]
 refine wpAny_pure ⟨plainId_quiet PySem.F.plain_max_loop _, y2x W bt hcmp S hSf kw _ 0 _ v _ rfl hn (W.frame _ _ _ hst' fun b hbf o e => ?_) hP (Heap.get?_update_self _ hS' rfl) fun v' h'' tk'' hP' hk'' => ?_⟩
 ·exact (Heap.get?_update_other _ _ (fun h : S = b => hSf (by rw [h]; exact hbf))).trans e
 ·exact hR v' h'' tk'' hP' fun b o hbw hbS e => hk'' b o hbw hbS ((Heap.get?_update_other _ _ (Ne.symm hbS)).trans (hk' b o hbw e))
theorem y2D (W : Walks prog w A.in1 I fp wr n P St) (S : Addr) (hSf : S ∉ fp) (kn : Str) (d : Value) (hn : n = 0) {s : Shared} {c : Nat} (hst : St 0 s.heap)
  (hS : s.heap.get? S = some { cls := .type "list", dict := none, data := .seq #[] c, slots := #[] })
  (hR : ∀ h' tk, (∀ b o, b ∉ wr -> s.heap.get? b = some o -> h'.get? b = some o) -> R (.ok (.ret d)) { s with heap := h', toks := tk }) :
  codeAny (model prog w) A (.builtin "max.loop" ⟨[.ref I, .none, .ref S], [(kn, d)]⟩) R s := by
 refine codeAny_builtin PySem.F.entry_max_loop ?_
 rw [Around.under_plainId PySem.F.plain_max_loop _]
 show wpAny _ A.in1 (seqItems? (.ref S) >>= _) _ _ s
 refine wpAny_bind (wpAny_seqItems hS rfl ?_)
 show wpAny _ A.in1 (tryCatch (pyNext (.ref I)) _ >>= _) _ _ s
 refine wpAny_bind (wpAny_tryCatch (W.done s _ _ (hn ▸ hst) fun h' tk hk' => ?_))
 exact wpAny_bind (wpAny_rule (wpAny_pure (hR h' tk hk')))
theorem z5V (a v : Value) : argsOk "max" ⟨[a], [(Str.ofString "default", v)]⟩ := by unfold argsOk; kernel_rfl
theorem y2u {x d : Value} {s : Shared} {E : Value -> Shared -> Prop} {Q : Value -> Shared -> Prop}
  (h : wpAny (model prog w) A.in1 (pyIter x) (fun it s2 => ∃ I fp wr n P St bt, it = .ref I /\ Walks prog w A.in1 I fp wr n P St /\ St 0 s2.heap /\ (∀ b ∈ fp, b < s2.heap.objs.size) /\ CmpOf prog w A.in1 .Gt P bt /\
   (n = 0 -> ∀ h' tk, (∀ b o, b ∉ wr -> s2.heap.get? b = some o -> h'.get? b = some o) -> Q d { s2 with heap := h', toks := tk }) /\
   (0 < n -> ∀ v h' tk, P (argBest bt (n - 1)) v -> (∀ b o, b ∉ wr -> s2.heap.get? b = some o -> h'.get? b = some o) -> Q v { s2 with heap := h', toks := tk })) E s) :
  wpAny (model prog w) A (call (.builtin "max") [x] [(Str.ofString "default", d)]) Q E s := by
 have hname : (toString "max" ++ toString ".loop" : String) = "max.loop" := by decide
 refine kmk_tree PySem.F.kind_max PySem.F.plain_max PySem.F.entry_max (z5V _ _) ?_
 show wpAny _ A.in1 (Builtin.Builtins.bindParams "max" ["key", "default"] 0 ⟨[], [(Str.ofString "default", d)]⟩ >>= _) _ _ s
 refine wpAny_bind (wpAny_of_eq (show Builtin.Builtins.bindParams "max" ["key", "default"] 0 ⟨[], [(Str.ofString "default", d)]⟩ = pure [none, some d] from by kernel_rfl) ?_)
 refine wpAny_bind (wpAny_pure ?_)
 refine wpAny_bind (wpAny_mono h (fun it s2 h2 => ?_) fun _ _ e => e)
 obtain ⟨I, fp, wr, n, P, St, bt, rfl, W, hst, hfp, hcmp, hQ0, hQ⟩ := h2
 refine wpAny_bind (wpAny_newObj_type ?_)
 have hSf : s2.heap.objs.size ∉ fp := fun hm => Nat.lt_irrefl _ (hfp _ hm)
 rw [hname]
 refine wpAny_pure ⟨plainId_quiet PySem.F.plain_max_loop _, ?_⟩
 by_cases hn : n = 0
 ·exact y2D W s2.heap.objs.size hSf _ d hn (W.frame _ _ _ hst fun b _ o e => Heap.get?_push_of_some _ e) (Heap.get?_push_size _ rfl) fun h' tk hk => hQ0 hn h' tk fun b o hbw e => hk b o hbw (Heap.get?_push_of_some _ e)
 ·exact y0U W bt hcmp s2.heap.objs.size hSf _ (Nat.pos_of_ne_zero hn) (W.frame _ _ _ hst fun b _ o e => Heap.get?_push_of_some _ e) (Heap.get?_push_size _ rfl) fun v h' tk hP hk =>
   hQ (Nat.pos_of_ne_zero hn) v h' tk hP fun b o hbw e => hk b o hbw (Nat.ne_of_lt (Heap.lt_size e)) (Heap.get?_push_of_some _ e)
theorem y3g (W : Walks prog w A.in1 I fp wr n P St) (bt : Nat -> Nat -> Bool) (hcmp : CmpOf prog w A.in1 .Lt P bt) (S : Addr) (hSf : S ∉ fp) (kw : List (Str × Value)) :
  ∀ (k j : Nat) (s : Shared) (vb : Value) (c : Nat), n - (j + 1) = k -> j + 1 ≤ n -> St (j + 1) s.heap -> P (argBest bt j) vb ->
  s.heap.get? S = some { cls := .type "list", dict := none, data := .seq #[vb, vb] c, slots := #[] } ->
  (∀ v h' tk, P (argBest bt (n - 1)) v -> (∀ b o, b ∉ wr -> b ≠ S -> s.heap.get? b = some o -> h'.get? b = some o) -> R (.ok (.ret v)) { s with heap := h', toks := tk }) ->
  codeAny (model prog w) A (.builtin "min.loop" ⟨[.ref I, .none, .ref S], kw⟩) R s := by
 have hSw : S ∉ wr := fun h => hSf (W.sub _ h)
 have hname : (toString "min" ++ toString ".loop" : String) = "min.loop" := by decide
 intro k
 induction k with
 | zero =>
  intro j s vb c hk hj hst hPb hS hR
  have hin : j + 1 = n := by omega
  refine codeAny_builtin PySem.F.entry_min_loop ?_
  rw [Around.under_plainId PySem.F.plain_min_loop _]
  show wpAny _ A.in1 (seqItems? (.ref S) >>= _) _ _ s
  refine wpAny_bind (wpAny_seqItems hS rfl ?_)
  show wpAny _ A.in1 (tryCatch (pyNext (.ref I)) _ >>= _) _ _ s
  refine wpAny_bind (wpAny_tryCatch (W.done s _ _ (hin ▸ hst) fun h' tk hk' => ?_))
  have hS' := hk' S _ hSw hS
  show wpAny _ A.in1 (updateSeq S (fun _ => #[]) >>= _) _ _ _
  refine wpAny_bind ?_
  refine wpAny_updateSeq hS' rfl (wpAny_bind (wpAny_letGo (wpAny_pure ?_)))
  refine hR vb _ tk (by rw [<- hin]; exact hPb) fun b o hbw hbS e => (Heap.get?_update_other _ _ (Ne.symm hbS)).trans (hk' b o hbw e)
 | succ k ih =>
  intro j s vb c hk hj hst hPb hS hR
  have hlt : j + 1 < n := by omega
  refine codeAny_builtin PySem.F.entry_min_loop ?_
  rw [Around.under_plainId PySem.F.plain_min_loop _]
  show wpAny _ A.in1 (seqItems? (.ref S) >>= _) _ _ s
  refine wpAny_bind (wpAny_seqItems hS rfl ?_)
  show wpAny _ A.in1 (tryCatch (pyNext (.ref I)) _ >>= _) _ _ s
  refine wpAny_bind (wpAny_tryCatch (W.item (j + 1) s _ _ hlt hst fun v h' tk hP hst' hk' => ?_))
  have hS' := hk' S _ hSw hS
  show wpAny _ A.in1 (tryCatch (holding [v, v] (richCompare .Lt v vb >>= _)) _ >>= _) _ _ _
  refine wpAny_bind (wpAny_tryCatch (wpAny_holding (wpAny_bind (hcmp (j + 1) (argBest bt j) v vb _ _ _ hP hPb ?_))))
  refine wpAny_bind (wpAny_holding (wpAny_truthy_bool ?_))
  refine wpAny_bind (wpAny_letGo (wpAny_pure ?_))
  cases hb : bt (j + 1) (argBest bt j) with
  | true =>
   simp only [if_true]
   refine wpAny_bind ?_
   refine wpAny_updateSeq hS' rfl (wpAny_bind (wpAny_letGo ?_))
   rw [hname]
   refine wpAny_pure ⟨plainId_quiet PySem.F.plain_min_loop _, ih (j + 1) _ v _ (by omega) hlt (W.frame _ _ _ hst' fun b hbf o e => ?_) (by simp only [argBest, hb, if_true]; exact hP) (Heap.get?_update_self _ hS' rfl)
    fun v' h'' tk'' hP' hk'' => ?_⟩
   ·exact (Heap.get?_update_other _ _ (fun h : S = b => hSf (by rw [h]; exact hbf))).trans e
   ·exact hR v' h'' tk'' hP' fun b o hbw hbS e => hk'' b o hbw hbS ((Heap.get?_update_other _ _ (Ne.symm hbS)).trans (hk' b o hbw e))
  | false =>
   simp only [Bool.false_eq_true, if_false]
   refine wpAny_bind (wpAny_letGo ?_)
   rw [hname]
   refine wpAny_pure ⟨plainId_quiet PySem.F.plain_min_loop _, ih (j + 1) _ vb c (by omega) hlt hst' (by simp only [argBest, hb, Bool.false_eq_true, if_false]; exact hPb) hS' fun v' h'' tk'' hP' hk'' => ?_⟩
   exact hR v' h'' tk'' hP' fun b o hbw hbS e => hk'' b o hbw hbS (hk' b o hbw e)
theorem y1Q (W : Walks prog w A.in1 I fp wr n P St) (bt : Nat -> Nat -> Bool) (hcmp : CmpOf prog w A.in1 .Lt P bt) (S : Addr) (hSf : S ∉ fp) (kw : List (Str × Value)) (hn : 0 < n) {s : Shared} {c : Nat} (hst : St 0 s.heap)
  (hS : s.heap.get? S = some { cls := .type "list", dict := none, data := .seq #[] c, slots := #[] })
  (hR : ∀ v h' tk, P (argBest bt (n - 1)) v -> (∀ b o, b ∉ wr -> b ≠ S -> s.heap.get? b = some o -> h'.get? b = some o) -> R (.ok (.ret v)) { s with heap := h', toks := tk }) :
  codeAny (model prog w) A (.builtin "min.loop" ⟨[.ref I, .none, .ref S], kw⟩) R s := by
 have hSw : S ∉ wr := fun h => hSf (W.sub _ h)
 have hname : (toString "min" ++ toString ".loop" : String) = "min.loop" := by decide
 refine codeAny_builtin PySem.F.entry_min_loop ?_
 rw [Around.under_plainId PySem.F.plain_min_loop _]
 show wpAny _ A.in1 (seqItems? (.ref S) >>= _) _ _ s
 refine wpAny_bind (wpAny_seqItems hS rfl ?_)
 show wpAny _ A.in1 (tryCatch (pyNext (.ref I)) _ >>= _) _ _ s
 refine wpAny_bind (wpAny_tryCatch (W.item 0 s _ _ hn hst fun v h' tk hP hst' hk' => ?_))
 have hS' := hk' S _ hSw hS
 show wpAny _ A.in1 (updateSeq S (fun _ => #[v, v]) >>= _) _ _ _
 refine wpAny_bind ?_
 refine wpAny_updateSeq hS' rfl ?_
 rw [hname]
 refine wpAny_pure ⟨plainId_quiet PySem.F.plain_min_loop _, y3g W bt hcmp S hSf kw _ 0 _ v _ rfl hn (W.frame _ _ _ hst' fun b hbf o e => ?_) hP (Heap.get?_update_self _ hS' rfl) fun v' h'' tk'' hP' hk'' => ?_⟩
 ·exact (Heap.get?_update_other _ _ (fun h : S = b => hSf (by rw [h]; exact hbf))).trans e
 ·exact hR v' h'' tk'' hP' fun b o hbw hbS e => hk'' b o hbw hbS ((Heap.get?_update_other _ _ (Ne.symm hbS)).trans (hk' b o hbw e))
theorem y3e (W : Walks prog w A.in1 I fp wr n P St) (S : Addr) (hSf : S ∉ fp) (kn : Str) (d : Value) (hn : n = 0) {s : Shared} {c : Nat} (hst : St 0 s.heap)
  (hS : s.heap.get? S = some { cls := .type "list", dict := none, data := .seq #[] c, slots := #[] })
  (hR : ∀ h' tk, (∀ b o, b ∉ wr -> s.heap.get? b = some o -> h'.get? b = some o) -> R (.ok (.ret d)) { s with heap := h', toks := tk }) :
  codeAny (model prog w) A (.builtin "min.loop" ⟨[.ref I, .none, .ref S], [(kn, d)]⟩) R s := by
 refine codeAny_builtin PySem.F.entry_min_loop ?_
 rw [Around.under_plainId PySem.F.plain_min_loop _]
 show wpAny _ A.in1 (seqItems? (.ref S) >>= _) _ _ s
 refine wpAny_bind (wpAny_seqItems hS rfl ?_)
 show wpAny _ A.in1 (tryCatch (pyNext (.ref I)) _ >>= _) _ _ s
 refine wpAny_bind (wpAny_tryCatch (W.done s _ _ (hn ▸ hst) fun h' tk hk' => ?_))
 exact wpAny_bind (wpAny_rule (wpAny_pure (hR h' tk hk')))
theorem z5U (a v : Value) : argsOk "min" ⟨[a], [(Str.ofString "default", v)]⟩ := by unfold argsOk; kernel_rfl
theorem y3f {x d : Value} {s : Shared} {E : Value -> Shared -> Prop} {Q : Value -> Shared -> Prop}
  (h : wpAny (model prog w) A.in1 (pyIter x) (fun it s2 => ∃ I fp wr n P St bt, it = .ref I /\ Walks prog w A.in1 I fp wr n P St /\ St 0 s2.heap /\ (∀ b ∈ fp, b < s2.heap.objs.size) /\ CmpOf prog w A.in1 .Lt P bt /\
   (n = 0 -> ∀ h' tk, (∀ b o, b ∉ wr -> s2.heap.get? b = some o -> h'.get? b = some o) -> Q d { s2 with heap := h', toks := tk }) /\
   (0 < n -> ∀ v h' tk, P (argBest bt (n - 1)) v -> (∀ b o, b ∉ wr -> s2.heap.get? b = some o -> h'.get? b = some o) -> Q v { s2 with heap := h', toks := tk })) E s) :
  wpAny (model prog w) A (call (.builtin "min") [x] [(Str.ofString "default", d)]) Q E s := by
 have hname : (toString "min" ++ toString ".loop" : String) = "min.loop" := by decide
 refine kmk_tree PySem.F.kind_min PySem.F.plain_min PySem.F.entry_min (z5U _ _) ?_
 show wpAny _ A.in1 (Builtin.Builtins.bindParams "min" ["key", "default"] 0 ⟨[], [(Str.ofString "default", d)]⟩ >>= _) _ _ s
 refine wpAny_bind (wpAny_of_eq (show Builtin.Builtins.bindParams "min" ["key", "default"] 0 ⟨[], [(Str.ofString "default", d)]⟩ = pure [none, some d] from by kernel_rfl) ?_)
 refine wpAny_bind (wpAny_pure ?_)
 refine wpAny_bind (wpAny_mono h (fun it s2 h2 => ?_) fun _ _ e => e)
 obtain ⟨I, fp, wr, n, P, St, bt, rfl, W, hst, hfp, hcmp, hQ0, hQ⟩ := h2
 refine wpAny_bind (wpAny_newObj_type ?_)
 have hSf : s2.heap.objs.size ∉ fp := fun hm => Nat.lt_irrefl _ (hfp _ hm)
 rw [hname]
 refine wpAny_pure ⟨plainId_quiet PySem.F.plain_min_loop _, ?_⟩
 by_cases hn : n = 0
 ·exact y3e W s2.heap.objs.size hSf _ d hn (W.frame _ _ _ hst fun b _ o e => Heap.get?_push_of_some _ e) (Heap.get?_push_size _ rfl) fun h' tk hk => hQ0 hn h' tk fun b o hbw e => hk b o hbw (Heap.get?_push_of_some _ e)
 ·exact y1Q W bt hcmp s2.heap.objs.size hSf _ (Nat.pos_of_ne_zero hn) (W.frame _ _ _ hst fun b _ o e => Heap.get?_push_of_some _ e) (Heap.get?_push_size _ rfl) fun v h' tk hP hk =>
   hQ (Nat.pos_of_ne_zero hn) v h' tk hP fun b o hbw e => hk b o hbw (Nat.ne_of_lt (Heap.lt_size e)) (Heap.get?_push_of_some _ e)
end
theorem z7p (f : Nat -> Int) : ∀ k, argBest (fun i j => decide (f i > f j)) k ≤ k /\ ∀ i, i ≤ k -> f i ≤ f (argBest (fun i j => decide (f i > f j)) k)
 | 0 => ⟨Nat.le_refl _, fun i hi => by rw [Nat.le_zero.mp hi]; exact Int.le_refl _⟩
 | k + 1 => by
  obtain ⟨h1, h2⟩ := z7p f k
  unfold argBest
  by_cases c : f (k + 1) > f (argBest (fun i j => decide (f i > f j)) k)
  ·rw [if_pos (decide_eq_true c)]
   refine ⟨Nat.le_refl _, fun i hi => ?_⟩
   by_cases e : i = k + 1
   ·rw [e]; exact Int.le_refl _
   ·have := h2 i (by omega)
    omega
  ·rw [if_neg (by rw [decide_eq_false c]; exact Bool.false_ne_true)]
   refine ⟨by omega, fun i hi => ?_⟩
   by_cases e : i = k + 1
   ·rw [e]; omega
   ·exact h2 i (by omega)
theorem z7K (f : Nat -> Int) : ∀ k, argBest (fun i j => decide (f i < f j)) k ≤ k /\ ∀ i, i ≤ k -> f (argBest (fun i j => decide (f i < f j)) k) ≤ f i
 | 0 => ⟨Nat.le_refl _, fun i hi => by rw [Nat.le_zero.mp hi]; exact Int.le_refl _⟩
 | k + 1 => by
  obtain ⟨h1, h2⟩ := z7K f k
  unfold argBest
  by_cases c : f (k + 1) < f (argBest (fun i j => decide (f i < f j)) k)
  ·rw [if_pos (decide_eq_true c)]
   refine ⟨Nat.le_refl _, fun i hi => ?_⟩
   by_cases e : i = k + 1
   ·rw [e]; exact Int.le_refl _
   ·have := h2 i (by omega)
    omega
  ·rw [if_neg (by rw [decide_eq_false c]; exact Bool.false_ne_true)]
   refine ⟨by omega, fun i hi => ?_⟩
   by_cases e : i = k + 1
   ·rw [e]; omega
   ·exact h2 i (by omega)
section
variable {X : Cx}
def SqI (K : PySem.W.Frag) (H : Hp) (p : Addr) (ns : List Int) : Prop := SqL K H p (ns.map V.int) \/ SqT K H p (ns.map V.int)
theorem z2r {ns : List Int} {its : List Value} (r : Vals (ns.map V.int) its) : ∀ (i : Nat) (v : Value), its.toArray[i]? = some v -> ∃ t, v = .int (ns.getD i 0) t := by
 intro i v e
 have e' : its[i]? = some v := by simpa using e
 have hi : i < its.length := (List.getElem?_eq_some_iff.mp e').1
 have hl := r.length
 rw [List.length_map] at hl
 obtain ⟨u, hu, ru⟩ := r.get (i := i) (x := .int (ns.getD i 0)) (by
  rw [List.getElem?_map, List.getD_eq_getElem?_getD]
  have : ns[i]? = some ns[i] := List.getElem?_eq_getElem (by omega)
  rw [this]; rfl)
 rw [e'] at hu
 cases hu
 exact ru
theorem z4Q {pins : List (Addr × Obj)} {σ : St} {H : Hp} {s : Shared} {p : Addr} {ns : List Int} {A : Around} {E : Value -> Shared -> Prop} {Q : Value -> Shared -> Prop} (I : Inv X pins σ H s) (hh : A.handled = none) (hq : SqI X.K H p ns)
  (h : ∀ (it : Addr) (fp : List Addr) (St : Nat -> Heap -> Prop) (its : List Value) (s2 : Shared), Vals (ns.map V.int) its -> Walks X.prog X.w A it fp [it] its.toArray.size (fun i v => its.toArray[i]? = some v) St -> St 0 s2.heap -> (∀ b ∈ fp, b < s2.heap.objs.size) ->
   (∀ h' tk, (∀ b o, b ∉ [it] -> s2.heap.get? b = some o -> h'.get? b = some o) -> Inv X pins σ H { s2 with heap := h', toks := tk }) -> Q (.ref it) s2) :
  wpAny (model X.prog X.w) A (pyIter (.ref p)) Q E s := by
 have back : ∀ (o : Obj) (h' : Heap) (tk : Nat), (∀ b ob, b ∉ [s.heap.objs.size] -> (s.heap.push o).get? b = some ob -> h'.get? b = some ob) -> Inv X pins σ H { s with heap := h', toks := tk } := fun o h' tk k =>
  I.kept fun b ob e => k b ob (fun z => absurd (Heap.lt_size e) (by rw [List.mem_singleton.mp z]; exact Nat.lt_irrefl _)) (Heap.get?_push_of_some _ e)
 rcases hq with hq | hq
 ·obtain ⟨its, r, pl, hz⟩ := I.list hq
  have hlt : p < s.heap.objs.size := by obtain ⟨_, e, _⟩ := pl.isList; exact Heap.lt_size e
  refine wpAny_pyIter_list pl.isList ?_
  refine h s.heap.objs.size [s.heap.objs.size, p] _ its _ r (Walks.list hh s.heap.objs.size p (Nat.ne_of_lt hlt) its.toArray) ⟨⟨_, Heap.get?_push_size _ rfl, rfl, rfl⟩, pl.isList.push _⟩ (fun b hb => ?_) fun h' tk k => back _ h' tk k
  show b < (s.heap.push _).objs.size
  rw [Heap.size_push]
  rcases List.mem_cons.mp hb with rfl | hb
  ·exact Nat.lt_succ_self _
  ·rw [List.mem_singleton.mp hb]; exact Nat.lt_succ_of_lt hlt
 ·obtain ⟨its, r, pl, hz⟩ := I.tuple hq
  have hlt : p < s.heap.objs.size := by obtain ⟨_, e, _⟩ := pl; exact Heap.lt_size e
  refine wpAny_pyIter_tuple (show s.heap.IsTuple p its.toArray from pl) ?_
  refine h s.heap.objs.size [s.heap.objs.size, p] _ its _ r (Walks.tuple hh s.heap.objs.size p (Nat.ne_of_lt hlt) its.toArray) ⟨⟨_, Heap.get?_push_size _ rfl, rfl, rfl⟩, ?_⟩ (fun b hb => ?_) fun h' tk k => back _ h' tk k
  ·obtain ⟨o, e, c⟩ := (show s.heap.IsTuple p its.toArray from pl)
   exact ⟨o, Heap.get?_push_of_some _ e, c⟩
  ·show b < (s.heap.push _).objs.size
   rw [Heap.size_push]
   rcases List.mem_cons.mp hb with rfl | hb
   ·exact Nat.lt_succ_self _
   ·rw [List.mem_singleton.mp hb]; exact Nat.lt_succ_of_lt hlt
def y3r (K : PySem.W.Frag) (le : Int -> Int -> Prop) (ta td : TA) : TE := fun σ H Q => ta σ H fun xs H1 => td σ H1 fun ds H2 => ∃ p ns d, xs = [.ref p] /\ ds = [d] /\ SqI K H2 p ns /\ (ns = [] -> Q d H2) /\ ∀ m, m ∈ ns -> (∀ y ∈ ns, le y m) -> Q (.int m) H2
theorem z5Y {ns : List Int} {i : Nat} (h : i < ns.length) : ns.getD i 0 ∈ ns := by
 rw [List.getD_eq_getElem?_getD, List.getElem?_eq_getElem h]
 exact List.getElem_mem h
theorem z5W {ns : List Int} {y : Int} (h : y ∈ ns) : ∃ i, i < ns.length /\ ns.getD i 0 = y := by
 obtain ⟨i, hi, e⟩ := List.mem_iff_getElem.mp h
 refine ⟨i, hi, ?_⟩
 rw [List.getD_eq_getElem?_getD, List.getElem?_eq_getElem hi]
 exact e
theorem y2n {e : Expr} {p pos kp : Pos} {dx : Expr} {ta td : TA} (hc : X.calm = true) (hg : Gl X "max") (hm : X.mg "max" = none) (ha : PA X [e] ta) (hd : PK X [⟨some (Str.ofString "default"), dx, kp⟩] td)
  (he : backTo pos (starEach [e] X.env) = (false, eval e X.env) :: backTo pos (starEach [] X.env) := by rfl)
  (hplain : (backTo pos (starEach [e] X.env)).any (·.1) = false := by rfl)
  (hall : (backToKw pos (keywordEach [⟨some (Str.ofString "default"), dx, kp⟩] X.env)).all (·.1.isSome) = true := by rfl)
  (hkw : (backToKw pos (keywordEach [⟨some (Str.ofString "default"), dx, kp⟩] X.env)).any (·.1.isNone) = false := by rfl) :
  PE X (.Call (.Name "max" p) [e] [⟨some (Str.ofString "default"), dx, kp⟩] pos) (y3r X.K (fun y m => y ≤ m) ta td) := by
 intro pins s σ H Q I h
 refine wpAny_Call_Name_kw (z4U I hg hm PyProof.Rows.boot_max ?_)
 refine PyProof.Rows.callWith_kw (thn (ha pos pins s σ H _ I h) fun us s1 ⟨vs, H1, I1, r, q⟩ => ?_) he hplain hall hkw
 refine thn (hd pos pins s1 σ H1 _ I1 q) fun ws s2 ⟨zs, H2, I2, rz, q2⟩ => ?_
 obtain ⟨a, ns, d, e1, e2, hq, q0, q1⟩ := q2
 subst e1 e2
 obtain ⟨u, rfl, ru⟩ := z3r r
 cases ru
 obtain ⟨dv, rfl, rd⟩ := z3r rz
 show wpAny _ X.A (call (.builtin "max") [.ref a] [(Str.ofString "default", dv)]) _ _ _
 refine y2u (z4Q (A := X.A.in1) I2 (I2.ok.hd hc) hq fun it fp St its s3 rv W st hfp back => ?_)
 have hl := rv.length
 rw [List.length_map] at hl
 refine ⟨it, fp, [it], _, _, St, _, rfl, W, st, hfp, CmpOf.ints_gt (fun i => ns.getD i 0) (z2r rv), fun hn h' tk k => ?_, fun hn v h' tk hv k => ?_⟩
 ·rw [List.size_toArray] at hn
  exact ⟨d, H2, back h' tk k, rd, q0 (List.eq_nil_of_length_eq_zero (by omega))⟩
 ·rw [List.size_toArray] at hn hv
  obtain ⟨t, rfl⟩ := z2r rv _ _ hv
  obtain ⟨b1, b2⟩ := z7p (fun i => ns.getD i 0) (its.length - 1)
  refine ⟨.int _, H2, back h' tk k, ⟨t, rfl⟩, q1 _ (z5Y (by omega)) fun y hy => ?_⟩
  obtain ⟨i, hi, rfl⟩ := z5W hy
  exact b2 i (by omega)
theorem y10 {e : Expr} {p pos kp : Pos} {dx : Expr} {ta td : TA} (hc : X.calm = true) (hg : Gl X "min") (hm : X.mg "min" = none) (ha : PA X [e] ta) (hd : PK X [⟨some (Str.ofString "default"), dx, kp⟩] td)
  (he : backTo pos (starEach [e] X.env) = (false, eval e X.env) :: backTo pos (starEach [] X.env) := by rfl)
  (hplain : (backTo pos (starEach [e] X.env)).any (·.1) = false := by rfl)
  (hall : (backToKw pos (keywordEach [⟨some (Str.ofString "default"), dx, kp⟩] X.env)).all (·.1.isSome) = true := by rfl)
  (hkw : (backToKw pos (keywordEach [⟨some (Str.ofString "default"), dx, kp⟩] X.env)).any (·.1.isNone) = false := by rfl) :
  PE X (.Call (.Name "min" p) [e] [⟨some (Str.ofString "default"), dx, kp⟩] pos) (y3r X.K (fun y m => m ≤ y) ta td) := by
 intro pins s σ H Q I h
 refine wpAny_Call_Name_kw (z4U I hg hm PyProof.Rows.boot_min ?_)
 refine PyProof.Rows.callWith_kw (thn (ha pos pins s σ H _ I h) fun us s1 ⟨vs, H1, I1, r, q⟩ => ?_) he hplain hall hkw
 refine thn (hd pos pins s1 σ H1 _ I1 q) fun ws s2 ⟨zs, H2, I2, rz, q2⟩ => ?_
 obtain ⟨a, ns, d, e1, e2, hq, q0, q1⟩ := q2
 subst e1 e2
 obtain ⟨u, rfl, ru⟩ := z3r r
 cases ru
 obtain ⟨dv, rfl, rd⟩ := z3r rz
 show wpAny _ X.A (call (.builtin "min") [.ref a] [(Str.ofString "default", dv)]) _ _ _
 refine y3f (z4Q (A := X.A.in1) I2 (I2.ok.hd hc) hq fun it fp St its s3 rv W st hfp back => ?_)
 have hl := rv.length
 rw [List.length_map] at hl
 refine ⟨it, fp, [it], _, _, St, _, rfl, W, st, hfp, CmpOf.ints_lt (fun i => ns.getD i 0) (z2r rv), fun hn h' tk k => ?_, fun hn v h' tk hv k => ?_⟩
 ·rw [List.size_toArray] at hn
  exact ⟨d, H2, back h' tk k, rd, q0 (List.eq_nil_of_length_eq_zero (by omega))⟩
 ·rw [List.size_toArray] at hn hv
  obtain ⟨t, rfl⟩ := z2r rv _ _ hv
  obtain ⟨b1, b2⟩ := z7K (fun i => ns.getD i 0) (its.length - 1)
  refine ⟨.int _, H2, back h' tk k, ⟨t, rfl⟩, q1 _ (z5Y (by omega)) fun y hy => ?_⟩
  obtain ⟨i, hi, rfl⟩ := z5W hy
  exact b2 i (by omega)
def rngV (i : Int) (n : Nat) : List V := (List.range n).map fun (k : Nat) => V.int (i + (k : Int))
theorem y1g : z3c X (.type "range") (fun xs H Q => ∃ i j, xs = [.int i, .int j] /\ ∀ p, H p = none -> Q (.ref p) (upd H p (.rng i j))) := by
 intro pins s σ H xs us Q I r h
 obtain ⟨i, j, rfl, q⟩ := h
 obtain ⟨u, w', rfl, ⟨t, rfl⟩, ⟨t', rfl⟩⟩ := y2X r
 refine call_range_2 ?_
 refine ⟨.ref s.heap.objs.size, _, I.laid (fun b o e => Heap.get?_push_of_some _ e) (Nat.le_refl _) (show z1a X.prog X.w _ _ _ (.rng i j) from ⟨t, t', s.toks, Heap.get?_push_size _ rfl⟩), rfl, q _ (I.hok.fresh (Nat.le_refl _))⟩
theorem z7w {prog : Program} {w : World} {A : Around} {E : Value -> Shared -> Prop} {s : Shared} {Q : List Value -> Shared -> Prop} {r : Addr} {a b c : Int} {t u v : Tok} {n : Nat} (hh : A.handled = none) (hr : IsRange s.heap r a b c t u v) (hsmall : Builtin.Range.small a b c = true)
  (hn : Builtin.Range.rangeSize a b c = n) (hlen : n ≤ 2 ^ 24)
  (hQ : ∀ h' tk acc, (∀ b o, s.heap.get? b = some o -> h'.get? b = some o) -> ItemsOf (fun i v => ∃ t, v = .int (a + i * c) t) acc n -> Q acc.toList { s with heap := h', toks := tk }) :
  wpAny (model prog w) A (collect (.ref r)) Q E s := by
 unfold collect
 refine wpAny_bind (wpAny_runValue (codeAny_builtin PySem.F.entry_proto_collect ?_))
 rw [Around.under_plainId PySem.F.plain_proto_collect _]
 show wpAny _ A.in1 (newList [] >>= fun l => again (.builtin "list.__iadd__" ⟨[l, .ref r], []⟩)) _ _ s
 refine wpAny_bind (wpAny_newObj_type ?_)
 refine wpAny_pure ⟨plainId_quiet PySem.F.plain_list_iadd _, codeAny_builtin PySem.F.entry_list_iadd ?_⟩
 rw [Around.under_plainId PySem.F.plain_list_iadd _]
 show wpAny _ A.in1 (Builtin.List.listExtendWith (.ref s.heap.objs.size) (.ref r) (.ref s.heap.objs.size)) _ _ _
 have hS : (s.heap.push { cls := .type "list", data := .seq ([] : List Value).toArray }).get? s.heap.objs.size = some { cls := .type "list", data := .seq #[] 0 } := Heap.get?_push_size _ rfl
 have fin : ∀ (r' : Result) (s' : Shared), (∃ h' tk acc c', r' = .ok (.ret (.ref s.heap.objs.size)) /\ s' = { s with heap := h', toks := tk } /\ (∀ b o, s.heap.get? b = some o -> h'.get? b = some o) /\
   h'.get? s.heap.objs.size = some { cls := .type "list", dict := none, data := .seq acc c', slots := #[] } /\ ItemsOf (fun i v => ∃ t, v = .int (a + i * c) t) acc n) ->
   match r' with
   | Except.ok (Flow.ret v) => wpAny (model prog w) A (match v with
     | Value.ref a => do
      match (<- load a).data with
       | Data.seq xs _ => pure xs.toList
       | _ => unsupported "internal:collect"
     | _ => unsupported "internal:collect") Q E s'
   | Except.ok _ => False
   | Except.error e => E e s' := by
  rintro r' s' ⟨h', tk, acc, c', rfl, rfl, hk, hS', hacc⟩
  show wpAny _ A (load s.heap.objs.size >>= _) _ _ _
  refine wpAny_bind (wpAny_load hS' ?_)
  exact wpAny_pure (hQ h' tk acc hk hacc)
 refine wpAny_mono (wpAny_extend_range (A := A) (R := fun r' s' => ∃ h' tk acc c', r' = .ok (.ret (.ref s.heap.objs.size)) /\ s' = { s with heap := h', toks := tk } /\ (∀ b o, s.heap.get? b = some o -> h'.get? b = some o) /\
   h'.get? s.heap.objs.size = some { cls := .type "list", dict := none, data := .seq acc c', slots := #[] } /\ ItemsOf (fun i v => ∃ t, v = .int (a + i * c) t) acc n)
  (s := { s with heap := s.heap.push { cls := .type "list", data := .seq ([] : List Value).toArray } }) hh (Heap.get?_push_of_some _ hr) hsmall hn hlen s.heap.objs.size _ 0 hS
  fun h' tk acc c' hk hS' hacc => ⟨h', tk, acc, c', rfl, rfl, fun b o e => hk b o (Nat.ne_of_lt (Heap.lt_size e)) (Heap.get?_push_of_some _ e), hS', hacc⟩) (fun f s' h => ?_) (fun e s' h => ?_)
 ·cases f with
  | done f => exact fin _ _ h
  | again c' => exact ⟨h.1, codeAny_mono h.2 fun r' s'' hr' => fin _ _ hr'⟩
 ·obtain ⟨_, _, _, _, e, _⟩ := h
  cases e
theorem z66 (r : Addr) (a b : Int) (t u v : Tok) (n : Nat) (hsmall : Builtin.Range.small a b 1 = true) (hn : Builtin.Range.rangeSize a b 1 = n) (hlen : n ≤ 2 ^ 24) :
  Meets (Builtin.«tuple.__new__» ⟨[.type "tuple", .ref r], []⟩)
   (fun A R s => A.handled = none /\ IsRange s.heap r a b 1 t u v /\ ∀ (h' : Heap) (tk : Nat) (acc : Array Value), (∀ b o, s.heap.get? b = some o -> h'.get? b = some o) -> ItemsOf (fun i v => ∃ t, v = .int (a + i * 1) t) acc n ->
    R (.ok (.ret (.ref h'.objs.size))) { s with heap := h'.push { cls := .type "tuple", data := .seq acc }, toks := tk }) :=
 .of_wp fun prog w A R s h => by
  obtain ⟨hp, g, d, tk0, os⟩ := s
  obtain ⟨hh, hr, h⟩ := h
  have hsub := sub_tuple_self
  have hinit := init_tuple_lookup
  have hmh := madeHere_tuple
  have hT : Shared.TypeIs ⟨hp, g, d, tk0, os⟩ (.ref r) "range" := ⟨_, hr, rfl⟩
  have hh1 : A.in1.handled = none := hh
  wp_walk using wpAny_typeOf hT, z7w hh1 hr hsmall hn hlen
  intro h' tk acc hk hacc
  show wpAny _ _ (Builtin.Tuple.tupleExact acc.toList.toArray >>= fun v => ret v) _ _ _
  unfold Builtin.Tuple.tupleExact
  refine wpAny_bind (wpAny_newObj_type ?_ (show acc.toList.toArray.size ≤ sizeLine by simp only [Array.toArray_toList]; rw [hacc.1, sizeLine_eq]; omega))
  refine wpAny_pure ⟨_, rfl, ?_⟩
  have e : acc.toList.toArray = acc := by simp
  rw [e]
  exact h h' tk acc hk hacc
theorem y2H {a : Int} {acc : Array Value} {n : Nat} (h : ItemsOf (fun i v => ∃ t, v = Value.int (a + (i : Int) * 1) t) acc n) : Vals (rngV a n) acc.toList := by
 have go : ∀ (l : List Value) (k : Nat), (∀ (j : Nat) (v : Value), l[j]? = some v -> ∃ t, v = Value.int (a + ((k + j : Nat) : Int)) t) -> Vals ((List.range' k l.length).map fun (j : Nat) => V.int (a + (j : Int))) l := by
  intro l
  induction l with
  | nil => intro k _; exact .nil
  | cons x r ih =>
   intro k hx
   rw [List.length_cons, List.range'_succ, List.map_cons]
   refine .cons ?_ (ih (k + 1) fun j v e => ?_)
   ·obtain ⟨t, e⟩ := hx 0 x rfl
    exact ⟨t, e⟩
   ·obtain ⟨t, e'⟩ := hx (j + 1) v (by simpa using e)
    refine ⟨t, e'.trans ?_⟩
    congr 1
    omega
 have q := go acc.toList 0 fun j v e => by
  obtain ⟨t, e'⟩ := h.2 j v (by simpa using e)
  exact ⟨t, by rw [e']; congr 1; first | done | omega⟩
 unfold rngV
 rw [List.range_eq_range']
 have hn : acc.toList.length = n := by simpa using h.1
 rw [hn] at q
 exact q
theorem z6U (hc : X.calm = true) : z3c X (.type "tuple") (fun xs H Q => ∃ p i j, xs = [.ref p] /\ H p = some (.rng i j) /\ (-(2 ^ 62) ≤ i /\ i < 2 ^ 62 /\ -(2 ^ 62) ≤ j /\ j < 2 ^ 62) /\ (j - i).toNat ≤ 2 ^ 24 /\
  ∀ l, H l = none -> Q (.ref l) (upd H l (.tup (rngV i (j - i).toNat)))) := by
 intro pins s σ H xs us Q I r h
 obtain ⟨p, i, j, rfl, hp, ⟨h1, h2, h3, h4⟩, hlen, q⟩ := h
 obtain ⟨u, rfl, rx⟩ := z3r r
 cases rx
 obtain ⟨t, u', v, e⟩ := (show z1a X.prog X.w H s.heap p (.rng i j) from I.hok p _ hp)
 have hn : Builtin.Range.rangeSize i j 1 = (((j - i).toNat : Nat) : Int) := by rw [rangeSize_one]; split <;> omega
 refine callType_new PySem.F.called_tuple (by decide) (PySem.F.typeCall_tuple_1 _) (PySem.F.newCall_tuple_1 _) (fun obj => PySem.F.args_object_init_2 obj _) PySem.F.entry_tuple_new
  (z66 p i j t u' v _ (small_one h1 h2 h3 h4) hn hlen) ⟨I.ok.hd hc, e, fun h' tk acc hk hacc => ⟨⟨_, Heap.get?_push_size _ rfl, rfl⟩, ?_⟩⟩
 have I1 : Inv X pins σ H { s with heap := h', toks := tk } := I.kept hk
 have z : (rngV i (j - i).toNat).length ≤ sizeLine := by unfold rngV; rw [List.length_map, List.length_range, sizeLine_eq]; omega
 have I2 : Inv X pins σ (upd H h'.objs.size (.tup (rngV i (j - i).toNat))) { s with heap := h'.push { cls := .type "tuple", data := .seq acc }, toks := tk } :=
  I1.laid (t' := tk) (fun b o e => Heap.get?_push_of_some _ e) (Nat.le_refl _) (show z1a X.prog X.w _ _ _ (.tup _) from ⟨z, acc.toList, y2H hacc, by simpa using PlT.new h' acc⟩)
 exact ⟨.ref h'.objs.size, _, I2, rfl, q _ (I1.hok.fresh (Nat.le_refl _))⟩
theorem Vals.ins {x : V} {u : Value} (r : RelV x u) {xs : List V} {us : List Value} (h : Vals xs us) (k : Nat) : Vals (xs.take k ++ x :: xs.drop k) (us.take k ++ u :: us.drop k) :=
 (h.take k).append (.cons r (h.drop k))
def y4g : V -> List V -> Hp -> VK -> Prop := fun x vs H Q => ∃ l xs i y, x = .ref l /\ vs = [.int i, y] /\ H l = some (.lst xs) /\ 0 ≤ i /\ i ≤ xs.length /\ xs.length < sizeLine /\ Q .non (upd H l (.lst (xs.take i.toNat ++ y :: xs.drop i.toNat)))
theorem z8q : MtM X "list.insert" y4g := by
 intro pins s σ H x vs v us Q I rx rv h
 obtain ⟨l, xs, i, y, rfl, rfl, hH, h0, h1, hz, q⟩ := h
 cases rx
 obtain ⟨u, w', rfl, ⟨t, rfl⟩, ry⟩ := rv.two
 obtain ⟨z, its, n, r, hl, e⟩ := I.lstM hH
 have hn := z50
 have hs : sizeLine = 16777216 := sizeLine_eq
 have fit : ¬ (!Builtin.List.listFitsIndex i) = true := by
  rw [fitsIndex_both (by omega) (by omega)]
  decide
 refine call_meets PySem.F.slot_list_insert ⟨_, e, rfl⟩ PySem.F.entry_list_insert (PySem.F.args_list_insert_3 _ _ _) (AutoSeq1.list_insert_list_int_val_1 l its.toArray n i t w' fit (by rw [List.size_toArray]; omega)) ⟨e, ?_⟩
 refine ⟨.non, _, I.lset (its' := its.take i.toNat ++ w' :: its.drop i.toNat) hH e ?_ (Vals.ins ry r i.toNat) ?_, rfl, q⟩
 ·have e1 : (if i < 0 then (i + (its.toArray.size : Int)).toNat else min i.toNat its.toArray.size) = i.toNat := by
   rw [if_neg (by omega), List.size_toArray, Nat.min_eq_left (by omega)]
  show ((its.toArray.extract 0 (if i < 0 then (i + (its.toArray.size : Int)).toNat else min i.toNat its.toArray.size)).push w' ++ its.toArray.extract (if i < 0 then (i + (its.toArray.size : Int)).toNat else min i.toNat its.toArray.size)) = _
  rw [e1]
  apply Array.toList_inj.mp
  simp
  rw [List.take_of_length_le (by rw [List.length_drop]; omega)]
 ·rw [List.length_append, List.length_cons, List.length_take, List.length_drop]
  omega
theorem z94 : z3c X (.builtin "sorted") (fun xs H Q => ∃ (p : Addr) (ns : List Int), xs = [.ref p] /\ SqL X.K H p (ns.map V.int) /\ ns.length < 64 /\
  ∀ (l : Addr) (ns' : List Int), H l = none -> ns'.Perm ns -> ns'.Pairwise (· ≤ ·) -> Q (.ref l) (upd H l (.lst (ns'.map V.int)))) := by
 intro pins s σ H xs us Q I r h
 obtain ⟨p, ns, rfl, hq, h64, q⟩ := h
 obtain ⟨u, rfl, rx⟩ := z3r r
 cases rx
 obtain ⟨its, rv, pl, hz⟩ := I.list hq
 have hl := rv.length
 rw [List.length_map] at hl hz
 refine sorted_ints pl.isList (y0i rv) (by omega) fun out ns' a1 a2 a3 => ?_
 obtain ⟨e, he⟩ := sortedAll_at s.heap its out
 have hlen := a2.length_eq
 refine ⟨.ref (s.heap.objs.size + 1), _, I.laid (t' := s.toks) (fun b o e => sortedAll_old e) (Nat.le_succ _) (show z1a X.prog X.w _ _ _ (.lst (ns'.map V.int)) from ⟨?_, out.toList, e, z4P a1, ?_⟩), rfl, q _ ns' (I.hok.fresh (Nat.le_succ _)) a2 a3⟩
 ·rw [List.length_map, hlen]; exact hz
 ·simpa using he
end
section
variable {X : Cx} {tg : Expr}
end
abbrev z7x (J : It) (g : TG) (tc : TT) (te : TE) (σ0 : St) (H1 : Hp) (F : List V -> Hp -> Prop) : Prop :=
 ∃ W : Nat -> Nat -> List V -> Hp -> Prop, (∃ m, W 0 m [] H1) /\ ∀ i m ys H, W i m ys H ->
  (J.stop i H /\ F ys H) \/ (J.go i H /\ ys.length < sizeLine /\ ∃ N : List V -> Hp -> Prop, (∀ zs H', N zs H' -> ∃ m', m' < m /\ W (i + 1) m' zs H') /\
   ∀ x H', J.yld i H x H' -> z18 g tc te σ0 x H' ys N)
theorem z2P {K : PySem.W.Frag} {a : Addr} {xs : List V} {g : TG} {tc : TT} {te : TE} {σ0 : St} {H1 : Hp} {F : List V -> Hp -> Prop} (Pv : Nat -> List V -> Hp -> Prop) (h0 : Pv 0 [] H1)
  (hl : ∀ i ys H, i ≤ xs.length -> Pv i ys H -> SqL K H a xs /\ ys.length < sizeLine)
  (hs : ∀ i x ys H, xs[i]? = some x -> Pv i ys H -> z18 g tc te σ0 x H ys (Pv (i + 1))) (hd : ∀ ys H, Pv xs.length ys H -> F ys H) : z7x (Itl K a) g tc te σ0 H1 F := by
 refine ⟨fun i m ys H => m = xs.length - i /\ i ≤ xs.length /\ Pv i ys H, ⟨xs.length, by simp, Nat.zero_le _, h0⟩, ?_⟩
 rintro i m ys H ⟨rfl, hi, p⟩
 obtain ⟨q, z⟩ := hl i ys H hi p
 by_cases hlt : i < xs.length
 ·refine .inr ⟨⟨xs, xs[i], q, by simp [hlt]⟩, z, Pv (i + 1), fun zs H' p' => ⟨xs.length - (i + 1), by omega, rfl, hlt, p'⟩, fun x H' y => ?_⟩
  obtain ⟨e, y⟩ := y
  subst e
  exact hs i x ys _ (y xs q) p
 ·have e : i = xs.length := by omega
  subst e
  exact .inl ⟨⟨xs, q, Nat.le_refl _⟩, hd ys H p⟩
theorem z21 {K : PySem.W.Frag} {a : Addr} {xs : List V} {g : TG} {tc : TT} {te : TE} {σ0 : St} {H1 : Hp} {F : List V -> Hp -> Prop} (Pv : Nat -> List V -> Hp -> Prop) (h0 : Pv 0 [] H1)
  (hl : ∀ i ys H, i ≤ xs.length -> Pv i ys H -> SqT K H a xs /\ ys.length < sizeLine)
  (hs : ∀ i x ys H, xs[i]? = some x -> Pv i ys H -> z18 g tc te σ0 x H ys (Pv (i + 1))) (hd : ∀ ys H, Pv xs.length ys H -> F ys H) : z7x (Itt K a) g tc te σ0 H1 F := by
 refine ⟨fun i m ys H => m = xs.length - i /\ i ≤ xs.length /\ Pv i ys H, ⟨xs.length, by simp, Nat.zero_le _, h0⟩, ?_⟩
 rintro i m ys H ⟨rfl, hi, p⟩
 obtain ⟨q, z⟩ := hl i ys H hi p
 by_cases hlt : i < xs.length
 ·refine .inr ⟨⟨xs, xs[i], q, by simp [hlt]⟩, z, Pv (i + 1), fun zs H' p' => ⟨xs.length - (i + 1), by omega, rfl, hlt, p'⟩, fun x H' y => ?_⟩
  obtain ⟨e, y⟩ := y
  subst e
  exact hs i x ys _ (y xs q) p
 ·have e : i = xs.length := by omega
  subst e
  exact .inl ⟨⟨xs, q, Nat.le_refl _⟩, hd ys H p⟩
theorem z73 {lo : Int} {n : Nat} {g : TG} {tc : TT} {te : TE} {σ0 : St} {H1 : Hp} {F : List V -> Hp -> Prop} (Pv : Nat -> List V -> Hp -> Prop) (h0 : Pv 0 [] H1)
  (hl : ∀ i ys H, i ≤ n -> Pv i ys H -> ys.length < sizeLine)
  (hs : ∀ i ys H, i < n -> Pv i ys H -> z18 g tc te σ0 (.int (lo + i)) H ys (Pv (i + 1))) (hd : ∀ ys H, Pv n ys H -> F ys H) : z7x (Itr lo n) g tc te σ0 H1 F := by
 refine ⟨fun i m ys H => m = n - i /\ i ≤ n /\ Pv i ys H, ⟨n, by simp, Nat.zero_le _, h0⟩, ?_⟩
 rintro i m ys H ⟨rfl, hi, p⟩
 have z := hl i ys H hi p
 by_cases hlt : i < n
 ·refine .inr ⟨hlt, z, Pv (i + 1), fun zs H' p' => ⟨n - (i + 1), by omega, rfl, hlt, p'⟩, fun x H' y => ?_⟩
  obtain ⟨e, y⟩ := y
  subst e y
  exact hs i ys _ hlt p
 ·have e : i = n := by omega
  subst e
  exact .inl ⟨Nat.le_refl _, hd ys H p⟩
def z1Q {α : Type} (p : α -> Bool) (f : α -> V) (zs : List α) : List V := (zs.filter p).map f
theorem z5u {α : Type} (p : α -> Bool) (f : α -> V) (zs : List α) (z : α) : z1Q p f (zs ++ [z]) = if p z = true then z1Q p f zs ++ [f z] else z1Q p f zs := by
 unfold z1Q
 rw [List.filter_append, List.map_append]
 cases h : p z <;> simp [h]
theorem z7B {α : Type} (p : α -> Bool) (f : α -> V) (zs : List α) : (z1Q p f zs).length ≤ zs.length := by
 unfold z1Q
 rw [List.length_map]
 exact List.length_filter_le _ _
theorem z0l {α : Type} {zs : List α} {i : Nat} {z : α} (h : zs[i]? = some z) : zs.take (i + 1) = zs.take i ++ [z] := by
 rw [List.take_add_one, h]
 rfl
theorem z8b {K : PySem.W.Frag} {a : Addr} {ns : List Int} {g : TG} {tc : TT} {te : TE} {σ0 : St} {H1 : Hp} {F : List V -> Hp -> Prop} (p : Int -> Bool) (f : Int -> V) (hq : SqL K H1 a (ns.map V.int)) (hz : ns.length ≤ 1000)
  (hs : ∀ n ys N, n ∈ ns -> N (if p n = true then ys ++ [f n] else ys) H1 -> z18 g tc te σ0 (.int n) H1 ys N) (hd : F (z1Q p f ns) H1) : z7x (Itl K a) g tc te σ0 H1 F := by
 refine z2P (xs := ns.map V.int) (fun i ys H => H = H1 /\ ys = z1Q p f (ns.take i)) ⟨rfl, rfl⟩ (fun i ys H hi hp => ?_) (fun i x ys H hx hp => ?_) (fun ys H hp => ?_)
 ·obtain ⟨rfl, rfl⟩ := hp
  refine ⟨hq, z0d ?_⟩
  have h1 := z7B p f (ns.take i)
  have h2 := List.length_take_le i ns
  have h3 : (ns.take i).length ≤ ns.length := by rw [List.length_take]; omega
  omega
 ·obtain ⟨rfl, rfl⟩ := hp
  rw [List.getElem?_map] at hx
  cases e : ns[i]? with
  | none => rw [e] at hx; cases hx
  | some n =>
   rw [e] at hx
   cases hx
   refine hs n _ _ (List.mem_of_getElem? e) ⟨rfl, ?_⟩
   rw [z0l e, z5u]
 ·obtain ⟨rfl, rfl⟩ := hp
  rw [List.length_map, List.take_length]
  exact hd
theorem y0w {K : PySem.W.Frag} {a : Addr} {ns : List Int} {g : TG} {tc : TT} {te : TE} {σ0 : St} {H1 : Hp} {F : List V -> Hp -> Prop} (p : Int -> Bool) (f : Int -> V) (hq : SqT K H1 a (ns.map V.int)) (hz : ns.length ≤ 1000)
  (hs : ∀ n ys N, n ∈ ns -> N (if p n = true then ys ++ [f n] else ys) H1 -> z18 g tc te σ0 (.int n) H1 ys N) (hd : F (z1Q p f ns) H1) : z7x (Itt K a) g tc te σ0 H1 F := by
 refine z21 (xs := ns.map V.int) (fun i ys H => H = H1 /\ ys = z1Q p f (ns.take i)) ⟨rfl, rfl⟩ (fun i ys H hi hp => ?_) (fun i x ys H hx hp => ?_) (fun ys H hp => ?_)
 ·obtain ⟨rfl, rfl⟩ := hp
  refine ⟨hq, z0d ?_⟩
  have h1 := z7B p f (ns.take i)
  have h3 : (ns.take i).length ≤ ns.length := by rw [List.length_take]; omega
  omega
 ·obtain ⟨rfl, rfl⟩ := hp
  rw [List.getElem?_map] at hx
  cases e : ns[i]? with
  | none => rw [e] at hx; cases hx
  | some n =>
   rw [e] at hx
   cases hx
   refine hs n _ _ (List.mem_of_getElem? e) ⟨rfl, ?_⟩
   rw [z0l e, z5u]
 ·obtain ⟨rfl, rfl⟩ := hp
  rw [List.length_map, List.take_length]
  exact hd
def upI (lo : Int) (n : Nat) : List Int := (List.range n).map fun (k : Nat) => lo + (k : Int)
theorem z5X (lo : Int) (n : Nat) : upI lo (n + 1) = upI lo n ++ [lo + (n : Int)] := by
 unfold upI
 rw [List.range_succ, List.map_append]
 rfl
theorem z0H (lo : Int) (n : Nat) : (upI lo n).length = n := by unfold upI; rw [List.length_map, List.length_range]
theorem z0W {lo : Int} {n : Nat} {x : Int} : x ∈ upI lo n ↔ lo ≤ x /\ x < lo + n := by
 unfold upI
 rw [List.mem_map]
 constructor
 ·rintro ⟨k, hk, rfl⟩
  have := List.mem_range.mp hk
  omega
 ·rintro ⟨h1, h2⟩
  exact ⟨(x - lo).toNat, List.mem_range.mpr (by omega), by omega⟩
theorem z5j {lo : Int} {n : Nat} {g : TG} {tc : TT} {te : TE} {σ0 : St} {H1 : Hp} {F : List V -> Hp -> Prop} (p : Int -> Bool) (f : Int -> V) (hz : n ≤ 1000)
  (hs : ∀ k ys N, lo ≤ k -> k < lo + n -> N (if p k = true then ys ++ [f k] else ys) H1 -> z18 g tc te σ0 (.int k) H1 ys N) (hd : F (z1Q p f (upI lo n)) H1) : z7x (Itr lo n) g tc te σ0 H1 F := by
 refine z73 (fun i ys H => H = H1 /\ ys = z1Q p f (upI lo i)) ⟨rfl, rfl⟩ (fun i ys H hi hp => ?_) (fun i ys H hx hp => ?_) (fun ys H hp => ?_)
 ·obtain ⟨rfl, rfl⟩ := hp
  have h1 := z7B p f (upI lo i)
  rw [z0H] at h1
  exact z0d (by omega)
 ·obtain ⟨rfl, rfl⟩ := hp
  refine hs _ _ _ (by omega) (by omega) ⟨rfl, ?_⟩
  rw [z5X, z5u]
 ·obtain ⟨rfl, rfl⟩ := hp
  exact hd
section
variable {X : Cx}
theorem z1S : z3c X (.builtin "isinstance") (fun xs H Q => ∃ x T t b, xs = [x, .ty T] /\ TyOf X.K H x t /\ PySem.W.kitOne X.K t (.type T) = some b /\ Q (.bl b) H) := by
 intro pins s σ H xs us Q I r h
 obtain ⟨x, T, t, b, rfl, ty, e, q⟩ := h
 obtain ⟨u, w', rfl, rx, ry⟩ := y2X r
 cases (show w' = Value.type T from ry)
 exact y1r I rx ty e fun tk => ⟨.bl b, H, I.tok _, rfl, q⟩
end
def z9N (N : List Str) (kind : Str -> Option NameKind) (rl : List (Str × NameKind)) : List Str -> List Nat -> Bool
 | x :: xs, i :: is => decide (N[i]? = some x) && (decide (kind x = some .cell) || decide (kind x = some .free)) && (decide (rl.lookup x = some .cell) || decide (rl.lookup x = some .free)) && z9N N kind rl xs is
 | _, _ => true
theorem y3C {N : List Str} {kind : Str -> Option NameKind} {rl : List (Str × NameKind)} : ∀ {caps : List Str} {ix : List Nat}, z9N N kind rl caps ix = true -> ∀ (j i : Nat) (x : Str), caps[j]? = some x -> ix[j]? = some i ->
  N[i]? = some x /\ (kind x = some .cell \/ kind x = some .free) /\ (rl.lookup x = some .cell \/ rl.lookup x = some .free)
 | [], _, _, j, i, x, e, _ => by simp at e
 | _ :: _, [], _, j, i, x, _, e => by simp at e
 | y :: ys, k :: ks, h, j, i, x, e1, e2 => by
  unfold z9N at h
  rw [Bool.and_eq_true, Bool.and_eq_true, Bool.and_eq_true, Bool.or_eq_true, Bool.or_eq_true] at h
  obtain ⟨⟨⟨h1, h2⟩, h3⟩, h4⟩ := h
  cases j with
  | zero =>
   simp at e1 e2
   subst e1 e2
   exact ⟨of_decide_eq_true h1, h2.imp of_decide_eq_true of_decide_eq_true, h3.imp of_decide_eq_true of_decide_eq_true⟩
  | succ j => exact y3C h4 j i x (by simpa using e1) (by simpa using e2)
theorem z0u {X : Cx} {scope : Scope} {cl : List (Str × Addr)} {own caps : List Str} {ix : List Nat} (clos : z6R X.env.cells scope.names [] = some cl) (cell : ∀ y ∈ scope.names, y.2 ≠ .cell) (kind : scope.kind = .function)
  (names : ∀ y ∈ scope.names, y.2 = .local -> scope.names.lookup y.1 = some .local) (n : caps.length = ix.length) (cap : z9N X.N X.env.kindOf (relabel scope X.env).names caps ix = true) : CompScope X scope cl own caps ix :=
 ⟨clos, cell, kind, names, n, fun j i x e1 e2 => by
  obtain ⟨a, b, c⟩ := y3C cap j i x e1 e2
  refine ⟨a, fun z => ?_, b.elim (fun q => .inr (.inl q)) (fun q => .inr (.inr q)), c⟩
  rcases b with b | b <;> (rw [b] at z; cases z)⟩
theorem z7o {X : Cx} {K : PySem.W.Frag} {es : List Expr} {k : Nat} {t : TGs} {n : Nat} {pos : Pos} (hK : X.K = K) (hc : X.calm = true) (h : PGs X es t)
  (hn : (assignEach es X.env).length = n := by rfl) (hst : (assignEach es X.env).findIdx? (·.1) = none := by rfl) : PG X (.Tuple es k pos) (gTup K n t) := by
 subst hK
 exact y3J hc h hn hst
structure Cal (P : Program) (w : World) (K : PySem.W.Frag) (mg : Str -> Option Value) (base : Heap) (k : Nat) (x : Str) (ps : List Str) (sp : Sp) : Prop where
 ex : ∃ (f : Addr) (fd : FuncData), FnOk P w K mg base CX0 k f fd ps sp /\ z1J K fd ps [] /\ PySem.W.keepIn K (.ref f) = true /\ mg x = some (.ref f)
theorem Cal.mk' {P : Program} {w : World} {K : PySem.W.Frag} {mg : Str -> Option Value} {base : Heap} {k : Nat} {x : Str} {ps : List Str} {sp : Sp} {f : Addr} {fd : FuncData} (a : FnOk P w K mg base CX0 k f fd ps sp) (b : z1J K fd ps []) (c : PySem.W.keepIn K (.ref f) = true) (d : mg x = some (.ref f)) :
  Cal P w K mg base k x ps sp := ⟨⟨f, fd, a, b, c, d⟩⟩
theorem z0o {X : Cx} {k : Nat} {x : Str} {ps : List Str} {sp : Sp} {e : Expr} {es : List Expr} {t : TA} {p pos : Pos} (G : Cal X.prog X.w X.K X.mg X.base k x ps sp) (hr : Room k X.A) (hg : Gl X x) (ha : PA X (e :: es) t)
  (hdb : (x == ("__debug__" : Str)) = false := by decide) (he : starEach (e :: es) X.env = (false, eval e X.env) :: starEach es X.env := by rfl) (hpl : (backTo pos (starEach es X.env)).any (·.1) = false := by rfl) :
  PE X (.Call (.Name x p) (e :: es) [] pos) (y50 sp [] E0 t) := by
 obtain ⟨f, fd, a, b, c, d⟩ := G.ex
 exact y4p a hr hg d c b .nil y1z ha hdb he hpl
def cutS (z : Str) (lo hi : Option Int) : Str := ⟨((z.cps.toList.drop (HT.sIx z.length 0 lo)).take (HT.sIx z.length z.length hi - HT.sIx z.length 0 lo)).toArray⟩
theorem z7r {x y : Str} (h : x.cps.toList = y.cps.toList) : x = y := by
 obtain ⟨a⟩ := x
 obtain ⟨b⟩ := y
 exact congrArg Str.mk (Array.toList_inj.mp h)
theorem z1m (z : Str) : z.cps.toList.length = z.length := by simp [Str.length]
theorem z9a (lo hi : Option Int) (n : Nat) : Builtin.Str.strSliceIndices lo hi 1 n = (List.range (HT.sIx n n hi - HT.sIx n 0 lo)).map (fun k => HT.sIx n 0 lo + k) := by
 obtain ⟨h1, h2, h3⟩ := z5N lo hi n
 have e : Builtin.Str.strSliceIndices lo hi 1 n = sliceRange (sliceBounds lo hi none n).1 (sliceBounds lo hi none n).2.1 1 := by
  unfold Builtin.Str.strSliceIndices sliceBounds
  cases lo <;> cases hi <;> rfl
 rw [e, h1, h2, sliceRange_one]
theorem y2P {z : Str} {t : Tok} {l u : Option (Int × Tok)} {Q : Value -> Shared -> Prop} {s : Shared} (hz : z.length ≤ sizeLine) (h : ∀ t' tk, Q (.str (cutS z (l.map (·.1)) (u.map (·.1))) t') { s with toks := tk }) : (sliceMade z t l u none).post Q s := by
 have picked : slicePicked z l u none = (List.range (HT.sIx z.length z.length (u.map (·.1)) - HT.sIx z.length 0 (l.map (·.1)))).map (fun k => HT.sIx z.length 0 (l.map (·.1)) + k) := z9a _ _ _
 have items : (slicePicked z l u none).filterMap (z.cps[·]?) = (cutS z (l.map (·.1)) (u.map (·.1))).cps.toList := by
  rw [picked, pick_run]
  rfl
 have lh := HT.y3z z.length z.length (Nat.le_refl _) (u.map (·.1))
 unfold sliceMade
 by_cases c : (((none : Option (Int × Tok)).map (·.1)).getD 1 == 1 && (slicePicked z l u none).length == z.length) = true
 ·rw [if_pos c]
  rw [Bool.and_eq_true] at c
  have c2 : (slicePicked z l u none).length = z.length := eq_of_beq c.2
  rw [picked, List.length_map, List.length_range] at c2
  have e : cutS z (l.map (·.1)) (u.map (·.1)) = z := by
   apply z7r
   show (z.cps.toList.drop _).take _ = _
   by_cases hz0 : z.length = 0
   ·have : z.cps.toList = [] := List.eq_nil_of_length_eq_zero (by rw [z1m]; exact hz0)
    rw [this]
    simp
   ·have e1 : HT.sIx z.length 0 (l.map (·.1)) = 0 := by omega
    rw [e1, List.drop_zero, List.take_of_length_le]
    rw [z1m]
    omega
  have := h t s.toks
  rw [e] at this
  exact this
 ·rw [if_neg c, items]
  refine ⟨?_, ?_⟩
  ·show (((cutS z (l.map (·.1)) (u.map (·.1))).cps.toList.toArray).size) ≤ sizeLine
   rw [List.size_toArray]
   show ((z.cps.toList.drop _).take _).length ≤ _
   rw [List.length_take, List.length_drop, z1m]
   omega
  ·have := h s.toks (s.toks + 1)
   have e : (⟨(cutS z (l.map (·.1)) (u.map (·.1))).cps.toList.toArray⟩ : Str) = cutS z (l.map (·.1)) (u.map (·.1)) := z7r (by simp)
   rw [e]
   exact this
section
variable {X : Cx}
theorem z5R {v : Value} {o : Option Int} (h : IsPart v o) : ∃ p : Option (Int × Tok), v = partValue p /\ p.map (·.1) = o := by
 cases h with
 | none => exact ⟨none, rfl, rfl⟩
 | int i t => exact ⟨some (i, t), rfl, rfl⟩
def rSlS : V -> Option Int -> Option Int -> Hp -> VK -> Prop := fun x lo hi H Q => ∃ z, x = .str z /\ z.length ≤ sizeLine /\ Q (.str (cutS z lo hi)) H
theorem y3D : SlR X rSlS := by
 intro pins s σ H x v vl vu lo hi sl Q I rx hs pl pu h
 obtain ⟨z, rfl, hz, q⟩ := h
 obtain ⟨t, rfl⟩ := rx
 obtain ⟨l, rfl, rfl⟩ := z5R pl
 obtain ⟨u, rfl, rfl⟩ := z5R pu
 refine ⟨"str", _, slot_str_getitem.lookup, typeIs_str s z t, ?_⟩
 obtain ⟨o, ho, hc, hd⟩ := hs
 refine wpAny_getItem_str_slice (l := l) (u := u) (st := none) ⟨o, ho, hc, hd⟩ rfl (y2P hz fun t' tk => ?_)
 exact ⟨.str _, H, I.tok _, ⟨_, rfl⟩, q⟩
def repS (z : Str) (n : Nat) : Str := ⟨(List.replicate n z.cps.toList).flatten.toArray⟩
theorem z9i (z : Array Nat) : ∀ (n : Nat) (acc : Array Nat), (List.foldl (fun a b => a ++ b) acc (List.replicate n z)).toList = acc.toList ++ (List.replicate n z.toList).flatten
 | 0, acc => by simp
 | n + 1, acc => by
  rw [List.replicate_succ, List.foldl_cons, z9i z n]
  simp [List.replicate_succ]
theorem z9X : OpR X (binaryOp .Mult) (fun x y H Q => ∃ z n, x = .str z /\ y = .int n /\ 1 ≤ n /\ n ≤ 1000 /\ z.length ≤ 1000 /\ Q (.str (repS z n.toNat)) H) := by
 intro pins s σ H x y v u Q I rx ry h
 obtain ⟨z, n, rfl, rfl, h1, h2, hz, q⟩ := h
 obtain ⟨t, rfl⟩ := rx
 obtain ⟨t', rfl⟩ := ry
 have hs : sizeLine = 16777216 := sizeLine_eq
 have hm : z.length * n.toNat ≤ 1000 * 1000 := Nat.mul_le_mul hz (by omega)
 have fin : ∀ t' tk, EP X pins σ Q (.str (repS z n.toNat) t') { s with toks := tk } := fun t' tk => ⟨.str _, H, I.tok _, ⟨_, rfl⟩, q⟩
 refine PySem.P.mul_str ?_ (fun _ _ => ?_) (fun _ _ => ?_) ?_
 ·rw [decide_eq_false (show ¬ n < -(2 ^ 63 : Int) by omega), decide_eq_false (show ¬ n ≥ 2 ^ 63 by omega)]
  rfl
 ·have : (1000 : Int) ≤ (2 ^ 63 - 1) / n := by
   apply Int.le_ediv_of_mul_le (by omega)
   have : 1000 * n ≤ 1000 * 1000 := Int.mul_le_mul_of_nonneg_left h2 (by decide)
   omega
  omega
 ·unfold Builtin.Str.tooLong
  exact decide_eq_false (by omega)
 ·rw [if_neg (by omega)]
  by_cases c : (n == 1 || z.length == 0) = true
  ·rw [if_pos c]
   have e : repS z n.toNat = z := by
    apply z7r
    show ((List.replicate n.toNat z.cps.toList).flatten.toArray).toList = _
    rw [Bool.or_eq_true] at c
    rcases c with c | c
    ·have : n = 1 := eq_of_beq c
     subst this
     simp
    ·have : z.length = 0 := eq_of_beq c
     have : z.cps.toList = [] := List.eq_nil_of_length_eq_zero (by rw [z1m]; exact this)
     rw [this]
     simp
   have := fin t s.toks
   rw [e] at this
   exact this
  ·rw [if_neg c]
   have e : (⟨(List.replicate n.toNat z.cps).foldl (· ++ ·) #[]⟩ : Str) = repS z n.toNat := by
    apply z7r
    show (List.foldl (fun a b => a ++ b) #[] (List.replicate n.toNat z.cps)).toList = ((List.replicate n.toNat z.cps.toList).flatten.toArray).toList
    rw [z9i]
    simp
   refine ⟨?_, ?_⟩
   ·rw [e, <- z1m]
    show ((List.replicate n.toNat z.cps.toList).flatten.toArray).toList.length ≤ sizeLine
    have : ((List.replicate n.toNat z.cps.toList).flatten.toArray).toList.length = n.toNat * z.length := by
     simp [List.length_flatten, List.map_replicate, z1m]
     rfl
    rw [this, Nat.mul_comm]
    omega
   ·rw [e]
    exact fin _ _
end
end L2
namespace L2
open PySem
inductive DV where
 | non | bl (b : Bool) | int (i : Int) | str (x : Str) | tup (l : List DV)
mutual
def Tell (H : Hp) : DV -> V -> Prop
 | .non, x => x = .non
 | .bl b, x => x = .bl b
 | .int i, x => x = .int i
 | .str s, x => x = .str s
 | .tup ds, x => ∃ a xs, x = .ref a /\ H a = some (.tup xs) /\ xs.length ≤ 1000000 /\ z08 H ds xs
def z08 (H : Hp) : List DV -> List V -> Prop
 | [], xs => xs = []
 | d :: ds, xs => ∃ x r, xs = x :: r /\ Tell H d x /\ z08 H ds r
end
mutual
theorem Tell.keep {H H' : Hp} (s : Same H H') : ∀ (d : DV) (x : V), Tell H d x -> Tell H' d x
 | .non, _, h => h
 | .bl _, _, h => h
 | .int _, _, h => h
 | .str _, _, h => h
 | .tup ds, _, h => by
  unfold Tell at h ⊢
  obtain ⟨a, xs, e, h1, h2, h3⟩ := h
  exact ⟨a, xs, e, s _ _ h1, h2, z08.keep s ds xs h3⟩
theorem z08.keep {H H' : Hp} (s : Same H H') : ∀ (ds : List DV) (xs : List V), z08 H ds xs -> z08 H' ds xs
 | [], _, h => h
 | d :: ds, _, h => by
  unfold z08 at h ⊢
  obtain ⟨x, r, e, h1, h2⟩ := h
  exact ⟨x, r, e, Tell.keep s d x h1, z08.keep s ds r h2⟩
end
mutual
theorem Tell.over {H : Hp} {l : Addr} {o o' : HO} (hl : H l = some o) (hn : ∀ xs, o ≠ .tup xs) : ∀ (d : DV) (x : V), Tell H d x -> Tell (upd H l o') d x
 | .non, _, h => h
 | .bl _, _, h => h
 | .int _, _, h => h
 | .str _, _, h => h
 | .tup ds, _, h => by
  unfold Tell at h ⊢
  obtain ⟨a, xs, e, h1, h2, h3⟩ := h
  exact ⟨a, xs, e, by rw [z09 (z4L h1 hl (fun z => hn xs z.symm))]; exact h1, h2, z08.over hl hn ds xs h3⟩
theorem z08.over {H : Hp} {l : Addr} {o o' : HO} (hl : H l = some o) (hn : ∀ xs, o ≠ .tup xs) : ∀ (ds : List DV) (xs : List V), z08 H ds xs -> z08 (upd H l o') ds xs
 | [], _, h => h
 | d :: ds, _, h => by
  unfold z08 at h ⊢
  obtain ⟨x, r, e, h1, h2⟩ := h
  exact ⟨x, r, e, Tell.over hl hn d x h1, z08.over hl hn ds r h2⟩
end
theorem z08.length {H : Hp} : ∀ {ds : List DV} {xs : List V}, z08 H ds xs -> xs.length = ds.length
 | [], _, h => by unfold z08 at h; rw [h]; rfl
 | d :: ds, _, h => by
  unfold z08 at h
  obtain ⟨x, r, rfl, _, h2⟩ := h
  rw [List.length_cons, List.length_cons, z08.length h2]
theorem z08.get {H : Hp} : ∀ {ds : List DV} {xs : List V}, z08 H ds xs -> ∀ (i : Nat) (d : DV), ds[i]? = some d -> ∃ x, xs[i]? = some x /\ Tell H d x
 | [], _, _, i, d, e => by simp at e
 | d0 :: ds, _, h, 0, d, e => by
  unfold z08 at h
  obtain ⟨x, r, rfl, h1, _⟩ := h
  simp at e
  subst e
  exact ⟨x, rfl, h1⟩
 | d0 :: ds, _, h, i + 1, d, e => by
  unfold z08 at h
  obtain ⟨x, r, rfl, _, h2⟩ := h
  obtain ⟨y, e1, e2⟩ := z08.get h2 i d (by simpa using e)
  exact ⟨y, by simpa using e1, e2⟩
theorem z08.at {H : Hp} : ∀ {ds : List DV} {xs : List V}, z08 H ds xs -> ∀ (i : Nat) (x : V), xs[i]? = some x -> ∃ d, ds[i]? = some d /\ Tell H d x
 | [], _, h, i, x, e => by
  unfold z08 at h
  subst h
  simp at e
 | d0 :: ds, _, h, 0, x, e => by
  unfold z08 at h
  obtain ⟨x0, r, rfl, h1, _⟩ := h
  simp at e
  subst e
  exact ⟨d0, rfl, h1⟩
 | d0 :: ds, _, h, i + 1, x, e => by
  unfold z08 at h
  obtain ⟨x0, r, rfl, _, h2⟩ := h
  obtain ⟨y, e1, e2⟩ := z08.at h2 i x (by simpa using e)
  exact ⟨y, by simpa using e1, e2⟩
theorem z08.nil {H : Hp} : z08 H [] [] := by unfold z08; rfl
theorem z08.cons {H : Hp} {d : DV} {ds : List DV} {x : V} {xs : List V} (h : Tell H d x) (t : z08 H ds xs) : z08 H (d :: ds) (x :: xs) := by unfold z08; exact ⟨x, xs, rfl, h, t⟩
theorem z08.snoc {H : Hp} : ∀ {ds : List DV} {xs : List V} {d : DV} {x : V}, z08 H ds xs -> Tell H d x -> z08 H (ds ++ [d]) (xs ++ [x])
 | [], _, _, _, h, q => by
  unfold z08 at h
  subst h
  exact z08.cons q .nil
 | d0 :: ds, _, _, _, h, q => by
  unfold z08 at h
  obtain ⟨x0, r, rfl, h1, h2⟩ := h
  exact z08.cons h1 (z08.snoc h2 q)
theorem z2c {H : Hp} (i : Int) : Tell H (.int i) (.int i) := by unfold Tell; rfl
theorem z4G {H : Hp} (x : Str) : Tell H (.str x) (.str x) := by unfold Tell; rfl
theorem z9e {H : Hp} : Tell H .non .non := by unfold Tell; rfl
theorem z0E {H : Hp} {a : Addr} {xs : List V} {ds : List DV} (h : H a = some (.tup xs)) (hl : ds.length ≤ 1000000) (t : z08 H ds xs) : Tell H (.tup ds) (.ref a) := by
 unfold Tell
 exact ⟨a, xs, rfl, h, by rw [t.length]; exact hl, t⟩
theorem z1F {H : Hp} : ∀ (l : List Str), z08 H (l.map DV.str) (l.map V.str)
 | [] => .nil
 | i :: r => .cons (z4G i) (z1F r)
theorem z0K {H : Hp} : ∀ {l : List Str} {xs : List V}, z08 H (l.map DV.str) xs -> xs = l.map V.str
 | [], _, h => by unfold z08 at h; exact h
 | i :: r, _, h => by
  rw [List.map_cons] at h
  unfold z08 at h
  obtain ⟨x, t, rfl, h1, h2⟩ := h
  unfold Tell at h1
  rw [h1, z0K h2]
  rfl
theorem z0f {H : Hp} {ds : List DV} {x : V} (h : Tell H (.tup ds) x) : ∃ a xs, x = .ref a /\ H a = some (.tup xs) /\ xs.length ≤ 1000000 /\ z08 H ds xs := by
 unfold Tell at h
 exact h
theorem z1D {H : Hp} {i : Int} {x : V} (h : Tell H (.int i) x) : x = .int i := by unfold Tell at h; exact h
theorem z3G {H : Hp} {i : Str} {x : V} (h : Tell H (.str i) x) : x = .str i := by unfold Tell at h; exact h
theorem z0g {H : Hp} {d : DV} {ds : List DV} {xs : List V} (h : z08 H (d :: ds) xs) : ∃ x r, xs = x :: r /\ Tell H d x /\ z08 H ds r := by
 unfold z08 at h
 exact h
theorem z0S {H : Hp} {xs : List V} (h : z08 H [] xs) : xs = [] := by unfold z08 at h; exact h
def y5m : V -> Bool
 | .non => true
 | .bl _ => true
 | .int _ => true
 | .str _ => true
 | _ => false
end L2
namespace L2
open PySem PySem.Spec PyProof.Rows
section
variable {κ : Type} [DecidableEq κ]
def metL (ks : List κ) : List κ := ks.foldl (fun acc k => if k ∈ acc then acc else acc ++ [k]) []
theorem y1d (ks : List κ) (k : κ) : metL (ks ++ [k]) = if k ∈ metL ks then metL ks else metL ks ++ [k] := by
 unfold metL
 rw [List.foldl_append]
 rfl
theorem y1a {ks : List κ} {i : Nat} {k : κ} (h : ks[i]? = some k) : metL (ks.take (i + 1)) = if k ∈ metL (ks.take i) then metL (ks.take i) else metL (ks.take i) ++ [k] := by
 have e : ks.take (i + 1) = ks.take i ++ [k] := by rw [List.take_add_one, h] <;> rfl
 rw [e, y1d]
theorem z6o (k : κ) : ∀ (ks acc : List κ), k ∈ ks.foldl (fun acc k => if k ∈ acc then acc else acc ++ [k]) acc ↔ k ∈ acc \/ k ∈ ks
 | [], acc => by simp
 | x :: r, acc => by
  rw [List.foldl_cons, z6o k r]
  by_cases h : x ∈ acc
  ·rw [if_pos h, List.mem_cons]
   constructor
   ·rintro (a | a)
    ·exact .inl a
    ·exact .inr (.inr a)
   ·rintro (a | rfl | a)
    ·exact .inl a
    ·exact .inl h
    ·exact .inr a
  ·rw [if_neg h, List.mem_append, List.mem_singleton, List.mem_cons, or_assoc]
theorem z9S {k : κ} {ks : List κ} : k ∈ metL ks ↔ k ∈ ks := by unfold metL; rw [z6o]; simp
theorem z6C : ∀ (ks acc : List κ), (ks.foldl (fun acc k => if k ∈ acc then acc else acc ++ [k]) acc).length ≤ acc.length + ks.length
 | [], acc => by simp
 | x :: r, acc => by
  rw [List.foldl_cons]
  refine Nat.le_trans (z6C r _) ?_
  by_cases h : x ∈ acc
  ·rw [if_pos h, List.length_cons]; omega
  ·rw [if_neg h, List.length_append, List.length_cons, List.length_cons, List.length_nil]; omega
theorem z9g (ks : List κ) : (metL ks).length ≤ ks.length := by
 have := z6C ks []
 simpa [metL] using this
theorem z78 : ∀ (ks acc : List κ), (acc ++ ks).Nodup -> ks.foldl (fun acc k => if k ∈ acc then acc else acc ++ [k]) acc = acc ++ ks
 | [], acc, _ => by simp
 | x :: r, acc, h => by
  have hx : x ∉ acc := fun hx => by
   rw [List.nodup_append] at h
   exact h.2.2 x hx x (List.mem_cons_self) rfl
  rw [List.foldl_cons, if_neg hx, z78 r (acc ++ [x]) (by rw [List.append_assoc]; exact h), List.append_assoc]
  rfl
theorem y1U {ks : List κ} (h : ks.Nodup) : metL ks = ks := by
 have := z78 ks [] (by simpa using h)
 simpa [metL] using this
end
section
variable {prog : Program} {w : World} {A : Around} {κ : Type} [DecidableEq κ] {kd : KeyKind prog w κ} {I : Addr} {fp wr : List Addr} {G : Array GenState -> Array GenState -> Prop} {n : Nat} {P : Nat -> Value -> Prop} {St : Nat -> Shared -> Prop}
abbrev z4F (kd : KeyKind prog w κ) (h : Heap) (a : Addr) (ks : List κ) : Prop := h.SetOf kd a (fun k => decide (k ∈ ks)) (metL ks).length
theorem z4F.at {h h' : Heap} {a : Addr} {ks : List κ} (x : z4F kd h a ks) (e : ∀ o, h.get? a = some o -> h'.get? a = some o) : z4F kd h' a ks := by
 obtain ⟨o, es, ep, t, ho, r⟩ := x
 exact ⟨o, es, ep, t, e o ho, r⟩
theorem z7J {R : Result -> Shared -> Prop} (W : WalksS prog w A.in1 I fp wr G n P St) {a : Addr} (out : a ∉ fp) {ks : List κ} (lk : ks.length = n)
  (vals : ∀ i v, P i v -> ∃ k, ks[i]? = some k /\ kd.is k v = true /\ v.scannable = true) (few : n + 1 < scanBound) :
  ∀ (todo i : Nat) (s : Shared), i + todo = n -> St i s -> z4F kd s.heap a (ks.take i) ->
   (∀ s', Moved (a :: wr) G s s' -> z4F kd s'.heap a ks -> R (.ok (.ret .none)) s') -> codeAny (model prog w) A (.builtin "set.update.loop" ⟨[.ref a, .ref I], []⟩) R s
 | 0, i, s, ei, st, sx, fin => by
  have e : ks.take i = ks := List.take_of_length_le (by omega)
  rw [e] at sx
  have ei' : i = n := by omega
  subst ei'
  refine codeAny_builtin F.entry_set_update_loop ?_
  rw [Around.under_plainId F.plain_set_update_loop _]
  refine wpAny_bind (W.done s _ _ st fun s' mv => wpAny_pure (fin s' (mv.mono fun b hb => .tail _ hb) (sx.at fun o => mv.heap a o fun q => out (W.sub _ q))))
 | todo + 1, i, s, ei, st, sx, fin => by
  refine codeAny_builtin F.entry_set_update_loop ?_
  rw [Around.under_plainId F.plain_set_update_loop _]
  refine wpAny_bind (W.item i s _ _ (by omega) st fun v s1 hv st1 mv => ?_)
  obtain ⟨k, ek, iv, sc⟩ := vals i v hv
  have sx1 := sx.at (h' := s1.heap) fun o => mv.heap a o fun q => out (W.sub _ q)
  refine wpAny_bind (wpAny_holding (m := setAdd a v) ?_)
  unfold setAdd
  refine wpAny_holding (wpAny_bind (kd.pyHash iv ?_))
  have lm := z9g (ks.take i)
  rw [List.length_take] at lm
  refine wpAny_setAddHashed_of (s := { s1 with toks := s1.toks + 1 }) iv sc sx1 (by omega) fun h2 sb sx2 => ?_
  have sx3 : z4F kd h2 a (ks.take (i + 1)) := by
   have e1 : (fun k' => decide (k' ∈ ks.take i) || decide (k' = k)) = fun k' => decide (k' ∈ ks.take (i + 1)) := by
    funext k'
    rw [List.take_add_one, ek]
    simp [Bool.decide_or]
   have e2 : (if decide (k ∈ ks.take i) = true then (metL (ks.take i)).length else (metL (ks.take i)).length + 1) = (metL (ks.take (i + 1))).length := by
    rw [y1a ek]
    by_cases hk : k ∈ ks.take i
    ·rw [if_pos (decide_eq_true hk), if_pos (z9S.mpr hk)]
    ·rw [if_neg (by simpa using hk), if_neg (fun q => hk (z9S.mp q)), List.length_append]
     rfl
   rw [e1, e2] at sx2
   exact sx2
  have far : ∀ b, b ≠ a -> h2.get? b = s1.heap.get? b := fun b hb => sb.2 b hb
  refine wpAny_pure ⟨plainId_quiet F.plain_set_update_loop _, z7J W out lk vals few todo (i + 1) _ (by omega) (W.frame _ s1 _ _ st1 (Nat.le_succ _) fun b hb o q => ?_) sx3 fun s3 mv3 sx4 => ?_⟩
  ·rw [far b fun z => out (z ▸ hb)]; exact q
  ·refine fin s3 (.trans W.gtrans ((mv.mono fun b hb => .tail _ hb).then_heap (Nat.le_succ _) fun b o hb q => ?_) mv3) sx4
   rw [far b fun z => hb (z ▸ .head _)]; exact q
end
namespace Ty
theorem y2o : isSubtype (.type "tuple") (.type "set") = pure false := by rw [isSubtype_type]; kernel_rfl
theorem z6q : isSubtype (.type "tuple") (.type "frozenset") = pure false := by rw [isSubtype_type]; kernel_rfl
end Ty
abbrev set0 (led : Bool) : Obj := { cls := .type "set", dict := none, data := .set #[] 0 (.fresh 0 0 led) }
section
variable {prog : Program} {w : World} {A : Around} {E : Value -> Shared -> Prop} {s : Shared} {κ : Type} [DecidableEq κ] {kd : KeyKind prog w κ}
theorem y2w {T : String} {p : Addr} {o : Obj} {its : Array Value} {c0 : Nat} {ks : List κ} {Q : Value -> Shared -> Prop} (hh : A.handled = none) (hp : s.heap.get? p = some o) (hc : o.cls = .type T) (hd : o.data = .seq its c0) (hT : T = "list" \/ T = "tuple")
  (lk : ks.length = its.size) (vals : ∀ (i : Nat) v, its[i]? = some v -> ∃ k, ks[i]? = some k /\ kd.is k v = true /\ v.scannable = true) (few : its.size + 1 < scanBound)
  (fin : ∀ (h' : Heap) (t : Nat), z4F kd h' s.heap.objs.size ks -> (∀ b u, b < s.heap.objs.size -> s.heap.get? b = some u -> h'.get? b = some u) -> Q (.ref s.heap.objs.size) { s with heap := h', toks := t }) :
  wpAny (model prog w) A (call (.type "set") [.ref p]) Q E s := by
 obtain ⟨c, tl, hmro⟩ := F.called_set.mro
 have g1 := F.called_set.made
 have g2 := F.called_set.sub
 refine wpAny_call (codeAny_of_tree (wpAny_pure ⟨Code.quiet_builtin _ (by decide +kernel), codeAny_builtin F.entry_type_call ?_⟩))
 rw [Around.under_plain (weight_type_call_type "set" [.ref p] []) rfl]
 have g3 := F.called_set.notType
 have g4 := F.called_set.canCreate
 have g5 := F.typeCall_set_1 (.ref p)
 repeat (any_goals (first | assumption | wp_step))
 refine codeAny_mono (code_set_new_1 (.ref p) (E := E) (Q₁ := fun u s1 => ∃ led, u = .ref s.heap.objs.size /\ s1 = { s with heap := s.heap.push (set0 led) }) fun led => ⟨led, rfl, rfl⟩) fun r s1 q1 => ?_
 rcases r with e | (_ | _ | _ | u)
 all_goals try exact q1.elim
 all_goals try exact q1
 obtain ⟨led, rfl, rfl⟩ := q1
 have at1 : (s.heap.push (set0 led)).get? s.heap.objs.size = some (set0 led) := Heap.get?_push_size _ rfl
 have ty1 : Shared.TypeIs { s with heap := s.heap.push (set0 led) } (.ref s.heap.objs.size) "set" := ⟨_, at1, rfl⟩
 have g6 := F.called_set.init.lookup
 have g7 := F.called_set.init.bind (.ref s.heap.objs.size)
 repeat (any_goals (first | assumption | wp_step))
 refine codeAny_mono (codeAny_call_builtin (R := wants (fun r s2 => r = .none /\ ∃ h' t, s2 = { s with heap := h', toks := t } /\ z4F kd h' s.heap.objs.size ks /\ ∀ b u, b < s.heap.objs.size -> s.heap.get? b = some u -> h'.get? b = some u) E)
  F.called_set.init.plain F.entry_set_init (check_set_init_1 ty1 ?_)) fun r s2 q2 => ?_
 case _ =>
  have hpS : p < s.heap.objs.size := Heap.lt_size hp
  obtain ⟨oc, od, oa, os⟩ := o
  simp only at hc hd
  subst hc; subst hd
  have hp1 : (s.heap.push (set0 led)).get? p = some { cls := .type T, dict := od, data := .seq its c0, slots := os } := Heap.get?_push_of_some _ hp
  have f1 : isSubtype (.type T) (.type "set") = pure false := by rcases hT with rfl | rfl <;> first | exact F.sub_list_set | exact Ty.y2o
  have f2 : isSubtype (.type T) (.type "frozenset") = pure false := by rcases hT with rfl | rfl <;> first | exact F.sub_list_frozenset | exact Ty.z6q
  have f3 : (Value.type T == Value.type "dict") = false := by rcases hT with rfl | rfl <;> decide
  have hh3 : A.in1.in1.in1.handled = none := by simp [hh]
  have sz : (s.heap.push (set0 led)).objs.size = s.heap.objs.size + 1 := Heap.size_push _ _
  have apart : p ≠ (s.heap.push (set0 led)).objs.size := by rw [sz]; exact Nat.ne_of_lt (Nat.lt_succ_of_lt hpS)
  have out : s.heap.objs.size ∉ [(s.heap.push (set0 led)).objs.size, p] := by rw [sz, List.mem_cons, List.mem_singleton]; exact fun z => z.elim (Nat.ne_of_lt (Nat.lt_succ_self _)) (Nat.ne_of_gt hpS)
  have z5t : ∀ x : Obj, z4F kd ((s.heap.push (set0 led)).push x) s.heap.objs.size (ks.take 0) := fun x => by
   have z := (setObjOf_fresh (knd := kd) led).setOf (Heap.get?_push_of_some x at1) (by unfold scanBound; omega)
   have e : (fun k : κ => decide (k ∈ ks.take 0)) = fun _ => false := by funext k; simp
   show Heap.SetOf kd _ _ (fun k => decide (k ∈ ks.take 0)) _
   rw [e]
   exact z
  have ends : ∀ (x : Obj) (s' : Shared), Moved [s.heap.objs.size, (s.heap.push (set0 led)).objs.size] (fun a b => b = a) { s with heap := (s.heap.push (set0 led)).push x } s' -> z4F kd s'.heap s.heap.objs.size ks ->
    ∃ h' t, s' = { s with heap := h', toks := t } /\ z4F kd h' s.heap.objs.size ks /\ ∀ b u, b < s.heap.objs.size -> s.heap.get? b = some u -> h'.get? b = some u := fun x s' mv sx => by
   obtain ⟨h', g', d', t', o'⟩ := s'
   obtain rfl : g' = s.gens := mv.gens
   obtain rfl : d' = s.drawn := mv.drawn
   obtain rfl : o' = s.os := mv.os
   exact ⟨h', t', rfl, sx, fun b u hb q => mv.heap b u (by rw [sz, List.mem_cons, List.mem_singleton]; exact fun z => z.elim (Nat.ne_of_lt hb) (Nat.ne_of_lt (Nat.lt_succ_of_lt hb))) (Heap.get?_push_of_some _ (Heap.get?_push_of_some _ q))⟩
  unfold Builtin.«set.__init__» noKeywords Builtin.Frozenset.updateFrom
  generalize hPI : pyIter = PI
  wp_walk
  subst hPI
  rcases hT with rfl | rfl
  ·have hl : (s.heap.push (set0 led)).IsList p its := ⟨_, hp1, rfl, c0, rfl⟩
   refine wpAny_pyIter_list hl (wpAny_bind (wpAny_runValue ?_))
   refine z7J (kd := kd) ((Walks.list hh3 _ p apart its).toS) out lk vals few its.size 0 _ (Nat.zero_add _) ⟨⟨_, Heap.get?_push_size _ rfl, rfl, rfl⟩, hl.push _⟩ (z5t _) fun s' mv sx => ?_
   exact wpAny_pure (wpAny_pure ⟨rfl, ends _ s' mv sx⟩)
  ·have hl : (s.heap.push (set0 led)).IsTuple p its := ⟨_, hp1, rfl, c0, rfl⟩
   refine wpAny_pyIter_tuple hl (wpAny_bind (wpAny_runValue ?_))
   refine z7J (kd := kd) ((Walks.tuple hh3 _ p apart its).toS) out lk vals few its.size 0 _ (Nat.zero_add _) ⟨⟨_, Heap.get?_push_size _ rfl, rfl, rfl⟩, hl.push _⟩ (z5t _) fun s' mv sx => ?_
   exact wpAny_pure (wpAny_pure ⟨rfl, ends _ s' mv sx⟩)
 ·rcases r with e | (_ | _ | _ | u)
  all_goals try exact q2.elim
  all_goals try exact q2
  obtain ⟨rfl, h', t, rfl, sx, kp⟩ := q2
  repeat (any_goals (first | assumption | wp_step))
  exact fin _ _ sx kp
end
section
variable {X : Cx}
def SetT (P : Program) (w : World) (a : Addr) (zs : List Str) : HO := .ext fun h => z4F (strKind P w) h a zs
theorem SetT.new {P : Program} {w : World} {H : Hp} {h : Heap} {a : Addr} {zs : List Str} (x : z4F (strKind P w) h a zs) : z1a P w H h a (SetT P w a zs) := by
 refine ⟨x, ?_, fun h1 h2 y e => z4F.at y e⟩
 obtain ⟨o, _, _, _, e, _⟩ := x
 exact ⟨o, e⟩
theorem z9C : ∀ {zs : List Str} {us : List Value}, Vals (zs.map V.str) us -> ∀ (i : Nat) (v : Value), us[i]? = some v -> ∃ (k : Str) (t : Tok), zs[i]? = some k /\ v = .str k t
 | [], _, .nil, i, v, h => by simp at h
 | z :: zs, u :: us, .cons r rs, 0, v, h => by
  simp at h
  subst h
  obtain ⟨t, rfl⟩ := r
  exact ⟨z, t, rfl, rfl⟩
 | z :: zs, u :: us, .cons r rs, i + 1, v, h => by
  simp at h
  obtain ⟨k, t, a, b⟩ := z9C rs i v h
  exact ⟨k, t, by simpa using a, b⟩
theorem z3V (hc : X.calm = true) : z3c X (.type "set") (fun xs H Q => ∃ p zs, xs = [.ref p] /\ (SqL X.K H p (zs.map V.str) \/ SqT X.K H p (zs.map V.str)) /\ zs.length ≤ 1000 /\ ∀ l, H l = none -> Q (.ref l) (upd H l (SetT X.prog X.w l zs))) := by
 intro pins s σ H xs us Q I r h
 obtain ⟨p, zs, rfl, hq, hl, q⟩ := h
 obtain ⟨u, rfl, rx⟩ := z3r r
 cases rx
 have go : ∀ (T : String) (o : Obj) (its : List Value) (c0 : Nat), s.heap.get? p = some o -> o.cls = .type T -> o.data = .seq its.toArray c0 -> (T = "list" \/ T = "tuple") -> Vals (zs.map V.str) its -> wpAny (model X.prog X.w) X.A (call (.type "set") [.ref p]) (EP X pins σ Q) X.xe s :=
  fun T o its c0 ho hcl hda hT rv => by
   have ln : zs.length = its.length := by have := rv.length; rwa [List.length_map] at this
   refine y2w (kd := strKind X.prog X.w) (ks := zs) (I.ok.hd hc) ho hcl hda hT (by simpa using ln) (fun i v hv => ?_) (by simp [scanBound]; omega) fun h' t sx kp => ?_
   ·obtain ⟨k, t, a, rfl⟩ := z9C rv i v (by simpa using hv)
    exact ⟨k, a, strKind_is _ _ _ _, rfl⟩
   ·refine ⟨.ref s.heap.objs.size, _, I.laid (a := s.heap.objs.size) (o := SetT X.prog X.w s.heap.objs.size zs) (h' := h') (t' := t) (fun b u q1 => kp b u (Heap.lt_size q1) q1) (Nat.le_refl _) (SetT.new sx), rfl, q _ (I.hok.fresh (Nat.le_refl _))⟩
 rcases hq with hq | hq
 ·obtain ⟨its, rv, pl, _⟩ := I.list hq
  obtain ⟨o, ho, hcl, n, hda⟩ := pl.isList
  exact go "list" o its n ho hcl hda (.inl rfl) rv
 ·obtain ⟨its, rv, pl, _⟩ := I.tuple hq
  obtain ⟨o, ho, hcl, n, hda⟩ := pl
  exact go "tuple" o its n ho hcl hda (.inr rfl) rv
theorem z4R : z3c X (.builtin "len") (fun xs H Q => ∃ p zs, xs = [.ref p] /\ H p = some (SetT X.prog X.w p zs) /\ zs.length ≤ 1000 /\ Q (.int (metL zs).length) H) := by
 intro pins s σ H xs us Q I r h
 obtain ⟨p, zs, rfl, hp, hl, q⟩ := h
 obtain ⟨u, rfl, rx⟩ := z3r r
 cases rx
 obtain ⟨⟨o, es, ep, t, e1, e2, e3, _, _, _, e4, e5⟩, _⟩ := (show z1a X.prog X.w H s.heap p (SetT X.prog X.w p zs) from I.hok p _ hp)
 have := z9g zs
 exact PySem.call_len_set e1 e2 e3 e4 (by omega) ⟨.int (metL zs).length, H, I.tok _, ⟨s.toks + 1, by rw [e5]⟩, q⟩
end
section
variable {κ : Type} [DecidableEq κ]
def valV (kvs : List (κ × V)) (k : κ) : Option V := (kvs.find? fun kv => decide (kv.1 = k)).map (·.2)
def putK (kvs : List (κ × V)) (k : κ) (v : V) : List (κ × V) :=
 if (kvs.any fun kv => decide (kv.1 = k)) = true then kvs.map (fun kv => if kv.1 = k then (kv.1, v) else kv) else kvs ++ [(k, v)]
theorem z5Z {p : κ × V} {r : List (κ × V)} {k : κ} (e : p.1 = k) : valV (p :: r) k = some p.2 := by simp [valV, List.find?_cons, e]
theorem z63 {p : κ × V} {r : List (κ × V)} {k : κ} (e : ¬ p.1 = k) : valV (p :: r) k = valV r k := by simp [valV, List.find?_cons, e]
theorem z64 (k : κ) : ∀ kvs : List (κ × V), (kvs.any fun kv => decide (kv.1 = k)) = (valV kvs k).isSome
 | [] => rfl
 | p :: r => by
  rw [List.any_cons]
  by_cases e : p.1 = k
  ·simp only [z5Z e, decide_eq_true e, Bool.true_or, Option.isSome_some]
  ·rw [z63 e, decide_eq_false e, Bool.false_or]; exact z64 k r
theorem z6h (kvs : List (κ × V)) (k : κ) (v : V) : (putK kvs k v).length ≤ kvs.length + 1 := by
 unfold putK
 split
 ·rw [List.length_map]; omega
 ·rw [List.length_append, List.length_cons, List.length_nil]; omega
theorem z9r {kvs : List (κ × V)} {k : κ} (v : V) (h : valV kvs k = none) : putK kvs k v = kvs ++ [(k, v)] := by
 unfold putK
 rw [z64, h]
 exact if_neg (by decide)
theorem RelO.isSome_eq {o : Option V} {u : Option Value} (r : RelO o u) : o.isSome = u.isSome := by
 cases o with
 | none => cases u with
  | none => rfl
  | some _ => exact (show False from r).elim
 | some _ => cases u with
  | none => exact (show False from r).elim
  | some _ => rfl
theorem KV.val {kvs : List (κ × V)} {vs : List (κ × Value)} (r : KV kvs vs) (k : κ) : RelO (valV kvs k) (valueAt vs k) := by
 unfold KV at r
 induction r with
 | nil => exact True.intro
 | @cons p q ps qs h t ih =>
  obtain ⟨h1, h2⟩ := h
  by_cases e : p.1 = k
  ·have e' : q.1 = k := h1.symm.trans e
   have b : valueAt (q :: qs) k = some q.2 := by simp [valueAt, List.find?_cons, e']
   rw [z5Z e, b]; exact h2
  ·have e' : ¬ q.1 = k := fun z => e (h1.trans z)
   have b : valueAt (q :: qs) k = valueAt qs k := by simp [valueAt, List.find?_cons, e']
   rw [z63 e, b]; exact ih
theorem KV.any {kvs : List (κ × V)} {vs : List (κ × Value)} (r : KV kvs vs) (k : κ) : (kvs.any fun kv => decide (kv.1 = k)) = vs.any fun kv => decide (kv.1 = k) := by
 unfold KV at r
 induction r with
 | nil => rfl
 | cons h t ih => rw [List.any_cons, List.any_cons, ih, h.1]
theorem KV.repl {kvs : List (κ × V)} {vs : List (κ × Value)} (r : KV kvs vs) (k : κ) {y : V} {u : Value} (ry : RelV y u) :
  KV (kvs.map fun kv => if kv.1 = k then (kv.1, y) else kv) (vs.map fun kv => if kv.1 = k then (kv.1, u) else kv) := by
 unfold KV at r ⊢
 induction r with
 | nil => exact .nil
 | @cons p q ps qs h t ih =>
  rw [List.map_cons, List.map_cons]
  refine .cons ?_ ih
  obtain ⟨h1, h2⟩ := h
  by_cases e : p.1 = k
  ·rw [if_pos e, if_pos (h1.symm.trans e)]; exact ⟨h1, ry⟩
  ·rw [if_neg e, if_neg (fun z => e (h1.trans z))]; exact ⟨h1, h2⟩
theorem KV.put {kvs : List (κ × V)} {vs : List (κ × Value)} (r : KV kvs vs) (k : κ) {y : V} {u : Value} (ry : RelV y u) : KV (putK kvs k y) (stored vs k u) := by
 unfold putK stored
 rw [r.any k]
 by_cases e : (vs.any fun kv => decide (kv.1 = k)) = true
 ·rw [if_pos e, if_pos e]; exact r.repl k ry
 ·rw [if_neg e, if_neg e]; exact Paired.snoc r ⟨rfl, ry⟩
theorem KV.keys {kvs : List (κ × V)} {vs : List (κ × Value)} (r : KV kvs vs) : kvs.map (·.1) = vs.map (·.1) := by
 unfold KV at r
 induction r with
 | nil => rfl
 | cons h t ih => rw [List.map_cons, List.map_cons, ih, h.1]
theorem KV.length {kvs : List (κ × V)} {vs : List (κ × Value)} (r : KV kvs vs) : kvs.length = vs.length := Paired.length r
end
theorem y1m {P : Program} {w : World} {k : Key} {u : Value} (r : RelV (kV k) u) : (z1d P w).is k u = true := by
 cases k with
 | inl i => obtain ⟨t, e⟩ := (show ∃ t, u = Value.int i t from r); subst e; exact z99 P w i t
 | inr x => obtain ⟨t, e⟩ := (show ∃ t, u = Value.str x t from r); subst e; exact z96 P w x t
theorem z8r {P : Program} {w : World} : ∀ {ks : List Key} {us : List Value}, Vals (ks.map kV) us -> ItemsAre (z1d P w) ks us
 | [], _, r => by rw [List.map_nil] at r; cases r; exact .nil
 | k :: ks, _, r => by
  rw [List.map_cons] at r
  cases r with
  | cons h t => exact .cons (y1m h) (z8r t)
abbrev KT (H : Hp) : List (List Key × V) -> List (List Key × Addr × Value) -> Prop := Paired fun p q => p.1 = q.1 /\ H q.2.1 = some (.tup (p.1.map kV)) /\ RelV p.2 q.2.2
theorem KT.val {H : Hp} {kvs : List (List Key × V)} {xs : List (List Key × Addr × Value)} (r : KT H kvs xs) (k : List Key) : RelO (valV kvs k) ((atKey xs k).map (·.2)) := by
 induction r with
 | nil => exact True.intro
 | @cons p q ps qs h t ih =>
  obtain ⟨h1, _, h2⟩ := h
  by_cases e : p.1 = k
  ·have e' : q.1 = k := h1.symm.trans e
   have b : atKey (q :: qs) k = some q.2 := by simp [atKey, List.find?_cons, e']
   rw [z5Z e, b]; exact h2
  ·have e' : ¬ q.1 = k := fun z => e (h1.trans z)
   have b : atKey (q :: qs) k = atKey qs k := by simp [atKey, List.find?_cons, e']
   rw [z63 e, b]; exact ih
theorem KT.repl {H : Hp} {kvs : List (List Key × V)} {xs : List (List Key × Addr × Value)} (r : KT H kvs xs) (k : List Key) {y : V} {u : Value} (ry : RelV y u) :
  KT H (kvs.map fun kv => if kv.1 = k then (kv.1, y) else kv) (xs.map (putAt k u)) := by
 induction r with
 | nil => exact .nil
 | @cons p q ps qs h t ih =>
  rw [List.map_cons, List.map_cons]
  refine .cons ?_ ih
  obtain ⟨h1, h2, h3⟩ := h
  unfold putAt
  by_cases e : p.1 = k
  ·rw [if_pos e, if_pos (h1.symm.trans e)]; exact ⟨h1, h2, ry⟩
  ·rw [if_neg e, if_neg (fun z => e (h1.trans z))]; exact ⟨h1, h2, h3⟩
theorem KT.put {H : Hp} {kvs : List (List Key × V)} {xs : List (List Key × Addr × Value)} (r : KT H kvs xs) (k : List Key) {b : Addr} {y : V} {u : Value} (hb : H b = some (.tup (k.map kV))) (ry : RelV y u) :
  KT H (putK kvs k y) (storedH xs k b u) := by
 have e : (kvs.any fun kv => decide (kv.1 = k)) = (atKey xs k).isSome := by
  rw [z64, (r.val k).isSome_eq, Option.isSome_map]
 unfold putK storedH
 rw [e]
 by_cases q : (atKey xs k).isSome = true
 ·rw [if_pos q, if_pos q]; exact r.repl k ry
 ·rw [if_neg q, if_neg q]; exact Paired.snoc r ⟨rfl, hb, ry⟩
theorem KT.keeps {H H' : Hp} {kvs : List (List Key × V)} {xs : List (List Key × Addr × Value)} (r : KT H kvs xs) (ht : ∀ b ys, H b = some (.tup ys) -> H' b = some (.tup ys)) : KT H' kvs xs :=
 Paired.mapP r fun _ _ z => ⟨z.1, ht _ _ z.2.1, z.2.2⟩
section
variable {P : Program} {w : World} {H : Hp} {h : Heap} {a : Addr}
theorem y4W {u : HO} (ok : HOk P w H h) (e : Rd H a u) : z1a P w H h a u := e.ok ok
theorem y2N {kvs : List (Key × V)} (ok : HOk P w H h) (e : Rd H a (.dK kvs)) : kvs.length ≤ sizeLine /\ (a == sysModules) = false /\ ∃ vs, KV kvs vs /\ h.DictOf (z1d P w) a vs :=
 show z1a P w H h a (.dK kvs) from y4W ok e
theorem y54 {kvs : List (Key × V)} (ok : HOk P w H h) (e : H a = some (.dK kvs)) : kvs.length ≤ sizeLine /\ (a == sysModules) = false /\ ∃ vs, KV kvs vs /\ h.DictOf (z1d P w) a vs := y2N ok (.inl e)
theorem z9E {ks : List Key} (ok : HOk P w H h) (e : H a = some (.tup (ks.map kV))) : (tupleKind (z1d P w)).is h ks a := by
 obtain ⟨_, its, r, o, h1, h2, ⟨n, h3⟩, _⟩ := (show z1a P w H h a (.tup (ks.map kV)) from ok a _ e)
 exact ⟨o, its.toArray, n, h1, h2, h3, by simpa using z8r r⟩
theorem y35 {kvs : List (List Key × V)} (ok : HOk P w H h) (e : Rd H a (.dT kvs)) : kvs.length ≤ sizeLine /\ (a == sysModules) = false /\
  ∃ xs, KT H kvs xs /\ h.DictOfH (tupleKind (z1d P w)) a xs := by
 obtain ⟨z, y, xs, r, o, es, ep, h1, h2, h3, h4, h5⟩ := (show z1a P w H h a (.dT kvs) from y4W ok e)
 refine ⟨z, y, xs, r, o, es, ep, h1, h2, h3, h4, fun x hx => ?_, h5⟩
 have all : ∀ {l : List (List Key × V)} {m : List (List Key × Addr × Value)}, KT H l m -> ∀ x ∈ m, (tupleKind (z1d P w)).is h x.1 x.2.1 := by
  intro l m q
  induction q with
  | nil => intro x hx; exact nomatch hx
  | @cons p q ps qs hq t ih =>
   intro x hx
   rcases List.mem_cons.mp hx with e | hx
   ·subst e
    exact z9E ok (by rw [<- hq.1]; exact hq.2.1)
   ·exact ih x hx
 exact all r x hx
theorem dt_of {kvs : List (List Key × V)} (ok : HOk P w H h) (e : H a = some (.dT kvs)) : kvs.length ≤ sizeLine /\ (a == sysModules) = false /\
  ∃ xs, KT H kvs xs /\ h.DictOfH (tupleKind (z1d P w)) a xs := y35 ok (.inl e)
end
def DGet (H : Hp) (a : Addr) (y : V) (r : Option V) : Prop :=
 (∃ kvs k, Rd H a (.dK kvs) /\ y = kV k /\ r = valV kvs k) \/ ∃ kvs k b, Rd H a (.dT kvs) /\ y = .ref b /\ H b = some (.tup (k.map kV)) /\ r = valV kvs k
def DPut (H : Hp) (a : Addr) (y v : V) (H' : Hp) : Prop :=
 (∃ kvs k, H a = some (.dK kvs) /\ y = kV k /\ kvs.length < sizeLine /\ H' = upd H a (.dK (putK kvs k v))) \/
 ∃ kvs k b, H a = some (.dT kvs) /\ y = .ref b /\ H b = some (.tup (k.map kV)) /\ kvs.length < sizeLine /\ H' = upd H a (.dT (putK kvs k v))
theorem DGet.k {H : Hp} {a : Addr} {kvs : List (Key × V)} {k : Key} (e : H a = some (.dK kvs)) : DGet H a (kV k) (valV kvs k) := .inl ⟨kvs, k, .inl e, rfl, rfl⟩
theorem DPut.k {H : Hp} {a : Addr} {kvs : List (Key × V)} {k : Key} {v : V} (e : H a = some (.dK kvs)) (hl : kvs.length < sizeLine) : DPut H a (kV k) v (upd H a (.dK (putK kvs k v))) := .inl ⟨kvs, k, e, rfl, hl, rfl⟩
section
variable {X : Cx} {pins : List (Addr × Obj)} {σ : St} {H : Hp} {s : Shared} {a : Addr} {y v : V} {u r : Value} {o : Option V} {A : Around} {E : Value -> Shared -> Prop}
theorem Inv.big (I : Inv X pins σ H s) : sysModules < s.heap.objs.size := by
 have h : mainGlobals < s.heap.objs.size := (I.mod.glob.keeps I.bk).lt
 exact Nat.lt_trans (by decide) h
theorem y1e {Q : Value -> Shared -> Prop} (hu : A.units + 1 < cLine) (I : Inv X pins σ H s) (g : DGet H a y (some v)) (ry : RelV y u) (h : ∀ w' s', Inv X pins σ H s' -> RelV v w' -> Q w' s') :
  wpAny (model X.prog X.w) A (getItem (.ref a) u) Q E s := by
 rcases g with ⟨kvs, k, e, ey, l⟩ | ⟨kvs, k, b, e, ey, eb, l⟩
 ·subst ey
  obtain ⟨z, hd, vs, rel, dd⟩ := y2N I.hok e
  obtain ⟨w', hw, rw'⟩ := RelO.some_of (v := v) (o := valueAt vs k) (by rw [l]; exact rel.val k)
  exact wpAny_getItem_of (y1m ry) dd.mapOf hw (h w' _ (I.tok _) rw')
 ·subst ey
  cases (show u = Value.ref b from ry)
  obtain ⟨z, hd, xs, rel, dd⟩ := y35 I.hok e
  obtain ⟨w', hw, rw'⟩ := RelO.some_of (v := v) (o := (atKey xs k).map (·.2)) (by rw [l]; exact rel.val k)
  obtain ⟨p, hp, hp2⟩ := Option.map_eq_some_iff.mp hw
  refine wpAny_getItem_heap (tupleKind_room_in1 hu) (z9E I.hok eb) dd hp ?_
  rw [hp2]
  exact h w' _ (I.tok _) rw'
theorem d_in {Q : Value -> Shared -> Prop} (hu : A.units + 1 < cLine) (I : Inv X pins σ H s) (g : DGet H a y o) (ry : RelV y u) (h : ∀ s', Inv X pins σ H s' -> Q (.bool o.isSome) s') :
  wpAny (model X.prog X.w) A (compareOp .In u (.ref a)) Q E s := by
 rcases g with ⟨kvs, k, e, ey, l⟩ | ⟨kvs, k, b, e, ey, eb, l⟩
 ·subst ey
  obtain ⟨z, hd, vs, rel, dd⟩ := y2N I.hok e
  refine wpAny_in_of (y1m ry) hd dd.mapOf ?_
  rw [<- (rel.val k).isSome_eq, <- l]
  exact h _ (I.tok _)
 ·subst ey
  cases (show u = Value.ref b from ry)
  obtain ⟨z, hd, xs, rel, dd⟩ := y35 I.hok e
  refine wpAny_in_heap (tupleKind_room_in1 hu) (z9E I.hok eb) hd dd ?_
  have q := (rel.val k).isSome_eq
  rw [Option.isSome_map] at q
  rw [<- q, <- l]
  exact h _ (I.tok _)
theorem y22 {h' : Heap} {t' : Nat} {ob : HO} (I : Inv X pins σ H s) (mu : Mut (H a)) (hs : Heap.SameBut a s.heap h') (he : ∃ q, h'.get? a = some q) (new : z1a X.prog X.w (upd H a ob) h' a ob) :
  Inv X pins σ (upd H a ob) { s with heap := h', toks := t' } :=
 I.write (x := a) (e := a) mu (.inl rfl) (fun b q hb z => (hs.2 b hb).trans z) he new
theorem y3O {P : Program} {w : World} {H' : Hp} {h' : Heap} {kvs : List (Key × V)} {vs : List (Key × Value)} (z : kvs.length ≤ sizeLine) (hd : (a == sysModules) = false) (rel : KV kvs vs) (dd : h'.DictOf (z1d P w) a vs) :
  z1a P w H' h' a (.dK kvs) := ⟨z, hd, vs, rel, dd⟩
theorem y2i {H' : Hp} {Q : Unit -> Shared -> Prop} (hu : A.units + 1 < cLine) (I : Inv X pins σ H s) (g : DPut H a y v H') (ry : RelV y u) (rv : RelV v r) (h : ∀ s', Inv X pins σ H' s' -> Q () s') :
  wpAny (model X.prog X.w) A (setItem (.ref a) u r) Q E s := by
 rcases g with ⟨kvs, k, e, ey, l, eH⟩ | ⟨kvs, k, b, e, ey, eb, l, eH⟩
 ·subst ey eH
  obtain ⟨z, hd, vs, rel, dd⟩ := y54 I.hok e
  have hz : vs.length ≤ sizeLine := by rw [<- rel.length]; exact z
  have hl : (putK kvs k v).length ≤ sizeLine := by have := z6h kvs k v; omega
  refine wpAny_setItem_pairs (hsz := hz) (y1m ry) dd fun h' dd' hs => h _ ?_
  have he : ∃ q, h'.get? a = some q := let ⟨q, _, _, hq, _⟩ := dd'; ⟨q, hq⟩
  exact y22 I (by rw [e]; exact True.intro) hs he (y3O hl hd (rel.put k rv) dd')
 ·subst ey eH
  cases (show u = Value.ref b from ry)
  obtain ⟨z, hd, xs, rel, dd⟩ := dt_of I.hok e
  have hz : xs.length ≤ sizeLine := by rw [<- Paired.length rel]; exact z
  have hl : (putK kvs k v).length ≤ sizeLine := by have := z6h kvs k v; omega
  refine wpAny_setItem_heap (hsz := hz) (tupleKind_room_in1 hu) (z9E I.hok eb) dd fun h' dd' hs => h _ ?_
  obtain ⟨q, es, ep, hq, h2, h3, h4, _, h5⟩ := dd'
  refine y22 I (by rw [e]; exact True.intro) hs ⟨q, hq⟩ ⟨hl, hd, _, (rel.put k eb rv).keeps fun c ys ec => ?_, q, es, ep, hq, h2, h3, h4, h5⟩
  rw [z09 (z4L ec e (fun z => nomatch z))]
  exact ec
end
section
variable {X : Cx} {pins : List (Addr × Obj)} {σ : St} {H : Hp} {s : Shared} {a : Addr} {kvs : List (Key × V)} {k : Key} {u : Value} {A : Around} {E : Value -> Shared -> Prop}
end
def NoSl (i : Expr) : Prop := ∀ ov iv, subscripted i false ov iv = operate [ov, iv] (getItem ov iv)
theorem y4m {prog : Program} {w : World} {A : Around} {E : Value -> Shared -> Prop} {s : Shared} {env : Env} {value slice : Expr} {pos : Pos} {T id : String} {Q : Value -> Shared -> Prop}
  (hl : typeLookup (.type T) "__getitem__" = pure (some (.builtin id))) (hs : NoSl slice)
  (h : wpAny (model prog w) A (eval value env) (fun o s₁ => wpAny (model prog w) A (eval slice env) (fun i s₂ => s₂.TypeIs o T /\ wpAny (model prog w) A (getItem o i) Q E s₂) E s₁) E s) :
  wpAny (model prog w) A (eval (.Subscript value slice pos) env) Q E s := by
 refine Subscript_ (wpAny_mono h (fun o s₁ h₁ => wpAny_mono h₁ (fun i s₂ h₂ => ?_) fun _ _ x => x) fun _ _ x => x)
 obtain ⟨hT, h₂⟩ := h₂
 unfold subscriptTail
 refine wpAny_bind ?_
 rw [getitemInPython_of_ne hT.not_modules]
 refine wpAny_bind (wpAny_specialOf hT hl ?_)
 have fin : wpAny (model prog w) A (subscripted slice false o i) (fun r s₃ => wpAny (model prog w) A (letTemporaryGo value o r >>= fun _ => pure r) Q E s₃) E s₂ := by
  rw [hs o i]
  exact wpAny_operating (wpAny_mono h₂ (fun r s₃ h₃ => wpAny_bind (wpAny_letTemporaryGo (wpAny_pure h₃))) fun _ _ x => x)
 first
  | exact wpAny_pure (wpAny_bind fin)
  | exact wpAny_bind (wpAny_pure (wpAny_bind fin))
  | exact wpAny_bind fin
theorem z8N {X : Cx} {pins : List (Addr × Obj)} {σ : St} {H : Hp} {s : Shared} {a : Addr} {y : V} {o : Option V} (I : Inv X pins σ H s) (g : DGet H a y o) : s.TypeIs (.ref a) "dict" := by
 rcases g with ⟨kvs, k, e, _, _⟩ | ⟨kvs, k, b, e, _, _, _⟩
 ·obtain ⟨_, _, vs, _, dd⟩ := y2N I.hok e
  exact dd.typeIs
 ·obtain ⟨_, _, xs, _, dd⟩ := y35 I.hok e
  exact dd.typeIs
def tDGet (td ty : TE) : TE := fun σ H Q => td σ H fun x H1 => ty σ H1 fun y H2 => ∃ a v, x = .ref a /\ DGet H2 a y (some v) /\ Q v H2
def tDIn (ty td : TE) : TE := fun σ H Q => ty σ H fun y H1 => td σ H1 fun x H2 => ∃ a o, x = .ref a /\ DGet H2 a y o /\ Q (.bl o.isSome) H2
def sDPut (td ty tv : TE) : TS := fun D σ H => tv σ H fun v H1 => td σ H1 fun x H2 => ty σ H2 fun y H3 => ∃ a H4, x = .ref a /\ DPut H3 a y v H4 /\ D.nx σ H4
section
variable {X : Cx} {o i e value : Expr} {pos pos' tpos : Pos} {td ty tv : TE}
theorem z6j (hu : X.A.units + 1 < cLine) (ho : PE X o td) (hi : PE X i ty) (hs : NoSl i) : PE X (.Subscript o i pos) (tDGet td ty) := by
 intro pins s σ H Q I h
 refine y4m PySem.F.slot_dict_getitem.lookup hs (thn (ho pins s σ H _ I h) fun u s1 ⟨x, H1, I1, rx, q1⟩ => thn (hi pins s1 σ H1 _ I1 q1) fun iv s2 hz => ?_)
 obtain ⟨y, H2, I2, ry, a, v, ex, g, q2⟩ := hz
 subst ex
 obtain rfl : u = Value.ref a := rx
 exact ⟨z8N I2 g, y1e hu I2 g ry fun w' s3 I3 rw' => ⟨v, H2, I3, rw', q2⟩⟩
theorem y3M (hu : X.A.units + 1 < cLine) (hi : PE X i ty) (ho : PE X o td) : PC X .In i o (tDIn ty td) := by
 intro pins s σ H Q I h
 refine thn (hi pins s σ H _ I h) fun iv s1 ⟨y, H1, I1, ry, q1⟩ => thn (ho pins s1 σ H1 _ I1 q1) fun u s2 hz => ?_
 obtain ⟨x, H2, I2, rx, a, ov, ex, g, q2⟩ := hz
 subst ex
 obtain rfl : u = Value.ref a := rx
 exact d_in hu I2 g ry fun s3 I3 => ⟨.bl ov.isSome, H2, I3, rfl, q2⟩
theorem z9c (hu : X.A.units + 1 < cLine) (ho : PE X o td) (hi : PE X i ty) (hv : PE X value tv) (hs : swapsWith value (some (.Subscript o i pos')) pos.line X.env = pure false) :
  PS X (.Assign [.Subscript o i pos'] value pos) (sDPut td ty tv) := by
 intro pins s σ H D I h
 refine wpAny_Assign_Subscript (thn (hv pins s σ H _ I h) fun r s1 ⟨v, H1, I1, rv, q1⟩ => thn (ho pins s1 σ H1 _ I1 q1) fun u s2 ⟨x, H2, I2, rx, q2⟩ => thn (hi pins s2 σ H2 _ I2 q2) fun iv s3 hz => ?_) hs
 obtain ⟨y, H3, I3, ry, a, H4, ex, g, q3⟩ := hz
 subst ex
 obtain rfl : u = Value.ref a := rx
 exact y2i hu I3 g ry rv fun s4 I4 => ⟨σ, H4, I4, q3⟩
end
theorem y36 {P : Program} {w : World} {H : Hp} (h : Heap) (hb : sysModules < h.objs.size) : z1a P w H (h.push { cls := .type "dict", data := .dict #[] }) h.objs.size (.dK []) :=
 ⟨Nat.zero_le _, beq_eq_false_iff_ne.mpr (Ne.symm (Nat.ne_of_lt hb)), [], .nil, Heap.DictOf.new h⟩
def y5l : TE := fun _ H Q => ∀ p, H p = none -> Q (.ref p) (upd H p (.dK []))
section
variable {X : Cx} {pos : Pos}
theorem z9J : PE X (.Dict [] [] pos) y5l := fun pins s σ H Q I h =>
 wpAny_Dict_empty ⟨.ref s.heap.objs.size, _, I.laid (a := s.heap.objs.size) (o := .dK []) (t' := s.toks) (fun _ _ q => Heap.get?_push_of_some _ q) (Nat.le_refl _) (y36 s.heap I.big), rfl, h _ (I.hok.fresh (Nat.le_refl _))⟩
end
section
variable {X : Cx} {pins : List (Addr × Obj)} {σ : St} {H : Hp} {s : Shared} {a : Addr} {y d : V} {u r : Value} {o : Option V} {A : Around} {E : Value -> Shared -> Prop}
end
section
variable {X : Cx} {o e f : Expr} {apos cpos : Pos} {td ty tx : TE}
end
section
variable {X : Cx} {pins : List (Addr × Obj)} {σ : St} {H : Hp} {s : Shared} {a : Addr} {kvs : List (Key × V)} {A : Around} {E : Value -> Shared -> Prop}
end
section
variable {X : Cx} {pins : List (Addr × Obj)} {σ : St} {H : Hp} {s : Shared} {a : Addr} {y : V} {u : Value} {A : Around} {E : Value -> Shared -> Prop}
end
structure MCal (P : Program) (w : World) (K : PySem.W.Frag) (mg : Str -> Option Value) (base : Heap) (k : Nat) (C : Addr) (m : Str) (ps : List Str) (sp : Sp) : Prop where
 cl : Cls K C
 ex : ∃ (f : Addr) (fd : FuncData), FnOk P w K mg base CX0 k f fd ps sp /\ z1J K fd ps [] /\ Meth K C m f
theorem MCal.mk' {P : Program} {w : World} {K : PySem.W.Frag} {mg : Str -> Option Value} {base : Heap} {k : Nat} {C : Addr} {m : Str} {ps : List Str} {sp : Sp} {f : Addr} {fd : FuncData} (c : Cls K C) (a : FnOk P w K mg base CX0 k f fd ps sp) (b : z1J K fd ps []) (d : Meth K C m f) :
  MCal P w K mg base k C m ps sp := ⟨c, f, fd, a, b, d⟩
section
variable {X : Cx} {k : Nat} {C : Addr} {m x : Str} {ps : List Str} {sp : Sp} {o e : Expr} {es : List Expr} {ta : TE} {t : TA} {p pos apos : Pos} {pl : Sem Bool}
theorem z1M (G : MCal X.prog X.w X.K X.mg X.base k C m ps sp) (hr : Room k X.A) (he : PE X o ta) (ha : PA X (e :: es) t)
  (hst : starEach (e :: es) X.env = (false, eval e X.env) :: starEach es X.env := by rfl) (hpl : (backTo pos (starEach es X.env)).any (·.1) = false := by rfl)
  (ht : eval (.Call (.Attribute o m apos) (e :: es) [] pos) X.env = (do
   let ov <- eval o X.env
   standAt apos.atName
   let (f, first) <- holding [ov] (getMethod ov m pl)
   callWith pos f first (backTo pos (starEach (e :: es) X.env)) (backToKw pos (keywordEach [] X.env))) := by rfl) :
  PE X (.Call (.Attribute o m apos) (e :: es) [] pos) (y2e C m sp [] E0 ta t) := by
 obtain ⟨f, fd, a, b, d⟩ := G.ex
 exact y0Z he G.cl d a hr b .nil y1z ha hst hpl ht
theorem z31 (G : MCal X.prog X.w X.K X.mg X.base k C m ps sp) (hr : Room k X.A) (he : PE X o ta)
  (ht : eval (.Call (.Attribute o m apos) [] [] pos) X.env = (do
   let ov <- eval o X.env
   standAt apos.atName
   let (f, first) <- holding [ov] (getMethod ov m pl)
   callWith pos f first (backTo pos (starEach [] X.env)) (backToKw pos (keywordEach [] X.env))) := by rfl) :
  PE X (.Call (.Attribute o m apos) [] [] pos) (y2e C m sp [] E0 ta tNil) := by
 obtain ⟨f, fd, a, b, d⟩ := G.ex
 exact y2L he G.cl d a hr b .nil y1z ht
end
structure Mkr (P : Program) (w : World) (K : PySem.W.Frag) (mg : Str -> Option Value) (base : Heap) (k : Nat) (C : Addr) (x : Str) (ps : List Str) (sp : Sp) : Prop where
 ex : ∃ (f : Addr) (fd : FuncData), FnOk P w K mg base CX0 k f fd ps sp /\ z1J K fd ps [] /\ Mk K C f /\ mg x = some (.ref C)
theorem Mkr.mk' {P : Program} {w : World} {K : PySem.W.Frag} {mg : Str -> Option Value} {base : Heap} {k : Nat} {C : Addr} {x : Str} {ps : List Str} {sp : Sp} {f : Addr} {fd : FuncData} (a : FnOk P w K mg base CX0 k f fd ps sp) (b : z1J K fd ps []) (c : Mk K C f) (d : mg x = some (.ref C)) :
  Mkr P w K mg base k C x ps sp := ⟨f, fd, a, b, c, d⟩
section
variable {X : Cx} {k : Nat} {C : Addr} {m x : Str} {ps : List Str} {sp : Sp} {o e : Expr} {es : List Expr} {ta : TE} {t : TA} {p pos apos : Pos}
theorem y2d (G : Mkr X.prog X.w X.K X.mg X.base k C x ps sp) (hr : Room (k + 1) X.A) (hg : Gl X x) (ha : PA X (e :: es) t)
  (hdb : (x == ("__debug__" : Str)) = false := by decide) (he : starEach (e :: es) X.env = (false, eval e X.env) :: starEach es X.env := by rfl) (hpl : (backTo pos (starEach es X.env)).any (·.1) = false := by rfl) :
  PE X (.Call (.Name x p) (e :: es) [] pos) (y5v C sp [] E0 t) := by
 obtain ⟨f, fd, a, b, c, d⟩ := G.ex
 exact y4C c a hr hg d b .nil y1z ha hdb he hpl
theorem z2g {n : Int} (hg : Gl X x) (hm : ∃ t, X.mg x = some (.int n t)) (hd : (x == ("__debug__" : Str)) = false := by decide) : PE X (.Name x pos) (tC (.int n)) := by
 obtain ⟨t, e⟩ := hm
 exact y0H hg e ⟨t, rfl⟩ hd
end
def y3v (K : PySem.W.Frag) : List V -> Hp -> VK -> Prop := fun xs H Q => ∃ p ys, xs = [.ref p] /\ ((SqL K H p ys /\ ∀ l, H l = none -> Q (.ref l) (upd H l (.tup ys))) \/ (SqT K H p ys /\ Q (.ref p) H))
section
variable {X : Cx} {K : PySem.W.Frag}
theorem z2y (h : X.K = K) : z3c X (.type "tuple") (y3v K) := by
 subst h
 exact z0s
end
section
variable {X : Cx}
def y5h (K : PySem.W.Frag) (le : Int -> Int -> Prop) : List V -> Hp -> VK -> Prop := fun xs H Q => ∃ p ns, xs = [.ref p] /\ SqI K H p ns /\ ns ≠ [] /\ ∀ m, m ∈ ns -> (∀ y ∈ ns, le y m) -> Q (.int m) H
theorem z8f (hc : X.calm = true) : z3c X (.builtin "max") (y5h X.K fun y m => y ≤ m) := by
 intro pins s σ H xs us Q I r h
 obtain ⟨a, ns, rfl, hq, hn, q⟩ := h
 obtain ⟨u, rfl, ru⟩ := z3r r
 cases ru
 refine call_max_walk (z4Q (A := X.A.in1) I (I.ok.hd hc) hq fun it fp St its s3 rv W st hfp back => ?_)
 have hl := rv.length
 rw [List.length_map] at hl
 have h0 : 0 < its.length := by
  rw [<- hl]
  exact List.length_pos_iff.mpr hn
 refine ⟨it, fp, [it], _, _, St, _, rfl, W, st, hfp, by rw [List.size_toArray]; exact h0, CmpOf.ints_gt (fun i => ns.getD i 0) (z2r rv), fun v h' tk hv k => ?_⟩
 rw [List.size_toArray] at hv
 obtain ⟨t, rfl⟩ := z2r rv _ _ hv
 obtain ⟨b1, b2⟩ := z7p (fun i => ns.getD i 0) (its.length - 1)
 refine ⟨.int _, H, back h' tk k, ⟨t, rfl⟩, q _ (z5Y (by omega)) fun y hy => ?_⟩
 obtain ⟨i, hi, rfl⟩ := z5W hy
 exact b2 i (by omega)
theorem z8p (hc : X.calm = true) : z3c X (.builtin "min") (y5h X.K fun y m => m ≤ y) := by
 intro pins s σ H xs us Q I r h
 obtain ⟨a, ns, rfl, hq, hn, q⟩ := h
 obtain ⟨u, rfl, ru⟩ := z3r r
 cases ru
 refine call_min_walk (z4Q (A := X.A.in1) I (I.ok.hd hc) hq fun it fp St its s3 rv W st hfp back => ?_)
 have hl := rv.length
 rw [List.length_map] at hl
 have h0 : 0 < its.length := by
  rw [<- hl]
  exact List.length_pos_iff.mpr hn
 refine ⟨it, fp, [it], _, _, St, _, rfl, W, st, hfp, by rw [List.size_toArray]; exact h0, CmpOf.ints_lt (fun i => ns.getD i 0) (z2r rv), fun v h' tk hv k => ?_⟩
 rw [List.size_toArray] at hv
 obtain ⟨t, rfl⟩ := z2r rv _ _ hv
 obtain ⟨b1, b2⟩ := z7K (fun i => ns.getD i 0) (its.length - 1)
 refine ⟨.int _, H, back h' tk k, ⟨t, rfl⟩, q _ (z5Y (by omega)) fun y hy => ?_⟩
 obtain ⟨i, hi, rfl⟩ := z5W hy
 exact b2 i (by omega)
theorem y52 (hu : X.A.units < cLine) : OpR X (compareOp .Eq) (fun x y H Q => ∃ a b xs, x = .ref a /\ y = .ref b /\ SqL X.K H a xs /\ SqL X.K H b [] /\ Q (.bl xs.isEmpty) H) := by
 intro pins s σ H x y v u Q I rx ry h
 obtain ⟨a, b, xs, rfl, rfl, ha, hb, q⟩ := h
 cases rx
 cases ry
 obtain ⟨its, r, pl, hz⟩ := I.list ha
 obtain ⟨its2, r2, pl2, hz2⟩ := I.list hb
 cases r2
 have hl := r.length
 cases xs with
 | nil =>
  cases r
  exact SeqAt.RcAt.lists (e := fun _ => true) pl.isList pl2.isList rfl hu (fun j h1 _ => absurd h1 (Nat.not_lt_zero _)) X.prog X.w X.xe _ ⟨.bl true, H, I, rfl, q⟩
 | cons x0 xr =>
  refine SeqAt.RcAt.lists_lengths pl.isList pl2.isList ?_ hu X.prog X.w X.xe _ ⟨.bl false, H, I, rfl, q⟩
  rw [List.size_toArray, <- hl]
  rfl
end
end L2
namespace L2
open PySem
section
variable {prog : Program} {w : World} {A : Around} {E : Value -> Shared -> Prop} {s : Shared} {κ : Type} [DecidableEq κ] {kd : KeyKind prog w κ} {led : Bool}
end
end L2
namespace L2
open PySem PySem.Spec PyProof.Rows
namespace Ty
end Ty
section
variable {prog : Program} {w : World} {A : Around} {E : Value -> Shared -> Prop} {s : Shared}
end
namespace Ty
end Ty
section
variable {prog : Program} {w : World} {A : Around} {E : Value -> Shared -> Prop} {s : Shared} {κ : Type} [DecidableEq κ] {kd : KeyKind prog w κ}
end
section
variable {X : Cx}
end
theorem z22 : Slot "reversed" "__next__" "reversed.__next__" :=
 .of (owner := "reversed") (n := "__next__") (by rw [typeLookup_type, builtinLookup_eq_fast]; kernel_rfl) (by decide +kernel) (by decide +kernel) (by decide +kernel) (by first | exact .inl (by decide +kernel) | exact .inr (by decide +kernel)) (by rw [isSubtype_type]; kernel_rfl)
theorem z5x : Slot "reversed" "__iter__" "reversed.__iter__" :=
 .of (owner := "reversed") (n := "__iter__") (by rw [typeLookup_type, builtinLookup_eq_fast]; kernel_rfl) (by decide +kernel) (by decide +kernel) (by decide +kernel) (by first | exact .inl (by decide +kernel) | exact .inr (by decide +kernel)) (by rw [isSubtype_type]; kernel_rfl)
theorem z85 : Slot "reversed" "__init__" "object.__init__" :=
 .of (owner := "object") (n := "__init__") (by rw [typeLookup_type, builtinLookup_eq_fast]; kernel_rfl) (by decide +kernel) (by decide +kernel) (by decide +kernel) (by first | exact .inl (by decide +kernel) | exact .inr (by decide +kernel)) (by rw [isSubtype_type]; kernel_rfl)
theorem z4O : entryFor table "reversed.__next__" = some Builtin.«reversed.__next__» := entryFor_of_tree (by kernel_rfl)
theorem z7n : entryFor table "reversed.__iter__" = some Builtin.«dict_keyiterator.__iter__» := entryFor_alias (id' := "dict_keyiterator.__iter__") (by kernel_rfl) (by first | rfl | decide +kernel | (unfold String.splitOn; simp +decide [String.splitOnAux])) (by decide +kernel) (by kernel_rfl)
theorem z5E (a : Value) : argsOk "reversed.__next__" ⟨[a], []⟩ := by unfold argsOk; kernel_rfl
theorem z7V (a : Value) : argsOk "reversed.__iter__" ⟨[a], []⟩ := by unfold argsOk; kernel_rfl
theorem z6c : TypeCalled "reversed" "reversed.__new__" "object.__init__" :=
 ⟨by decide +kernel, by decide +kernel, ⟨_, _, PySem.F.mro_reversed⟩, PySem.F.made_reversed, by decide +kernel, PySem.F.sub_reversed_self, z85⟩
theorem z7E : typeLookup (.type "tuple") "__reversed__" = pure none := by rw [typeLookup_type, builtinLookup_eq_fast]; kernel_rfl
theorem y0o : isSubtype (.type "tuple") (.type "dict") = pure false := by rw [isSubtype_type]; kernel_rfl
abbrev z7H (t : Addr) (i : Int) : Obj := { cls := .type "reversed", dict := none, data := .fields #[.ref t, rawInt i], slots := #[] }
section
variable {prog : Program} {w : World} {A : Around} {E : Value -> Shared -> Prop} {s : Shared}
theorem z8T {t : Addr} {items : Array Value} {Q : Value -> Shared -> Prop} (ht : IsTup s.heap t items) (hf : (items.size : Int) < 2 ^ 63) (h : ∀ tk, Q (.ref s.heap.objs.size) { s with heap := s.heap.push (z7H t ((items.size : Int) - 1)), toks := tk }) :
  codeAny (model prog w) A (.call (.builtin "reversed.__new__") ⟨[.type "reversed", .ref t], []⟩) (wants Q E) s := by
 refine codeAny_of_tree ?_
 show wpAny _ A.in1 (do checkBuiltinCall "reversed.__new__" ⟨[.type "reversed", .ref t], []⟩; again (.builtin "reversed.__new__" ⟨[.type "reversed", .ref t], []⟩)) _ _ s
 refine wpAny_bind (wpAny_of_eq (PySem.F.newCall_reversed_1 _) (wpAny_pure ⟨plainId_quiet PySem.F.plain_reversed_new _, codeAny_builtin PySem.F.entry_reversed_new ?_⟩))
 rw [Around.under_plainId PySem.F.plain_reversed_new _]
 unfold Builtin.«reversed.__new__»
 refine wpAny_bind (wpAny_of_eq (newClass_reversed _) ?_)
 try dsimp only
 refine wpAny_bind (wpAny_of_eq (a := ()) (by first | rfl | kernel_rfl) ?_)
 refine wpAny_bind (wpAny_of_eq (a := ()) (by first | rfl | kernel_rfl) ?_)
 try dsimp only
 refine wpAny_bind (wpAny_specialOf ht.typeIs z7E ?_)
 try dsimp only
 refine wpAny_bind ?_
 show wpAny _ _ (isInstance (.ref t) (.type "dict") >>= fun b => _) _ _ _
 refine wpAny_bind (wpAny_isInstance (T := "tuple") ht.typeIs y0o ?_)
 rw [if_neg (by decide)]
 refine wpAny_bind (wpAny_specialOf ht.typeIs slot_tuple_getitem.lookup ?_)
 dsimp only
 rw [if_pos (by decide +kernel)]
 refine wpAny_pure ?_
 rw [if_neg (by decide)]
 refine wpAny_bind (len_tuple ht hf ?_)
 refine wpAny_bind (wpAny_of_eq (a := some (items.size : Int)) rfl ?_)
 dsimp only
 refine wpAny_bind ?_
 show wpAny _ _ (newObj (.type "reversed") (.fields #[.ref t, rawInt ((items.size : Int) - 1)])) _ _ _
 exact wpAny_newObj_type (wpAny_pure (h _)) (by size_fits)
theorem y4n {t : Addr} {items : Array Value} {Q : Value -> Shared -> Prop} (ht : IsTup s.heap t items) (hf : (items.size : Int) < 2 ^ 63) (h : ∀ tk, Q (.ref s.heap.objs.size) { s with heap := s.heap.push (z7H t ((items.size : Int) - 1)), toks := tk }) :
  wpAny (model prog w) A (call (.type "reversed") [.ref t]) Q E s := by
 refine callType_codes (Q₁ := fun obj s₁ => obj = .ref s.heap.objs.size /\ ∃ tk, s₁ = { s with heap := s.heap.push (z7H t ((items.size : Int) - 1)), toks := tk }) z6c (PySem.F.typeCall_reversed_1 _) F.entry_object_init (z8T ht hf fun tk => ⟨rfl, tk, rfl⟩) ?_
 rintro obj s₁ ⟨rfl, tk, rfl⟩
 have ty : Shared.TypeIs { s with heap := s.heap.push (z7H t ((items.size : Int) - 1)), toks := tk } (.ref s.heap.objs.size) "reversed" := ⟨_, Heap.get?_push_size _ rfl, rfl⟩
 exact ⟨ty, F.args_object_init_2 _ _, object_init_meets z6c.init.lookup z6c.made (by decide) _ _ _ _ _ ⟨ty, rfl, h tk⟩⟩
theorem y4o {I t : Addr} {i : Nat} {items : Array Value} {x : Value} {Q : Option Value -> Shared -> Prop} (hI : s.heap.get? I = some (z7H t (i : Int))) (ht : IsTup s.heap t items) (hx : items[i]? = some x) (hz : (items.size : Int) < 2 ^ 63)
  (hQ : ∀ h' tk, h'.get? I = some (z7H t ((i : Int) - 1)) -> Heap.SameBut I s.heap h' -> Q (some x) { s with heap := h', toks := tk }) : wpAny (model prog w) A (pyNext (.ref I)) Q E s := by
 have ty : s.TypeIs (.ref I) "reversed" := ⟨_, hI, rfl⟩
 have hi : i < items.size := (Array.getElem?_eq_some_iff.mp hx).1
 unfold pyNext
 refine wpAny_bind (wpAny_attempt (wpAny_callSpecial?_slot (name := Str.ofString "__next__") ty z22
  (wpAny_call_entry z22 ty z4O ?_ (z5E _))))
 unfold Builtin.«reversed.__next__»
 refine wpAny_bind (wpAny_of_eq (a := (Value.ref I, [])) rfl ?_)
 try dsimp only
 refine wpAny_bind (wpAny_field hI rfl (x := .ref t) rfl ?_)
 refine wpAny_bind (wpAny_field hI rfl (x := rawInt (i : Int)) rfl ?_)
 show wpAny _ _ (if (i : Int) < 0 then _ else _) _ _ s
 rw [if_neg (by omega)]
 refine wpAny_bind (wpAny_specialOf ht.typeIs slot_tuple_getitem.lookup ?_)
 rw [if_neg (by decide)]
 refine wpAny_bind (wpAny_mkInt ?_)
 refine wpAny_bind (wpAny_attempt (getItem_tuple (j := i) (x := x) ht (by omega) (by omega) ?_ hx ?_))
 ·exact seqIndex_of (by omega) (by omega)
 dsimp only
 refine wpAny_bind (wpAny_field hI rfl (x := rawInt (i : Int)) rfl ?_)
 show wpAny _ _ (setField (.ref I) 1 (rawInt ((i : Int) - 1)) >>= _) _ _ _
 refine wpAny_bind (wpAny_setField hI rfl (by simp) ?_)
 refine wpAny_pure ⟨x, rfl, wpAny_pure (hQ _ _ ?_ (Heap.SameBut.update ..))⟩
 exact Heap.get?_update_self _ hI rfl
theorem y5d {I t : Addr} {Q : Option Value -> Shared -> Prop} (hh : A.handled = none) (hI : s.heap.get? I = some (z7H t (-1)))
  (hQ : ∀ h', Heap.ExtBut I s.heap h' -> Q none { s with heap := h' }) : wpAny (model prog w) A (pyNext (.ref I)) Q E s := by
 have ty : s.TypeIs (.ref I) "reversed" := ⟨_, hI, rfl⟩
 unfold pyNext
 refine wpAny_bind (wpAny_attempt (wpAny_callSpecial?_slot (name := Str.ofString "__next__") ty z22
  (wpAny_call_entry z22 ty z4O ?_ (z5E _))))
 unfold Builtin.«reversed.__next__»
 refine wpAny_bind (wpAny_of_eq (a := (Value.ref I, [])) rfl ?_)
 try dsimp only
 refine wpAny_bind (wpAny_field hI rfl (x := .ref t) rfl ?_)
 refine wpAny_bind (wpAny_field hI rfl (x := rawInt (-1)) rfl ?_)
 show wpAny _ _ (if (-1 : Int) < 0 then _ else _) _ _ s
 rw [if_pos (by decide)]
 refine wpAny_bind (wpAny_rule ?_)
 refine wpAny_bind ?_
 show wpAny _ _ (setField (.ref I) 1 (rawInt (-1)) >>= fun _ => setField (.ref I) 0 .none) _ _ _
 refine wpAny_bind (wpAny_setField hI rfl (by simp) ?_)
 have g1 := Heap.get?_update_self (Obj.mapFields (·.setIfInBounds 1 (rawInt (-1)))) hI rfl
 have b1 : Heap.SameBut I s.heap (s.heap.update I (Obj.mapFields (·.setIfInBounds 1 (rawInt (-1))))) := Heap.SameBut.update ..
 refine wpAny_setField (vs := #[.ref t, rawInt (-1)]) g1 rfl (by simp) ?_
 have b2 : Heap.SameBut I (s.heap.update I (Obj.mapFields (·.setIfInBounds 1 (rawInt (-1))))) ((s.heap.update I (Obj.mapFields (·.setIfInBounds 1 (rawInt (-1))))).update I (Obj.mapFields (·.setIfInBounds 0 .none))) := Heap.SameBut.update ..
 refine wpAny_bind ?_
 unfold Builtin.SmallTypes.stopIteration
 refine wpAny_bind ?_
 simp only [newExc, newTuple]
 refine wpAny_bind (wpAny_newObj_type ?_ (by size_fits))
 refine wpAny_bind (m := firstArgMember _ _) (wpAny_of_eq (a := Value.none) (by first | rfl | (simp only [firstArgMember]; rfl)) (wpAny_newObj_type ?_ (by size_fits)))
 simp only [raiseNew]
 refine wpAny_bind (wpAny_handled ?_)
 rw [show A.in1.handled = none from hh]
 refine wpAny_bind (wpAny_pure (wpAny_throw ?_))
 refine wpAny_bind (wpAny_isInstance (T := "StopIteration") (b := true) ⟨_, Heap.get?_push_size _ rfl, rfl⟩ isSubtype_stop ?_)
 exact wpAny_pure (hQ _ fun b o hb e => Heap.get?_push_of_some _ (Heap.get?_push_of_some _ ((b2.2 b hb).trans ((b1.2 b hb).trans e))))
theorem y0T {I t : Addr} {i : Int} {Q : Value -> Shared -> Prop} (hI : s.heap.get? I = some (z7H t i)) (h : Q (.ref I) s) : wpAny (model prog w) A (pyIter (.ref I)) Q E s := by
 have ty : s.TypeIs (.ref I) "reversed" := ⟨_, hI, rfl⟩
 refine wpAny_pyIter_slot ty z5x (wpAny_call_entry z5x ty z7n ?_ (z7V _))
 show wpAny _ _ (ret (.ref I)) _ _ s
 exact wpAny_pure ⟨_, rfl, "reversed", _, ty, z22.lookup, h⟩
end
def Itv (K : PySem.W.Frag) (a : Addr) (n : Nat) : It :=
 ⟨fun i H => i < n /\ ∃ xs, SqT K H a xs /\ xs.length = n, fun i H x H' => H' = H /\ ∀ xs, SqT K H a xs -> xs.reverse[i]? = some x, fun i H => n ≤ i⟩
theorem y2U {P : Program} {w : World} {K : PySem.W.Frag} {tg : Expr} (a it : Addr) (n : Nat) : Turn P w K tg (Itv K a n) [it] it (fun i h => i ≤ n /\ h.get? it = some (z7H a ((n : Int) - 1 - (i : Int)))) where
 mem := by simp
 obj := fun i h st b hb => by
  have e : b = it := by simpa using hb
  subst e
  exact ⟨_, st.2, fun v z => by
   have z' : Data.fields _ = Data.cell v := z
   cases z'⟩
 keep := fun i h h' st k => ⟨st.1, k it (by simp) _ st.2⟩
 item := by
  intro X hP hw hK hc i pins s σ H E I hf st hg
  subst hP hw hK
  obtain ⟨hi, xs, hq, hn⟩ := hg
  obtain ⟨its, rv, p, hz⟩ := I.tuple hq
  have ln : xs.length = its.length := rv.length
  have hk : n - 1 - i < xs.length := by omega
  obtain ⟨u, hu, ru⟩ := rv.get (List.getElem?_eq_getElem hk)
  obtain ⟨f0, f1, f2, f3, f4, f5⟩ := hf it (by simp)
  have e1 : (n : Int) - 1 - (i : Int) = ((n - 1 - i : Nat) : Int) := by omega
  have st1 := st.2
  rw [e1] at st1
  refine y4o st1 (show IsTup s.heap a its.toArray from p) (x := u) (by simpa using hu) ?_ fun h' tk st' sb => ?_
  ·have : its.toArray.size = xs.length := by simp [ln]
   rw [this]
   have := Nat.lt_of_le_of_lt hz z50
   omega
  have I1 : Inv X pins σ H { s with heap := h', toks := tk } := I.turned (t' := tk) (fun b o hb e => (sb.2 b hb).trans e) f0 f1 f3 f4 f5
  refine ⟨u, rfl, y2F (s := { s with heap := h', toks := tk }) st' rfl rfl (by decide) ⟨xs[n - 1 - i], H, I1, ru, ⟨rfl, fun ys hy => ?_⟩, ⟨hi, ?_⟩, fun b hb => (hf b hb).1⟩⟩
  ·rw [I.tuple_inj hy hq, List.getElem?_reverse (by omega), List.getElem?_eq_getElem (by omega)]
   congr 2
   omega
  ·have e2 : (n : Int) - 1 - ((i + 1 : Nat) : Int) = ((n - 1 - i : Nat) : Int) - 1 := by omega
   rw [e2]
   exact st'
 done := by
  intro X hP hw hK hc i pins s σ H E I hf st hg
  subst hP hw hK
  obtain ⟨f0, f1, f2, f3, f4, f5⟩ := hf it (by simp)
  have hg' : n ≤ i := hg
  have st1 := st.2
  rw [show (n : Int) - 1 - (i : Int) = -1 by have := st.1; omega] at st1
  exact y5d (I.ok.hd hc) st1 fun h' eb => ⟨rfl, I.turned (t' := s.toks) (fun b o hb e => eb b o hb e) f0 f1 f3 f4 f5⟩
 self := fun _ _ _ _ _ st h => y0T st.2 h
section
variable {X : Cx} {tg : Expr}
def iRev (K : PySem.W.Frag) (ta : TA) : TI := fun σ H R => ta σ H fun vs H1 => ∃ a xs, vs = [.ref a] /\ SqT K H1 a xs /\ R (Itv K a xs.length) H1
theorem y58 {e : Expr} {ta : TA} {p pos : Pos} (hg : Gl X "reversed") (hm : X.mg "reversed" = none) (ha : PA X [e] ta) (hs : starEach [e] X.env = [(false, eval e X.env)] := by rfl) : PI X tg (.Call (.Name "reversed" p) [e] [] pos) (iRev X.K ta) := by
 intro pins s σ H R I h
 refine Call_ (z4U I hg hm boot_reversed (PyProof.Rows.callWith_type1 (thn (ha pos pins s σ H _ I h) fun us s1 ⟨vs, H1, I1, r1, q1⟩ => ?_) hs rfl))
 obtain ⟨a, xs, e, hq, q⟩ := q1
 subst e
 cases r1 with
 | cons r rr =>
  cases rr
  cases r
  obtain ⟨its, rv, p, hz⟩ := I1.tuple hq
  have ln : (its.toArray.size : Int) = xs.length := by simp [rv.length]
  refine y4n (show IsTup s1.heap a its.toArray from p) ?_ fun tk => ?_
  ·rw [ln]
   have := Nat.lt_of_le_of_lt hz z50
   omega
  refine y0T (Heap.get?_push_size _ rfl) ?_
  refine ⟨s1.heap.objs.size, [s1.heap.objs.size], _, _, H1, rfl, I1.kept (t' := tk) fun b o e => Heap.get?_push_of_some _ e, y2U a _ xs.length, ⟨Nat.zero_le _, ?_⟩, fun b hb => ?_, q⟩
  ·rw [show (xs.length : Int) - 1 - ((0 : Nat) : Int) = (its.toArray.size : Int) - 1 by rw [ln]; simp]
   exact Heap.get?_push_size _ rfl
  ·have e : b = s1.heap.objs.size := by simpa using hb
   subst e
   exact I1.fpOk (Nat.le_refl _) (I1.hok.fresh (Nat.le_refl _))
end
theorem y39 {K : PySem.W.Frag} {a : Addr} {xs : List V} {g : TG} {tc : TT} {te : TE} {σ0 : St} {H1 : Hp} {F : List V -> Hp -> Prop} (Pv : Nat -> List V -> Hp -> Prop) (h0 : Pv 0 [] H1)
  (hl : ∀ i ys H, i ≤ xs.length -> Pv i ys H -> SqT K H a xs /\ ys.length < sizeLine)
  (hs : ∀ i x ys H, xs.reverse[i]? = some x -> Pv i ys H -> z18 g tc te σ0 x H ys (Pv (i + 1))) (hd : ∀ ys H, Pv xs.length ys H -> F ys H) : z7x (Itv K a xs.length) g tc te σ0 H1 F := by
 refine ⟨fun i m ys H => m = xs.length - i /\ i ≤ xs.length /\ Pv i ys H, ⟨xs.length, by simp, Nat.zero_le _, h0⟩, ?_⟩
 rintro i m ys H ⟨rfl, hi, p⟩
 obtain ⟨q, z⟩ := hl i ys H hi p
 by_cases hlt : i < xs.length
 ·refine .inr ⟨⟨hlt, xs, q, rfl⟩, z, Pv (i + 1), fun zs H' p' => ⟨xs.length - (i + 1), by omega, rfl, hlt, p'⟩, fun x H' y => ?_⟩
  obtain ⟨e, y⟩ := y
  subst e
  exact hs i x ys _ (y xs q) p
 ·have e : i = xs.length := by omega
  subst e
  exact .inl ⟨Nat.le_refl _, hd ys H p⟩
theorem len0 {us : List Value} {p : List Value -> Prop} (h : us.length = 0) (k : p []) : p us := by rw [List.eq_nil_of_length_eq_zero h]; exact k
theorem len1 {us : List Value} {p : List Value -> Prop} (h : us.length = 1) (k : ∀ a, p [a]) : p us := by
 obtain ⟨a, r, rfl⟩ := List.exists_cons_of_length_eq_add_one h
 exact len0 (p := fun r => p (a :: r)) (Nat.succ.inj h) (k a)
theorem len2 {us : List Value} {p : List Value -> Prop} (h : us.length = 2) (k : ∀ a b, p [a, b]) : p us := by
 obtain ⟨a, r, rfl⟩ := List.exists_cons_of_length_eq_add_one h
 exact len1 (p := fun r => p (a :: r)) (Nat.succ.inj h) (k a)
theorem len3 {us : List Value} {p : List Value -> Prop} (h : us.length = 3) (k : ∀ a b c, p [a, b, c]) : p us := by
 obtain ⟨a, r, rfl⟩ := List.exists_cons_of_length_eq_add_one h
 exact len2 (p := fun r => p (a :: r)) (Nat.succ.inj h) (k a)
theorem len4 {us : List Value} {p : List Value -> Prop} (h : us.length = 4) (k : ∀ a b c d, p [a, b, c, d]) : p us := by
 obtain ⟨a, r, rfl⟩ := List.exists_cons_of_length_eq_add_one h
 exact len3 (p := fun r => p (a :: r)) (Nat.succ.inj h) (k a)
theorem len5 {us : List Value} {p : List Value -> Prop} (h : us.length = 5) (k : ∀ a b c d e, p [a, b, c, d, e]) : p us := by
 obtain ⟨a, r, rfl⟩ := List.exists_cons_of_length_eq_add_one h
 exact len4 (p := fun r => p (a :: r)) (Nat.succ.inj h) (k a)
theorem len6 {us : List Value} {p : List Value -> Prop} (h : us.length = 6) (k : ∀ a b c d e f, p [a, b, c, d, e, f]) : p us := by
 obtain ⟨a, r, rfl⟩ := List.exists_cons_of_length_eq_add_one h
 exact len5 (p := fun r => p (a :: r)) (Nat.succ.inj h) (k a)
theorem Cal.mono {P : Program} {w : World} {K : PySem.W.Frag} {mg : Str -> Option Value} {base : Heap} {j k : Nat} {x : Str} {ps : List Str} {sp : Sp} (G : Cal P w K mg base j x ps sp) (h : j ≤ k) : Cal P w K mg base k x ps sp := by
 obtain ⟨f, fd, a, b, c, d⟩ := G.ex
 exact ⟨f, fd, a.mono h, b, c, d⟩
theorem MCal.mono {P : Program} {w : World} {K : PySem.W.Frag} {mg : Str -> Option Value} {base : Heap} {j k : Nat} {C : Addr} {m : Str} {ps : List Str} {sp : Sp} (G : MCal P w K mg base j C m ps sp) (h : j ≤ k) : MCal P w K mg base k C m ps sp := by
 obtain ⟨f, fd, a, b, c⟩ := G.ex
 exact ⟨G.cl, f, fd, a.mono h, b, c⟩
theorem Mkr.mono {P : Program} {w : World} {K : PySem.W.Frag} {mg : Str -> Option Value} {base : Heap} {j k : Nat} {C : Addr} {x : Str} {ps : List Str} {sp : Sp} (G : Mkr P w K mg base j C x ps sp) (h : j ≤ k) : Mkr P w K mg base k C x ps sp := by
 obtain ⟨f, fd, a, b, c, d⟩ := G.ex
 exact ⟨f, fd, a.mono h, b, c, d⟩
theorem z5w {X : Cx} {x z : Str} {pos : Pos} (hg : Gl X x) (hm : ∃ t, X.mg x = some (.str z t)) (hd : (x == ("__debug__" : Str)) = false := by decide) : PE X (.Name x pos) (tC (.str z)) := by
 obtain ⟨t, e⟩ := hm
 exact y0H hg e ⟨t, rfl⟩ hd
section
variable {X : Cx}
theorem z5A {P : Program} {w : World} : ∀ {ns : List Int} {vs : List Value}, vs.length = ns.length -> (∀ (j : Nat) (v : Value), vs[j]? = some v -> ∃ k : Key, (ns.map Sum.inl)[j]? = some k /\ (z1d P w).is k v = true) -> IntsAre vs ns
 | [], [], _, _ => .nil
 | [], _ :: _, h, _ => by cases h
 | _ :: _, [], h, _ => by cases h
 | n :: ns, v :: vs, h, q => by
  obtain ⟨k, e, hk⟩ := q 0 v rfl
  cases e
  rcases z0V (show z8I (Sum.inl n) v = true from hk) with ⟨i, t, e1, rfl⟩ | ⟨x, t, e1, _⟩
  ·cases e1
   exact .cons n t (z5A (Nat.succ.inj h) fun j u hu => q (j + 1) u hu)
  ·cases e1
theorem z81 {prog : Program} {w : World} {A : Around} {E : Value -> Shared -> Prop} {s : Shared} {R : List Value -> Shared -> Prop} {T : String} {r d : Addr} {n : Nat} {P : Nat -> Value -> Prop} {OK : Heap -> Prop} (K : PySem.W.KdlSrc prog w T r d n P OK) (hh : A.handled = none) (hok : OK s.heap) (hn : n ≤ sizeLine)
  (fin : ∀ (h' : Heap) (tk : Nat) (acc : Array Value), (∀ b o, s.heap.get? b = some o -> h'.get? b = some o) -> s.heap.objs.size < h'.objs.size -> ItemsOf P acc n -> R acc.toList { s with heap := h', toks := tk }) : wpAny (model prog w) A (collect (.ref r)) R E s := by
 have hlt := K.there _ hok
 unfold collect
 refine wpAny_bind (wpAny_runValue (codeAny_builtin entry_proto_collect' ?_))
 rw [Around.under_plainId PySem.F.plain_proto_collect _]
 refine (show wpAny _ A.in1 (newList [] >>= fun l => again (.builtin "list.__iadd__" ⟨[l, .ref r], []⟩)) _ _ s from wpAny_bind (wpAny_newObj_type (wpAny_pure ⟨plainId_quiet PySem.F.plain_list_iadd _, codeAny_builtin entry_list_iadd' ?_⟩)))
 rw [Around.under_plainId PySem.F.plain_list_iadd _]
 have g1 : (s.heap.push { cls := .type "list", data := .seq ([] : List Value).toArray }).get? s.heap.objs.size = some { cls := .type "list", data := .seq #[] } := Heap.get?_push_size _ rfl
 have ext := PySem.W.kdl_extend (A := A) (s := { s with heap := s.heap.push { cls := .type "list", data := .seq ([] : List Value).toArray } })
  (R := fun (q : Result) (s' : Shared) => ∃ (h' : Heap) (tk : Nat) (acc : Array Value) (c' : Nat), q = .ok (.ret (.ref s.heap.objs.size)) /\ s' = { s with heap := h', toks := tk } /\ (∀ b o, s.heap.get? b = some o -> h'.get? b = some o) /\
   h'.get? s.heap.objs.size = some { cls := .type "list", dict := none, data := .seq acc c', slots := #[] } /\ ItemsOf P acc n)
  K hh (K.keep _ _ hok fun b _ o e => Heap.get?_push_of_some _ e) s.heap.objs.size (Nat.ne_of_gt hlt.1) (Nat.ne_of_gt hlt.2) (.ref s.heap.objs.size) 0 g1
  (fun h' tk acc c' k hS' so => ⟨h', tk, acc, c', rfl, rfl, fun b o e => k b o (Nat.ne_of_lt (Heap.lt_size e)) (Heap.get?_push_of_some _ e), hS', so⟩) hn
 refine (show wpAny _ A.in1 (Builtin.List.listExtendWith (.ref s.heap.objs.size) (.ref r) (.ref s.heap.objs.size)) _ _ _ from wpAny_mono ext (fun f s' x => ?_) fun e s' x => ?_)
 ·cases f with
  | done f =>
   obtain ⟨h', tk, acc, c', e, rfl, k, hS', so⟩ := x
   cases e
   exact (show wpAny _ A (load s.heap.objs.size >>= _) _ _ _ from wpAny_bind (wpAny_load hS' (wpAny_pure (fin h' tk _ k (Heap.lt_size hS') so))))
  | again c1 =>
   refine ⟨x.1, codeAny_mono x.2 fun q s2 y => ?_⟩
   obtain ⟨h', tk, acc, c', rfl, rfl, k, hS', so⟩ := y
   exact (show wpAny _ A (load s.heap.objs.size >>= _) _ _ _ from wpAny_bind (wpAny_load hS' (wpAny_pure (fin h' tk _ k (Heap.lt_size hS') so))))
 ·obtain ⟨_, _, _, _, e', _⟩ := x
  cases e'
theorem z3h (hc : X.calm = true) : z3c X (.builtin "sorted") (fun xs H Q => ∃ (p : Addr) (kvs : List (Key × V)) (ns : List Int), xs = [.ref p] /\ H p = some (.dK kvs) /\ kvs.map (·.1) = ns.map Sum.inl /\ ns.length < 64 /\
  ∀ (l : Addr) (ms : List Int), H l = none -> ms.Perm ns -> ms.Pairwise (· ≤ ·) -> Q (.ref l) (upd H l (.lst (ms.map V.int)))) := by
 intro pins s σ H xs us Q I r h
 obtain ⟨p, kvs, ns, rfl, hp, hk, h64, q⟩ := h
 obtain ⟨u, rfl, rx⟩ := z3r r
 cases rx
 obtain ⟨_, lo, kv, rk, dd⟩ := y54 I.hok hp
 obtain ⟨ep, hat⟩ := dd.dictAt
 have lk : kv.length = ns.length := by
  have e1 := rk.length
  have e2 := congrArg List.length hk
  rw [List.length_map, List.length_map] at e2
  omega
 refine Calls.call_function_entry kind_sorted plain_sorted entry_sorted (args_sorted1 _) ?_
 unfold Builtin.«sorted»
 refine wpAny_bind (m := checkCount "sorted" 1 1 _) (wpAny_pure ?_)
 refine wpAny_bind (z81 (A := X.A.in1) (PySem.W.kdl_dict (knd := z1d X.prog X.w) (kvs := kv) (ep := ep) lo) (I.ok.hd hc) hat (by rw [sizeLine_eq]; omega) fun h' tk acc kp slt items => ?_)
 have hi : IntsAre acc.toList ns := z5A (P := X.prog) (w := X.w) (by rw [Array.length_toList, items.1, lk]) fun j v hv => by
  obtain ⟨k, x, e, ik⟩ := items.2 j v (by rw [<- Array.getElem?_toList]; exact hv)
  refine ⟨k, ?_, ik⟩
  rw [<- hk, rk.keys, List.getElem?_map, e]
  rfl
 have lv : acc.toList.length < 64 := by rw [IntsAre.length hi]; exact h64
 refine wpAny_bind (wpAny_newList ?_ (by rw [sizeLine_eq]; omega))
 have g1 : (h'.push (seqObj "list" acc.toList.toArray 0)).get? h'.objs.size = some (seqObj "list" acc.toList.toArray 0) := Heap.get?_push_size _ rfl
 refine wpAny_bind (wpAny_holding (wpAny_call_entry slot_list_sort ⟨_, g1, rfl⟩ entry_list_sort (list_sort_tree g1 hi lv fun out ns' a1 a2 a3 => ⟨_, rfl, ?_⟩) (args_list_sort _)))
 refine wpAny_pure ⟨_, rfl, ?_⟩
 obtain ⟨e, he⟩ := sortedHeap_at (out := out) g1
 have sle : s.heap.objs.size ≤ h'.objs.size := Nat.le_of_lt slt
 have old : ∀ b o, s.heap.get? b = some o -> (sortedHeap (h'.push (seqObj "list" acc.toList.toArray 0)) h'.objs.size acc.toList out).get? b = some o := fun b o e => by
  have hb := Heap.lt_size (kp b o e)
  rw [sortedHeap_old (Nat.ne_of_lt hb) (by rw [size_push']; exact Nat.lt_succ_of_lt hb)]
  exact Heap.get?_push_of_some _ (kp b o e)
 refine ⟨.ref h'.objs.size, _, I.laid (a := h'.objs.size) (o := .lst (ns'.map V.int)) (t' := tk) old sle (show z1a X.prog X.w _ _ _ (.lst (ns'.map V.int)) from ⟨?_, out.toList, e, z4P a1, ?_⟩), rfl, q _ ns' (I.hok.fresh sle) a2 a3⟩
 ·rw [List.length_map, a2.length_eq, sizeLine_eq]
  omega
 ·simpa using he
end
theorem z6W : typeLookup (.type "list") "keys" = pure none := am_miss_of_fast (by kernel_rfl)
theorem z6F : typeLookup (.type "tuple") "keys" = pure none := am_miss_of_fast (by kernel_rfl)
theorem z8v : typeLookup (.type "list") "__getattr__" = pure none := by rw [typeLookup_type, builtinLookup_eq_fast]; kernel_rfl
theorem z7m : typeLookup (.type "tuple") "__getattr__" = pure none := by rw [typeLookup_type, builtinLookup_eq_fast]; kernel_rfl
section
variable {prog : Program} {w : World} {A : Around} {E : Value -> Shared -> Prop} {s : Shared}
theorem z8A {a : Addr} {items : Array Value} {n : Nat} {sl : Array (Option Value)} {u : Tok} {R : Result -> Shared -> Prop} (hA : A.handled = none) (ho : s.heap.get? a = some ⟨.type "list", none, .seq items n, sl⟩) (h : ∀ h' tk e, Heap.NewAttrErr s.heap h' e (.ref a) "keys" -> R (.error (.ref e)) { s with heap := h', toks := tk }) :
  wpAny (model prog w) A.in1 (Builtin.«object.__getattribute__» ⟨[.ref a, .str "keys" u], []⟩) (fun fin s' => match fin with | .done f => R (.ok f) s' | .again c' => c'.quiet = true /\ codeAny (model prog w) A c' R s') (fun e s' => R (.error e) s') s := by
 obtain ⟨hp, g, d, tk, os⟩ := s
 have hT : (⟨hp, g, d, tk, os⟩ : Shared).TypeIs (.ref a) "list" := ⟨_, ho, rfl⟩
 have f1 := z6W
 unfold Builtin.«object.__getattribute__»
 repeat (any_goals (first | assumption | wp_step))
 exact wpAny_raiseAttrError hA h (attrMsg_fits (by decide +kernel) (by decide +kernel))
theorem z7t {a : Addr} {items : Array Value} {n : Nat} {sl : Array (Option Value)} {u : Tok} {R : Result -> Shared -> Prop} (hA : A.handled = none) (ho : s.heap.get? a = some ⟨.type "tuple", none, .seq items n, sl⟩) (h : ∀ h' tk e, Heap.NewAttrErr s.heap h' e (.ref a) "keys" -> R (.error (.ref e)) { s with heap := h', toks := tk }) :
  wpAny (model prog w) A.in1 (Builtin.«object.__getattribute__» ⟨[.ref a, .str "keys" u], []⟩) (fun fin s' => match fin with | .done f => R (.ok f) s' | .again c' => c'.quiet = true /\ codeAny (model prog w) A c' R s') (fun e s' => R (.error e) s') s := by
 obtain ⟨hp, g, d, tk, os⟩ := s
 have hT : (⟨hp, g, d, tk, os⟩ : Shared).TypeIs (.ref a) "tuple" := ⟨_, ho, rfl⟩
 have f1 := z6F
 unfold Builtin.«object.__getattribute__»
 repeat (any_goals (first | assumption | wp_step))
 exact wpAny_raiseAttrError hA h (attrMsg_fits (by decide +kernel) (by decide +kernel))
theorem z6V {a : Addr} {items : Array Value} {n : Nat} {sl : Array (Option Value)} {u : Tok} {R : Result -> Shared -> Prop} (hA : A.handled = none) (ho : s.heap.get? a = some ⟨.type "list", none, .seq items n, sl⟩) (h : ∀ h' tk e, Heap.NewAttrErr s.heap h' e (.ref a) "keys" -> R (.error (.ref e)) { s with heap := h', toks := tk }) :
  codeAny (model prog w) A (.call (.builtin "list.__getattribute__") ⟨[.ref a, .str "keys" u], []⟩) R s :=
 codeAny_call_builtin F.slot_list_getattribute.plain F.entry_list_ga (F.slot_list_getattribute.check _ _ _ _ _ _ _ _ (show s.TypeIs (.ref a) "list" from ⟨_, ho, rfl⟩) (F.args_list_getattribute_2 _ _) (z8A (R := R) hA ho h))
theorem z6T {a : Addr} {items : Array Value} {n : Nat} {sl : Array (Option Value)} {Q : Option Value -> Shared -> Prop} (hA : A.handled = none) (ho : s.heap.get? a = some ⟨.type "list", none, .seq items n, sl⟩) (h : ∀ h' tk, (∀ b o, s.heap.get? b = some o -> h'.get? b = some o) -> Q none { s with heap := h', toks := tk }) :
  wpAny (model prog w) A (getAttr? (.ref a) "keys") Q E s := by
 obtain ⟨hp, g, d, tk, os⟩ := s
 have hT : ∀ tk', (⟨hp, g, d, tk', os⟩ : Shared).TypeIs (.ref a) "list" := fun _ => ⟨_, ho, rfl⟩
 have f1 := sub_AttributeError
 have f3 := F.slot_list_getattribute.lookup
 have f4 := F.slot_list_getattribute.bind (.ref a)
 have f5 := z8v
 unfold getAttr? getAttrBy? getAttrBy
 repeat (any_goals (first | assumption | exact hT _ | wp_step))
 refine z6V (s := ⟨hp, g, d, tk + 1, os⟩) hA ho fun h' tk' e hx => ?_
 obtain ⟨t', u', he⟩ := hx.there
 show wpAny _ _ (getattributeRaised _ _ _ _ _ _ _) _ _ _
 unfold getattributeRaised
 repeat (any_goals (first | assumption | wp_step))
 exact h _ _ hx.keeps
theorem z6Q {a : Addr} {items : Array Value} {n : Nat} {sl : Array (Option Value)} {u : Tok} {R : Result -> Shared -> Prop} (hA : A.handled = none) (ho : s.heap.get? a = some ⟨.type "tuple", none, .seq items n, sl⟩) (h : ∀ h' tk e, Heap.NewAttrErr s.heap h' e (.ref a) "keys" -> R (.error (.ref e)) { s with heap := h', toks := tk }) :
  codeAny (model prog w) A (.call (.builtin "tuple.__getattribute__") ⟨[.ref a, .str "keys" u], []⟩) R s :=
 codeAny_call_builtin F.slot_tuple_getattribute.plain F.entry_tuple_ga (F.slot_tuple_getattribute.check _ _ _ _ _ _ _ _ (show s.TypeIs (.ref a) "tuple" from ⟨_, ho, rfl⟩) (F.args_tuple_getattribute_2 _ _) (z7t (R := R) hA ho h))
theorem z6u {a : Addr} {items : Array Value} {n : Nat} {sl : Array (Option Value)} {Q : Option Value -> Shared -> Prop} (hA : A.handled = none) (ho : s.heap.get? a = some ⟨.type "tuple", none, .seq items n, sl⟩) (h : ∀ h' tk, (∀ b o, s.heap.get? b = some o -> h'.get? b = some o) -> Q none { s with heap := h', toks := tk }) :
  wpAny (model prog w) A (getAttr? (.ref a) "keys") Q E s := by
 obtain ⟨hp, g, d, tk, os⟩ := s
 have hT : ∀ tk', (⟨hp, g, d, tk', os⟩ : Shared).TypeIs (.ref a) "tuple" := fun _ => ⟨_, ho, rfl⟩
 have f1 := sub_AttributeError
 have f3 := F.slot_tuple_getattribute.lookup
 have f4 := F.slot_tuple_getattribute.bind (.ref a)
 have f5 := z7m
 unfold getAttr? getAttrBy? getAttrBy
 repeat (any_goals (first | assumption | exact hT _ | wp_step))
 refine z6Q (s := ⟨hp, g, d, tk + 1, os⟩) hA ho fun h' tk' e hx => ?_
 obtain ⟨t', u', he⟩ := hx.there
 show wpAny _ _ (getattributeRaised _ _ _ _ _ _ _) _ _ _
 unfold getattributeRaised
 repeat (any_goals (first | assumption | wp_step))
 exact h _ _ hx.keeps
end
theorem z42 : entryFor table "dict.update.loop" = some Builtin.«dict.update.loop» := entryFor_of_tree (by kernel_rfl)
theorem z1x : plainId "dict.update.loop" = true := by decide +kernel
section
variable {prog : Program} {w : World} {A : Around} {κ : Type} [DecidableEq κ] {kd : KeyKind prog w κ} {I : Addr} {fp wr : List Addr} {G : Array GenState -> Array GenState -> Prop} {n : Nat} {P : Nat -> Value -> Prop} {St : Nat -> Shared -> Prop}
def z83 (kd : KeyKind prog w κ) (h : Heap) (v : Value) (kv : κ × Value) (out : List Addr) : Prop := ∃ (a : Addr) (o : Obj) (T : String) (k : Value) (c : Nat), v = .ref a /\ h.get? a = some o /\ o.cls = .type T /\ (T = "list" \/ T = "tuple") /\ o.data = .seq #[k, kv.2] c /\ kd.is kv.1 k = true /\ a ∉ out
theorem z6r {R : Result -> Shared -> Prop} (W : WalksS prog w A.in1 I fp wr G n P St) {d : Addr} (out : d ∉ fp) {h0 : Heap} {vs : List (κ × Value)} (lk : vs.length = n)
  (vals : ∀ i v, P i v -> ∃ kv, vs[i]? = some kv /\ z83 kd h0 v kv (d :: wr)) (few : n ≤ 1000) :
  ∀ (todo i : Nat) (s : Shared), i + todo = n -> St i s -> s.heap.DictOf kd d (merged [] (vs.take i)) -> (∀ b o, b ∉ d :: wr -> h0.get? b = some o -> s.heap.get? b = some o) ->
   (∀ s', Moved (d :: wr) G s s' -> s'.heap.DictOf kd d (merged [] vs) -> R (.ok (.ret .none)) s') -> codeAny (model prog w) A (.builtin "dict.update.loop" ⟨[.ref d, .ref I, rawInt i, .none], []⟩) R s
 | 0, i, s, ei, st, sx, kp, fin => by
  have e : vs.take i = vs := List.take_of_length_le (by omega)
  rw [e] at sx
  have ei' : i = n := by omega
  subst ei'
  refine codeAny_builtin z42 ?_
  rw [Around.under_plainId z1x _]
  refine wpAny_bind (W.done s _ _ st fun s' mv => wpAny_bind (wpAny_pure (wpAny_pure (fin s' (mv.mono fun b hb => .tail _ hb) (sx.at fun o => mv.heap d o fun q => out (W.sub _ q))))))
 | todo + 1, i, s, ei, st, sx, kp, fin => by
  refine codeAny_builtin z42 ?_
  rw [Around.under_plainId z1x _]
  refine wpAny_bind (W.item i s _ _ (by omega) st fun v s1 hv st1 mv => ?_)
  obtain ⟨⟨key, y⟩, ek, a, o, T, k, c, rfl, ho, hc, hT, hd, ik, na⟩ := vals i v hv
  have sx1 := sx.at (h' := s1.heap) fun o => mv.heap d o fun q => out (W.sub _ q)
  have ho1 : s1.heap.get? a = some o := mv.heap a o (fun q => na (.tail _ q)) (kp a o na ho)
  have ty : s1.TypeIs (.ref a) T := ⟨o, ho1, hc⟩
  refine wpAny_bind (wpAny_holding (m := (Builtin.Dict.pairItems (.ref a)).tryCatch _ >>= _) (wpAny_bind (wpAny_tryCatch ?_)))
  unfold Builtin.Dict.pairItems
  refine wpAny_bind (wpAny_typeOf ty ?_)
  rw [if_pos (by rcases hT with rfl | rfl <;> decide)]
  refine wpAny_bind (wpAny_seqItems ho1 hd (wpAny_pure ?_))
  show wpAny _ _ (holding [k, y] (dictSet d k y)) _ _ _
  have lm := merged_length_le [] (vs.take i)
  rw [List.length_take, List.length_nil] at lm
  refine wpAny_holding (wpAny_dictSet_pairs (hsz := by rw [sizeLine_eq]; omega) ik sx1 fun h2 sx2 sb => ?_)
  rw [<- merged_take_succ [] vs i (key, y) ek] at sx2
  have far : ∀ b, b ≠ d -> h2.get? b = s1.heap.get? b := fun b hb => sb.2 b hb
  refine wpAny_pure ⟨plainId_quiet z1x _, z6r W out lk vals few todo (i + 1) _ (by omega) (W.frame _ s1 _ _ st1 (Nat.le_succ _) fun b hb o q => ?_) sx2 (fun b o nb q => ?_) fun s3 mv3 sx4 => ?_⟩
  ·rw [far b fun z => out (z ▸ hb)]; exact q
  ·rw [far b fun z => nb (z ▸ .head _)]
   exact mv.heap b o (fun q => nb (.tail _ q)) (kp b o nb q)
  ·refine fin s3 (.trans W.gtrans ((mv.mono fun b hb => .tail _ hb).then_heap (Nat.le_succ _) fun b o hb q => ?_) mv3) sx4
   rw [far b fun z => hb (z ▸ .head _)]; exact q
end
section
variable {prog : Program} {w : World} {A : Around} {E : Value -> Shared -> Prop} {s : Shared} {κ : Type} [DecidableEq κ] {kd : KeyKind prog w κ}
theorem y4u {T : String} {p : Addr} {its : Array Value} {c0 : Nat} {sl : Array (Option Value)} {vs : List (κ × Value)} {Q : Value -> Shared -> Prop} (hh : A.handled = none) (hp : s.heap.get? p = some ⟨.type T, none, .seq its c0, sl⟩) (hT : T = "list" \/ T = "tuple")
  (lk : vs.length = its.size) (vals : ∀ (i : Nat) v, its[i]? = some v -> ∃ kv, vs[i]? = some kv /\ z83 kd s.heap v kv []) (few : its.size ≤ 1000) (nd : (vs.map (·.1)).Nodup)
  (fin : ∀ (h' : Heap) (t : Nat), h'.DictOf kd s.heap.objs.size vs -> (∀ b u, s.heap.get? b = some u -> h'.get? b = some u) -> Q (.ref s.heap.objs.size) { s with heap := h', toks := t }) :
  wpAny (model prog w) A (call (.type "dict") [.ref p]) Q E s := by
 refine callType_codes (Q₁ := fun obj s₁ => obj = .ref s.heap.objs.size /\ s₁ = { s with heap := s.heap.push { cls := .type "dict", data := .dict #[] } }) PySem.F.kt_called_dict (PySem.F.kt_typeCall_dict_1 _) F.entry_dict_init (kt_code_dict_new _ ⟨rfl, rfl⟩) ?_
 rintro obj s₁ ⟨rfl, rfl⟩
 have hnew : (s.heap.push { cls := .type "dict", data := .dict #[] }).DictOf kd s.heap.objs.size [] := Heap.DictOf.new s.heap
 have hp1 : (s.heap.push { cls := .type "dict", data := .dict #[] }).get? p = some ⟨.type T, none, .seq its c0, sl⟩ := Heap.get?_push_of_some _ hp
 have hpl : p < s.heap.objs.size := Heap.lt_size hp
 refine ⟨hnew.typeIs, F.args_dict_init_2 _ _, ?_⟩
 unfold Builtin.«dict.__init__»
 refine wpAny_bind ?_
 unfold Builtin.Dict.selfAndRest
 refine wpAny_bind (wpAny_notOrdered_dict hnew.typeIs ?_)
 show wpAny _ _ (pure (s.heap.objs.size, [Value.ref p])) _ _ _
 refine wpAny_pure ?_
 show wpAny _ _ (Builtin.Dict.updateFrom "dict.__init__" s.heap.objs.size (.ref p) [] .none) _ _ _
 unfold Builtin.Dict.updateFrom
 refine wpAny_bind (wpAny_typeOf (T := T) ⟨_, hp1, rfl⟩ ?_)
 rw [if_pos (by rcases hT with rfl | rfl <;> decide)]
 have main : ∀ (h1 : Heap) (tk : Nat), (∀ b o, (s.heap.push { cls := .type "dict", data := .dict #[] }).get? b = some o -> h1.get? b = some o) ->
   wpAny (model prog w) A.in1.in1 (do
    rule (toString "dict.__init__" ++ toString ".from-pairs")
    return <- again (.builtin "dict.update.loop" ⟨[.ref s.heap.objs.size, <- pyIter (.ref p), rawInt 0, .none], []⟩))
    (fun fin s' => match fin with | .done f => wants (fun r s₂ => r = .none /\ Q (.ref s.heap.objs.size) s₂) E (.ok f) s' | .again c' => c'.quiet = true /\ codeAny (model prog w) A.in1 c' (wants (fun r s₂ => r = .none /\ Q (.ref s.heap.objs.size) s₂) E) s')
    (fun e s' => wants (fun r s₂ => r = .none /\ Q (.ref s.heap.objs.size) s₂) E (.error e) s') { s with heap := h1, toks := tk } := by
  intro h1 tk k1
  have hd1 := hnew.keep k1
  have dlt : s.heap.objs.size < h1.objs.size := by
   obtain ⟨_, _, _, e, _⟩ := hd1
   exact Heap.lt_size e
  have hp2 := k1 _ _ hp1
  have apart : p ≠ h1.objs.size := Nat.ne_of_lt (Heap.lt_size hp2)
  have out : s.heap.objs.size ∉ [h1.objs.size, p] := by rw [List.mem_cons, List.mem_singleton]; exact fun z => z.elim (Nat.ne_of_lt dlt) (Nat.ne_of_gt hpl)
  have hh2 : A.in1.in1.handled = none := by simp [hh]
  have nin : ∀ {b : Addr} {o : Obj}, s.heap.get? b = some o -> b ∉ [s.heap.objs.size, h1.objs.size] := fun e m => by
   have hb := Heap.lt_size e
   rcases List.mem_cons.mp m with z | z
   ·exact absurd hb (by rw [z]; exact Nat.lt_irrefl _)
   ·rw [List.mem_singleton] at z
    exact absurd (Nat.lt_trans hb dlt) (by rw [z]; exact Nat.lt_irrefl _)
  have vals' : ∀ (i : Nat) v, its[i]? = some v -> ∃ kv, vs[i]? = some kv /\ z83 kd s.heap v kv [s.heap.objs.size, h1.objs.size] := fun i v hv => by
   obtain ⟨kv, e, a, o, T, k, c, e1, e2, e3, e4, e5, e6, _⟩ := vals i v hv
   exact ⟨kv, e, a, o, T, k, c, e1, e2, e3, e4, e5, e6, nin e2⟩
  have ends : ∀ (x : Obj) (s' : Shared), Moved [s.heap.objs.size, h1.objs.size] (fun a b => b = a) { s with heap := h1.push x, toks := tk } s' -> s'.heap.DictOf kd s.heap.objs.size (merged [] vs) -> Q (.ref s.heap.objs.size) s' := fun x s' mv sx => by
   obtain ⟨h', g', d', t', o'⟩ := s'
   obtain rfl : g' = s.gens := mv.gens
   obtain rfl : d' = s.drawn := mv.drawn
   obtain rfl : o' = s.os := mv.os
   rw [merged_nil_of_nodup vs nd] at sx
   exact fin h' t' sx fun b u q => mv.heap b u (nin q) (Heap.get?_push_of_some _ (k1 _ _ (Heap.get?_push_of_some _ q)))
  refine wpAny_bind (wpAny_rule ?_)
  rcases hT with rfl | rfl
  ·have hl : h1.IsList p its := ⟨_, hp2, rfl, c0, rfl⟩
   refine wpAny_bind (wpAny_pyIter_list hl (wpAny_pure ⟨plainId_quiet z1x _, ?_⟩))
   exact z6r (kd := kd) ((Walks.list hh2 _ p apart its).toS) out (h0 := s.heap) lk vals' few its.size 0 _ (Nat.zero_add _) ⟨⟨_, Heap.get?_push_size _ rfl, rfl, rfl⟩, hl.push _⟩ (by rw [List.take_zero]; exact hd1.push _) (fun b o _ q => Heap.get?_push_of_some _ (k1 _ _ (Heap.get?_push_of_some _ q))) fun s' mv sx => ⟨rfl, ends _ s' mv sx⟩
  ·have hl : h1.IsTuple p its := ⟨_, hp2, rfl, c0, rfl⟩
   refine wpAny_bind (wpAny_pyIter_tuple hl (wpAny_pure ⟨plainId_quiet z1x _, ?_⟩))
   exact z6r (kd := kd) ((Walks.tuple hh2 _ p apart its).toS) out (h0 := s.heap) lk vals' few its.size 0 _ (Nat.zero_add _) ⟨⟨_, Heap.get?_push_size _ rfl, rfl, rfl⟩, hl.push _⟩ (by rw [List.take_zero]; exact hd1.push _) (fun b o _ q => Heap.get?_push_of_some _ (k1 _ _ (Heap.get?_push_of_some _ q))) fun s' mv sx => ⟨rfl, ends _ s' mv sx⟩
 have hh2 : A.in1.in1.handled = none := by simp [hh]
 rcases hT with rfl | rfl
 ·refine wpAny_bind (z6T hh2 hp1 fun h1 tk k1 => ?_)
  exact main h1 tk k1
 ·refine wpAny_bind (z6u hh2 hp1 fun h1 tk k1 => ?_)
  exact main h1 tk k1
end
section
variable {X : Cx}
def y2O (K : PySem.W.Frag) (H : Hp) (u : V) (kv : Key × V) : Prop := ∃ a, u = .ref a /\ (SqL K H a [kV kv.1, kv.2] \/ SqT K H a [kV kv.1, kv.2])
def SqP (K : PySem.W.Frag) (H : Hp) (p : Addr) (ys : List V) : Prop := SqL K H p ys \/ H p = some (.tup ys)
def y3X (K : PySem.W.Frag) : List V -> Hp -> VK -> Prop := fun xs H Q => ∃ p ys kvs, xs = [.ref p] /\ SqP K H p ys /\ Paired (y2O K H) ys kvs /\ ys.length ≤ 1000 /\ (kvs.map (·.1)).Nodup /\ ∀ l, H l = none -> Q (.ref l) (upd H l (.dK kvs))
theorem z6Y {pins : List (Addr × Obj)} {σ : St} {H : Hp} {s : Shared} (I : Inv X pins σ H s) : ∀ {ys : List V} {kvs : List (Key × V)} {its : List Value}, Paired (y2O X.K H) ys kvs -> Vals ys its ->
  ∃ vs, KV kvs vs /\ vs.length = its.length /\ ∀ (i : Nat) v, its[i]? = some v -> ∃ kv, vs[i]? = some kv /\ z83 (z1d X.prog X.w) s.heap v kv []
 | _, _, _, .nil, .nil => ⟨[], .nil, rfl, fun i v h => by simp at h⟩
 | _ :: ys, kv :: kvs, _ :: its, .cons ⟨a, e, hq⟩ t, .cons r rr => by
  obtain ⟨vs, k1, l1, p1⟩ := z6Y I t rr
  subst e
  cases r
  have go : ∀ (T : String) (o : Obj) (us : List Value) (c : Nat), s.heap.get? a = some o -> o.cls = .type T -> (T = "list" \/ T = "tuple") -> o.data = .seq us.toArray c -> Vals [kV kv.1, kv.2] us ->
    ∃ vs', KV (kv :: kvs) vs' /\ vs'.length = (Value.ref a :: its).length /\ ∀ (i : Nat) v, (Value.ref a :: its)[i]? = some v -> ∃ kv, vs'[i]? = some kv /\ z83 (z1d X.prog X.w) s.heap v kv [] := fun T o us c h1 h2 h3 h4 h5 => by
   obtain ⟨u1, u2, rfl, r1, r2⟩ := y2X h5
   refine ⟨(kv.1, u2) :: vs, .cons ⟨rfl, r2⟩ k1, by rw [List.length_cons, List.length_cons, l1], fun i v hv => ?_⟩
   cases i with
   | zero =>
    simp at hv
    subst hv
    exact ⟨_, rfl, a, o, T, u1, c, rfl, h1, h2, h3, by simpa using h4, y1m r1, by simp⟩
   | succ i => exact p1 i v (by simpa using hv)
  rcases hq with hq | hq
  ·obtain ⟨us, rv, pl, _⟩ := I.list hq
   obtain ⟨o, ho, hcl, n, hda⟩ := pl.isList
   exact go "list" o us n ho hcl (.inl rfl) hda rv
  ·obtain ⟨us, rv, pl, _⟩ := I.tuple hq
   obtain ⟨o, ho, hcl, n, hda⟩ := pl
   exact go "tuple" o us n ho hcl (.inr rfl) hda rv
theorem z5y {K : PySem.W.Frag} (hK : X.K = K) (hc : X.calm = true) : z3c X (.type "dict") (y3X K) := by
 subst hK
 intro pins s σ H xs us Q I r h
 obtain ⟨p, ys, kvs, rfl, hq, pr, hl, nd, q⟩ := h
 obtain ⟨u, rfl, rx⟩ := z3r r
 cases rx
 have go : ∀ (T : String) (its : List Value) (c0 : Nat) (sl : Array (Option Value)), s.heap.get? p = some ⟨.type T, none, .seq its.toArray c0, sl⟩ -> (T = "list" \/ T = "tuple") -> Vals ys its -> wpAny (model X.prog X.w) X.A (call (.type "dict") [.ref p]) (EP X pins σ Q) X.xe s :=
  fun T its c0 sl ho hT rv => by
   obtain ⟨vs, k1, l1, p1⟩ := z6Y I pr rv
   have ln : ys.length = its.length := rv.length
   refine y4u (kd := z1d X.prog X.w) (vs := vs) (I.ok.hd hc) ho hT (by simpa using l1) (fun i v hv => p1 i v (by simpa using hv)) (by simp; omega) (by rw [<- k1.keys]; exact nd) fun h' t dd kp => ?_
   have big := I.big
   refine ⟨.ref s.heap.objs.size, _, I.laid (a := s.heap.objs.size) (o := .dK kvs) (h' := h') (t' := t) kp (Nat.le_refl _) (y3O ?_ ?_ k1 dd), rfl, q _ (I.hok.fresh (Nat.le_refl _))⟩
   ·have := k1.length
    rw [sizeLine_eq]
    omega
   ·exact beq_false_of_ne (Nat.ne_of_gt big)
 rcases hq with hq | hq
 ·obtain ⟨its, rv, pl, _⟩ := I.list hq
  obtain ⟨o, n, ho, hcl, hdi, hda⟩ := pl
  obtain ⟨oc, od, oa, os⟩ := o
  simp only at hcl hdi hda
  subst hcl hdi hda
  exact go "list" its n os ho (.inl rfl) rv
 ·obtain ⟨_, its, rv, o, ho, hcl, ⟨n, hda⟩, hdi⟩ := (show z1a X.prog X.w H s.heap p (.tup ys) from I.hok p _ hq)
  obtain ⟨oc, od, oa, os⟩ := o
  simp only at hcl hdi hda
  subst hcl hdi hda
  exact go "tuple" its n os ho (.inr rfl) rv
end
def SqS (K : PySem.W.Frag) (t : Bool) (H : Hp) (a : Addr) (xs : List V) : Prop := if t then SqL K H a xs else SqT K H a xs
theorem SqS.of {K : PySem.W.Frag} {H : Hp} {a : Addr} {xs : List V} (h : SqL K H a xs \/ SqT K H a xs) : ∃ t, SqS K t H a xs := h.elim (fun q => ⟨true, q⟩) fun q => ⟨false, q⟩
theorem SqS.keep {K : PySem.W.Frag} {t : Bool} {H H' : Hp} {a : Addr} {xs : List V} (s : Same H H') (h : SqS K t H a xs) : SqS K t H' a xs := by
 cases t
 ·rcases (show SqT K H a xs from h) with (h | ⟨o, h⟩) | h
  ·exact .inl (.inl (s _ _ h))
  ·exact .inl (.inr ⟨o, s _ _ h⟩)
  ·exact .inr h
 ·exact s.seq (show SqL K H a xs from h)
def Its (K : PySem.W.Frag) (t : Bool) (a : Addr) : It := if t then Itl K a else Itt K a
section
variable {X : Cx} {tg : Expr}
def iSeq (K : PySem.W.Frag) (tl : TE) : TI := fun σ H R => tl σ H fun x H1 => ∃ a t, x = .ref a /\ (∃ xs, SqS K t H1 a xs) /\ R (Its K t a) H1
theorem y1T {l : Expr} {tl : TE} (hl : PE X l tl) : PI X tg l (iSeq X.K tl) := by
 intro pins s σ H R I h
 refine thn (hl pins s σ H _ I h) fun v s1 ⟨x, H1, I1, r1, q1⟩ => ?_
 obtain ⟨a, t, e, ⟨xs, hq⟩, q⟩ := q1
 subst e
 cases r1
 cases t
 ·obtain ⟨its, rv, p, hz⟩ := I1.tuple hq
  refine wpAny_pyIter_tuple (show s1.heap.IsTuple a its.toArray from p) ?_
  refine ⟨s1.heap.objs.size, [s1.heap.objs.size], _, _, H1, rfl, I1.kept (t' := s1.toks) fun b o e => Heap.get?_push_of_some _ e, z7e a _, ⟨_, Heap.get?_push_size _ rfl, rfl, rfl⟩, fun b hb => ?_, q⟩
  have e : b = s1.heap.objs.size := by simpa using hb
  subst e
  exact I1.fpOk (Nat.le_refl _) (I1.hok.fresh (Nat.le_refl _))
 ·obtain ⟨its, rv, p, hz⟩ := I1.list hq
  refine wpAny_pyIter_list p.isList ?_
  refine ⟨s1.heap.objs.size, [s1.heap.objs.size], _, _, H1, rfl, I1.kept (t' := s1.toks) fun b o e => Heap.get?_push_of_some _ e, z8e a _, ⟨_, Heap.get?_push_size _ rfl, rfl, rfl⟩, fun b hb => ?_, q⟩
  have e : b = s1.heap.objs.size := by simpa using hb
  subst e
  exact I1.fpOk (Nat.le_refl _) (I1.hok.fresh (Nat.le_refl _))
end
theorem z9q {K : PySem.W.Frag} {t : Bool} {a : Addr} {xs : List V} {g : TG} {tc : TT} {te : TE} {σ0 : St} {H1 : Hp} {F : List V -> Hp -> Prop} (Pv : Nat -> List V -> Hp -> Prop) (h0 : Pv 0 [] H1)
  (hl : ∀ i ys H, i ≤ xs.length -> Pv i ys H -> SqS K t H a xs /\ ys.length < sizeLine)
  (hs : ∀ i x ys H, xs[i]? = some x -> Pv i ys H -> z18 g tc te σ0 x H ys (Pv (i + 1))) (hd : ∀ ys H, Pv xs.length ys H -> F ys H) : z7x (Its K t a) g tc te σ0 H1 F := by
 cases t
 ·exact z21 Pv h0 hl hs hd
 ·exact z2P Pv h0 hl hs hd
theorem y4k {K : PySem.W.Frag} {t : Bool} {a : Addr} {xs : List V} {g : TG} {tb : TS} {D : Ends} {σ : St} {H : Hp} (Pv : Nat -> St -> Hp -> Prop) (h0 : Pv 0 σ H) (hl : ∀ i σ H, i ≤ xs.length -> Pv i σ H -> SqS K t H a xs)
  (hs : ∀ i x σ H, xs[i]? = some x -> Pv i σ H -> g x σ H fun σ2 H2 => tb { D with nx := Pv (i + 1), ct := Pv (i + 1), bk := D.nx } σ2 H2) (hd : ∀ σ H, Pv xs.length σ H -> D.nx σ H) :
  ∃ W : Nat -> Nat -> St -> Hp -> Prop, (∃ m, W 0 m σ H) /\ ∀ i m σ H, W i m σ H ->
   ((Its K t a).stop i H /\ D.nx σ H) \/ ((Its K t a).go i H /\ ∃ N : St -> Hp -> Prop, (∀ σ' H', N σ' H' -> ∃ m', m' < m /\ W (i + 1) m' σ' H') /\ ∀ x H', (Its K t a).yld i H x H' -> g x σ H' fun σ2 H2 => tb { D with nx := N, ct := N, bk := D.nx } σ2 H2) := by
 cases t
 ·exact z7I Pv h0 hl hs hd
 ·exact z1I Pv h0 hl hs hd
section
variable {prog : Program} {w : World} {A : Around} {E : Value -> Shared -> Prop}
theorem z89 {it t : Addr} {items : Array Value} (hne : t ≠ it) : ∀ (n i : Nat) (s : Shared) (Q : List Value -> Shared -> Prop), s.heap.IsListIter it t i -> s.heap.IsList t items -> i + n ≤ items.size ->
  (∀ h', h'.IsListIter it t (i + n) -> Heap.SameBut it s.heap h' -> Q ((items.toList.drop i).take n) { s with heap := h' }) -> wpAny (model prog w) A (draw (.ref it) n) Q E s
 | 0, i, s, Q, hit, _, _, hQ => by
  show wpAny _ _ (pure []) Q E s
  exact wpAny_pure (by simpa using hQ s.heap hit (Heap.SameBut.refl ..))
 | n + 1, i, s, Q, hit, ht, hle, hQ => by
  have hlt : i < items.size := by omega
  show wpAny _ _ (pyNext (.ref it) >>= _) Q E s
  refine wpAny_bind (wpAny_pyNext_list_item hit ht (x := items[i]) (by simp [hlt]) fun h₁ hit₁ hs₁ => ?_)
  refine wpAny_bind (wpAny_holding (z89 hne n (i + 1) _ _ hit₁ (ht.at fun o e => (hs₁.2 t hne).trans e) (by omega) fun h₂ hit₂ hs₂ => wpAny_pure ?_))
  have hd : items.toList.drop i = items[i] :: items.toList.drop (i + 1) := by simp [List.drop_eq_getElem_cons, hlt]
  have := hQ h₂ (by rw [show i + (n + 1) = i + 1 + n by omega]; exact hit₂) (hs₁.trans hs₂)
  rw [hd, List.take_succ_cons] at this
  exact this
theorem z90 {s : Shared} {t : Addr} {items : Array Value} {Q : List Value -> Shared -> Prop} (hh : A.handled = none) (ht : s.heap.IsList t items)
  (hQ : ∀ h', Heap.ExtBut s.heap.objs.size s.heap h' -> Q items.toList { s with heap := h' }) : wpAny (model prog w) A (unpackItems (.ref t) items.size none) Q E s := by
 have hlt : t ≠ s.heap.objs.size := by obtain ⟨o, ho, _⟩ := ht; exact Nat.ne_of_lt (Heap.lt_size ho)
 unfold unpackItems
 refine wpAny_bind ?_
 unfold notIterableAtAll
 refine wpAny_bind (wpAny_specialOf ht.typeIs PySem.F.slot_list_iter.lookup ?_)
 refine wpAny_pure ?_
 simp only [Bool.false_eq_true, if_false]
 refine wpAny_bind (wpAny_holding (wpAny_pyIter_list ht ?_))
 refine wpAny_bind (wpAny_holding (z89 hlt items.size 0 _ _ ⟨_, Heap.get?_push_size _ rfl, rfl, rfl⟩ (ht.push _) (by omega) fun h₁ hit₁ hs₁ => ?_))
 have hall : List.take items.size (List.drop 0 items.toList) = items.toList := by
  rw [List.drop_zero]; exact List.take_of_length_le (by simp)
 rw [hall]
 rw [if_neg (by simp)]
 have ht₁ : h₁.IsList t items := (ht.push _).at fun o e => (hs₁.2 t hlt).trans e
 refine wpAny_bind (wpAny_holding (wpAny_pyNext_list_end hh hit₁ ht₁ (by simp) fun h₂ he₂ => ?_))
 simp only [Option.isSome_none, Bool.false_eq_true, if_false]
 exact wpAny_pure (hQ h₂ fun b o hb e => he₂ b o hb (hs₁.extBut b o hb (Heap.get?_push_of_some _ e)))
theorem z5c {s : Shared} {env : Env} {elts : List Expr} {x1} {pos : Pos} {t : Addr} {items : Array Value} {Q : Unit -> Shared -> Prop} (hh : A.handled = none) (ht : s.heap.IsList t items)
  (hn : (assignEach elts env).length = items.size) (hstar : (assignEach elts env).findIdx? (·.1) = none)
  (h : ∀ h', Heap.ExtBut s.heap.objs.size s.heap h' -> wpAny (model prog w) A (assignInOrder ((assignEach elts env).map (·.2)) items.toList) Q E { s with heap := h' }) :
  wpAny (model prog w) A (assign (.Tuple elts x1 pos) env (.ref t)) Q E s := by
 rw [assign_Tuple]
 refine wpAny_bind (wpAny_standAt ?_)
 unfold unpack
 rw [hn, hstar]
 exact wpAny_bind (wpAny_holding (z90 hh ht h))
end
def gSeq (K : PySem.W.Frag) (n : Nat) (t : TGs) : TG := fun v σ H Q => ∃ a xs, v = .ref a /\ (SqL K H a xs \/ SqT K H a xs) /\ xs.length = n /\ t xs σ H Q
theorem y2r {X : Cx} {K : PySem.W.Frag} {es : List Expr} {k : Nat} {t : TGs} {n : Nat} {pos : Pos} (hK : X.K = K) (hc : X.calm = true) (h : PGs X es t)
  (hn : (assignEach es X.env).length = n := by rfl) (hst : (assignEach es X.env).findIdx? (·.1) = none := by rfl) : PG X (.Tuple es k pos) (gSeq K n t) := by
 subst hK
 intro pins s σ H v u Q I r hw
 obtain ⟨a, xs, e1, hq, hl, hw⟩ := hw
 subst e1
 cases r
 rcases hq with hq | hq
 ·obtain ⟨its, rv, ht, hz⟩ := I.list hq
  refine z5c (I.ok.hd hc) ht.isList (by simp [hn, <- hl, rv.length]) hst fun h' hx => ?_
  have I1 : Inv X pins σ H { s with heap := h' } := I.kept (t' := s.toks) fun b o e => hx b o (Nat.ne_of_lt (Heap.lt_size e)) e
  exact h pins _ σ H xs _ Q I1 (by simpa using rv) hw
 ·obtain ⟨its, rv, ht, hz⟩ := I.tuple hq
  refine assign_Tuple_tuple (I.ok.hd hc) ht (by simp [hn, <- hl, rv.length]) hst fun h' hx => ?_
  have I1 : Inv X pins σ H { s with heap := h' } := I.kept (t' := s.toks) fun b o e => hx b o (Nat.ne_of_lt (Heap.lt_size e)) e
  exact h pins _ σ H xs _ Q I1 (by simpa using rv) hw
theorem y2R {K : PySem.W.Frag} {n : Nat} {t : TGs} (a : z7d t) : z8d (gSeq K n t) := fun v σ H Q Q' f q => by
 obtain ⟨p, xs, e, h1, h2, q⟩ := q
 exact ⟨p, xs, e, h1, h2, a _ _ _ _ _ f q⟩
theorem y43 {K : PySem.W.Frag} {n k : Nat} {t : TGs} (a : y2c n t) : OwnG n (gSeq K k t) := fun v σ H Q q => by
 obtain ⟨p, xs, e, h1, h2, q⟩ := q
 exact ⟨p, xs, e, h1, h2, a _ _ _ _ q⟩
section
variable {X : Cx}
end
structure FunD (K : PySem.W.Frag) (x qual : Str) (st : Stmt) (f : Addr) (fd : FuncData) (T : Addr) (items : Array Value) : Prop where
 ex : ∃ (oc : Value) (od : Option Addr) (kV doc pm : Value) (an : Option Addr) (cdv ct : Value) (osl : Array (Option Value)),
  fd = PySem.W.fnOf x qual (z1c st) (z10 st) (z06 st) (.ref T) kV doc pm an cdv ct /\ K.lookup f = some ⟨oc, od, .func fd, osl⟩ /\ PySem.W.codeIn K cdv qual = true
 kp : PySem.W.keepIn K (.ref f) = true
 dt : ∃ (o : Obj) (n : Nat), K.lookup T = some o /\ o.data = .seq items n
section
variable {P : Program} {w : World} {K : PySem.W.Frag} {mg : Str -> Option Value} {base : Heap}
theorem FunD.ok {x qual : Str} {st : Stmt} {f T : Addr} {items : Array Value} {fd : FuncData} {N ps : List Str} {k : Nat} {sp : Sp} (F : FunD K x qual st f fd T items) (S : FnScope N ps (z06 st)) (len : ∀ vs H Q E, sp vs H Q E -> vs.length = ps.length)
  (hbody : ∀ (cdv : Value) (A : Around) (outer : List Env) (s : Shared) (H : Hp) (vs : List V) (Q : VK) (E : XK), Room k (A.deeper (envOfC qual (z06 st) s.heap.objs.size f cdv)) -> sp vs H Q E ->
   ∃ t, PSs (cxOf CX0 P w K mg base N qual (z06 st) f cdv A outer s H E).nox (z10 st) t /\ t { nx := fun _ H' => Q .non H', rt := Q } (z5t N vs) H) : FnOk P w K mg base CX0 (k + 1) f fd ps sp := by
 obtain ⟨oc, od, kV, doc, pm, an, cdv, ct, osl, rfl, lk, hcd⟩ := F.ex
 refine y5n lk hcd S len fun A outer s H vs Q E hr hsp => ?_
 obtain ⟨t, h, q⟩ := hbody cdv A outer s H vs Q E hr hsp
 exact ⟨t, h.nox, q⟩
theorem FunD.binds {x qual : Str} {st : Stmt} {f T : Addr} {items : Array Value} {fd : FuncData} {ps : List Str} {ds : List Value} (F : FunD K x qual st f fd T items)
  (h : ∀ (kV doc pm : Value) (an : Option Addr) (cdv ct : Value) (us : List Value), us.length + ds.length = ps.length -> ∃ k, bindArgs (PySem.W.fnOf x qual (z1c st) (z10 st) (z06 st) (.ref T) kV doc pm an cdv ct) ⟨us, []⟩ = seqItems? (.ref T) >>= k /\ k (some items) = pure (ps.zip (us ++ ds))) : z1J K fd ps ds := by
 obtain ⟨oc, od, kV, doc, pm, an, cdv, ct, osl, rfl, lk, hcd⟩ := F.ex
 obtain ⟨o, n, lt, hs⟩ := F.dt
 intro s us KX hl
 rw [List.length_append] at hl
 obtain ⟨k, h1, h2⟩ := h kV doc pm an cdv ct us hl
 exact .of_defaults rfl (KX _ _ lt) hs h1 h2
theorem y4i {x qual : Str} {st : Stmt} {f T : Addr} {oc oct : Value} {od odt an : Option Addr} {osl oslt : Array (Option Value)} {items : Array Value} {n : Nat} {kV doc pm cdv ct : Value} (l : K.lookup f = some ⟨oc, od, .func (PySem.W.fnOf x qual (z1c st) (z10 st) (z06 st) (.ref T) kV doc pm an cdv ct), osl⟩)
  (lt : K.lookup T = some ⟨oct, odt, .seq items n, oslt⟩) (c : PySem.W.codeIn K cdv qual = true) (k : PySem.W.keepIn K (.ref f) = true) : FunD K x qual st f (PySem.W.fnOf x qual (z1c st) (z10 st) (z06 st) (.ref T) kV doc pm an cdv ct) T items := ⟨⟨oc, od, kV, doc, pm, an, cdv, ct, osl, rfl, l, c⟩, k, _, n, lt, rfl⟩
end
structure MCalD (P : Program) (w : World) (K : PySem.W.Frag) (mg : Str -> Option Value) (base : Heap) (k : Nat) (C : Addr) (m : Str) (ps : List Str) (sp : Sp) (dvs : List V) : Prop where
 cl : Cls K C
 ex : ∃ (f : Addr) (fd : FuncData) (ds : List Value), FnOk P w K mg base CX0 k f fd ps sp /\ z1J K fd ps ds /\ Vals dvs ds /\ Meth K C m f
theorem MCalD.mk' {P : Program} {w : World} {K : PySem.W.Frag} {mg : Str -> Option Value} {base : Heap} {k : Nat} {C : Addr} {m : Str} {ps : List Str} {sp : Sp} {dvs : List V} {ds : List Value} {f : Addr} {fd : FuncData} (v : Vals dvs ds) (c : Cls K C) (a : FnOk P w K mg base CX0 k f fd ps sp) (b : z1J K fd ps ds) (d : Meth K C m f) :
  MCalD P w K mg base k C m ps sp dvs := ⟨c, f, fd, ds, a, b, v, d⟩
theorem MCalD.mono {P : Program} {w : World} {K : PySem.W.Frag} {mg : Str -> Option Value} {base : Heap} {j k : Nat} {C : Addr} {m : Str} {ps : List Str} {sp : Sp} {dvs : List V} (G : MCalD P w K mg base j C m ps sp dvs) (h : j ≤ k) : MCalD P w K mg base k C m ps sp dvs := by
 obtain ⟨f, fd, ds, a, b, v, c⟩ := G.ex
 exact ⟨G.cl, f, fd, ds, a.mono h, b, v, c⟩
theorem z9I {X : Cx} {k : Nat} {C : Addr} {m : Str} {ps : List Str} {sp : Sp} {dvs : List V} {o e : Expr} {es : List Expr} {ta : TE} {t : TA} {pos apos : Pos} {pl : Sem Bool} (G : MCalD X.prog X.w X.K X.mg X.base k C m ps sp dvs) (hr : Room k X.A) (he : PE X o ta) (ha : PA X (e :: es) t)
  (hst : starEach (e :: es) X.env = (false, eval e X.env) :: starEach es X.env := by rfl) (hpl : (backTo pos (starEach es X.env)).any (·.1) = false := by rfl)
  (ht : eval (.Call (.Attribute o m apos) (e :: es) [] pos) X.env = (do
   let ov <- eval o X.env
   standAt apos.atName
   let (f, first) <- holding [ov] (getMethod ov m pl)
   callWith pos f first (backTo pos (starEach (e :: es) X.env)) (backToKw pos (keywordEach [] X.env))) := by rfl) :
  PE X (.Call (.Attribute o m apos) (e :: es) [] pos) (y2e C m sp dvs E0 ta t) := by
 obtain ⟨f, fd, ds, a, b, v, d⟩ := G.ex
 exact y0Z he G.cl d a hr b v y1z ha hst hpl ht
end L2
namespace HT
open PySem PySem.Spec PyProof.Rows L2
section
variable {prog : Program} {w : World} {A : Around} {E : Value -> Shared -> Prop} {s : Shared}
theorem z5q {t sl : Addr} {items : Array Value} {vl vu : Value} {lo hi : Option Int} {Q : Value -> Shared -> Prop} (ht : IsTup s.heap t items) (hs : s.heap.IsSliceOf sl vl vu .none) (pl : IsPart vl lo) (pu : IsPart vu hi)
  (hw : sIx items.size 0 lo = 0 /\ sIx items.size items.size hi = items.size) (h : Q (.ref t) s) : wpAny (model prog w) A (getItem (.ref t) (.ref sl)) Q E s := by
 obtain ⟨os, hos, hcs, hds⟩ := id hs
 have hTs : s.TypeIs (.ref sl) "slice" := ⟨os, hos, hcs⟩
 unfold getItem
 try with_reducible refine wpAny_holding ?_
 first | refine wpAny_bind (wpAny_pure ?_) | skip
 refine wpAny_bind (wpAny_sequenceKey ht.typeIs (by decide) ?_)
 refine wpAny_bind (wpAny_callSpecial?_slot (name := Str.ofString "__getitem__") ht.typeIs PyProof.Rows.slot_tuple_getitem
  (wpAny_call_entry PyProof.Rows.slot_tuple_getitem ht.typeIs entry_tuple_getitem ?_ (args_tuple_getitem _ _)))
 show wpAny _ _ (Builtin.Tuple.tupleItemsOf (.ref t) >>= _) _ _ s
 refine wpAny_bind (tupleItemsOf_ ht ?_)
 refine wpAny_bind (wpAny_typeOf hTs ?_)
 rw [if_pos (by decide)]
 refine wpAny_bind (z3j hs pl pu ?_)
 have hyes : (((sIx items.size 0 lo : Nat) : Int) == 0 && (1 : Int) == 1 && (sIx items.size items.size hi - sIx items.size 0 lo) == items.size) = true := by
  rw [hw.1, hw.2]
  simp
 show wpAny _ _ (if (((sIx items.size 0 lo : Nat) : Int) == 0 && (1 : Int) == 1 && (sIx items.size items.size hi - sIx items.size 0 lo) == items.size) = true then _ else _) _ _ s
 rw [if_pos hyes]
 refine wpAny_bind (m := Builtin.Tuple.tupleIsExact _) (wpAny_bind (wpAny_typeOf ht.typeIs (wpAny_pure ?_)))
 rw [if_pos (by decide)]
 refine wpAny_bind (wpAny_rule ?_)
 exact wpAny_pure ⟨_, rfl, wpAny_pure h⟩
end
end HT
namespace L2
open PySem PySem.Spec PyProof.Rows
def z2j : List V -> List V -> Bool
 | [], [] => true
 | x :: xs, y :: ys => eqV x y && z2j xs ys
 | _, _ => false
theorem z7R : ∀ xs ys : List V, ((List.range (min xs.length ys.length)).all (fun j => eqV (xs.getD j .non) (ys.getD j .non)) && xs.length == ys.length) = z2j xs ys
 | [], [] => rfl
 | [], _ :: _ => rfl
 | _ :: _, [] => rfl
 | x :: xs, y :: ys => by
  have ih := z7R xs ys
  unfold z2j
  rw [<- ih, List.length_cons, List.length_cons, Nat.succ_min_succ, List.range_succ_eq_map, List.all_cons, List.all_map, Bool.and_assoc]
  congr 1
  congr 1
  rw [Bool.eq_iff_iff]
  simp
theorem z7D : ∀ {x : V}, z1G x = true -> eqV x x = true := fun {x} h => by
 cases x with
 | non => rfl
 | bl b => exact beq_self_eq_true b
 | int i => exact beq_self_eq_true i
 | str z => exact beq_self_eq_true z
 | _ => exact absurd (show false = true from h) Bool.false_ne_true
theorem z5b : ∀ {xs : List V}, xs.all z1G = true -> z2j xs xs = true
 | [], _ => rfl
 | x :: xs, h => by
  rw [List.all_cons, Bool.and_eq_true] at h
  unfold z2j
  rw [z7D h.1, z5b h.2]
  rfl
theorem z5e : ∀ {xs : List V} {us : List Value}, Vals xs us -> xs.all z1G = true -> ∀ (j : Nat) (h : j < us.length), RelV (xs.getD j .non) us[j] /\ z1G (xs.getD j .non) = true
 | _, _, .nil, _, j, h => absurd h (Nat.not_lt_zero _)
 | x :: xs, u :: us, .cons r t, f, 0, h => by
  rw [List.all_cons, Bool.and_eq_true] at f
  exact ⟨r, f.1⟩
 | x :: xs, u :: us, .cons r t, f, j + 1, h => by
  rw [List.all_cons, Bool.and_eq_true] at f
  exact z5e t f.2 j (Nat.lt_of_succ_lt_succ h)
def eqI : List Value -> List V -> Bool
 | [], [] => true
 | u :: us, x :: xs => eqU x u && eqI us xs
 | _, _ => false
theorem y2f : ∀ {ys : List V} {us : List Value} (xs : List V), Vals ys us -> ys.all z1G = true -> eqI us xs = z2j ys xs
 | _, _, [], .nil, _ => rfl
 | _, _, _ :: _, .nil, _ => rfl
 | y :: ys, u :: us, [], .cons r t, f => rfl
 | y :: ys, u :: us, x :: xs, .cons r t, f => by
  rw [List.all_cons, Bool.and_eq_true] at f
  unfold eqI z2j
  rw [z9O r f.1, y2f xs t f.2]
section
variable {X : Cx}
theorem y0z {A : Around} {s : Shared} {a b : Addr} {its its2 : List Value} {xs ys : List V} (pl : s.heap.IsTuple a its.toArray) (pl2 : s.heap.IsTuple b its2.toArray) (r : Vals xs its) (r2 : Vals ys its2) (f : xs.all z1G = true) (f2 : ys.all z1G = true) (hu : A.units < cLine) :
  SeqAt.RcAt A s (.ref a) (.ref b) (z2j xs ys) := by
 have h := SeqAt.RcAt.tuples (e := fun j => eqV (xs.getD j .non) (ys.getD j .non)) pl pl2 hu fun j h1 h2 => by
  rw [List.size_toArray] at h1 h2
  obtain ⟨q1, q2⟩ := z5e r f j h1
  obtain ⟨q3, q4⟩ := z5e r2 f2 j h2
  exact y1P q1 q3 q2 q4
 rw [List.size_toArray, List.size_toArray, <- r.length, <- r2.length, z7R] at h
 exact h
def rEqT (K : PySem.W.Frag) : R2 := fun x y H Q => ∃ a b xs ys, x = .ref a /\ y = .ref b /\ SqT K H a xs /\ SqT K H b ys /\ xs.all z1G = true /\ ys.all z1G = true /\ Q (.bl (z2j xs ys)) H
theorem y1K (hu : X.A.units < cLine) : OpR X (compareOp .Eq) (rEqT X.K) := by
 intro pins s σ H x y v u Q I rx ry h
 obtain ⟨a, b, xs, ys, rfl, rfl, ha, hb, f1, f2, q⟩ := h
 cases rx
 cases ry
 obtain ⟨its, r, pl, hz⟩ := I.tuple ha
 obtain ⟨its2, r2, pl2, hz2⟩ := I.tuple hb
 exact y0z pl pl2 r r2 f1 f2 hu X.prog X.w X.xe _ ⟨.bl _, H, I, rfl, q⟩
def z39 (s : Shared) (xs : List V) : Value -> Bool
 | .ref b => match s.heap.get? b with
  | some o => match o.data with
   | .seq its _ => eqI its.toList xs
   | _ => false
  | none => false
 | _ => false
def y4w (K : PySem.W.Frag) : R2 := fun x y H Q => ∃ a p xs us yss, x = .ref a /\ y = .ref p /\ SqT K H a xs /\ xs.all z1G = true /\ SqL K H p us /\ Paired (fun u ys => ∃ b, u = .ref b /\ SqT K H b ys /\ ys.all z1G = true) us yss /\ Q (.bl (!yss.any fun ys => z2j ys xs)) H
theorem y1H (hu : X.A.units + 1 < cLine) : OpR X (compareOp .NotIn) (y4w X.K) := by
 intro pins s σ H x y v u Q I rx ry h
 obtain ⟨a, p, xs, us, yss, rfl, rfl, ha, f1, hp, pr, q⟩ := h
 cases rx
 cases ry
 obtain ⟨its, r, pl, hz⟩ := I.tuple ha
 obtain ⟨its2, r2, pl2, hz2⟩ := I.list hp
 have item : ∀ (b : Addr) (ys : List V), SqT X.K H b ys -> ys.all z1G = true -> z39 s xs (.ref b) = z2j ys xs /\ SeqAt.EqAt X.A.in1 s (.ref b) (.ref a) (z2j ys xs) := fun b ys hb fb => by
  obtain ⟨its3, r3, pl3, hz3⟩ := I.tuple hb
  have e1 : z39 s xs (.ref b) = z2j ys xs := by
   obtain ⟨o, ho, hc, n, hd⟩ := pl3
   unfold z39
   simp only [ho, hd]
   exact y2f xs r3 fb
  refine ⟨e1, ?_⟩
  by_cases hne : b = a
  ·subst hne
   have e2 : z2j ys xs = true := by
    rw [<- e1]
    obtain ⟨o, ho, hc, n, hd⟩ := pl
    unfold z39
    simp only [ho, hd]
    rw [y2f xs r f1]
    exact z5b f1
   rw [e2]
   exact SeqAt.EqAt.same _
  ·exact SeqAt.EqAt.of_refs hne (y0z pl3 pl r3 r fb f1 hu)
 have all : ∀ {us : List V} {yss : List (List V)} {vs : List Value}, Paired (fun u ys => ∃ b, u = .ref b /\ SqT X.K H b ys /\ ys.all z1G = true) us yss -> Vals us vs -> vs.any (z39 s xs) = yss.any (fun ys => z2j ys xs) /\ ∀ v ∈ vs, SeqAt.EqAt X.A.in1 s v (.ref a) (z39 s xs v) := by
  intro us yss vs pr
  induction pr generalizing vs with
  | nil =>
   intro r
   cases r
   exact ⟨rfl, fun v hv => (nomatch hv)⟩
  | cons h t ih =>
   intro r
   cases r with
   | cons r1 rt =>
    obtain ⟨b, rfl, hb, fb⟩ := h
    cases r1
    obtain ⟨i1, i2⟩ := ih rt
    obtain ⟨j1, j2⟩ := item b _ hb fb
    refine ⟨by rw [List.any_cons, List.any_cons, i1, j1], fun v hv => ?_⟩
    rcases List.mem_cons.mp hv with rfl | hv
    ·rw [j1]; exact j2
    ·exact i2 v hv
 obtain ⟨a1, a2⟩ := all pr r2
 refine SeqAt.notIn_listAt (z39 s xs) pl2.isList (fun w hw => a2 w (by simpa using hw)) ⟨.bl _, H, I, rfl, ?_⟩
 rw [show its2.toArray.any (z39 s xs) = its2.any (z39 s xs) by simp, a1]
 exact q
end
def rSlA (K : PySem.W.Frag) : V -> Option Int -> Option Int -> Hp -> VK -> Prop := fun x lo hi H Q => ∃ a xs, x = .ref a /\ SqT K H a xs /\ ((HT.sIx xs.length 0 lo = 0 /\ HT.sIx xs.length xs.length hi = xs.length) -> Q (.ref a) H) /\
 (¬ (HT.sIx xs.length 0 lo = 0 /\ HT.sIx xs.length xs.length hi = xs.length) -> ∀ p, H p = none -> Q (.ref p) (upd H p (.tup (cutV xs lo hi))))
theorem y4J {X : Cx} : SlR X (rSlA X.K) := by
 intro pins s σ H x v vl vu lo hi sl Q I rx hs pl pu h
 obtain ⟨a, xs, rfl, hx, q1, q2⟩ := h
 by_cases hw : HT.sIx xs.length 0 lo = 0 /\ HT.sIx xs.length xs.length hi = xs.length
 ·cases rx
  obtain ⟨its, r, ht, hz⟩ := I.tuple hx
  have hlen : its.toArray.size = xs.length := by rw [List.size_toArray]; exact r.length.symm
  exact ⟨"tuple", _, PyProof.Rows.slot_tuple_getitem.lookup, ht.typeIs, HT.z5q ht hs pl pu (by rw [hlen]; exact hw) ⟨.ref a, H, I, rfl, q1 hw⟩⟩
 ·exact y3s pins s σ H (.ref a) v vl vu lo hi sl Q I rx hs pl pu ⟨a, xs, rfl, hx, hw, q2 hw⟩
def rNeT (K : PySem.W.Frag) : R2 := fun x y H Q => ∃ a b xs ys, x = .ref a /\ y = .ref b /\ SqT K H a xs /\ SqT K H b ys /\ xs.all z1G = true /\ ys.all z1G = true /\ Q (.bl (!z2j xs ys)) H
theorem y4Q {X : Cx} (hu : X.A.units < cLine) : OpR X (compareOp .NotEq) (rNeT X.K) := by
 intro pins s σ H x y v u Q I rx ry h
 obtain ⟨a, b, xs, ys, rfl, rfl, ha, hb, f1, f2, q⟩ := h
 cases rx
 cases ry
 obtain ⟨its, r, pl, hz⟩ := I.tuple ha
 obtain ⟨its2, r2, pl2, hz2⟩ := I.tuple hb
 have h := SeqAt.RcNeAt.tuples (A := X.A) (e := fun j => eqV (xs.getD j .non) (ys.getD j .non)) pl pl2 hu fun j h1 h2 => by
  rw [List.size_toArray] at h1 h2
  obtain ⟨q1, q2⟩ := z5e r f1 j h1
  obtain ⟨q3, q4⟩ := z5e r2 f2 j h2
  exact y1P q1 q3 q2 q4
 rw [List.size_toArray, List.size_toArray, <- r.length, <- r2.length, z7R] at h
 exact h X.prog X.w X.xe _ ⟨.bl _, H, I, rfl, q⟩
section
variable {X : Cx} {tg : Expr}
end
theorem len7 {us : List Value} {p : List Value -> Prop} (h : us.length = 7) (k : ∀ a b c d e f g, p [a, b, c, d, e, f, g]) : p us := by
 match us, h with
 | [a, b, c, d, e, f, g], _ => exact k a b c d e f g
end L2
namespace HT
open PySem PySem.Spec PyProof.Rows L2
section
variable {prog : Program} {w : World} {A : Around} {E : Value -> Shared -> Prop} {s : Shared}
end
end HT
namespace L2
open PySem PySem.Spec PyProof.Rows
section
variable {X : Cx}
def y40 (K : PySem.W.Frag) : V -> List V -> Hp -> VK -> Prop := fun x vs H Q => ∃ (l : Addr) (zs : List Str) (z : Str) (j : Nat), x = .ref l /\ vs = [.str z] /\ SqL K H l (zs.map V.str) /\ zs[j]? = some z /\ (∀ m, m < j -> zs[m]? ≠ some z) /\ Q (.int (j : Nat)) H
theorem z13 (zs : List Str) : (zs.map V.str).all z1G = true := by
 rw [List.all_map, List.all_eq_true]
 intro z _
 rfl
theorem y0N : MtM X "list.index" (y40 X.K) := by
 intro pins s σ H x vs v us Q I rx rv h
 obtain ⟨l, zs, z, j, rfl, rfl, hL, ej, hno, q⟩ := h
 cases rx
 obtain ⟨u, rfl, ru⟩ := rv.one
 have ru0 := ru
 obtain ⟨t, rfl⟩ := ru
 obtain ⟨its, r, pl, hz⟩ := I.list hL
 have lr := r.length
 rw [List.length_map] at lr hz
 have hj := (List.getElem?_eq_some_iff.mp ej).1
 have line := sizeLine_eq
 have at_ : ∀ (m : Nat) (hm : m < its.toArray.size), eqU (.str z) its.toArray[m] = decide (zs[m]? = some z) := fun m hm => by
  have hm' : m < its.length := by rw [List.size_toArray] at hm; exact hm
  obtain ⟨q1, q2⟩ := z5e r (z13 zs) m hm'
  have eu := z9O (x := .str z) q1 q2
  have eg : (zs.map V.str).getD m .non = .str (zs[m]'(by omega)) := by
   rw [List.getD_eq_getElem?_getD, List.getElem?_map, List.getElem?_eq_getElem (show m < zs.length by omega)]
   rfl
  rw [eg] at eu
  rw [List.getElem_toArray, eu, List.getElem?_eq_getElem (show m < zs.length by omega)]
  show (zs[m] == z) = decide (some zs[m] = some z)
  rw [Bool.eq_iff_iff, decide_eq_true_eq, beq_iff_eq, Option.some.injEq]
 obtain ⟨⟨cls, dd, data, sl⟩, ho, hc, n, hd⟩ := id pl.isList
 simp only at hc hd
 subst hc hd
 have hjs : j < its.toArray.size := by rw [List.size_toArray]; omega
 refine call_meets F.slot_list_index ⟨_, ho, rfl⟩ F.entry_list_index (F.args_list_index_2 _ _)
  (SeqAt.list_indexAt l its.toArray n dd sl (.str z t) (eqU (.str z)) j hjs (by omega) (by rw [at_ j hjs]; exact decide_eq_true ej) (fun m hm hlt => by rw [at_ m hm]; exact decide_eq_false (hno m hlt)))
  ⟨ho, fun w hw => z3O ru0 rfl r (z13 zs) w (by simpa using hw), ?_⟩
 exact ⟨.int j, H, I.tok _, ⟨_, rfl⟩, q⟩
def z8w : V -> Bool
 | .non => true
 | _ => false
def y13 : Value -> Bool
 | .none => true
 | _ => false
def y4I (K : PySem.W.Frag) : V -> List V -> Hp -> VK -> Prop := fun x vs H Q => ∃ (l : Addr) (xs : List V), x = .ref l /\ vs = [.non] /\ SqL K H l xs /\ (∀ y ∈ xs, y = .non \/ ∃ a ys, y = .ref a /\ SqT K H a ys) /\ Q (.int (xs.countP z8w : Nat)) H
theorem y1O (A : Around) (s : Shared) : SeqAt.EqAt A s .none .none true := SeqAt.EqAt.same _
theorem y1f (hu : X.A.units + 1 < cLine) : MtM X "list.count" (y4I X.K) := by
 intro pins s σ H x vs v us Q I rx rv h
 obtain ⟨l, xs, rfl, rfl, hL, hk, q⟩ := h
 cases rx
 obtain ⟨u, rfl, ru⟩ := rv.one
 cases ru
 obtain ⟨its, r, pl, hz⟩ := I.list hL
 have all : ∀ {xs : List V} {us : List Value}, Vals xs us -> (∀ y ∈ xs, y = .non \/ ∃ a ys, y = .ref a /\ SqT X.K H a ys) -> us.countP y13 = xs.countP z8w /\ ∀ v ∈ us, SeqAt.EqAt X.A.in1 s v .none (y13 v) := by
  intro xs us r
  induction r with
  | nil => exact fun _ => ⟨rfl, fun v hv => (nomatch hv)⟩
  | cons r1 rt ih =>
   intro hk
   obtain ⟨i1, i2⟩ := ih fun y hy => hk y (List.mem_cons_of_mem _ hy)
   rcases hk _ List.mem_cons_self with e | ⟨a, ys, e, ha⟩
   ·subst e
    cases r1
    refine ⟨by rw [List.countP_cons, List.countP_cons, i1]; rfl, fun v hv => ?_⟩
    rcases List.mem_cons.mp hv with rfl | hv
    ·exact y1O _ _
    ·exact i2 v hv
   ·subst e
    cases r1
    obtain ⟨its3, r3, pl3, hz3⟩ := I.tuple ha
    refine ⟨by rw [List.countP_cons, List.countP_cons, i1]; rfl, fun v hv => ?_⟩
    rcases List.mem_cons.mp hv with rfl | hv
    ·exact SeqAt.EqAt.tuple_none pl3 hu
    ·exact i2 v hv
 obtain ⟨a1, a2⟩ := all r hk
 obtain ⟨⟨cls, dd, data, sl⟩, ho, hc, n, hd⟩ := id pl.isList
 simp only at hc hd
 subst hc hd
 refine call_meets F.slot_list_count ⟨_, ho, rfl⟩ F.entry_list_count (F.args_list_count_2 _ _) (SeqAt.list_countAt l its.toArray n dd sl .none y13) ⟨ho, fun w hw => a2 w (by simpa using hw), ?_⟩
 refine ⟨.int (xs.countP z8w : Nat), H, I.tok _, ?_, q⟩
 rw [<- a1]
 exact ⟨_, rfl⟩
end
def DfK (K : PySem.W.Frag) (x q : Str) (st : Stmt) (dV : Value) (f : Addr) : Prop := ∃ (oc : Value) (od : Option Addr) (kV doc pm : Value) (an : Option Addr) (cdv ct : Value) (osl : Array (Option Value)),
 K.lookup f = some ⟨oc, od, .func (PySem.W.fnOf x q (z1c st) (z10 st) (z06 st) dV kV doc pm an cdv ct), osl⟩ /\ PySem.W.codeIn K cdv q = true /\ PySem.W.keepIn K (.ref f) = true
def DfT (K : PySem.W.Frag) (x : Str) (st : Stmt) (dV : Value) (f : Addr) : Prop := PySem.W.nsIn K mainGlobals x = some (some (.ref f)) /\ DfK K x x st dV f
def DfM (K : PySem.W.Frag) (C : Addr) (x q : Str) (st : Stmt) (dV : Value) (f : Addr) : Prop := PySem.W.findIn K (.ref C) x = some (some (.ref f)) /\ PySem.W.isFn K (.ref f) = true /\ DfK K x q st dV f
def DfD (K : PySem.W.Frag) (T : Addr) (its : Array Value) : Prop := ∃ oct odt nt slt, K.lookup T = some ⟨oct, odt, .seq its nt, slt⟩
def DfC (K : PySem.W.Frag) (x : Str) (C : Addr) : Prop := PySem.W.nsIn K mainGlobals x = some (some (.ref C)) /\ PySem.W.plainGet K C Str.empty = true /\ PySem.W.hasDictIn K C = true /\ PySem.W.plainOver K C = true /\ PySem.W.findIn K (.ref C) "__setattr__" = some (some (.builtin "object.__setattr__")) /\ PySem.W.makesIn K C = true /\ PySem.W.keepIn K (.ref C) = true
section
variable {K : PySem.W.Frag} {mg : Str -> Option Value} {x q : Str} {st : Stmt} {f C T : Addr} {fd : FuncData} {its : Array Value}
theorem DfK.fn (h : DfK K x q st .none f) : ∃ fd, Fun K x q st f fd := by
 obtain ⟨oc, od, kV, doc, pm, an, cdv, ct, osl, l, c, k⟩ := h
 exact ⟨_, y53 l c k⟩
theorem DfK.fnD (h : DfK K x q st (.ref T) f) (d : DfD K T its) : ∃ fd, FunD K x q st f fd T its := by
 obtain ⟨oc, od, kV, doc, pm, an, cdv, ct, osl, l, c, k⟩ := h
 obtain ⟨_, _, _, _, d⟩ := d
 exact ⟨_, y4i l d c k⟩
theorem z0A {h : Heap} (X : K.In h) (G : h.Ns mainGlobals mg) (a : DfT K x st .none f) : ∃ fd, Fun K x x st f fd /\ mg x = some (.ref f) := by
 obtain ⟨fd, F⟩ := a.2.fn
 exact ⟨fd, F, PySem.W.mg_of X G a.1⟩
theorem z1l (a : DfM K C x q st .none f) : ∃ fd, Fun K x q st f fd /\ Meth K C x f := by
 obtain ⟨fd, F⟩ := a.2.2.fn
 exact ⟨fd, F, a.1, a.2.1, F.kp⟩
theorem y2A (a : DfM K C x q st (.ref T) f) (d : DfD K T its) : ∃ fd, FunD K x q st f fd T its /\ Meth K C x f := by
 obtain ⟨fd, F⟩ := a.2.2.fnD d
 exact ⟨fd, F, a.1, a.2.1, F.kp⟩
theorem z8Z {y : Str} (c : DfC K y C) (a : DfM K C "__init__" q st .none f) : ∃ fd, Fun K "__init__" q st f fd /\ Mk K C f := by
 obtain ⟨fd, F⟩ := a.2.2.fn
 exact ⟨fd, F, c.2.2.2.2.2.1, a.1, a.2.1, c.2.2.2.2.2.2⟩
theorem DfC.cls {y : Str} (c : DfC K y C) : Cls K C := ⟨c.2.1, c.2.2.1, c.2.2.2.1, c.2.2.2.2.1⟩
theorem DfC.nm {h : Heap} (X : K.In h) (G : h.Ns mainGlobals mg) {y : Str} (c : DfC K y C) : mg y = some (.ref C) := PySem.W.mg_of X G c.1
theorem y2p {p : Str} (F : Fun K x q st f fd) (h : ∀ kV doc pm an cdv ct v, bindArgs (PySem.W.fnOf x q (z1c st) (z10 st) (z06 st) .none kV doc pm an cdv ct) ⟨[v], []⟩ = pure [(p, v)] := by intros; rfl) : ∀ (s : Shared) (v : Value), BindsTo s fd ⟨[v], []⟩ [(p, v)] := by
 obtain ⟨oc, od, kV, doc, pm, an, cdv, ct, osl, rfl, l, c⟩ := F.ex
 exact fun s v => .of_eq (h _ _ _ _ _ _ _)
theorem b0 (F : Fun K x q st f fd) (h : ∀ kV doc pm an cdv ct, bindArgs (PySem.W.fnOf x q (z1c st) (z10 st) (z06 st) .none kV doc pm an cdv ct) ⟨[], []⟩ = pure (List.zip [] []) := by intros; rfl) : z1J K fd [] [] :=
 F.binds fun kV doc pm an cdv ct us hl => len0 (p := fun us => bindArgs _ ⟨us, []⟩ = pure (List.zip _ us)) hl (h kV doc pm an cdv ct)
theorem b1 {p1 : Str} (F : Fun K x q st f fd) (h : ∀ kV doc pm an cdv ct a, bindArgs (PySem.W.fnOf x q (z1c st) (z10 st) (z06 st) .none kV doc pm an cdv ct) ⟨[a], []⟩ = pure (List.zip [p1] [a]) := by intros; rfl) : z1J K fd [p1] [] :=
 F.binds fun kV doc pm an cdv ct us hl => len1 (p := fun us => bindArgs _ ⟨us, []⟩ = pure (List.zip _ us)) hl (h kV doc pm an cdv ct)
theorem b2 {p1 p2 : Str} (F : Fun K x q st f fd) (h : ∀ kV doc pm an cdv ct a b, bindArgs (PySem.W.fnOf x q (z1c st) (z10 st) (z06 st) .none kV doc pm an cdv ct) ⟨[a, b], []⟩ = pure (List.zip [p1, p2] [a, b]) := by intros; rfl) : z1J K fd [p1, p2] [] :=
 F.binds fun kV doc pm an cdv ct us hl => len2 (p := fun us => bindArgs _ ⟨us, []⟩ = pure (List.zip _ us)) hl (h kV doc pm an cdv ct)
theorem b3 {p1 p2 p3 : Str} (F : Fun K x q st f fd) (h : ∀ kV doc pm an cdv ct a b c, bindArgs (PySem.W.fnOf x q (z1c st) (z10 st) (z06 st) .none kV doc pm an cdv ct) ⟨[a, b, c], []⟩ = pure (List.zip [p1, p2, p3] [a, b, c]) := by intros; rfl) : z1J K fd [p1, p2, p3] [] :=
 F.binds fun kV doc pm an cdv ct us hl => len3 (p := fun us => bindArgs _ ⟨us, []⟩ = pure (List.zip _ us)) hl (h kV doc pm an cdv ct)
theorem b4 {p1 p2 p3 p4 : Str} (F : Fun K x q st f fd) (h : ∀ kV doc pm an cdv ct a b c d, bindArgs (PySem.W.fnOf x q (z1c st) (z10 st) (z06 st) .none kV doc pm an cdv ct) ⟨[a, b, c, d], []⟩ = pure (List.zip [p1, p2, p3, p4] [a, b, c, d]) := by intros; rfl) : z1J K fd [p1, p2, p3, p4] [] :=
 F.binds fun kV doc pm an cdv ct us hl => len4 (p := fun us => bindArgs _ ⟨us, []⟩ = pure (List.zip _ us)) hl (h kV doc pm an cdv ct)
theorem b5 {p1 p2 p3 p4 p5 : Str} (F : Fun K x q st f fd) (h : ∀ kV doc pm an cdv ct a b c d e, bindArgs (PySem.W.fnOf x q (z1c st) (z10 st) (z06 st) .none kV doc pm an cdv ct) ⟨[a, b, c, d, e], []⟩ = pure (List.zip [p1, p2, p3, p4, p5] [a, b, c, d, e]) := by intros; rfl) : z1J K fd [p1, p2, p3, p4, p5] [] :=
 F.binds fun kV doc pm an cdv ct us hl => len5 (p := fun us => bindArgs _ ⟨us, []⟩ = pure (List.zip _ us)) hl (h kV doc pm an cdv ct)
theorem b6 {p1 p2 p3 p4 p5 p6 : Str} (F : Fun K x q st f fd) (h : ∀ kV doc pm an cdv ct a b c d e g, bindArgs (PySem.W.fnOf x q (z1c st) (z10 st) (z06 st) .none kV doc pm an cdv ct) ⟨[a, b, c, d, e, g], []⟩ = pure (List.zip [p1, p2, p3, p4, p5, p6] [a, b, c, d, e, g]) := by intros; rfl) : z1J K fd [p1, p2, p3, p4, p5, p6] [] :=
 F.binds fun kV doc pm an cdv ct us hl => len6 (p := fun us => bindArgs _ ⟨us, []⟩ = pure (List.zip _ us)) hl (h kV doc pm an cdv ct)
theorem b7 {p1 p2 p3 p4 p5 p6 p7 : Str} (F : Fun K x q st f fd) (h : ∀ kV doc pm an cdv ct a b c d e g i, bindArgs (PySem.W.fnOf x q (z1c st) (z10 st) (z06 st) .none kV doc pm an cdv ct) ⟨[a, b, c, d, e, g, i], []⟩ = pure (List.zip [p1, p2, p3, p4, p5, p6, p7] [a, b, c, d, e, g, i]) := by intros; rfl) : z1J K fd [p1, p2, p3, p4, p5, p6, p7] [] :=
 F.binds fun kV doc pm an cdv ct us hl => len7 (p := fun us => bindArgs _ ⟨us, []⟩ = pure (List.zip _ us)) hl (h kV doc pm an cdv ct)
end
theorem calF (P : Program) (w : World) (K : PySem.W.Frag) (mg : Str -> Option Value) (base : Heap) {k : Nat} {x : Str} {ps : List Str} {sp : Sp} {st : Stmt} {f : Addr} {fd : FuncData} (F : Fun K x x st f fd /\ mg x = some (.ref f)) (a : FnOk P w K mg base CX0 k f fd ps sp) (b : z1J K fd ps []) : Cal P w K mg base k x ps sp := .mk' a b F.1.kp F.2
theorem mclF (P : Program) (w : World) (K : PySem.W.Frag) (mg : Str -> Option Value) (base : Heap) {k : Nat} {C : Addr} {x q : Str} {ps : List Str} {sp : Sp} {st : Stmt} {f : Addr} {fd : FuncData} (c : Cls K C) (F : Fun K x q st f fd /\ Meth K C x f) (a : FnOk P w K mg base CX0 k f fd ps sp) (b : z1J K fd ps []) : MCal P w K mg base k C x ps sp := .mk' c a b F.2
theorem mkrF (P : Program) (w : World) (K : PySem.W.Frag) (mg : Str -> Option Value) (base : Heap) {k : Nat} {C : Addr} {x y q : Str} {ps : List Str} {sp : Sp} {st : Stmt} {f : Addr} {fd : FuncData} (c : mg x = some (.ref C)) (F : Fun K y q st f fd /\ Mk K C f) (a : FnOk P w K mg base CX0 k f fd ps sp) (b : z1J K fd ps []) : Mkr P w K mg base k C x ps sp := .mk' a b F.2 c
theorem scp {N P : List Str} {sc : Scope} (h1 : sc.kind = .function := by rfl) (h2 : sc.isCoroutine = false := by rfl) (h3 : sc.isGenerator = false := by rfl) (h4 : N.Nodup := by decide +kernel) (h5 : N.take P.length = P := by rfl)
  (h6 : ∀ x ∈ P, sc.names.lookup x = some .local \/ sc.names.lookup x = some .cell := by decide +kernel) (h7 : ∀ y ∈ sc.names, y.2 ≠ .free := by decide +kernel) : FnScope N P sc := ⟨h1, h2, h3, h4, h5, h6, h7⟩
theorem rm {j k : Nat} {A : Around} (r : Room k A) (h : j ≤ k := by omega) : Room j A := r.mono h
theorem Cal.up {P : Program} {w : World} {K : PySem.W.Frag} {mg : Str -> Option Value} {base : Heap} {j k : Nat} {x : Str} {ps : List Str} {sp : Sp} (G : Cal P w K mg base j x ps sp) (h : j ≤ k := by decide) : Cal P w K mg base k x ps sp := G.mono h
theorem MCal.up {P : Program} {w : World} {K : PySem.W.Frag} {mg : Str -> Option Value} {base : Heap} {j k : Nat} {C : Addr} {x : Str} {ps : List Str} {sp : Sp} (G : MCal P w K mg base j C x ps sp) (h : j ≤ k := by decide) : MCal P w K mg base k C x ps sp := G.mono h
theorem MCalD.up {P : Program} {w : World} {K : PySem.W.Frag} {mg : Str -> Option Value} {base : Heap} {j k : Nat} {C : Addr} {x : Str} {ps : List Str} {sp : Sp} {d : List V} (G : MCalD P w K mg base j C x ps sp d) (h : j ≤ k := by decide) : MCalD P w K mg base k C x ps sp d := G.mono h
theorem Mkr.up {P : Program} {w : World} {K : PySem.W.Frag} {mg : Str -> Option Value} {base : Heap} {j k : Nat} {C : Addr} {x : Str} {ps : List Str} {sp : Sp} (G : Mkr P w K mg base j C x ps sp) (h : j ≤ k := by decide) : Mkr P w K mg base k C x ps sp := G.mono h
section
variable {X : Cx} {mg : Str -> Option Value}
theorem le2 : 2 ≤ sizeLine := by decide
theorem le1 : 1 ≤ sizeLine := by decide
end
end L2
namespace HT
open PySem PySem.Spec PyProof.Rows L2
section
variable {prog : Program} {w : World} {A : Around} {E : Value -> Shared -> Prop} {s : Shared}
theorem y0G {J t : Addr} {k : Nat} {ts : Array Value} {v : Value} {Q : Value -> Shared -> Prop} (hJ : s.heap.IsTupleIter J t k) (hT : s.heap.IsTuple t ts) (hv : ts[k]? = some v)
  (q : ∀ g, g.IsTupleIter J t (k + 1) -> Heap.SameBut J s.heap g -> Q v { s with heap := g }) : wpAny (model prog w) A (Builtin.SmallTypes.nextOf (.ref J)) Q E s := by
 obtain ⟨oj, gj, cj, dj⟩ := id hJ
 obtain ⟨ot, gt, _, nt, dt⟩ := hT
 unfold Builtin.SmallTypes.nextOf
 refine wpAny_bind (wpAny_callSpecial?_slot (name := Str.ofString "__next__") hJ.typeIs F.slot_tuple_iterator_next (wpAny_call_entry F.slot_tuple_iterator_next hJ.typeIs F.entry_tuple_iterator_next ?_ (F.args_tuple_iterator_next_1 _)))
 show wpAny _ _ (field (.ref J) 0 >>= _) _ _ s
 refine wpAny_bind (wpAny_field gj dj (x := .ref t) rfl ?_)
 show wpAny _ _ (if (Value.ref t == .none) = true then _ else _) _ _ s
 rw [if_neg (show ¬ (Value.ref t == .none) = true from Bool.false_ne_true)]
 show wpAny _ _ (field (.ref J) 1 >>= _) _ _ s
 refine wpAny_bind (wpAny_field gj dj (x := .int k 0) rfl ?_)
 show wpAny _ _ (seqItems? (.ref t) >>= _) _ _ s
 refine wpAny_bind (wpAny_seqItems gt dt ?_)
 simp only [Int.toNat_natCast, hv]
 refine wpAny_bind (wpAny_setField gj dj (by simp) (wpAny_pure ⟨v, rfl, wpAny_pure (q _ ⟨_, Heap.get?_update_self _ gj (Obj.isFreed_of_fields (Obj.data_mapFields dj _)), (Obj.cls_mapFields ..).trans cj, ?_⟩ (Heap.SameBut.update ..))⟩))
 rw [Obj.data_mapFields dj]
 simp [rawInt]
theorem y5w {J t : Addr} {k : Nat} {ts : Array Value} {Q : Value -> Shared -> Prop} (nh : A.handled = none) (hJ : s.heap.IsTupleIter J t k) (hT : s.heap.IsTuple t ts) (hv : ts[k]? = none)
  (q : ∀ g e, Heap.ExtBut J s.heap g -> (∃ o, g.get? e = some o /\ o.cls = .type "StopIteration") -> E (.ref e) { s with heap := g }) : wpAny (model prog w) A (Builtin.SmallTypes.nextOf (.ref J)) Q E s := by
 obtain ⟨oj, gj, cj, dj⟩ := id hJ
 obtain ⟨ot, gt, _, nt, dt⟩ := hT
 unfold Builtin.SmallTypes.nextOf
 refine wpAny_bind (wpAny_callSpecial?_slot (name := Str.ofString "__next__") hJ.typeIs F.slot_tuple_iterator_next (wpAny_call_entry F.slot_tuple_iterator_next hJ.typeIs F.entry_tuple_iterator_next ?_ (F.args_tuple_iterator_next_1 _)))
 show wpAny _ _ (field (.ref J) 0 >>= _) _ _ s
 refine wpAny_bind (wpAny_field gj dj (x := .ref t) rfl ?_)
 show wpAny _ _ (if (Value.ref t == .none) = true then _ else _) _ _ s
 rw [if_neg (show ¬ (Value.ref t == .none) = true from Bool.false_ne_true)]
 show wpAny _ _ (field (.ref J) 1 >>= _) _ _ s
 refine wpAny_bind (wpAny_field gj dj (x := .int k 0) rfl ?_)
 show wpAny _ _ (seqItems? (.ref t) >>= _) _ _ s
 refine wpAny_bind (wpAny_seqItems gt dt ?_)
 simp only [Int.toNat_natCast, hv]
 refine wpAny_bind (wpAny_rule (wpAny_bind (wpAny_setField gj dj (by simp) ?_)))
 show wpAny _ _ (newExc (.type "StopIteration") [] >>= _) _ _ _
 refine wpAny_bind ?_
 simp only [newExc, newTuple]
 refine wpAny_bind (wpAny_newObj_type ?_ (by size_fits))
 refine wpAny_bind (m := firstArgMember _ _) (wpAny_of_eq (a := Value.none) (by first | rfl | (simp only [firstArgMember]; rfl)) ?_)
 refine wpAny_newObj_type ?_ (by size_fits)
 simp only [raiseNew]
 refine wpAny_bind (wpAny_handled ?_)
 first | rw [show A.in1.handled = none from nh] | rw [nh]
 exact wpAny_bind (wpAny_pure (wpAny_throw (q _ _ (((Heap.SameBut.update ..).extBut.push _).push _) ⟨_, Heap.get?_push_size _ rfl, rfl⟩)))
structure ZA (z I O j1 j2 t1 t2 : Addr) : Prop where
 Iz : I ≠ z
 Oz : O ≠ z
 j1z : j1 ≠ z
 j2z : j2 ≠ z
 IO : I ≠ O
 Ij1 : I ≠ j1
 Ij2 : I ≠ j2
 Oj1 : O ≠ j1
 Oj2 : O ≠ j2
 jj : j1 ≠ j2
 t1z : t1 ≠ z
 t1O : t1 ≠ O
 t1j1 : t1 ≠ j1
 t1j2 : t1 ≠ j2
 t2z : t2 ≠ z
 t2O : t2 ≠ O
 t2j1 : t2 ≠ j1
 t2j2 : t2 ≠ j2
abbrev TuIt (h : Heap) (a t : Addr) (i : Nat) : Prop := h.IsTupleIter a t i
theorem TuIt.at {h g : Heap} {a t : Addr} {i : Nat} (x : h.IsTupleIter a t i) (k : ∀ o, h.get? a = some o -> g.get? a = some o) : g.IsTupleIter a t i := by
 obtain ⟨o, e, r⟩ := x
 exact ⟨o, k o e, r⟩
theorem y4D {z I O j1 j2 t1 t2 : Addr} {k : Nat} {xs ys : Array Value} {x y a b : Value} {Q : Value -> Shared -> Prop} (D : ZA z I O j1 j2 t1 t2)
  (gz : IsZip s.heap z I O .none) (gI : IsPair s.heap I (.ref j1) (.ref j2)) (gO : IsPair s.heap O a b) (g1 : s.heap.IsTupleIter j1 t1 k) (g2 : s.heap.IsTupleIter j2 t2 k) (u1 : s.heap.IsTuple t1 xs) (u2 : s.heap.IsTuple t2 ys) (hx : xs[k]? = some x) (hy : ys[k]? = some y)
  (q : ∀ g, IsZip g z I O (rawInt s.heap.objs.size) -> IsPair g O x y -> g.IsTupleIter j1 t1 (k + 1) -> g.IsTupleIter j2 t2 (k + 1) -> IsPair g s.heap.objs.size x y -> g.objs.size = s.heap.objs.size + 1 ->
   (∀ c o, c ≠ z -> c ≠ O -> c ≠ j1 -> c ≠ j2 -> s.heap.get? c = some o -> g.get? c = some o) -> Q (.ref s.heap.objs.size) { s with heap := g }) :
  wpAny (model prog w) A (Builtin.«zip.__next__» ⟨[.ref z], []⟩) (fun fin s' => ∃ v, fin = .done (.ret v) /\ Q v s') E s := by
 show wpAny _ _ (field (.ref z) 2 >>= _) _ _ _
 refine wpAny_bind (wpAny_field gz rfl (x := .bool false) rfl ?_)
 show wpAny _ _ (field (.ref z) 3 >>= _) _ _ _
 refine wpAny_bind (wpAny_field gz rfl (x := .ref I) rfl ?_)
 refine wpAny_bind (wpAny_seqItems gI rfl ?_)
 show wpAny _ _ (Builtin.SmallTypes.ownedTupleIsFree (.ref z) >>= _) _ _ _
 refine wpAny_bind ?_
 unfold Builtin.SmallTypes.ownedTupleIsFree
 refine wpAny_bind (wpAny_field gz rfl (x := .none) rfl (wpAny_pure ?_))
 simp only [if_true]
 refine wpAny_bind (wpAny_rule ?_)
 refine wpAny_bind (wpAny_field gz rfl (x := .ref O) rfl ?_)
 refine wpAny_bind (wpAny_setField_rec gz (by simp) fun A1 a1 b1 => ?_)
 replace a1 : IsZip A1 z I O .ellipsis := a1
 refine wpAny_bind ?_
 simp only [List.zipIdx_cons, List.zipIdx_nil, List.forIn_cons, List.forIn_nil]
 refine wpAny_bind (wpAny_bind (wpAny_onRaise ?_))
 show wpAny _ _ (Builtin.SmallTypes.nextOf (.ref j1) >>= _) _ _ _
 refine wpAny_bind (y0G (g1.extBut b1.extBut D.j1z) (u1.extBut b1.extBut D.t1z) hx fun A2 a2 b2 => wpAny_pure ?_)
 have o2 : IsPair A2 O a b := b2.extBut _ _ D.Oj1 (b1.extBut _ _ D.Oz gO)
 refine wpAny_bind (wpAny_seqItems o2 rfl ?_)
 refine wpAny_bind (wpAny_updateSeq_pair o2 fun A3 o3 b3 => ?_)
 replace o3 : IsPair A3 O x b := o3
 refine wpAny_bind (wpAny_letGo (wpAny_pure ?_))
 refine wpAny_bind (wpAny_bind (wpAny_onRaise ?_))
 show wpAny _ _ (Builtin.SmallTypes.nextOf (.ref j2) >>= _) _ _ _
 refine wpAny_bind (y0G (((g2.extBut b1.extBut D.j2z).extBut b2.extBut D.jj.symm).extBut b3.extBut D.Oj2.symm) (((u2.extBut b1.extBut D.t2z).extBut b2.extBut D.t2j1).extBut b3.extBut D.t2O) hy fun A4 a4 b4 => wpAny_pure ?_)
 have o4 : IsPair A4 O x b := b4.extBut _ _ D.Oj2 o3
 refine wpAny_bind (wpAny_seqItems o4 rfl ?_)
 refine wpAny_bind (wpAny_updateSeq_pair o4 fun A5 o5 b5 => ?_)
 replace o5 : IsPair A5 O x y := o5
 refine wpAny_bind (wpAny_letGo (wpAny_pure (wpAny_pure ?_)))
 refine wpAny_bind (wpAny_seqItems o5 rfl ?_)
 refine wpAny_bind (wpAny_newTuple ?_)
 have hsz : A5.objs.size = s.heap.objs.size := by rw [b5.1, b4.1, b3.1, b2.1, b1.1]
 have z5 : IsZip A5 z I O .ellipsis := b5.extBut _ _ D.Oz.symm (b4.extBut _ _ D.j2z.symm (b3.extBut _ _ D.Oz.symm (b2.extBut _ _ D.j1z.symm a1)))
 have k5 : ∀ c o, c ≠ z -> c ≠ O -> c ≠ j1 -> c ≠ j2 -> s.heap.get? c = some o -> A5.get? c = some o := fun c o c1 c2 c3 c4 e => b5.extBut _ _ c2 (b4.extBut _ _ c4 (b3.extBut _ _ c2 (b2.extBut _ _ c3 (b1.extBut _ _ c1 e))))
 have e1 : A5.IsTupleIter j1 t1 (k + 1) := ((a2.extBut b3.extBut D.Oj1.symm).extBut b4.extBut D.jj).extBut b5.extBut D.Oj1.symm
 have e2 : A5.IsTupleIter j2 t2 (k + 1) := a4.extBut b5.extBut D.Oj2.symm
 have lz : z < A5.objs.size := Heap.lt_size z5
 show wpAny _ _ (Builtin.SmallTypes.ownedTupleHandOut (.ref z) (.ref A5.objs.size) >>= _) _ _ _
 refine wpAny_bind ?_
 unfold Builtin.SmallTypes.ownedTupleHandOut
 have z6 : IsZip (A5.push { cls := .type "tuple", data := .seq #[x, y] }) z I O .ellipsis := Heap.get?_push_of_some _ z5
 refine wpAny_bind (wpAny_setField_rec z6 (by simp) fun A7 z7 b7 => ?_)
 replace z7 : IsZip A7 z I O (rawInt A5.objs.size) := z7
 refine wpAny_setField_rec z7 (by simp) fun A8 z8 b8 => ?_
 replace z8 : IsZip A8 z I O (rawInt A5.objs.size) := z8
 have up : ∀ c o, c ≠ z -> A5.get? c = some o -> A8.get? c = some o := fun c o c1 e => b8.extBut _ _ c1 (b7.extBut _ _ c1 (Heap.get?_push_of_some _ e))
 have r8 : IsPair A8 A5.objs.size x y := b8.extBut _ _ (Nat.ne_of_gt lz) (b7.extBut _ _ (Nat.ne_of_gt lz) (Heap.get?_push_size _ rfl))
 have s8 : A8.objs.size = A5.objs.size + 1 := by rw [b8.1, b7.1, Heap.size_push]
 rw [hsz] at z8 r8 s8
 refine wpAny_pure ⟨_, rfl, ?_⟩
 show Q (.ref A5.objs.size) _
 rw [hsz]
 exact q A8 z8 (up _ _ D.Oz o5) (TuIt.at e1 fun o e => up _ o D.j1z e) (TuIt.at e2 fun o e => up _ o D.j2z e) r8 s8 fun c o c1 c2 c3 c4 e => up c o c1 (k5 c o c1 c2 c3 c4 e)
theorem y4R {z I O j1 j2 t1 t2 : Addr} {k : Nat} {xs : Array Value} {Q : Fin -> Shared -> Prop} (nh : A.handled = none) (D : ZA z I O j1 j2 t1 t2)
  (gz : IsZip s.heap z I O .none) (gI : IsPair s.heap I (.ref j1) (.ref j2)) (g1 : s.heap.IsTupleIter j1 t1 k) (u1 : s.heap.IsTuple t1 xs) (hx : xs[k]? = none)
  (q : ∀ g e, (∀ c o, c ≠ z -> c ≠ j1 -> s.heap.get? c = some o -> g.get? c = some o) -> (∃ o, g.get? e = some o /\ o.cls = .type "StopIteration") -> E (.ref e) { s with heap := g }) :
  wpAny (model prog w) A (Builtin.«zip.__next__» ⟨[.ref z], []⟩) Q E s := by
 show wpAny _ _ (field (.ref z) 2 >>= _) _ _ _
 refine wpAny_bind (wpAny_field gz rfl (x := .bool false) rfl ?_)
 show wpAny _ _ (field (.ref z) 3 >>= _) _ _ _
 refine wpAny_bind (wpAny_field gz rfl (x := .ref I) rfl ?_)
 refine wpAny_bind (wpAny_seqItems gI rfl ?_)
 show wpAny _ _ (Builtin.SmallTypes.ownedTupleIsFree (.ref z) >>= _) _ _ _
 refine wpAny_bind ?_
 unfold Builtin.SmallTypes.ownedTupleIsFree
 refine wpAny_bind (wpAny_field gz rfl (x := .none) rfl (wpAny_pure ?_))
 simp only [if_true]
 refine wpAny_bind (wpAny_rule ?_)
 refine wpAny_bind (wpAny_field gz rfl (x := .ref O) rfl ?_)
 refine wpAny_bind (wpAny_setField_rec gz (by simp) fun A1 a1 b1 => ?_)
 replace a1 : IsZip A1 z I O .ellipsis := a1
 refine wpAny_bind ?_
 simp only [List.zipIdx_cons, List.zipIdx_nil, List.forIn_cons, List.forIn_nil]
 refine wpAny_bind (wpAny_bind (wpAny_onRaise ?_))
 show wpAny _ _ (Builtin.SmallTypes.nextOf (.ref j1) >>= _) _ _ _
 refine wpAny_bind (y5w nh (g1.extBut b1.extBut D.j1z) (u1.extBut b1.extBut D.t1z) hx fun A2 e b2 he => ?_)
 obtain ⟨oe, ge, ce⟩ := he
 have z2 : IsZip A2 z I O .ellipsis := b2 _ _ D.j1z.symm a1
 have ne : e ≠ z := fun x => by subst x; rw [z2] at ge; cases ge; simp at ce
 exact wpAny_setField_rec z2 (by simp) fun A3 _ b3 => q A3 e (fun c o c1 c3 x => b3.extBut _ _ c1 (b2 _ _ c3 (b1.extBut _ _ c1 x))) ⟨oe, b3.extBut _ _ ne ge, ce⟩
theorem y3T {z I O j1 j2 t1 t2 : Addr} {k : Nat} {xs ys : Array Value} {x y a b : Value} {Q : Option Value -> Shared -> Prop} (D : ZA z I O j1 j2 t1 t2)
  (gz : IsZip s.heap z I O .none) (gI : IsPair s.heap I (.ref j1) (.ref j2)) (gO : IsPair s.heap O a b) (g1 : s.heap.IsTupleIter j1 t1 k) (g2 : s.heap.IsTupleIter j2 t2 k) (u1 : s.heap.IsTuple t1 xs) (u2 : s.heap.IsTuple t2 ys) (hx : xs[k]? = some x) (hy : ys[k]? = some y)
  (q : ∀ g, IsZip g z I O (rawInt s.heap.objs.size) -> IsPair g O x y -> g.IsTupleIter j1 t1 (k + 1) -> g.IsTupleIter j2 t2 (k + 1) -> IsPair g s.heap.objs.size x y -> g.objs.size = s.heap.objs.size + 1 ->
   (∀ c o, c ≠ z -> c ≠ O -> c ≠ j1 -> c ≠ j2 -> s.heap.get? c = some o -> g.get? c = some o) -> Q (some (.ref s.heap.objs.size)) { s with heap := g }) : wpAny (model prog w) A (pyNext (.ref z)) Q E s := by
 have ty : s.TypeIs (.ref z) "zip" := ⟨_, gz, rfl⟩
 unfold pyNext
 exact wpAny_bind (wpAny_attempt (wpAny_callSpecial?_slot (name := Str.ofString "__next__") ty F.slot_zip_next (wpAny_call_entry F.slot_zip_next ty F.entry_zip_next
  (y4D D gz gI gO g1 g2 u1 u2 hx hy fun g p1 p2 p3 p4 p5 p6 p7 => wpAny_pure (q g p1 p2 p3 p4 p5 p6 p7)) (F.args_zip_next_1 _))))
theorem y5b {z I O j1 j2 t1 t2 : Addr} {k : Nat} {xs : Array Value} {Q : Option Value -> Shared -> Prop} (nh : A.handled = none) (D : ZA z I O j1 j2 t1 t2)
  (gz : IsZip s.heap z I O .none) (gI : IsPair s.heap I (.ref j1) (.ref j2)) (g1 : s.heap.IsTupleIter j1 t1 k) (u1 : s.heap.IsTuple t1 xs) (hx : xs[k]? = none)
  (q : ∀ g, (∀ c o, c ≠ z -> c ≠ j1 -> s.heap.get? c = some o -> g.get? c = some o) -> Q none { s with heap := g }) : wpAny (model prog w) A (pyNext (.ref z)) Q E s := by
 have ty : s.TypeIs (.ref z) "zip" := ⟨_, gz, rfl⟩
 unfold pyNext
 refine wpAny_bind (wpAny_attempt (wpAny_callSpecial?_slot (name := Str.ofString "__next__") ty F.slot_zip_next (wpAny_call_entry F.slot_zip_next ty F.entry_zip_next (y4R nh D gz gI g1 u1 hx fun g e hk he => ?_) (F.args_zip_next_1 _))))
 obtain ⟨o, go, co⟩ := he
 exact wpAny_bind (wpAny_isInstance (T := "StopIteration") (b := true) ⟨o, go, co⟩ isSubtype_stop (wpAny_pure (q _ hk)))
abbrev zq1 (h : Heap) (t1 : Addr) : Heap := h.push { cls := .type "tuple_iterator", data := .fields #[.ref t1, .int 0 0] }
abbrev zq2 (h : Heap) (t1 t2 : Addr) : Heap := (zq1 h t1).push { cls := .type "tuple_iterator", data := .fields #[.ref t2, .int 0 0] }
abbrev zq3 (h : Heap) (t1 t2 : Addr) : Heap := (zq2 h t1 t2).push { cls := .type "tuple", data := .seq #[.ref h.objs.size, .ref (zq1 h t1).objs.size] }
abbrev zq4 (h : Heap) (t1 t2 : Addr) : Heap := (zq3 h t1 t2).push { cls := .type "tuple", data := .seq #[.none, .none] }
abbrev zq5 (h : Heap) (t1 t2 : Addr) : Heap := (zq4 h t1 t2).push { cls := .type "zip", data := .fields #[.none, .bool false, .bool false, .ref (zq2 h t1 t2).objs.size, .ref (zq3 h t1 t2).objs.size] }
theorem y0p (t1 t2 : Addr) (xs ys : Array Value) : Meets (Builtin.«zip.__new__» ⟨[.type "zip", .ref t1, .ref t2], []⟩) (fun _ R s => s.heap.IsTuple t1 xs /\ s.heap.IsTuple t2 ys /\ R (.ok (.ret (.ref (zq4 s.heap t1 t2).objs.size))) { s with heap := zq5 s.heap t1 t2 }) :=
 .of_wp fun prog w A R s h => by
  obtain ⟨hp, g, d, tk, os⟩ := s
  obtain ⟨u1, u2, h⟩ := h
  have hsub := sub_zip
  have v1 : Heap.IsTuple (Shared.heap ⟨hp, g, d, tk, os⟩) t1 xs := u1
  have v2 : Heap.IsTuple (Shared.heap ⟨hp.push { cls := .type "tuple_iterator", data := .fields #[.ref t1, .int 0 0] }, g, d, tk, os⟩) t2 ys := Heap.IsTuple.push u2 _
  wp_walk using wpAny_pyIter_tuple v1, wpAny_pyIter_tuple v2
  exact ⟨_, rfl, h⟩
theorem y2j {t1 t2 : Addr} {xs ys : Array Value} {Q : Value -> Shared -> Prop} (u1 : s.heap.IsTuple t1 xs) (u2 : s.heap.IsTuple t2 ys)
  (h : ∀ g, IsZip g (s.heap.objs.size + 4) (s.heap.objs.size + 2) (s.heap.objs.size + 3) .none -> IsPair g (s.heap.objs.size + 2) (.ref s.heap.objs.size) (.ref (s.heap.objs.size + 1)) -> IsPair g (s.heap.objs.size + 3) .none .none -> g.IsTupleIter s.heap.objs.size t1 0 ->
   g.IsTupleIter (s.heap.objs.size + 1) t2 0 -> (∀ c o, s.heap.get? c = some o -> g.get? c = some o) -> Q (.ref (s.heap.objs.size + 4)) { s with heap := g }) : wpAny (model prog w) A (call (.type "zip") [.ref t1, .ref t2]) Q E s := by
 refine callType_new F.called_zip (by decide) (F.typeCall_zip_2 _ _) (F.newCall_zip_2 _ _) (fun obj => F.args_object_init_3 obj _ _) F.entry_zip_new (y0p t1 t2 xs ys) ⟨u1, u2, ?_⟩
 have n1 : (zq1 s.heap t1).objs.size = s.heap.objs.size + 1 := Heap.size_push ..
 have n2 : (zq2 s.heap t1 t2).objs.size = s.heap.objs.size + 2 := by rw [Heap.size_push, n1]
 have n3 : (zq3 s.heap t1 t2).objs.size = s.heap.objs.size + 3 := by rw [Heap.size_push, n2]
 have n4 : (zq4 s.heap t1 t2).objs.size = s.heap.objs.size + 4 := by rw [Heap.size_push, n3]
 have k5 : (zq5 s.heap t1 t2).get? (zq4 s.heap t1 t2).objs.size = some _ := Heap.get?_push_size _ rfl
 have k4 : (zq5 s.heap t1 t2).get? (zq3 s.heap t1 t2).objs.size = some _ := Heap.get?_push_of_some _ (Heap.get?_push_size _ rfl)
 have k3 : (zq5 s.heap t1 t2).get? (zq2 s.heap t1 t2).objs.size = some _ := Heap.get?_push_of_some _ (Heap.get?_push_of_some _ (Heap.get?_push_size _ rfl))
 have k2 : (zq5 s.heap t1 t2).get? (zq1 s.heap t1).objs.size = some _ := Heap.get?_push_of_some _ (Heap.get?_push_of_some _ (Heap.get?_push_of_some _ (Heap.get?_push_size _ rfl)))
 have k1 : (zq5 s.heap t1 t2).get? s.heap.objs.size = some _ := Heap.get?_push_of_some _ (Heap.get?_push_of_some _ (Heap.get?_push_of_some _ (Heap.get?_push_of_some _ (Heap.get?_push_size _ rfl))))
 show _ /\ _
 rw [n2, n3, n4] at k5
 rw [n1, n2] at k3
 rw [n3] at k4
 rw [n1] at k2
 rw [n4]
 exact ⟨⟨_, k5, rfl⟩, h _ k5 k3 k4 ⟨_, k1, rfl, rfl⟩ ⟨_, k2, rfl, rfl⟩ fun c o x => Heap.get?_push_of_some _ (Heap.get?_push_of_some _ (Heap.get?_push_of_some _ (Heap.get?_push_of_some _ (Heap.get?_push_of_some _ x))))⟩
theorem y4V {n t1 t2 : Nat} (h1 : t1 < n) (h2 : t2 < n) : ZA (n + 4) (n + 2) (n + 3) n (n + 1) t1 t2 :=
 have l {a b : Nat} (h : a < b) : a ≠ b := Nat.ne_of_lt h
 have g {a b : Nat} (h : b < a) : a ≠ b := Nat.ne_of_gt h
 ⟨l (by omega), l (by omega), l (by omega), l (by omega), l (by omega), g (by omega), g (by omega), g (by omega), g (by omega), l (by omega), l (by omega), l (by omega), l (by omega), l (by omega), l (by omega), l (by omega), l (by omega), l (by omega)⟩
end
end HT
namespace L2
open PySem PySem.Spec PyProof.Rows
theorem Inv.turnT {X : Cx} {pins : List (Addr × Obj)} {σ : St} {H : Hp} {s : Shared} {h' : Heap} {fp : List Addr} {T : Addr} {o : HO} {t' : Nat} (I : Inv X pins σ H s) (hf : ∀ b ∈ fp, FpOk X pins H b)
  (k : ∀ b u, b ∉ fp -> s.heap.get? b = some u -> h'.get? b = some u) (hp : s.heap.objs.size ≤ T) (new : z1a X.prog X.w (upd H T o) h' T o) : Inv X pins σ (upd H T o) { s with heap := h', toks := t' } := by
 have hn := I.hok.fresh hp
 refine I.step (g' := s.gens) (d' := s.drawn) (ch := fp) (fun b hb => ⟨(hf b hb).2.2.2.1, (hf b hb).2.1, (hf b hb).2.2.2.2.1, (hf b hb).2.2.2.2.2⟩) (fun b o _ _ hc e _ => k b o hc e) (fun b o _ _ hc e _ => ⟨o.slots, k b o hc e⟩)
  (fun b o _ e n => by rw [z09 (Nat.ne_of_lt (Nat.lt_of_lt_of_le (Heap.lt_size e) hp))]; exact n) (fun b o hc e => ⟨o, k b o hc e⟩) (fun b xs e => by rw [z09 (z0i e hn)]; exact e) (fun b o u e => by rw [z09 (z0i e hn)]; exact e)
  (fun b ps e => ⟨#[], by rw [z09 (z0i e hn), e]; simp⟩) (fun m hm => ?_) (fun b u e => ?_) I.bare
 ·obtain ⟨o, es, ep, ho, r⟩ := hm
  exact ⟨o, es, ep, k _ o (fun m => (hf _ m).2.1 rfl) ho, r⟩
 ·by_cases hb : b = T
  ·subst hb
   rw [z02] at e
   cases e
   exact new
  ·rw [z09 hb] at e
   refine (I.hok b u e).stay (fun c v hc q => k c v (fun m => ?_) q) (fun c q => by rw [z09 (z0i q hn)]; exact q) fun c xs q => by rw [z09 (z0i q hn)]; exact q
   have z := (hf c m).1
   rcases hc with e2 | e2
   ·rw [e2, e] at z
    cases z
   ·rw [e2] at z
    cases z
theorem Inv.turnL {X : Cx} {pins : List (Addr × Obj)} {σ : St} {H : Hp} {s : Shared} {h' : Heap} {fp : List Addr} {t' : Nat} (I : Inv X pins σ H s) (hf : ∀ b ∈ fp, FpOk X pins H b)
  (k : ∀ b u, b ∉ fp -> s.heap.get? b = some u -> h'.get? b = some u) : Inv X pins σ H { s with heap := h', toks := t' } := by
 refine I.step (g' := s.gens) (d' := s.drawn) (ch := fp) (fun b hb => ⟨(hf b hb).2.2.2.1, (hf b hb).2.1, (hf b hb).2.2.2.2.1, (hf b hb).2.2.2.2.2⟩) (fun b o _ _ hc e _ => k b o hc e) (fun b o _ _ hc e _ => ⟨o.slots, k b o hc e⟩)
  (fun _ _ _ _ n => n) (fun b o hc e => ⟨o, k b o hc e⟩) (fun _ _ e => e) (fun _ _ _ e => e) (fun b ps e => ⟨#[], by rw [e]; simp⟩) (fun m hm => ?_) (fun b u e => ?_) I.bare
 ·obtain ⟨o, es, ep, ho, r⟩ := hm
  exact ⟨o, es, ep, k _ o (fun m => (hf _ m).2.1 rfl) ho, r⟩
 ·refine (I.hok b u e).stay (fun c v hc q => k c v (fun m => ?_) q) (fun _ q => q) fun _ _ q => q
  have z := (hf c m).1
  rcases hc with e2 | e2
  ·rw [e2, e] at z
   cases z
  ·rw [e2] at z
   cases z
def Itz (K : PySem.W.Frag) (a b : Addr) (n : Nat) : It :=
 ⟨fun i H => i < n /\ ∃ xs ys, SqT K H a xs /\ SqT K H b ys /\ xs.length = n /\ ys.length = n,
  fun i H v H' => ∃ T, v = .ref T /\ H T = none /\ ∀ xs ys, SqT K H a xs -> SqT K H b ys -> ∃ x y, xs[i]? = some x /\ ys[i]? = some y /\ H' = upd H T (.tup [x, y]),
  fun i H => n ≤ i /\ ∃ xs, SqT K H a xs /\ xs.length = n⟩
def ZSt (z J O j1 j2 a b : Addr) (i : Nat) (h : Heap) : Prop := IsZip h z J O .none /\ IsPair h J (.ref j1) (.ref j2) /\ (∃ u v, IsPair h O u v) /\ h.IsTupleIter j1 a i /\ h.IsTupleIter j2 b i
theorem y2y {P : Program} {w : World} {K : PySem.W.Frag} {es : List Expr} {ec : Nat} {tp : Pos} {z J O j1 j2 a b : Addr} (D : HT.ZA z J O j1 j2 a b) (n : Nat) : Turn P w K (.Tuple es ec tp) (Itz K a b n) [z, J, O, j1, j2] z (ZSt z J O j1 j2 a b) where
 mem := by simp
 obj := fun i h st c hc => by
  obtain ⟨g1, g2, ⟨u, v, g3⟩, ⟨o4, g4, _, d4⟩, ⟨o5, g5, _, d5⟩⟩ := st
  simp only [List.mem_cons, List.not_mem_nil, or_false] at hc
  rcases hc with rfl | rfl | rfl | rfl | rfl
  ·exact ⟨_, g1, fun v e => by cases e⟩
  ·exact ⟨_, g2, fun v e => by cases e⟩
  ·exact ⟨_, g3, fun v e => by cases e⟩
  ·exact ⟨_, g4, fun v e => by rw [d4] at e; cases e⟩
  ·exact ⟨_, g5, fun v e => by rw [d5] at e; cases e⟩
 keep := fun i h h' st k => by
  obtain ⟨g1, g2, ⟨u, v, g3⟩, g4, g5⟩ := st
  exact ⟨k _ (by simp) _ g1, k _ (by simp) _ g2, ⟨u, v, k _ (by simp) _ g3⟩, HT.TuIt.at g4 fun o e => k _ (by simp) o e, HT.TuIt.at g5 fun o e => k _ (by simp) o e⟩
 item := by
  intro X hP hw hK hc i pins s σ H E I hf st hg
  subst hP hw hK
  obtain ⟨hi, xs, ys, ha, hb, lx, ly⟩ := hg
  obtain ⟨its, rv, pa, hz⟩ := I.tuple ha
  obtain ⟨its2, rv2, pb, hz2⟩ := I.tuple hb
  have ex : xs[i]? = some xs[i] := List.getElem?_eq_getElem (by omega)
  have ey : ys[i]? = some ys[i] := List.getElem?_eq_getElem (by omega)
  obtain ⟨u, hu, ru⟩ := rv.get ex
  obtain ⟨u2, hu2, ru2⟩ := rv2.get ey
  obtain ⟨g1, g2, ⟨p, q, g3⟩, g4, g5⟩ := st
  refine HT.y3T D g1 g2 g3 g4 g5 (show s.heap.IsTuple a its.toArray from pa) (show s.heap.IsTuple b its2.toArray from pb) (x := u) (y := u2) (by simpa using hu) (by simpa using hu2) fun g p1 p2 p3 p4 p5 p6 p7 => ⟨_, rfl, wpAny_letOwnedTupleGo_zip p1 fun g' z' sb => ?_⟩
  have nT : ∀ c ∈ [z, J, O, j1, j2], s.heap.objs.size ≠ c := fun c hc => by
   obtain ⟨o, e⟩ : ∃ o, s.heap.get? c = some o := by
    simp only [List.mem_cons, List.not_mem_nil, or_false] at hc
    rcases hc with rfl | rfl | rfl | rfl | rfl
    ·exact ⟨_, g1⟩
    ·exact ⟨_, g2⟩
    ·exact ⟨_, g3⟩
    ·obtain ⟨o, e, _⟩ := g4; exact ⟨o, e⟩
    ·obtain ⟨o, e, _⟩ := g5; exact ⟨o, e⟩
   exact Nat.ne_of_gt (Heap.lt_size e)
  have gT : g'.get? s.heap.objs.size = some { cls := .type "tuple", data := .seq #[u, u2] } := sb.extBut _ _ (nT z (by simp)) p5
  have kp : ∀ c o, c ∉ [z, J, O, j1, j2] -> s.heap.get? c = some o -> g'.get? c = some o := fun c o hc e => by
   simp only [List.mem_cons, List.not_mem_nil, or_false, not_or] at hc
   exact sb.extBut _ _ hc.1 (p7 c o hc.1 hc.2.2.1 hc.2.2.2.1 hc.2.2.2.2 e)
  have I1 : Inv X pins σ (upd H s.heap.objs.size (.tup [xs[i], ys[i]])) { s with heap := g' } := Inv.turnT (t' := s.toks) I hf kp (Nat.le_refl _) ⟨by show 2 ≤ sizeLine; decide, [u, u2], .cons ru (.cons ru2 .nil), ⟨_, gT, rfl, ⟨_, rfl⟩, rfl⟩⟩
  refine ⟨.ref s.heap.objs.size, _, I1, rfl, ⟨_, rfl, I.hok.fresh (Nat.le_refl _), fun xs' ys' hx' hy' => ?_⟩, ?_, fun c hc => ?_⟩
  ·rw [I.tuple_inj hx' ha, I.tuple_inj hy' hb]
   exact ⟨_, _, ex, ey, rfl⟩
  ·exact ⟨z', sb.extBut _ _ D.Iz (p7 _ _ D.Iz D.IO D.Ij1 D.Ij2 g2), ⟨_, _, sb.extBut _ _ D.Oz p2⟩, p3.extBut sb.extBut D.j1z, p4.extBut sb.extBut D.j2z⟩
  ·rw [z09 (Ne.symm (nT c hc))]
   exact (hf c hc).1
 done := by
  intro X hP hw hK hc i pins s σ H E I hf st hg
  subst hP hw hK
  obtain ⟨hi, xs, ha, lx⟩ := hg
  obtain ⟨its, rv, pa, hz⟩ := I.tuple ha
  have hl := rv.length
  obtain ⟨g1, g2, _, g4, _⟩ := st
  refine HT.y5b (I.ok.hd hc) D g1 g2 g4 (show s.heap.IsTuple a its.toArray from pa) (by simp; omega) fun g hk => ⟨rfl, Inv.turnL (t' := s.toks) I hf fun c o hc e => ?_⟩
  simp only [List.mem_cons, List.not_mem_nil, or_false, not_or] at hc
  exact hk c o hc.1 hc.2.2.2.1 e
 self := fun _ _ _ _ _ st h => wpAny_pyIter_zip st.1 h
section
variable {X : Cx} {es : List Expr} {ec : Nat} {tp : Pos}
def iZip (K : PySem.W.Frag) (ta : TA) : TI := fun σ H R => ta σ H fun vs H1 => ∃ a b xs ys, vs = [.ref a, .ref b] /\ SqT K H1 a xs /\ SqT K H1 b ys /\ xs.length = ys.length /\ R (Itz K a b xs.length) H1
theorem y5k {e e2 : Expr} {ta : TA} {p pos : Pos} (hg : Gl X "zip") (hm : X.mg "zip" = none) (ha : PA X [e, e2] ta) (hs : starEach [e, e2] X.env = (false, eval e X.env) :: starEach [e2] X.env := by rfl) (hs2 : (backTo pos (starEach [e2] X.env)).any (·.1) = false := by rfl) : PI X (.Tuple es ec tp) (.Call (.Name "zip" p) [e, e2] [] pos) (iZip X.K ta) := by
 intro pins s σ H R I h
 refine Call_ (z4U I hg hm boot_zip (PyProof.Rows.callWith_type1 (thn (ha pos pins s σ H _ I h) fun us s1 ⟨vs, H1, I1, r1, q1⟩ => ?_) hs hs2))
 obtain ⟨a, b, xs, ys, e, hq, hq2, ll, q⟩ := q1
 subst e
 cases r1 with
 | cons r rr =>
  cases rr with
  | cons r' rr' =>
   cases rr'
   cases r
   cases r'
   obtain ⟨its, rv, pa, hz⟩ := I1.tuple hq
   obtain ⟨its2, rv2, pb, hz2⟩ := I1.tuple hq2
   have la : a < s1.heap.objs.size := by obtain ⟨o, e, _⟩ := pa; exact Heap.lt_size e
   have lb : b < s1.heap.objs.size := by obtain ⟨o, e, _⟩ := pb; exact Heap.lt_size e
   refine HT.y2j (show s1.heap.IsTuple a its.toArray from pa) (show s1.heap.IsTuple b its2.toArray from pb) fun g k1 k2 k3 k4 k5 k6 => ?_
   refine wpAny_pyIter_zip k1 ?_
   refine ⟨s1.heap.objs.size + 4, _, _, _, H1, rfl, I1.kept (t' := s1.toks) k6, y2y (HT.y4V la lb) xs.length, ⟨k1, k2, ⟨_, _, k3⟩, k4, k5⟩, fun c hc => ?_, q⟩
   have lc : s1.heap.objs.size ≤ c := by
    simp only [List.mem_cons, List.not_mem_nil, or_false] at hc
    rcases hc with rfl | rfl | rfl | rfl | rfl
    ·exact Nat.le_add_right _ _
    ·exact Nat.le_add_right _ _
    ·exact Nat.le_add_right _ _
    ·exact Nat.le_refl _
    ·exact Nat.le_add_right _ _
   exact I1.fpOk lc (I1.hok.fresh lc)
theorem y3j (hc : X.calm = true) : z3c X (.builtin "all") (fun xs H Q => ∃ (p : Addr) (bs : List Bool), xs = [.ref p] /\ SqL X.K H p (bs.map V.bl) /\ Q (.bl (bs.all id)) H) := by
 intro pins s σ H xs us Q I r h
 obtain ⟨p, bs, rfl, hq, q⟩ := h
 obtain ⟨u, rfl, rx⟩ := z3r r
 cases rx
 obtain ⟨its, rv, pl, hz⟩ := I.list hq
 have hl := rv.length
 rw [List.length_map] at hl
 have lp : p < s.heap.objs.size := by obtain ⟨o, e, _⟩ := pl.isList; exact Heap.lt_size e
 have vals : ∀ (i : Nat) (v : Value), its.toArray[i]? = some v -> v = .bool (bs.getD i true) := fun i v e => by
  have e' : its[i]? = some v := by simpa using e
  have hi : i < bs.length := by have := (List.getElem?_eq_some_iff.mp e').1; omega
  obtain ⟨u, hu, ru⟩ := rv.get (show (bs.map V.bl)[i]? = some (V.bl bs[i]) by rw [List.getElem?_map, List.getElem?_eq_getElem hi]; rfl)
  rw [e'] at hu
  cases hu
  rw [List.getD_eq_getElem?_getD, List.getElem?_eq_getElem hi]
  cases ru
  rfl
 refine call_all_walk (wpAny_pyIter_list pl.isList ?_)
 refine ⟨s.heap.objs.size, _, _, _, _, _, fun i => bs.getD i true, rfl, Walks.list (A := X.A.in1) (show X.A.in1.handled = none from I.ok.hd hc) s.heap.objs.size p (Nat.ne_of_lt lp) its.toArray, ⟨⟨_, Heap.get?_push_size _ rfl, rfl, rfl⟩, Heap.IsList.push pl.isList _⟩, fun i v s Q E e hQ => ?_, fun h' tk k => ?_⟩
 ·rw [vals i v e]
  exact wpAny_truthy_bool hQ
 ·refine ⟨.bl _, H, I.kept (t' := tk) (fun b o e => k b o (fun m => ?_) (Heap.get?_push_of_some _ e)), rfl, ?_⟩
  ·have := Heap.lt_size e
   rw [List.mem_singleton.mp m] at this
   exact absurd this (Nat.lt_irrefl _)
  ·have e : (List.range its.toArray.size).all (fun i => bs.getD i true) = bs.all id := by
    rw [List.size_toArray, <- hl, Bool.eq_iff_iff, List.all_eq_true, List.all_eq_true]
    constructor
    ·intro h b hb
     obtain ⟨i, hi, e⟩ := List.getElem_of_mem hb
     have := h i (List.mem_range.mpr hi)
     rw [List.getD_eq_getElem?_getD, List.getElem?_eq_getElem hi, e] at this
     exact this
    ·intro h i hi
     have hi' := List.mem_range.mp hi
     rw [List.getD_eq_getElem?_getD, List.getElem?_eq_getElem hi']
     exact h _ (List.getElem_mem hi')
   rw [e]
   exact q
end
theorem y2t {K : PySem.W.Frag} {a b : Addr} {xs ys : List V} {g : TG} {tc : TT} {te : TE} {σ0 : St} {H1 : Hp} {F : List V -> Hp -> Prop} (ll : xs.length = ys.length) (Pv : Nat -> List V -> Hp -> Prop) (h0 : Pv 0 [] H1)
  (hl : ∀ i zs H, i ≤ xs.length -> Pv i zs H -> SqT K H a xs /\ SqT K H b ys /\ zs.length < sizeLine)
  (hs : ∀ i x y zs H T, xs[i]? = some x -> ys[i]? = some y -> H T = none -> Pv i zs H -> z18 g tc te σ0 (.ref T) (upd H T (.tup [x, y])) zs (Pv (i + 1))) (hd : ∀ zs H, Pv xs.length zs H -> F zs H) : z7x (Itz K a b xs.length) g tc te σ0 H1 F := by
 refine ⟨fun i m zs H => m = xs.length - i /\ i ≤ xs.length /\ Pv i zs H, ⟨xs.length, by simp, Nat.zero_le _, h0⟩, ?_⟩
 rintro i m zs H ⟨rfl, hi, p⟩
 obtain ⟨q1, q2, z⟩ := hl i zs H hi p
 by_cases hlt : i < xs.length
 ·refine .inr ⟨⟨hlt, xs, ys, q1, q2, rfl, ll.symm⟩, z, Pv (i + 1), fun zs' H' p' => ⟨xs.length - (i + 1), by omega, rfl, hlt, p'⟩, fun x H' y => ?_⟩
  obtain ⟨T, rfl, hT, y⟩ := y
  obtain ⟨x1, y1, e1, e2, rfl⟩ := y xs ys q1 q2
  exact hs i x1 y1 zs H T e1 e2 hT p
 ·have e : i = xs.length := by omega
  subst e
  exact .inl ⟨⟨Nat.le_refl _, xs, q1, rfl⟩, hd zs H p⟩
theorem y4B {X : Cx} {K : PySem.W.Frag} {e : Expr} {ta : TE} {f : Str} {pos : Pos} (hK : X.K = K) (he : PE X e ta) (hb : attributeBase e f X.env (eval e X.env) = eval e X.env) : PE X (.Attribute e f pos) (tFld K ta f) := by
 subst hK
 exact z0C he hb
theorem y4e {X : Cx} {K : PySem.W.Frag} {tg l : Expr} {tl : TE} (hK : X.K = K) (hl : PE X l tl) : PI X tg l (iTup K tl) := by
 subst hK
 exact z3F hl
end L2
namespace My
open PySem L2
def top (i : Nat) : Stmt := PySem.Challenge.pw_backissues_k40_whole_true_course.main.body.getD i (.Pass ⟨0, 0, 0, 0⟩)
abbrev z29 : Stmt := top 14
abbrev z4u : Stmt := top 15
abbrev z5h : Stmt := top 16
abbrev z1n : Stmt := top 17
abbrev z38 : Stmt := top 18
abbrev z1X : Stmt := top 26
abbrev z1T : Stmt := top 27
abbrev z2i : Stmt := top 28
abbrev z1v : Stmt := top 29
abbrev z2L : Stmt := top 31
abbrev z7z : Stmt := top 32
abbrev z6n : Stmt := top 34
abbrev z1U : Stmt := top 36
abbrev z26 : Stmt := top 37
abbrev z2G : Stmt := top 38
abbrev z2A : Stmt := top 39
abbrev z25 : Stmt := z0Y (top 40) 0
abbrev z19 : Stmt := z0Y (top 40) 1
abbrev z36 : Stmt := z0Y (top 40) 2
abbrev z2F : Stmt := z0Y (top 40) 3
abbrev z2X : Stmt := z0Y (top 40) 4
abbrev z4p : Stmt := top 42
abbrev z55 : Stmt := top 43
abbrev z5k : Stmt := top 44
abbrev y4F : Stmt := top 45
abbrev z44 : Stmt := top 46
abbrev z32 : Stmt := top 47
abbrev z2n : Stmt := z0Y (top 49) 0
abbrev z5v : Stmt := z0Y (top 49) 1
abbrev z59 : Stmt := z0Y (top 49) 2
abbrev z3a : Stmt := z0Y (top 49) 3
abbrev z2N : Stmt := z0Y (top 49) 4
abbrev z2M : Stmt := z0Y (top 49) 5
abbrev z1A : Stmt := top 53
abbrev z2z : Stmt := z0Y (top 54) 0
abbrev z0M : Stmt := z0Y (top 54) 1
abbrev z0U : Stmt := z0Y (top 54) 2
abbrev z48 : Stmt := z0Y (top 54) 3
abbrev z37 : Stmt := z0Y (top 54) 4
abbrev z3v : Stmt := z0Y (top 54) 5
abbrev z49 : Stmt := z0Y (top 54) 6
abbrev z4q : Stmt := z0Y (top 54) 7
abbrev z5m : Stmt := z0Y (top 54) 8
abbrev z4s : Stmt := z0Y (top 54) 9
abbrev z7M : Stmt := top 56
abbrev z5f : Stmt := top 57
abbrev z6A : Stmt := top 58
abbrev z4y : Stmt := top 59
abbrev z4k : Stmt := top 60
abbrev z33 : Stmt := top 61
abbrev z5r : Stmt := top 62
abbrev z4A : Stmt := top 63
abbrev z3B : Stmt := top 64
abbrev z6N : Stmt := top 65
abbrev z2K : Stmt := top 66
abbrev z3x : Stmt := top 67
abbrev z4j : Stmt := top 68
abbrev z3A : Stmt := top 69
abbrev z3b : Stmt := top 70
abbrev z4i : Stmt := top 71
abbrev z2k : Stmt := top 72
abbrev slaw : Stmt := top 73
abbrev z24 : List Str := ["had"]
abbrev z47 : List Str := ["number", "reach"]
abbrev z5d : List Str := ["had", "number", "reach"]
abbrev z0T : List Str := ["had", "reach"]
abbrev z30 : List Str := ["had", "reach"]
abbrev z1W : List Str := ["names"]
abbrev z1R : List Str := ["reach"]
abbrev z1L : List Str := ["names", "reach"]
abbrev z1t : List Str := ["names", "name"]
abbrev z2I : List Str := ["shelf", "number", "teller"]
abbrev z7k : List Str := ["shelf"]
abbrev z6O : List Str := ["sets", "reach"]
abbrev z1V : List Str := ["value"]
abbrev z28 : List Str := ["names", "rows"]
abbrev z2D : List Str := ["names", "rows"]
abbrev z1Y : List Str := ["rows"]
abbrev z27 : List Str := ["self", "names", "reach"]
abbrev z0N : List Str := ["self", "rows"]
abbrev z3d : List Str := ["self", "rows"]
abbrev z2O : List Str := ["self"]
abbrev z1H : List Str := ["self", "number"]
abbrev z4t : List Str := ["shelf"]
abbrev z56 : List Str := ["names", "chosen"]
abbrev z5p : List Str := ["names", "known", "chosen"]
abbrev y3S : List Str := ["shelf", "course"]
abbrev z4v : List Str := ["power"]
abbrev z2Y : List Str := ["shelf"]
abbrev z2l : List Str := ["self", "names", "reach"]
abbrev z5s : List Str := ["self", "issue"]
abbrev z2f : List Str := ["self"]
abbrev z51 : List Str := ["self"]
abbrev z2J : List Str := ["self", "number"]
abbrev z2E : List Str := ["self", "number"]
abbrev z1C : List Str := ["readers"]
abbrev z2B : List Str := ["self", "names", "reach", "readers"]
abbrev z0D : List Str := ["self", "reader"]
abbrev z0F : List Str := ["self"]
abbrev z4w : List Str := ["self", "rows"]
abbrev z34 : List Str := ["self", "reader", "number"]
abbrev z5z : List Str := ["self"]
abbrev z6k : List Str := ["self", "number"]
abbrev z6I : List Str := ["self"]
abbrev z79 : List Str := ["self", "which"]
abbrev z2p : List Str := ["self", "reader", "deed"]
abbrev z53 : List Str := ["_law_script", "_law_k"]
abbrev z2Q : List Str := ["_law_cell", "_law_size"]
abbrev z2o : List Str := ["_law_cell", "_law_many", "_law_size"]
abbrev z46 : List Str := ["_law_found"]
abbrev z4o : List Str := ["_law_cell", "_law_many"]
abbrev z2d : List Str := ["_law_times"]
abbrev z3M : List Str := ["_law_names_here", "_law_cell", "_law_many"]
abbrev z4z : List Str := ["_law_figure", "_law_place"]
abbrev z3z : List Str := ["_law_sets_here", "_law_cell"]
abbrev z6b : List Str := ["_law_cell", "_law_many"]
abbrev z2H : List Str := ["_law_row_here", "_law_cell"]
abbrev z3y : List Str := ["_law_had_here", "_law_number", "_law_reach"]
abbrev z4B : List Str := ["_law_had_here", "_law_rows", "_law_reach"]
abbrev z3w : List Str := ["_law_found", "_law_names_here", "_law_known_here"]
abbrev z3g : List Str := ["_law_script", "_law_names_here"]
abbrev z4l : List Str := ["_law_script"]
abbrev z2q : List Str := ["_law_shelf", "_law_courses", "_law_names_here", "_law_known_here", "_law_ruled"]
abbrev plaw : List Str := ["_law_script"]
theorem z2S : FnScope ["had", "latest"] z24 (z06 z29) := scp
theorem z5P : FnScope ["number", "reach"] z47 (z06 z4u) := scp
theorem z6w : FnScope ["had", "number", "reach", "tellers"] z5d (z06 z5h) := scp
theorem z1O : FnScope ["had", "reach"] z0T (z06 z1n) := scp
theorem z3S : FnScope ["had", "reach"] z30 (z06 z38) := scp
theorem z2w : FnScope ["names"] z1W (z06 z1X) := scp
theorem z2v : FnScope ["reach"] z1R (z06 z1T) := scp
theorem z3i : FnScope ["names", "reach"] z1L (z06 z2i) := scp
theorem z23 : FnScope ["names", "name"] z1t (z06 z1v) := scp
theorem z3o : FnScope ["shelf", "number", "teller"] z2I (z06 z2L) := scp
theorem z7Z : FnScope ["shelf", "lacking"] z7k (z06 z7z) := scp
theorem z7j : FnScope ["sets", "reach", "number", "ahead"] z6O (z06 z6n) := scp
theorem z2s : FnScope ["value"] z1V (z06 z1U) := scp
theorem z2R : FnScope ["names", "rows", "set_names", "name", "value"] z28 (z06 z26) := scp
theorem z3s : FnScope ["names", "rows", "values"] z2D (z06 z2G) := scp
theorem z3q : FnScope ["rows"] z1Y (z06 z2A) := scp
theorem z2W : FnScope ["self", "names", "reach"] z27 (z06 z25) := scp
theorem z1K : FnScope ["self", "rows"] z0N (z06 z19) := scp
theorem z3R : FnScope ["self", "rows", "number", "sets"] z3d (z06 z36) := scp
theorem z3p : FnScope ["self"] z2O (z06 z2F) := scp
theorem z3Z : FnScope ["self", "number"] z1H (z06 z2X) := scp
theorem z5M : FnScope ["shelf", "sets", "number", "teller", "names"] z4t (z06 z4p) := scp
theorem z68 : FnScope ["names", "chosen"] z56 (z06 z55) := scp
theorem z6H : FnScope ["names", "known", "chosen"] z5p (z06 z5k) := scp
theorem y3u : FnScope ["shelf", "course", "sets"] y3S (z06 y4F) := scp
theorem z5F : FnScope ["power", "product", "step"] z4v (z06 z44) := scp
theorem z3U : FnScope ["shelf", "dark"] z2Y (z06 z32) := scp
theorem z3l : FnScope ["self", "names", "reach"] z2l (z06 z2n) := scp
theorem z6S : FnScope ["self", "issue", "number"] z5s (z06 z5v) := scp
theorem z6J : FnScope ["self"] z2f (z06 z59) := scp
theorem z40 : FnScope ["self"] z51 (z06 z3a) := scp
theorem z3n : FnScope ["self", "number"] z2J (z06 z2N) := scp
theorem z3I : FnScope ["self", "number"] z2E (z06 z2M) := scp
theorem z2b : FnScope ["readers"] z1C (z06 z1A) := scp
theorem z3C : FnScope ["self", "names", "reach", "readers"] z2B (z06 z2z) := scp
theorem z1e : FnScope ["self", "reader"] z0D (z06 z0M) := scp
theorem z1r : FnScope ["self"] z0F (z06 z0U) := scp
theorem z5Q : FnScope ["self", "rows", "number"] z4w (z06 z48) := scp
theorem z3Y : FnScope ["self", "reader", "number", "getting", "lacked"] z34 (z06 z37) := scp
theorem z54 : FnScope ["self"] z5z (z06 z3v) := scp
theorem z5J : FnScope ["self", "number"] z6k (z06 z49) := scp
theorem z5S : FnScope ["self"] z6I (z06 z4q) := scp
theorem z6L : FnScope ["self", "which"] z79 (z06 z5m) := scp
theorem z5D : FnScope ["self", "reader", "deed", "behind", "told", "past"] z2p (z06 z4s) := scp
theorem z88 : FnScope ["_law_script", "_law_k"] z53 (z06 z7M) := scp
theorem z6g : FnScope ["_law_cell", "_law_size", "_law_once"] z2Q (z06 z5f) := scp
theorem z7g : FnScope ["_law_cell", "_law_many", "_law_size", "_law_rest", "_law_mixed", "_law_figures", "_law_k"] z2o (z06 z6A) := scp
theorem z5I : FnScope ["_law_found"] z46 (z06 z4y) := scp
theorem z5C : FnScope ["_law_cell", "_law_many", "_law_signs", "_law_turn", "_law_stem", "_law_spot"] z4o (z06 z4k) := scp
theorem z3X : FnScope ["_law_times", "_law_many", "_law_turn"] z2d (z06 z33) := scp
theorem z6x : FnScope ["_law_names_here", "_law_cell", "_law_many", "_law_size", "_law_sets_here", "_law_figure", "_law_mask", "_law_chosen", "_law_name"] z3M (z06 z5r) := scp
theorem z5T : FnScope ["_law_figure", "_law_place"] z4z (z06 z4A) := scp
theorem z4C : FnScope ["_law_sets_here", "_law_cell", "_law_figures", "_law_rows", "_law_k", "_law_one", "_law_place"] z3z (z06 z3B) := scp
theorem z70 : FnScope ["_law_cell", "_law_many", "_law_flags", "_law_numbers_here", "_law_number", "_law_jump", "_law_figure"] z6b (z06 z6N) := scp
theorem z3J : FnScope ["_law_row_here", "_law_cell", "_law_figures", "_law_told", "_law_k"] z2H (z06 z2K) := scp
theorem z4E : FnScope ["_law_had_here", "_law_number", "_law_reach", "_law_above"] z3y (z06 z3x) := scp
theorem z5L : FnScope ["_law_had_here", "_law_rows", "_law_reach", "_law_known_here", "_law_number"] z4B (z06 z4j) := scp
theorem z4M : FnScope ["_law_found", "_law_names_here", "_law_known_here", "_law_k", "_law_places", "_law_name", "_law_j"] z3w (z06 z3A) := scp
theorem z43 : FnScope ["_law_script", "_law_names_here", "_law_many", "_law_sets_here"] z3g (z06 z3b) := scp
theorem z5O : FnScope ["_law_script"] z4l (z06 z4i) := scp
theorem z3k : FnScope ["_law_shelf", "_law_courses", "_law_names_here", "_law_known_here", "_law_ruled", "_law_k", "_law_due", "_law_found", "_law_many"] z2q (z06 z2k) := scp
theorem y5e : FnScope ["_law_script", "_law_names_here", "_law_rows", "_law_reach", "_law_had_here", "_law_latest", "_law_book", "_law_one", "_law_number", "_law_truth", "_law_other", "_law_known_here", "_law_mixed", "_law_courses", "_law_figure", "_law_bent", "_law_ruled", "_law_lacking"] plaw (z06 slaw) := scp
structure TxOffice (K : PySem.W.Frag) (mg : Str -> Option Value) (C : Addr) : Prop where
 cl : Cls K C
 mgC : mg "Office" = some (.ref C)
 n_names : z2m K C "names"
 n_reach : z2m K C "reach"
 n_written : z2m K C "written"
structure TxShelf (K : PySem.W.Frag) (mg : Str -> Option Value) (C : Addr) : Prop where
 cl : Cls K C
 mgC : mg "Shelf" = some (.ref C)
 n_names : z2m K C "names"
 n_reach : z2m K C "reach"
 n_issues : z2m K C "issues"
structure TxBook (K : PySem.W.Frag) (mg : Str -> Option Value) (C : Addr) : Prop where
 cl : Cls K C
 mgC : mg "Book" = some (.ref C)
 n_office : z2m K C "office"
 n_readers : z2m K C "readers"
 n_done : z2m K C "done"
structure Bl (mg : Str -> Option Value) : Prop where
 len : mg "len" = none
 range : mg "range" = none
 tuple : mg "tuple" = none
 list : mg "list" = none
 max : mg "max" = none
 min : mg "min" = none
 sorted : mg "sorted" = none
 isinstance : mg "isinstance" = none
 bool : mg "bool" = none
 int : mg "int" = none
 str : mg "str" = none
 set : mg "set" = none
 reversed : mg "reversed" = none
 dict : mg "dict" = none
 zip : mg "zip" = none
 all : mg "all" = none
 MOST_NAMES : ∃ t, mg "MOST_NAMES" = some (.int 12 t)
 MOST_REACH : ∃ t, mg "MOST_REACH" = some (.int 10 t)
 MOST_NUMBERS : ∃ t, mg "MOST_NUMBERS" = some (.int 60 t)
 MOST_VALUE : ∃ t, mg "MOST_VALUE" = some (.int 1000000 t)
 MOST_READERS : ∃ t, mg "MOST_READERS" = some (.int 10 t)
 MOST_DEEDS : ∃ t, mg "MOST_DEEDS" = some (.int 400 t)
 WRITE : ∃ t, mg "WRITE" = some (.str "write" t)
 DELIVER : ∃ t, mg "DELIVER" = some (.str "deliver" t)
theorem z01 {H : Hp} {p : Addr} (h : H p = none) (o : HO) : Same H (upd H p o) := fun b u q => by rw [z09 (z0i q h)]; exact q
theorem z1z {H H' : Hp} {l : Addr} {o : HO} (hs : Same H H') (hl : H l = none) : Same H (upd H' l o) := fun b u e => by rw [z09 (z0i e hl)]; exact hs b u e
theorem z8R {n : Nat} (h : n ≤ 1000) : n ≤ sizeLine := Nat.le_of_lt (z0d h)
theorem z69 {ns : List Int} {k : Int} (h0 : 0 ≤ k) (h : k < (ns.length : Int)) : atI (ns.map V.int) k = some (.int (ns.getD k.toNat 0)) := by
 have hk : k.toNat < ns.length := by omega
 have ek : k = ((k.toNat : Nat) : Int) := by omega
 have q : atI (ns.map V.int) ((k.toNat : Nat) : Int) = some (.int (ns.getD k.toNat 0)) := z0J (by
  rw [List.getElem?_map, List.getElem?_eq_getElem hk, List.getD_eq_getElem?_getD, List.getElem?_eq_getElem hk] <;> rfl)
 rw [<- ek] at q
 exact q
theorem z52 {K : PySem.W.Frag} {H H' : Hp} {a : Addr} {xs : List V} (e : Same H H') (h : SqT K H a xs) : SqT K H' a xs := by
 rcases h with (h | ⟨o, h⟩) | h
 ·exact .inl (.inl (e _ _ h))
 ·exact .inl (.inr ⟨o, e _ _ h⟩)
 ·exact .inr h
theorem z0G {p : Prop} [Decidable p] (h : decide p = true) : p := of_decide_eq_true h
theorem z9L {p : Prop} [Decidable p] (h : ¬ decide p = true) : ¬ p := fun q => h (decide_eq_true q)
section
variable {P : Program} {w : World} {K : PySem.W.Frag} {mg : Str -> Option Value} {base : Heap} {f : Addr} {fd : FuncData}
theorem z20 : ∀ {l1 l2 : List Int}, l1.Pairwise (· < ·) -> l2.Pairwise (· < ·) -> (∀ x, x ∈ l1 ↔ x ∈ l2) -> l1 = l2
 | [], [], _, _, _ => rfl
 | [], y :: _, _, _, h => by have := (h y).mpr List.mem_cons_self; cases this
 | x :: _, [], _, _, h => by have := (h x).mp List.mem_cons_self; cases this
 | x :: r, y :: t, p1, p2, h => by
  rw [List.pairwise_cons] at p1 p2
  have e : x = y := by
   rcases List.mem_cons.mp ((h x).mp List.mem_cons_self) with e | hx
   ·exact e
   ·rcases List.mem_cons.mp ((h y).mpr List.mem_cons_self) with e | hy
    ·exact e.symm
    ·have := p1.1 y hy
     have := p2.1 x hx
     omega
  subst e
  refine congrArg (x :: ·) (z20 p1.2 p2.2 fun z => ⟨fun hz => ?_, fun hz => ?_⟩)
  ·rcases List.mem_cons.mp ((h z).mp (List.mem_cons_of_mem _ hz)) with e | q
   ·have := p1.1 z hz
    omega
   ·exact q
  ·rcases List.mem_cons.mp ((h z).mpr (List.mem_cons_of_mem _ hz)) with e | q
   ·have := p2.1 z hz
    omega
   ·exact q
theorem z1i (lo : Int) : ∀ n, (upI lo n).Pairwise (· < ·)
 | 0 => List.Pairwise.nil
 | n + 1 => by
  rw [z5X]
  refine List.pairwise_append.mpr ⟨z1i lo n, List.pairwise_singleton _ _, fun x hx y hy => ?_⟩
  have h1 := z0W.mp hx
  rw [List.mem_singleton.mp hy]
  omega
theorem y4d (lo : Int) (n : Nat) : rngV lo n = (upI lo n).map V.int := by
 unfold rngV upI
 rw [List.map_map]
 rfl
def spAt (K : PySem.W.Frag) : Sp := fun vs H Q _ => ∃ (a : Addr) (ns : List Int) (k : Int), vs = [.ref a, .int k] /\ SqL K H a (ns.map V.int) /\ 0 ≤ k /\ Q (.int (ns.getD k.toNat 0)) H
theorem ok_at (M : Bl mg) (F : Fun K "_law_at" "_law_at" z7M f fd) : FnOk P w K mg base CX0 1 f fd z53 (spAt K) := by
 have nd := z88.nd
 refine F.ok z88 (fun vs H Q E h => ?_) (fun cdv A outer s H vs Q E hr h => ?_)
 ·obtain ⟨a, ns, k, rfl, _⟩ := h
  rfl
 obtain ⟨a, ns, k, rfl, hS, h0, q⟩ := h
 refine ⟨_, (z03 (z0P (z0e z7L (pv 1) (z0c z0a rfl M.len PySem.boot_len (z00 (pv 0) z04)) (z0v _)) (z05 (z0k (z0Z z0B (pv 0) (pv 1) (fun _ _ => rfl)))) z0r) (z05 (z0k z07))), ?_⟩
 have hl : (ns.map V.int).length = ns.length := List.length_map _
 refine ⟨_, rfl, _, rfl, a, _, rfl, .inl hS, _, _, rfl, rfl, _, rfl, ?_⟩
 refine ite2 (fun c => ?_) (fun c => ?_)
 ·have c' := z0G c
  rw [hl] at c'
  exact ⟨_, rfl, _, rfl, a, _, _, _, rfl, rfl, hS, z69 h0 c', q⟩
 ·have c' := z9L c
  rw [hl] at c'
  have e : ns.getD k.toNat 0 = 0 := by rw [List.getD_eq_getElem?_getD, List.getElem?_eq_none (by omega)]; rfl
  rw [e] at q
  exact q
def z9p : Sp := fun vs H Q _ => ∃ c n : Int, vs = [.int c, .int n] /\ 0 < n /\ ∀ r, 0 ≤ r -> r < n -> Q (.int r) H
theorem y45 (F : Fun K "_law_pick" "_law_pick" z5f f fd) : FnOk P w K mg base CX0 1 f fd z2Q z9p := by
 have nd := z6g.nd
 refine F.ok z6g (fun vs H Q E h => ?_) (fun cdv A outer s H vs Q E hr h => ?_)
 ·obtain ⟨c, n, rfl, _⟩ := h
  rfl
 obtain ⟨c, n, rfl, hn, q⟩ := h
 refine ⟨_, (z03 (z0P (z0e z3P (z0p z0R (pv 0) z07) z07 (z0v _)) (z05 (z0k (z0p z0R (z0p z1b (pv 0) z07) (pv 1)))) z0r) (z03 (z0m (i := 2) nd rfl (Or.inl rfl) (z0p z0R (z0p z3K (z0p z1b (pv 0) z07) z07) z07)) (z05 (z0k (z0p z0R (z0p z0R (z0p z3K (z0p z1s (pv 2) z07) z07) z07) (pv 1)))))), ?_⟩
 refine ⟨_, rfl, _, _, rfl, rfl, (by show (0 : Int) < 2; decide), rfl, _, rfl, ?_⟩
 refine ite2 (fun _ => ?_) (fun _ => ?_)
 ·exact ⟨_, rfl, _, _, rfl, rfl, ⟨by decide, by decide⟩, _, rfl, _, _, rfl, rfl, hn, q _ (Int.emod_nonneg _ (by omega)) (Int.emod_lt_of_pos _ hn)⟩
 ·refine ⟨_, rfl, _, _, rfl, rfl, ⟨by decide, by decide⟩, _, _, rfl, rfl, .inr ⟨by decide, by decide⟩, _, _, rfl, rfl, (by show (0 : Int) < 2147483647; decide), ?_⟩
  refine ⟨_, rfl, _, _, rfl, rfl, _, _, rfl, rfl, .inr ⟨by decide, by decide⟩, _, _, rfl, rfl, (by show (0 : Int) < 2147483647; decide), _, rfl, _, _, rfl, rfl, hn, ?_⟩
  exact q _ (Int.emod_nonneg _ (by omega)) (Int.emod_lt_of_pos _ hn)
def tyOf : V -> String
 | .non => "NoneType"
 | .bl _ => "bool"
 | .int _ => "int"
 | _ => "str"
theorem z8W {H : Hp} {x : V} (h : y5m x = true) : TyOf K H x (.type (tyOf x)) := by
 cases x with
 | non => exact .non
 | bl b => exact .bl b
 | int i => exact .int i
 | str z => exact .str z
 | _ => exact absurd h Bool.false_ne_true
def kitB : V -> String -> Bool
 | .bl _, T => T == "bool" || T == "int"
 | .int _, T => T == "int"
 | .str _, T => T == "str"
 | _, _ => false
theorem z4S (T : String) (hT : T = "tuple" \/ T = "bool" \/ T = "int" \/ T = "str") {x : V} (h : y5m x = true) : PySem.W.kitOne K (.type (tyOf x)) (.type T) = some (kitB x T) := by
 cases x with
 | non => rcases hT with rfl | rfl | rfl | rfl <;> kernel_rfl
 | bl b => rcases hT with rfl | rfl | rfl | rfl <;> kernel_rfl
 | int i => rcases hT with rfl | rfl | rfl | rfl <;> kernel_rfl
 | str z => rcases hT with rfl | rfl | rfl | rfl <;> kernel_rfl
 | _ => exact absurd h Bool.false_ne_true
theorem y1I : PySem.W.kitOne K (.type "tuple") (.type "tuple") = some true := by kernel_rfl
theorem z7s {ns : List Int} {n : Nat} (h : ns.length ≤ n) (hn : n ≤ 1000) : (ns.map V.int).length < sizeLine := z0d (by rw [List.length_map]; omega)
def y04 : Sp := fun vs H Q _ => ∃ c m z : Int, vs = [.int c, .int m, .int z] /\ 0 ≤ m /\ m ≤ 900 /\ 0 < z /\ z < 1073741824 /\
 ∀ (l : Addr) (ns : List Int) (H' : Hp), H l = none -> Same H H' -> H' l = some (.lst (ns.map V.int)) -> ns.length = m.toNat -> (∀ x ∈ ns, 0 ≤ x /\ x < z) -> Q (.ref l) H'
theorem y5r (M : Bl mg) (F : Fun K "_law_row" "_law_row" z6A f fd) : FnOk P w K mg base CX0 1 f fd z2o y04 := by
 have nd := z7g.nd
 refine F.ok z7g (fun vs H Q E h => ?_) (fun cdv A outer s H vs Q E hr h => ?_)
 ·obtain ⟨c, m, z, rfl, _⟩ := h
  rfl
 obtain ⟨c, m, z, rfl, m0, m1, z0, z1, q⟩ := h
 refine ⟨_, (z03 (z0m (i := 3) nd rfl (Or.inl rfl) (z0p z1b (pv 0) z07)) (z03 (z0m (i := 4) nd rfl (Or.inl rfl) (z0p z0R (z0p z3K (pv 3) z07) z07)) (z03 (z0m (i := 5) nd rfl (Or.inl rfl) (z1N z04)) (z03 (z1g PassesOwn.never rfl (z17 rfl M.range (z00 (pv 1) z04)) (z0j (i := 6) nd rfl (Or.inl rfl)) (z03 (z0m (i := 4) nd rfl (Or.inl rfl) (z0p z0R (z0p z1s (z0p z1s (z0p z3K (pv 4) z07) (pv 6)) z07) z07)) (z05 (z0P (z0e z3P (z0p z0R (pv 0) z07) z07 (z0v _)) (z03 (z0y (z2V PySem.F.plainAttrs_list PySem.F.slot_list_append PySem.F.type_list_append z0I (pv 5) (z00 (z0p z0R (pv 3) (pv 2)) z04))) (z05 (z0m (i := 3) nd rfl (Or.inl rfl) (z0p z1b (pv 3) (pv 2))))) (z05 (z0y (z2V PySem.F.plainAttrs_list PySem.F.slot_list_append PySem.F.type_list_append z0I (pv 5) (z00 (z0p z0R (z0p z1b (pv 4) z07) (pv 2)) z04)))))))) (z05 (z0k (pv 5))))))), ?_⟩
 refine ⟨_, rfl, _, _, rfl, rfl, ⟨by decide, by decide⟩, ?_⟩
 refine ⟨_, rfl, _, _, rfl, rfl, .inr ⟨by decide, by decide⟩, _, _, rfl, rfl, (by show (0 : Int) < 2147483647; decide), ?_⟩
 refine ⟨(by show 0 ≤ sizeLine; decide), fun l hl => ?_⟩
 refine ⟨_, rfl, _, rfl, by omega, by omega, ?_⟩
 refine z1y (lo := 0) (n := m.toNat) (fun i σ H' => ∃ (ns : List Int) (r mx : Int) (o : Option V), ns.length = i /\ (∀ x ∈ ns, 0 ≤ x /\ x < z) /\ H' = upd H l (.lst (ns.map V.int)) /\
  σ = [some (.int c), some (.int m), some (.int z), some (.int r), some (.int mx), some (.ref l), o]) ⟨[], _, _, _, rfl, (fun _ h => nomatch h), rfl, rfl⟩ (fun i σ H' hi hp => ?_) (fun σ H' hp => ?_)
 ·obtain ⟨ns, r, mx, o, hlen, hall, rfl, rfl⟩ := hp
  refine ⟨_, rfl, _, _, rfl, rfl, .inr ⟨by decide, by decide⟩, _, rfl, _, _, rfl, rfl, _, _, rfl, rfl, _, _, rfl, rfl, (by show (0 : Int) < 2147483647; decide), ?_⟩
  refine ⟨_, rfl, _, _, rfl, rfl, (by show (0 : Int) < 2; decide), rfl, _, rfl, ?_⟩
  have grow : ∀ y : Int, (∀ x ∈ ns ++ [y % z], 0 ≤ x /\ x < z) := fun y x hx => by
   rcases List.mem_append.mp hx with h | h
   ·exact hall x h
   ·rw [List.mem_singleton.mp h]
    exact ⟨Int.emod_nonneg _ (by omega), Int.emod_lt_of_pos _ z0⟩
  have put : ∀ y : Int, upd (upd H l (.lst (ns.map V.int))) l (.lst (ns.map V.int ++ [.int (y % z)])) = upd H l (.lst ((ns ++ [y % z]).map V.int)) := fun y => by
   rw [z4h, List.map_append]
   rfl
  refine ite2 (fun _ => ?_) (fun _ => ?_)
  ·refine ⟨_, rfl, .inl ⟨rfl, _, SqL.of z02⟩, _, rfl, _, rfl, _, _, rfl, rfl, z0, l, _, _, rfl, rfl, z02, z7s (n := i) (by omega) (by omega), ?_⟩
   refine ⟨_, rfl, _, rfl, _, _, rfl, rfl, ⟨z0, z1⟩, ?_⟩
   exact ⟨ns ++ [r % z], _, _, _, by rw [List.length_append, hlen]; rfl, grow r, put r, rfl⟩
  ·refine ⟨_, rfl, .inl ⟨rfl, _, SqL.of z02⟩, _, rfl, _, _, rfl, rfl, ⟨by decide, by decide⟩, _, rfl, _, _, rfl, rfl, z0, l, _, _, rfl, rfl, z02, z7s (n := i) (by omega) (by omega), ?_⟩
   exact ⟨ns ++ [_ % z], _, _, _, by rw [List.length_append, hlen]; rfl, grow _, put _, rfl⟩
 ·obtain ⟨ns, r, mx, o, hlen, hall, rfl, rfl⟩ := hp
  exact ⟨_, rfl, q l ns _ hl (z01 hl _) z02 hlen hall⟩
theorem z4X (x : Int) (ns : List Int) : inV (.int x) (ns.map V.int) = decide (x ∈ ns) := by
 unfold inV
 rw [Bool.eq_iff_iff, List.any_map, List.any_eq_true, decide_eq_true_eq]
 constructor
 ·rintro ⟨y, hy, e⟩
  have e' : (y == x) = true := e
  rw [<- eq_of_beq e']
  exact hy
 ·intro h
  exact ⟨x, h, show (x == x) = true from beq_self_eq_true x⟩
theorem z3H (ns : List Int) : (ns.map V.int).all z1G = true := by
 rw [List.all_map, List.all_eq_true]
 intro x _
 rfl
theorem y21 {l : List Int} {x : Int} (h : l.Pairwise (· < ·)) (hx : ∀ y ∈ l, y < x) : (l ++ [x]).Pairwise (· < ·) :=
 List.pairwise_append.mpr ⟨h, List.pairwise_singleton _ _, fun a ha b hb => by rw [List.mem_singleton.mp hb]; exact hx a ha⟩
theorem y16 {l : List Int} (h : l.Pairwise (· < ·)) : (l.map fun x => x + 1).Pairwise (· < ·) := by
 rw [List.pairwise_map]
 exact h.imp fun {a b} h => by omega
theorem z8F : ∀ {l : List Int}, l.Pairwise (· ≤ ·) -> l.Nodup -> l.Pairwise (· < ·)
 | [], _, _ => .nil
 | x :: r, h, n => by
  rw [List.pairwise_cons] at h ⊢
  rw [List.nodup_cons] at n
  refine ⟨fun y hy => ?_, z8F h.2 n.2⟩
  have := h.1 y hy
  have : x ≠ y := fun e => n.1 (e ▸ hy)
  omega
def y4Z : Sp := fun vs H Q _ => ∃ c m : Int, vs = [.int c, .int m] /\ 0 ≤ m /\ m ≤ 60 /\
 ∀ (l : Addr) (ns : List Int) (H' : Hp), H l = none -> Same H H' -> H' l = some (.lst (ns.map V.int)) -> ns.Pairwise (· < ·) -> (∀ x ∈ ns, 1 ≤ x /\ x ≤ m) -> ns.length ≤ 60 -> Q (.ref l) H'
theorem y4U (M : Bl mg) (F : Fun K "_law_had" "_law_had" z6N f fd) (G_law_row : Cal P w K mg base 1 "_law_row" z2o y04) : FnOk P w K mg base CX0 2 f fd z6b y4Z := by
 have nd := z70.nd
 refine F.ok z70 (fun vs H Q E h => ?_) (fun cdv A outer s H vs Q E hr h => ?_)
 ·obtain ⟨c, m, rfl, _⟩ := h
  rfl
 obtain ⟨c, m, rfl, m0, m1, q⟩ := h
 refine ⟨_, (z03 (z0P (z0e z3P (z0p z0R (pv 0) z07) z07 (z0v _)) (z03 (z0m (i := 2) nd rfl (Or.inr rfl) (z0o G_law_row (rm hr) rfl (z00 (z0p z1b (pv 0) z07) (z00 (pv 1) (z00 z07 z04))))) (z05 (z0k (z1p ["_law_k"] ["_law_flags"] [2] rfl (z0u rfl (by decide +kernel) rfl (by decide +kernel) rfl rfl) (z17 rfl M.range (z00 (pv 1) z04)) (fun _ _ _ _ _ => (z0j (i := 0) (show ((["_law_k"] : List PySem.Str) ++ (["_law_flags"] : List PySem.Str)).Nodup from by decide +kernel) rfl (Or.inl rfl))) (z0w (by decide)) z0b (fun _ _ _ _ _ => (z3e (z0e z3P (z0Z (r := rIxL K) z0B (pv 1) (pv 0) (fun _ _ => rfl)) z07 (z0v _)))) (fun _ _ _ _ _ => (z0p z1s (pv 0) z07)))))) z0r) (z03 (z0m (i := 3) nd rfl (Or.inl rfl) (z1N z04)) (z03 (z0P (z0e z3P (z0p z0R (pv 0) z07) z07 (z0v _)) (z03 (z0m (i := 4) nd rfl (Or.inl rfl) z07) (z03 (z1g PassesOwn.never rfl (z1u (z0o G_law_row (rm hr) rfl (z00 (z0p z1b (pv 0) z07) (z00 (pv 1) (z00 z07 z04))))) (z0j (i := 5) nd rfl (Or.inl rfl)) (z03 (z0m (i := 4) nd rfl (Or.inl rfl) (z0p z1s (z0p z1s (pv 4) z07) (pv 5))) (z05 (z0P (z0e y41 (pv 4) (pv 1) (z0v _)) (z05 (z0y (z2V PySem.F.plainAttrs_list PySem.F.slot_list_append PySem.F.type_list_append z0I (pv 3) (z00 (pv 4) z04)))) z0r)))) (z05 (z0k (pv 3))))) z0r) (z03 (z1g PassesOwn.never rfl (z1u (z0o G_law_row (rm hr) rfl (z00 (z0p z1b (pv 0) z07) (z00 z07 (z00 (z0p z1s (pv 1) z07) z04))))) (z0j (i := 6) nd rfl (Or.inl rfl)) (z05 (z0P (PW.pt (z8o (z0e z4b (pv 6) z07 (z0v _)) (z6i (z0e z1E (pv 6) (pv 3) (by with_unfolding_all rfl))))) (z05 (z0y (z2V PySem.F.plainAttrs_list PySem.F.slot_list_append PySem.F.type_list_append z0I (pv 3) (z00 (pv 6) z04)))) z0r))) (z05 (z0k (z0c z94 rfl M.sorted PyProof.Rows.boot_sorted (z00 (pv 3) z04)))))))), ?_⟩
 refine ⟨_, rfl, _, _, rfl, rfl, (by show (0 : Int) < 3; decide), rfl, _, rfl, ?_⟩
 refine ite2 (fun _ => ?_) (fun _ => ?_)
 ·refine ⟨_, rfl, _, _, rfl, rfl, ⟨by decide, by decide⟩, _, rfl, _, m, 2, rfl, m0, by omega, by decide, by decide, fun lf fs H1 nlf s1 e1 len1 all1 => ?_⟩
  refine ⟨_, rfl, _, rfl, by omega, by omega, ?_⟩
  refine z5j (lo := 0) (n := m.toNat) (fun k => decide (fs.getD k.toNat 0 = 1)) (fun k => .int (k + 1)) (by omega) (fun k ys N k0 k1 hN => ?_) ?_
  ·refine ⟨_, rfl, _, rfl, lf, _, _, _, rfl, rfl, SqL.of e1, z69 k0 (by omega), rfl, _, rfl, ?_⟩
   refine ite2 (fun c2 => ?_) (fun c2 => ?_)
   ·have c3 : decide (fs.getD k.toNat 0 = 1) = true := decide_eq_true (V.int.inj (z0G c2))
    rw [if_pos c3] at hN
    exact ⟨_, rfl, _, _, rfl, rfl, hN⟩
   ·have c3 : ¬ decide (fs.getD k.toNat 0 = 1) = true := fun z => c2 (decide_eq_true (congrArg V.int (z0G z)))
    rw [if_neg c3] at hN
    exact hN
  ·intro D hD
   have e : z1Q (fun k => decide (fs.getD k.toNat 0 = 1)) (fun k => V.int (k + 1)) (upI 0 m.toNat) = (((upI 0 m.toNat).filter fun k => decide (fs.getD k.toNat 0 = 1)).map fun x => x + 1).map V.int := by
    unfold z1Q
    rw [List.map_map]
    rfl
   refine q D (((upI 0 m.toNat).filter fun k => decide (fs.getD k.toNat 0 = 1)).map fun x => x + 1) _ (s1.free hD) (s1.trans (z01 hD _)) ?_ (y16 ((z1i 0 _).filter _)) (fun x hx => ?_) ?_
   ·rw [z02, e]
   ·obtain ⟨y, hy, rfl⟩ := List.mem_map.mp hx
    have := z0W.mp (List.mem_filter.mp hy).1
    omega
   ·rw [List.length_map]
    have h := List.length_filter_le (fun k : Int => decide (fs.getD k.toNat 0 = 1)) (upI 0 m.toNat)
    rw [z0H] at h
    omega
 ·refine ⟨(by show 0 ≤ sizeLine; decide), fun l hl => ?_⟩
  refine ⟨_, rfl, _, _, rfl, rfl, (by show (0 : Int) < 3; decide), rfl, _, rfl, ?_⟩
  refine ite2 (fun _ => ?_) (fun _ => ?_)
  ·refine ⟨_, rfl, _, _, rfl, rfl, ⟨by decide, by decide⟩, _, rfl, _, m, 15, rfl, m0, by omega, by decide, by decide, fun lf fs H1 nlf s1 e1 len1 all1 => ?_⟩
   have nl : lf ≠ l := fun z => by rw [z, z02] at nlf; cases nlf
   refine ⟨lf, rfl, ⟨_, SqL.of e1⟩, ?_⟩
   refine z1I (xs := fs.map V.int) (fun i σ H' => ∃ (ns : List Int) (x : Int) (o1 o2 o3 : Option V), ns.Pairwise (· < ·) /\ (∀ y ∈ ns, 1 ≤ y /\ y ≤ m /\ y ≤ x) /\ 0 ≤ x /\ ns.length ≤ i /\ H' l = some (.lst (ns.map V.int)) /\ H' lf = some (.lst (fs.map V.int)) /\ Same H H' /\
    σ = [some (.int c), some (.int m), o1, some (.ref l), some (.int x), o2, o3]) ⟨[], 0, _, _, _, .nil, (fun _ h => nomatch h), Int.le_refl 0, Nat.le_refl 0, s1 _ _ z02, e1, (z01 hl _).trans s1, rfl⟩ (fun i σ H' hi hp => ?_) (fun i x σ H' hx hp => ?_) (fun σ H' hp => ?_)
   ·obtain ⟨ns, x, o1, o2, o3, _, _, _, _, _, h2, _⟩ := hp
    exact SqL.of h2
   ·obtain ⟨ns, v, o1, o2, o3, p1, p2, p3, p4, p5, p6, p7, rfl⟩ := hp
    rw [List.getElem?_map] at hx
    cases ef : fs[i]? with
    | none => rw [ef] at hx; cases hx
    | some j =>
     rw [ef] at hx
     cases hx
     have hj := all1 j (List.mem_of_getElem? ef)
     have hi : i < fs.length := (List.getElem?_eq_some_iff.mp ef).1
     refine ⟨_, rfl, _, _, rfl, rfl, _, rfl, _, _, rfl, rfl, ?_⟩
     refine ⟨_, rfl, _, rfl, _, _, rfl, rfl, _, rfl, ?_⟩
     refine ite2 (fun c2 => ?_) (fun c2 => ?_)
     ·have c3 := z0G c2
      refine ⟨_, rfl, .inl ⟨rfl, _, SqL.of p5⟩, _, rfl, l, _, _, rfl, rfl, p5, z7s (n := i) p4 (by omega), ?_⟩
      refine ⟨ns ++ [v + 1 + j], v + 1 + j, _, _, _, y21 p1 fun y hy => by have := p2 y hy; omega, fun y hy => ?_, by omega, by rw [List.length_append, List.length_singleton]; omega, ?_, ?_, z1z p7 hl, rfl⟩
      ·rcases List.mem_append.mp hy with h | h
       ·have := p2 y h; omega
       ·rw [List.mem_singleton.mp h]; omega
      ·rw [z02, List.map_append]; rfl
      ·rw [z09 nl]; exact p6
     ·exact ⟨ns, v + 1 + j, _, _, _, p1, fun y hy => by have := p2 y hy; omega, by omega, by omega, p5, p6, p7, rfl⟩
   ·obtain ⟨ns, x, o1, o2, o3, p1, p2, p3, p4, p5, p6, p7, rfl⟩ := hp
    rw [List.length_map] at p4
    exact ⟨_, rfl, q l ns _ hl p7 p5 p1 (fun y hy => ⟨(p2 y hy).1, (p2 y hy).2.1⟩) (by omega)⟩
  ·refine ⟨_, rfl, _, _, rfl, rfl, ⟨by decide, by decide⟩, _, rfl, _, _, rfl, rfl, _, 4, m + 1, rfl, by decide, by decide, by omega, by omega, fun lf fs H1 nlf s1 e1 len1 all1 => ?_⟩
   have nl : lf ≠ l := fun z => by rw [z, z02] at nlf; cases nlf
   refine ⟨lf, rfl, ⟨_, SqL.of e1⟩, ?_⟩
   refine z1I (xs := fs.map V.int) (fun i σ H' => ∃ (ns : List Int) (o1 o2 o3 o4 : Option V), ns.Nodup /\ (∀ y ∈ ns, 1 ≤ y /\ y ≤ m) /\ ns.length ≤ i /\ H' l = some (.lst (ns.map V.int)) /\ H' lf = some (.lst (fs.map V.int)) /\ Same H H' /\
    σ = [some (.int c), some (.int m), o1, some (.ref l), o2, o3, o4]) ⟨[], _, _, _, _, .nil, (fun _ h => nomatch h), Nat.le_refl 0, s1 _ _ z02, e1, (z01 hl _).trans s1, rfl⟩ (fun i σ H' hi hp => ?_) (fun i x σ H' hx hp => ?_) (fun σ H' hp => ?_)
   ·obtain ⟨ns, o1, o2, o3, o4, _, _, _, _, h2, _⟩ := hp
    exact SqL.of h2
   ·obtain ⟨ns, o1, o2, o3, o4, p1, p2, p4, p5, p6, p7, rfl⟩ := hp
    rw [List.getElem?_map] at hx
    cases ef : fs[i]? with
    | none => rw [ef] at hx; cases hx
    | some j =>
     rw [ef] at hx
     cases hx
     have hj := all1 j (List.mem_of_getElem? ef)
     have hi : i < fs.length := (List.getElem?_eq_some_iff.mp ef).1
     have same : ∃ (ns' : List Int) (o1 o2 o3 o4 : Option V), ns'.Nodup /\ (∀ y ∈ ns', 1 ≤ y /\ y ≤ m) /\ ns'.length ≤ i + 1 /\ H' l = some (.lst (ns'.map V.int)) /\ H' lf = some (.lst (fs.map V.int)) /\ Same H H' /\
       ([some (.int c), some (.int m), o1, some (.ref l), o2, o3, o4] : St) = [some (.int c), some (.int m), o1, some (.ref l), o2, o3, o4] := ⟨ns, o1, o2, o3, o4, p1, p2, by omega, p5, p6, p7, rfl⟩
     refine ⟨_, rfl, _, _, rfl, rfl, _, rfl, ?_⟩
     refine ite2 (fun c2 => ?_) (fun c2 => ?_)
     ·have c3 := z0G c2
      refine ⟨_, rfl, _, rfl, l, _, rfl, .inl (SqL.of p5), rfl, z3H ns, _, rfl, ?_⟩
      rw [if_pos rfl, z4X]
      refine ite2 (fun c4 => ?_) (fun c4 => ?_)
      ·have c5 : j ∉ ns := fun z => by rw [decide_eq_true z] at c4; exact absurd c4 Bool.false_ne_true
       refine ⟨_, rfl, .inl ⟨rfl, _, SqL.of p5⟩, _, rfl, l, _, _, rfl, rfl, p5, z7s (n := i) p4 (by omega), ?_⟩
       refine ⟨ns ++ [j], _, _, _, _, ?_, fun y hy => ?_, by rw [List.length_append, List.length_singleton]; omega, ?_, ?_, z1z p7 hl, rfl⟩
       ·rw [List.nodup_append]
        exact ⟨p1, List.nodup_cons.mpr ⟨List.not_mem_nil, List.nodup_nil⟩, fun y hy z hz => by rw [List.mem_singleton.mp hz]; exact fun e => c5 (e ▸ hy)⟩
       ·rcases List.mem_append.mp hy with h | h
        ·exact p2 y h
        ·rw [List.mem_singleton.mp h]; omega
       ·rw [z02, List.map_append]; rfl
       ·rw [z09 nl]; exact p6
      ·exact ⟨ns, _, _, _, _, p1, p2, by omega, p5, p6, p7, rfl⟩
     ·refine iteF ?_
      exact ⟨ns, _, _, _, _, p1, p2, by omega, p5, p6, p7, rfl⟩
   ·obtain ⟨ns, o1, o2, o3, o4, p1, p2, p4, p5, p6, p7, rfl⟩ := hp
    rw [List.length_map] at p4
    refine ⟨_, rfl, l, ns, rfl, SqL.of p5, by omega, fun l2 ns2 hl2 perm srt => ?_⟩
    refine q l2 ns2 _ (p7.free hl2) (p7.trans (z01 hl2 _)) z02 (z8F srt (perm.nodup_iff.mpr p1)) (fun x hx => p2 x (perm.mem_iff.mp hx)) ?_
    have := perm.length_eq
    omega
def z16 (ns : List Int) : List Int := (upI 1 60).filter fun x => decide (x ∉ ns) && decide (∃ y ∈ ns, x < y)
theorem z1o {ns : List Int} {x : Int} : x ∈ z16 ns ↔ (1 ≤ x /\ x < 1 + 60) /\ x ∉ ns /\ ∃ y ∈ ns, x < y := by
 unfold z16
 rw [List.mem_filter, z0W, Bool.and_eq_true, decide_eq_true_eq, decide_eq_true_eq]
 rfl
theorem z2e (ns : List Int) : (z16 ns).Pairwise (· < ·) := (z1i 1 60).filter _
theorem z3t (ns : List Int) : (z16 ns).length ≤ 60 := by
 have h := List.length_filter_le (fun x => decide (x ∉ ns) && decide (∃ y ∈ ns, x < y)) (upI 1 60)
 rw [z0H] at h
 exact h
theorem y1j {ns : List Int} {m : Int} (hm : m ∈ ns) (hall : ∀ x ∈ ns, 1 ≤ x /\ x ≤ 60) (top : ∀ y ∈ ns, y ≤ m) : (upI 1 (m + 1 - 1).toNat).filter (fun x => !decide (x ∈ ns)) = z16 ns :=
 z20 ((z1i _ _).filter _) (z2e _) fun x => by
  have hm' := hall m hm
  rw [List.mem_filter, z0W, z1o, Bool.not_eq_true', decide_eq_false_iff_not]
  constructor
  ·rintro ⟨⟨a, b⟩, c⟩
   refine ⟨by omega, c, m, hm, ?_⟩
   have : x ≠ m := fun e => c (e ▸ hm)
   omega
  ·rintro ⟨a, b, y, hy, c⟩
   have := top y hy
   exact ⟨by omega, b⟩
theorem z8u : z16 [] = [] := by
 refine z20 (z2e _) .nil fun x => ?_
 rw [z1o]
 constructor
 ·rintro ⟨_, _, y, hy, _⟩
  cases hy
 ·intro h
  cases h
theorem SqI.keep {K : PySem.W.Frag} {H H' : Hp} {a : Addr} {ns : List Int} (e : Same H H') (h : SqI K H a ns) : SqI K H' a ns := by
 rcases h with h | h
 ·exact .inl (e.seq h)
 ·rcases h with (h | ⟨o, h⟩) | h
  ·exact .inr (.inl (.inl (e _ _ h)))
  ·exact .inr (.inl (.inr ⟨o, e _ _ h⟩))
  ·exact .inr (.inr h)
theorem z7i {c : Int -> Bool} {t : Int} : ∀ {l : List Int}, l.Pairwise (· < ·) -> t ∈ l -> c t = true -> (∀ y ∈ l, c y = true -> t ≤ y) -> l.find? c = some t
 | [], _, h, _, _ => by cases h
 | x :: r, p, h, hc, hm => by
  rw [List.pairwise_cons] at p
  rw [List.find?_cons]
  rcases List.mem_cons.mp h with rfl | h
  ·rw [hc]
  ·cases e : c x with
   | true =>
    have h1 := p.1 t h
    have h2 := hm x List.mem_cons_self e
    omega
   | false => exact z7i p.2 h hc fun y hy => hm y (List.mem_cons_of_mem _ hy)
theorem y0E {c : Int -> Bool} {t : Int} : ∀ {l : List Int}, l.Pairwise (· < ·) -> l.find? c = some t -> t ∈ l /\ c t = true /\ ∀ y ∈ l, c y = true -> t ≤ y
 | [], _, h => by cases h
 | x :: r, p, h => by
  rw [List.pairwise_cons] at p
  rw [List.find?_cons] at h
  cases e : c x with
  | true =>
   rw [e] at h
   have h' : x = t := Option.some.inj h
   subst h'
   refine ⟨List.mem_cons_self, e, fun y hy _ => ?_⟩
   rcases List.mem_cons.mp hy with rfl | hy
   ·exact Int.le_refl _
   ·have := p.1 y hy
    omega
  | false =>
   rw [e] at h
   obtain ⟨h1, h2, h3⟩ := y0E p.2 h
   refine ⟨List.mem_cons_of_mem _ h1, h2, fun y hy hc => ?_⟩
   rcases List.mem_cons.mp hy with rfl | hy
   ·rw [e] at hc
    cases hc
   ·exact h3 y hy hc
def z7u (ns : List Int) (n r : Int) (y : Int) : Bool := decide (n < y) && decide (y - r ≤ n) && decide (y ∈ ns)
def z0X (ns : List Int) (n r : Int) : Int := ((upI 1 60).find? (z7u ns n r)).getD 0
theorem z2h {ns : List Int} {n r y : Int} : z7u ns n r y = true ↔ n < y /\ y - r ≤ n /\ y ∈ ns := by
 unfold z7u
 rw [Bool.and_eq_true, Bool.and_eq_true, decide_eq_true_eq, decide_eq_true_eq, decide_eq_true_eq, and_assoc]
theorem y0k {ns ts : List Int} (h : ∀ x, x ∈ ts ↔ x ∈ ns) (n r : Int) : z0X ts n r = z0X ns n r := by
 have e : z7u ts n r = z7u ns n r := by
  funext y
  rw [Bool.eq_iff_iff, z2h, z2h, h]
 unfold z0X
 rw [e]
theorem z9v {ns : List Int} {n r t : Int} (hall : ∀ x ∈ ns, 1 ≤ x /\ x ≤ 60) (ht : t ∈ ns) (h1 : n < t) (h2 : t - r ≤ n) (hm : ∀ y ∈ ns, n < y -> y - r ≤ n -> t ≤ y) : z0X ns n r = t := by
 unfold z0X
 rw [z7i (z1i 1 60) (t := t) (z0W.mpr (by have := hall t ht; omega)) (z2h.mpr ⟨h1, h2, ht⟩) fun y _ hy => by
  obtain ⟨a, b, c⟩ := z2h.mp hy
  exact hm y c a b]
 rfl
theorem z3L {ns : List Int} {n r : Int} (h : ∀ y ∈ ns, n < y -> ¬ y - r ≤ n) : z0X ns n r = 0 := by
 unfold z0X
 have e : (upI 1 60).find? (z7u ns n r) = none := List.find?_eq_none.mpr fun y _ hy => by
  obtain ⟨a, b, c⟩ := z2h.mp hy
  exact h y c a b
 rw [e]
 rfl
def z8s (K : PySem.W.Frag) : Sp := fun vs H Q _ => ∃ (p : Addr) (ns : List Int) (n r : Int), vs = [.ref p, .int n, .int r] /\ SqL K H p (ns.map V.int) /\ (∀ x ∈ ns, 1 ≤ x /\ x ≤ 60) /\ ns.length ≤ 900 /\ 0 ≤ r /\
 ∀ H', Same H H' -> Q (.int (z0X ns n r)) H'
theorem y0g (M : Bl mg) (F : Fun K "_law_teller" "_law_teller" z3x f fd) : FnOk P w K mg base CX0 1 f fd z3y (z8s K) := by
 have nd := z4E.nd
 refine F.ok z4E (fun vs H Q E h => ?_) (fun cdv A outer s H vs Q E hr h => ?_)
 ·obtain ⟨p, ns, n, r, rfl, _⟩ := h
  rfl
 obtain ⟨p, ns, n, r, rfl, hS, hall, hlen, r0, q⟩ := h
 refine ⟨_, (z03 (z45 (i := 3) ["_law_other"] ["_law_number"] [1] rfl nd rfl (Or.inl rfl) (z0u rfl (by decide +kernel) rfl (by decide +kernel) rfl rfl) (z1u (pv 0)) (fun _ _ _ _ _ => (z0j (i := 0) (show ((["_law_other"] : List PySem.Str) ++ (["_law_number"] : List PySem.Str)).Nodup from by decide +kernel) rfl (Or.inl rfl))) (z0w (by decide)) z0b (fun _ _ _ _ _ => (z3e (z0e z4b (pv 0) (pv 1) (z0v _)))) (fun _ _ _ _ _ => (pv 0))) (z03 (z0P (PW.pt (z4W (z0e (y52 hr.units0) (pv 3) (z1N z04) (z0v _)) (z2t (z0e z4b (z0p z4H (z0c (z8p rfl) rfl M.min PyProof.Rows.boot_min (z00 (pv 3) z04)) (pv 1)) (pv 2) (z0v _))))) (z05 (z0k z07)) z0r) (z05 (z0k (z0c (z8p rfl) rfl M.min PyProof.Rows.boot_min (z00 (pv 3) z04)))))), ?_⟩
 refine ⟨_, rfl, p, rfl, ⟨_, hS⟩, ?_⟩
 refine z8b (ns := ns) (fun y => decide (n < y)) (fun y => .int y) hS (by omega) (fun y ys N hy hN => ?_) (fun D hD => ?_)
 ·refine ⟨_, rfl, _, rfl, _, _, rfl, rfl, _, rfl, ?_⟩
  refine ite2 (fun c => ?_) (fun c => ?_)
  ·rw [if_pos c] at hN
   exact ⟨_, rfl, hN⟩
  ·rw [if_neg c] at hN
   exact hN
 have eD : upd H D (.lst (z1Q (fun y => decide (n < y)) (fun y => V.int y) ns)) D = some (.lst ((ns.filter fun y => decide (n < y)).map V.int)) := z02
 have sD := z01 hD (.lst (z1Q (fun y => decide (n < y)) (fun y => V.int y) ns))
 generalize upd H D (.lst (z1Q (fun y => decide (n < y)) (fun y => V.int y) ns)) = H1 at eD sD
 have mem : ∀ y, y ∈ ns.filter (fun y => decide (n < y)) ↔ y ∈ ns /\ n < y := fun y => by rw [List.mem_filter, decide_eq_true_eq]
 generalize ns.filter (fun y => decide (n < y)) = ab at eD mem
 refine ⟨_, rfl, (by show 0 ≤ sizeLine; decide), fun e0 he0 => ⟨D, e0, _, rfl, rfl, SqL.of (z01 he0 _ _ _ eD), SqL.of z02, _, rfl, ?_⟩⟩
 have s2 := sD.trans (z01 he0 (.lst []))
 cases ab with
 | nil =>
  refine iteT ?_
  have e : z0X ns n r = 0 := z3L fun y hy h1 _ => by
   have := (mem y).mpr ⟨hy, h1⟩
   cases this
  exact (by rw [<- e]; exact q _ s2)
 | cons y0 yr =>
  refine iteF ?_
  have eL := z01 he0 (.lst []) _ _ eD
  generalize upd H1 e0 (.lst []) = H2 at s2 eL
  refine ⟨_, rfl, D, _, rfl, .inl (SqL.of eL), by simp, fun m hm hl => ⟨_, rfl, _, _, rfl, rfl, _, rfl, _, _, rfl, rfl, _, rfl, ?_⟩⟩
  have hm' := (mem m).mp hm
  refine ite2 (fun c => ?_) (fun c => ?_)
  ·have c' : r < m - n := z0G c
   have e : z0X ns n r = 0 := z3L fun y hy h1 h2 => by
    have := hl y ((mem y).mpr ⟨hy, h1⟩)
    omega
   exact (by rw [<- e]; exact q _ s2)
  ·have c' : ¬ r < m - n := z9L c
   refine ⟨_, rfl, D, _, rfl, .inl (SqL.of eL), by simp, fun m2 hm2 hl2 => ?_⟩
   have h2 := (mem m2).mp hm2
   have e : z0X ns n r = m2 := z9v hall h2.1 h2.2 (by have := hl2 m hm; omega) fun y hy h1 _ => hl2 y ((mem y).mpr ⟨hy, h1⟩)
   exact (by rw [<- e]; exact q _ s2)
def y3P (K : PySem.W.Frag) : Sp := fun vs H Q _ => ∃ (r : Addr) (ns : List Int) (c : Int), vs = [.ref r, .int c] /\ SqL K H r (ns.map V.int) /\ ns.length ≤ 60 /\
 ∀ (l : Addr) (ts : List Int) (H' : Hp), H l = none -> Same H H' -> H' l = some (.lst (ts.map V.int)) -> (∀ x, x ∈ ts ↔ x ∈ ns) -> ts.length ≤ 120 -> Q (.ref l) H'
theorem y15 (ts : List Int) (i : Nat) (x : Int) : (ts.map V.int).take i ++ V.int x :: (ts.map V.int).drop i = (ts.take i ++ x :: ts.drop i).map V.int := by
 rw [List.map_append, List.map_cons, List.map_take, List.map_drop]
theorem z95 {ts : List Int} {i : Nat} {x y : Int} : y ∈ ts.take i ++ x :: ts.drop i ↔ y = x \/ y ∈ ts := by
 rw [List.mem_append, List.mem_cons]
 constructor
 ·rintro (h | h | h)
  ·exact .inr (List.mem_of_mem_take h)
  ·exact .inl h
  ·exact .inr (List.mem_of_mem_drop h)
 ·rintro (h | h)
  ·exact .inr (.inl h)
  ·rw [<- List.take_append_drop i ts, List.mem_append] at h
   rcases h with h | h
   ·exact .inl h
   ·exact .inr (.inr h)
theorem y0L {ts : List Int} {i : Nat} {x : Int} (h : i ≤ ts.length) : (ts.take i ++ x :: ts.drop i).length = ts.length + 1 := by
 rw [List.length_append, List.length_cons, List.length_take, List.length_drop]
 omega
theorem y4c (M : Bl mg) (F : Fun K "_law_shuffled" "_law_shuffled" z2K f fd) (G_law_row : Cal P w K mg base 1 "_law_row" z2o y04) : FnOk P w K mg base CX0 2 f fd z2H (y3P K) := by
 have nd := z3J.nd
 refine F.ok z3J (fun vs H Q E h => ?_) (fun cdv A outer s H vs Q E hr h => ?_)
 ·obtain ⟨r, ns, c, rfl, _⟩ := h
  rfl
 obtain ⟨r, ns, c, rfl, hS, hn, q⟩ := h
 refine ⟨_, (z03 (z0m (i := 2) nd rfl (Or.inl rfl) (z0o G_law_row (rm hr) rfl (z00 (pv 1) (z00 (z0c z0a rfl M.len PySem.boot_len (z00 (pv 0) z04)) (z00 z07 z04))))) (z03 (z0m (i := 3) nd rfl (Or.inl rfl) (z1N z04)) (z03 (z1g PassesOwn.never rfl (z17 rfl M.range (z00 (z0c z0a rfl M.len PySem.boot_len (z00 (pv 0) z04)) z04)) (z0j (i := 4) nd rfl (Or.inl rfl)) (z03 (z0y (z2V PySem.F.plainAttrs_list PySem.F.slot_list_insert PySem.F.type_list_insert z8q (pv 3) (z00 (z0p z0R (z0Z z0B (pv 2) (pv 4) (fun _ _ => rfl)) (z0p z1s (pv 4) z07)) (z00 (z0Z z0B (pv 0) (pv 4) (fun _ _ => rfl)) z04)))) (z05 (z0P (z0e y38 (z0Z z0B (pv 2) (pv 4) (fun _ _ => rfl)) z07 (z0v _)) (z05 (z0y (z2V PySem.F.plainAttrs_list PySem.F.slot_list_insert PySem.F.type_list_insert z8q (pv 3) (z00 (z0p z0R (z0Z z0B (pv 2) (pv 4) (fun _ _ => rfl)) (z0p z1s (pv 4) z07)) (z00 (z0Z z0B (pv 0) (pv 4) (fun _ _ => rfl)) z04))))) z0r)))) (z05 (z0k (pv 3)))))), ?_⟩
 have hl0 : (ns.map V.int).length = ns.length := List.length_map _
 refine ⟨_, rfl, _, rfl, r, _, rfl, .inl hS, _, _, _, rfl, by omega, by omega, by decide, by decide, fun lf fs H1 nlf s1 e1 len1 all1 => ?_⟩
 have len1' : fs.length = ns.length := by rw [len1, hl0]; rfl
 refine ⟨(by show 0 ≤ sizeLine; decide), fun l hl => ?_⟩
 have nl : lf ≠ l := z0i e1 hl
 refine ⟨_, rfl, r, _, rfl, .inl ((s1.trans (z01 hl _)).seq hS), _, rfl, by omega, by omega, ?_⟩
 refine z1y (lo := 0) (n := (((ns.map V.int).length : Nat) : Int).toNat) (fun i σ H' => ∃ (ts : List Int) (o : Option V), (∀ x, x ∈ ts ↔ x ∈ ns.take i) /\ i ≤ ts.length /\ ts.length ≤ 2 * i /\ H' = upd H1 l (.lst (ts.map V.int)) /\
  σ = [some (.ref r), some (.int c), some (.ref lf), some (.ref l), o]) ⟨[], _, fun x => Iff.rfl, Nat.le_refl 0, Nat.le_refl 0, rfl, rfl⟩ (fun i σ H' hi hp => ?_) (fun σ H' hp => ?_)
 ·obtain ⟨ts, o, hm, hlo, hhi, rfl, rfl⟩ := hp
  have hi' : i < ns.length := by
   have : (((ns.map V.int).length : Nat) : Int).toNat = ns.length := by rw [hl0]; rfl
   omega
  have ei : (0 : Int) + (i : Int) = (i : Int) := Int.zero_add _
  have hif : (i : Int) < (fs.length : Int) := by omega
  have gs : ∀ o : HO, Same H1 (upd H1 l o) := fun o => z01 hl o
  have fget : ∀ {o : HO}, SqL K (upd H1 l o) lf (fs.map V.int) := fun {o} => SqL.of (gs o _ _ e1)
  have rget : ∀ {o : HO}, SqL K (upd H1 l o) r (ns.map V.int) := fun {o} => (s1.trans (gs o)).seq hS
  have atf : atI (fs.map V.int) ((0 : Int) + (i : Int)) = some (.int (fs.getD i 0)) := by
   rw [ei]
   exact z69 (ns := fs) (k := (i : Int)) (by omega) hif
  have atn : atI (ns.map V.int) ((0 : Int) + (i : Int)) = some (.int (ns.getD i 0)) := by
   rw [ei]
   exact z69 (ns := ns) (k := (i : Int)) (by omega) (by omega)
  have hget : ns[i]? = some (ns.getD i 0) := by
   rw [List.getD_eq_getElem?_getD, List.getElem?_eq_getElem hi']
   rfl
  have hmem : ∀ x, x ∈ ns.take (i + 1) ↔ x = ns.getD i 0 \/ x ∈ ns.take i := fun x => by
   rw [z0l hget, List.mem_append, List.mem_singleton]
   exact Or.comm
  have b1 : 0 ≤ fs.getD i 0 % ((0 : Int) + (i : Int) + 1) /\ fs.getD i 0 % ((0 : Int) + (i : Int) + 1) ≤ (i : Int) := by
   have := Int.emod_nonneg (fs.getD i 0) (show (0 : Int) + (i : Int) + 1 ≠ 0 by omega)
   have := Int.emod_lt_of_pos (fs.getD i 0) (show (0 : Int) < (0 : Int) + (i : Int) + 1 by omega)
   omega
  have b2 : 0 ≤ fs.getD i 0 % ((0 : Int) + (i : Int) + 2) /\ fs.getD i 0 % ((0 : Int) + (i : Int) + 2) ≤ (i : Int) + 1 := by
   have := Int.emod_nonneg (fs.getD i 0) (show (0 : Int) + (i : Int) + 2 ≠ 0 by omega)
   have := Int.emod_lt_of_pos (fs.getD i 0) (show (0 : Int) < (0 : Int) + (i : Int) + 2 by omega)
   omega
  have hlen : (ts.map V.int).length = ts.length := List.length_map _
  refine ⟨_, rfl, .inl ⟨rfl, _, SqL.of z02⟩, _, rfl, _, rfl, lf, _, _, _, rfl, rfl, fget, atf, _, rfl, _, _, rfl, rfl, _, _, rfl, rfl, (by omega), _, rfl, _, rfl, r, _, _, _, rfl, rfl, rget, atn, l, _, _, _, rfl, rfl, z02, b1.1, by omega, z0d (by omega), ?_⟩
  rw [z4h, y15]
  have hlen2 := y0L (ts := ts) (i := (fs.getD i 0 % ((0 : Int) + (i : Int) + 1)).toNat) (x := ns.getD i 0) (by omega)
  refine ⟨_, rfl, _, rfl, lf, _, _, _, rfl, rfl, fget, atf, _, _, rfl, rfl, _, rfl, ?_⟩
  refine ite2 (fun _ => ?_) (fun _ => ?_)
  ·refine ⟨_, rfl, .inl ⟨rfl, _, SqL.of z02⟩, _, rfl, _, rfl, lf, _, _, _, rfl, rfl, fget, atf, _, rfl, _, _, rfl, rfl, _, _, rfl, rfl, (by omega), _, rfl, _, rfl, r, _, _, _, rfl, rfl, rget, atn, l, _, _, _, rfl, rfl, z02, b2.1, ?_, ?_, ?_⟩
   ·rw [List.length_map, hlen2]
    omega
   ·rw [List.length_map, hlen2]
    exact z0d (by omega)
   ·rw [z4h, y15]
    have hlen3 := y0L (ts := ts.take (fs.getD i 0 % ((0 : Int) + (i : Int) + 1)).toNat ++ ns.getD i 0 :: ts.drop (fs.getD i 0 % ((0 : Int) + (i : Int) + 1)).toNat) (i := (fs.getD i 0 % ((0 : Int) + (i : Int) + 2)).toNat) (x := ns.getD i 0) (by rw [hlen2]; omega)
    refine ⟨_, _, fun x => ?_, ?_, ?_, rfl, rfl⟩
    ·rw [z95, z95, hmem, hm]
     constructor
     ·rintro (h | h | h)
      ·exact .inl h
      ·exact .inl h
      ·exact .inr h
     ·rintro (h | h)
      ·exact .inl h
      ·exact .inr (.inr h)
    ·rw [hlen3, hlen2]
     omega
    ·rw [hlen3, hlen2]
     omega
  ·refine ⟨_, _, fun x => ?_, ?_, ?_, rfl, rfl⟩
   ·rw [z95, hmem, hm]
   ·rw [hlen2]
    omega
   ·rw [hlen2]
    omega
 ·obtain ⟨ts, o, hm, hlo, hhi, rfl, rfl⟩ := hp
  have e : (((ns.map V.int).length : Nat) : Int).toNat = ns.length := by rw [hl0]; rfl
  rw [e] at hm hhi
  rw [List.take_length] at hm
  exact ⟨_, rfl, q l ts _ (s1.free hl) (s1.trans (z01 hl _)) z02 hm (by omega)⟩
def y1q : Sp := fun vs H Q _ => ∃ i : Int, vs = [.int i] /\ Q (.bl true) H
theorem y3i (M : Bl mg) (F : Fun K "_law_whole" "_law_whole" z4y f fd) : FnOk P w K mg base CX0 1 f fd z46 y1q := by
 have nd := z5I.nd
 refine F.ok z5I (fun vs H Q E h => ?_) (fun cdv A outer s H vs Q E hr h => ?_)
 ·obtain ⟨i, rfl, _⟩ := h
  rfl
 obtain ⟨i, rfl, q⟩ := h
 refine ⟨_, (z05 (z0k (y3m (z0c z1S rfl M.isinstance PyProof.Rows.boot_isinstance (z00 (pv 0) (z00 (z5n (v := .ty "int") rfl M.int PyProof.Rows.boot_int rfl) z04))) (y3Q (y3y (z0c z1S rfl M.isinstance PyProof.Rows.boot_isinstance (z00 (pv 0) (z00 (z5n (v := .ty "bool") rfl M.bool PyProof.Rows.boot_bool rfl) z04)))))))), ?_⟩
 have k2 := z4S (K := K) "bool" (.inr (.inl rfl)) (x := .int i) rfl
 have k3 := z4S (K := K) "int" (.inr (.inr (.inl rfl))) (x := .int i) rfl
 refine ⟨_, rfl, _, _, _, _, rfl, .int i, k3, _, rfl, ?_⟩
 refine iteT ⟨_, rfl, _, _, _, _, rfl, .int i, k2, ?_⟩
 exact ⟨_, rfl, q⟩
def sgL : List Nat := (("mM ~aA0.xX_9" : Str).cps.toList)
theorem z98 : sgL.length = 12 := by decide +kernel
theorem y0C : sgL.Nodup := by decide +kernel
abbrev farS : Str := "a stranger of twenty"
abbrev z7P : Str := "a long stem of them"
structure Nms (nm : List Str) : Prop where
 nd : nm.Nodup
 lo : ∀ x ∈ nm, 1 ≤ x.length
 hi : ∀ x ∈ nm, x.length ≤ 20
 far : farS ∉ nm
theorem z9b (a b : Str) : (a ++ b).cps.toList = a.cps.toList ++ b.cps.toList := by
 show (a.cps ++ b.cps).toList = _
 simp
theorem y3Y (c : Nat) : (⟨#[c]⟩ : Str).cps.toList = [c] := rfl
theorem z3E {α β : Type} {g : α -> β} : ∀ {l : List α}, l.Nodup -> (∀ x ∈ l, ∀ y ∈ l, g x = g y -> x = y) -> (l.map g).Nodup
 | [], _, _ => List.nodup_nil
 | x :: r, n, h => by
  rw [List.nodup_cons] at n
  rw [List.map_cons, List.nodup_cons]
  refine ⟨fun hm => ?_, z3E n.2 fun a ha b hb => h a (List.mem_cons_of_mem _ ha) b (List.mem_cons_of_mem _ hb)⟩
  obtain ⟨y, hy, e⟩ := List.mem_map.mp hm
  have := h x List.mem_cons_self y (List.mem_cons_of_mem _ hy) e.symm
  exact n.1 (this ▸ hy)
theorem z8l (lo : Int) (n : Nat) : (upI lo n).Nodup := (z1i lo n).imp fun {a b} h => by omega
theorem z9l {t a b : Int} (ht : 0 ≤ t) (ht2 : t < 12) (a0 : 0 ≤ a) (a1 : a < 12) (b0 : 0 ≤ b) (b1 : b < 12) (h : (t + a) % 12 = (t + b) % 12) : a = b := by omega
def repN (c : Nat) (t k : Int) : Str := repS ⟨#[c]⟩ (1 + (t + k) % 12).toNat
theorem z4Y (c : Nat) (t k : Int) : (repN c t k).length = (1 + (t + k) % 12).toNat := by
 unfold repN
 rw [<- z1m]
 show ((List.replicate _ [c]).flatten.toArray).toList.length = _
 simp
theorem y4b (c : Nat) {t : Int} (h0 : 0 ≤ t) (h1 : t < 12) {m : Nat} (hm : m ≤ 12) : Nms ((upI 0 m).map (repN c t)) where
 nd := z3E (z8l _ _) fun a ha b hb e => by
  have ha' := z0W.mp ha
  have hb' := z0W.mp hb
  have e2 := congrArg Str.length e
  rw [z4Y, z4Y] at e2
  exact z9l h0 h1 (by omega) (by omega) (by omega) (by omega) (by omega)
 lo := fun x hx => by
  obtain ⟨k, hk, rfl⟩ := List.mem_map.mp hx
  rw [z4Y]
  omega
 hi := fun x hx => by
  obtain ⟨k, hk, rfl⟩ := List.mem_map.mp hx
  rw [z4Y]
  omega
 far := fun hx => by
  obtain ⟨k, hk, e⟩ := List.mem_map.mp hx
  have e2 := congrArg Str.length e
  rw [z4Y] at e2
  have e3 : farS.length = 20 := by decide +kernel
  omega
def z7v (st : Str) (sp : Int) (t k : Int) : Str := cutS st none (some sp) ++ ⟨#[sgL.getD ((t + k) % 12).toNat 0]⟩ ++ cutS st (some sp) none
theorem z9G {n d : Nat} {v : Int} (h0 : 0 ≤ v) (h1 : v ≤ n) : HT.sIx n d (some v) = v.toNat := by
 show (if v < 0 then (v + (n : Int)).toNat else min v.toNat n) = _
 rw [if_neg (by omega), Nat.min_eq_left (by omega)]
theorem y3q (st : Str) {sp : Int} (h0 : 0 ≤ sp) (h1 : sp ≤ st.length) : (cutS st none (some sp)).cps.toList = st.cps.toList.take sp.toNat := by
 show ((st.cps.toList.drop 0).take (HT.sIx st.length st.length (some sp) - 0)) = _
 rw [z9G h0 h1, List.drop_zero, Nat.sub_zero]
theorem y3n (st : Str) {sp : Int} (h0 : 0 ≤ sp) (h1 : sp ≤ st.length) : (cutS st (some sp) none).cps.toList = st.cps.toList.drop sp.toNat := by
 show ((st.cps.toList.drop (HT.sIx st.length 0 (some sp))).take (st.length - HT.sIx st.length 0 (some sp))) = _
 rw [z9G h0 h1, List.take_of_length_le]
 rw [List.length_drop, z1m]
 exact Nat.le_refl _
theorem z4N (st : Str) {sp : Int} (h0 : 0 ≤ sp) (h1 : sp ≤ st.length) (t k : Int) : (z7v st sp t k).cps.toList = st.cps.toList.take sp.toNat ++ sgL.getD ((t + k) % 12).toNat 0 :: st.cps.toList.drop sp.toNat := by
 unfold z7v
 rw [z9b, z9b, y3q st h0 h1, y3n st h0 h1, y3Y, List.append_assoc]
 rfl
theorem z6m (st : Str) {sp : Int} (h0 : 0 ≤ sp) (h1 : sp ≤ st.length) (t k : Int) : (z7v st sp t k).length = st.length + 1 := by
 rw [<- z1m, z4N st h0 h1, List.length_append, List.length_cons, List.length_take, List.length_drop, z1m]
 omega
theorem y2V : ∀ s < 20, ∀ i < 12, z7P.cps.toList.take s ++ sgL.getD i 0 :: z7P.cps.toList.drop s ≠ farS.cps.toList := by decide +kernel
theorem y2J {st : Str} (hst : st = "" \/ st = "row" \/ st = z7P) {sp : Int} (h0 : 0 ≤ sp) (h1 : sp ≤ st.length) {t : Int} (t0 : 0 ≤ t) (t1 : t < 12) {m : Nat} (hm : m ≤ 12) : Nms ((upI 0 m).map (z7v st sp t)) where
 nd := z3E (z8l _ _) fun a ha b hb e => by
  have ha' := z0W.mp ha
  have hb' := z0W.mp hb
  have e2 : (z7v st sp t a).cps.toList = (z7v st sp t b).cps.toList := congrArg (fun z : Str => z.cps.toList) e
  rw [z4N st h0 h1, z4N st h0 h1] at e2
  have e3 := List.append_cancel_left e2
  have e4 : sgL.getD ((t + a) % 12).toNat 0 = sgL.getD ((t + b) % 12).toNat 0 := (List.cons.inj e3).1
  have l1 : ((t + a) % 12).toNat < sgL.length := by rw [z98]; omega
  have l2 : ((t + b) % 12).toNat < sgL.length := by rw [z98]; omega
  rw [List.getD_eq_getElem?_getD, List.getElem?_eq_getElem l1, List.getD_eq_getElem?_getD, List.getElem?_eq_getElem l2] at e4
  have e5 := (List.getElem_inj y0C).mp e4
  exact z9l t0 t1 (by omega) (by omega) (by omega) (by omega) (by omega)
 lo := fun x hx => by
  obtain ⟨k, hk, rfl⟩ := List.mem_map.mp hx
  rw [z6m st h0 h1]
  omega
 hi := fun x hx => by
  obtain ⟨k, hk, rfl⟩ := List.mem_map.mp hx
  rw [z6m st h0 h1]
  have l1 : ("" : Str).length = 0 := by decide +kernel
  have l2 : ("row" : Str).length = 3 := by decide +kernel
  have l3 : z7P.length = 19 := by decide +kernel
  rcases hst with rfl | rfl | rfl <;> omega
 far := fun hx => by
  obtain ⟨k, hk, e⟩ := List.mem_map.mp hx
  have l1 : ("" : Str).length = 0 := by decide +kernel
  have l2 : ("row" : Str).length = 3 := by decide +kernel
  have l3 : z7P.length = 19 := by decide +kernel
  have l4 : farS.length = 20 := by decide +kernel
  have e2 := congrArg Str.length e
  rw [z6m st h0 h1] at e2
  rcases hst with rfl | rfl | rfl
  ·omega
  ·omega
  ·have e3 : (z7v z7P sp t k).cps.toList = farS.cps.toList := congrArg (fun z : Str => z.cps.toList) e
   rw [z4N z7P h0 h1] at e3
   exact y2V sp.toNat (by omega) ((t + k) % 12).toNat (by omega) e3
def y1p : Sp := fun vs H Q _ => ∃ c m : Int, vs = [.int c, .int m] /\ 0 ≤ m /\ m ≤ 12 /\
 ∀ (l : Addr) (nm : List Str) (H' : Hp), H l = none -> Same H H' -> H' l = some (.lst (nm.map V.str)) -> nm.length = m.toNat -> Nms nm -> Q (.ref l) H'
theorem z9x {f : Int -> V} (l : List Int) : z1Q (fun _ => true) f l = l.map f := by
 unfold z1Q
 rw [List.filter_eq_self.mpr fun _ _ => rfl]
theorem y3c (M : Bl mg) (F : Fun K "_law_named" "_law_named" z4k f fd) : FnOk P w K mg base CX0 1 f fd z4o y1p := by
 have nd := z5C.nd
 refine F.ok z5C (fun vs H Q E h => ?_) (fun cdv A outer s H vs Q E hr h => ?_)
 ·obtain ⟨c, m, rfl, _⟩ := h
  rfl
 obtain ⟨c, m, rfl, m0, m1, q⟩ := h
 refine ⟨_, (z03 (z0m (i := 2) nd rfl (Or.inr rfl) z80) (z03 (z0m (i := 3) nd rfl (Or.inr rfl) (z0p z0R (z0p z1b (pv 0) z07) z07)) (z03 (z0P (z0e z3P (z0p z0R (pv 0) z07) z07 (z0v _)) (z05 (z0k (z1p ["_law_k"] ["_law_cell", "_law_turn"] [0, 3] rfl (z0u rfl (by decide +kernel) rfl (by decide +kernel) rfl rfl) (z17 rfl M.range (z00 (pv 1) z04)) (fun _ _ _ _ _ => (z0j (i := 0) (show ((["_law_k"] : List PySem.Str) ++ (["_law_cell", "_law_turn"] : List PySem.Str)).Nodup from by decide +kernel) rfl (Or.inl rfl))) (z0w (by decide)) z0b (fun _ _ _ _ _ => z1B) (fun _ _ _ _ _ => (z0p z9X (z0Z y20 z80 (z0p z0R (z0p z1b (pv 1) z07) z07) (fun _ _ => rfl)) (z0p z1s z07 (z0p z0R (z0p z1s (pv 2) (pv 0)) z07))))))) z0r) (z03 (z0m (i := 4) nd rfl (Or.inr rfl) (z0Z z0B (z1N (z00 z80 (z00 z80 (z00 z80 z04)))) (z0p z0R (pv 0) z07) (fun _ _ => rfl))) (z03 (z0m (i := 5) nd rfl (Or.inr rfl) (z0p z0R (z0p z1b (pv 0) z07) (z0p z1s (z0c z7W rfl M.len PySem.boot_len (z00 (pv 4) z04)) z07))) (z05 (z0k (z1p ["_law_k"] ["_law_stem", "_law_signs", "_law_spot", "_law_turn"] [4, 2, 5, 3] rfl (z0u rfl (by decide +kernel) rfl (by decide +kernel) rfl rfl) (z17 rfl M.range (z00 (pv 1) z04)) (fun _ _ _ _ _ => (z0j (i := 0) (show ((["_law_k"] : List PySem.Str) ++ (["_law_stem", "_law_signs", "_law_spot", "_law_turn"] : List PySem.Str)).Nodup from by decide +kernel) rfl (Or.inl rfl))) (z0w (by decide)) z0b (fun _ _ _ _ _ => z1B) (fun _ _ _ _ _ => (z0p z7b (z0p z7b (z35 y3D (pv 1) z4x (z4r (pv 3))) (z0Z y20 (pv 2) (z0p z0R (z0p z1s (pv 4) (pv 0)) z07) (fun _ _ => rfl))) (z35 y3D (pv 1) (z4r (pv 3)) z4x))))))))))), ?_⟩
 have t0 : 0 ≤ c / 4 % 12 := Int.emod_nonneg _ (by decide)
 have t1 : c / 4 % 12 < 12 := Int.emod_lt_of_pos _ (by decide)
 refine ⟨_, rfl, _, _, rfl, rfl, ⟨by decide, by decide⟩, _, _, rfl, rfl, (by show (0 : Int) < 12; decide), ?_⟩
 refine ⟨_, rfl, _, _, rfl, rfl, (by show (0 : Int) < 4; decide), rfl, _, rfl, ?_⟩
 refine ite2 (fun _ => ?_) (fun cn => ?_)
 ·obtain ⟨sg, hsg⟩ : ∃ sg, atI (("a ~" : Str).cps.toList) (c / 48 % 3) = some sg := by
   have h0 : 0 ≤ c / 48 % 3 := Int.emod_nonneg _ (by decide)
   have h1 : c / 48 % 3 < 3 := Int.emod_lt_of_pos _ (by decide)
   have ek : c / 48 % 3 = (((c / 48 % 3).toNat : Nat) : Int) := by omega
   have hl : (("a ~" : Str).cps.toList).length = 3 := by decide +kernel
   rw [ek]
   exact ⟨_, z0J (List.getElem?_eq_getElem (by rw [hl]; omega))⟩
  refine ⟨_, rfl, _, rfl, by omega, by omega, ?_⟩
  refine z5j (lo := 0) (n := m.toNat) (fun _ => true) (fun k => .str (repN sg (c / 4 % 12) k)) (by omega) (fun k ys N k0 k1 hN => ?_) ?_
  ·refine ⟨_, rfl, _, _, rfl, rfl, ⟨by decide, by decide⟩, _, _, rfl, rfl, (by show (0 : Int) < 3; decide), _, _, sg, rfl, rfl, (by decide +kernel), hsg, ?_⟩
   refine ⟨_, rfl, _, rfl, _, _, rfl, rfl, _, _, rfl, rfl, (by show (0 : Int) < 12; decide), _, _, rfl, rfl, _, _, rfl, rfl, ?_, ?_, ?_, ?_⟩
   ·have := Int.emod_nonneg (c / 4 % 12 + k) (show (12 : Int) ≠ 0 by decide)
    omega
   ·have := Int.emod_lt_of_pos (c / 4 % 12 + k) (show (0 : Int) < 12 by decide)
    omega
   ·show 1 ≤ 1000
    decide
   ·exact hN
  ·intro D hD
   rw [z9x]
   refine q D ((upI 0 m.toNat).map (repN sg (c / 4 % 12))) _ hD (z01 hD _) ?_ (by rw [List.length_map, z0H]) (y4b sg t0 t1 (by omega))
   rw [z02, List.map_map]
   rfl
 ·have c4 : c % 4 = 0 \/ c % 4 = 1 \/ c % 4 = 2 := by
   have h1 := Int.emod_nonneg c (show (4 : Int) ≠ 0 by decide)
   have h2 := Int.emod_lt_of_pos c (show (0 : Int) < 4 by decide)
   have h3 : c % 4 ≠ 3 := fun e => cn (decide_eq_true (congrArg V.int e))
   omega
  obtain ⟨st, hat, hst⟩ : ∃ st : Str, atI [V.str "", V.str "row", V.str "a long stem of them"] (c % 4) = some (.str st) /\ (st = "" \/ st = "row" \/ st = z7P) := by
   rcases c4 with e | e | e <;> rw [e]
   ·exact ⟨_, rfl, .inl rfl⟩
   ·exact ⟨_, rfl, .inr (.inl rfl)⟩
   ·exact ⟨_, rfl, .inr (.inr rfl)⟩
  have stl : st.length ≤ 19 := by
   have l1 : ("" : Str).length = 0 := by decide +kernel
   have l2 : ("row" : Str).length = 3 := by decide +kernel
   have l3 : z7P.length = 19 := by decide +kernel
   rcases hst with rfl | rfl | rfl <;> omega
  refine ⟨(by show 3 ≤ sizeLine; decide), fun p hp => ⟨_, rfl, _, _, rfl, rfl, (by show (0 : Int) < 4; decide), p, _, _, _, rfl, rfl, SqL.of z02, hat, ?_⟩⟩
  refine ⟨_, rfl, _, _, rfl, rfl, ⟨by decide, by decide⟩, _, rfl, st, rfl, z8R (by omega), _, _, rfl, rfl, _, _, rfl, rfl, by omega, ?_⟩
  have s0 : 0 ≤ c / 48 % ((st.length : Int) + 1) := Int.emod_nonneg _ (by omega)
  have s1 : c / 48 % ((st.length : Int) + 1) ≤ (st.length : Int) := by
   have := Int.emod_lt_of_pos (c / 48) (show (0 : Int) < (st.length : Int) + 1 by omega)
   omega
  refine ⟨_, rfl, _, rfl, by omega, by omega, ?_⟩
  refine z5j (lo := 0) (n := m.toNat) (fun _ => true) (fun k => .str (z7v st (c / 48 % ((st.length : Int) + 1)) (c / 4 % 12) k)) (by omega) (fun k ys N k0 k1 hN => ?_) ?_
  ·have i0 := Int.emod_nonneg (c / 4 % 12 + k) (show (12 : Int) ≠ 0 by decide)
   have i1 := Int.emod_lt_of_pos (c / 4 % 12 + k) (show (0 : Int) < 12 by decide)
   have hsg : atI (("mM ~aA0.xX_9" : Str).cps.toList) ((c / 4 % 12 + k) % 12) = some (sgL.getD ((c / 4 % 12 + k) % 12).toNat 0) := by
    have ek : (c / 4 % 12 + k) % 12 = ((((c / 4 % 12 + k) % 12).toNat : Nat) : Int) := by omega
    have l1 : ((c / 4 % 12 + k) % 12).toNat < sgL.length := by rw [z98]; omega
    have q1 : atI sgL ((((c / 4 % 12 + k) % 12).toNat : Nat) : Int) = some (sgL.getD ((c / 4 % 12 + k) % 12).toNat 0) := z0J (by
     rw [List.getD_eq_getElem?_getD, List.getElem?_eq_getElem l1]
     rfl)
    rw [<- ek] at q1
    exact q1
   have la : (cutS st none (some (c / 48 % ((st.length : Int) + 1)))).length ≤ 19 := by
    rw [<- z1m, y3q st s0 s1, List.length_take, z1m]
    omega
   have lb : (cutS st (some (c / 48 % ((st.length : Int) + 1))) none).length ≤ 19 := by
    rw [<- z1m, y3n st s0 s1, List.length_drop, z1m]
    omega
   have lc : ∀ (x : Nat), (⟨#[x]⟩ : Str).length = 1 := fun _ => rfl
   have lab : ∀ (x : Nat), (cutS st none (some (c / 48 % ((st.length : Int) + 1))) ++ (⟨#[x]⟩ : Str)).length ≤ 20 := fun x => by
    rw [<- z1m, z9b, List.length_append, z1m, z1m, lc]
    omega
   refine ⟨_, rfl, _, rfl, _, rfl, st, rfl, z8R (by omega), ?_⟩
   refine ⟨_, rfl, _, rfl, _, rfl, _, _, rfl, rfl, _, _, rfl, rfl, (by show (0 : Int) < 12; decide), _, _, _, rfl, rfl, (by decide +kernel), hsg, ?_⟩
   refine ⟨_, _, rfl, rfl, z8R (by rw [lc]; omega), ?_⟩
   refine ⟨_, rfl, _, rfl, _, rfl, st, rfl, z8R (by omega), _, _, rfl, rfl, z8R (by have := lab (sgL.getD ((c / 4 % 12 + k) % 12).toNat 0); omega), ?_⟩
   exact hN
  ·intro D hD
   rw [z9x]
   refine q D ((upI 0 m.toNat).map (z7v st (c / 48 % ((st.length : Int) + 1)) (c / 4 % 12))) _ ((z01 hp _).free hD) ((z01 hp _).trans (z01 hD _)) ?_ (by rw [List.length_map, z0H]) (y2J hst s0 s1 t0 t1 (by omega))
   rw [z02, List.map_map]
   rfl
def z3D : Sp := fun vs H Q _ => ∃ t : Int, vs = [.int t] /\ 0 ≤ t /\ t < 1000000 /\ Q (.int (2 ^ t.toNat)) H
theorem y0l (M : Bl mg) (F : Fun K "_law_doubled" "_law_doubled" z33 f fd) : FnOk P w K mg base CX0 1 f fd z2d z3D := by
 have nd := z3X.nd
 refine F.ok z3X (fun vs H Q E h => ?_) (fun cdv A outer s H vs Q E hr h => ?_)
 ·obtain ⟨t, rfl, _⟩ := h
  rfl
 obtain ⟨t, rfl, t0, t1, q⟩ := h
 refine ⟨_, (z03 (z0m (i := 1) nd rfl (Or.inl rfl) z07) (z03 (z1g PassesOwn.never rfl (z17 rfl M.range (z00 (pv 0) z04)) (z0j (i := 2) nd rfl (Or.inl rfl)) (z05 (z0m (i := 1) nd rfl (Or.inl rfl) (z0p z3K (pv 1) z07)))) (z05 (z0k (pv 1))))), ?_⟩
 refine ⟨_, rfl, _, rfl, by omega, by omega, ?_⟩
 refine z1y (lo := 0) (n := t.toNat) (fun i σ H' => H' = H /\ ∃ o, σ = [some (.int t), some (.int (2 ^ i)), o]) ⟨rfl, _, rfl⟩ (fun i σ H' hi hp => ?_) (fun σ H' hp => ?_)
 ·obtain ⟨rfl, o, rfl⟩ := hp
  refine ⟨_, rfl, _, _, rfl, rfl, .inr ⟨by decide, by decide⟩, rfl, some (.int (0 + (i : Int))), ?_⟩
  rw [Int.pow_succ]
  rfl
 ·obtain ⟨rfl, o, rfl⟩ := hp
  exact ⟨_, rfl, q⟩
def z8m (H : Hp) (l : Addr) (v : V) (s : List Str) : Prop := ∃ a, v = .ref a /\ a ≠ l /\ H a = some (.lst (s.map V.str))
theorem z8m.keep {H H' : Hp} (g : Same H H') {l : Addr} {v : V} {s : List Str} (h : z8m H l v s) : z8m H' l v s := let ⟨a, e, n, q⟩ := h; ⟨a, e, n, g _ _ q⟩
theorem z8m.over {H : Hp} {l : Addr} {o : HO} {v : V} {s : List Str} (h : z8m H l v s) : z8m (upd H l o) l v s := let ⟨a, e, n, q⟩ := h; ⟨a, e, n, by rw [z09 n]; exact q⟩
abbrev z1P (H : Hp) (l : Addr) : List V -> List (List Str) -> Prop := Paired (z8m H l)
theorem z1P.keep {H H' : Hp} (g : Same H H') {l : Addr} : ∀ {xs : List V} {ss : List (List Str)}, z1P H l xs ss -> z1P H' l xs ss
 | _, _, .nil => .nil
 | _, _, .cons r t => .cons (r.keep g) (z1P.keep g t)
theorem z1P.over {H : Hp} {l : Addr} {o : HO} : ∀ {xs : List V} {ss : List (List Str)}, z1P H l xs ss -> z1P (upd H l o) l xs ss
 | _, _, .nil => .nil
 | _, _, .cons r t => .cons r.over (z1P.over t)
theorem z1P.len {H : Hp} {l : Addr} : ∀ {xs : List V} {ss : List (List Str)}, z1P H l xs ss -> xs.length = ss.length
 | _, _, .nil => rfl
 | _, _, .cons _ t => by rw [List.length_cons, List.length_cons, z1P.len t]
theorem z1P.get {H : Hp} {l : Addr} : ∀ {xs : List V} {ss : List (List Str)}, z1P H l xs ss -> ∀ (i : Nat) (s : List Str), ss[i]? = some s -> ∃ v, xs[i]? = some v /\ z8m H l v s
 | _, _, .nil, i, s, e => by simp at e
 | _, _, .cons r t, 0, s, e => by
  simp at e
  subst e
  exact ⟨_, rfl, r⟩
 | _, _, .cons r t, i + 1, s, e => by
  obtain ⟨v, h1, h2⟩ := z1P.get t i s (by simpa using e)
  exact ⟨v, by simpa using h1, h2⟩
theorem z13 (ns : List Str) : (ns.map V.str).all z1G = true := by
 rw [List.all_map, List.all_eq_true]
 intro x _
 rfl
theorem y3V {ns : List Str} {k : Int} (h0 : 0 ≤ k) (h : k < (ns.length : Int)) : ∃ x, ns[k.toNat]? = some x /\ atI (ns.map V.str) k = some (.str x) := by
 have hk : k.toNat < ns.length := by omega
 have ek : k = ((k.toNat : Nat) : Int) := by omega
 have q : atI (ns.map V.str) ((k.toNat : Nat) : Int) = some (.str ns[k.toNat]) := z0J (by rw [List.getElem?_map, List.getElem?_eq_getElem hk]; rfl)
 rw [<- ek] at q
 exact ⟨_, List.getElem?_eq_getElem hk, q⟩
def y2a (K : PySem.W.Frag) : Sp := fun vs H Q _ => ∃ (ln : Addr) (nm : List Str) (c m : Int), vs = [.ref ln, .int c, .int m] /\ SqL K H ln (nm.map V.str) /\ 1 ≤ nm.length /\ nm.length ≤ 12 /\ 0 ≤ m /\ m ≤ 900 /\
 ∀ (l : Addr) (xs : List V) (ss : List (List Str)) (H' : Hp), H l = none -> Same H H' -> H' l = some (.lst xs) -> z1P H' l xs ss -> ss.length = m.toNat -> (∀ s ∈ ss, s.Sublist nm) -> Q (.ref l) H'
theorem two_pow_le {n : Nat} (h : n ≤ 12) : (1 : Int) ≤ 2 ^ n /\ (2 : Int) ^ n ≤ 4096 := by
 have : ∀ k ≤ 12, (1 : Int) ≤ 2 ^ k /\ (2 : Int) ^ k ≤ 4096 := by decide
 exact this n h
theorem y46 (M : Bl mg) (F : Fun K "_law_sets" "_law_sets" z5r f fd) (G_law_row : Cal P w K mg base 1 "_law_row" z2o y04) (G_law_doubled : Cal P w K mg base 1 "_law_doubled" z2d z3D) :
  FnOk P w K mg base CX0 2 f fd z3M (y2a K) := by
 have nd := z6x.nd
 refine F.ok z6x (fun vs H Q E h => ?_) (fun cdv A outer s H vs Q E hr h => ?_)
 ·obtain ⟨ln, nm, c, m, rfl, _⟩ := h
  rfl
 obtain ⟨ln, nm, c, m, rfl, hS, n1, n2, m0, m1, q⟩ := h
 refine ⟨_, (z03 (z0m (i := 3) nd rfl (Or.inl rfl) (z0o G_law_doubled (rm hr) rfl (z00 (z0c z0a rfl M.len PySem.boot_len (z00 (pv 0) z04)) z04))) (z03 (z0m (i := 4) nd rfl (Or.inl rfl) (z1N z04)) (z03 (z1g PassesOwn.never rfl (z1u (z0o G_law_row (rm hr) rfl (z00 (pv 1) (z00 (pv 2) (z00 (z0p z3K z07 (pv 3)) z04))))) (z0j (i := 5) nd rfl (Or.inl rfl)) (z03 (z0m (i := 6) nd rfl (Or.inl rfl) (z0p z0R (pv 5) (pv 3))) (z03 (z0m (i := 7) nd rfl (Or.inl rfl) (z1N z04)) (z03 (z1g PassesOwn.never rfl (z1u (pv 0)) (z0j (i := 8) nd rfl (Or.inl rfl)) (z03 (z0P (z0e z3P (z0p z0R (pv 6) z07) z07 (z0v _)) (z05 (z0y (z2V PySem.F.plainAttrs_list PySem.F.slot_list_append PySem.F.type_list_append z0I (pv 7) (z00 (pv 8) z04)))) z0r) (z05 (z0m (i := 6) nd rfl (Or.inl rfl) (z0p z1b (pv 6) z07))))) (z03 (z0P (z0e z3P (z0p z1b (pv 5) (pv 3)) z07 (z0v _)) (z05 (z0m (i := 7) nd rfl (Or.inl rfl) (z1N (z00 (z0Z z0B (pv 0) (z0p z0R (pv 5) (z0c z0a rfl M.len PySem.boot_len (z00 (pv 0) z04))) (fun _ _ => rfl)) z04)))) z0r) (z03 (z0P (z0e z3P (z0p z1b (pv 5) (pv 3)) z07 (z0v _)) (z05 (z0m (i := 7) nd rfl (Or.inl rfl) (z1N z04))) z0r) (z03 (z0P (z0e z3P (z0p z1b (pv 5) (pv 3)) z07 (z0v _)) (z05 (z0m (i := 7) nd rfl (Or.inl rfl) (z0t z2u rfl M.list PyProof.Rows.boot_list (z00 (pv 0) z04)))) z0r) (z05 (z0y (z2V PySem.F.plainAttrs_list PySem.F.slot_list_append PySem.F.type_list_append z0I (pv 4) (z00 (pv 7) z04))))))))))) (z05 (z0k (pv 4)))))), ?_⟩
 have hl0 : (nm.map V.str).length = nm.length := List.length_map _
 refine ⟨_, rfl, ln, _, rfl, .inl hS, _, rfl, by omega, by omega, ?_⟩
 have pw := two_pow_le n2
 rw [hl0]
 have ez : (2 : Int) ^ (((nm.length : Nat) : Int).toNat) = 2 ^ nm.length := rfl
 rw [ez]
 generalize hz : (2 : Int) ^ nm.length = z at pw ⊢
 refine ⟨(by show 0 ≤ sizeLine; decide), fun l hl => ?_⟩
 refine ⟨_, rfl, _, rfl, _, rfl, _, _, rfl, rfl, .inl ⟨by decide, by decide⟩, c, m, 4 * z, rfl, m0, m1, by omega, by omega, fun lf fs H1 nlf s1 e1 len1 all1 => ?_⟩
 have sl := z01 (H := H) hl (.lst [])
 have nl : lf ≠ l := fun e => by rw [e, z02] at nlf; cases nlf
 have el1 : H1 l = some (.lst []) := s1 _ _ z02
 refine ⟨lf, rfl, ⟨_, SqL.of e1⟩, ?_⟩
 refine z1I (xs := fs.map V.int) (fun i σ H' => ∃ (xs : List V) (ss : List (List Str)) (o1 o2 o3 o4 : Option V), H' l = some (.lst xs) /\ z1P H' l xs ss /\ ss.length = i /\ (∀ s ∈ ss, s.Sublist nm) /\ H' lf = some (.lst (fs.map V.int)) /\ Same H H' /\
  σ = [some (.ref ln), some (.int c), some (.int m), some (.int z), some (.ref l), o1, o2, o3, o4]) ⟨[], [], _, _, _, _, el1, .nil, rfl, (fun _ h => nomatch h), e1, sl.trans s1, rfl⟩ (fun i σ H' hi hp => ?_) (fun i x σ H' hx hp => ?_) (fun σ H' hp => ?_)
 ·obtain ⟨xs, ss, o1, o2, o3, o4, _, _, _, _, h2, _⟩ := hp
  exact SqL.of h2
 ·obtain ⟨xs, ss, o1, o2, o3, o4, p1, p2, p3, p4, p5, p6, rfl⟩ := hp
  rw [List.getElem?_map] at hx
  cases ef : fs[i]? with
  | none => rw [ef] at hx; cases hx
  | some g =>
   rw [ef] at hx
   cases hx
   have hg := all1 g (List.mem_of_getElem? ef)
   have hi : i < fs.length := (List.getElem?_eq_some_iff.mp ef).1
   have lx := p2.len
   have cd : CDiv g z := ⟨by omega, by omega⟩
   refine ⟨_, rfl, _, rfl, _, _, rfl, rfl, (by omega), ?_⟩
   refine ⟨(by show 0 ≤ sizeLine; decide), fun a ha => ?_⟩
   have nal : a ≠ l := fun e => by rw [e, p1] at ha; cases ha
   have naf : a ≠ lf := fun e => by rw [e, p5] at ha; cases ha
   refine ⟨_, rfl, ln, rfl, ⟨_, (p6.trans (z01 ha _)).seq hS⟩, ?_⟩
   refine z1I (xs := nm.map V.str) (fun k σ H2 => ∃ (ch : List Str) (mk : Int) (o4 : Option V), ch.Sublist (nm.take k) /\ H2 = upd H' a (.lst (ch.map V.str)) /\
    σ = [some (.ref ln), some (.int c), some (.int m), some (.int z), some (.ref l), some (.int g), some (.int mk), some (.ref a), o4]) ⟨[], _, _, List.Sublist.refl _, rfl, rfl⟩ (fun k σ H2 hk hp => ?_) (fun k y σ H2 hy hp => ?_) (fun σ H2 hp => ?_)
   ·obtain ⟨ch, mk, o4, _, rfl, _⟩ := hp
    exact (p6.trans (z01 ha _)).seq hS
   ·obtain ⟨ch, mk, o4, hch, rfl, rfl⟩ := hp
    rw [List.getElem?_map] at hy
    cases en : nm[k]? with
    | none => rw [en] at hy; cases hy
    | some nk =>
     rw [en] at hy
     cases hy
     have tk := z0l en
     have hcl : ch.length ≤ 12 := by
      have := hch.length_le
      rw [List.length_take] at this
      omega
     refine ⟨_, rfl, _, _, rfl, rfl, (by show (0 : Int) < 2; decide), rfl, _, rfl, ?_⟩
     refine ite2 (fun _ => ?_) (fun _ => ?_)
     ·refine ⟨_, rfl, .inl ⟨rfl, _, SqL.of z02⟩, _, rfl, a, _, _, rfl, rfl, z02, z0d (by rw [List.length_map]; omega), ?_⟩
      refine ⟨_, rfl, _, _, rfl, rfl, ⟨by decide, by decide⟩, ch ++ [nk], _, some (.str nk), ?_, ?_, rfl⟩
      ·rw [tk]
       exact hch.append (List.Sublist.refl _)
      ·rw [z4h, List.map_append]
       rfl
     ·refine ⟨_, rfl, _, _, rfl, rfl, ⟨by decide, by decide⟩, ch, _, some (.str nk), ?_, rfl, rfl⟩
      rw [tk]
      exact hch.trans (List.sublist_append_left _ _)
   ·obtain ⟨ch, mk, o4, hch, rfl, rfl⟩ := hp
    rw [List.length_map, List.take_length] at hch
    have fin : ∀ (b : Addr) (cs : List Str) (H3 : Hp) (o2 o4 : Option V), cs.Sublist nm -> b ≠ l -> H3 b = some (.lst (cs.map V.str)) -> Same (upd H' a (.lst (ch.map V.str))) H3 ->
      ∃ (xs' : List V) (ss' : List (List Str)) (o1' o2' o3' o4' : Option V), upd H3 l (.lst (xs ++ [.ref b])) l = some (.lst xs') /\ z1P (upd H3 l (.lst (xs ++ [.ref b]))) l xs' ss' /\ ss'.length = i + 1 /\ (∀ s ∈ ss', s.Sublist nm) /\
       upd H3 l (.lst (xs ++ [.ref b])) lf = some (.lst (fs.map V.int)) /\ Same H (upd H3 l (.lst (xs ++ [.ref b]))) /\
       ([some (.ref ln), some (.int c), some (.int m), some (.int z), some (.ref l), some (.int g), o2, some (.ref b), o4] : St) = [some (.ref ln), some (.int c), some (.int m), some (.int z), some (.ref l), o1', o2', o3', o4'] := by
     intro b cs H3 o2 o4 hcs hb hb3 g3
     have g4 : Same H' H3 := (z01 ha _).trans g3
     refine ⟨_, ss ++ [cs], _, _, _, _, z02, ?_, by rw [List.length_append, p3]; rfl, fun s' hs' => ?_, ?_, z1z (p6.trans g4) hl, rfl⟩
     ·exact Paired.snoc (p2.keep g4).over ⟨b, rfl, hb, by rw [z09 hb]; exact hb3⟩
     ·rcases List.mem_append.mp hs' with h | h
      ·exact p4 s' h
      ·rw [List.mem_singleton.mp h]
       exact hcs
     ·rw [z09 nl]
      exact g4 _ _ p5
    have el : ∀ {H3 : Hp}, Same (upd H' a (.lst (ch.map V.str))) H3 -> H3 l = some (.lst xs) := fun {H3} g3 => g3 _ _ ((z01 ha _) _ _ p1)
    have app : ∀ {H3 : Hp}, Same (upd H' a (.lst (ch.map V.str))) H3 -> xs.length < sizeLine := fun _ => z0d (by omega)
    refine ⟨_, rfl, _, rfl, _, _, rfl, rfl, cd, rfl, _, rfl, ?_⟩
    refine ite2 (fun d1 => ?_) (fun d1 => ?_)
    ·obtain ⟨x1, hx1, ax1⟩ := y3V (ns := nm) (k := g % (((nm.map V.str).length : Nat) : Int)) (Int.emod_nonneg _ (by omega)) (by rw [hl0]; exact Int.emod_lt_of_pos _ (by omega))
     have q1 : g / z = 1 := V.int.inj (z0G d1)
     refine ⟨_, rfl, _, rfl, _, rfl, ln, _, rfl, .inl ((p6.trans (z01 ha _)).seq hS), _, _, rfl, rfl, (by rw [hl0]; omega), ln, _, _, _, rfl, rfl, (p6.trans (z01 ha _)).seq hS, ax1, (by show 1 ≤ sizeLine; decide), fun b1 hb1 => ?_⟩
     have g1 := z01 hb1 (.lst [.str x1])
     have sub1 : [x1].Sublist nm := List.singleton_sublist.mpr (List.mem_of_getElem? hx1)
     refine ⟨_, rfl, _, rfl, _, _, rfl, rfl, cd, rfl, _, rfl, ?_⟩
     refine ite2 (fun d => absurd (show g / z = 2 from V.int.inj (z0G d)) (by omega)) (fun _ => ⟨_, rfl, _, rfl, _, _, rfl, rfl, cd, rfl, _, rfl, ?_⟩)
     refine ite2 (fun d => absurd (show g / z = 3 from V.int.inj (z0G d)) (by omega)) (fun _ => ?_)
     refine ⟨_, rfl, .inl ⟨rfl, _, SqL.of (el g1)⟩, _, rfl, l, _, _, rfl, rfl, el g1, app g1, ?_⟩
     exact fin b1 [x1] _ _ _ sub1 (fun e => by rw [e, (z01 ha (.lst (ch.map V.str))) _ _ p1] at hb1; cases hb1) z02 g1
    ·refine ⟨_, rfl, _, rfl, _, _, rfl, rfl, cd, rfl, _, rfl, ?_⟩
     refine ite2 (fun d2 => ?_) (fun d2 => ?_)
     ·have q2 : g / z = 2 := V.int.inj (z0G d2)
      refine ⟨(by show 0 ≤ sizeLine; decide), fun b1 hb1 => ?_⟩
      have g1 := z01 hb1 (.lst [])
      refine ⟨_, rfl, _, rfl, _, _, rfl, rfl, cd, rfl, _, rfl, ?_⟩
      refine ite2 (fun d => absurd (show g / z = 3 from V.int.inj (z0G d)) (by omega)) (fun _ => ?_)
      refine ⟨_, rfl, .inl ⟨rfl, _, SqL.of (el g1)⟩, _, rfl, l, _, _, rfl, rfl, el g1, app g1, ?_⟩
      exact fin b1 [] _ _ _ (List.nil_sublist _) (fun e => by rw [e, (z01 ha (.lst (ch.map V.str))) _ _ p1] at hb1; cases hb1) z02 g1
     ·refine ⟨_, rfl, _, rfl, _, _, rfl, rfl, cd, rfl, _, rfl, ?_⟩
      refine ite2 (fun d3 => ?_) (fun d3 => ?_)
      ·refine ⟨_, rfl, ln, _, rfl, .inl ((p6.trans (z01 ha _)).seq hS), fun b1 hb1 => ?_⟩
       have g1 := z01 hb1 (.lst (nm.map V.str))
       refine ⟨_, rfl, .inl ⟨rfl, _, SqL.of (el g1)⟩, _, rfl, l, _, _, rfl, rfl, el g1, app g1, ?_⟩
       exact fin b1 nm _ _ _ (List.Sublist.refl _) (fun e => by rw [e, (z01 ha (.lst (ch.map V.str))) _ _ p1] at hb1; cases hb1) z02 g1
      ·refine ⟨_, rfl, .inl ⟨rfl, _, SqL.of (el (Same.refl _))⟩, _, rfl, l, _, _, rfl, rfl, el (Same.refl _), app (Same.refl _), ?_⟩
       exact fin a ch _ _ _ hch nal z02 (Same.refl _)
 ·obtain ⟨xs, ss, o1, o2, o3, o4, p1, p2, p3, p4, p5, p6, rfl⟩ := hp
  rw [List.length_map] at p3
  exact ⟨_, rfl, q l xs ss _ hl p6 p1 p2 (by rw [p3, len1]) p4⟩
abbrev Row := List (Str × Int)
def z7Y (p : Str × Int) : DV := .tup [.str p.1, .int p.2]
def rowD (r : Row) : DV := .tup (r.map z7Y)
theorem y0Y {H : Hp} {a : Addr} {x : Str} {z : Int} (h : H a = some (.tup [.str x, .int z])) : Tell H (z7Y (x, z)) (.ref a) := z0E h (by show 2 ≤ 1000000; decide) (.cons (z4G x) (.cons (z2c z) .nil))
theorem z9f {xs : List V} : ∀ ys, HO.lst xs ≠ .tup ys := fun _ e => by cases e
def y1x : Sp := fun vs H Q _ => ∃ g p : Int, vs = [.int g, .int p] /\ ∀ r, 0 ≤ r -> r ≤ 1000000 -> Q (.int r) H
theorem y2z (F : Fun K "_law_value" "_law_value" z4A f fd) : FnOk P w K mg base CX0 1 f fd z4z y1x := by
 have nd := z5T.nd
 refine F.ok z5T (fun vs H Q E h => ?_) (fun cdv A outer s H vs Q E hr h => ?_)
 ·obtain ⟨g, p, rfl, _⟩ := h
  rfl
 obtain ⟨g, p, rfl, q⟩ := h
 refine ⟨_, (z03 (z0P (z0e z3P (z0p z1b (pv 0) z07) z07 (z0v _)) (z05 (z0k (z0p z0R (z0p z1s (pv 0) (z0p z3K z07 (pv 1))) z07))) z0r) (z03 (z0P (z0e z3P (z0p z1b (pv 0) z07) z07 (z0v _)) (z05 (z0k (z0p z3K z07 (z0p z0R (z0p z1s (pv 0) (pv 1)) z07)))) z0r) (z05 (z0k (z0p z0R (z0p z1s (pv 0) (pv 1)) z07))))), ?_⟩
 refine ⟨_, rfl, _, _, rfl, rfl, ⟨by decide, by decide⟩, rfl, _, rfl, ?_⟩
 refine ite2 (fun _ => ?_) (fun _ => ?_)
 ·refine ⟨_, rfl, _, rfl, _, _, rfl, rfl, .inl ⟨by decide, by decide⟩, _, _, rfl, rfl, _, _, rfl, rfl, (by show (0 : Int) < 1000001; decide), ?_⟩
  have h1 := Int.emod_nonneg (g + 7 * p) (show (1000001 : Int) ≠ 0 by decide)
  have h2 := Int.emod_lt_of_pos (g + 7 * p) (show (0 : Int) < 1000001 by decide)
  exact q _ h1 (by omega)
 ·refine ⟨_, rfl, _, _, rfl, rfl, ⟨by decide, by decide⟩, rfl, _, rfl, ?_⟩
  have h1 := Int.emod_nonneg (g + p) (show (2 : Int) ≠ 0 by decide)
  have h2 := Int.emod_lt_of_pos (g + p) (show (0 : Int) < 2 by decide)
  refine ite2 (fun _ => ?_) (fun _ => ?_)
  ·refine ⟨_, rfl, _, rfl, _, _, rfl, rfl, _, _, rfl, rfl, (by show (0 : Int) < 2; decide), _, _, rfl, rfl, .inl ⟨by decide, by decide⟩, ?_⟩
   exact q _ (by omega) (by omega)
  ·refine ⟨_, rfl, _, rfl, _, _, rfl, rfl, _, _, rfl, rfl, (by show (0 : Int) < 2; decide), ?_⟩
   exact q _ h1 (by omega)
structure Rws (nm : List Str) (rows : List Row) : Prop where
 sub : ∀ r ∈ rows, (r.map Prod.fst).Sublist nm
 val : ∀ r ∈ rows, ∀ p ∈ r, 0 ≤ p.2 /\ p.2 ≤ 1000000
def z9D : Sp := fun vs H Q _ => ∃ (l : Addr) (xs : List V) (ss : List (List Str)) (c : Int), vs = [.ref l, .int c] /\ H l = some (.lst xs) /\ z1P H l xs ss /\ ss.length ≤ 900 /\ (∀ s ∈ ss, s.length ≤ 12) /\
 ∀ (lr : Addr) (us : List V) (rows : List Row) (H' : Hp), H lr = none -> Same H H' -> H' lr = some (.lst us) -> z08 H' (rows.map rowD) us -> rows.map (fun r => r.map Prod.fst) = ss -> (∀ r ∈ rows, ∀ p ∈ r, 0 ≤ p.2 /\ p.2 ≤ 1000000) -> Q (.ref lr) H'
theorem y1W (M : Bl mg) (F : Fun K "_law_valued" "_law_valued" z3B f fd) (G_law_row : Cal P w K mg base 1 "_law_row" z2o y04) (G_law_value : Cal P w K mg base 1 "_law_value" z4z y1x) :
  FnOk P w K mg base CX0 2 f fd z3z z9D := by
 have nd := z4C.nd
 refine F.ok z4C (fun vs H Q E h => ?_) (fun cdv A outer s H vs Q E hr h => ?_)
 ·obtain ⟨l, xs, ss, c, rfl, _⟩ := h
  rfl
 obtain ⟨l, xs, ss, c, rfl, hL, hSs, n0, n1, q⟩ := h
 refine ⟨_, (z03 (z0m (i := 2) nd rfl (Or.inl rfl) (z0o G_law_row (rm hr) rfl (z00 (pv 1) (z00 (z0c z0a rfl M.len PySem.boot_len (z00 (pv 0) z04)) (z00 z07 z04))))) (z03 (z0m (i := 3) nd rfl (Or.inl rfl) (z1N z04)) (z03 (z1g PassesOwn.never rfl (z17 rfl M.range (z00 (z0c z0a rfl M.len PySem.boot_len (z00 (pv 0) z04)) z04)) (z0j (i := 4) nd rfl (Or.inl rfl)) (z03 (z0m (i := 5) nd rfl (Or.inl rfl) (z1N z04)) (z03 (z1g PassesOwn.never rfl (z17 rfl M.range (z00 (z0c z0a rfl M.len PySem.boot_len (z00 (z0Z z0B (pv 0) (pv 4) (fun _ _ => rfl)) z04)) z04)) (z0j (i := 6) nd rfl (Or.inl rfl)) (z05 (z0y (z2V PySem.F.plainAttrs_list PySem.F.slot_list_append PySem.F.type_list_append z0I (pv 5) (z00 (z41 (z00 (z0Z z0B (z0Z z0B (pv 0) (pv 4) (fun _ _ => rfl)) (pv 6) (fun _ _ => rfl)) (z00 (z0o G_law_value (rm hr) rfl (z00 (z0Z z0B (pv 2) (pv 4) (fun _ _ => rfl)) (z00 (pv 6) z04))) z04))) z04))))) (z05 (z0y (z2V PySem.F.plainAttrs_list PySem.F.slot_list_append PySem.F.type_list_append z0I (pv 3) (z00 (z0t z0s rfl M.tuple PyProof.Rows.boot_tuple (z00 (pv 5) z04)) z04))))))) (z05 (z0k (pv 3)))))), ?_⟩
 have hl0 := hSs.len
 refine ⟨_, rfl, _, rfl, l, _, rfl, .inl (SqL.of hL), _, _, _, rfl, by omega, by omega, by decide, by decide, fun lf fs H1 nlf s1 e1 len1 all1 => ?_⟩
 have len1' : fs.length = ss.length := by rw [len1, hl0]; rfl
 refine ⟨(by show 0 ≤ sizeLine; decide), fun lr hlr => ?_⟩
 have nr : lf ≠ lr := z0i e1 hlr
 have nlr0 : H lr = none := s1.free hlr
 refine ⟨_, rfl, l, _, rfl, .inl (SqL.of ((s1.trans (z01 hlr _)) _ _ hL)), _, rfl, by omega, by omega, ?_⟩
 refine z1y (lo := 0) (n := ((xs.length : Nat) : Int).toNat) (fun i σ H' => ∃ (us : List V) (rows : List Row) (o1 o2 o3 : Option V), H' lr = some (.lst us) /\ z08 H' (rows.map rowD) us /\ rows.map (fun r => r.map Prod.fst) = ss.take i /\ (∀ r ∈ rows, ∀ p ∈ r, 0 ≤ p.2 /\ p.2 ≤ 1000000) /\ Same H1 H' /\
  σ = [some (.ref l), some (.int c), some (.ref lf), some (.ref lr), o1, o2, o3]) ⟨[], [], _, _, _, z02, .nil, rfl, (fun _ h => nomatch h), z01 hlr _, rfl⟩ (fun i σ H' hi hp => ?_) (fun σ H' hp => ?_)
 ·obtain ⟨us, rows, o1, o2, o3, p1, p2, p3, p4, p5, rfl⟩ := hp
  have hi' : i < ss.length := by
   have : ((xs.length : Nat) : Int).toNat = xs.length := rfl
   omega
  have ei : (0 : Int) + (i : Int) = (i : Int) := Int.zero_add _
  have es : ss[i]? = some ss[i] := List.getElem?_eq_getElem hi'
  generalize ss[i] = sI at es
  have hsI := n1 sI (List.mem_of_getElem? es)
  obtain ⟨v, hv, a, rfl, na, ha⟩ := hSs.get i sI es
  have lus := p2.length
  rw [List.length_map] at lus
  have lrows : rows.length = i := by
   have := congrArg List.length p3
   rw [List.length_map, List.length_take] at this
   omega
  have atv : atI xs ((0 : Int) + (i : Int)) = some (.ref a) := by rw [ei]; exact z0J hv
  have gl : ∀ {H2 : Hp}, Same H' H2 -> H2 l = some (.lst xs) /\ H2 a = some (.lst (sI.map V.str)) /\ H2 lf = some (.lst (fs.map V.int)) := fun {H2} g => ⟨(s1.trans (p5.trans g)) _ _ hL, (s1.trans (p5.trans g)) _ _ ha, (p5.trans g) _ _ e1⟩
  refine ⟨(by show 0 ≤ sizeLine; decide), fun lo hlo => ?_⟩
  have go := z01 (H := H') hlo (.lst [])
  refine ⟨_, rfl, _, rfl, l, _, _, _, rfl, rfl, SqL.of (gl go).1, atv, a, _, rfl, .inl (SqL.of (gl go).2.1), _, rfl, by omega, by rw [List.length_map]; omega, ?_⟩
  have hls : (sI.map V.str).length = sI.length := List.length_map _
  refine z1y (lo := 0) (n := (((sI.map V.str).length : Nat) : Int).toNat) (fun j σ H2 => ∃ (zs : List V) (row : Row) (o3 : Option V), H2 lo = some (.lst zs) /\ z08 H2 (row.map z7Y) zs /\ row.map Prod.fst = sI.take j /\ (∀ p ∈ row, 0 ≤ p.2 /\ p.2 ≤ 1000000) /\ Same H' H2 /\
   σ = [some (.ref l), some (.int c), some (.ref lf), some (.ref lr), some (.int (0 + (i : Int))), some (.ref lo), o3]) ⟨[], [], _, z02, .nil, rfl, (fun _ h => nomatch h), go, rfl⟩ (fun j σ H2 hj hp => ?_) (fun σ H2 hp => ?_)
  ·obtain ⟨zs, row, o3, r1, r2, r3, r4, r5, rfl⟩ := hp
   have hj' : j < sI.length := by
    have : (((sI.map V.str).length : Nat) : Int).toNat = sI.length := by rw [hls]; rfl
    omega
   have ej : (0 : Int) + (j : Int) = (j : Int) := Int.zero_add _
   have ex : sI[j]? = some sI[j] := List.getElem?_eq_getElem hj'
   generalize sI[j] = x at ex
   have atx : atI (sI.map V.str) ((0 : Int) + (j : Int)) = some (.str x) := by
    rw [ej]
    exact z0J (by rw [List.getElem?_map, ex]; rfl)
   have atf : atI (fs.map V.int) ((0 : Int) + (i : Int)) = some (.int (fs.getD i 0)) := by
    rw [ei]
    exact z69 (ns := fs) (k := (i : Int)) (by omega) (by omega)
   have lrow : row.length = j := by
    have := congrArg List.length r3
    rw [List.length_map, List.length_take] at this
    omega
   have lz := r2.length
   rw [List.length_map] at lz
   refine ⟨_, rfl, .inl ⟨rfl, _, SqL.of r1⟩, _, rfl, _, rfl, l, _, _, _, rfl, rfl, SqL.of (gl r5).1, atv, _, rfl, a, _, _, _, rfl, rfl, SqL.of (gl r5).2.1, atx, ?_⟩
   refine ⟨_, rfl, _, rfl, lf, _, _, _, rfl, rfl, SqL.of (gl r5).2.2, atf, _, rfl, _, _, rfl, fun z z0 z1 => ⟨(by show 2 ≤ sizeLine; decide), fun t ht => ?_⟩⟩
   have gt := z01 (H := H2) ht (.tup [.str x, .int z])
   refine ⟨lo, zs, _, rfl, rfl, gt _ _ r1, z0d (by omega), ?_⟩
   refine ⟨_, row ++ [(x, z)], some (.int (0 + (j : Int))), z02, ?_, ?_, fun p hp => ?_, z1z (r5.trans gt) hlo, rfl⟩
   ·rw [List.map_append]
    exact z08.over (gt _ _ r1) z9f _ _ (z08.snoc (z08.keep gt _ _ r2) (y0Y z02))
   ·rw [List.map_append, r3, z0l ex]
    rfl
   ·rcases List.mem_append.mp hp with h | h
    ·exact r4 p h
    ·rw [List.mem_singleton.mp h]
     exact ⟨z0, z1⟩
  ·obtain ⟨zs, row, o3, r1, r2, r3, r4, r5, rfl⟩ := hp
   have er : (((sI.map V.str).length : Nat) : Int).toNat = sI.length := by rw [hls]; rfl
   rw [er, List.take_length] at r3
   have lrow : row.length ≤ 12 := by
    have := congrArg List.length r3
    rw [List.length_map] at this
    omega
   refine ⟨_, rfl, .inl ⟨rfl, _, SqL.of (r5 _ _ p1)⟩, _, rfl, lo, _, rfl, .inl ⟨SqL.of r1, fun t ht => ?_⟩⟩
   have gt := z01 (H := H2) ht (.tup zs)
   have el := (r5.trans gt) _ _ p1
   refine ⟨lr, us, _, rfl, rfl, el, z0d (by omega), ?_⟩
   refine ⟨_, rows ++ [row], _, _, _, z02, ?_, ?_, fun r hr' => ?_, z1z (p5.trans (r5.trans gt)) hlr, rfl⟩
   ·rw [List.map_append]
    refine z08.over el z9f _ _ (z08.snoc (z08.keep (r5.trans gt) _ _ p2) (z0E z02 ?_ (z08.keep gt _ _ r2)))
    rw [List.length_map]
    omega
   ·rw [List.map_append, p3, z0l es]
    exact congrArg (ss.take i ++ ·) (congrArg (fun z => [z]) r3)
   ·rcases List.mem_append.mp hr' with h | h
    ·exact p4 r h
    ·rw [List.mem_singleton.mp h]
     exact r4
 ·obtain ⟨us, rows, o1, o2, o3, p1, p2, p3, p4, p5, rfl⟩ := hp
  have er : ((xs.length : Nat) : Int).toNat = ss.length := by rw [hl0]; rfl
  rw [er, List.take_length] at p3
  exact ⟨_, rfl, q lr us rows _ nlr0 (s1.trans p5) p1 p2 p3 p4⟩
def y14 (K : PySem.W.Frag) : Sp := fun vs H Q _ => ∃ (a : Addr) (ns : List Int), vs = [.ref a] /\ SqL K H a (ns.map V.int) /\
 ∀ (l : Addr) (nm : List Str) (H' : Hp), H l = none -> Same H H' -> H' l = some (.lst (nm.map V.str)) -> 1 ≤ nm.length -> nm.length ≤ 12 -> Nms nm -> Q (.ref l) H'
theorem y3l (F : Fun K "_law_names" "_law_names" z4i f fd) (G_law_at : Cal P w K mg base 1 "_law_at" z53 (spAt K)) (G_law_pick : Cal P w K mg base 1 "_law_pick" z2Q z9p)
  (G_law_named : Cal P w K mg base 1 "_law_named" z4o y1p) : FnOk P w K mg base CX0 2 f fd z4l (y14 K) := by
 have nd := z5O.nd
 refine F.ok z5O (fun vs H Q E h => ?_) (fun cdv A outer s H vs Q E hr h => ?_)
 ·obtain ⟨a, ns, rfl, _⟩ := h
  rfl
 obtain ⟨a, ns, rfl, hS, q⟩ := h
 refine ⟨_, (z05 (z0k (z0o G_law_named (rm hr) rfl (z00 (z0p z1b (z0o G_law_at (rm hr) rfl (z00 (pv 0) (z00 z07 z04))) z07) (z00 (z0p z1s z07 (z0o G_law_pick (rm hr) rfl (z00 (z0p z0R (z0o G_law_at (rm hr) rfl (z00 (pv 0) (z00 z07 z04))) z07) (z00 z07 z04)))) z04))))), ?_⟩
 refine ⟨_, rfl, a, ns, 0, rfl, hS, Int.le_refl 0, _, _, rfl, rfl, ⟨by decide, by decide⟩, ?_⟩
 refine ⟨_, rfl, a, ns, 0, rfl, hS, Int.le_refl 0, _, _, rfl, rfl, (by show (0 : Int) < 24; decide), _, _, rfl, (by decide), fun r h0 h1 => ⟨_, _, rfl, rfl, ?_⟩⟩
 exact ⟨_, _, rfl, by omega, by omega, fun l nm H' nl g e len N => q l nm H' nl g e (by omega) (by omega) N⟩
def z8a (K : PySem.W.Frag) : Sp := fun vs H Q _ => ∃ (a ln : Addr) (ns : List Int) (nm : List Str), vs = [.ref a, .ref ln] /\ SqL K H a (ns.map V.int) /\ SqL K H ln (nm.map V.str) /\ 1 ≤ nm.length /\ nm.length ≤ 12 /\
 ∀ (lr : Addr) (us : List V) (rows : List Row) (H' : Hp), H lr = none -> Same H H' -> H' lr = some (.lst us) -> z08 H' (rows.map rowD) us -> rows.length ≤ 60 -> Rws nm rows -> Q (.ref lr) H'
theorem y0b (F : Fun K "_law_numbers" "_law_numbers" z3b f fd) (G_law_at : Cal P w K mg base 1 "_law_at" z53 (spAt K)) (G_law_pick : Cal P w K mg base 1 "_law_pick" z2Q z9p)
  (G_law_sets : Cal P w K mg base 2 "_law_sets" z3M (y2a K)) (G_law_valued : Cal P w K mg base 2 "_law_valued" z3z z9D) : FnOk P w K mg base CX0 3 f fd z3g (z8a K) := by
 have nd := z43.nd
 refine F.ok z43 (fun vs H Q E h => ?_) (fun cdv A outer s H vs Q E hr h => ?_)
 ·obtain ⟨a, ln, ns, nm, rfl, _⟩ := h
  rfl
 obtain ⟨a, ln, ns, nm, rfl, hS, hN, n1, n2, q⟩ := h
 refine ⟨_, (z03 (z0m (i := 2) nd rfl (Or.inl rfl) (z0o G_law_pick (rm hr) rfl (z00 (z0o G_law_at (rm hr) rfl (z00 (pv 0) (z00 z07 z04))) (z00 z07 z04)))) (z03 (z0m (i := 3) nd rfl (Or.inl rfl) (z0o G_law_sets (rm hr) rfl (z00 (pv 1) (z00 (z0o G_law_at (rm hr) rfl (z00 (pv 0) (z00 z07 z04))) (z00 (pv 2) z04))))) (z05 (z0k (z0o G_law_valued (rm hr) rfl (z00 (pv 3) (z00 (z0o G_law_at (rm hr) rfl (z00 (pv 0) (z00 z07 z04))) z04))))))), ?_⟩
 refine ⟨_, rfl, a, ns, 1, rfl, hS, by decide, _, _, rfl, (by decide), fun r h0 h1 => ?_⟩
 refine ⟨_, rfl, _, rfl, a, ns, 2, rfl, hS, by decide, _, rfl, ln, nm, _, r, rfl, hN, n1, n2, h0, by omega, fun l xs ss H1 nl g1 e1 st len sub => ?_⟩
 refine ⟨_, rfl, _, rfl, a, ns, 3, rfl, g1.seq hS, by decide, l, xs, ss, _, rfl, e1, st, by omega, fun s hs => Nat.le_trans (sub s hs).length_le n2, fun lr us rows H2 nlr g2 e2 tl hm hv => ?_⟩
 refine q lr us rows H2 (g1.free nlr) (g1.trans g2) e2 tl ?_ ⟨fun r hr' => ?_, hv⟩
 ·have := congrArg List.length hm
  rw [List.length_map] at this
  omega
 ·have : r.map Prod.fst ∈ ss := by rw [<- hm]; exact List.mem_map_of_mem hr'
  exact sub _ this
def nmsD (s : List Str) : DV := .tup (s.map DV.str)
def dnI (hi : Int) (j : Nat) : List Int := (List.range j).map fun (k : Nat) => hi - (k : Int)
theorem y1u (hi : Int) (j : Nat) : (dnI hi j).length = j := by unfold dnI; rw [List.length_map, List.length_range]
theorem z7l {hi : Int} {j : Nat} {x : Int} : x ∈ dnI hi j ↔ hi - j < x /\ x ≤ hi := by
 unfold dnI
 rw [List.mem_map]
 constructor
 ·rintro ⟨k, hk, rfl⟩
  have := List.mem_range.mp hk
  omega
 ·rintro ⟨h1, h2⟩
  exact ⟨(hi - x).toNat, List.mem_range.mpr (by omega), by omega⟩
def z0z (r : Row) : List Str := r.map Prod.fst
def z0O (rows : List Row) (n : Int) : Row := rows.getD (n - 1).toNat []
def y0t (rows : List Row) (k : Int) : DV := .tup [.int k, nmsD (z0z (z0O rows k))]
def z5o (n r : Int) : List Int := (dnI (n - 1) (n - 1).toNat).filter fun k => decide (n - k ≤ r)
def y2v (rows : List Row) (n r : Int) : DV := .tup ((z5o n r).map (y0t rows))
def z1f (rows : List Row) (n r : Int) : DV := .tup [.int n, rowD (z0O rows n), y2v rows n r]
theorem z8t {H : Hp} {rows : List Row} {us : List V} (h : z08 H (rows.map rowD) us) {k : Int} (k0 : 1 ≤ k) (k1 : k ≤ rows.length) : ∃ v, us[(k - 1).toNat]? = some v /\ atI us (k - 1) = some v /\ Tell H (rowD (z0O rows k)) v := by
 have hk : (k - 1).toNat < rows.length := by omega
 obtain ⟨v, e, t⟩ := h.get (k - 1).toNat (rowD (z0O rows k)) (by
  unfold z0O
  rw [List.getElem?_map, List.getD_eq_getElem?_getD, List.getElem?_eq_getElem hk]
  rfl)
 have ek : k - 1 = (((k - 1).toNat : Nat) : Int) := by omega
 exact ⟨v, e, by rw [ek]; exact z0J e, t⟩
theorem z3f {H : Hp} : ∀ {r : Row} {xs : List V}, z08 H (r.map z7Y) xs -> ∀ (i : Nat) (x : V), xs[i]? = some x -> ∃ (p : Str × Int) (a : Addr), r[i]? = some p /\ x = .ref a /\ H a = some (.tup [.str p.1, .int p.2]) := by
 intro r xs h i x e
 obtain ⟨d, e1, t⟩ := h.at i x e
 rw [List.getElem?_map] at e1
 cases er : r[i]? with
 | none => rw [er] at e1; cases e1
 | some p =>
  rw [er] at e1
  have e2 : z7Y p = d := Option.some.inj e1
  subst e2
  obtain ⟨a, ys, rfl, h1, _, h2⟩ := z0f t
  obtain ⟨y1, r1, rfl, t1, h3⟩ := z0g h2
  obtain ⟨y2, r2, rfl, t2, h4⟩ := z0g h3
  have := z0S h4
  subst this
  rw [z3G t1, z1D t2] at h1
  exact ⟨p, a, rfl, rfl, h1⟩
theorem z82 {rows : List Row} (h : ∀ w ∈ rows, w.length ≤ 12) (k : Int) : (z0O rows k).length ≤ 12 := by
 unfold z0O
 rw [List.getD_eq_getElem?_getD]
 cases e : rows[(k - 1).toNat]? with
 | none => exact Nat.zero_le _
 | some w => exact h w (List.mem_of_getElem? e)
structure GoodN (zs : List Str) : Prop where
 lo : 1 ≤ zs.length
 hi : zs.length ≤ 12
 nd : zs.Nodup
def SqN (K : PySem.W.Frag) (H : Hp) (p : Addr) (zs : List Str) : Prop := SqL K H p (zs.map V.str) \/ SqT K H p (zs.map V.str)
theorem SqN.keep {K : PySem.W.Frag} {H H' : Hp} {p : Addr} {zs : List Str} (h : Same H H') (x : SqN K H p zs) : SqN K H' p zs := x.imp (fun q => h.seq q) fun q => z52 h q
def z7a (K : PySem.W.Frag) : Sp := fun vs H Q _ => ∃ (p : Addr) (zs : List Str), vs = [.ref p] /\ SqN K H p zs /\ GoodN zs /\ ∀ H', Same H H' -> Q .non H'
theorem z9d (M : Bl mg) (F : Fun K "refuse_bad_names" "refuse_bad_names" z1X f fd) : FnOk P w K mg base CX0 1 f fd z1W (z7a K) := by
 have nd := z2w.nd
 refine F.ok z2w (fun vs H Q E h => ?_) (fun cdv A outer s H vs Q E hr h => ?_)
 ·obtain ⟨p, zs, rfl, _⟩ := h
  rfl
 ·obtain ⟨p, zs, rfl, hp, g, k⟩ := h
  refine ⟨_, (z03 (z0P (z0e z7L (z0c z0a rfl M.len PySem.boot_len (z00 (pv 0) z04)) z07 (z0v _)) (z05 z1h) z0r) (z03 (z0P (z0e z4b (z0c z0a rfl M.len PySem.boot_len (z00 (pv 0) z04)) (z2g rfl M.MOST_NAMES) (z0v _)) (z05 z1h) z0r) (z05 (z0P (z0e y0I (z0c z4R rfl M.len PySem.boot_len (z00 (z0t (z3V rfl) rfl M.set PyProof.Rows.boot_set (z00 (pv 0) z04)) z04)) (z0c z0a rfl M.len PySem.boot_len (z00 (pv 0) z04)) (z0v _)) (z05 z1h) z0r)))), ?_⟩
  have := g.lo
  have := g.hi
  have el : (zs.map V.str).length = zs.length := List.length_map _
  refine ⟨_, rfl, p, _, rfl, hp, _, _, rfl, rfl, _, rfl, ite2 (fun q => absurd (z0G q) (by omega)) fun _ => ?_⟩
  refine ⟨_, rfl, p, _, rfl, hp, _, _, rfl, rfl, _, rfl, ite2 (fun q => absurd (z0G q) (by omega)) fun _ => ?_⟩
  refine ⟨_, rfl, p, zs, rfl, hp, by omega, fun l hl => ⟨l, zs, rfl, z02, by omega, _, rfl, p, zs.map V.str, rfl, SqN.keep (z01 hl _) hp, rfl, _, rfl, ?_⟩⟩
  refine y5p ?_ (k _ (z01 hl _))
  rw [y1U g.nd, el]
def z72 : Sp := fun vs H Q _ => ∃ r : Int, vs = [.int r] /\ 0 ≤ r /\ r ≤ 10 /\ Q .non H
theorem z92 (M : Bl mg) (F : Fun K "refuse_bad_reach" "refuse_bad_reach" z1T f fd) : FnOk P w K mg base CX0 1 f fd z1R z72 := by
 have nd := z2v.nd
 refine F.ok z2v (fun vs H Q E h => ?_) (fun cdv A outer s H vs Q E hr h => ?_)
 ·obtain ⟨r, rfl, _⟩ := h
  rfl
 ·obtain ⟨r, rfl, r0, r1, k⟩ := h
  refine ⟨_, (z05 (z0P (PW.pt (z4W (z0e z7L (pv 0) z07 (z0v _)) (z2t (z0e z4b (pv 0) (z2g rfl M.MOST_REACH) (z0v _))))) (z05 z1h) z0r)), ?_⟩
  refine ⟨_, rfl, _, _, rfl, rfl, _, rfl, ite2 (fun q => absurd (z0G q) (by omega)) fun _ => ?_⟩
  exact ⟨_, rfl, _, _, rfl, rfl, _, rfl, ite2 (fun q => absurd (z0G q) (by omega)) fun _ => k⟩
def HdN (K : PySem.W.Frag) (H : Hp) (p : Addr) (zs : List Str) : Prop := SqL K H p (zs.map V.str) \/ H p = some (.tup (zs.map V.str))
theorem HdN.sq {K : PySem.W.Frag} {H : Hp} {p : Addr} {zs : List Str} (h : HdN K H p zs) : SqN K H p zs := h.imp id SqT.of
theorem HdN.keep {K : PySem.W.Frag} {H H' : Hp} {p : Addr} {zs : List Str} (s : Same H H') (h : HdN K H p zs) : HdN K H' p zs := h.imp (fun q => s.seq q) fun q => s _ _ q
def z5l (K : PySem.W.Frag) : Sp := fun vs H Q _ => ∃ (p : Addr) (zs : List Str) (r : Int), vs = [.ref p, .int r] /\ HdN K H p zs /\ GoodN zs /\ 0 ≤ r /\ r ≤ 10 /\ ∀ (l : Addr) (H' : Hp), Same H H' -> H' l = some (.tup (zs.map V.str)) -> Q (.ref l) H'
theorem z97 (M : Bl mg) (F : Fun K "bulletin_names" "bulletin_names" z2i f fd) (Grefuse_bad_names : Cal P w K mg base 1 "refuse_bad_names" z1W (z7a K)) (Grefuse_bad_reach : Cal P w K mg base 1 "refuse_bad_reach" z1R z72) :
  FnOk P w K mg base CX0 2 f fd z1L (z5l K) := by
 have nd := z3i.nd
 refine F.ok z3i (fun vs H Q E h => ?_) (fun cdv A outer s H vs Q E hr h => ?_)
 ·obtain ⟨p, zs, r, rfl, _⟩ := h
  rfl
 ·obtain ⟨p, zs, r, rfl, hp, g, r0, r1, k⟩ := h
  refine ⟨_, (z03 (z0y (z0o Grefuse_bad_names (rm hr) rfl (z00 (pv 0) z04))) (z03 (z0y (z0o Grefuse_bad_reach (rm hr) rfl (z00 (pv 1) z04))) (z05 (z0k (z0t z0s rfl M.tuple PyProof.Rows.boot_tuple (z00 (pv 0) z04)))))), ?_⟩
  refine ⟨_, rfl, p, zs, rfl, hp.sq, g, fun H1 s1 => ⟨_, rfl, r, rfl, r0, r1, _, rfl, p, zs.map V.str, rfl, ?_⟩⟩
  rcases hp.keep s1 with hq | hq
  ·exact .inl ⟨hq, fun l hl => k l _ (s1.trans (z01 hl _)) z02⟩
  ·exact .inr ⟨SqT.of hq, k p _ s1 hq⟩
def z0q (fp : List Addr) (H H' : Hp) : Prop := ∀ b o, H b = some o -> b ∉ fp -> H' b = some o
theorem z0q.of {fp : List Addr} {H H' : Hp} (h : Same H H') : z0q fp H H' := fun b o e _ => h b o e
theorem z0q.then {fp : List Addr} {H H1 H2 : Hp} (h : z0q fp H H1) (g : Same H1 H2) : z0q fp H H2 := fun b o e n => g b o (h b o e n)
def z3Q (H : Hp) (fp : List Addr) : Prop := ∀ b ∈ fp, ∀ xs, H b ≠ some (.tup xs)
mutual
theorem Tell.but {fp : List Addr} {H H' : Hp} (s : z0q fp H H') (n : z3Q H fp) : ∀ (d : DV) (x : V), Tell H d x -> Tell H' d x
 | .non, _, h => by unfold Tell at h ⊢; exact h
 | .bl _, _, h => by unfold Tell at h ⊢; exact h
 | .int _, _, h => by unfold Tell at h ⊢; exact h
 | .str _, _, h => by unfold Tell at h ⊢; exact h
 | .tup ds, _, h => by
  unfold Tell at h ⊢
  obtain ⟨a, xs, e, h1, h2, h3⟩ := h
  exact ⟨a, xs, e, s _ _ h1 (fun m => n a m xs h1), h2, z08.but s n ds xs h3⟩
theorem z08.but {fp : List Addr} {H H' : Hp} (s : z0q fp H H') (n : z3Q H fp) : ∀ (ds : List DV) (xs : List V), z08 H ds xs -> z08 H' ds xs
 | [], _, h => by unfold z08 at h ⊢; exact h
 | d :: ds, _, h => by
  unfold z08 at h ⊢
  obtain ⟨x, r, e, h1, h2⟩ := h
  exact ⟨x, r, e, Tell.but s n d x h1, z08.but s n ds r h2⟩
end
theorem z84 {H : Hp} {x dx b : Addr} {o u v : HO} (nx : H x = none) (ndx : H dx = none) (h : H b = some o) : upd (upd H dx u) x v b = some o := by
 rw [z09 (z0i h nx), z09 (z0i h ndx)]
 exact h
theorem z6D {H H1 : Hp} {C x dx : Addr} (s : Same H H1) (nx : H1 x = none) (ndx : H1 dx = none) : Same H (upd (upd H1 dx (.own x)) x (.ins C dx [])) := fun _ _ e => z84 nx ndx (s _ _ e)
theorem z6B {H H1 H2 : Hp} {x : Addr} (b : z0q [x] H1 H2) (m : Same H H1) (nx : H x = none) : Same H H2 := fun c o e => b c o (m c o e) (by
 rw [List.mem_singleton]
 exact z0i e nx)
theorem z58 {H H1 : Hp} {x dx b : Addr} (m : Same H H1) (nx : H x = none) (ndx : H dx = none) (h : b = x \/ b = dx \/ H1 b = none) : H b = none := by
 rcases h with rfl | rfl | h
 ·exact nx
 ·exact ndx
 ·exact m.free h
theorem y4j {fp fp' fp2 : List Addr} {H7 H' GW : Hp} (bt : z0q fp H7 H') (ff : ∀ b ∈ fp', b ∈ fp \/ H7 b = none) (gW : Same H' GW) (hf2 : ∀ b ∈ fp2, b ∈ fp' \/ GW b = none) : ∀ b ∈ fp2, b ∈ fp \/ H7 b = none := fun b m => (hf2 b m).elim (ff b) fun z => by
 cases e : H7 b with
 | none => exact .inr rfl
 | some o =>
  by_cases nb : b ∈ fp
  ·exact .inl nb
  ·rw [gW _ _ (bt b o e nb)] at z
   cases z
def z0n (had : List Int) : List Int := (upI 1 60).filter fun x => decide (x ∈ had)
def topL (had : List Int) : Int := (z0n had).getLastD 0
def addN (had : List Int) (n : Int) : List Int := if n ∈ had then had else had ++ [n]
theorem z9P {had : List Int} {n x : Int} : x ∈ addN had n ↔ x ∈ had \/ x = n := by
 unfold addN
 by_cases h : n ∈ had
 ·rw [if_pos h]
  exact ⟨.inl, fun q => q.elim id fun e => e ▸ h⟩
 ·rw [if_neg h, List.mem_append, List.mem_singleton]
theorem z1w {had : List Int} {x : Int} : x ∈ z0n had ↔ (1 ≤ x /\ x < 1 + 60) /\ x ∈ had := by
 unfold z0n
 rw [List.mem_filter, z0W, decide_eq_true_eq]
 rfl
theorem z2T (had : List Int) : (z0n had).Pairwise (· < ·) := (z1i 1 60).filter _
theorem z6v (had : List Int) : (z0n had).length ≤ 60 := by
 have h := List.length_filter_le (fun x => decide (x ∈ had)) (upI 1 60)
 rw [z0H] at h
 exact h
theorem y1D {ns ms : List Int} (nd : ns.Nodup) (hall : ∀ x ∈ ns, 1 ≤ x /\ x ≤ 60) (hp : ms.Perm ns) (hs : ms.Pairwise (· ≤ ·)) : ms = z0n ns := by
 have n2 : ms.Nodup := hp.nodup_iff.mpr nd
 have lt : ms.Pairwise (· < ·) := by
  have := List.pairwise_and_iff.mpr ⟨hs, n2⟩
  exact this.imp fun h => by
   have := h.1
   have := h.2
   omega
 refine z20 lt (z2T _) fun x => ?_
 rw [z1w, hp.mem_iff]
 exact ⟨fun h => ⟨by have := hall x h; omega, h⟩, fun h => h.2⟩
abbrev ShP := Hp -> Addr -> List Addr -> List Str -> Int -> (Int -> DV) -> List Int -> Prop
structure ShOk (C : Addr) (ms : List Str) (Sh : ShP) : Prop where
 ins : ∀ {H p fp zs r iss had}, Sh H p fp zs r iss had -> ∃ dx fs, H p = some (.ins C dx fs) /\ ∀ m ∈ ms, fs.lookup m = none
 own : ∀ {H p fp zs r iss had}, Sh H p fp zs r iss had -> ∀ b ∈ fp, ∃ o, H b = some o /\ ∀ xs, o ≠ .tup xs
 keep : ∀ {H H' p fp gp zs r iss had}, Sh H p fp zs r iss had -> z0q gp H H' -> (∀ b ∈ gp, b ∉ fp) -> z3Q H gp -> Sh H' p fp zs r iss had
theorem ShOk.same {C : Addr} {ms : List Str} {Sh : ShP} (O : ShOk C ms Sh) {H H' : Hp} {p : Addr} {fp : List Addr} {zs : List Str} {r : Int} {iss : Int -> DV} {had : List Int} (h : Sh H p fp zs r iss had) (s : Same H H') : Sh H' p fp zs r iss had :=
 O.keep (gp := []) h (.of s) (fun _ q => by cases q) fun _ q => by cases q
theorem ShOk.noTup {C : Addr} {ms : List Str} {Sh : ShP} (O : ShOk C ms Sh) {H : Hp} {p : Addr} {fp : List Addr} {zs : List Str} {r : Int} {iss : Int -> DV} {had : List Int} (h : Sh H p fp zs r iss had) : z3Q H fp := fun b m xs e => by
 obtain ⟨o, e1, n⟩ := O.own h b m
 rw [e1] at e
 exact n xs (Option.some.inj e)
def z9h (K : PySem.W.Frag) (C : Addr) (Sh : ShP) : Sp := fun vs H Q _ => ∃ (x dx pn : Addr) (zs : List Str) (r : Int), vs = [.ref x, .ref pn, .int r] /\ H x = some (.ins C dx []) /\ dx ≠ x /\ H dx = some (.own x) /\ HdN K H pn zs /\ GoodN zs /\ 0 ≤ r /\ r ≤ 10 /\
 ∀ (fp : List Addr) (H' : Hp), (∀ b ∈ fp, b = x \/ b = dx \/ H b = none) -> z0q [x] H H' -> (∀ iss, Sh H' x fp zs r iss []) -> Q .non H'
def y4N (Sh : ShP) : Sp := fun vs H Q _ => ∃ (p : Addr) (v : V) (fp : List Addr) (zs : List Str) (r : Int) (iss : Int -> DV) (had : List Int) (n : Int) (ds : List DV), vs = [.ref p, v] /\ Sh H p fp zs r iss had /\ Tell H (iss n) v /\ iss n = .tup (.int n :: ds) /\ 1 ≤ n /\ n ≤ 60 /\
 ∀ (fp' : List Addr) (H' : Hp), (∀ b ∈ fp', b ∈ fp \/ H b = none) -> z0q fp H H' -> Sh H' p fp' zs r iss (addN had n) -> Q (.bl (decide (n ∉ had))) H'
def z6e (Sh : ShP) : Sp := fun vs H Q _ => ∃ (p : Addr) (fp : List Addr) (zs : List Str) (r : Int) (iss : Int -> DV) (had : List Int), vs = [.ref p] /\ Sh H p fp zs r iss had /\
 ∀ (l : Addr) (H' : Hp), Same H H' -> H' l = some (.tup ((z0n had).map V.int)) -> Q (.ref l) H'
def y0s (Sh : ShP) : Sp := fun vs H Q _ => ∃ (p : Addr) (fp : List Addr) (zs : List Str) (r : Int) (iss : Int -> DV) (had : List Int), vs = [.ref p] /\ Sh H p fp zs r iss had /\ ∀ H', Same H H' -> Q (.int (topL had)) H'
def ShD (K : PySem.W.Frag) (C : Addr) : ShP := fun H p fp zs r iss had => ∃ (dx pn pd : Addr) (fs : List (Str × V)) (kvs : List (Key × V)), fp = [p, dx, pd] /\ H p = some (.ins C dx fs) /\ H dx = some (.own p) /\ H pn = some (.tup (zs.map V.str)) /\ H pd = some (.dK kvs) /\
 fs.lookup ("names" : Str) = some (V.ref pn) /\ fs.lookup ("reach" : Str) = some (V.int r) /\ fs.lookup ("issues" : Str) = some (V.ref pd) /\ (∀ m ∈ (["put", "had", "latest", "rows_of", "tail_of"] : List Str), fs.lookup m = none) /\
 kvs.map (·.1) = had.map Sum.inl /\ had.Nodup /\ (∀ n ∈ had, 1 ≤ n /\ n ≤ 60) /\ (∀ n v, (Sum.inl n, v) ∈ kvs -> Tell H (iss n) v) /\ GoodN zs /\ 0 ≤ r /\ r ≤ 10
theorem ShD.ins {K : PySem.W.Frag} {C : Addr} {H : Hp} {p : Addr} {fp : List Addr} {zs : List Str} {r : Int} {iss : Int -> DV} {had : List Int} (h : ShD K C H p fp zs r iss had) : ∃ dx fs, H p = some (.ins C dx fs) /\ ∀ m ∈ (["put", "had", "latest", "rows_of", "tail_of"] : List Str), fs.lookup m = none := by
 obtain ⟨dx, pn, pd, fs, kvs, e, h1, h2, h3, h4, l1, l2, l3, lm, _⟩ := h
 exact ⟨dx, fs, h1, lm⟩
theorem shOk {K : PySem.W.Frag} {C : Addr} : ShOk C ["put", "had", "latest"] (ShD K C) := by
 refine ⟨fun h => ?_, fun h b hb => ?_, fun h s out nt => ?_⟩
 ·obtain ⟨dx, fs, h1, lm⟩ := ShD.ins h
  refine ⟨dx, fs, h1, fun m hm => lm m ?_⟩
  simp only [List.mem_cons, List.not_mem_nil, or_false] at hm ⊢
  rcases hm with h | h | h <;> simp [h]
 ·obtain ⟨dx, pn, pd, fs, kvs, rfl, h1, h2, h3, h4, _⟩ := h
  rcases List.mem_cons.mp hb with rfl | hb
  ·exact ⟨_, h1, fun xs z => by cases z⟩
  rcases List.mem_cons.mp hb with rfl | hb
  ·exact ⟨_, h2, fun xs z => by cases z⟩
  rw [List.mem_singleton.mp hb]
  exact ⟨_, h4, fun xs z => by cases z⟩
 ·obtain ⟨dx, pn, pd, fs, kvs, rfl, h1, h2, h3, h4, l1, l2, l3, lm, kk, nd, all, tl, g⟩ := h
  exact ⟨dx, pn, pd, fs, kvs, rfl, s _ _ h1 (fun m => out _ m (by simp)), s _ _ h2 (fun m => out _ m (by simp)), s _ _ h3 (fun m => nt _ m _ h3), s _ _ h4 (fun m => out _ m (by simp)), l1, l2, l3, lm, kk, nd, all, fun n v hv => Tell.but s nt _ _ (tl n v hv), g⟩
theorem y0R {CShelf : Addr} (M : Bl mg) (T : TxShelf K mg CShelf) (F : Fun K "__init__" "Shelf.__init__" z2n f fd) (Gbulletin_names : Cal P w K mg base 2 "bulletin_names" z1L (z5l K)) :
  FnOk P w K mg base CX0 3 f fd z2l (z9h K CShelf (ShD K CShelf)) := by
 have nd := z3l.nd
 refine F.ok z3l (fun vs H Q E h => ?_) (fun cdv A outer s H vs Q E hr h => ?_)
 ·obtain ⟨x, dx, pn, zs, r, rfl, _⟩ := h
  rfl
 obtain ⟨x, dx, pn, zs, r, rfl, hx, ne, hdx, hn, g, r0, r1, k⟩ := h
 refine ⟨_, (z03 (z4J (pv 0) (z0o Gbulletin_names (rm hr) rfl (z00 (pv 1) (z00 (pv 2) z04))) rfl) (z03 (z4J (pv 0) (pv 2) rfl) (z05 (z4J (pv 0) z9J rfl)))), ?_⟩
 refine ⟨_, rfl, _, rfl, pn, zs, r, rfl, hn, g, r0, r1, fun l H1 s1 e1 => ?_⟩
 refine ⟨_, rfl, x, CShelf, dx, [], rfl, s1 _ _ hx, T.cl, T.n_names, by decide, ?_⟩
 have z1 := z1k "names" (.ref l) []
 have z2 := z1k "reach" (.int r) (putF "names" (.ref l) [])
 have z0 : ([] : List (Str × V)).length = 0 := rfl
 refine ⟨_, rfl, _, rfl, x, CShelf, dx, _, rfl, z02, T.cl, T.n_reach, (by omega), ?_⟩
 rw [z4h]
 intro pd hd
 have nx : x ≠ pd := z0i z02 hd
 have ndd : dx ≠ pd := z0i (show upd H1 x _ dx = some _ by rw [z09 ne]; exact s1 _ _ hdx) hd
 have nl : l ≠ x := z4L e1 (s1 _ _ hx) (fun z => by cases z)
 have nlp : l ≠ pd := z0i (show upd H1 x _ l = some _ by rw [z09 nl]; exact e1) hd
 have dfr : H1 pd = none := by rw [z09 (Ne.symm nx)] at hd; exact hd
 refine ⟨_, rfl, x, CShelf, dx, _, rfl, (by rw [z09 nx, z02]), T.cl, T.n_issues, (by omega), ?_⟩
 refine k [x, dx, pd] _ (fun b hb => ?_) (fun b o e nb => ?_) (fun iss => ⟨dx, l, pd, _, [], rfl, z02, ?_, ?_, ?_, ?_, ?_, ?_, ?_, rfl, .nil, fun _ q => (nomatch q), fun _ _ q => (nomatch q), g, r0, r1⟩)
 ·simp only [List.mem_cons, List.not_mem_nil, or_false] at hb
  rcases hb with rfl | rfl | rfl
  ·exact .inl rfl
  ·exact .inr (.inl rfl)
  ·exact .inr (.inr (s1.free dfr))
 ·rw [List.mem_singleton] at nb
  rw [z09 nb, z09 (z0i e (s1.free dfr)), z09 nb]
  exact s1 _ _ e
 ·rw [z09 ne, z09 ndd, z09 ne]
  exact s1 _ _ hdx
 ·rw [z09 nl, z09 nlp, z09 nl]
  exact e1
 ·rw [z09 (Ne.symm nx), z02]
 ·rw [z0h, if_neg (by decide +kernel), z0h, if_neg (by decide +kernel), z0h, if_pos rfl]
 ·rw [z0h, if_neg (by decide +kernel), z0h, if_pos rfl]
 ·rw [z0h, if_pos rfl]
 ·intro m hm
  simp only [List.mem_cons, List.not_mem_nil, or_false] at hm
  rcases hm with rfl | rfl | rfl | rfl | rfl <;> rw [z0h, if_neg (by decide +kernel), z0h, if_neg (by decide +kernel), z0h, if_neg (by decide +kernel)] <;> rfl
theorem y5u {α : Type} [DecidableEq α] : ∀ {l1 l2 : List α}, l1.Nodup -> (∀ x ∈ l1, x ∈ l2) -> l1.length ≤ l2.length
 | [], _, _, _ => Nat.zero_le _
 | x :: r, l2, nd, sub => by
  rw [List.nodup_cons] at nd
  have hx := sub x List.mem_cons_self
  have := y5u (l1 := r) (l2 := l2.erase x) nd.2 fun y hy => (List.mem_erase_of_ne (fun (e : y = x) => nd.1 (e ▸ hy))).mpr (sub y (List.mem_cons_of_mem _ hy))
  rw [List.length_erase_of_mem hx] at this
  have h0 := List.length_pos_of_mem hx
  rw [List.length_cons]
  omega
theorem z8X {had : List Int} (nd : had.Nodup) (all : ∀ n ∈ had, 1 ≤ n /\ n ≤ 60) : had.length ≤ 60 := by
 have h := y5u (l2 := upI 1 60) nd fun n hn => z0W.mpr (by have := all n hn; omega)
 rw [z0H] at h
 exact h
theorem z7F {kvs : List (Key × V)} {had : List Int} (kk : kvs.map (·.1) = had.map Sum.inl) (n : Int) : (valV kvs (Sum.inl n)).isSome = decide (n ∈ had) := by
 rw [<- z64]
 have e : (kvs.any fun kv => decide (kv.1 = Sum.inl n)) = (kvs.map (·.1)).any fun k => decide (k = Sum.inl n) := by rw [List.any_map]; rfl
 rw [e, kk, List.any_map]
 by_cases h : n ∈ had
 ·rw [decide_eq_true h, List.any_eq_true]
  exact ⟨n, h, decide_eq_true rfl⟩
 ·rw [decide_eq_false h, List.any_eq_false]
  intro m hm z
  have e := of_decide_eq_true z
  cases e
  exact h hm
theorem y4X {CShelf : Addr} (M : Bl mg) (T : TxShelf K mg CShelf) (F : Fun K "put" "Shelf.put" z5v f fd) : FnOk P w K mg base CX0 1 f fd z5s (y4N (ShD K CShelf)) := by
 have nd := z6S.nd
 refine F.ok z6S (fun vs H Q E h => ?_) (fun cdv A outer s H vs Q E hr h => ?_)
 ·obtain ⟨p, v, fp, zs, r, iss, had, n, ds, rfl, _⟩ := h
  rfl
 obtain ⟨p, v, fp, zs, r, iss, had, n, ds, rfl, sh, tv, en, n1, n2, k⟩ := h
 have hu := z8K hr
 refine ⟨_, (z03 (z0m (i := 2) nd rfl (Or.inl rfl) (z0Z z3u (pv 1) z07 (fun _ _ => rfl))) (z03 (z0P (z7c (y3M hu (pv 2) (z0C (pv 0) rfl))) (z05 (z0k z4f)) z0r) (z03 (z9c hu (z0C (pv 0) rfl) (pv 2) (pv 1) rfl) (z05 (z0k z4f))))), ?_⟩
 obtain ⟨dx, pn, pd, fs, kvs, rfl, h1, h2, h3, h4, l1, l2, l3, lm, kk, ndh, all, tl, g, r0, r1⟩ := sh
 rw [en] at tv
 obtain ⟨a, us, rfl, ea, _, tu⟩ := z0f tv
 obtain ⟨x0, ur, rfl, t0, _⟩ := z0g tu
 cases z1D t0
 refine ⟨_, rfl, a, _, _, _, rfl, rfl, SqT.of ea, z0J rfl, ?_⟩
 refine ⟨_, rfl, _, rfl, p, CShelf, dx, fs, _, rfl, h1, T.cl, T.n_issues, l3, pd, _, rfl, DGet.k (k := Sum.inl n) h4, ?_⟩
 refine ⟨_, rfl, ?_⟩
 rw [z7F kk]
 have fr : ∀ b ∈ [p, dx, pd], ∃ o, H b = some o := fun b hb => by
  simp only [List.mem_cons, List.not_mem_nil, or_false] at hb
  rcases hb with rfl | rfl | rfl
  ·exact ⟨_, h1⟩
  ·exact ⟨_, h2⟩
  ·exact ⟨_, h4⟩
 refine ite2 (fun c => ?_) (fun c => ?_)
 ·have c' := z0G c
  have e := k [p, dx, pd] H (fun b hb => .inl hb) (fun b o e _ => e) ⟨dx, pn, pd, fs, kvs, rfl, h1, h2, h3, h4, l1, l2, l3, lm, by unfold addN; rw [if_pos c']; exact kk, by unfold addN; rw [if_pos c']; exact ndh, fun m hm => ?_, tl, g, r0, r1⟩
  ·rw [decide_eq_false (fun z => z c')] at e
   exact e
  ·unfold addN at hm
   rw [if_pos c'] at hm
   exact all m hm
 ·have c' := z9L c
  have lk : kvs.length ≤ 60 := by
   have e2 := congrArg List.length kk
   rw [List.length_map, List.length_map] at e2
   have := z8X ndh all
   omega
  have en' : valV kvs (Sum.inl n : Key) = none := by
   have := z7F kk n
   rw [decide_eq_false c'] at this
   cases e : valV kvs (Sum.inl n : Key) with
   | none => rfl
   | some v => rw [e] at this; cases this
  refine ⟨_, rfl, _, rfl, p, CShelf, dx, fs, _, rfl, h1, T.cl, T.n_issues, l3, _, rfl, pd, _, rfl, DPut.k (k := Sum.inl n) h4 (z0d (by omega)), ?_⟩
  rw [z9r _ en']
  have np : p ≠ pd := z4L h1 h4 (fun z => by cases z)
  have nx : dx ≠ pd := z4L h2 h4 (fun z => by cases z)
  have nn : pn ≠ pd := z4L h3 h4 (fun z => by cases z)
  have e := k [p, dx, pd] (upd H pd (.dK (kvs ++ [(Sum.inl n, .ref a)]))) (fun b hb => .inl hb) (fun b o e nb => by rw [z09 (fun z => nb (by rw [z]; simp))]; exact e)
   ⟨dx, pn, pd, fs, _, rfl, by rw [z09 np]; exact h1, by rw [z09 nx]; exact h2, by rw [z09 nn]; exact h3, z02, l1, l2, l3, lm, ?_, ?_, fun m hm => ?_, fun m v hv => ?_, g, r0, r1⟩
  ·rw [decide_eq_true c'] at e
   exact e
  ·unfold addN
   rw [if_neg c', List.map_append, List.map_append, kk]
   rfl
  ·unfold addN
   rw [if_neg c', List.nodup_append]
   exact ⟨ndh, by simp, fun x hx y hy z => by rw [List.mem_singleton] at hy; subst hy; subst z; exact c' hx⟩
  ·rcases z9P.mp hm with h | rfl
   ·exact all m h
   ·omega
  ·refine Tell.over h4 (fun _ z => by cases z) _ _ ?_
   rcases List.mem_append.mp hv with h | h
   ·exact tl m v h
   ·rw [List.mem_singleton] at h
    cases h
    rw [en]
    exact tv
theorem y2M {CShelf : Addr} (M : Bl mg) (T : TxShelf K mg CShelf) (F : Fun K "had" "Shelf.had" z59 f fd) : FnOk P w K mg base CX0 1 f fd z2f (z6e (ShD K CShelf)) := by
 have nd := z6J.nd
 refine F.ok z6J (fun vs H Q E h => ?_) (fun cdv A outer s H vs Q E hr h => ?_)
 ·obtain ⟨p, fp, zs, r, iss, had, rfl, _⟩ := h
  rfl
 obtain ⟨p, fp, zs, r, iss, had, rfl, sh, k⟩ := h
 refine ⟨_, (z05 (z0k (z0t z0s rfl M.tuple PyProof.Rows.boot_tuple (z00 (z0c (z3h rfl) rfl M.sorted PyProof.Rows.boot_sorted (z00 (z0C (pv 0) rfl) z04)) z04)))), ?_⟩
 obtain ⟨dx, pn, pd, fs, kvs, rfl, h1, h2, h3, h4, l1, l2, l3, lm, kk, ndh, all, tl, g, r0, r1⟩ := sh
 refine ⟨_, rfl, p, CShelf, dx, fs, _, rfl, h1, T.cl, T.n_issues, l3, pd, kvs, had, rfl, h4, kk, Nat.lt_of_le_of_lt (z8X ndh all) (by decide), fun l ms hl hp hs => ?_⟩
 rw [y1D ndh all hp hs]
 exact ⟨l, _, rfl, .inl ⟨SqL.of z02, fun t ht => k t _ ((z01 hl _).trans (z01 ht _)) z02⟩⟩
theorem y2Q {had : List Int} {m : Int} (hm : m ∈ z0n had) (hb : ∀ y ∈ z0n had, y ≤ m) : m = topL had := by
 unfold topL
 have ne : z0n had ≠ [] := fun z => by rw [z] at hm; cases hm
 have e : (z0n had).getLastD 0 = (z0n had).getLast ne := by rw [List.getLastD_eq_getLast?, List.getLast?_eq_some_getLast ne] <;> rfl
 rw [e]
 have h1 := hb _ (List.getLast_mem ne)
 have d : z0n had = (z0n had).dropLast ++ [(z0n had).getLast ne] := (List.dropLast_concat_getLast ne).symm
 have rs := z2T had
 rw [d] at hm rs
 rcases List.mem_append.mp hm with h | h
 ·have := (List.pairwise_append.mp rs).2.2 m h _ (List.mem_singleton.mpr rfl)
  omega
 ·exact List.mem_singleton.mp h
theorem y1S {CShelf : Addr} (M : Bl mg) (T : TxShelf K mg CShelf) (F : Fun K "latest" "Shelf.latest" z3a f fd) (GShelf_had : MCal P w K mg base 1 CShelf "had" z2f (z6e (ShD K CShelf))) : FnOk P w K mg base CX0 2 f fd z51 (y0s (ShD K CShelf)) := by
 have nd := z40.nd
 refine F.ok z40 (fun vs H Q E h => ?_) (fun cdv A outer s H vs Q E hr h => ?_)
 ·obtain ⟨p, fp, zs, r, iss, had, rfl, _⟩ := h
  rfl
 obtain ⟨p, fp, zs, r, iss, had, rfl, sh, k⟩ := h
 refine ⟨_, (z05 (z0k (y2n rfl rfl M.max (z00 (z31 GShelf_had (rm hr) (pv 0)) z04) (z7q z07 z9M)))), ?_⟩
 obtain ⟨dx, fs, h1, lm⟩ := shOk.ins sh
 refine ⟨_, rfl, p, dx, fs, rfl, h1, lm _ (by simp), p, fp, zs, r, iss, had, rfl, sh, fun l H1 s1 e1 => ?_⟩
 refine ⟨l, z0n had, _, rfl, rfl, .inr (SqT.of e1), fun z => ?_, fun m hm hb => ?_⟩
 ·have e : topL had = 0 := by unfold topL; rw [z]; rfl
  have := k H1 s1
  rw [e] at this
  exact this
 ·rw [y2Q hm hb]
  exact k H1 s1
def gapD (ns : List Int) (rows : List Row) (r n : Int) : DV := .tup [.int n, .int (z0X ns n r), if z0X ns n r = 0 then .tup [] else nmsD (z0z (z0O rows n))]
def z8L (ns : List Int) (rows : List Row) (r : Int) : List DV := (z16 ns).map (gapD ns rows r)
theorem z8n {ns : List Int} {n r : Int} : 0 ≤ z0X ns n r := by
 unfold z0X
 cases e : (upI 1 60).find? (z7u ns n r) with
 | none => exact Int.le_refl _
 | some y =>
  have := z0W.mp (List.mem_of_find?_eq_some e)
  show 0 ≤ y
  omega
theorem y1M {ns : List Int} {m : Int} (hm : m ∈ ns \/ (ns = [] /\ m = 0)) (hall : ∀ x ∈ ns, 1 ≤ x /\ x ≤ 60) (top : ∀ y ∈ ns, y ≤ m) : (upI 1 (m - 1).toNat).filter (fun x => !decide (x ∈ ns)) = z16 ns := by
 rcases hm with hm | ⟨rfl, rfl⟩
 ·refine z20 ((z1i _ _).filter _) (z2e _) fun x => ?_
  have hm' := hall m hm
  rw [List.mem_filter, z0W, z1o, Bool.not_eq_true', decide_eq_false_iff_not]
  constructor
  ·rintro ⟨⟨a, b⟩, c⟩
   exact ⟨by omega, c, m, hm, by omega⟩
  ·rintro ⟨a, b, y, hy, c⟩
   have := top y hy
   exact ⟨by omega, b⟩
 ·rw [z8u]
  rfl
theorem z9H (x : Str) (ns : List Str) : inV (.str x) (ns.map V.str) = decide (x ∈ ns) := by
 unfold inV
 rw [Bool.eq_iff_iff, List.any_map, List.any_eq_true, decide_eq_true_eq]
 constructor
 ·rintro ⟨y, hy, e⟩
  have : y = x := by simpa [eqV] using e
  exact this ▸ hy
 ·intro h
  exact ⟨x, h, by simp [eqV]⟩
def z9K (ns : List Int) (rows : List Row) (r n : Int) : List Str := if z0X ns n r = 0 then [] else z0z (z0O rows n)
theorem y4a (ns : List Int) (rows : List Row) (r n : Int) : gapD ns rows r n = .tup [.int n, .int (z0X ns n r), nmsD (z9K ns rows r n)] := by
 unfold gapD z9K
 by_cases h : z0X ns n r = 0
 ·rw [if_pos h, if_pos h]
  rfl
 ·rw [if_neg h, if_neg h]
theorem y1n {H : Hp} {ns : List Int} {rows : List Row} {r : Int} {zs : List V} (h : z08 H (z8L ns rows r) zs) {i : Nat} {x : V} (e : zs[i]? = some x) :
  ∃ (n : Int) (a b : Addr), (z16 ns)[i]? = some n /\ x = .ref a /\ H a = some (.tup [.int n, .int (z0X ns n r), .ref b]) /\ H b = some (.tup ((z9K ns rows r n).map V.str)) := by
 obtain ⟨d, e1, t⟩ := h.at i x e
 unfold z8L at e1
 rw [List.getElem?_map] at e1
 cases er : (z16 ns)[i]? with
 | none => rw [er] at e1; cases e1
 | some n =>
  rw [er] at e1
  have e2 : gapD ns rows r n = d := Option.some.inj e1
  rw [y4a] at e2
  subst e2
  obtain ⟨a, ys, rfl, h1, _, h2⟩ := z0f t
  obtain ⟨y1, r1, rfl, t1, h3⟩ := z0g h2
  obtain ⟨y2, r2, rfl, t2, h4⟩ := z0g h3
  obtain ⟨y3, r3, rfl, t3, h5⟩ := z0g h4
  have := z0S h5
  subst this
  obtain ⟨b, ws, rfl, hb, _, tb⟩ := z0f t3
  rw [z1D t1, z1D t2] at h1
  rw [z0K tb] at hb
  exact ⟨n, a, b, rfl, rfl, h1, hb⟩
theorem z7h {rows : List Row} {j : Nat} {k : Int} (h0 : 1 ≤ k) (h : k ≤ j) : z0O (rows.take j) k = z0O rows k := by
 unfold z0O
 have hk : (k - 1).toNat < j := by omega
 rw [List.getD_eq_getElem?_getD, List.getD_eq_getElem?_getD, List.getElem?_take, if_pos hk]
theorem z8S {rows : List Row} {j : Nat} {n r : Int} (h0 : 1 ≤ n) (h : n ≤ j) : z1f (rows.take j) n r = z1f rows n r := by
 unfold z1f y2v
 rw [z7h h0 h]
 have e : (z5o n r).map (y0t (rows.take j)) = (z5o n r).map (y0t rows) := List.map_congr_left fun k hk => by
  unfold z5o at hk
  rw [List.mem_filter, z7l] at hk
  unfold y0t
  rw [z7h (by omega) (by omega)]
 rw [e]
abbrev OfP := Hp -> Addr -> List Addr -> List Str -> Int -> List Row -> Prop
structure OfOk (C : Addr) (ms : List Str) (Of : OfP) : Prop where
 ins : ∀ {H p fp zs r rows}, Of H p fp zs r rows -> ∃ dx fs, H p = some (.ins C dx fs) /\ ∀ m ∈ ms, fs.lookup m = none
 own : ∀ {H p fp zs r rows}, Of H p fp zs r rows -> ∀ b ∈ fp, ∃ o, H b = some o /\ ∀ xs, o ≠ .tup xs
 keep : ∀ {H H' p fp gp zs r rows}, Of H p fp zs r rows -> z0q gp H H' -> (∀ b ∈ gp, b ∉ fp) -> z3Q H gp -> Of H' p fp zs r rows
theorem OfOk.same {C : Addr} {ms : List Str} {Of : OfP} (O : OfOk C ms Of) {H H' : Hp} {p : Addr} {fp : List Addr} {zs : List Str} {r : Int} {rows : List Row} (h : Of H p fp zs r rows) (s : Same H H') : Of H' p fp zs r rows :=
 O.keep (gp := []) h (.of s) (fun _ q => by cases q) fun _ q => by cases q
theorem OfOk.noTup {C : Addr} {ms : List Str} {Of : OfP} (O : OfOk C ms Of) {H : Hp} {p : Addr} {fp : List Addr} {zs : List Str} {r : Int} {rows : List Row} (h : Of H p fp zs r rows) : z3Q H fp := fun b m xs e => by
 obtain ⟨o, e1, n⟩ := O.own h b m
 rw [e1] at e
 exact n xs (Option.some.inj e)
def z7C (K : PySem.W.Frag) (H : Hp) (fp : List Addr) (u : V) (p : Str × Int) : Prop := ∃ a, u = .ref a /\ (SqL K H a [.str p.1, .int p.2] \/ SqT K H a [.str p.1, .int p.2]) /\ a ∉ fp
def y0V (K : PySem.W.Frag) (H : Hp) (fp : List Addr) (v : V) (pr : Row) : Prop := ∃ a us, v = .ref a /\ SqP K H a us /\ a ∉ fp /\ Paired (z7C K H fp) us pr
def z11 (zs : List Str) (pr : Row) : Row := zs.filterMap fun z => pr.find? fun p => decide (p.1 = z)
structure GoodR (zs : List Str) (pr : Row) : Prop where
 nd : (pr.map Prod.fst).Nodup
 sub : ∀ p ∈ pr, p.1 ∈ zs
 val : ∀ p ∈ pr, 0 ≤ p.2 /\ p.2 ≤ 1000000
def z9w (K : PySem.W.Frag) (C : Addr) (Of : OfP) : Sp := fun vs H Q _ => ∃ (x dx pn : Addr) (zs : List Str) (r : Int), vs = [.ref x, .ref pn, .int r] /\ H x = some (.ins C dx []) /\ dx ≠ x /\ H dx = some (.own x) /\ HdN K H pn zs /\ GoodN zs /\ 0 ≤ r /\ r ≤ 10 /\
 ∀ (fp : List Addr) (H' : Hp), (∀ b ∈ fp, b = x \/ b = dx \/ H b = none) -> z0q [x] H H' -> Of H' x fp zs r [] -> Q .non H'
def z8h (K : PySem.W.Frag) (Of : OfP) : Sp := fun vs H Q _ => ∃ (p : Addr) (v : V) (fp : List Addr) (zs : List Str) (r : Int) (rows : List Row) (pr : Row), vs = [.ref p, v] /\ Of H p fp zs r rows /\ y0V K H fp v pr /\ GoodR zs pr /\ pr.length ≤ 12 /\ rows.length < 60 /\
 ∀ (fp' : List Addr) (H' : Hp), (∀ b ∈ fp', b ∈ fp \/ H b = none) -> z0q fp H H' -> Of H' p fp' zs r (rows ++ [z11 zs pr]) -> Q (.int (rows.length + 1)) H'
def z75 (Of : OfP) : Sp := fun vs H Q _ => ∃ (p : Addr) (fp : List Addr) (zs : List Str) (r : Int) (rows : List Row), vs = [.ref p] /\ Of H p fp zs r rows /\ ∀ H', Same H H' -> Q (.int rows.length) H'
def z4K (Of : OfP) : Sp := fun vs H Q _ => ∃ (p : Addr) (fp : List Addr) (zs : List Str) (r : Int) (rows : List Row) (n : Int), vs = [.ref p, .int n] /\ Of H p fp zs r rows /\ 1 ≤ n /\ n ≤ rows.length /\
 ∀ (v : V) (H' : Hp), Same H H' -> Tell H' (z1f rows n r) v -> Q v H'
theorem z2x {z : Str} {zs : List Str} {pr : Row} : z11 (z :: zs) pr = (match pr.find? fun p => decide (p.1 = z) with | some p => p :: z11 zs pr | none => z11 zs pr) := by
 unfold z11
 rw [List.filterMap_cons]
 cases pr.find? fun p => decide (p.1 = z) <;> rfl
theorem z5K {p : Str × Int} {w : Row} : ∀ {zs : List Str}, p.1 ∉ zs -> z11 zs (p :: w) = z11 zs w
 | [], _ => rfl
 | y :: ys, h => by
  rw [List.mem_cons, not_or] at h
  rw [z2x, z2x, List.find?_cons, decide_eq_false h.1, z5K h.2]
theorem z4e : ∀ {zs : List Str} {w : Row}, zs.Nodup -> (w.map Prod.fst).Sublist zs -> z11 zs w = w
 | [], w, _, h => by
  have : w.map Prod.fst = [] := List.sublist_nil.mp h
  rw [List.map_eq_nil_iff] at this
  rw [this]
  rfl
 | z :: zs, w, nd, h => by
  rw [List.nodup_cons] at nd
  generalize e : w.map Prod.fst = l at h
  cases h with
  | cons _ h =>
   subst e
   have no : w.find? (fun p => decide (p.1 = z)) = none := List.find?_eq_none.mpr fun p hp => by
    have : p.1 ∈ zs := h.subset (List.mem_map_of_mem hp)
    intro e
    exact nd.1 (of_decide_eq_true e ▸ this)
   rw [z2x, no]
   exact z4e nd.2 h
  | cons_cons _ h =>
   cases w with
   | nil => cases e
   | cons p w =>
    rw [List.map_cons] at e
    injection e with e1 e2
    subst e2
    rw [z2x, List.find?_cons, decide_eq_true e1, z5K (by rw [e1]; exact nd.1), z4e nd.2 h]
def tsN (n : Int) (j : Nat) : List Int := (dnI n j).filter fun k => decide (1 ≤ k)
def tsP (ss : List (List Str)) (k : Int) : DV := .tup [.int k, nmsD (ss.getD (k - 1).toNat [])]
def tsD (ss : List (List Str)) (r : Int) : DV := .tup ((tsN ss.length r.toNat).map (tsP ss))
theorem y44 (n : Int) (j : Nat) : (tsN n j).length ≤ j := by
 have h := List.length_filter_le (fun k => decide (1 ≤ k)) (dnI n j)
 rw [y1u] at h
 exact h
def y3t (K : PySem.W.Frag) : Sp := fun vs H Q _ => ∃ (p : Addr) (xs : List V) (ss : List (List Str)) (r : Int), vs = [.ref p, .int r] /\ (SqL K H p xs \/ SqT K H p xs) /\ z08 H (ss.map nmsD) xs /\ ss.length ≤ 59 /\ (∀ s ∈ ss, s.length ≤ 12) /\ 0 ≤ r /\ r ≤ 10 /\
 ∀ (v : V) (H' : Hp), Same H H' -> Tell H' (tsD ss r) v -> Q v H'
def z8D : Sp := fun vs H Q _ => ∃ n r : Int, vs = [.int n, .int r] /\ 1 ≤ n /\ n ≤ 60 /\ 0 ≤ r /\ r ≤ 10 /\
 ∀ (l : Addr) (H' : Hp), Same H H' -> H' l = some (.tup (((upI 1 60).filter fun x => decide (x ≤ n) && decide (n - x ≤ r)).map V.int)) -> Q (.ref l) H'
theorem y08 {n r : Int} (h1 : 1 ≤ n) (h2 : n ≤ 60) (h3 : 0 ≤ r) (h4 : r ≤ 10) :
  rngV (if n - r > 1 then n - r else 1) (n + 1 - (if n - r > 1 then n - r else 1)).toNat = ((upI 1 60).filter fun x => decide (x ≤ n) && decide (n - x ≤ r)).map V.int := by
 rw [y4d]
 refine congrArg (List.map V.int) (z20 (z1i _ _) ((z1i _ _).filter _) fun x => ?_)
 rw [List.mem_filter, z0W, z0W, Bool.and_eq_true, decide_eq_true_eq, decide_eq_true_eq]
 split <;> omega
theorem y03 (M : Bl mg) (F : Fun K "reached_by" "reached_by" z4u f fd) : FnOk P w K mg base CX0 1 f fd z47 z8D := by
 have nd := z5P.nd
 refine F.ok z5P (fun vs H Q E h => ?_) (fun cdv A outer s H vs Q E hr h => ?_)
 ·obtain ⟨n, r, rfl, _⟩ := h
  rfl
 obtain ⟨n, r, rfl, h1, h2, h3, h4, q⟩ := h
 refine ⟨_, (z05 (z0k (z0t (z6U rfl) rfl M.tuple PyProof.Rows.boot_tuple (z00 (z0t y1g rfl M.range PyProof.Rows.boot_range (z00 (z0c (y24 rfl) rfl M.max PyProof.Rows.boot_max (z00 z07 (z00 (z0p z4H (pv 0) (pv 1)) z04))) (z00 (z0p z1s (pv 0) z07) z04))) z04)))), ?_⟩
 refine ⟨_, rfl, _, rfl, _, _, rfl, rfl, _, _, rfl, _, rfl, _, _, rfl, rfl, _, _, rfl, fun p hp => ?_⟩
 refine ⟨p, _, _, rfl, z02, ⟨?_, ?_, ?_, ?_⟩, ?_, fun l hl => ?_⟩
 ·split <;> omega
 ·split <;> omega
 ·omega
 ·omega
 ·split <;> omega
 ·refine q l _ ((z01 hp _).trans (z01 hl _)) ?_
  rw [z02, y08 h1 h2 h3 h4]
theorem z6t (hi : Int) (j : Nat) : (dnI hi j).Pairwise (· > ·) := by
 unfold dnI
 rw [List.pairwise_map]
 exact List.pairwise_lt_range.imp fun h => by omega
theorem z6K {n : Int} {j : Nat} {x : Int} : x ∈ tsN n j ↔ 1 ≤ x /\ n - j < x /\ x ≤ n := by
 unfold tsN
 rw [List.mem_filter, z7l, decide_eq_true_eq]
 omega
theorem y3R (n : Int) (j : Nat) : (tsN n j).reverse.Pairwise (· < ·) := by
 rw [List.pairwise_reverse]
 exact ((z6t n j).filter _).imp fun h => h
theorem y0B {n r : Int} (h0 : 0 ≤ n) (h1 : n ≤ 59) (r0 : 0 ≤ r) (r1 : r ≤ 10) : ((upI 1 60).filter fun x => decide (x ≤ n + 1) && decide (n + 1 - x ≤ r)) = (tsN n r.toNat).reverse ++ [n + 1] := by
 refine z20 ((z1i _ _).filter _) (List.pairwise_append.mpr ⟨y3R _ _, List.pairwise_singleton _ _, fun x hx y hy => ?_⟩) fun x => ?_
 ·rw [List.mem_reverse, z6K] at hx
  rw [List.mem_singleton] at hy
  omega
 ·rw [List.mem_filter, z0W, Bool.and_eq_true, decide_eq_true_eq, decide_eq_true_eq, List.mem_append, List.mem_reverse, z6K, List.mem_singleton]
  omega
theorem y47 (M : Bl mg) (F : Fun K "tail_for" "tail_for" z6n f fd) (Greached_by : Cal P w K mg base 1 "reached_by" z47 z8D) : FnOk P w K mg base CX0 2 f fd z6O (y3t K) := by
 have nd := z7j.nd
 refine F.ok z7j (fun vs H Q E h => ?_) (fun cdv A outer s H vs Q E hr h => ?_)
 ·obtain ⟨p, xs, ss, r, rfl, _⟩ := h
  rfl
 obtain ⟨p, xs, ss, r, rfl, hS, tS, l60, l12, r0, r1, k⟩ := h
 refine ⟨_, (z03 (z0m (i := 2) nd rfl (Or.inl rfl) (z0p z1s (z0c z0a rfl M.len PySem.boot_len (z00 (pv 0) z04)) z07)) (z03 (z0m (i := 3) nd rfl (Or.inl rfl) (z35 y3s (z0o Greached_by (rm hr) rfl (z00 (pv 2) (z00 (pv 1) z04))) z4x (z4r (pe_un y4Y z07)))) (z05 (z0k (z0t z0s rfl M.tuple PyProof.Rows.boot_tuple (z00 (z1p ["earlier"] ["sets"] [0] rfl (z0u rfl (by decide +kernel) rfl (by decide +kernel) rfl rfl) (y58 rfl M.reversed (z00 (pv 3) z04)) (fun _ _ _ _ _ => (z0j (i := 0) (show ((["earlier"] : List PySem.Str) ++ (["sets"] : List PySem.Str)).Nodup from by decide +kernel) rfl (Or.inl rfl))) (z0w (by decide)) z0b (fun _ _ _ _ _ => z1B) (fun _ _ _ _ _ => (z41 (z00 (pv 0) (z00 (z0t (z2y (K := K) rfl) rfl M.tuple PyProof.Rows.boot_tuple (z00 (z0Z (r := rIx K) y4O (pv 1) (z0p z4H (pv 0) z07) (fun _ _ => rfl)) z04)) z04))))) z04)))))), ?_⟩
 have lx : xs.length = ss.length := by rw [tS.length, List.length_map]
 have lx' : (xs.length : Int) = ss.length := by omega
 refine ⟨_, rfl, p, xs, rfl, hS, _, _, rfl, rfl, ?_⟩
 refine ⟨_, rfl, _, rfl, (xs.length : Int) + 1, r, rfl, by omega, by omega, r0, r1, fun l H1 s1 e1 => ?_⟩
 rw [lx', y0B (by omega) (by omega) r0 r1] at e1
 have eL : (((tsN ss.length r.toNat).reverse ++ [(ss.length : Int) + 1]).map V.int).length = (tsN ss.length r.toNat).length + 1 := by
  rw [List.length_map, List.length_append, List.length_reverse]
  rfl
 have sx : HT.sIx (((tsN ss.length r.toNat).reverse ++ [(ss.length : Int) + 1]).map V.int).length (((tsN ss.length r.toNat).reverse ++ [(ss.length : Int) + 1]).map V.int).length (some (-1)) = (tsN ss.length r.toNat).length := by
  rw [eL]
  show (if (-1 : Int) < 0 then (-1 + (((tsN ss.length r.toNat).length + 1 : Nat) : Int)).toNat else min (-1 : Int).toNat ((tsN ss.length r.toNat).length + 1)) = _
  rw [if_pos (by decide)]
  omega
 have cut : cutV (((tsN ss.length r.toNat).reverse ++ [(ss.length : Int) + 1]).map V.int) none (some (-1)) = (tsN ss.length r.toNat).reverse.map V.int := by
  unfold cutV
  rw [sx]
  show List.take ((tsN ss.length r.toNat).length - 0) (List.drop 0 _) = _
  rw [List.drop_zero, Nat.sub_zero, List.map_append, List.take_left' (by rw [List.length_map, List.length_reverse])]
 refine ⟨_, rfl, -1, rfl, l, _, rfl, SqT.of e1, ?_, fun a ha => ?_⟩
 ·rintro ⟨_, z⟩
  rw [sx, eL] at z
  omega
 rw [cut]
 have s2 := s1.trans (z01 ha (.tup ((tsN ss.length r.toNat).reverse.map V.int)))
 have e2 : upd H1 a (.tup ((tsN ss.length r.toNat).reverse.map V.int)) a = some (.tup ((tsN ss.length r.toNat).reverse.map V.int)) := z02
 generalize upd H1 a (.tup ((tsN ss.length r.toNat).reverse.map V.int)) = H2 at s2 e2
 have le := y44 ss.length r.toNat
 have lr : ((tsN ss.length r.toNat).reverse.map V.int).length = (tsN ss.length r.toNat).length := by rw [List.length_map, List.length_reverse]
 refine ⟨_, rfl, a, _, rfl, SqT.of e2, ?_⟩
 refine y39 (fun i ys H' => Same H2 H' /\ z08 H' (((tsN ss.length r.toNat).take i).map (tsP ss)) ys) ⟨Same.refl _, by rw [List.take_zero]; exact .nil⟩ (fun i ys H' hi hp => ?_) (fun i x ys H' hx hp => ?_) (fun ys H' hp => ?_)
 ·obtain ⟨g, t⟩ := hp
  refine ⟨SqT.of (g _ _ e2), z0d ?_⟩
  rw [t.length, List.length_map, List.length_take]
  omega
 ·obtain ⟨g, t⟩ := hp
  rw [<- List.map_reverse, List.reverse_reverse, List.getElem?_map] at hx
  obtain ⟨m, hm, rfl⟩ := Option.map_eq_some_iff.mp hx
  have hb := z6K.mp (List.mem_of_getElem? hm)
  have hk : (m - 1).toNat < ss.length := by omega
  have t2 := z08.keep (s2.trans g) _ _ tS
  obtain ⟨v, ev, tv⟩ := t2.get (m - 1).toNat (nmsD (ss.getD (m - 1).toNat [])) (by
   rw [List.getElem?_map, List.getD_eq_getElem?_getD, List.getElem?_eq_getElem hk]
   rfl)
  have av : atI xs (m - 1) = some v := by
   have e : m - 1 = (((m - 1).toNat : Nat) : Int) := by omega
   rw [e]
   exact z0J ev
  obtain ⟨b, us, rfl, eb, _, _⟩ := z0f tv
  refine ⟨_, rfl, _, rfl, _, rfl, _, _, rfl, rfl, ?_⟩
  have go : ∀ (z : Tell H' (nmsD (ss.getD (m - 1).toNat [])) (.ref b)), y3v K [.ref b] H' fun x H3 => [V.int m, x].length ≤ sizeLine /\ ∀ q, H3 q = none -> Same H2 (upd H3 q (.tup [.int m, x])) /\ z08 (upd H3 q (.tup [.int m, x])) (((tsN ss.length r.toNat).take (i + 1)).map (tsP ss)) (ys ++ [.ref q]) := fun z =>
   ⟨b, us, rfl, .inr ⟨SqT.of eb, by show 2 ≤ sizeLine; decide, fun q hq => ⟨g.trans (z01 hq _), by
    rw [List.take_add_one, hm, List.map_append]
    exact z08.snoc (z08.keep (z01 hq _) _ _ t) (z0E z02 (by show 2 ≤ 1000000; decide) (.cons (z2c _) (.cons (Tell.keep (z01 hq _) _ _ z) .nil)))⟩⟩⟩
  rcases hS with hS | hS
  ·exact .inl ⟨p, xs, _, .ref b, rfl, rfl, (s2.trans g).seq hS, av, go tv⟩
  ·exact .inr (.inl ⟨p, xs, _, .ref b, rfl, rfl, z52 (s2.trans g) hS, av, go tv⟩)
 ·obtain ⟨g, t⟩ := hp
  rw [lr, List.take_length] at t
  intro D hD
  refine ⟨D, ys, rfl, .inl ⟨SqL.of z02, fun q hq => k _ _ (s2.trans (g.trans ((z01 hD _).trans (z01 hq _)))) (z0E z02 ?_ (z08.keep ((z01 hD _).trans (z01 hq _)) _ _ t))⟩⟩
  rw [List.length_map]
  omega
def kvR (p : Str × Int) : Key × V := (Sum.inr p.1, .int p.2)
def y59 (K : PySem.W.Frag) : Sp := fun vs H Q _ => ∃ (p : Addr) (zs : List Str) (z : Str), vs = [.ref p, .str z] /\ SqN K H p zs /\ z ∈ zs /\ Q .non H
theorem y1E (x : Str) (ns : List Str) : inV (.str x) (ns.map V.str) = decide (x ∈ ns) := by
 unfold inV
 rw [Bool.eq_iff_iff, List.any_map, List.any_eq_true, decide_eq_true_eq]
 constructor
 ·rintro ⟨y, hy, e⟩
  have : y = x := by simpa [eqV] using e
  exact this ▸ hy
 ·intro h
  exact ⟨x, h, by simp [eqV]⟩
theorem y5i (M : Bl mg) (F : Fun K "refuse_unknown_name" "refuse_unknown_name" z1v f fd) : FnOk P w K mg base CX0 1 f fd z1t (y59 K) := by
 have nd := z23.nd
 refine F.ok z23 (fun vs H Q E h => ?_) (fun cdv A outer s H vs Q E hr h => ?_)
 ·obtain ⟨p, zs, z, rfl, _⟩ := h
  rfl
 obtain ⟨p, zs, z, rfl, hp, hz, k⟩ := h
 refine ⟨_, (z05 (z0P (z0e z1E (pv 1) (pv 0) (by with_unfolding_all rfl)) (z05 z1h) z0r)), ?_⟩
 refine ⟨_, rfl, _, rfl, p, _, rfl, hp, rfl, z13 zs, _, rfl, ?_⟩
 rw [if_pos rfl, y1E, decide_eq_true hz]
 exact ite2 (fun c => absurd c (by decide)) fun _ => k
def z9T : Sp := fun vs H Q _ => ∃ v : Int, vs = [.int v] /\ 0 ≤ v /\ v ≤ 1000000 /\ Q .non H
theorem y0O (M : Bl mg) (F : Fun K "refuse_bad_value" "refuse_bad_value" z1U f fd) : FnOk P w K mg base CX0 1 f fd z1V z9T := by
 have nd := z2s.nd
 refine F.ok z2s (fun vs H Q E h => ?_) (fun cdv A outer s H vs Q E hr h => ?_)
 ·obtain ⟨r, rfl, _⟩ := h
  rfl
 obtain ⟨r, rfl, r0, r1, k⟩ := h
 refine ⟨_, (z05 (z0P (PW.pt (z4W (z0e z7L (pv 0) z07 (z0v _)) (z2t (z0e z4b (pv 0) (z2g rfl M.MOST_VALUE) (z0v _))))) (z05 z1h) z0r)), ?_⟩
 refine ⟨_, rfl, _, _, rfl, rfl, _, rfl, ite2 (fun q => absurd (z0G q) (by omega)) fun _ => ?_⟩
 exact ⟨_, rfl, _, _, rfl, rfl, _, rfl, ite2 (fun q => absurd (z0G q) (by omega)) fun _ => k⟩
def z2a (K : PySem.W.Frag) (H : Hp) (u : V) (p : Str × Int) : Prop := ∃ a, u = .ref a /\ (SqL K H a [.str p.1, .int p.2] \/ SqT K H a [.str p.1, .int p.2])
theorem z2a.keep {K : PySem.W.Frag} {H H' : Hp} (s : Same H H') : ∀ {us : List V} {pr : Row}, Paired (z2a K H) us pr -> Paired (z2a K H') us pr
 | _, _, .nil => .nil
 | _, _, .cons ⟨a, e, h⟩ t => .cons ⟨a, e, h.imp (fun q => s.seq q) fun q => z52 s q⟩ (z2a.keep s t)
theorem z2a.at {K : PySem.W.Frag} {H : Hp} : ∀ {us : List V} {pr : Row}, Paired (z2a K H) us pr -> ∀ (i : Nat) (x : V), us[i]? = some x -> ∃ p, pr[i]? = some p /\ z2a K H x p
 | _, _, .nil, i, x, e => by simp at e
 | _, _, .cons r t, 0, x, e => by
  simp at e
  subst e
  exact ⟨_, rfl, r⟩
 | _, _, .cons r t, i + 1, x, e => by
  obtain ⟨y, h1, h2⟩ := z2a.at t i x (by simpa using e)
  exact ⟨y, by simpa using h1, h2⟩
theorem z2a.pairs {K : PySem.W.Frag} {H : Hp} : ∀ {us : List V} {pr : Row}, Paired (z2a K H) us pr -> Paired (y2O K H) us (pr.map kvR)
 | _, _, .nil => .nil
 | _, _, .cons ⟨a, e, h⟩ t => .cons ⟨a, e, h⟩ (z2a.pairs t)
theorem z2a.of {K : PySem.W.Frag} {H : Hp} {fp : List Addr} : ∀ {us : List V} {pr : Row}, Paired (z7C K H fp) us pr -> Paired (z2a K H) us pr
 | _, _, .nil => .nil
 | _, _, .cons ⟨a, e, h, _⟩ t => .cons ⟨a, e, h⟩ (z2a.of t)
theorem SqP.or {K : PySem.W.Frag} {H : Hp} {a : Addr} {us : List V} (h : SqP K H a us) : SqL K H a us \/ SqT K H a us := h.imp id SqT.of
theorem SqP.keep {K : PySem.W.Frag} {H H' : Hp} {a : Addr} {us : List V} (s : Same H H') (h : SqP K H a us) : SqP K H' a us := h.imp (fun q => s.seq q) fun q => s _ _ q
def z8y (K : PySem.W.Frag) : Sp := fun vs H Q _ => ∃ (pn a : Addr) (zs : List Str) (us : List V) (pr : Row), vs = [.ref pn, .ref a] /\ SqN K H pn zs /\ SqP K H a us /\ Paired (z2a K H) us pr /\ GoodR zs pr /\ pr.length ≤ 12 /\ ∀ H', Same H H' -> Q .non H'
theorem y0n (M : Bl mg) (F : Fun K "refuse_bad_rows" "refuse_bad_rows" z26 f fd) (Grefuse_unknown_name : Cal P w K mg base 1 "refuse_unknown_name" z1t (y59 K))
  (Grefuse_bad_value : Cal P w K mg base 1 "refuse_bad_value" z1V z9T) : FnOk P w K mg base CX0 2 f fd z28 (z8y K) := by
 have nd := z2R.nd
 refine F.ok z2R (fun vs H Q E h => ?_) (fun cdv A outer s H vs Q E hr h => ?_)
 ·obtain ⟨pn, a, zs, us, pr, rfl, _⟩ := h
  rfl
 obtain ⟨pn, a, zs, us, pr, rfl, hn, ha, hp, g, l12, k⟩ := h
 refine ⟨_, (z03 (z45 (i := 2) ["name", "value"] [] [] rfl nd rfl (Or.inl rfl) (z0u rfl (by decide +kernel) rfl (by decide +kernel) rfl rfl) (y1T (pv 1)) (fun _ _ _ _ _ => (y2r (K := K) (n := 2) rfl rfl (z14 (z0j (i := 0) (show ((["name", "value"] : List PySem.Str) ++ ([] : List PySem.Str)).Nodup from by decide +kernel) rfl (Or.inl rfl)) (z14 (z0j (i := 1) (show ((["name", "value"] : List PySem.Str) ++ ([] : List PySem.Str)).Nodup from by decide +kernel) rfl (Or.inl rfl)) z4a)))) (y43 (z1Z (z0w (by decide)) z0b (z1Z (z0w (by decide)) z0b z67 z15) (z0L z0b z15))) (y2R (z0L z0b (z0L z0b z15))) (fun _ _ _ _ _ => z1B) (fun _ _ _ _ _ => (pv 0))) (z03 (z1g PassesOwn.never rfl (z1u (pv 2)) (z0j (i := 3) nd rfl (Or.inl rfl)) (z05 (z0y (z0o Grefuse_unknown_name (rm hr) rfl (z00 (pv 0) (z00 (pv 3) z04)))))) (z03 (z0P (z0e y0I (z0c z4R rfl M.len PySem.boot_len (z00 (z0t (z3V rfl) rfl M.set PyProof.Rows.boot_set (z00 (pv 2) z04)) z04)) (z0c z0a rfl M.len PySem.boot_len (z00 (pv 2) z04)) (z0v _)) (z05 z1h) z0r) (z05 (z1g PassesOwn.never rfl (y1T (pv 1)) (y2r (K := K) (n := 2) rfl rfl (z14 (z0j (i := 3) nd rfl (Or.inl rfl)) (z14 (z0j (i := 4) nd rfl (Or.inl rfl)) z4a))) (z05 (z0y (z0o Grefuse_bad_value (rm hr) rfl (z00 (pv 4) z04))))))))), ?_⟩
 obtain ⟨t, ht⟩ := SqS.of (SqP.or ha)
 have lu : us.length = pr.length := hp.length
 refine ⟨_, rfl, a, t, rfl, ⟨_, ht⟩, ?_⟩
 refine z9q (xs := us) (fun i ys H' => H' = H /\ ys = ((pr.take i).map Prod.fst).map V.str) ⟨rfl, rfl⟩ (fun i ys H' hi hq => ?_) (fun i x ys H' hx hq => ?_) (fun ys H' hq => ?_)
 ·obtain ⟨rfl, rfl⟩ := hq
  refine ⟨ht, z0d ?_⟩
  rw [List.length_map, List.length_map, List.length_take]
  omega
 ·obtain ⟨rfl, rfl⟩ := hq
  obtain ⟨p, ep, b, rfl, hb⟩ := z2a.at hp i x hx
  refine ⟨b, _, rfl, hb, rfl, _, _, rfl, _, _, rfl, rfl, ?_⟩
  refine ⟨_, rfl, rfl, ?_⟩
  rw [z0l ep, List.map_append, List.map_append]
  rfl
 obtain ⟨rfl, rfl⟩ := hq
 rw [lu, List.take_length]
 intro D hD
 have s1 := z01 hD (.lst ((pr.map Prod.fst).map V.str))
 have e1 : upd H' D (.lst ((pr.map Prod.fst).map V.str)) D = some (.lst ((pr.map Prod.fst).map V.str)) := z02
 generalize upd H' D (.lst ((pr.map Prod.fst).map V.str)) = H1 at s1 e1
 have hn1 := SqN.keep s1 hn
 have ht1 := SqS.keep s1 ht
 have hp1 := z2a.keep s1 hp
 refine ⟨_, rfl, D, rfl, ⟨_, SqL.of e1⟩, z1I (K := K) (a := D) (xs := (pr.map Prod.fst).map V.str) (fun i σ H2 => ∃ o : Option V, H2 = H1 /\ σ = [some (.ref pn), some (.ref a), some (.ref D), o, none]) ⟨none, rfl, rfl⟩ (fun i σ H2 _ ⟨_, e, _⟩ => e ▸ SqL.of e1) (fun i x σ H2 hx hq => ?_) (fun σ H2 hq => ?_)⟩
 ·obtain ⟨o, rfl, rfl⟩ := hq
  rw [List.getElem?_map] at hx
  obtain ⟨z, ez, rfl⟩ := Option.map_eq_some_iff.mp hx
  have hz : z ∈ zs := by
   obtain ⟨p, hpm, rfl⟩ := List.mem_map.mp (List.mem_of_getElem? ez)
   exact g.sub p hpm
  exact ⟨_, rfl, _, rfl, pn, zs, z, rfl, hn1, hz, _, rfl, rfl⟩
 obtain ⟨o, rfl, rfl⟩ := hq
 have lf : (pr.map Prod.fst).length = pr.length := List.length_map _
 refine ⟨_, rfl, D, pr.map Prod.fst, rfl, .inl (SqL.of e1), by omega, fun l hl => ⟨l, pr.map Prod.fst, rfl, z02, by omega, _, rfl, D, _, rfl, .inl (SqL.of (z01 hl _ _ _ e1)), rfl, _, rfl, ?_⟩⟩
 refine y5p (by rw [y1U g.nd, List.length_map (f := V.str)]) ?_
 have s2 := s1.trans (z01 hl (SetT P w l (pr.map Prod.fst)))
 have ht2 := SqS.keep (z01 hl (SetT P w l (pr.map Prod.fst))) ht1
 have hp2 := z2a.keep (z01 hl (SetT P w l (pr.map Prod.fst))) hp1
 refine ⟨_, rfl, a, t, rfl, ⟨_, ht2⟩, ?_⟩
 refine y4k (xs := us) (fun i σ H3 => ∃ o1 o2 : Option V, H3 = upd H2 l (SetT P w l (pr.map Prod.fst)) /\ σ = [some (.ref pn), some (.ref a), some (.ref D), o1, o2]) ⟨_, _, rfl, rfl⟩ (fun i σ H3 _ ⟨_, _, e, _⟩ => e ▸ ht2) (fun i x σ H3 hx hq => ?_) (fun σ H3 hq => ?_)
 ·obtain ⟨o1, o2, rfl, rfl⟩ := hq
  obtain ⟨p, ep, b, rfl, hb⟩ := z2a.at hp2 i x hx
  have hv := g.val p (List.mem_of_getElem? ep)
  refine ⟨b, _, rfl, hb, rfl, _, _, rfl, _, _, rfl, rfl, ?_⟩
  exact ⟨_, rfl, p.2, rfl, hv.1, hv.2, _, _, rfl, rfl⟩
 ·obtain ⟨o1, o2, rfl, rfl⟩ := hq
  exact k _ s2
def z8B (K : PySem.W.Frag) : Sp := fun vs H Q _ => ∃ (pn a : Addr) (zs : List Str) (us : List V) (pr : Row), vs = [.ref pn, .ref a] /\ SqN K H pn zs /\ zs.length ≤ 12 /\ SqP K H a us /\ Paired (z2a K H) us pr /\ (pr.map Prod.fst).Nodup /\ pr.length ≤ 12 /\ ∀ (v : V) (H' : Hp), Same H H' -> Tell H' (rowD (z11 zs pr)) v -> Q v H'
theorem z7A {z : Str} : ∀ {pr : Row}, valV (pr.map kvR) (Sum.inr z : Key) = (pr.find? fun p => decide (p.1 = z)).map fun p => V.int p.2
 | [] => rfl
 | p :: w => by
  rw [List.map_cons, List.find?_cons]
  by_cases e : p.1 = z
  ·rw [z5Z (show (kvR p).1 = Sum.inr z by unfold kvR; rw [e]), decide_eq_true e]
   rfl
  ·rw [z63 (show ¬ (kvR p).1 = Sum.inr z from fun q => e (Sum.inr.inj q)), decide_eq_false e]
   exact z7A
theorem z8i (zs : List Str) (z : Str) (pr : Row) : z11 (zs ++ [z]) pr = z11 zs pr ++ (match pr.find? fun p => decide (p.1 = z) with | some p => [p] | none => []) := by
 unfold z11
 rw [List.filterMap_append, List.filterMap_cons]
 cases pr.find? fun p => decide (p.1 = z) <;> rfl
theorem z4m (zs : List Str) (pr : Row) : (z11 zs pr).length ≤ zs.length := List.length_filterMap_le _ _
theorem y0u (M : Bl mg) (F : Fun K "rows_in_order" "rows_in_order" z2G f fd) : FnOk P w K mg base CX0 1 f fd z2D (z8B K) := by
 have nd := z3s.nd
 refine F.ok z3s (fun vs H Q E h => ?_) (fun cdv A outer s H vs Q E hr h => ?_)
 ·obtain ⟨pn, a, zs, us, pr, rfl, _⟩ := h
  rfl
 obtain ⟨pn, a, zs, us, pr, rfl, hn, z12, ha, hp, ndr, l12, k⟩ := h
 have hu := z8K hr
 refine ⟨_, (z03 (z0m (i := 2) nd rfl (Or.inr rfl) (z0t (z5y (K := K) rfl rfl) rfl M.dict PyProof.Rows.boot_dict (z00 (pv 1) z04))) (z05 (z0k (z0t z0s rfl M.tuple PyProof.Rows.boot_tuple (z00 (z1p ["name"] ["values"] [2] rfl (z0u rfl (by decide +kernel) rfl (by decide +kernel) rfl rfl) (y1T (pv 0)) (fun _ _ _ _ _ => (z0j (i := 0) (show ((["name"] : List PySem.Str) ++ (["values"] : List PySem.Str)).Nodup from by decide +kernel) rfl (Or.inl rfl))) (z0w (by decide)) z0b (fun _ _ _ _ _ => (z3e (z7c (y3M hu (pv 0) (pv 1))))) (fun _ _ _ _ _ => (z41 (z00 (pv 0) (z00 (z6j hu (pv 1) (pv 0) (fun _ _ => rfl)) z04))))) z04))))), ?_⟩
 have lu : us.length = pr.length := hp.length
 refine ⟨_, rfl, a, us, pr.map kvR, rfl, ha, z2a.pairs hp, by omega, ?_, fun d hd => ?_⟩
 ·have e : (pr.map kvR).map (·.1) = (pr.map Prod.fst).map Sum.inr := by rw [List.map_map, List.map_map]; rfl
  rw [e, List.nodup_iff_pairwise_ne, List.pairwise_map]
  exact (List.nodup_iff_pairwise_ne.mp ndr).imp fun h e => h (Sum.inr.inj e)
 have s1 := z01 hd (.dK (pr.map kvR))
 have e1 : upd H d (.dK (pr.map kvR)) d = some (.dK (pr.map kvR)) := z02
 generalize upd H d (.dK (pr.map kvR)) = H1 at s1 e1
 obtain ⟨t, ht⟩ := SqS.of (SqN.keep s1 hn)
 refine ⟨_, rfl, pn, t, rfl, ⟨_, ht⟩, ?_⟩
 refine z9q (xs := zs.map V.str) (fun i ys H' => Same H1 H' /\ z08 H' ((z11 (zs.take i) pr).map z7Y) ys) ⟨Same.refl _, by rw [List.take_zero]; exact .nil⟩ (fun i ys H' hi hq => ?_) (fun i x ys H' hx hq => ?_) (fun ys H' hq => ?_)
 ·obtain ⟨g, t'⟩ := hq
  refine ⟨SqS.keep g ht, z0d ?_⟩
  have := z4m (zs.take i) pr
  rw [List.length_take] at this
  rw [t'.length, List.length_map]
  omega
 ·obtain ⟨g, t'⟩ := hq
  rw [List.getElem?_map] at hx
  obtain ⟨z, ez, rfl⟩ := Option.map_eq_some_iff.mp hx
  refine ⟨_, rfl, _, rfl, d, _, rfl, DGet.k (k := Sum.inr z) (g _ _ e1), _, rfl, ?_⟩
  rw [z7A, z0l ez, z8i]
  cases ev : pr.find? fun p => decide (p.1 = z) with
  | none =>
   refine iteF ⟨g, ?_⟩
   rw [List.append_nil]
   exact t'
  | some p =>
   have ep : p.1 = z := by
    have := List.find?_some ev
    exact of_decide_eq_true this
   refine iteT ⟨_, rfl, _, rfl, _, rfl, d, _, rfl, (show DGet _ d (kV (Sum.inr z)) (some (V.int p.2)) by rw [<- show valV (pr.map kvR) (Sum.inr z : Key) = some (V.int p.2) by rw [z7A, ev]; rfl]; exact DGet.k (g _ _ e1)), (by show 2 ≤ sizeLine; decide), fun q hq => ⟨g.trans (z01 hq _), ?_⟩⟩
   rw [List.map_append]
   refine z08.snoc (z08.keep (z01 hq _) _ _ t') ?_
   rw [<- ep]
   exact z0E z02 (by show 2 ≤ 1000000; decide) (.cons (z4G _) (.cons (z2c _) .nil))
 ·obtain ⟨g, t'⟩ := hq
  rw [List.length_map, List.take_length] at t'
  intro D hD
  refine ⟨D, ys, rfl, .inl ⟨SqL.of z02, fun q hq => k _ _ (s1.trans (g.trans ((z01 hD _).trans (z01 hq _)))) (z0E z02 ?_ (z08.keep ((z01 hD _).trans (z01 hq _)) _ _ t'))⟩⟩
  have := z4m zs pr
  rw [List.length_map]
  omega
def z8P : Sp := fun vs H Q _ => ∃ (a : Addr) (xs : List V) (w : Row), vs = [.ref a] /\ H a = some (.tup xs) /\ z08 H (w.map z7Y) xs /\ w.length ≤ 12 /\ ∀ (l : Addr) (H' : Hp), Same H H' -> H' l = some (.tup ((z0z w).map V.str)) -> Q (.ref l) H'
theorem y2B (M : Bl mg) (F : Fun K "names_of_rows" "names_of_rows" z2A f fd) : FnOk P w K mg base CX0 1 f fd z1Y z8P := by
 have nd := z3q.nd
 refine F.ok z3q (fun vs H Q E h => ?_) (fun cdv A outer s H vs Q E hr h => ?_)
 ·obtain ⟨a, xs, w, rfl, _⟩ := h
  rfl
 obtain ⟨a, xs, w, rfl, ha, tw, l12, k⟩ := h
 refine ⟨_, (z05 (z0k (z0t z0s rfl M.tuple PyProof.Rows.boot_tuple (z00 (z1p ["name", "value"] [] [] rfl (z0u rfl (by decide +kernel) rfl (by decide +kernel) rfl rfl) (z3F (pv 0)) (fun _ _ _ _ _ => (z7o (K := K) (n := 2) rfl rfl (z14 (z0j (i := 0) (show ((["name", "value"] : List PySem.Str) ++ ([] : List PySem.Str)).Nodup from by decide +kernel) rfl (Or.inl rfl)) (z14 (z0j (i := 1) (show ((["name", "value"] : List PySem.Str) ++ ([] : List PySem.Str)).Nodup from by decide +kernel) rfl (Or.inl rfl)) z4a)))) (z7N (z1Z (z0w (by decide)) z0b (z1Z (z0w (by decide)) z0b z67 z15) (z0L z0b z15))) (z62 (z0L z0b (z0L z0b z15))) (fun _ _ _ _ _ => z1B) (fun _ _ _ _ _ => (pv 0))) z04)))), ?_⟩
 have lx : xs.length = w.length := by rw [tw.length, List.length_map]
 refine ⟨_, rfl, a, rfl, ⟨_, SqT.of ha⟩, ?_⟩
 refine z21 (xs := xs) (fun i ys H' => H' = H /\ ys = (z0z (w.take i)).map V.str) ⟨rfl, rfl⟩ (fun i ys H' hi hq => ?_) (fun i x ys H' hx hq => ?_) (fun ys H' hq => ?_)
 ·obtain ⟨rfl, rfl⟩ := hq
  refine ⟨SqT.of ha, z0d ?_⟩
  unfold z0z
  rw [List.length_map, List.length_map, List.length_take]
  omega
 ·obtain ⟨rfl, rfl⟩ := hq
  obtain ⟨p, b, ep, rfl, hb⟩ := z3f tw i x hx
  refine ⟨b, _, rfl, SqT.of hb, rfl, _, _, rfl, _, _, rfl, rfl, ?_⟩
  refine ⟨_, rfl, rfl, ?_⟩
  unfold z0z
  rw [z0l ep, List.map_append, List.map_append]
  rfl
 ·obtain ⟨rfl, rfl⟩ := hq
  rw [lx, List.take_length]
  intro D hD
  exact ⟨D, _, rfl, .inl ⟨SqL.of z02, fun q hq => k q _ ((z01 hD _).trans (z01 hq _)) z02⟩⟩
def OfD (K : PySem.W.Frag) (C : Addr) : OfP := fun H p fp zs r rows => ∃ (dx pn pl : Addr) (fs : List (Str × V)) (xs : List V), fp = [p, dx, pl] /\ H p = some (.ins C dx fs) /\ H dx = some (.own p) /\ H pn = some (.tup (zs.map V.str)) /\ H pl = some (.lst xs) /\
 fs.lookup ("names" : Str) = some (V.ref pn) /\ fs.lookup ("reach" : Str) = some (V.int r) /\ fs.lookup ("written" : Str) = some (V.ref pl) /\ (∀ m ∈ (["refuse_writing", "write", "latest", "issue"] : List Str), fs.lookup m = none) /\
 z08 H ((upI 1 rows.length).map fun n => z1f rows n r) xs /\ rows.length ≤ 60 /\ (∀ w ∈ rows, w.length ≤ 12) /\ GoodN zs /\ 0 ≤ r /\ r ≤ 10
theorem ofOk {K : PySem.W.Frag} {C : Addr} : OfOk C ["write", "latest", "issue"] (OfD K C) := by
 refine ⟨fun h => ?_, fun h b hb => ?_, fun h s out nt => ?_⟩
 ·obtain ⟨dx, pn, pl, fs, xs, e, h1, h2, h3, h4, l1, l2, l3, lm, _⟩ := h
  refine ⟨dx, fs, h1, fun m hm => lm m ?_⟩
  simp only [List.mem_cons, List.not_mem_nil, or_false] at hm ⊢
  rcases hm with h | h | h <;> simp [h]
 ·obtain ⟨dx, pn, pl, fs, xs, rfl, h1, h2, h3, h4, _⟩ := h
  rcases List.mem_cons.mp hb with rfl | hb
  ·exact ⟨_, h1, fun xs z => by cases z⟩
  rcases List.mem_cons.mp hb with rfl | hb
  ·exact ⟨_, h2, fun xs z => by cases z⟩
  rw [List.mem_singleton.mp hb]
  exact ⟨_, h4, fun xs z => by cases z⟩
 ·obtain ⟨dx, pn, pl, fs, xs, rfl, h1, h2, h3, h4, l1, l2, l3, lm, tl, g⟩ := h
  exact ⟨dx, pn, pl, fs, xs, rfl, s _ _ h1 (fun m => out _ m (by simp)), s _ _ h2 (fun m => out _ m (by simp)), s _ _ h3 (fun m => nt _ m _ h3), s _ _ h4 (fun m => out _ m (by simp)), l1, l2, l3, lm, z08.but s nt _ _ tl, g⟩
theorem y0W {COffice : Addr} (M : Bl mg) (T : TxOffice K mg COffice) (F : Fun K "__init__" "Office.__init__" z25 f fd) (Gbulletin_names : Cal P w K mg base 2 "bulletin_names" z1L (z5l K)) :
  FnOk P w K mg base CX0 3 f fd z27 (z9w K COffice (OfD K COffice)) := by
 have nd := z2W.nd
 refine F.ok z2W (fun vs H Q E h => ?_) (fun cdv A outer s H vs Q E hr h => ?_)
 ·obtain ⟨x, dx, pn, zs, r, rfl, _⟩ := h
  rfl
 obtain ⟨x, dx, pn, zs, r, rfl, hx, ne, hdx, hn, g, r0, r1, k⟩ := h
 refine ⟨_, (z03 (z4J (pv 0) (z0o Gbulletin_names (rm hr) rfl (z00 (pv 1) (z00 (pv 2) z04))) rfl) (z03 (z4J (pv 0) (pv 2) rfl) (z05 (z4J (pv 0) (z1N z04) rfl)))), ?_⟩
 refine ⟨_, rfl, _, rfl, pn, zs, r, rfl, hn, g, r0, r1, fun l H1 s1 e1 => ?_⟩
 refine ⟨_, rfl, x, COffice, dx, [], rfl, s1 _ _ hx, T.cl, T.n_names, by decide, ?_⟩
 have z1 := z1k "names" (.ref l) []
 have z2 := z1k "reach" (.int r) (putF "names" (.ref l) [])
 have z0 : ([] : List (Str × V)).length = 0 := rfl
 refine ⟨_, rfl, _, rfl, x, COffice, dx, _, rfl, z02, T.cl, T.n_reach, (by omega), ?_⟩
 rw [z4h]
 refine ⟨(by show 0 ≤ sizeLine; decide), fun pd hd => ?_⟩
 have nx : x ≠ pd := z0i z02 hd
 have ndd : dx ≠ pd := z0i (show upd H1 x _ dx = some _ by rw [z09 ne]; exact s1 _ _ hdx) hd
 have nl : l ≠ x := z4L e1 (s1 _ _ hx) (fun z => by cases z)
 have nlp : l ≠ pd := z0i (show upd H1 x _ l = some _ by rw [z09 nl]; exact e1) hd
 have dfr : H1 pd = none := by rw [z09 (Ne.symm nx)] at hd; exact hd
 refine ⟨_, rfl, x, COffice, dx, _, rfl, (by rw [z09 nx, z02]), T.cl, T.n_written, (by omega), ?_⟩
 refine k [x, dx, pd] _ (fun b hb => ?_) (fun b o e nb => ?_) ⟨dx, l, pd, _, [], rfl, z02, ?_, ?_, ?_, ?_, ?_, ?_, ?_, .nil, by decide, fun _ q => (nomatch q), g, r0, r1⟩
 ·simp only [List.mem_cons, List.not_mem_nil, or_false] at hb
  rcases hb with rfl | rfl | rfl
  ·exact .inl rfl
  ·exact .inr (.inl rfl)
  ·exact .inr (.inr (s1.free dfr))
 ·rw [List.mem_singleton] at nb
  rw [z09 nb, z09 (z0i e (s1.free dfr)), z09 nb]
  exact s1 _ _ e
 ·rw [z09 ne, z09 ndd, z09 ne]
  exact s1 _ _ hdx
 ·rw [z09 nl, z09 nlp, z09 nl]
  exact e1
 ·rw [z09 (Ne.symm nx), z02]
 ·rw [z0h, if_neg (by decide +kernel), z0h, if_neg (by decide +kernel), z0h, if_pos rfl]
 ·rw [z0h, if_neg (by decide +kernel), z0h, if_pos rfl]
 ·rw [z0h, if_pos rfl]
 ·intro m hm
  simp only [List.mem_cons, List.not_mem_nil, or_false] at hm
  rcases hm with rfl | rfl | rfl | rfl <;> rw [z0h, if_neg (by decide +kernel), z0h, if_neg (by decide +kernel), z0h, if_neg (by decide +kernel)] <;> rfl
theorem z8U {COffice : Addr} (M : Bl mg) (T : TxOffice K mg COffice) (F : Fun K "latest" "Office.latest" z2F f fd) : FnOk P w K mg base CX0 1 f fd z2O (z75 (OfD K COffice)) := by
 have nd := z3p.nd
 refine F.ok z3p (fun vs H Q E h => ?_) (fun cdv A outer s H vs Q E hr h => ?_)
 ·obtain ⟨p, fp, zs, r, rows, rfl, _⟩ := h
  rfl
 obtain ⟨p, fp, zs, r, rows, rfl, of, k⟩ := h
 refine ⟨_, (z05 (z0k (z0c z0a rfl M.len PySem.boot_len (z00 (z0C (pv 0) rfl) z04)))), ?_⟩
 obtain ⟨dx, pn, pl, fs, xs, rfl, h1, h2, h3, h4, l1, l2, l3, lm, tl, r60, w12, g, r0, r1⟩ := of
 have lx : xs.length = rows.length := by rw [tl.length, List.length_map, z0H]
 refine ⟨_, rfl, p, COffice, dx, fs, _, rfl, h1, T.cl, T.n_written, l3, pl, xs, rfl, .inl (SqL.of h4), ?_⟩
 rw [lx]
 exact k H (Same.refl _)
theorem y0r {COffice : Addr} (M : Bl mg) (T : TxOffice K mg COffice) (F : Fun K "issue" "Office.issue" z2X f fd) : FnOk P w K mg base CX0 1 f fd z1H (z4K (OfD K COffice)) := by
 have nd := z3Z.nd
 refine F.ok z3Z (fun vs H Q E h => ?_) (fun cdv A outer s H vs Q E hr h => ?_)
 ·obtain ⟨p, fp, zs, r, rows, n, rfl, _⟩ := h
  rfl
 obtain ⟨p, fp, zs, r, rows, n, rfl, of, n1, n2, k⟩ := h
 refine ⟨_, (z03 (z0P (PW.pt (z4W (z0e z7L (pv 1) z07 (z0v _)) (z2t (z0e z4b (pv 1) (z0c z0a rfl M.len PySem.boot_len (z00 (z0C (pv 0) rfl) z04)) (z0v _))))) (z05 z1h) z0r) (z05 (z0k (z0Z z0B (z0C (pv 0) rfl) (z0p z4H (pv 1) z07) (fun _ _ => rfl))))), ?_⟩
 obtain ⟨dx, pn, pl, fs, xs, rfl, h1, h2, h3, h4, l1, l2, l3, lm, tl, r60, w12, g, r0, r1⟩ := of
 have lx : xs.length = rows.length := by rw [tl.length, List.length_map, z0H]
 refine ⟨_, rfl, _, _, rfl, rfl, _, rfl, ite2 (fun q => absurd (z0G q) (by omega)) fun _ => ?_⟩
 refine ⟨_, rfl, _, rfl, p, COffice, dx, fs, _, rfl, h1, T.cl, T.n_written, l3, pl, xs, rfl, .inl (SqL.of h4), _, _, rfl, rfl, _, rfl, ite2 (fun q => absurd (z0G q) (by omega)) fun _ => ?_⟩
 have hk : (n - 1).toNat < rows.length := by omega
 obtain ⟨v, ev, tv⟩ := tl.get (n - 1).toNat (z1f rows n r) (by
  unfold upI
  rw [List.getElem?_map, List.getElem?_map, List.getElem?_range hk]
  show some (z1f rows (1 + ((n - 1).toNat : Int)) r) = _
  rw [show (1 : Int) + ((n - 1).toNat : Int) = n by omega])
 have av : atI xs (n - 1) = some v := by
  rw [show n - 1 = (((n - 1).toNat : Nat) : Int) by omega]
  exact z0J ev
 exact ⟨_, rfl, p, COffice, dx, fs, _, rfl, h1, T.cl, T.n_written, l3, _, rfl, _, _, rfl, rfl, pl, xs, _, v, rfl, rfl, SqL.of h4, av, k v H (Same.refl _) tv⟩
def z65 (K : PySem.W.Frag) (Of : OfP) : Sp := fun vs H Q _ => ∃ (p a : Addr) (fp : List Addr) (zs : List Str) (r : Int) (rows : List Row) (us : List V) (pr : Row), vs = [.ref p, .ref a] /\ Of H p fp zs r rows /\ SqP K H a us /\ Paired (z2a K H) us pr /\ GoodR zs pr /\ pr.length ≤ 12 /\ rows.length < 60 /\ ∀ H', Same H H' -> Q .non H'
theorem y0h {COffice : Addr} (M : Bl mg) (T : TxOffice K mg COffice) (F : Fun K "refuse_writing" "Office.refuse_writing" z19 f fd) (Grefuse_bad_rows : Cal P w K mg base 2 "refuse_bad_rows" z28 (z8y K)) :
  FnOk P w K mg base CX0 3 f fd z0N (z65 K (OfD K COffice)) := by
 have nd := z1K.nd
 refine F.ok z1K (fun vs H Q E h => ?_) (fun cdv A outer s H vs Q E hr h => ?_)
 ·obtain ⟨p, a, fp, zs, r, rows, us, pr, rfl, _⟩ := h
  rfl
 obtain ⟨p, a, fp, zs, r, rows, us, pr, rfl, of, ha, hp, g', l12, l60, k⟩ := h
 refine ⟨_, (z03 (z0P (z0e y38 (z0c z0a rfl M.len PySem.boot_len (z00 (z0C (pv 0) rfl) z04)) (z2g rfl M.MOST_NUMBERS) (z0v _)) (z05 z1h) z0r) (z05 (z0y (z0o Grefuse_bad_rows (rm hr) rfl (z00 (z0C (pv 0) rfl) (z00 (pv 1) z04)))))), ?_⟩
 obtain ⟨dx, pn, pl, fs, xs, rfl, h1, h2, h3, h4, l1, l2, l3, lm, tl, r60, w12, g, r0, r1⟩ := of
 have lx : xs.length = rows.length := by rw [tl.length, List.length_map, z0H]
 refine ⟨_, rfl, p, COffice, dx, fs, _, rfl, h1, T.cl, T.n_written, l3, pl, xs, rfl, .inl (SqL.of h4), _, _, rfl, rfl, _, rfl, ite2 (fun q => absurd (z0G q) (by omega)) fun _ => ?_⟩
 exact ⟨_, rfl, p, COffice, dx, fs, _, rfl, h1, T.cl, T.n_names, l1, _, rfl, pn, a, zs, us, pr, rfl, .inr (SqT.of h3), ha, hp, g', l12, fun H' s => k H' s⟩
theorem z93 (rows : List Row) (x : Row) {n r : Int} (n1 : 1 ≤ n) (n2 : n ≤ rows.length) : z1f (rows ++ [x]) n r = z1f rows n r := by
 have e := z8S (rows := rows ++ [x]) (j := rows.length) (r := r) n1 n2
 rw [List.take_left] at e
 exact e.symm
theorem y0J (m : Nat) (r : Int) (r0 : 0 ≤ r) : z5o ((m : Int) + 1) r = tsN m r.toNat := by
 have falls : ∀ {l1 l2 : List Int}, l1.Pairwise (· > ·) -> l2.Pairwise (· > ·) -> (∀ x, x ∈ l1 ↔ x ∈ l2) -> l1 = l2 := fun {l1 l2} p1 p2 h => by
  have e := z20 (l1 := l1.reverse) (l2 := l2.reverse) (List.pairwise_reverse.mpr p1) (List.pairwise_reverse.mpr p2) fun x => by rw [List.mem_reverse, List.mem_reverse]; exact h x
  have e2 := congrArg List.reverse e
  rw [List.reverse_reverse, List.reverse_reverse] at e2
  exact e2
 refine falls ((z6t _ _).filter _) ((z6t _ _).filter _) fun x => ?_
 rw [z6K]
 unfold z5o
 rw [List.mem_filter, z7l, decide_eq_true_eq]
 omega
theorem y1Y (rows : List Row) (x : Row) (r : Int) (r0 : 0 ≤ r) : y2v (rows ++ [x]) ((rows.length : Int) + 1) r = tsD (rows.map z0z) r := by
 unfold y2v tsD
 rw [y0J _ _ r0, List.length_map]
 congr 1
 refine List.map_congr_left fun k hk => ?_
 have hk := z6K.mp hk
 unfold y0t tsP z0O
 have h1 : (k - 1).toNat < rows.length := by omega
 rw [List.getD_eq_getElem?_getD, List.getD_eq_getElem?_getD, List.getElem?_append_left h1, List.getElem?_map, List.getElem?_eq_getElem h1]
 rfl
theorem y00 {COffice : Addr} (M : Bl mg) (T : TxOffice K mg COffice) (F : Fun K "write" "Office.write" z36 f fd) (GOffice_refuse_writing : MCal P w K mg base 3 COffice "refuse_writing" z0N (z65 K (OfD K COffice)))
  (Gnames_of_rows : Cal P w K mg base 1 "names_of_rows" z1Y z8P) (Grows_in_order : Cal P w K mg base 1 "rows_in_order" z2D (z8B K)) (Gtail_for : Cal P w K mg base 2 "tail_for" z6O (y3t K)) :
  FnOk P w K mg base CX0 4 f fd z3d (z8h K (OfD K COffice)) := by
 have nd := z3R.nd
 refine F.ok z3R (fun vs H Q E h => ?_) (fun cdv A outer s H vs Q E hr h => ?_)
 ·obtain ⟨p, v, fp, zs, r, rows, pr, rfl, _⟩ := h
  rfl
 obtain ⟨p, v, fp, zs, r, rows, pr, rfl, of, ⟨a, us, rfl, ha, na, hp⟩, gr, l12, l60, k⟩ := h
 refine ⟨_, (z03 (z0y (z1M GOffice_refuse_writing (rm hr) (pv 0) (z00 (pv 1) z04))) (z03 (z0m (i := 2) nd rfl (Or.inl rfl) (z0p z1s (z0c z0a rfl M.len PySem.boot_len (z00 (z0C (pv 0) rfl) z04)) z07)) (z03 (z45 (i := 3) ["issue"] [] [] rfl nd rfl (Or.inl rfl) (z0u rfl (by decide +kernel) rfl (by decide +kernel) rfl rfl) (z1u (z0C (pv 0) rfl)) (fun _ _ _ _ _ => (z0j (i := 0) (show ((["issue"] : List PySem.Str) ++ ([] : List PySem.Str)).Nodup from by decide +kernel) rfl (Or.inl rfl))) (z0w (by decide)) z0b (fun _ _ _ _ _ => z1B) (fun _ _ _ _ _ => (z0o Gnames_of_rows (rm hr) rfl (z00 (z0Z (r := rIxT K) z3u (pv 0) z07 (fun _ _ => rfl)) z04)))) (z03 (z0y (z2V PySem.F.plainAttrs_list PySem.F.slot_list_append PySem.F.type_list_append z0I (z0C (pv 0) rfl) (z00 (z41 (z00 (pv 2) (z00 (z0o Grows_in_order (rm hr) rfl (z00 (z0C (pv 0) rfl) (z00 (pv 1) z04))) (z00 (z0o Gtail_for (rm hr) rfl (z00 (pv 3) (z00 (z0C (pv 0) rfl) z04))) z04)))) z04))) (z05 (z0k (pv 2))))))), ?_⟩
 have hp' := z2a.of hp
 obtain ⟨dx, pn, pl, fs, xs, rfl, h1, h2, h3, h4, l1, l2, l3, lm, tl, r60, w12, g, r0, r1⟩ := id of
 have lx : xs.length = rows.length := by rw [tl.length, List.length_map, z0H]
 refine ⟨_, rfl, p, dx, fs, rfl, h1, lm _ (by simp), _, rfl, p, a, _, zs, r, rows, us, pr, rfl, of, ha, hp', gr, l12, l60, fun H1 s1 => ?_⟩
 refine ⟨_, rfl, p, COffice, dx, fs, _, rfl, s1 _ _ h1, T.cl, T.n_written, l3, pl, xs, rfl, .inl (SqL.of (s1 _ _ h4)), _, _, rfl, rfl, ?_⟩
 refine ⟨_, rfl, p, COffice, dx, fs, _, rfl, s1 _ _ h1, T.cl, T.n_written, l3, pl, rfl, ⟨_, SqL.of (s1 _ _ h4)⟩, ?_⟩
 refine z2P (xs := xs) (fun i ys H' => Same H1 H' /\ z08 H' (((rows.take i).map z0z).map nmsD) ys) ⟨Same.refl _, by rw [List.take_zero]; exact .nil⟩ (fun i ys H' hi hq => ?_) (fun i x ys H' hx hq => ?_) (fun ys H' hq => ?_)
 ·obtain ⟨gg, t⟩ := hq
  refine ⟨SqL.of (gg _ _ (s1 _ _ h4)), z0d ?_⟩
  rw [t.length, List.length_map, List.length_map, List.length_take]
  omega
 ·obtain ⟨gg, t⟩ := hq
  have hi : i < rows.length := by
   have := (List.getElem?_eq_some_iff.mp hx).1
   omega
  obtain ⟨d, ed, td⟩ := tl.at i x hx
  unfold upI at ed
  rw [List.getElem?_map, List.getElem?_map, List.getElem?_range hi] at ed
  have ed' : z1f rows (1 + (i : Int)) r = d := Option.some.inj ed
  subst ed'
  have ew : z0O rows (1 + (i : Int)) = rows[i] := by
   unfold z0O
   rw [show (1 + (i : Int) - 1).toNat = i by omega, List.getD_eq_getElem?_getD, List.getElem?_eq_getElem hi]
   rfl
  obtain ⟨b, bs, rfl, eb, _, tb⟩ := z0f td
  obtain ⟨x0, ur, rfl, t0, tb⟩ := z0g tb
  obtain ⟨x1, ur, rfl, t1, tb⟩ := z0g tb
  rw [ew] at t1
  obtain ⟨c, cs, rfl, ec, _, tc⟩ := z0f t1
  refine ⟨_, rfl, b, _, _, _, rfl, rfl, SqT.of (gg _ _ (s1 _ _ eb)), z0J rfl, c, cs, rows[i], rfl, gg _ _ (s1 _ _ ec), z08.keep (s1.trans gg) _ _ tc, w12 _ (List.getElem_mem hi), fun l H2 s2 e2 => ⟨gg.trans s2, ?_⟩⟩
  rw [z0l (List.getElem?_eq_getElem hi), List.map_append, List.map_append]
  refine z08.snoc (z08.keep s2 _ _ t) (z0E e2 ?_ (z1F _))
  have := w12 _ (List.getElem_mem hi)
  unfold z0z
  rw [List.length_map, List.length_map]
  omega
 obtain ⟨gg, t⟩ := hq
 rw [lx, List.take_length] at t
 intro D hD
 have s2 := s1.trans (gg.trans (z01 hD (.lst ys)))
 have eD : upd H' D (.lst ys) D = some (.lst ys) := z02
 have t2 := z08.keep (z01 hD (.lst ys)) _ _ t
 generalize upd H' D (.lst ys) = H2 at s2 eD t2
 have l60' : ((rows.map z0z)).length ≤ 59 := by rw [List.length_map]; omega
 refine ⟨_, rfl, p, COffice, dx, fs, _, rfl, s2 _ _ h1, T.cl, T.n_written, l3, .inl ⟨rfl, _, SqL.of (s2 _ _ h4)⟩, ?_⟩
 refine ⟨_, rfl, _, rfl, p, COffice, dx, fs, _, rfl, s2 _ _ h1, T.cl, T.n_names, l1, _, rfl, pn, a, zs, us, pr, rfl, .inr (SqT.of (s2 _ _ h3)), g.hi, SqP.keep s2 ha, z2a.keep s2 hp', gr.nd, l12, fun v1 H3 s3 tv1 => ?_⟩
 have s23 := s2.trans s3
 refine ⟨_, rfl, _, rfl, p, COffice, dx, fs, _, rfl, s23 _ _ h1, T.cl, T.n_reach, l2, D, ys, rows.map z0z, r, rfl, .inl (SqL.of (s3 _ _ eD)), z08.keep s3 _ _ t2, l60', ?_, r0, r1, fun v2 H4 s4 tv2 => ?_⟩
 ·intro w' hw'
  obtain ⟨w0, hw0, rfl⟩ := List.mem_map.mp hw'
  have := w12 w0 hw0
  unfold z0z
  rw [List.length_map]
  exact this
 refine ⟨(by show 3 ≤ sizeLine; decide), fun q hq => ?_⟩
 have s24 := s23.trans (s4.trans (z01 hq (.tup [V.int ((xs.length : Int) + 1), v1, v2])))
 have eq' : upd H4 q (.tup [V.int ((xs.length : Int) + 1), v1, v2]) q = some (.tup [V.int ((xs.length : Int) + 1), v1, v2]) := z02
 have tv1' := Tell.keep (s4.trans (z01 hq (.tup [V.int ((xs.length : Int) + 1), v1, v2]))) _ _ tv1
 have tv2' := Tell.keep (z01 hq (.tup [V.int ((xs.length : Int) + 1), v1, v2])) _ _ tv2
 generalize upd H4 q (.tup [V.int ((xs.length : Int) + 1), v1, v2]) = H5 at s24 eq' tv1' tv2'
 refine ⟨pl, xs, .ref q, rfl, rfl, s24 _ _ h4, z0d (by omega), ?_⟩
 refine ⟨_, rfl, ?_⟩
 have np : p ≠ pl := z4L h1 h4 (fun z => by cases z)
 have nx : dx ≠ pl := z4L h2 h4 (fun z => by cases z)
 have nn : pn ≠ pl := z4L h3 h4 (fun z => by cases z)
 have h5 := s24 _ _ h4
 have e := k [p, dx, pl] (upd H5 pl (.lst (xs ++ [.ref q]))) (fun b hb => .inl hb) (fun b o e nb => by rw [z09 (fun z => nb (by rw [z]; simp))]; exact s24 _ _ e)
  ⟨dx, pn, pl, fs, _, rfl, by rw [z09 np]; exact s24 _ _ h1, by rw [z09 nx]; exact s24 _ _ h2, by rw [z09 nn]; exact s24 _ _ h3, z02, l1, l2, l3, lm, ?_, ?_, ?_, g, r0, r1⟩
 ·rw [<- lx] at e
  exact e
 ·refine z08.over h5 (fun _ z => by cases z) _ _ ?_
  rw [List.length_append, List.length_singleton, z5X, List.map_append]
  have e1 : (upI 1 rows.length).map (fun n => z1f (rows ++ [z11 zs pr]) n r) = (upI 1 rows.length).map fun n => z1f rows n r := List.map_congr_left fun n hn => by
   have := z0W.mp hn
   exact z93 rows _ (by omega) (by omega)
  rw [e1]
  refine z08.snoc (z08.keep s24 _ _ tl) ?_
  have en : (1 : Int) + (rows.length : Int) = (rows.length : Int) + 1 := by omega
  have er : z0O (rows ++ [z11 zs pr]) ((rows.length : Int) + 1) = z11 zs pr := by
   unfold z0O
   rw [show ((rows.length : Int) + 1 - 1).toNat = rows.length by omega, List.getD_eq_getElem?_getD, List.getElem?_concat_length]
   rfl
  show Tell H5 (z1f (rows ++ [z11 zs pr]) (1 + (rows.length : Int)) r) (.ref q)
  unfold z1f
  rw [en, er, y1Y rows _ r r0]
  rw [lx] at eq'
  exact z0E eq' (by show 3 ≤ 1000000; decide) (.cons (z2c _) (.cons tv1' (.cons tv2' .nil)))
 ·rw [List.length_append, List.length_singleton]
  omega
 ·intro w' hw'
  rcases List.mem_append.mp hw' with hw' | hw'
  ·exact w12 w' hw'
  ·rw [List.mem_singleton] at hw'
   rw [hw']
   exact Nat.le_trans (z4m zs pr) g.hi
abbrev Deed := Option Int × Int
def z2C : Deed -> List V
 | (none, n) => [.str "write", .int n]
 | (some r, n) => [.str "deliver", .int r, .int n]
def z3T (H : Hp) (u : V) (d : Deed) : Prop := ∃ b, u = .ref b /\ H b = some (.tup (z2C d))
theorem z2U {H : Hp} {us : List V} {log : List Deed} (h : Paired (z3T H) us log) : us.length = log.length := by
 induction h with
 | nil => rfl
 | cons _ _ ih => rw [List.length_cons, List.length_cons, ih]
def gotL (log : List Deed) (rd : Int) : List Int := log.foldl (fun acc d => if d.1 = some rd then addN acc d.2 else acc) []
theorem y1G (log : List Deed) (d : Deed) (rd : Int) : gotL (log ++ [d]) rd = if d.1 = some rd then addN (gotL log rd) d.2 else gotL log rd := by
 unfold gotL
 rw [List.foldl_append]
 rfl
theorem y31 {log : List Deed} {rd n : Int} : n ∈ gotL log rd ↔ ((some rd, n) : Deed) ∈ log := by
 have go : ∀ (log : List Deed) (acc : List Int), n ∈ log.foldl (fun acc d => if d.1 = some rd then addN acc d.2 else acc) acc ↔ n ∈ acc \/ ((some rd, n) : Deed) ∈ log := by
  intro log
  induction log with
  | nil => intro acc; exact ⟨.inl, fun h => h.elim id fun q => (nomatch q)⟩
  | cons d log ih =>
   intro acc
   rw [List.foldl_cons, ih, List.mem_cons]
   obtain ⟨a, m⟩ := d
   by_cases c : a = some rd
   ·subst c
    rw [if_pos rfl, z9P, or_assoc]
    exact or_congr Iff.rfl (or_congr ⟨fun e => by rw [e], fun e => congrArg Prod.snd e⟩ Iff.rfl)
   ·rw [if_neg c]
    exact or_congr Iff.rfl ⟨.inr, fun h => h.elim (fun e => absurd (congrArg Prod.fst e).symm c) id⟩
 unfold gotL
 rw [go]
 exact ⟨fun h => h.elim (fun q => (nomatch q)) id, .inr⟩
abbrev BkP := Hp -> Addr -> List Addr -> List Str -> Int -> Int -> List Row -> List Deed -> Prop
structure BkOk (C : Addr) (ms : List Str) (Bk : BkP) : Prop where
 ins : ∀ {H p fp zs r k rows log}, Bk H p fp zs r k rows log -> ∃ dx fs, H p = some (.ins C dx fs) /\ ∀ m ∈ ms, fs.lookup m = none
 own : ∀ {H p fp zs r k rows log}, Bk H p fp zs r k rows log -> ∀ b ∈ fp, ∃ o, H b = some o /\ ∀ xs, o ≠ .tup xs
 keep : ∀ {H H' p fp gp zs r k rows log}, Bk H p fp zs r k rows log -> z0q gp H H' -> (∀ b ∈ gp, b ∉ fp) -> z3Q H gp -> Bk H' p fp zs r k rows log
theorem BkOk.same {C : Addr} {ms : List Str} {Bk : BkP} (O : BkOk C ms Bk) {H H' : Hp} {p : Addr} {fp : List Addr} {zs : List Str} {r k : Int} {rows : List Row} {log : List Deed} (h : Bk H p fp zs r k rows log) (s : Same H H') : Bk H' p fp zs r k rows log :=
 O.keep (gp := []) h (.of s) (fun _ q => by cases q) fun _ q => by cases q
theorem BkOk.noTup {C : Addr} {ms : List Str} {Bk : BkP} (O : BkOk C ms Bk) {H : Hp} {p : Addr} {fp : List Addr} {zs : List Str} {r k : Int} {rows : List Row} {log : List Deed} (h : Bk H p fp zs r k rows log) : z3Q H fp := fun b m xs e => by
 obtain ⟨o, e1, n⟩ := O.own h b m
 rw [e1] at e
 exact n xs (Option.some.inj e)
def z9W (K : PySem.W.Frag) (C : Addr) (Bk : BkP) : Sp := fun vs H Q _ => ∃ (x dx pn : Addr) (zs : List Str) (r k : Int), vs = [.ref x, .ref pn, .int r, .int k] /\ H x = some (.ins C dx []) /\ dx ≠ x /\ H dx = some (.own x) /\ HdN K H pn zs /\ GoodN zs /\ 0 ≤ r /\ r ≤ 10 /\ 1 ≤ k /\ k ≤ 10 /\
 ∀ (fp : List Addr) (H' : Hp), (∀ b ∈ fp, b = x \/ b = dx \/ H b = none) -> z0q [x] H H' -> Bk H' x fp zs r k [] [] -> Q .non H'
def z8k (K : PySem.W.Frag) (Bk : BkP) : Sp := fun vs H Q _ => ∃ (p : Addr) (v : V) (fp : List Addr) (zs : List Str) (r k : Int) (rows : List Row) (log : List Deed) (pr : Row), vs = [.ref p, v] /\ Bk H p fp zs r k rows log /\ y0V K H fp v pr /\ GoodR zs pr /\ pr.length ≤ 12 /\ rows.length < 60 /\ log.length < 400 /\
 ∀ (fp' : List Addr) (H' : Hp), (∀ b ∈ fp', b ∈ fp \/ H b = none) -> z0q fp H H' -> Bk H' p fp' zs r k (rows ++ [z11 zs pr]) (log ++ [(none, (rows.length : Int) + 1)]) -> Q (.int (rows.length + 1)) H'
def z6p (Bk : BkP) : Sp := fun vs H Q _ => ∃ (p : Addr) (fp : List Addr) (zs : List Str) (r k : Int) (rows : List Row) (log : List Deed) (rd n : Int), vs = [.ref p, .int rd, .int n] /\ Bk H p fp zs r k rows log /\ 1 ≤ rd /\ rd ≤ k /\ 1 ≤ n /\ n ≤ rows.length /\ log.length < 400 /\
 ∀ (H' : Hp), z0q fp H H' -> Bk H' p fp zs r k rows (log ++ [(some rd, n)]) -> Q (.bl (decide (((some rd, n) : Deed) ∉ log))) H'
def y28 (Bk : BkP) : Sp := fun vs H Q _ => ∃ (p : Addr) (fp : List Addr) (zs : List Str) (r k : Int) (rows : List Row) (log : List Deed), vs = [.ref p] /\ Bk H p fp zs r k rows log /\ Q (.int log.length) H
def dedV : Option Nat -> V
 | none => .non
 | some d => .int d
def z4V (Bk : BkP) (Sh : ShP) : Sp := fun vs H Q _ => ∃ (p : Addr) (fp : List Addr) (zs : List Str) (r k : Int) (rows : List Row) (log : List Deed) (rd : Int) (o : Option Nat), vs = [.ref p, .int rd, dedV o] /\ Bk H p fp zs r k rows log /\ 1 ≤ rd /\ rd ≤ k /\ (∀ d, o = some d -> d ≤ log.length) /\
 ∀ (x : Addr) (fq : List Addr) (H' : Hp), (∀ b ∈ fq, H b = none) -> Same H H' -> Sh H' x fq zs r (fun n => z1f rows n r) (gotL (log.take (o.getD log.length)) rd) -> Q (.ref x) H'
theorem DeedsAt.but {fp : List Addr} {H H' : Hp} {us : List V} {log : List Deed} (s : z0q fp H H') (n : z3Q H fp) (h : Paired (z3T H) us log) : Paired (z3T H') us log :=
 L2.Paired.mapP h fun u d ⟨b, e, q⟩ => ⟨b, e, s _ _ q fun m => n b m _ q⟩
structure BkIn (K : PySem.W.Frag) (CB CO : Addr) (H : Hp) (p dx po pd : Addr) (fs : List (Str × V)) (fo : List Addr) (us : List V) (zs : List Str) (r k : Int) (rows : List Row) (log : List Deed) : Prop where
 hp : H p = some (.ins CB dx fs)
 hdx : H dx = some (.own p)
 of : OfD K CO H po fo zs r rows
 hd : H pd = some (.lst us)
 ds : Paired (z3T H) us log
 npo : p ∉ fo
 ndo : dx ∉ fo
 ndn : pd ∉ fo
 lo : fs.lookup ("office" : Str) = some (V.ref po)
 lr : fs.lookup ("readers" : Str) = some (V.int k)
 ld : fs.lookup ("done" : Str) = some (V.ref pd)
 lm : ∀ m ∈ (["refuse_unknown_reader", "refuse_further_deed", "write", "deliver", "latest", "issue", "deeds", "deed", "shelf"] : List Str), fs.lookup m = none
 l4 : log.length ≤ 400
 in1 : ∀ d ∈ log, 1 ≤ d.2 /\ d.2 ≤ rows.length
 k1 : 1 ≤ k
 k10 : k ≤ 10
def BkD (K : PySem.W.Frag) (CB CO : Addr) : BkP := fun H p fp zs r k rows log => ∃ (dx po pd : Addr) (fs : List (Str × V)) (fo : List Addr) (us : List V), fp = p :: dx :: pd :: fo /\ BkIn K CB CO H p dx po pd fs fo us zs r k rows log
theorem bkOk {K : PySem.W.Frag} {CB CO : Addr} : BkOk CB ["write", "deliver", "latest", "issue", "deeds", "deed", "shelf"] (BkD K CB CO) := by
 refine ⟨fun h => ?_, fun h b hb => ?_, fun h s out nt => ?_⟩
 ·obtain ⟨dx, po, pd, fs, fo, us, rfl, B⟩ := h
  refine ⟨dx, fs, B.hp, fun m hm => B.lm m ?_⟩
  exact List.mem_cons_of_mem _ (List.mem_cons_of_mem _ hm)
 ·obtain ⟨dx, po, pd, fs, fo, us, rfl, B⟩ := h
  rcases List.mem_cons.mp hb with rfl | hb
  ·exact ⟨_, B.hp, fun xs z => by cases z⟩
  rcases List.mem_cons.mp hb with rfl | hb
  ·exact ⟨_, B.hdx, fun xs z => by cases z⟩
  rcases List.mem_cons.mp hb with rfl | hb
  ·exact ⟨_, B.hd, fun xs z => by cases z⟩
  exact ofOk.own B.of b hb
 ·obtain ⟨dx, po, pd, fs, fo, us, rfl, B⟩ := h
  exact ⟨dx, po, pd, fs, fo, us, rfl, { B with
   hp := s _ _ B.hp fun m => out _ m (by simp)
   hdx := s _ _ B.hdx fun m => out _ m (by simp)
   of := ofOk.keep B.of s (fun b m z => out b m (by simp [z])) nt
   hd := s _ _ B.hd fun m => out _ m (by simp)
   ds := DeedsAt.but s nt B.ds }⟩
def z5B : Sp := fun vs H Q _ => ∃ k : Int, vs = [.int k] /\ 1 ≤ k /\ k ≤ 10 /\ Q .non H
theorem z7y (M : Bl mg) (F : Fun K "refuse_bad_readers" "refuse_bad_readers" z1A f fd) : FnOk P w K mg base CX0 1 f fd z1C z5B := by
 have nd := z2b.nd
 refine F.ok z2b (fun vs H Q E h => ?_) (fun cdv A outer s H vs Q E hr h => ?_)
 ·obtain ⟨r, rfl, _⟩ := h
  rfl
 ·obtain ⟨r, rfl, r0, r1, k⟩ := h
  refine ⟨_, (z05 (z0P (PW.pt (z4W (z0e z7L (pv 0) z07 (z0v _)) (z2t (z0e z4b (pv 0) (z2g rfl M.MOST_READERS) (z0v _))))) (z05 z1h) z0r)), ?_⟩
  refine ⟨_, rfl, _, _, rfl, rfl, _, rfl, ite2 (fun q => absurd (z0G q) (by omega)) fun _ => ?_⟩
  exact ⟨_, rfl, _, _, rfl, rfl, _, rfl, ite2 (fun q => absurd (z0G q) (by omega)) fun _ => k⟩
def z4c (Bk : BkP) : Sp := fun vs H Q _ => ∃ (p : Addr) (fp : List Addr) (zs : List Str) (r k : Int) (rows : List Row) (log : List Deed) (rd : Int), vs = [.ref p, .int rd] /\ Bk H p fp zs r k rows log /\ 1 ≤ rd /\ rd ≤ k /\ Q .non H
theorem z7U {CBook COffice : Addr} (M : Bl mg) (T : TxBook K mg CBook) (F : Fun K "refuse_unknown_reader" "Book.refuse_unknown_reader" z0M f fd) : FnOk P w K mg base CX0 1 f fd z0D (z4c (BkD K CBook COffice)) := by
 have nd := z1e.nd
 refine F.ok z1e (fun vs H Q E h => ?_) (fun cdv A outer s H vs Q E hr h => ?_)
 ·obtain ⟨p, fp, zs, r, k, rows, log, rd, rfl, _⟩ := h
  rfl
 obtain ⟨p, fp, zs, r, k, rows, log, rd, rfl, ⟨dx, po, pd, fs, fo, us, rfl, B⟩, r1, r2, q⟩ := h
 refine ⟨_, (z05 (z0P (PW.pt (z4W (z0e z7L (pv 1) z07 (z0v _)) (z2t (z0e z4b (pv 1) (z0C (pv 0) rfl) (z0v _))))) (z05 z1h) z0r)), ?_⟩
 refine ⟨_, rfl, _, _, rfl, rfl, _, rfl, ite2 (fun q => absurd (z0G q) (by omega)) fun _ => ?_⟩
 exact ⟨_, rfl, _, rfl, p, CBook, dx, fs, _, rfl, B.hp, T.cl, T.n_readers, B.lr, _, _, rfl, rfl, _, rfl, ite2 (fun q => absurd (z0G q) (by omega)) fun _ => q⟩
def z6l (Bk : BkP) : Sp := fun vs H Q _ => ∃ (p : Addr) (fp : List Addr) (zs : List Str) (r k : Int) (rows : List Row) (log : List Deed), vs = [.ref p] /\ Bk H p fp zs r k rows log /\ log.length < 400 /\ Q .non H
theorem y0v {CBook COffice : Addr} (M : Bl mg) (T : TxBook K mg CBook) (F : Fun K "refuse_further_deed" "Book.refuse_further_deed" z0U f fd) : FnOk P w K mg base CX0 1 f fd z0F (z6l (BkD K CBook COffice)) := by
 have nd := z1r.nd
 refine F.ok z1r (fun vs H Q E h => ?_) (fun cdv A outer s H vs Q E hr h => ?_)
 ·obtain ⟨p, fp, zs, r, k, rows, log, rfl, _⟩ := h
  rfl
 obtain ⟨p, fp, zs, r, k, rows, log, rfl, ⟨dx, po, pd, fs, fo, us, rfl, B⟩, l4, q⟩ := h
 refine ⟨_, (z05 (z0P (z0e y38 (z0c z0a rfl M.len PySem.boot_len (z00 (z0C (pv 0) rfl) z04)) (z2g rfl M.MOST_DEEDS) (z0v _)) (z05 z1h) z0r)), ?_⟩
 have lu := z2U B.ds
 exact ⟨_, rfl, p, CBook, dx, fs, _, rfl, B.hp, T.cl, T.n_done, B.ld, pd, us, rfl, .inl (SqL.of B.hd), _, _, rfl, rfl, _, rfl, ite2 (fun q => absurd (z0G q) (by omega)) fun _ => q⟩
theorem y0e {CBook COffice : Addr} (M : Bl mg) (T : TxBook K mg CBook) (F : Fun K "deeds" "Book.deeds" z4q f fd) : FnOk P w K mg base CX0 1 f fd z6I (y28 (BkD K CBook COffice)) := by
 have nd := z5S.nd
 refine F.ok z5S (fun vs H Q E h => ?_) (fun cdv A outer s H vs Q E hr h => ?_)
 ·obtain ⟨p, fp, zs, r, k, rows, log, rfl, _⟩ := h
  rfl
 obtain ⟨p, fp, zs, r, k, rows, log, rfl, ⟨dx, po, pd, fs, fo, us, rfl, B⟩, q⟩ := h
 refine ⟨_, (z05 (z0k (z0c z0a rfl M.len PySem.boot_len (z00 (z0C (pv 0) rfl) z04)))), ?_⟩
 have lu := z2U B.ds
 refine ⟨_, rfl, p, CBook, dx, fs, _, rfl, B.hp, T.cl, T.n_done, B.ld, pd, us, rfl, .inl (SqL.of B.hd), ?_⟩
 rw [lu]
 exact q
theorem y1t {CBook COffice : Addr} (M : Bl mg) (T : TxBook K mg CBook) (F : Fun K "__init__" "Book.__init__" z2z f fd) (GOffice : Mkr P w K mg base 3 COffice "Office" z27 (z9w K COffice (OfD K COffice)))
  (Grefuse_bad_readers : Cal P w K mg base 1 "refuse_bad_readers" z1C z5B) : FnOk P w K mg base CX0 6 f fd z2B (z9W K CBook (BkD K CBook COffice)) := by
 have nd := z3C.nd
 refine F.ok z3C (fun vs H Q E h => ?_) (fun cdv A outer s H vs Q E hr h => ?_)
 ·obtain ⟨x, dx, pn, zs, r, k, rfl, _⟩ := h
  rfl
 obtain ⟨x, dx, pn, zs, r, k, rfl, hx, ne, hdx, hn, g, r0, r1, k1, k10, q⟩ := h
 refine ⟨_, (z03 (z4J (pv 0) (y2d GOffice (rm hr) rfl (z00 (pv 1) (z00 (pv 2) z04))) rfl) (z03 (z0y (z0o Grefuse_bad_readers (rm hr) rfl (z00 (pv 3) z04))) (z03 (z4J (pv 0) (pv 3) rfl) (z05 (z4J (pv 0) (z1N z04) rfl))))), ?_⟩
 refine ⟨_, rfl, _, rfl, fun po dxo nx ndx neo => ?_⟩
 have m1 := z6D (C := COffice) (Same.refl H) nx ndx
 refine ⟨po, dxo, pn, zs, r, rfl, z02, neo, by rw [z09 neo, z02], HdN.keep m1 hn, g, r0, r1, fun fo H1 ff sb of => ⟨rfl, ?_⟩⟩
 have s1 : Same H H1 := z6B sb m1 nx
 have f1 : ∀ b ∈ fo, H b = none := fun b hb => z58 m1 nx ndx (ff b hb)
 refine ⟨_, rfl, x, CBook, dx, [], rfl, s1 _ _ hx, T.cl, T.n_office, by decide, ?_⟩
 have z1 := z1k "office" (.ref po) []
 have z2 := z1k "readers" (.int k) (putF "office" (.ref po) [])
 have z0 : ([] : List (Str × V)).length = 0 := rfl
 refine ⟨_, rfl, k, rfl, k1, k10, ?_⟩
 refine ⟨_, rfl, _, rfl, x, CBook, dx, _, rfl, z02, T.cl, T.n_readers, (by omega), ?_⟩
 rw [z4h]
 refine ⟨(by show 0 ≤ sizeLine; decide), fun pd hd => ?_⟩
 have nxp : x ≠ pd := z0i z02 hd
 have dfr : H1 pd = none := by rw [z09 (Ne.symm nxp)] at hd; exact hd
 have ndd : dx ≠ pd := z0i (s1 _ _ hdx) dfr
 have out : ∀ {b : Addr} {o : HO}, H b = some o -> b ∉ fo := fun e m => by rw [f1 _ m] at e; cases e
 refine ⟨_, rfl, x, CBook, dx, _, rfl, (by rw [z09 nxp, z02]), T.cl, T.n_done, (by omega), ?_⟩
 have sx : z0q [x] H1 (upd (upd (upd H1 x (.ins CBook dx (putF "readers" (.int k) (putF "office" (.ref po) [])))) pd (.lst [])) x (.ins CBook dx (putF "done" (.ref pd) (putF "readers" (.int k) (putF "office" (.ref po) []))))) := fun b o e nb => by
  rw [List.mem_singleton] at nb
  rw [z09 nb, z09 (z0i e dfr), z09 nb]
  exact e
 refine q (x :: dx :: pd :: fo) _ (fun b hb => ?_) (fun b o e nb => sx b o (s1 _ _ e) nb) ⟨dx, po, pd, _, fo, [], rfl, ⟨z02, ?_, ?_, ?_, .nil, out hx, out hdx, ?_, ?_, ?_, ?_, ?_, by decide, fun _ q => (nomatch q), k1, k10⟩⟩
 ·rcases List.mem_cons.mp hb with rfl | hb
  ·exact .inl rfl
  rcases List.mem_cons.mp hb with rfl | hb
  ·exact .inr (.inl rfl)
  rcases List.mem_cons.mp hb with rfl | hb
  ·exact .inr (.inr (s1.free dfr))
  ·exact .inr (.inr (f1 b hb))
 ·exact sx _ _ (s1 _ _ hdx) (by rw [List.mem_singleton]; exact ne)
 ·refine ofOk.keep of sx (fun b m => ?_) fun b m xs e => ?_
  ·rw [List.mem_singleton.mp m]
   exact out hx
  ·rw [List.mem_singleton.mp m, s1 _ _ hx] at e
   cases e
 ·rw [z09 (Ne.symm nxp), z02]
 ·intro m
  obtain ⟨o, e, _⟩ := ofOk.own of pd m
  rw [dfr] at e
  cases e
 ·rw [z0h, if_neg (by decide +kernel), z0h, if_neg (by decide +kernel), z0h, if_pos rfl]
 ·rw [z0h, if_neg (by decide +kernel), z0h, if_pos rfl]
 ·rw [z0h, if_pos rfl]
 ·intro m hm
  simp only [List.mem_cons, List.not_mem_nil, or_false] at hm
  rcases hm with rfl | rfl | rfl | rfl | rfl | rfl | rfl | rfl | rfl <;> rw [z0h, if_neg (by decide +kernel), z0h, if_neg (by decide +kernel), z0h, if_neg (by decide +kernel)] <;> rfl
theorem y3F {K : PySem.W.Frag} {CB CO : Addr} {H H1 : Hp} {p dx po pd t : Addr} {fs : List (Str × V)} {fo fo' : List Addr} {us : List V} {zs : List Str} {r k : Int} {rows rows' : List Row} {log : List Deed} {d : Deed} (B : BkIn K CB CO H p dx po pd fs fo us zs r k rows log)
  (sb : z0q fo H H1) (of : OfD K CO H1 po fo' zs r rows') (ff : ∀ b ∈ fo', b ∈ fo \/ H b = none) (ht : H1 t = some (.tup (z2C d))) (hl : rows.length ≤ rows'.length) (hd1 : 1 ≤ d.2 /\ d.2 ≤ rows'.length) (l4 : log.length < 400) :
  z0q (p :: dx :: pd :: fo) H (upd H1 pd (.lst (us ++ [.ref t]))) /\ BkD K CB CO (upd H1 pd (.lst (us ++ [.ref t]))) p (p :: dx :: pd :: fo') zs r k rows' (log ++ [d]) := by
 have ntf : z3Q H fo := ofOk.noTup B.of
 have hd' := sb _ _ B.hd B.ndn
 have out : ∀ {b : Addr} {o : HO}, H b = some o -> b ∉ fo -> b ∉ fo' := fun e n m => (ff _ m).elim n fun z => by rw [z] at e; cases e
 have s2 : z0q [pd] H1 (upd H1 pd (.lst (us ++ [.ref t]))) := fun b o e nb => by
  rw [List.mem_singleton] at nb
  rw [z09 nb]
  exact e
 have nt2 : z3Q H1 [pd] := fun b m xs e => by
  rw [List.mem_singleton.mp m, hd'] at e
  cases e
 have npd : p ≠ pd := z4L B.hp B.hd (fun z => by cases z)
 have ndd : dx ≠ pd := z4L B.hdx B.hd (fun z => by cases z)
 refine ⟨fun b o e nb => ?_, dx, po, pd, fs, fo', us ++ [.ref t], rfl, { B with
  hp := by rw [z09 npd]; exact sb _ _ B.hp B.npo
  hdx := by rw [z09 ndd]; exact sb _ _ B.hdx B.ndo
  of := ofOk.keep of s2 (fun b m => by rw [List.mem_singleton.mp m]; exact out B.hd B.ndn) nt2
  hd := z02
  ds := ?_
  npo := out B.hp B.npo
  ndo := out B.hdx B.ndo
  ndn := out B.hd B.ndn
  l4 := by rw [List.length_append]; exact l4
  in1 := fun x hx => ?_ }⟩
 ·rw [List.mem_cons, List.mem_cons, List.mem_cons, not_or, not_or, not_or] at nb
  rw [z09 nb.2.2.1]
  exact sb _ _ e nb.2.2.2
 ·exact Paired.snoc (DeedsAt.but s2 nt2 (DeedsAt.but sb ntf B.ds)) ⟨t, rfl, s2 _ _ ht fun m => nt2 t m _ ht⟩
 ·rcases List.mem_append.mp hx with hx | hx
  ·have := B.in1 x hx
   omega
  ·rw [List.mem_singleton.mp hx]
   exact hd1
theorem y02 {CBook COffice : Addr} (M : Bl mg) (T : TxBook K mg CBook) (F : Fun K "write" "Book.write" z48 f fd) (GOffice_refuse_writing : MCal P w K mg base 3 COffice "refuse_writing" z0N (z65 K (OfD K COffice)))
  (GOffice_write : MCal P w K mg base 4 COffice "write" z3d (z8h K (OfD K COffice))) (GBook_refuse_further_deed : MCal P w K mg base 1 CBook "refuse_further_deed" z0F (z6l (BkD K CBook COffice))) :
  FnOk P w K mg base CX0 5 f fd z4w (z8k K (BkD K CBook COffice)) := by
 have nd := z5Q.nd
 refine F.ok z5Q (fun vs H Q E h => ?_) (fun cdv A outer s H vs Q E hr h => ?_)
 ·obtain ⟨p, v, fp, zs, r, k, rows, log, pr, rfl, _⟩ := h
  rfl
 obtain ⟨p, v, fp, zs, r, k, rows, log, pr, rfl, bk, ⟨a, vs, rfl, ha, na, hpr⟩, gr, l12, l60, l4, q⟩ := h
 refine ⟨_, (z03 (z0y (z1M GOffice_refuse_writing (rm hr) (z0C (pv 0) rfl) (z00 (pv 1) z04))) (z03 (z0y (z31 GBook_refuse_further_deed (rm hr) (pv 0))) (z03 (z0m (i := 2) nd rfl (Or.inl rfl) (z1M GOffice_write (rm hr) (z0C (pv 0) rfl) (z00 (pv 1) z04))) (z03 (z0y (z2V PySem.F.plainAttrs_list PySem.F.slot_list_append PySem.F.type_list_append z0I (z0C (pv 0) rfl) (z00 (z41 (z00 (z5w rfl M.WRITE) (z00 (pv 2) z04))) z04))) (z05 (z0k (pv 2))))))), ?_⟩
 obtain ⟨dx, po, pd, fs, fo, us, rfl, B⟩ := id bk
 have no : ∀ {b : Addr}, b ∉ p :: dx :: pd :: fo -> b ∉ fo := fun n m => n (by simp [m])
 have hand : Paired (z7C K H fo) vs pr := L2.Paired.mapP hpr fun u x ⟨b, e, q, n⟩ => ⟨b, e, q, no n⟩
 obtain ⟨dxo, pno, plo, fso, xso, efo, h1, h2, h3, h4, l1, l2, l3, lmo, _⟩ := id B.of
 refine ⟨_, rfl, p, CBook, dx, fs, _, rfl, B.hp, T.cl, T.n_office, B.lo, po, dxo, fso, rfl, h1, lmo _ (by simp), _, rfl, po, a, fo, zs, r, rows, vs, pr, rfl, B.of, ha, z2a.of hand, gr, l12, l60, fun H1 s1 => ?_⟩
 refine ⟨_, rfl, p, dx, fs, rfl, s1 _ _ B.hp, B.lm _ (by simp), p, _, zs, r, k, rows, log, rfl, bkOk.same bk s1, l4, ?_⟩
 have ha1 : y0V K H1 fo (.ref a) pr := ⟨a, vs, rfl, SqP.keep s1 ha, no na, L2.Paired.mapP hand fun u x ⟨b, e, q, n⟩ => ⟨b, e, q.imp (fun z => s1.seq z) fun z => z52 s1 z, n⟩⟩
 refine ⟨_, rfl, p, CBook, dx, fs, _, rfl, s1 _ _ B.hp, T.cl, T.n_office, B.lo, po, dxo, fso, rfl, s1 _ _ h1, lmo _ (by simp), _, rfl, po, .ref a, fo, zs, r, rows, pr, rfl, ofOk.same B.of s1, ha1, gr, l12, l60, fun fo' H2 ff sb of2 => ?_⟩
 have sb2 : z0q fo H H2 := fun b o e n => sb _ _ (s1 _ _ e) n
 have lu := z2U B.ds
 refine ⟨_, rfl, p, CBook, dx, fs, _, rfl, sb2 _ _ B.hp B.npo, T.cl, T.n_done, B.ld, .inl ⟨rfl, _, SqL.of (sb2 _ _ B.hd B.ndn)⟩, ?_⟩
 refine ⟨_, rfl, (by show 2 ≤ sizeLine; decide), fun t ht => ⟨pd, us, _, rfl, rfl, z01 ht _ _ _ (sb2 _ _ B.hd B.ndn), z0d (by omega), ?_⟩⟩
 have s3 := z01 ht (.tup [V.str "write", V.int ((rows.length : Int) + 1)])
 have et : upd H2 t (.tup [V.str "write", V.int ((rows.length : Int) + 1)]) t = some (.tup (z2C (none, (rows.length : Int) + 1))) := z02
 have sb3 : z0q fo H (upd H2 t (.tup [V.str "write", V.int ((rows.length : Int) + 1)])) := fun b o e n => s3 _ _ (sb2 _ _ e n)
 have of3 := ofOk.same of2 s3
 obtain ⟨g1, g2⟩ := y3F B sb3 of3 (fun b m => (ff b m).imp id fun z => s1.free z) et (by rw [List.length_append]; omega) ⟨by show (1 : Int) ≤ rows.length + 1; omega, by show ((rows.length : Int) + 1) ≤ _; rw [List.length_append]; exact Int.le_refl _⟩ l4
 refine ⟨_, rfl, q (p :: dx :: pd :: fo') _ (fun b hb => ?_) g1 g2⟩
 rcases List.mem_cons.mp hb with rfl | hb
 ·exact .inl (by simp)
 rcases List.mem_cons.mp hb with rfl | hb
 ·exact .inl (by simp)
 rcases List.mem_cons.mp hb with rfl | hb
 ·exact .inl (by simp)
 exact (ff b hb).imp (fun z => by simp [z]) fun z => s1.free z
theorem y1b (d : Deed) (rd n : Int) : z2j (z2C d) (z2C (some rd, n)) = decide (d = (some rd, n)) := by
 obtain ⟨a, m⟩ := d
 cases a with
 | none =>
  rw [decide_eq_false (fun e => by cases e)]
  rfl
 | some r =>
  show (eqV (.str "deliver") (.str "deliver") && (eqV (.int r) (.int rd) && (eqV (.int m) (.int n) && true))) = _
  rw [z7D rfl, Bool.true_and, Bool.and_true, Bool.eq_iff_iff, Bool.and_eq_true, decide_eq_true_eq]
  show (r == rd) = true /\ (m == n) = true ↔ _
  rw [beq_iff_eq, beq_iff_eq]
  exact ⟨fun h => by rw [h.1, h.2], fun h => by cases h; exact ⟨rfl, rfl⟩⟩
theorem y2I (log : List Deed) (rd n : Int) : (!(log.map z2C).any fun ys => z2j ys (z2C (some rd, n))) = decide (((some rd, n) : Deed) ∉ log) := by
 rw [List.any_map, Bool.eq_iff_iff, Bool.not_eq_true', decide_eq_true_eq, List.any_eq_false]
 refine ⟨fun h m => h _ m ?_, fun h d hd e => h ?_⟩
 ·show z2j _ _ = true
  rw [y1b]
  exact decide_eq_true rfl
 ·have e' : z2j (z2C d) (z2C (some rd, n)) = true := e
  rw [y1b] at e'
  rw [<- of_decide_eq_true e']
  exact hd
theorem z8x (d : Deed) : (z2C d).all z1G = true := by
 obtain ⟨a, m⟩ := d
 cases a <;> rfl
theorem z8z {CBook COffice : Addr} (M : Bl mg) (T : TxBook K mg CBook) (F : Fun K "deliver" "Book.deliver" z37 f fd) (GOffice_issue : MCal P w K mg base 1 COffice "issue" z1H (z4K (OfD K COffice)))
  (GBook_refuse_unknown_reader : MCal P w K mg base 1 CBook "refuse_unknown_reader" z0D (z4c (BkD K CBook COffice))) (GBook_refuse_further_deed : MCal P w K mg base 1 CBook "refuse_further_deed" z0F (z6l (BkD K CBook COffice))) :
  FnOk P w K mg base CX0 5 f fd z34 (z6p (BkD K CBook COffice)) := by
 have nd := z3Y.nd
 refine F.ok z3Y (fun vs H Q E h => ?_) (fun cdv A outer s H vs Q E hr h => ?_)
 ·obtain ⟨p, fp, zs, r, k, rows, log, rd, n, rfl, _⟩ := h
  rfl
 obtain ⟨p, fp, zs, r, k, rows, log, rd, n, rfl, bk, r1, r2, n1, n2, l4, q⟩ := h
 have hu := z8K hr
 refine ⟨_, (z03 (z0y (z1M GOffice_issue (rm hr) (z0C (pv 0) rfl) (z00 (pv 2) z04))) (z03 (z0y (z1M GBook_refuse_unknown_reader (rm hr) (pv 0) (z00 (pv 1) z04))) (z03 (z0y (z31 GBook_refuse_further_deed (rm hr) (pv 0))) (z03 (z0m (i := 3) nd rfl (Or.inl rfl) (z41 (z00 (z5w rfl M.DELIVER) (z00 (pv 1) (z00 (pv 2) z04))))) (z03 (z0m (i := 4) nd rfl (Or.inl rfl) (z7O (y1H hu) (pv 3) (z0C (pv 0) rfl) (by with_unfolding_all rfl))) (z03 (z0y (z2V PySem.F.plainAttrs_list PySem.F.slot_list_append PySem.F.type_list_append z0I (z0C (pv 0) rfl) (z00 (pv 3) z04))) (z05 (z0k (pv 4))))))))), ?_⟩
 obtain ⟨dx, po, pd, fs, fo, us, rfl, B⟩ := id bk
 obtain ⟨dxo, pno, plo, fso, xso, efo, h1, h2, h3, h4, l1, l2, l3, lmo, _⟩ := id B.of
 refine ⟨_, rfl, p, CBook, dx, fs, _, rfl, B.hp, T.cl, T.n_office, B.lo, po, dxo, fso, rfl, h1, lmo _ (by simp), _, rfl, po, fo, zs, r, rows, n, rfl, B.of, n1, n2, fun v H1 s1 _ => ?_⟩
 have bk1 := bkOk.same bk s1
 refine ⟨_, rfl, p, dx, fs, rfl, s1 _ _ B.hp, B.lm _ (by simp), _, rfl, p, _, zs, r, k, rows, log, rd, rfl, bk1, r1, r2, ?_⟩
 refine ⟨_, rfl, p, dx, fs, rfl, s1 _ _ B.hp, B.lm _ (by simp), p, _, zs, r, k, rows, log, rfl, bk1, l4, ?_⟩
 refine ⟨_, rfl, _, rfl, (by show 3 ≤ sizeLine; decide), fun t ht => ?_⟩
 have s2 := s1.trans (z01 ht (.tup [V.str "deliver", V.int rd, V.int n]))
 have et : upd H1 t (.tup [V.str "deliver", V.int rd, V.int n]) t = some (.tup (z2C (some rd, n))) := z02
 generalize upd H1 t (.tup [V.str "deliver", V.int rd, V.int n]) = H2 at s2 et
 have lu := z2U B.ds
 have prs : Paired (fun u ys => ∃ b, u = .ref b /\ SqT K H2 b ys /\ ys.all z1G = true) us (log.map z2C) := by
  have go : ∀ {us : List V} {log : List Deed}, Paired (z3T H) us log -> Paired (fun u ys => ∃ b, u = .ref b /\ SqT K H2 b ys /\ ys.all z1G = true) us (log.map z2C) := by
   intro us log h
   induction h with
   | nil => exact .nil
   | cons h t ih =>
    obtain ⟨b, e, q⟩ := h
    exact .cons ⟨b, e, SqT.of (s2 _ _ q), z8x _⟩ ih
  exact go B.ds
 refine ⟨_, rfl, _, rfl, p, CBook, dx, fs, _, rfl, s2 _ _ B.hp, T.cl, T.n_done, B.ld, t, pd, _, us, _, rfl, rfl, SqT.of et, z8x _, SqL.of (s2 _ _ B.hd), prs, ?_⟩
 rw [y2I]
 refine ⟨_, rfl, p, CBook, dx, fs, _, rfl, s2 _ _ B.hp, T.cl, T.n_done, B.ld, .inl ⟨rfl, _, SqL.of (s2 _ _ B.hd)⟩, _, rfl, pd, us, _, rfl, rfl, s2 _ _ B.hd, z0d (by omega), ?_⟩
 obtain ⟨g1, g2⟩ := y3F B (.of s2) (ofOk.same B.of s2) (fun b m => .inl m) et (Nat.le_refl _) ⟨n1, n2⟩ l4
 exact ⟨_, rfl, q _ g1 g2⟩
theorem y3G {xs : List V} {k : Nat} (h : k ≤ xs.length) : cutV xs none (some (k : Int)) = xs.take k := by
 unfold cutV
 have e1 : HT.sIx xs.length 0 none = 0 := rfl
 have e2 : HT.sIx xs.length xs.length (some (k : Int)) = k := by
  rw [HT.z8V, Nat.min_eq_left h]
 rw [e1, e2, List.drop_zero, Nat.sub_zero]
theorem y2Y {H : Hp} : ∀ {us : List V} {log : List Deed}, Paired (z3T H) us log -> ∀ (c i : Nat) (u : V), (us.take c)[i]? = some u -> ∃ d, (log.take c)[i]? = some d /\ z3T H u d := by
 intro us log h
 induction h with
 | nil => intro c i u e; rw [List.take_nil] at e; simp at e
 | cons h t ih =>
  intro c i u e
  cases c with
  | zero => simp at e
  | succ c =>
   rw [List.take_succ_cons] at e ⊢
   cases i with
   | zero =>
    simp at e
    subst e
    exact ⟨_, rfl, h⟩
   | succ i =>
    obtain ⟨d, q1, q2⟩ := ih c i u (by simpa using e)
    exact ⟨d, by simpa using q1, q2⟩
theorem y2K (d : Deed) (rd : Int) : z2j ((z2C d).take 2) [.str "deliver", .int rd] = decide (d.1 = some rd) := by
 obtain ⟨a, m⟩ := d
 cases a with
 | none =>
  rw [decide_eq_false (fun e => by cases e)]
  rfl
 | some r =>
  show (eqV (.str "deliver") (.str "deliver") && (eqV (.int r) (.int rd) && true)) = _
  rw [z7D rfl, Bool.true_and, Bool.and_true, Bool.eq_iff_iff, decide_eq_true_eq]
  show (r == rd) = true ↔ _
  rw [beq_iff_eq]
  exact ⟨fun h => by rw [h], fun h => Option.some.inj h⟩
theorem z6X {CBook COffice CShelf T0 : Addr} {items : Array Value} (M : Bl mg) (T : TxBook K mg CBook) (TO : TxOffice K mg COffice) (F : FunD K "shelf" "Book.shelf" z4s f fd T0 items) (GOffice_issue : MCal P w K mg base 1 COffice "issue" z1H (z4K (OfD K COffice)))
  (GBook_refuse_unknown_reader : MCal P w K mg base 1 CBook "refuse_unknown_reader" z0D (z4c (BkD K CBook COffice))) (GShelf : Mkr P w K mg base 3 CShelf "Shelf" z2l (z9h K CShelf (ShD K CShelf)))
  (GShelf_put : MCal P w K mg base 1 CShelf "put" z5s (y4N (ShD K CShelf))) : FnOk P w K mg base CX0 6 f fd z2p (z4V (BkD K CBook COffice) (ShD K CShelf)) := by
 have nd := z5D.nd
 refine F.ok z5D (fun vs H Q E h => ?_) (fun cdv A outer s H vs Q E hr h => ?_)
 ·obtain ⟨p, fp, zs, r, k, rows, log, rd, o, rfl, _⟩ := h
  rfl
 obtain ⟨p, fp, zs, r, k, rows, log, rd, o, rfl, bk, r1, r2, od, q⟩ := h
 refine ⟨_, (z03 (z0m (i := 3) nd rfl (Or.inl rfl) (z61 (z7c (y27 (pv 2))) (z0c z0a rfl M.len PySem.boot_len (z00 (z0C (pv 0) rfl) z04)) (pv 2))) (z03 (z0P (PW.pt (z4W (z0e z7L (pv 3) z07 (z0v _)) (z2t (z0e z4b (pv 3) (z0c z0a rfl M.len PySem.boot_len (z00 (z0C (pv 0) rfl) z04)) (z0v _))))) (z05 z1h) z0r) (z03 (z0y (z1M GBook_refuse_unknown_reader (rm hr) (pv 0) (z00 (pv 1) z04))) (z03 (z0m (i := 4) nd rfl (Or.inl rfl) (y2d GShelf (rm hr) rfl (z00 (z0C (z0C (pv 0) rfl) rfl) (z00 (z0C (z0C (pv 0) rfl) rfl) z04)))) (z03 (z1g PassesOwn.never rfl (z1u (z35 z8Y (z0C (pv 0) rfl) z4x (z4r (pv 3)))) (z0j (i := 5) nd rfl (Or.inl rfl)) (z05 (z0P (z0e (y1K hr.units0) (z35 y4J (pv 5) z4x (z4r z07)) (z41 (z00 (z5w rfl M.DELIVER) (z00 (pv 1) z04))) (z0v _)) (z05 (z0y (z1M GShelf_put (rm hr) (pv 4) (z00 (z1M GOffice_issue (rm hr) (z0C (pv 0) rfl) (z00 (z0Z z3u (pv 5) z07 (fun _ _ => rfl)) z04)) z04)))) z0r))) (z05 (z0k (pv 4)))))))), ?_⟩
 obtain ⟨dx, po, pd, fs, fo, us, rfl, B⟩ := id bk
 obtain ⟨dxo, pno, plo, fso, xso, efo, h1, h2, h3, h4, l1, l2, l3, lmo, _, _, _, g, r0, r10⟩ := id B.of
 have lu := z2U B.ds
 have cle : o.getD log.length ≤ log.length := by
  cases o with
  | none => exact Nat.le_refl _
  | some d => exact od d rfl
 have beh : ∀ (Qk : VK), Qk (.int (o.getD log.length : Nat)) H -> tIf (tB (tIsN (tVar 2))) (tCB (fun xs H_1 Q => ∃ p ys, xs = [V.ref p] /\ (SqL K H_1 p ys \/ SqT K H_1 p ys) /\ Q (V.int ys.length) H_1) (y4z (tFld K (tVar 0) "done") tNil)) (tVar 2) (z5t ["self", "reader", "deed", "behind", "told", "past"] [.ref p, .int rd, dedV o]) H Qk := fun Qk hq => by
  cases o with
  | none =>
   refine ⟨_, rfl, _, rfl, iteT ⟨_, rfl, p, CBook, dx, fs, _, rfl, B.hp, T.cl, T.n_done, B.ld, pd, us, rfl, .inl (SqL.of B.hd), ?_⟩⟩
   rw [lu]
   exact hq
  | some d => exact ⟨_, rfl, _, rfl, iteF ⟨_, rfl, hq⟩⟩
 refine beh _ ?_
 generalize o.getD log.length = c at cle q
 clear beh
 refine ⟨_, rfl, _, _, rfl, rfl, _, rfl, ite2 (fun q => absurd (z0G q) (by omega)) fun _ => ⟨_, rfl, _, rfl, p, CBook, dx, fs, _, rfl, B.hp, T.cl, T.n_done, B.ld, pd, us, rfl, .inl (SqL.of B.hd), _, _, rfl, rfl, _, rfl, ite2 (fun q => absurd (z0G q) (by omega)) fun _ => ?_⟩⟩
 refine ⟨_, rfl, p, dx, fs, rfl, B.hp, B.lm _ (by simp), _, rfl, p, _, zs, r, k, rows, log, rd, rfl, bk, r1, r2, ?_⟩
 refine ⟨_, rfl, p, CBook, dx, fs, _, rfl, B.hp, T.cl, T.n_office, B.lo, po, COffice, dxo, fso, _, rfl, h1, TO.cl, TO.n_names, l1, _, rfl, p, CBook, dx, fs, _, rfl, B.hp, T.cl, T.n_office, B.lo, po, COffice, dxo, fso, _, rfl, h1, TO.cl, TO.n_reach, l2, fun x dxs nx ndx ne => ?_⟩
 have m1 := z6D (C := CShelf) (Same.refl H) nx ndx
 refine ⟨x, dxs, pno, zs, r, rfl, z02, ne, by rw [z09 ne, z02], .inr (m1 _ _ h3), g, r0, r10, fun fq H1 ff sb sh => ⟨rfl, ?_⟩⟩
 have s1 : Same H H1 := z6B sb m1 nx
 have f1 : ∀ b ∈ fq, H b = none := fun b hb => z58 m1 nx ndx (ff b hb)
 have sh1 : ShD K CShelf H1 x fq zs r (fun n => z1f rows n r) [] := sh _
 refine ⟨_, rfl, p, CBook, dx, fs, _, rfl, s1 _ _ B.hp, T.cl, T.n_done, B.ld, _, rfl, _, rfl, pd, _, rfl, SqL.of (s1 _ _ B.hd), fun lq hlq => ?_⟩
 rw [y3G (by omega)]
 have s2 := s1.trans (z01 hlq (.lst (us.take c)))
 have e2 : upd H1 lq (.lst (us.take c)) lq = some (.lst (us.take c)) := z02
 have sh2 := shOk.same sh1 (z01 hlq (.lst (us.take c)))
 have f2 : lq ∉ fq := fun m => by
  obtain ⟨o, e, _⟩ := shOk.own sh1 lq m
  rw [hlq] at e
  cases e
 generalize upd H1 lq (.lst (us.take c)) = H2 at s2 e2 sh2
 have nt2 : z3Q H2 fq := shOk.noTup sh2
 have out : ∀ {b : Addr} {o : HO}, H b = some o -> b ∉ fq := fun e m => by rw [f1 _ m] at e; cases e
 have lt : (us.take c).length = c := by rw [List.length_take]; omega
 refine ⟨lq, rfl, ⟨_, SqL.of e2⟩, z1I (K := K) (a := lq) (xs := us.take c) (fun i σ H' => ∃ (fq' : List Addr) (o5 : Option V), z0q fq H2 H' /\ ShD K CShelf H' x fq' zs r (fun n => z1f rows n r) (gotL ((log.take c).take i) rd) /\ (∀ b ∈ fq', b ∈ fq \/ H2 b = none) /\
   σ = [some (.ref p), some (.int rd), some (dedV o), some (.int c), some (.ref x), o5]) ⟨fq, none, .of (Same.refl _), sh2, fun b m => .inl m, rfl⟩ (fun i σ H' _ ⟨_, _, bt, _⟩ => SqL.of (bt _ _ e2 f2)) ?_ ?_⟩
 ·rintro i u σ H' hi ⟨fq', o5, bt, shx, ffx, rfl⟩
  obtain ⟨d, ed, b, rfl, hb⟩ := y2Y B.ds c i u hi
  have sk : ∀ {b : Addr} {o : HO}, H b = some o -> H' b = some o := fun e => bt _ _ (s2 _ _ e) (out e)
  have hin := B.in1 d (List.mem_of_mem_take (List.mem_of_getElem? ed))
  have l2d : 2 ≤ (z2C d).length := by
   obtain ⟨a, m⟩ := d
   cases a
   ·show 2 ≤ 2; decide
   ·show 2 ≤ 3; decide
  have cut : ∀ (Qk : VK), (∀ (t1 : Addr) (G : Hp), Same H' G -> G t1 = some (.tup ((z2C d).take 2)) -> Qk (.ref t1) G) -> rSlA K (.ref b) none (some 2) H' Qk := fun Qk hq => by
   refine ⟨b, _, rfl, SqT.of (sk hb), fun hw => hq b H' (Same.refl _) ?_, fun _ t1 ht1 => hq t1 _ (z01 ht1 _) ?_⟩
   ·rw [sk hb, List.take_of_length_le]
    have := hw.2
    have e : HT.sIx (z2C d).length (z2C d).length (some (2 : Int)) = min 2 (z2C d).length := HT.z8V _ _ 2
    omega
   ·rw [z02]
    exact congrArg (fun z => some (HO.tup z)) (y3G (k := 2) l2d)
  refine ⟨_, rfl, _, rfl, cut _ fun t1 G sG e1' => ⟨_, rfl, (by show 2 ≤ sizeLine; decide), fun t2 ht2 => ?_⟩⟩
  have s3 := sG.trans (z01 ht2 (.tup [V.str "deliver", V.int rd]))
  have e3 : upd G t2 (.tup [V.str "deliver", V.int rd]) t1 = some (.tup ((z2C d).take 2)) := z01 ht2 _ _ _ e1'
  have e4 : upd G t2 (.tup [V.str "deliver", V.int rd]) t2 = some (.tup [V.str "deliver", V.int rd]) := z02
  generalize upd G t2 (.tup [V.str "deliver", V.int rd]) = H3 at s3 e3 e4
  have fl : ((z2C d).take 2).all z1G = true := by
   obtain ⟨a, m⟩ := d
   cases a <;> rfl
  refine ⟨t1, t2, _, _, rfl, rfl, SqT.of e3, SqT.of e4, fl, rfl, _, rfl, ?_⟩
  rw [y2K, z0l ed, y1G]
  have sh3 := shOk.same shx s3
  refine ite2 (fun cc => ?_) (fun cc => ?_)
  ·have c' := z0G cc
   rw [if_pos c']
   obtain ⟨a, n⟩ := d
   have ea : a = some rd := c'
   subst ea
   obtain ⟨d1, g1, z1, w1⟩ := shOk.ins sh3
   refine ⟨_, rfl, x, d1, g1, rfl, z1, w1 _ (by simp), _, rfl, p, CBook, dx, fs, _, rfl, s3 _ _ (sk B.hp), T.cl, T.n_office, B.lo, po, dxo, fso, rfl, s3 _ _ (sk h1), lmo _ (by simp), _, rfl, b, _, 2, _, rfl, rfl, SqT.of (s3 _ _ (sk hb)), rfl, po, fo, zs, r, rows, n, rfl, ?_, hin.1, hin.2, fun v H4 s4 tv => ?_⟩
   ·exact ofOk.same (ofOk.keep (ofOk.same B.of s2) bt (fun b m z => by
     obtain ⟨o, e, _⟩ := ofOk.own B.of b z
     exact out e m) nt2) s3
   have n60 : rows.length ≤ 60 := by
    obtain ⟨_, _, _, _, _, _, _, _, _, _, _, _, _, _, _, n60, _⟩ := B.of
    exact n60
   refine ⟨x, v, fq', zs, r, _, _, n, _, rfl, shOk.same sh3 s4, tv, rfl, hin.1, by have := hin.2; have : n ≤ rows.length := this; omega, fun fq2 H5 ff5 sb5 sh5 => ?_⟩
   have g4 := s3.trans s4
   exact ⟨fq2, _, (fun b o e nb => sb5 b o (g4 _ _ (bt b o e nb)) fun m => (ffx b m).elim nb fun z => by rw [e] at z; cases z), sh5, y4j bt ffx g4 ff5, rfl⟩
  ·have c' := z9L cc
   rw [if_neg c']
   exact ⟨fq', _, fun b o e nb => s3 _ _ (bt b o e nb), sh3, ffx, rfl⟩
 ·rintro σ H' ⟨fq', o5, bt, shx, ffx, rfl⟩
  rw [lt, List.take_take, Nat.min_self] at shx
  exact ⟨_, rfl, q x fq' H' (fun b m => (ffx b m).elim (f1 b) fun z => s2.free z) (fun b o e => bt _ _ (s2 _ _ e) (out e)) shx⟩
def HT (H : Hp) (u : V) (p : Str × Int) : Prop := ∃ b, u = .ref b /\ H b = some (.tup [.str p.1, .int p.2])
theorem HT.keep {H H' : Hp} (g : Same H H') : ∀ {us : List V} {pr : Row}, Paired (HT H) us pr -> Paired (HT H') us pr
 | _, _, .nil => .nil
 | _, _, .cons ⟨b, e, h⟩ t => .cons ⟨b, e, g _ _ h⟩ (HT.keep g t)
theorem HT.hand {K : PySem.W.Frag} {H : Hp} {fp : List Addr} (no : z3Q H fp) : ∀ {us : List V} {pr : Row}, Paired (HT H) us pr -> Paired (z7C K H fp) us pr
 | _, _, .nil => .nil
 | _, _, .cons ⟨b, e, h⟩ t => .cons ⟨b, e, .inr (SqT.of h), fun m => no b m _ h⟩ (HT.hand no t)
def wlog (n : Nat) : List Deed := (upI 1 n).map fun k => (none, k)
def dlog (hs : List Int) : List Deed := hs.map fun n => (some 1, n)
theorem y1V (i : Nat) : wlog (i + 1) = wlog i ++ [(none, (i : Int) + 1)] := by
 unfold wlog
 rw [z5X, List.map_append, Int.add_comm]
 rfl
theorem z7S (i : Nat) : (wlog i).length = i := by
 unfold wlog
 rw [List.length_map, z0H]
theorem z8g (hs : List Int) (n : Int) : dlog (hs ++ [n]) = dlog hs ++ [(some 1, n)] := by
 unfold dlog
 rw [List.map_append]
 rfl
theorem y4P {m : Nat} {hs : List Int} {n : Int} : ((some 1, n) : Deed) ∈ wlog m ++ dlog hs ↔ n ∈ hs := by
 rw [List.mem_append]
 unfold wlog dlog
 rw [List.mem_map, List.mem_map]
 constructor
 ·rintro (⟨k, _, e⟩ | ⟨k, hk, e⟩)
  ·cases e
  ·cases e
   exact hk
 ·exact fun h => .inr ⟨n, h, rfl⟩
theorem y3B {m : Nat} {hs : List Int} (n : Int) : n ∈ gotL (wlog m ++ dlog hs) 1 ↔ n ∈ hs := by rw [y31, y4P]
theorem z6s {ns ms : List Int} (h : ∀ x, x ∈ ns ↔ x ∈ ms) (hall : ∀ x ∈ ms, 1 ≤ x /\ x ≤ 60) (x : Int) : x ∈ z0n ns ↔ x ∈ ms := by
 rw [z1w, h]
 exact ⟨fun q => q.2, fun q => ⟨by have := hall x q; omega, q⟩⟩
theorem z9k {H : Hp} : ∀ {w : Row} {xs : List V}, z08 H (w.map z7Y) xs -> Paired (HT H) xs w
 | [], xs, h => by
  rw [z0S h]
  exact .nil
 | p :: w, xs, h => by
  obtain ⟨x, r, rfl, t, h'⟩ := z0g h
  obtain ⟨a, us, rfl, ea, _, tu⟩ := z0f (show Tell H (.tup [.str p.1, .int p.2]) x from t)
  obtain ⟨y1, r1, rfl, t1, h3⟩ := z0g tu
  obtain ⟨y2, r2, rfl, t2, h4⟩ := z0g h3
  have := z0S h4
  subst this
  rw [z3G t1, z1D t2] at ea
  exact .cons ⟨a, rfl, ea⟩ (z9k h')
theorem z9Z {ns : List Int} {n r : Int} (hall : ∀ x ∈ ns, 1 ≤ x /\ x ≤ 60) (h : z0X ns n r = 0) : ∀ y ∈ ns, n < y -> ¬ y - r ≤ n := fun y hy h1 h2 => by
 unfold z0X at h
 cases e : (upI 1 60).find? (z7u ns n r) with
 | none => exact List.find?_eq_none.mp e y (z0W.mpr (by have := hall y hy; omega)) (z2h.mpr ⟨h1, h2, hy⟩)
 | some t =>
  rw [e] at h
  have := z0W.mp (List.mem_of_find?_eq_some e)
  have h' : t = 0 := h
  omega
def z9B (Sh : ShP) : Sp := fun vs H Q _ => ∃ (x : Addr) (fp : List Addr) (nm : List Str) (r : Int) (rows : List Row) (had : List Int), vs = [.ref x] /\ Sh H x fp nm r (fun n => z1f rows n r) had /\ GoodN nm /\ Rws nm rows /\ rows.length ≤ 60 /\ (∀ n ∈ had, 1 ≤ n /\ n ≤ rows.length) /\ 0 ≤ r /\ r ≤ 10 /\
 ∀ (v : V) (H' : Hp), Same H H' -> Tell H' (.tup (z8L (z0n had) rows r)) v -> Q v H'
def y3E (K : PySem.W.Frag) : Sp := fun vs H Q _ => ∃ (p : Addr) (ns : List Int), vs = [.ref p] /\ SqI K H p ns /\ (∀ x ∈ ns, 1 ≤ x /\ x ≤ 60) /\
 ∀ (l : Addr) (H' : Hp), H l = none -> Same H H' -> H' l = some (.tup ((z16 ns).map V.int)) -> Q (.ref l) H'
theorem y4l (M : Bl mg) (F : Fun K "lacking_numbers" "lacking_numbers" z29 f fd) : FnOk P w K mg base CX0 1 f fd z24 (y3E K) := by
 have nd := z2S.nd
 refine F.ok z2S (fun vs H Q E h => ?_) (fun cdv A outer s H vs Q E hr h => ?_)
 ·obtain ⟨p, ns, rfl, _⟩ := h
  rfl
 obtain ⟨p, ns, rfl, hS, hall, q⟩ := h
 refine ⟨_, (z03 (z0m (i := 1) nd rfl (Or.inl rfl) (y2n rfl rfl M.max (z00 (pv 0) z04) (z7q z07 z9M))) (z05 (z0k (z0t z0s rfl M.tuple PyProof.Rows.boot_tuple (z00 (z1p ["number"] ["had"] [0] rfl (z0u rfl (by decide +kernel) rfl (by decide +kernel) rfl rfl) (z4D rfl M.range (z00 z07 (z00 (z0p z1s (pv 1) z07) z04))) (fun _ _ _ _ _ => (z0j (i := 0) (show ((["number"] : List PySem.Str) ++ (["had"] : List PySem.Str)).Nodup from by decide +kernel) rfl (Or.inl rfl))) (z0w (by decide)) z0b (fun _ _ _ _ _ => (z3e (z0e (r := rIn K true) z1E (pv 0) (pv 1) (by with_unfolding_all rfl)))) (fun _ _ _ _ _ => (pv 0))) z04))))), ?_⟩
 refine ⟨_, rfl, p, ns, .int 0, rfl, rfl, hS, fun hnil => ?_, fun m hm top => ?_⟩
 ·subst hnil
  refine ⟨_, rfl, _, _, rfl, rfl, _, _, rfl, ⟨by decide, by decide, by decide, by decide⟩, ?_⟩
  refine z5j (lo := 1) (n := 0) (fun _ => true) (fun k => .int k) (by decide) (fun k ys N k0 k1 hN => by omega) ?_
  intro D hD
  refine ⟨D, _, rfl, .inl ⟨SqL.of z02, fun l hl => ?_⟩⟩
  have h1 : H l = none := (z01 hD _).free hl
  refine q l _ h1 ((z01 hD _).trans (z01 hl _)) ?_
  rw [z02, z8u]
  rfl
 ·have hm' := hall m hm
  refine ⟨_, rfl, _, _, rfl, rfl, _, _, rfl, ⟨by decide, by decide, by omega, by omega⟩, ?_⟩
  refine z5j (lo := 1) (n := (m + 1 - 1).toNat) (fun k => !decide (k ∈ ns)) (fun k => .int k) (by omega) (fun k ys N k0 k1 hN => ?_) ?_
  ·refine ⟨_, rfl, _, rfl, p, _, rfl, hS, rfl, z3H ns, _, rfl, ?_⟩
   rw [if_pos rfl, z4X]
   refine ite2 (fun c => ?_) (fun c => ?_)
   ·rw [if_pos c] at hN
    exact ⟨_, rfl, hN⟩
   ·rw [if_neg c] at hN
    exact hN
  ·intro D hD
   refine ⟨D, _, rfl, .inl ⟨SqL.of z02, fun l hl => ?_⟩⟩
   have h1 : H l = none := (z01 hD _).free hl
   refine q l _ h1 ((z01 hD _).trans (z01 hl _)) ?_
   rw [z02]
   have e : z1Q (fun k => !decide (k ∈ ns)) (fun k => V.int k) (upI 1 (m + 1 - 1).toNat) = (z16 ns).map V.int := by
    unfold z1Q
    rw [y1j hm hall top]
   rw [e]
def z9s (K : PySem.W.Frag) : Sp := fun vs H Q _ => ∃ (p : Addr) (ns : List Int) (n r : Int), vs = [.ref p, .int n, .int r] /\ SqI K H p ns /\ (∀ x ∈ ns, 1 ≤ x /\ x ≤ 60) /\ ns.length ≤ 900 /\
 ∀ H', Same H H' -> Q (.int (z0X ns n r)) H'
theorem y1v (M : Bl mg) (F : Fun K "teller_of" "teller_of" z5h f fd) : FnOk P w K mg base CX0 1 f fd z5d (z9s K) := by
 have nd := z6w.nd
 refine F.ok z6w (fun vs H Q E h => ?_) (fun cdv A outer s H vs Q E hr h => ?_)
 ·obtain ⟨p, ns, n, r, rfl, _⟩ := h
  rfl
 obtain ⟨p, ns, n, r, rfl, hS, hall, hlen, q⟩ := h
 have fin : ∀ D, H D = none -> (z1Q (fun y => decide (n < y) && decide (y - r ≤ n)) (fun y => V.int y) ns = (ns.filter fun y => decide (n < y) && decide (y - r ≤ n)).map V.int) := fun _ _ => rfl
 have none' : (ns.filter fun y => decide (n < y) && decide (y - r ≤ n)) = [] -> z0X ns n r = 0 := fun e => z3L fun y hy h1 h2 => by
  have : y ∈ ns.filter fun y => decide (n < y) && decide (y - r ≤ n) := List.mem_filter.mpr ⟨hy, by rw [decide_eq_true h1, decide_eq_true h2]; rfl⟩
  rw [e] at this
  cases this
 have some' : ∀ m, m ∈ (ns.filter fun y => decide (n < y) && decide (y - r ≤ n)) -> (∀ y ∈ (ns.filter fun y => decide (n < y) && decide (y - r ≤ n)), m ≤ y) -> z0X ns n r = m := fun m hm hl => by
  rw [List.mem_filter, Bool.and_eq_true, decide_eq_true_eq, decide_eq_true_eq] at hm
  exact z9v hall hm.1 hm.2.1 hm.2.2 fun y hy h1 h2 => hl y (List.mem_filter.mpr ⟨hy, by rw [decide_eq_true h1, decide_eq_true h2]; rfl⟩)
 rcases hS with hS | hS
 ·refine ⟨_, (z03 (z45 (i := 3) ["above"] ["number", "reach"] [1, 2] rfl nd rfl (Or.inl rfl) (z0u rfl (by decide +kernel) rfl (by decide +kernel) rfl rfl) (z1u (pv 0)) (fun _ _ _ _ _ => (z0j (i := 0) (show ((["above"] : List PySem.Str) ++ (["number", "reach"] : List PySem.Str)).Nodup from by decide +kernel) rfl (Or.inl rfl))) (z0w (by decide)) z0b (fun _ _ _ _ _ => (z3e (PW.pt (z8o (z0e z4b (pv 0) (pv 1) (z0v _)) (z6i (z0e y41 (z0p z4H (pv 0) (pv 2)) (pv 1) (z0v _))))))) (fun _ _ _ _ _ => (pv 0))) (z05 (z0k (y10 rfl rfl M.min (z00 (pv 3) z04) (z7q z07 z9M))))), ?_⟩
  refine ⟨_, rfl, p, rfl, ⟨_, hS⟩, ?_⟩
  refine z8b (ns := ns) (fun y => decide (n < y) && decide (y - r ≤ n)) (fun y => .int y) hS (by omega) (fun y ys N hy hN => ?_) (fun D hD => ?_)
  ·refine ⟨_, rfl, _, rfl, _, _, rfl, rfl, _, rfl, ?_⟩
   refine ite2 (fun c => ?_) (fun c => ?_)
   ·refine ⟨_, rfl, _, rfl, _, _, rfl, rfl, _, rfl, _, _, rfl, rfl, _, rfl, ?_⟩
    rw [c, Bool.true_and] at hN
    refine ite2 (fun c2 => ?_) (fun c2 => ?_)
    ·rw [if_pos c2] at hN
     exact ⟨_, rfl, hN⟩
    ·rw [if_neg c2] at hN
     exact hN
   ·rw [Bool.eq_false_iff.mpr c, Bool.false_and] at hN
    exact iteF hN
  ·refine ⟨_, rfl, D, _, .int 0, rfl, rfl, .inl (SqL.of z02), fun e => ?_, fun m hm hl => ?_⟩
   ·have := q _ (z01 hD (.lst (z1Q (fun y => decide (n < y) && decide (y - r ≤ n)) (fun y => V.int y) ns)))
    rw [none' e] at this
    exact this
   ·have := q _ (z01 hD (.lst (z1Q (fun y => decide (n < y) && decide (y - r ≤ n)) (fun y => V.int y) ns)))
    rw [some' m hm hl] at this
    exact this
 ·refine ⟨_, (z03 (z45 (i := 3) ["above"] ["number", "reach"] [1, 2] rfl nd rfl (Or.inl rfl) (z0u rfl (by decide +kernel) rfl (by decide +kernel) rfl rfl) (z3F (pv 0)) (fun _ _ _ _ _ => (z0j (i := 0) (show ((["above"] : List PySem.Str) ++ (["number", "reach"] : List PySem.Str)).Nodup from by decide +kernel) rfl (Or.inl rfl))) (z0w (by decide)) z0b (fun _ _ _ _ _ => (z3e (PW.pt (z8o (z0e z4b (pv 0) (pv 1) (z0v _)) (z6i (z0e y41 (z0p z4H (pv 0) (pv 2)) (pv 1) (z0v _))))))) (fun _ _ _ _ _ => (pv 0))) (z05 (z0k (y10 rfl rfl M.min (z00 (pv 3) z04) (z7q z07 z9M))))), ?_⟩
  refine ⟨_, rfl, p, rfl, ⟨_, hS⟩, ?_⟩
  refine y0w (ns := ns) (fun y => decide (n < y) && decide (y - r ≤ n)) (fun y => .int y) hS (by omega) (fun y ys N hy hN => ?_) (fun D hD => ?_)
  ·refine ⟨_, rfl, _, rfl, _, _, rfl, rfl, _, rfl, ?_⟩
   refine ite2 (fun c => ?_) (fun c => ?_)
   ·refine ⟨_, rfl, _, rfl, _, _, rfl, rfl, _, rfl, _, _, rfl, rfl, _, rfl, ?_⟩
    rw [c, Bool.true_and] at hN
    refine ite2 (fun c2 => ?_) (fun c2 => ?_)
    ·rw [if_pos c2] at hN
     exact ⟨_, rfl, hN⟩
    ·rw [if_neg c2] at hN
     exact hN
   ·rw [Bool.eq_false_iff.mpr c, Bool.false_and] at hN
    exact iteF hN
  ·refine ⟨_, rfl, D, _, .int 0, rfl, rfl, .inl (SqL.of z02), fun e => ?_, fun m hm hl => ?_⟩
   ·have := q _ (z01 hD (.lst (z1Q (fun y => decide (n < y) && decide (y - r ≤ n)) (fun y => V.int y) ns)))
    rw [none' e] at this
    exact this
   ·have := q _ (z01 hD (.lst (z1Q (fun y => decide (n < y) && decide (y - r ≤ n)) (fun y => V.int y) ns)))
    rw [some' m hm hl] at this
    exact this
def Pr (H : Hp) (u : V) (p : Int × Int) : Prop := ∃ a, u = .ref a /\ H a = some (.tup [.int p.1, .int p.2])
theorem Pr.keep {H H' : Hp} (s : Same H H') {u : V} {p : Int × Int} (h : Pr H u p) : Pr H' u p := let ⟨a, e, q⟩ := h; ⟨a, e, s _ _ q⟩
abbrev Prs (H : Hp) : List V -> List (Int × Int) -> Prop := Paired (Pr H)
theorem Prs.keep {H H' : Hp} (s : Same H H') : ∀ {xs : List V} {ps : List (Int × Int)}, Prs H xs ps -> Prs H' xs ps
 | _, _, .nil => .nil
 | _, _, .cons r t => .cons (r.keep s) (Prs.keep s t)
theorem Prs.get {H : Hp} : ∀ {xs : List V} {ps : List (Int × Int)}, Prs H xs ps -> ∀ (i : Nat) (u : V), xs[i]? = some u -> ∃ p, ps[i]? = some p /\ Pr H u p
 | _, _, .nil, i, u, e => by simp at e
 | _, _, .cons r t, 0, u, e => by
  simp at e
  subst e
  exact ⟨_, rfl, r⟩
 | _, _, .cons r t, i + 1, u, e => by
  obtain ⟨p, h1, h2⟩ := Prs.get t i u (by simpa using e)
  exact ⟨p, by simpa using h1, h2⟩
theorem Prs.snoc {H : Hp} {xs : List V} {ps : List (Int × Int)} {u : V} {p : Int × Int} (h : Prs H xs ps) (q : Pr H u p) : Prs H (xs ++ [u]) (ps ++ [p]) := Paired.snoc h q
theorem Prs.len {H : Hp} : ∀ {xs : List V} {ps : List (Int × Int)}, Prs H xs ps -> xs.length = ps.length
 | _, _, .nil => rfl
 | _, _, .cons _ t => by rw [List.length_cons, List.length_cons, Prs.len t]
def lwtL (ns : List Int) (r : Int) : List (Int × Int) := (z16 ns).map fun n => (n, z0X ns n r)
def z4d (ns : List Int) (r : Int) : List Int := ((lwtL ns r).filter fun q => decide (q.2 = 0)).map Prod.fst
def y4r (K : PySem.W.Frag) : Sp := fun vs H Q _ => ∃ (p : Addr) (ns : List Int) (r : Int), vs = [.ref p, .int r] /\ SqI K H p ns /\ (∀ x ∈ ns, 1 ≤ x /\ x ≤ 60) /\ ns.length ≤ 900 /\
 ∀ (l : Addr) (xs : List V) (H' : Hp), Same H H' -> H' l = some (.tup xs) -> Prs H' xs (lwtL ns r) -> Q (.ref l) H'
theorem y4T (M : Bl mg) (F : Fun K "lacking_with_tellers" "lacking_with_tellers" z1n f fd) (Glacking_numbers : Cal P w K mg base 1 "lacking_numbers" z24 (y3E K))
  (Gteller_of : Cal P w K mg base 1 "teller_of" z5d (z9s K)) : FnOk P w K mg base CX0 2 f fd z0T (y4r K) := by
 have nd := z1O.nd
 refine F.ok z1O (fun vs H Q E h => ?_) (fun cdv A outer s H vs Q E hr h => ?_)
 ·obtain ⟨p, ns, r, rfl, _⟩ := h
  rfl
 obtain ⟨p, ns, r, rfl, hS, hall, hlen, q⟩ := h
 refine ⟨_, (z05 (z0k (z0t z0s rfl M.tuple PyProof.Rows.boot_tuple (z00 (z1p ["number"] ["had", "reach"] [0, 1] rfl (z0u rfl (by decide +kernel) rfl (by decide +kernel) rfl rfl) (z3F (z0o Glacking_numbers (rm hr) rfl (z00 (pv 0) z04))) (fun _ _ _ _ _ => (z0j (i := 0) (show ((["number"] : List PySem.Str) ++ (["had", "reach"] : List PySem.Str)).Nodup from by decide +kernel) rfl (Or.inl rfl))) (z0w (by decide)) z0b (fun _ _ _ _ _ => z1B) (fun _ _ _ _ _ => (z41 (z00 (pv 0) (z00 (z0o Gteller_of (rm hr) rfl (z00 (pv 1) (z00 (pv 0) (z00 (pv 2) z04)))) z04))))) z04)))), ?_⟩
 refine ⟨_, rfl, p, ns, rfl, hS, hall, fun lt H1 nlt s1 e1 => ⟨lt, rfl, ⟨_, SqT.of e1⟩, ?_⟩⟩
 have ll := z3t ns
 refine z21 (xs := (z16 ns).map V.int) (fun i ys H' => Same H1 H' /\ Prs H' ys (((z16 ns).take i).map fun n => (n, z0X ns n r))) ⟨Same.refl _, .nil⟩ (fun i ys H' hi hp => ?_) (fun i x ys H' hx hp => ?_) (fun ys H' hp => ?_)
 ·obtain ⟨g, pr⟩ := hp
  refine ⟨SqT.of (g _ _ e1), z0d ?_⟩
  rw [pr.len, List.length_map, List.length_take]
  omega
 ·obtain ⟨g, pr⟩ := hp
  rw [List.getElem?_map] at hx
  cases e : (z16 ns)[i]? with
  | none => rw [e] at hx; cases hx
  | some n =>
   rw [e] at hx
   cases hx
   refine ⟨_, rfl, _, rfl, _, rfl, _, rfl, p, ns, n, r, rfl, SqI.keep (s1.trans g) hS, hall, hlen, fun H2 g2 => ⟨(by show 2 ≤ sizeLine; decide), fun t ht => ?_⟩⟩
   refine ⟨g.trans (g2.trans (z01 ht _)), ?_⟩
   rw [z0l e, List.map_append]
   exact Prs.snoc (pr.keep (g2.trans (z01 ht _))) ⟨t, rfl, z02⟩
 ·obtain ⟨g, pr⟩ := hp
  rw [List.length_map, List.take_length] at pr
  intro D hD
  refine ⟨D, _, rfl, .inl ⟨SqL.of z02, fun l hl => ?_⟩⟩
  exact q l ys _ (s1.trans (g.trans ((z01 hD _).trans (z01 hl _)))) z02 (pr.keep ((z01 hD _).trans (z01 hl _)))
def y3A (K : PySem.W.Frag) : Sp := fun vs H Q _ => ∃ (p : Addr) (ns : List Int) (r : Int), vs = [.ref p, .int r] /\ SqI K H p ns /\ (∀ x ∈ ns, 1 ≤ x /\ x ≤ 60) /\ ns.length ≤ 900 /\
 ∀ (l : Addr) (H' : Hp), Same H H' -> H' l = some (.tup ((z4d ns r).map V.int)) -> Q (.ref l) H'
theorem y11 (ns : List Int) (r : Int) : (lwtL ns r).length ≤ 60 := by
 unfold lwtL
 rw [List.length_map]
 exact z3t ns
theorem y4A (M : Bl mg) (F : Fun K "dark_numbers" "dark_numbers" z38 f fd) (Glacking_with_tellers : Cal P w K mg base 2 "lacking_with_tellers" z0T (y4r K)) : FnOk P w K mg base CX0 3 f fd z30 (y3A K) := by
 have nd := z3S.nd
 refine F.ok z3S (fun vs H Q E h => ?_) (fun cdv A outer s H vs Q E hr h => ?_)
 ·obtain ⟨p, ns, r, rfl, _⟩ := h
  rfl
 obtain ⟨p, ns, r, rfl, hS, hall, hlen, q⟩ := h
 refine ⟨_, (z05 (z0k (z0t z0s rfl M.tuple PyProof.Rows.boot_tuple (z00 (z1p ["number", "teller"] [] [] rfl (z0u rfl (by decide +kernel) rfl (by decide +kernel) rfl rfl) (z3F (z0o Glacking_with_tellers (rm hr) rfl (z00 (pv 0) (z00 (pv 1) z04)))) (fun _ _ _ _ _ => (z7o (K := K) (n := 2) rfl rfl (z14 (z0j (i := 0) (show ((["number", "teller"] : List PySem.Str) ++ ([] : List PySem.Str)).Nodup from by decide +kernel) rfl (Or.inl rfl)) (z14 (z0j (i := 1) (show ((["number", "teller"] : List PySem.Str) ++ ([] : List PySem.Str)).Nodup from by decide +kernel) rfl (Or.inl rfl)) z4a)))) (z7N (z1Z (z0w (by decide)) z0b (z1Z (z0w (by decide)) z0b z67 z15) (z0L z0b z15))) (z62 (z0L z0b (z0L z0b z15))) (fun _ _ _ _ _ => (z3e (z0e z3P (pv 1) z07 (z0v _)))) (fun _ _ _ _ _ => (pv 0))) z04)))), ?_⟩
 refine ⟨_, rfl, _, rfl, p, ns, r, rfl, hS, hall, hlen, fun lt xs H1 s1 e1 pr1 => ⟨lt, rfl, ⟨_, SqT.of e1⟩, ?_⟩⟩
 have ll := y11 ns r
 have lx := pr1.len
 refine z21 (xs := xs) (fun i ys H' => H' = H1 /\ ys = (((lwtL ns r).take i).filter fun q => decide (q.2 = 0)).map fun q => V.int q.1) ⟨rfl, rfl⟩ (fun i ys H' hi hp => ?_) (fun i x ys H' hx hp => ?_) (fun ys H' hp => ?_)
 ·obtain ⟨rfl, rfl⟩ := hp
  refine ⟨SqT.of e1, z0d ?_⟩
  have h1 := List.length_filter_le (fun q : Int × Int => decide (q.2 = 0)) ((lwtL ns r).take i)
  rw [List.length_map]
  rw [List.length_take] at h1
  omega
 ·obtain ⟨rfl, rfl⟩ := hp
  obtain ⟨⟨n, t⟩, e, a, rfl, ha⟩ := pr1.get i x hx
  refine ⟨a, _, rfl, SqT.of ha, rfl, _, _, rfl, _, _, rfl, rfl, ?_⟩
  refine ⟨_, rfl, rfl, _, rfl, ?_⟩
  rw [z0l e, List.filter_append, List.filter_cons, List.map_append]
  refine ite2 (fun c => ?_) (fun c => ?_)
  ·have c' : decide (t = 0) = true := decide_eq_true (V.int.inj (z0G c))
   refine ⟨_, rfl, rfl, ?_⟩
   rw [if_pos c']
   rfl
  ·have c' : ¬ decide (t = 0) = true := fun z => c (decide_eq_true (congrArg V.int (z0G z)))
   refine ⟨rfl, ?_⟩
   rw [if_neg c']
   simp
 ·obtain ⟨rfl, rfl⟩ := hp
  rw [lx, List.take_length]
  intro D hD
  refine ⟨D, _, rfl, .inl ⟨SqL.of z02, fun l hl => ?_⟩⟩
  refine q l _ (s1.trans ((z01 hD _).trans (z01 hl _))) ?_
  rw [z02]
  unfold z4d
  rw [List.map_map]
  rfl
theorem z8c (ns : List Int) (r : Int) : (z4d ns r).length ≤ 60 := by
 have h := List.length_filter_le (fun q : Int × Int => decide (q.2 = 0)) (lwtL ns r)
 have := y11 ns r
 unfold z4d
 rw [List.length_map]
 omega
def z9A (Sh : ShP) : Sp := fun vs H Q _ => ∃ (p : Addr) (fp : List Addr) (zs : List Str) (r : Int) (iss : Int -> DV) (had : List Int) (n : Int) (d0 d1 d2 : DV), vs = [.ref p, .int n] /\ Sh H p fp zs r iss had /\ n ∈ had /\ iss n = .tup [d0, d1, d2] /\ ∀ v, Tell H d2 v -> Q v H
theorem z60 {kvs : List (Key × V)} {had : List Int} (kk : kvs.map (·.1) = had.map Sum.inl) {n : Int} (h : n ∈ had) : ∃ v, valV kvs (Sum.inl n : Key) = some v /\ ((Sum.inl n : Key), v) ∈ kvs := by
 have e := z7F kk n
 rw [decide_eq_true h] at e
 cases ev : valV kvs (Sum.inl n : Key) with
 | none => rw [ev] at e; cases e
 | some v =>
  refine ⟨v, rfl, ?_⟩
  unfold valV at ev
  obtain ⟨⟨k, u⟩, hf, rfl⟩ := Option.map_eq_some_iff.mp ev
  have h1 := List.mem_of_find?_eq_some hf
  have h2 := List.find?_some hf
  simp only [decide_eq_true_eq] at h2
  rw [h2] at h1
  exact h1
theorem y0D {CShelf : Addr} (M : Bl mg) (T : TxShelf K mg CShelf) (F : Fun K "tail_of" "Shelf.tail_of" z2M f fd) : FnOk P w K mg base CX0 1 f fd z2E (z9A (ShD K CShelf)) := by
 have nd := z3I.nd
 refine F.ok z3I (fun vs H Q E h => ?_) (fun cdv A outer s H vs Q E hr h => ?_)
 ·obtain ⟨p, fp, zs, r, iss, had, n, d0, d1, d2, rfl, _⟩ := h
  rfl
 obtain ⟨p, fp, zs, r, iss, had, n, d0, d1, d2, rfl, sh, hn, en, k⟩ := h
 have hu := z8K hr
 refine ⟨_, (z05 (z0k (z0Z z3u (z6j hu (z0C (pv 0) rfl) (pv 1) (fun _ _ => rfl)) z07 (fun _ _ => rfl)))), ?_⟩
 obtain ⟨dx, pn, pd, fs, kvs, rfl, h1, h2, h3, h4, l1, l2, l3, lm, kk, ndh, all, tl, g, r0, r1⟩ := sh
 obtain ⟨v, ev, mv⟩ := z60 kk hn
 have tv := tl n v mv
 rw [en] at tv
 obtain ⟨a, us, rfl, ea, _, tu⟩ := z0f tv
 obtain ⟨x0, ur, rfl, t0, tu⟩ := z0g tu
 obtain ⟨x1, ur, rfl, t1, tu⟩ := z0g tu
 obtain ⟨x2, ur, rfl, t2, tu⟩ := z0g tu
 refine ⟨_, rfl, p, CShelf, dx, fs, _, rfl, h1, T.cl, T.n_issues, l3, _, rfl, pd, _, rfl, (by rw [<- ev]; exact DGet.k (k := Sum.inl n) h4), ?_⟩
 exact ⟨a, _, _, x2, rfl, rfl, SqT.of ea, z0J rfl, k x2 t2⟩
theorem y33 (n r : Int) : (z5o n r).Nodup := by
 have h : (dnI (n - 1) (n - 1).toNat).Nodup := by
  unfold dnI
  rw [List.nodup_iff_pairwise_ne, List.pairwise_map]
  exact List.pairwise_lt_range.imp fun h => by omega
 exact h.filter _
theorem y0y {n r k : Int} : k ∈ z5o n r ↔ 1 ≤ k /\ k < n /\ n - k ≤ r := by
 unfold z5o
 rw [List.mem_filter, z7l, decide_eq_true_eq]
 omega
theorem z71 {K : PySem.W.Frag} {H : Hp} {rows : List Row} : ∀ {ks : List Int} {xs : List V}, z08 H (ks.map (y0t rows)) xs -> ∃ kvs : List (Key × V), Paired (y2O K H) xs kvs /\ kvs.map (·.1) = ks.map Sum.inl /\ ∀ k v, ((Sum.inl k : Key), v) ∈ kvs -> Tell H (nmsD (z0z (z0O rows k))) v
 | [], xs, h => by
  rw [z0S h]
  exact ⟨[], .nil, rfl, fun _ _ q => (nomatch q)⟩
 | k :: ks, xs, h => by
  obtain ⟨x, r, rfl, t, h⟩ := z0g h
  obtain ⟨kvs, p1, p2, p3⟩ := z71 h
  obtain ⟨a, us, rfl, ea, _, tu⟩ := z0f t
  obtain ⟨x0, ur, rfl, t0, tu⟩ := z0g tu
  obtain ⟨x1, ur, rfl, t1, tu⟩ := z0g tu
  have := z0S tu
  subst this
  cases z1D t0
  refine ⟨(Sum.inl k, x1) :: kvs, .cons ⟨a, rfl, .inr (SqT.of ea)⟩ p1, by rw [List.map_cons, List.map_cons, p2], fun m v hv => ?_⟩
  rcases List.mem_cons.mp hv with e | hv
  ·cases e
   exact t1
  ·exact p3 m v hv
def y4v (rows : List Row) (n t : Int) : DV := if t = 0 then .tup [] else nmsD (z0z (z0O rows n))
def y3N (Sh : ShP) : Sp := fun vs H Q _ => ∃ (x : Addr) (n t : Int) (fp : List Addr) (nm : List Str) (r : Int) (rows : List Row) (had : List Int), vs = [.ref x, .int n, .int t] /\ Sh H x fp nm r (fun n => z1f rows n r) had /\ (t ≠ 0 -> t ∈ had /\ t ≤ 60 /\ n ∈ z5o t r) /\
 ∀ (v : V) (H' : Hp), Same H H' -> Tell H' (y4v rows n t) v -> Q v H'
theorem y4G {CShelf : Addr} (M : Bl mg) (T : TxShelf K mg CShelf) (F : Fun K "names_told_of" "names_told_of" z2L f fd) (GShelf_tail_of : MCal P w K mg base 1 CShelf "tail_of" z2E (z9A (ShD K CShelf))) :
  FnOk P w K mg base CX0 2 f fd z2I (y3N (ShD K CShelf)) := by
 have nd := z3o.nd
 refine F.ok z3o (fun vs H Q E h => ?_) (fun cdv A outer s H vs Q E hr h => ?_)
 ·obtain ⟨x, n, t, fp, nm, r, rows, had, rfl, _⟩ := h
  rfl
 obtain ⟨x, n, t, fp, nm, r, rows, had, rfl, sh, ht, k⟩ := h
 have hu := z8K hr
 refine ⟨_, (z03 (z0P (z0e z3P (pv 2) z07 (z0v _)) (z05 (z0k (z41 z04))) z0r) (z05 (z0k (z6j hu (z0t (z5y (K := K) rfl rfl) rfl M.dict PyProof.Rows.boot_dict (z00 (z1M GShelf_tail_of (rm hr) (pv 0) (z00 (pv 2) z04)) z04)) (pv 1) (fun _ _ => rfl))))), ?_⟩
 refine ⟨_, rfl, rfl, _, rfl, ite2 (fun c => ?_) (fun c => ?_)⟩
 ·have c' : t = 0 := V.int.inj (z0G c)
  refine ⟨(by show 0 ≤ sizeLine; decide), fun l hl => k _ _ (z01 hl _) ?_⟩
  unfold y4v
  rw [if_pos c']
  exact z0E z02 (by show 0 ≤ 1000000; decide) .nil
 ·have c' : t ≠ 0 := fun z => c (decide_eq_true (congrArg V.int z))
  obtain ⟨th, t60, tn⟩ := ht c'
  obtain ⟨dx, fs, h1, lm⟩ : ∃ dx fs, H x = some (.ins CShelf dx fs) /\ fs.lookup ("tail_of" : Str) = none := by
   obtain ⟨dx, pn, pd, fs, kvs, _, h1, _, _, _, _, _, _, lm, _⟩ := sh
   exact ⟨dx, fs, h1, lm _ (by simp)⟩
  refine ⟨_, rfl, x, dx, fs, rfl, h1, lm, _, rfl, x, fp, nm, r, _, had, t, _, _, _, rfl, sh, th, rfl, fun v tv => ?_⟩
  obtain ⟨a, us, rfl, ea, _, tu⟩ := z0f tv
  obtain ⟨kvs, p1, p2, p3⟩ := z71 (K := K) tu
  have lu : us.length ≤ 1000 := by
   rw [tu.length, List.length_map]
   unfold z5o
   have := List.length_filter_le (fun k => decide (t - k ≤ r)) (dnI (t - 1) (t - 1).toNat)
   rw [y1u] at this
   omega
  refine ⟨a, us, kvs, rfl, .inr ea, p1, lu, ?_, fun l hl => ?_⟩
  ·rw [p2]
   rw [List.nodup_iff_pairwise_ne, List.pairwise_map]
   exact (List.nodup_iff_pairwise_ne.mp (y33 t r)).imp fun h e => h (Sum.inl.inj e)
  ·obtain ⟨v, ev, mv⟩ := z60 p2 tn
   refine ⟨_, rfl, l, _, rfl, (by rw [<- ev]; exact DGet.k (k := Sum.inl n) z02), ?_⟩
   refine k v _ (z01 hl _) ?_
   unfold y4v
   rw [if_neg c']
   exact Tell.keep (z01 hl _) _ _ (p3 n v mv)
theorem y3a {had : List Int} {r n : Int} (h60 : ∀ n ∈ had, 1 ≤ n /\ n ≤ 60) (hn : n ∈ z16 (z0n had)) (h : z0X (z0n had) n r ≠ 0) : z0X (z0n had) n r ∈ had /\ z0X (z0n had) n r ≤ 60 /\ n ∈ z5o (z0X (z0n had) n r) r := by
 unfold z0X at h ⊢
 cases e : (upI 1 60).find? (z7u (z0n had) n r) with
 | none => rw [e] at h; exact absurd rfl h
 | some y =>
  obtain ⟨_, hc, _⟩ := y0E (z1i 1 60) e
  obtain ⟨a, b, c⟩ := z2h.mp hc
  have hy := (z1w.mp c).2
  have := h60 y hy
  have := (z1o.mp hn).1
  show y ∈ had /\ y ≤ 60 /\ n ∈ z5o y r
  exact ⟨hy, by omega, y0y.mpr (by omega)⟩
theorem y25 {CShelf : Addr} (M : Bl mg) (T : TxShelf K mg CShelf) (F : Fun K "gaps_of" "gaps_of" z7z f fd) (GShelf_had : MCal P w K mg base 1 CShelf "had" z2f (z6e (ShD K CShelf)))
  (Glacking_with_tellers : Cal P w K mg base 2 "lacking_with_tellers" z0T (y4r K)) (Gnames_told_of : Cal P w K mg base 2 "names_told_of" z2I (y3N (ShD K CShelf))) :
  FnOk P w K mg base CX0 3 f fd z7k (z9B (ShD K CShelf)) := by
 have nd := z7Z.nd
 refine F.ok z7Z (fun vs H Q E h => ?_) (fun cdv A outer s H vs Q E hr h => ?_)
 ·obtain ⟨x, fp, nm, r, rows, had, rfl, _⟩ := h
  rfl
 obtain ⟨x, fp, nm, r, rows, had, rfl, sh, gn, rw', l60, hh, r0, r1, k⟩ := h
 refine ⟨_, (z03 (z0m (i := 1) nd rfl (Or.inl rfl) (z0o Glacking_with_tellers (rm hr) rfl (z00 (z31 GShelf_had (rm hr) (pv 0)) (z00 (z0C (pv 0) rfl) z04)))) (z05 (z0k (z0t z0s rfl M.tuple PyProof.Rows.boot_tuple (z00 (z1p ["number", "teller"] ["shelf"] [0] rfl (z0u rfl (by decide +kernel) rfl (by decide +kernel) rfl rfl) (z3F (pv 1)) (fun _ _ _ _ _ => (z7o (K := K) (n := 2) rfl rfl (z14 (z0j (i := 0) (show ((["number", "teller"] : List PySem.Str) ++ (["shelf"] : List PySem.Str)).Nodup from by decide +kernel) rfl (Or.inl rfl)) (z14 (z0j (i := 1) (show ((["number", "teller"] : List PySem.Str) ++ (["shelf"] : List PySem.Str)).Nodup from by decide +kernel) rfl (Or.inl rfl)) z4a)))) (z7N (z1Z (z0w (by decide)) z0b (z1Z (z0w (by decide)) z0b z67 z15) (z0L z0b z15))) (z62 (z0L z0b (z0L z0b z15))) (fun _ _ _ _ _ => z1B) (fun _ _ _ _ _ => (z41 (z00 (pv 0) (z00 (pv 1) (z00 (z0o Gnames_told_of (rm hr) rfl (z00 (pv 2) (z00 (pv 0) (z00 (pv 1) z04)))) z04)))))) z04))))), ?_⟩
 have h60 : ∀ n ∈ had, 1 ≤ n /\ n ≤ 60 := fun n hn => by have := hh n hn; omega
 obtain ⟨dx, fs, h1, lm, lr⟩ : ∃ dx fs, H x = some (.ins CShelf dx fs) /\ fs.lookup ("had" : Str) = none /\ fs.lookup ("reach" : Str) = some (V.int r) := by
  obtain ⟨dx, pn, pd, fs, kvs, _, h1, _, _, _, _, lr, _, lm, _⟩ := sh
  exact ⟨dx, fs, h1, lm _ (by simp), lr⟩
 refine ⟨_, rfl, x, dx, fs, rfl, h1, lm, x, fp, nm, r, _, had, rfl, sh, fun l H1 s1 e1 => ?_⟩
 refine ⟨_, rfl, x, CShelf, dx, fs, _, rfl, s1 _ _ h1, T.cl, T.n_reach, lr, l, z0n had, r, rfl, .inr (SqT.of e1), fun n hn => h60 n (z1w.mp hn).2, Nat.le_trans (z6v had) (by decide), fun lt xs H2 s2 e2 pr2 => ?_⟩
 have sh2 : ShD K CShelf H2 x fp nm r (fun n => z1f rows n r) had := shOk.same sh (s1.trans s2)
 have lx : xs.length = (z16 (z0n had)).length := by rw [pr2.len]; unfold lwtL; rw [List.length_map]
 have ll := z3t (z0n had)
 refine ⟨_, rfl, lt, rfl, ⟨_, SqT.of e2⟩, ?_⟩
 refine z21 (xs := xs) (fun i ys H' => Same H2 H' /\ z08 H' (((z16 (z0n had)).take i).map (gapD (z0n had) rows r)) ys) ⟨Same.refl _, by rw [List.take_zero]; exact .nil⟩ (fun i ys H' hi hp => ?_) (fun i y ys H' hy hp => ?_) (fun ys H' hp => ?_)
 ·obtain ⟨g, t⟩ := hp
  refine ⟨SqT.of (g _ _ e2), z0d ?_⟩
  rw [t.length, List.length_map, List.length_take]
  omega
 ·obtain ⟨g, t⟩ := hp
  obtain ⟨⟨n, tl⟩, e, a, rfl, ha⟩ := pr2.get i y hy
  unfold lwtL at e
  rw [List.getElem?_map] at e
  obtain ⟨m, em, e3⟩ := Option.map_eq_some_iff.mp e
  cases e3
  refine ⟨a, _, rfl, SqT.of (g _ _ ha), rfl, _, _, rfl, _, _, rfl, rfl, ?_⟩
  refine ⟨_, rfl, _, rfl, _, rfl, _, rfl, _, rfl, x, n, _, fp, nm, r, rows, had, rfl, shOk.same sh2 g, y3a h60 (List.mem_of_getElem? em), fun v H3 s3 tv => ?_⟩
  refine ⟨(by show 3 ≤ sizeLine; decide), fun q hq => ⟨g.trans (s3.trans (z01 hq _)), ?_⟩⟩
  rw [List.take_add_one, em, List.map_append]
  exact z08.snoc (z08.keep (s3.trans (z01 hq _)) _ _ t) (z0E z02 (by show 3 ≤ 1000000; decide) (.cons (z2c _) (.cons (z2c _) (.cons (Tell.keep (z01 hq _) _ _ tv) .nil))))
 ·obtain ⟨g, t⟩ := hp
  rw [lx, List.take_length] at t
  intro D hD
  refine ⟨D, ys, rfl, .inl ⟨SqL.of z02, fun q hq => k _ _ (s1.trans (s2.trans (g.trans ((z01 hD _).trans (z01 hq _))))) (z0E z02 ?_ (z08.keep ((z01 hD _).trans (z01 hq _)) _ _ t))⟩⟩
  unfold z8L
  rw [List.length_map]
  omega
def z9U (Sh : ShP) : Sp := fun vs H Q _ => ∃ (p : Addr) (fp : List Addr) (zs : List Str) (r : Int) (iss : Int -> DV) (had : List Int) (n : Int) (d0 d1 d2 : DV), vs = [.ref p, .int n] /\ Sh H p fp zs r iss had /\ n ∈ had /\ iss n = .tup [d0, d1, d2] /\ ∀ v, Tell H d1 v -> Q v H
theorem y2k {CShelf : Addr} (M : Bl mg) (T : TxShelf K mg CShelf) (F : Fun K "rows_of" "Shelf.rows_of" z2N f fd) : FnOk P w K mg base CX0 1 f fd z2J (z9U (ShD K CShelf)) := by
 have nd := z3n.nd
 refine F.ok z3n (fun vs H Q E h => ?_) (fun cdv A outer s H vs Q E hr h => ?_)
 ·obtain ⟨p, fp, zs, r, iss, had, n, d0, d1, d2, rfl, _⟩ := h
  rfl
 obtain ⟨p, fp, zs, r, iss, had, n, d0, d1, d2, rfl, sh, hn, en, k⟩ := h
 have hu := z8K hr
 refine ⟨_, (z05 (z0k (z0Z z3u (z6j hu (z0C (pv 0) rfl) (pv 1) (fun _ _ => rfl)) z07 (fun _ _ => rfl)))), ?_⟩
 obtain ⟨dx, pn, pd, fs, kvs, rfl, h1, h2, h3, h4, l1, l2, l3, lm, kk, ndh, all, tl, g, r0, r1⟩ := sh
 obtain ⟨v, ev, mv⟩ := z60 kk hn
 have tv := tl n v mv
 rw [en] at tv
 obtain ⟨a, us, rfl, ea, _, tu⟩ := z0f tv
 obtain ⟨x0, ur, rfl, t0, tu⟩ := z0g tu
 obtain ⟨x1, ur, rfl, t1, tu⟩ := z0g tu
 refine ⟨_, rfl, p, CShelf, dx, fs, _, rfl, h1, T.cl, T.n_issues, l3, _, rfl, pd, _, rfl, (by rw [<- ev]; exact DGet.k (k := Sum.inl n) h4), ?_⟩
 exact ⟨a, _, _, x1, rfl, rfl, SqT.of ea, z0J rfl, k x1 t1⟩
theorem y0M {nm : List Str} {rows : List Row} (g : GoodN nm) (R : Rws nm rows) (n : Int) : (z0O rows n).length ≤ 12 := by
 unfold z0O
 rw [List.getD_eq_getElem?_getD]
 cases e : rows[(n - 1).toNat]? with
 | none => exact Nat.zero_le _
 | some w =>
  have h := (R.sub w (List.mem_of_getElem? e)).length_le
  rw [List.length_map] at h
  exact Nat.le_trans h g.hi
theorem y1o {ns : List Int} {r n : Int} : n ∈ z4d ns r ↔ n ∈ z16 ns /\ z0X ns n r = 0 := by
 unfold z4d lwtL
 rw [List.mem_map]
 constructor
 ·rintro ⟨⟨a, b⟩, h, rfl⟩
  rw [List.mem_filter, List.mem_map, decide_eq_true_eq] at h
  obtain ⟨⟨m, hm, e⟩, h2⟩ := h
  cases e
  exact ⟨hm, h2⟩
 ·rintro ⟨h1, h2⟩
  refine ⟨(n, z0X ns n r), ?_, rfl⟩
  rw [List.mem_filter, List.mem_map, decide_eq_true_eq]
  exact ⟨⟨n, h1, rfl⟩, h2⟩
def y5s : Deed -> DV
 | (none, n) => .tup [.str "write", .int n]
 | (some r, n) => .tup [.str "deliver", .int r, .int n]
theorem y1y {H : Hp} {u : V} {d : Deed} (h : z3T H u d) : Tell H (y5s d) u := by
 obtain ⟨b, rfl, e⟩ := h
 obtain ⟨a, n⟩ := d
 cases a with
 | none => exact z0E e (by show 2 ≤ 1000000; decide) (.cons (z4G _) (.cons (z2c _) .nil))
 | some r => exact z0E e (by show 3 ≤ 1000000; decide) (.cons (z4G _) (.cons (z2c _) (.cons (z2c _) .nil)))
theorem y0A {H : Hp} : ∀ {us : List V} {log : List Deed}, Paired (z3T H) us log -> ∀ (i : Nat) (d : Deed), log[i]? = some d -> ∃ u, us[i]? = some u /\ z3T H u d := by
 intro us log h
 induction h with
 | nil => intro i d e; simp at e
 | cons h t ih =>
  intro i d e
  cases i with
  | zero =>
   simp at e
   subst e
   exact ⟨_, rfl, h⟩
  | succ i =>
   obtain ⟨u, q1, q2⟩ := ih i d (by simpa using e)
   exact ⟨u, by simpa using q1, q2⟩
def y0c (Bk : BkP) : Sp := fun vs H Q _ => ∃ (p : Addr) (fp : List Addr) (zs : List Str) (r k : Int) (rows : List Row) (log : List Deed), vs = [.ref p] /\ Bk H p fp zs r k rows log /\ ∀ H', Same H H' -> Q (.int rows.length) H'
def y29 (Bk : BkP) : Sp := fun vs H Q _ => ∃ (p : Addr) (fp : List Addr) (zs : List Str) (r k : Int) (rows : List Row) (log : List Deed) (n : Int), vs = [.ref p, .int n] /\ Bk H p fp zs r k rows log /\ 1 ≤ n /\ n ≤ rows.length /\
 ∀ (v : V) (H' : Hp), Same H H' -> Tell H' (z1f rows n r) v -> Q v H'
def y2s (Bk : BkP) : Sp := fun vs H Q _ => ∃ (p : Addr) (fp : List Addr) (zs : List Str) (r k : Int) (rows : List Row) (log : List Deed) (i : Nat) (d : Deed), vs = [.ref p, .int ((i : Int) + 1)] /\ Bk H p fp zs r k rows log /\ log[i]? = some d /\
 ∀ v, Tell H (y5s d) v -> Q v H
theorem z8M {CBook COffice : Addr} (M : Bl mg) (T : TxBook K mg CBook) (F : Fun K "latest" "Book.latest" z3v f fd) (GOffice_latest : MCal P w K mg base 1 COffice "latest" z2O (z75 (OfD K COffice))) : FnOk P w K mg base CX0 2 f fd z5z (y0c (BkD K CBook COffice)) := by
 have nd := z54.nd
 refine F.ok z54 (fun vs H Q E h => ?_) (fun cdv A outer s H vs Q E hr h => ?_)
 ·obtain ⟨p, fp, zs, r, k, rows, log, rfl, _⟩ := h
  rfl
 obtain ⟨p, fp, zs, r, k, rows, log, rfl, ⟨dx, po, pd, fs, fo, us, rfl, B⟩, q⟩ := h
 refine ⟨_, (z05 (z0k (z31 GOffice_latest (rm hr) (z0C (pv 0) rfl)))), ?_⟩
 obtain ⟨dxo, pno, plo, fso, xso, efo, h1, h2, h3, h4, l1, l2, l3, lmo, _⟩ := id B.of
 exact ⟨_, rfl, p, CBook, dx, fs, _, rfl, B.hp, T.cl, T.n_office, B.lo, po, dxo, fso, rfl, h1, lmo _ (by simp), po, fo, zs, r, rows, rfl, B.of, q⟩
theorem y0q {CBook COffice : Addr} (M : Bl mg) (T : TxBook K mg CBook) (F : Fun K "issue" "Book.issue" z49 f fd) (GOffice_issue : MCal P w K mg base 1 COffice "issue" z1H (z4K (OfD K COffice))) : FnOk P w K mg base CX0 2 f fd z6k (y29 (BkD K CBook COffice)) := by
 have nd := z5J.nd
 refine F.ok z5J (fun vs H Q E h => ?_) (fun cdv A outer s H vs Q E hr h => ?_)
 ·obtain ⟨p, fp, zs, r, k, rows, log, n, rfl, _⟩ := h
  rfl
 obtain ⟨p, fp, zs, r, k, rows, log, n, rfl, ⟨dx, po, pd, fs, fo, us, rfl, B⟩, n1, n2, q⟩ := h
 refine ⟨_, (z05 (z0k (z1M GOffice_issue (rm hr) (z0C (pv 0) rfl) (z00 (pv 1) z04)))), ?_⟩
 obtain ⟨dxo, pno, plo, fso, xso, efo, h1, h2, h3, h4, l1, l2, l3, lmo, _⟩ := id B.of
 exact ⟨_, rfl, p, CBook, dx, fs, _, rfl, B.hp, T.cl, T.n_office, B.lo, po, dxo, fso, rfl, h1, lmo _ (by simp), _, rfl, po, fo, zs, r, rows, n, rfl, B.of, n1, n2, q⟩
theorem y2l {CBook COffice : Addr} (M : Bl mg) (T : TxBook K mg CBook) (F : Fun K "deed" "Book.deed" z5m f fd) : FnOk P w K mg base CX0 1 f fd z79 (y2s (BkD K CBook COffice)) := by
 have nd := z6L.nd
 refine F.ok z6L (fun vs H Q E h => ?_) (fun cdv A outer s H vs Q E hr h => ?_)
 ·obtain ⟨p, fp, zs, r, k, rows, log, i, d, rfl, _⟩ := h
  rfl
 obtain ⟨p, fp, zs, r, k, rows, log, i, d, rfl, ⟨dx, po, pd, fs, fo, us, rfl, B⟩, ed, q⟩ := h
 refine ⟨_, (z03 (z0P (PW.pt (z4W (z0e z7L (pv 1) z07 (z0v _)) (z2t (z0e z4b (pv 1) (z0c z0a rfl M.len PySem.boot_len (z00 (z0C (pv 0) rfl) z04)) (z0v _))))) (z05 z1h) z0r) (z05 (z0k (z0Z z0B (z0C (pv 0) rfl) (z0p z4H (pv 1) z07) (fun _ _ => rfl))))), ?_⟩
 have lu := z2U B.ds
 have hi := (List.getElem?_eq_some_iff.mp ed).1
 obtain ⟨u, eu, du⟩ := y0A B.ds i d ed
 have av : atI us ((i : Int) + 1 - 1) = some u := by
  rw [Int.add_sub_cancel]
  exact z0J eu
 refine ⟨_, rfl, _, _, rfl, rfl, _, rfl, ite2 (fun q => absurd (z0G q) (by omega)) fun _ => ?_⟩
 refine ⟨_, rfl, _, rfl, p, CBook, dx, fs, _, rfl, B.hp, T.cl, T.n_done, B.ld, pd, us, rfl, .inl (SqL.of B.hd), _, _, rfl, rfl, _, rfl, ite2 (fun q => absurd (z0G q) (by omega)) fun _ => ?_⟩
 exact ⟨_, rfl, p, CBook, dx, fs, _, rfl, B.hp, T.cl, T.n_done, B.ld, _, rfl, _, _, rfl, rfl, pd, us, _, u, rfl, rfl, SqL.of B.hd, av, q u (y1y du)⟩
def y2C (K : PySem.W.Frag) : Sp := fun vs H Q _ => ∃ (a : Addr) (ns : List Int), vs = [.ref a] /\ SqL K H a (ns.map V.int) /\ ns.length ≤ 63 /\ ∀ H', Q (.bl true) H'
theorem y3H {nm : List Str} {rows : List Row} (R : Rws nm rows) (h : nm.length ≤ 12) : ∀ w ∈ rows, w.length ≤ 12 := fun w hw => by
 have := (R.sub w hw).length_le
 rw [List.length_map] at this
 omega
theorem y2E {xs : List V} {k : Nat} (h : k ≤ xs.length) : cutV xs none (some (k : Int)) = xs.take k := by
 unfold cutV
 have e1 : HT.sIx xs.length 0 none = 0 := rfl
 have e2 : HT.sIx xs.length xs.length (some (k : Int)) = k := by
  rw [HT.z8V, Nat.min_eq_left h]
 rw [e1, e2, List.drop_zero, Nat.sub_zero]
def optD : Option (List Str) -> DV
 | none => .non
 | some zs => nmsD zs
def z1j (hs : List Int) (rows : List Row) (r n : Int) : Option (List Str) := if n ∈ hs \/ z0X hs n r ≠ 0 then some (z0z (z0O rows n)) else none
def z0x (m : Nat) (hs : List Int) (rows : List Row) (r : Int) : List (Option (List Str)) := (upI 1 m).map (z1j hs rows r)
def z4T (had : List Int) (m : Nat) : Prop := ((m : Int) ∈ had \/ (had = [] /\ m = 0)) /\ ∀ y ∈ had, y ≤ (m : Int)
theorem z1q (m : Nat) (hs : List Int) (rows : List Row) (r : Int) : (z0x m hs rows r).length = m := by
 unfold z0x
 rw [List.length_map, z0H]
theorem z4T.same {a b : List Int} {m : Nat} (h : z4T a m) (e : ∀ x, x ∈ b ↔ x ∈ a) : z4T b m := by
 refine ⟨?_, fun y hy => h.2 y ((e y).mp hy)⟩
 rcases h.1 with q | ⟨q, q0⟩
 ·exact .inl ((e _).mpr q)
 ·refine .inr ⟨List.eq_nil_iff_forall_not_mem.mpr fun x hx => ?_, q0⟩
  have := (e x).mp hx
  rw [q] at this
  cases this
theorem z4T.le {a : List Int} {m : Nat} {k : Int} (h : z4T a m) (hk : 0 ≤ k) (ha : ∀ x ∈ a, x ≤ k) : (m : Int) ≤ k := by
 rcases h.1 with q | ⟨_, q⟩
 ·exact ha _ q
 ·omega
theorem y4L {nm : List Str} {rows : List Row} (R : Rws nm rows) (gn : GoodN nm) (n : Int) : (z0z (z0O rows n)).length ≤ 12 := by
 have := y0M gn R n
 unfold z0z
 rw [List.length_map]
 exact this
theorem y5t (hs : List Int) (h : ∀ x ∈ hs, 1 ≤ x /\ x ≤ 60) : ∃ m : Nat, z4T hs m := by
 induction hs with
 | nil => exact ⟨0, .inr ⟨rfl, rfl⟩, fun _ q => (nomatch q)⟩
 | cons x xs ih =>
  obtain ⟨m, t⟩ := ih fun y hy => h y (List.mem_cons_of_mem _ hy)
  have hx := h x List.mem_cons_self
  by_cases c : (m : Int) ≤ x
  ·refine ⟨x.toNat, .inl ?_, fun y hy => ?_⟩
   ·rw [show ((x.toNat : Nat) : Int) = x by omega]
    exact List.mem_cons_self
   ·rcases List.mem_cons.mp hy with rfl | hy
    ·omega
    ·have := t.2 y hy
     omega
  ·refine ⟨m, .inl ?_, fun y hy => ?_⟩
   ·rcases t.1 with q | ⟨_, q⟩
    ·exact List.mem_cons_of_mem _ q
    ·omega
   ·rcases List.mem_cons.mp hy with rfl | hy
    ·omega
    ·exact t.2 y hy
def y1L (Sh : ShP) : Sp := fun vs H Q _ => ∃ (x : Addr) (fp : List Addr) (nm : List Str) (r : Int) (iss : Int -> DV) (had : List Int), vs = [.ref x] /\ Sh H x fp nm r iss had /\ (∀ n ∈ had, 1 ≤ n /\ n ≤ 60) /\
 ∀ (H' : Hp), Same H H' -> Q (.int (2 ^ ((z4d (z0n had) r).length * nm.length))) H'
theorem y5c (M : Bl mg) (F : Fun K "two_to_the" "two_to_the" z44 f fd) : FnOk P w K mg base CX0 1 f fd z4v z3D := by
 have nd := z5F.nd
 refine F.ok z5F (fun vs H Q E h => ?_) (fun cdv A outer s H vs Q E hr h => ?_)
 ·obtain ⟨t, rfl, _⟩ := h
  rfl
 obtain ⟨t, rfl, t0, t1, q⟩ := h
 refine ⟨_, (z03 (z0m (i := 1) nd rfl (Or.inl rfl) z07) (z03 (z1g PassesOwn.never rfl (z17 rfl M.range (z00 (pv 0) z04)) (z0j (i := 2) nd rfl (Or.inl rfl)) (z05 (z0m (i := 1) nd rfl (Or.inl rfl) (z0p z3K (pv 1) z07)))) (z05 (z0k (pv 1))))), ?_⟩
 refine ⟨_, rfl, _, rfl, by omega, by omega, ?_⟩
 refine z1y (lo := 0) (n := t.toNat) (fun i σ H' => H' = H /\ ∃ o, σ = [some (.int t), some (.int (2 ^ i)), o]) ⟨rfl, _, rfl⟩ (fun i σ H' hi hp => ?_) (fun σ H' hp => ?_)
 ·obtain ⟨rfl, o, rfl⟩ := hp
  refine ⟨_, rfl, _, _, rfl, rfl, .inr ⟨by decide, by decide⟩, rfl, some (.int (0 + (i : Int))), ?_⟩
  rw [Int.pow_succ]
  rfl
 ·obtain ⟨rfl, o, rfl⟩ := hp
  exact ⟨_, rfl, q⟩
theorem y3k {CShelf : Addr} (M : Bl mg) (T : TxShelf K mg CShelf) (F : Fun K "course_count" "course_count" z32 f fd) (GShelf_had : MCal P w K mg base 1 CShelf "had" z2f (z6e (ShD K CShelf)))
  (Gdark_numbers : Cal P w K mg base 3 "dark_numbers" z30 (y3A K)) (Gtwo_to_the : Cal P w K mg base 1 "two_to_the" z4v z3D) : FnOk P w K mg base CX0 4 f fd z2Y (y1L (ShD K CShelf)) := by
 have nd := z3U.nd
 refine F.ok z3U (fun vs H Q E h => ?_) (fun cdv A outer s H vs Q E hr h => ?_)
 ·obtain ⟨x, fp, nm, r, iss, had, rfl, _⟩ := h
  rfl
 obtain ⟨x, fp, nm, r, iss, had, rfl, sh, hh, k⟩ := h
 refine ⟨_, (z03 (z0m (i := 1) nd rfl (Or.inl rfl) (z0o Gdark_numbers (rm hr) rfl (z00 (z31 GShelf_had (rm hr) (pv 0)) (z00 (z0C (pv 0) rfl) z04)))) (z05 (z0k (z0o Gtwo_to_the (rm hr) rfl (z00 (z0p z3K (z0c z0a rfl M.len PySem.boot_len (z00 (pv 1) z04)) (z0c z0a rfl M.len PySem.boot_len (z00 (z0C (pv 0) rfl) z04))) z04))))), ?_⟩
 obtain ⟨dx, pn, fs, h1, h3, ln, lr, lm, gn⟩ : ∃ dx pn fs, H x = some (.ins CShelf dx fs) /\ H pn = some (.tup (nm.map V.str)) /\ fs.lookup ("names" : Str) = some (V.ref pn) /\ fs.lookup ("reach" : Str) = some (V.int r) /\ fs.lookup ("had" : Str) = none /\ GoodN nm := by
  obtain ⟨dx, pn, pd, fs, kvs, _, h1, _, h3, _, l1, l2, _, lm, _, _, _, _, gn, _⟩ := sh
  exact ⟨dx, pn, fs, h1, h3, l1, l2, lm _ (by simp), gn⟩
 have h60 : ∀ n ∈ z0n had, 1 ≤ n /\ n ≤ 60 := fun n hn => hh n (z1w.mp hn).2
 refine ⟨_, rfl, x, dx, fs, rfl, h1, lm, x, fp, nm, r, _, had, rfl, sh, fun l H1 s1 e1 => ?_⟩
 refine ⟨_, rfl, x, CShelf, dx, fs, _, rfl, s1 _ _ h1, T.cl, T.n_reach, lr, l, z0n had, r, rfl, .inr (SqT.of e1), h60, Nat.le_trans (z6v had) (by decide), fun d H2 s2 e2 => ?_⟩
 have s12 := s1.trans s2
 have ld : ((z4d (z0n had) r).map V.int).length = (z4d (z0n had) r).length := List.length_map _
 have lm' : (nm.map V.str).length = nm.length := List.length_map _
 have l60 := z8c (z0n had) r
 have n12 := gn.hi
 have lt : (z4d (z0n had) r).length * nm.length ≤ 60 * 12 := Nat.mul_le_mul l60 n12
 refine ⟨_, rfl, d, _, rfl, .inr (SqT.of e2), _, rfl, x, CShelf, dx, fs, _, rfl, s12 _ _ h1, T.cl, T.n_names, ln, pn, _, rfl, .inr (SqT.of (s12 _ _ h3)), _, _, rfl, rfl, ?_, _, rfl, ?_, ?_, ?_⟩
 ·rw [ld]
  exact .inl ⟨by omega, by omega⟩
 ·exact Int.mul_nonneg (Int.natCast_nonneg _) (Int.natCast_nonneg _)
 ·rw [ld, lm', <- Int.natCast_mul]
  omega
 ·rw [ld, lm', <- Int.natCast_mul, Int.toNat_natCast]
  exact k H2 s12
def y0K (Sh : ShP) : Sp := fun vs H Q _ => ∃ (x : Addr) (fp : List Addr) (nm : List Str) (r : Int) (rows : List Row) (had : List Int) (m : Nat), vs = [.ref x] /\ Sh H x fp nm r (fun n => z1f rows n r) had /\ GoodN nm /\ Rws nm rows /\ rows.length ≤ 60 /\ (∀ n ∈ had, 1 ≤ n /\ n ≤ rows.length) /\ 0 ≤ r /\ r ≤ 10 /\ z4T had m /\
 ∀ (v : V) (H' : Hp), Same H H' -> Tell H' (.tup ((z0x m (z0n had) rows r).map optD)) v -> Q v H'
theorem z9o {had : List Int} {m : Nat} (h60 : ∀ n ∈ had, 1 ≤ n /\ n ≤ 60) (t : z4T had m) : z0n (z0n had ++ z16 (z0n had)) = upI 1 m := z20 (z2T _) (z1i _ _) fun x => by
 have inr : ∀ y, y ∈ z0n had ↔ y ∈ had := fun y => by
  rw [z1w]
  exact ⟨fun h => h.2, fun h => ⟨by have := h60 y h; omega, h⟩⟩
 rw [z1w, List.mem_append, z0W, z1o]
 constructor
 ·rintro ⟨h1, h | ⟨_, _, y, hy, h⟩⟩
  ·have := t.2 x ((inr x).mp h)
   omega
  ·have := t.2 y ((inr y).mp hy)
   omega
 ·rintro ⟨h1, h2⟩
  rcases t.1 with q | ⟨_, q⟩
  ·have := h60 _ q
   refine ⟨by omega, ?_⟩
   by_cases c : x ∈ z0n had
   ·exact .inl c
   ·refine .inr ⟨by omega, c, m, (inr _).mpr q, ?_⟩
    have : x ≠ (m : Int) := fun e => c (by rw [e]; exact (inr _).mpr q)
    omega
  ·omega
theorem z9u {kvs : List (Key × V)} {ks : List Int} (kk : kvs.map (·.1) = ks.map Sum.inl) {n : Int} (hn : n ∉ ks) (v : V) : putK kvs (Sum.inl n) v = kvs ++ [(Sum.inl n, v)] := by
 refine z9r _ ?_
 have := z7F kk n
 rw [decide_eq_false hn] at this
 cases e : valV kvs (Sum.inl n : Key) with
 | none => rfl
 | some v => rw [e] at this; cases this
theorem y2S {CShelf : Addr} (M : Bl mg) (F : Fun K "known_sets" "known_sets" z4p f fd) (GShelf_had : MCal P w K mg base 1 CShelf "had" z2f (z6e (ShD K CShelf))) (GShelf_rows_of : MCal P w K mg base 1 CShelf "rows_of" z2J (z9U (ShD K CShelf)))
  (Gnames_of_rows : Cal P w K mg base 1 "names_of_rows" z1Y z8P) (Ggaps_of : Cal P w K mg base 3 "gaps_of" z7k (z9B (ShD K CShelf))) : FnOk P w K mg base CX0 4 f fd z4t (y0K (ShD K CShelf)) := by
 have nd := z5M.nd
 refine F.ok z5M (fun vs H Q E h => ?_) (fun cdv A outer s H vs Q E hr h => ?_)
 ·obtain ⟨x, fp, nm, r, rows, had, m, rfl, _⟩ := h
  rfl
 obtain ⟨x, fp, nm, r, rows, had, m, rfl, sh, gn, R, l60, hh, r0, r10, it, k⟩ := h
 have hu := z8K hr
 refine ⟨_, (z03 (z0m (i := 1) nd rfl (Or.inr rfl) z9J) (z03 (z1g PassesOwn.never rfl (z3F (z31 GShelf_had (rm hr) (pv 0))) (z0j (i := 2) nd rfl (Or.inl rfl)) (z05 (z9c hu (pv 1) (pv 2) (z0o Gnames_of_rows (rm hr) rfl (z00 (z1M GShelf_rows_of (rm hr) (pv 0) (z00 (pv 2) z04)) z04)) rfl))) (z03 (z1g PassesOwn.never rfl (z3F (z0o Ggaps_of (rm hr) rfl (z00 (pv 0) z04))) (y3J rfl (z14 (z0j (i := 2) nd rfl (Or.inl rfl)) (z14 (z0j (i := 3) nd rfl (Or.inl rfl)) (z14 (z0j (i := 4) nd rfl (Or.inl rfl)) z4a)))) (z05 (z9c hu (pv 1) (pv 2) (z61 (z0e z3P (pv 3) z07 (z0v _)) y2h (pv 4)) rfl))) (z05 (z0k (z0t z0s rfl M.tuple PyProof.Rows.boot_tuple (z00 (z1p ["number"] ["sets"] [1] rfl (z0u rfl (by decide +kernel) rfl (by decide +kernel) rfl rfl) (z1u (z0c (z3h rfl) rfl M.sorted PyProof.Rows.boot_sorted (z00 (pv 1) z04))) (fun _ _ _ _ _ => (z0j (i := 0) (show ((["number"] : List PySem.Str) ++ (["sets"] : List PySem.Str)).Nodup from by decide +kernel) rfl (Or.inl rfl))) (z0w (by decide)) z0b (fun _ _ _ _ _ => z1B) (fun _ _ _ _ _ => (z6j hu (pv 1) (pv 0) (fun _ _ => rfl)))) z04))))))), ?_⟩
 have h60 : ∀ n ∈ had, 1 ≤ n /\ n ≤ 60 := fun n hn => by have := hh n hn; omega
 have rl := z6v had
 have ll := z3t (z0n had)
 obtain ⟨dx, fs, h1, lm, lo⟩ : ∃ dx fs, H x = some (.ins CShelf dx fs) /\ fs.lookup ("had" : Str) = none /\ fs.lookup ("rows_of" : Str) = none := by
  obtain ⟨dx, pn, pd, fs, kvs, _, h1, _, _, _, _, lr, _, lm, _⟩ := sh
  exact ⟨dx, fs, h1, lm _ (by simp), lm _ (by simp)⟩
 intro d hd
 have s0 := z01 hd (.dK [])
 have e0 : upd H d (.dK []) d = some (.dK []) := z02
 generalize upd H d (.dK []) = H0 at s0 e0
 refine ⟨_, rfl, x, dx, fs, rfl, s0 _ _ h1, lm, x, fp, nm, r, _, had, rfl, shOk.same sh s0, fun l H1 s1 e1 => ?_⟩
 have s01 := s0.trans s1
 refine ⟨l, rfl, ⟨_, SqT.of e1⟩, z7I (K := K) (a := l) (xs := (z0n had).map V.int) (fun i σ G => ∃ (kvs : List (Key × V)) (o2 : Option V), Same H G /\ G l = some (.tup ((z0n had).map V.int)) /\ G d = some (.dK kvs) /\ kvs.map (·.1) = ((z0n had).take i).map Sum.inl /\ (∀ n v, (Sum.inl n, v) ∈ kvs -> Tell G (nmsD (z0z (z0O rows n))) v) /\
   σ = [some (.ref x), some (.ref d), o2, none, none]) ⟨[], none, s01, e1, s1 _ _ e0, by rw [List.take_zero]; rfl, fun _ _ q => (nomatch q), rfl⟩ (fun i σ G _ ⟨_, _, _, e, _⟩ => SqT.of e) ?_ ?_⟩
 ·rintro i y σ G hy ⟨kvs, o2, sG, elG, edG, kk, tk, rfl⟩
  rw [List.getElem?_map] at hy
  obtain ⟨n, en, rfl⟩ := Option.map_eq_some_iff.mp hy
  have nh : n ∈ had := (z1w.mp (List.mem_of_getElem? en)).2
  have lk : kvs.length ≤ 60 := by
   have := congrArg List.length kk
   rw [List.length_map, List.length_map, List.length_take] at this
   omega
  refine ⟨_, rfl, x, dx, fs, rfl, sG _ _ h1, lo, _, rfl, x, fp, nm, r, _, had, n, _, _, _, rfl, shOk.same sh sG, nh, rfl, fun v tv => ?_⟩
  obtain ⟨a, us, rfl, ea, _, tu⟩ := z0f tv
  refine ⟨a, us, z0O rows n, rfl, ea, tu, y0M gn R n, fun q G1 s1' eq => ?_⟩
  refine ⟨_, rfl, _, rfl, d, _, rfl, DPut.k (k := Sum.inl n) (s1' _ _ edG) (z0d (by omega)), ?_⟩
  have nin : n ∉ (z0n had).take i := fun h => by
   have := (z2T had)
   rw [<- List.take_append_drop (i + 1) (z0n had), z0l en] at this
   have := (List.pairwise_append.mp (List.pairwise_append.mp this).1).2.2 n h n (List.mem_singleton.mpr rfl)
   omega
  rw [z9u kk nin]
  have nl : l ≠ d := z4L elG edG (by intro z; cases z)
  refine ⟨_, _, z1z (sG.trans s1') hd, by rw [z09 nl]; exact s1' _ _ elG, z02, ?_, fun n' v' hv => ?_, rfl⟩
  ·rw [List.map_append, kk, z0l en, List.map_append]
   rfl
  ·refine Tell.over (s1' _ _ edG) (fun _ z => by cases z) _ _ ?_
   rcases List.mem_append.mp hv with h | h
   ·exact Tell.keep s1' _ _ (tk n' v' h)
   ·rw [List.mem_singleton] at h
    cases h
    exact z0E eq (by rw [List.length_map]; have := y4L R gn n; omega) (z1F _)
 rintro σ H2 ⟨kvs, o2, s2, _, ed2, kk2, tk2, rfl⟩
 rw [List.length_map, List.take_length] at kk2
 have sh2 := shOk.same sh s2
 refine ⟨_, rfl, x, fp, nm, r, rows, had, rfl, sh2, gn, R, l60, hh, r0, r10, fun gv H3 s3 tg => ?_⟩
 obtain ⟨ag, gz, rfl, eag, _, tgz⟩ := z0f tg
 have lgz : gz.length = (z16 (z0n had)).length := by
  rw [tgz.length]
  unfold z8L
  rw [List.length_map]
 have s23 := s2.trans s3
 refine ⟨ag, rfl, ⟨_, SqT.of eag⟩, z7I (K := K) (a := ag) (xs := gz) (fun i σ G => ∃ (kvs : List (Key × V)) (o2 o3 o4 : Option V), Same H G /\ G ag = some (.tup gz) /\ z08 G (z8L (z0n had) rows r) gz /\ G d = some (.dK kvs) /\ kvs.map (·.1) = (z0n had ++ (z16 (z0n had)).take i).map Sum.inl /\ (∀ n v, (Sum.inl n, v) ∈ kvs -> Tell G (optD (z1j (z0n had) rows r n)) v) /\
   σ = [some (.ref x), some (.ref d), o2, o3, o4]) ⟨kvs, _, _, _, s23, eag, tgz, s3 _ _ ed2, by rw [List.take_zero, List.append_nil]; exact kk2, fun n v hv => ?_, rfl⟩ (fun i σ G _ ⟨_, _, _, _, _, e, _⟩ => SqT.of e) ?_ ?_⟩
 ·have hm : n ∈ z0n had := by
   have : (Sum.inl n : Key) ∈ kvs.map (·.1) := List.mem_map.mpr ⟨_, hv, rfl⟩
   rw [kk2] at this
   obtain ⟨n', h, e⟩ := List.mem_map.mp this
   cases e
   exact h
  unfold z1j
  rw [if_pos (.inl hm)]
  exact Tell.keep s3 _ _ (tk2 n v hv)
 ·rintro i y σ G hy ⟨kvs, o2, o3, o4, sG, eaG, tG, edG, kk, tk, rfl⟩
  obtain ⟨n, a, b, en, rfl, ha, hb⟩ := y1n tG hy
  have hlk := List.mem_of_getElem? en
  have hin : n ∉ z0n had := (z1o.mp hlk).2.1
  have lk : kvs.length ≤ 120 := by
   have := congrArg List.length kk
   rw [List.length_map, List.length_map, List.length_append, List.length_take] at this
   omega
  have nin : n ∉ z0n had ++ (z16 (z0n had)).take i := fun h => by
   rcases List.mem_append.mp h with h | h
   ·exact hin h
   ·have := z2e (z0n had)
    rw [<- List.take_append_drop (i + 1) (z16 (z0n had)), z0l en] at this
    have := (List.pairwise_append.mp (List.pairwise_append.mp this).1).2.2 n h n (List.mem_singleton.mpr rfl)
    omega
  have nag : ag ≠ d := z4L eaG edG (by intro z; cases z)
  refine ⟨a, _, rfl, SqT.of ha, rfl, _, _, rfl, _, _, rfl, _, _, rfl, rfl, ?_⟩
  have fin : ∀ v, Tell G (optD (z1j (z0n had) rows r n)) v -> ∃ (kvs' : List (Key × V)) (o2 o3 o4 : Option V), Same H (upd G d (.dK (putK kvs (Sum.inl n) v))) /\ upd G d (.dK (putK kvs (Sum.inl n) v)) ag = some (.tup gz) /\ z08 (upd G d (.dK (putK kvs (Sum.inl n) v))) (z8L (z0n had) rows r) gz /\ upd G d (.dK (putK kvs (Sum.inl n) v)) d = some (.dK kvs') /\ kvs'.map (·.1) = (z0n had ++ (z16 (z0n had)).take (i + 1)).map Sum.inl /\ (∀ n' v', (Sum.inl n', v') ∈ kvs' -> Tell (upd G d (.dK (putK kvs (Sum.inl n) v))) (optD (z1j (z0n had) rows r n')) v') /\
    [some (V.ref x), some (.ref d), some (.int n), some (.int (z0X (z0n had) n r)), some (.ref b)] = [some (V.ref x), some (.ref d), o2, o3, o4] := fun v tv => by
   rw [z9u kk nin]
   refine ⟨_, _, _, _, z1z sG hd, by rw [z09 nag]; exact eaG, z08.over edG (fun _ z => by cases z) _ _ tG, z02, ?_, fun n' v' hv => ?_, rfl⟩
   ·rw [List.map_append, kk, z0l en, <- List.append_assoc, List.map_append (l₁ := z0n had ++ _)]
    rfl
   ·refine Tell.over edG (fun _ z => by cases z) _ _ ?_
    rcases List.mem_append.mp hv with h | h
    ·exact tk n' v' h
    ·rw [List.mem_singleton] at h
     cases h
     exact tv
  refine ⟨_, rfl, rfl, _, rfl, ?_⟩
  by_cases c : z0X (z0n had) n r = 0
  ·rw [decide_eq_true (congrArg V.int c)]
   refine iteT ⟨_, rfl, _, rfl, d, _, rfl, DPut.k (k := Sum.inl n) edG (z0d (by omega)), fin .non ?_⟩
   unfold z1j
   rw [if_neg (fun h => h.elim hin fun h => h c)]
   exact z9e
  ·rw [decide_eq_false (fun e => c (V.int.inj e))]
   refine iteF ⟨_, rfl, _, rfl, _, rfl, d, _, rfl, DPut.k (k := Sum.inl n) edG (z0d (by omega)), fin (.ref b) ?_⟩
   unfold z1j
   rw [if_pos (.inr c)]
   unfold z9K at hb
   rw [if_neg c] at hb
   exact z0E hb (by rw [List.length_map]; have := y4L R gn n; omega) (z1F _)
 rintro σ H4 ⟨kvs, p2, p3, p4, s4, _, _, ed4, kk4, tk4, rfl⟩
 rw [lgz, List.take_length] at kk4
 have hm60 : m ≤ 60 := by have := it.le (k := 60) (by decide) fun x hx => (h60 x hx).2; omega
 have knd : (z0n had ++ z16 (z0n had)).Nodup := List.nodup_append.mpr ⟨(z2T had).imp fun h => Int.ne_of_lt h, (z2e _).imp fun h => Int.ne_of_lt h, fun a ha b hb e => (z1o.mp hb).2.1 (e ▸ ha)⟩
 have kall : ∀ n ∈ z0n had ++ z16 (z0n had), 1 ≤ n /\ n ≤ 60 := fun n hn => by
  rcases List.mem_append.mp hn with h | h
  ·exact h60 n (z1w.mp h).2
  ·have := (z1o.mp h).1
   omega
 refine ⟨_, rfl, d, kvs, z0n had ++ z16 (z0n had), rfl, ed4, kk4, Nat.lt_of_le_of_lt (z8X knd kall) (by decide), fun ls ms hls hp hs => ?_⟩
 have ems : ms = upI 1 m := by
  rw [y1D knd kall hp hs]
  exact z9o h60 it
 subst ems
 have s5 := z01 hls (.lst ((upI 1 m).map V.int))
 have e5 : upd H4 ls (.lst ((upI 1 m).map V.int)) ls = some (.lst ((upI 1 m).map V.int)) := z02
 have ed5 := s5 _ _ ed4
 generalize upd H4 ls (.lst ((upI 1 m).map V.int)) = H5 at s5 e5 ed5
 refine ⟨ls, rfl, ⟨_, SqL.of e5⟩, ?_⟩
 refine z2P (xs := (upI 1 m).map V.int) (fun i ys G => G = H5 /\ z08 H5 (((upI 1 m).take i).map fun n => optD (z1j (z0n had) rows r n)) ys) ⟨rfl, by rw [List.take_zero]; exact .nil⟩ (fun i ys G hi hp => ?_) (fun i y ys G hy hp => ?_) (fun ys G hp => ?_)
 ·obtain ⟨rfl, t⟩ := hp
  refine ⟨SqL.of e5, z0d ?_⟩
  rw [t.length, List.length_map, List.length_take, z0H]
  omega
 ·obtain ⟨rfl, t⟩ := hp
  rw [List.getElem?_map] at hy
  obtain ⟨n, en, rfl⟩ := Option.map_eq_some_iff.mp hy
  have hn : n ∈ z0n had ++ z16 (z0n had) := by
   have := List.mem_of_getElem? en
   rw [<- z9o h60 it] at this
   exact (z1w.mp this).2
  obtain ⟨v, ev, mv⟩ := z60 kk4 hn
  refine ⟨_, rfl, _, rfl, d, v, rfl, (by rw [<- ev]; exact DGet.k (k := Sum.inl n) ed5), rfl, ?_⟩
  rw [z0l en, List.map_append]
  exact z08.snoc t (Tell.keep s5 _ _ (tk4 n v mv))
 ·obtain ⟨rfl, t⟩ := hp
  rw [List.length_map, List.take_length] at t
  intro D hD
  refine ⟨D, ys, rfl, .inl ⟨SqL.of z02, fun q hq => k _ _ (s4.trans (s5.trans ((z01 hD _).trans (z01 hq _)))) (z0E z02 ?_ (z08.keep ((z01 hD _).trans (z01 hq _)) _ _ ?_))⟩⟩
  ·rw [List.length_map, z1q]
   omega
  ·unfold z0x
   rw [List.map_map]
   exact t
def z2Z (c : List (List Str)) : DV := .tup (c.map nmsD)
theorem y3L {hs : List Int} {mx : Int} {m : Nat} (t : z4T hs m) (h60 : ∀ x ∈ hs, 1 ≤ x /\ x ≤ 60) (hm : mx ∈ hs ++ [0]) (top : ∀ y ∈ hs ++ [0], y ≤ mx) : mx = (m : Int) := by
 have h0 := top 0 (List.mem_append_right _ (List.mem_singleton.mpr rfl))
 rcases t.1 with q | ⟨q, q0⟩
 ·have h1 := top _ (List.mem_append_left _ q)
  rcases List.mem_append.mp hm with h | h
  ·have := t.2 mx h
   omega
  ·have := h60 _ q
   rw [List.mem_singleton] at h
   omega
 ·subst q
  rw [List.nil_append, List.mem_singleton] at hm
  omega
def z9y (K : PySem.W.Frag) : Sp := fun vs H Q _ => ∃ (p lr : Addr) (hs : List Int) (us : List V) (rows : List Row) (r : Int) (m : Nat), vs = [.ref p, .ref lr, .int r] /\ H p = some (.lst (hs.map V.int)) /\ (∀ x ∈ hs, 1 ≤ x /\ x ≤ 60) /\ hs.length ≤ 900 /\ (∀ x ∈ hs, x ≤ rows.length) /\
 SqL K H lr us /\ z08 H (rows.map rowD) us /\ (∀ w ∈ rows, w.length ≤ 12) /\ 0 ≤ r /\ z4T hs m /\ ∀ (l : Addr) (zs : List V) (H' : Hp), H l = none -> Same H H' -> H' l = some (.lst zs) -> z08 H' ((z0x m hs rows r).map optD) zs -> Q (.ref l) H'
theorem y0P (M : Bl mg) (F : Fun K "_law_known" "_law_known" z4j f fd) (G_law_teller : Cal P w K mg base 1 "_law_teller" z3y (z8s K)) : FnOk P w K mg base CX0 2 f fd z4B (z9y K) := by
 have nd := z5L.nd
 refine F.ok z5L (fun vs H Q E h => ?_) (fun cdv A outer s H vs Q E hr h => ?_)
 ·obtain ⟨p, lr, hs, us, rows, r, m, rfl, _⟩ := h
  rfl
 obtain ⟨p, lr, hs, us, rows, r, m, rfl, hP, hall, hlen, hup, hR, tl, h12, r0, it, q⟩ := h
 refine ⟨_, (z03 (z0m (i := 3) nd rfl (Or.inl rfl) (z1N z04)) (z03 (z1g PassesOwn.never rfl (z4D rfl M.range (z00 z07 (z00 (z0p z1s (z0c (z8f rfl) rfl M.max PyProof.Rows.boot_max (z00 (z0p y3w (pv 0) (z1N (z00 z07 z04))) z04)) z07) z04))) (z0j (i := 4) nd rfl (Or.inl rfl)) (z05 (z0P (PW.pt (z4W (z0e z8G (pv 4) (pv 0) (by with_unfolding_all rfl)) (z2t (z0e z4b (z0o G_law_teller (rm hr) rfl (z00 (pv 0) (z00 (pv 4) (z00 (pv 2) z04)))) z07 (z0v _))))) (z05 (z0y (z2V PySem.F.plainAttrs_list PySem.F.slot_list_append PySem.F.type_list_append z0I (pv 3) (z00 (z0t z0s rfl M.tuple PyProof.Rows.boot_tuple (z00 (z1p ["_law_row_here"] [] [] rfl (z0u rfl (by decide +kernel) rfl (by decide +kernel) rfl rfl) (z3F (z0Z z0B (pv 1) (z0p z4H (pv 4) z07) (fun _ _ => rfl))) (fun _ _ _ _ _ => (z0j (i := 0) (show ((["_law_row_here"] : List PySem.Str) ++ ([] : List PySem.Str)).Nodup from by decide +kernel) rfl (Or.inl rfl))) (z0w (by decide)) z0b (fun _ _ _ _ _ => z1B) (fun _ _ _ _ _ => (z0Z (r := rIxT K) z3u (pv 0) z07 (fun _ _ => rfl)))) z04)) z04)))) (z05 (z0y (z2V PySem.F.plainAttrs_list PySem.F.slot_list_append PySem.F.type_list_append z0I (pv 3) (z00 y2h z04))))))) (z05 (z0k (pv 3))))), ?_⟩
 refine ⟨(by show 0 ≤ sizeLine; decide), fun l hl => ?_⟩
 have s1 := z01 hl (.lst [])
 refine ⟨_, rfl, (by show 1 ≤ sizeLine; decide), fun l0 hl0 => ⟨p, l0, _, _, rfl, rfl, z01 hl0 _ _ _ (s1 _ _ hP), z02, ?_, fun lc hlc => ?_⟩⟩
 ·rw [List.length_map]
  exact Nat.le_of_lt (z0d (by show hs.length + 1 ≤ 1000; omega))
 have s2 := s1.trans ((z01 hl0 (.lst [V.int 0])).trans (z01 hlc (.lst (hs.map V.int ++ [V.int 0]))))
 have eg : upd (upd (upd H l (.lst [])) l0 (.lst [V.int 0])) lc (.lst (hs.map V.int ++ [V.int 0])) l = some (.lst []) := (z01 hl0 _).trans (z01 hlc _) _ _ z02
 have ec : upd (upd (upd H l (.lst [])) l0 (.lst [V.int 0])) lc (.lst (hs.map V.int ++ [V.int 0])) lc = some (.lst ((hs ++ [0]).map V.int)) := by
  rw [z02, List.map_append]
  rfl
 generalize upd (upd (upd H l (.lst [])) l0 (.lst [V.int 0])) lc (.lst (hs.map V.int ++ [V.int 0])) = H2 at s2 eg ec
 refine ⟨lc, hs ++ [0], rfl, .inl (SqL.of ec), by simp, fun mx hmx top => ?_⟩
 have emx := y3L it hall hmx top
 subst emx
 have mr : (m : Int) ≤ rows.length := it.le (by omega) hup
 have m60 : m ≤ 60 := by have := it.le (k := 60) (by decide) fun x hx => (hall x hx).2; omega
 refine ⟨_, _, rfl, rfl, 1, (m : Int) + 1, rfl, ⟨by decide, by decide, by omega, by omega⟩, ?_⟩
 have kat : ∀ i : Nat, i < m -> (z0x m hs rows r)[i]? = some (z1j hs rows r (1 + (i : Int))) := fun i hi => by
  unfold z0x
  rw [List.getElem?_map, show (upI 1 m)[i]? = some (1 + (i : Int)) by unfold upI; rw [List.getElem?_map, List.getElem?_range hi]; rfl]
  rfl
 refine z1y (lo := 1) (n := ((m : Int) + 1 - 1).toNat) (fun i σ G => ∃ (zs : List V) (o4 : Option V), Same H G /\ G l = some (.lst zs) /\ z08 G (((z0x m hs rows r).take i).map optD) zs /\ σ = [some (.ref p), some (.ref lr), some (.int r), some (.ref l), o4]) ⟨[], none, s2, eg, by rw [List.take_zero]; exact .nil, rfl⟩ (fun i σ G hi hp => ?_) (fun σ G hp => ?_)
 ·obtain ⟨zs, o4, g, eG, tG, rfl⟩ := hp
  have him : i < m := by omega
  have lz : zs.length ≤ i := by
   rw [tG.length, List.length_map, List.length_take]
   omega
  refine ⟨_, rfl, _, rfl, p, _, rfl, .inl (SqL.of (g _ _ hP)), rfl, z3H hs, _, rfl, ?_⟩
  rw [if_neg Bool.false_ne_true, z4X]
  have fin : ∀ {G1 : Hp} (v : V), Same G G1 -> Tell G1 (optD (z1j hs rows r (1 + (i : Int)))) v -> Same H (upd G1 l (.lst (zs ++ [v]))) /\ upd G1 l (.lst (zs ++ [v])) l = some (.lst (zs ++ [v])) /\ z08 (upd G1 l (.lst (zs ++ [v]))) (((z0x m hs rows r).take (i + 1)).map optD) (zs ++ [v]) := fun {G1} v s3 tv => by
   refine ⟨z1z (g.trans s3) hl, z02, ?_⟩
   rw [z0l (kat i him), List.map_append]
   exact z08.over (s3 _ _ eG) z9f _ _ (z08.snoc (z08.keep s3 _ _ tG) tv)
  have sz : zs.length < sizeLine := z0d (by omega)
  by_cases c : (1 : Int) + (i : Int) ∈ hs
  ·rw [decide_eq_true c]
   have ek : z1j hs rows r (1 + (i : Int)) = some (z0z (z0O rows (1 + (i : Int)))) := by
    unfold z1j
    rw [if_pos (.inl c)]
   rw [ek] at fin
   refine iteT ?_
   have s3 : Same G G := Same.refl _
   obtain ⟨v, _, av, tv⟩ := z8t (z08.keep (g.trans s3) _ _ tl) (k := 1 + (i : Int)) (by omega) (by omega)
   obtain ⟨ar, xs, rfl, er, _, tp⟩ := z0f tv
   have lw : xs.length = (z0O rows (1 + (i : Int))).length := by rw [tp.length, List.length_map]
   have w12 := z82 h12 (1 + (i : Int))
   refine ⟨_, rfl, .inl ⟨rfl, _, SqL.of (s3 _ _ eG)⟩, _, rfl, _, rfl, _, _, rfl, rfl, lr, us, _, _, rfl, rfl, (g.trans s3).seq hR, av, ar, rfl, ⟨_, SqT.of er⟩, ?_⟩
   refine z21 (xs := xs) (fun j ys H2 => H2 = G /\ ys = ((z0z (z0O rows (1 + (i : Int)))).take j).map V.str) ⟨rfl, rfl⟩ (fun j ys H2 hj hp => ?_) (fun j y ys H2 hy hp => ?_) (fun ys H2 hp => ?_)
   ·obtain ⟨rfl, rfl⟩ := hp
    refine ⟨SqT.of er, z0d ?_⟩
    rw [List.length_map, List.length_take]
    omega
   ·obtain ⟨rfl, rfl⟩ := hp
    obtain ⟨pq, b, e1, rfl, e2⟩ := z3f tp j y hy
    refine ⟨_, rfl, b, _, 0, _, rfl, rfl, SqT.of e2, rfl, rfl, ?_⟩
    have e3 : (z0z (z0O rows (1 + (i : Int))))[j]? = some pq.1 := by
     unfold z0z
     rw [List.getElem?_map, e1]
     rfl
    rw [z0l e3, List.map_append]
    rfl
   obtain ⟨rfl, rfl⟩ := hp
   have ll : (z0z (z0O rows (1 + (i : Int)))).take xs.length = z0z (z0O rows (1 + (i : Int))) := List.take_of_length_le (by unfold z0z; rw [List.length_map]; omega)
   rw [ll]
   intro D hD
   refine ⟨D, _, rfl, .inl ⟨SqL.of z02, fun t ht => ?_⟩⟩
   have s4 := s3.trans ((z01 hD (.lst ((z0z (z0O rows (1 + (i : Int)))).map V.str))).trans (z01 ht (.tup ((z0z (z0O rows (1 + (i : Int)))).map V.str))))
   obtain ⟨f1, f2, f3⟩ := fin (.ref t) s4 (z0E z02 (by unfold z0z; rw [List.length_map, List.length_map]; omega) (z1F _))
   exact ⟨l, zs, _, rfl, rfl, s4 _ _ eG, sz, _, _, f1, f2, f3, rfl⟩
  ·rw [decide_eq_false c]
   refine iteF ⟨_, rfl, _, rfl, _, rfl, p, hs, 1 + (i : Int), r, rfl, SqL.of (g _ _ hP), hall, hlen, r0, fun G3 s3 => ⟨_, _, rfl, rfl, _, rfl, ?_⟩⟩
   have t0 := z8n (ns := hs) (n := 1 + (i : Int)) (r := r)
   by_cases c2 : 0 < z0X hs (1 + (i : Int)) r
   ·rw [decide_eq_true c2]
    have ek : z1j hs rows r (1 + (i : Int)) = some (z0z (z0O rows (1 + (i : Int)))) := by
     unfold z1j
     rw [if_pos (.inr (by omega))]
    rw [ek] at fin
    refine iteT ?_
    obtain ⟨v, _, av, tv⟩ := z8t (z08.keep (g.trans s3) _ _ tl) (k := 1 + (i : Int)) (by omega) (by omega)
    obtain ⟨ar, xs, rfl, er, _, tp⟩ := z0f tv
    have lw : xs.length = (z0O rows (1 + (i : Int))).length := by rw [tp.length, List.length_map]
    have w12 := z82 h12 (1 + (i : Int))
    refine ⟨_, rfl, .inl ⟨rfl, _, SqL.of (s3 _ _ eG)⟩, _, rfl, _, rfl, _, _, rfl, rfl, lr, us, _, _, rfl, rfl, (g.trans s3).seq hR, av, ar, rfl, ⟨_, SqT.of er⟩, ?_⟩
    refine z21 (xs := xs) (fun j ys H2 => H2 = G3 /\ ys = ((z0z (z0O rows (1 + (i : Int)))).take j).map V.str) ⟨rfl, rfl⟩ (fun j ys H2 hj hp => ?_) (fun j y ys H2 hy hp => ?_) (fun ys H2 hp => ?_)
    ·obtain ⟨rfl, rfl⟩ := hp
     refine ⟨SqT.of er, z0d ?_⟩
     rw [List.length_map, List.length_take]
     omega
    ·obtain ⟨rfl, rfl⟩ := hp
     obtain ⟨pq, b, e1, rfl, e2⟩ := z3f tp j y hy
     refine ⟨_, rfl, b, _, 0, _, rfl, rfl, SqT.of e2, rfl, rfl, ?_⟩
     have e3 : (z0z (z0O rows (1 + (i : Int))))[j]? = some pq.1 := by
      unfold z0z
      rw [List.getElem?_map, e1]
      rfl
     rw [z0l e3, List.map_append]
     rfl
    obtain ⟨rfl, rfl⟩ := hp
    have ll : (z0z (z0O rows (1 + (i : Int)))).take xs.length = z0z (z0O rows (1 + (i : Int))) := List.take_of_length_le (by unfold z0z; rw [List.length_map]; omega)
    rw [ll]
    intro D hD
    refine ⟨D, _, rfl, .inl ⟨SqL.of z02, fun t ht => ?_⟩⟩
    have s4 := s3.trans ((z01 hD (.lst ((z0z (z0O rows (1 + (i : Int)))).map V.str))).trans (z01 ht (.tup ((z0z (z0O rows (1 + (i : Int)))).map V.str))))
    obtain ⟨f1, f2, f3⟩ := fin (.ref t) s4 (z0E z02 (by unfold z0z; rw [List.length_map, List.length_map]; omega) (z1F _))
    exact ⟨l, zs, _, rfl, rfl, s4 _ _ eG, sz, _, _, f1, f2, f3, rfl⟩
   ·rw [decide_eq_false c2]
    have ek : z1j hs rows r (1 + (i : Int)) = none := by
     unfold z1j
     rw [if_neg (fun h => h.elim c fun h => h (by omega))]
    rw [ek] at fin
    obtain ⟨f1, f2, f3⟩ := fin .non s3 z9e
    exact iteF ⟨_, rfl, .inl ⟨rfl, _, SqL.of (s3 _ _ eG)⟩, l, zs, _, rfl, rfl, s3 _ _ eG, sz, _, _, f1, f2, f3, rfl⟩
 ·obtain ⟨zs, o4, g, eG, tG, rfl⟩ := hp
  rw [List.take_of_length_le (by rw [z1q]; omega)] at tG
  exact ⟨_, rfl, q l zs _ hl g eG tG⟩
def OkO (nm : List Str) (o : Option (List Str)) (zs : List Str) : Prop := zs.Sublist nm /\ ∀ ws, o = some ws -> zs = ws
def z4n (nm : List Str) (ks : List (Option (List Str))) (c : List (List Str)) : Prop := c.length = ks.length /\ ∀ (i : Nat) (o : Option (List Str)) (zs : List Str), ks[i]? = some o -> c[i]? = some zs -> OkO nm o zs
theorem z7X {nm : List Str} (nd : nm.Nodup) {i : Nat} (h : i < nm.length) : nm.idxOf nm[i] = i := by
 have h1 : nm.idxOf nm[i] < nm.length := List.idxOf_lt_length_of_mem (List.getElem_mem h)
 have h2 : nm[nm.idxOf nm[i]] = nm[i] := List.getElem_idxOf h1
 have pw := List.pairwise_iff_getElem.mp nd
 rcases Nat.lt_trichotomy (nm.idxOf nm[i]) i with c | c | c
 ·exact absurd h2 (pw _ _ h1 h c)
 ·exact c
 ·exact absurd h2.symm (pw _ _ h h1 c)
theorem y0F {nm zs : List Str} (nd : nm.Nodup) (hin : ∀ z ∈ zs, z ∈ nm) : (zs.map fun z => nm.idxOf z).Pairwise (· < ·) ↔ zs.Sublist nm := by
 constructor
 ·intro h
  have e : zs = (zs.attach.map fun z => (⟨nm.idxOf z.1, List.idxOf_lt_length_of_mem (hin z.1 z.2)⟩ : Fin nm.length)).map fun i => nm[i] := by
   rw [List.map_map]
   refine (List.ext_getElem (by rw [List.length_map, List.length_attach]) fun i h1 h2 => ?_)
   rw [List.getElem_map, List.getElem_attach]
   exact (List.getElem_idxOf _).symm
  rw [e]
  refine List.map_getElem_sublist ?_
  rw [List.pairwise_map] at h ⊢
  rw [List.pairwise_iff_getElem] at h ⊢
  intro i j hi hj hij
  rw [List.length_attach] at hi hj
  have := h i j hi hj hij
  rw [List.getElem_attach, List.getElem_attach]
  exact this
 ·intro h
  obtain ⟨is, rfl, hp⟩ := List.sublist_eq_map_getElem h
  rw [List.map_map, List.pairwise_map]
  refine hp.imp fun {a b} hab => ?_
  show nm.idxOf nm[a] < nm.idxOf nm[b]
  have ha : nm.idxOf nm[a] = a.1 := z7X nd a.2
  have hb : nm.idxOf nm[b] = b.1 := z7X nd b.2
  rw [ha, hb]
  exact hab
theorem y26 {nm : List Str} {z : Str} (h : z ∈ nm) : nm[nm.idxOf z]? = some z /\ ∀ m, m < nm.idxOf z -> nm[m]? ≠ some z := by
 have h1 := List.idxOf_lt_length_of_mem h
 refine ⟨by rw [List.getElem?_eq_getElem h1, List.getElem_idxOf h1], fun m hm e => ?_⟩
 have hm' : m < nm.length := by omega
 rw [List.getElem?_eq_getElem hm'] at e
 have e' := Option.some.inj e
 have hf : (nm[m] == z) = false := List.not_of_lt_findIdx (p := (· == z)) (xs := nm) hm
 rw [e', beq_self_eq_true] at hf
 cases hf
theorem y1X {ps : List Nat} {j : Nat} (h : (ps.take (j + 1)).Pairwise (· < ·)) {a b : Nat} (ha : ps[j]? = some a) (hb : ps[j + 1]? = some b) (hab : a < b) : (ps.take (j + 1 + 1)).Pairwise (· < ·) := by
 rw [z0l hb]
 refine List.pairwise_append.mpr ⟨h, List.pairwise_singleton _ _, fun x hx y hy => ?_⟩
 rw [List.mem_singleton.mp hy]
 rw [z0l ha] at h hx
 rcases List.mem_append.mp hx with hx | hx
 ·have := (List.pairwise_append.mp h).2.2 x hx a (List.mem_singleton.mpr rfl)
  omega
 ·rw [List.mem_singleton.mp hx]
  exact hab
theorem z5i (a b : List Str) : z2j (a.map V.str) (b.map V.str) = decide (a = b) := by
 induction a generalizing b with
 | nil =>
  cases b with
  | nil => rfl
  | cons y b => exact (decide_eq_false (fun e => nomatch e)).symm
 | cons x a ih =>
  cases b with
  | nil => exact (decide_eq_false (fun e => nomatch e)).symm
  | cons y b =>
   show (x == y && z2j (a.map V.str) (b.map V.str)) = decide (x :: a = y :: b)
   rw [ih, Bool.eq_iff_iff, Bool.and_eq_true, decide_eq_true_eq, decide_eq_true_eq, beq_iff_eq, List.cons.injEq]
def z9R (K : PySem.W.Frag) : Sp := fun vs H Q _ => ∃ (v : V) (ln lk : Addr) (c : List (List Str)) (nm : List Str) (ks : List (Option (List Str))) (xs : List V), vs = [v, .ref ln, .ref lk] /\ Tell H (z2Z c) v /\ (∀ zs ∈ c, zs.length ≤ 100) /\ SqL K H ln (nm.map V.str) /\ nm.Nodup /\ nm.length ≤ 12 /\ SqL K H lk xs /\ z08 H (ks.map optD) xs /\ ks.length ≤ 100 /\
 (z4n nm ks c -> ∀ H', Same H H' -> Q (.bl true) H') /\ (¬ z4n nm ks c -> ∀ H', Same H H' -> Q (.bl false) H')
theorem z0K {H : Hp} : ∀ {l : List Str} {xs : List V}, z08 H (l.map DV.str) xs -> xs = l.map V.str
 | [], _, h => z0S h
 | i :: r, _, h => by
  obtain ⟨x, t, rfl, h1, h2⟩ := z0g h
  rw [z3G h1, z0K h2]
  rfl
theorem y01 (M : Bl mg) (F : Fun K "_law_course" "_law_course" z3A f fd) : FnOk P w K mg base CX0 1 f fd z3w (z9R K) := by
 have nd := z4M.nd
 refine F.ok z4M (fun vs H Q E h => ?_) (fun cdv A outer s H vs Q E hr h => ?_)
 ·obtain ⟨v, ln, lk, c, nm, ks, xs, rfl, _⟩ := h
  rfl
 obtain ⟨v, ln, lk, c, nm, ks, xs, rfl, tc, c100, hN, ndn, n12, hK, tk, k100, qt, qf⟩ := h
 refine ⟨_, (z03 (z0P (PW.pt (z4W (z6Z (z3W (z0c z1S rfl M.isinstance PyProof.Rows.boot_isinstance (z00 (pv 0) (z00 (z5n (v := .ty "tuple") rfl M.tuple PyProof.Rows.boot_tuple rfl) z04))))) (z2t (z0e y0I (z0c z0a rfl M.len PySem.boot_len (z00 (pv 0) z04)) (z0c z0a rfl M.len PySem.boot_len (z00 (pv 2) z04)) (z0v _))))) (z05 (z0k z4f)) z0r) (z03 (z1g PassesOwn.never rfl (z17 rfl M.range (z00 (z0c z0a rfl M.len PySem.boot_len (z00 (pv 2) z04)) z04)) (z0j (i := 3) nd rfl (Or.inl rfl)) (z03 (z0P (z6Z (z3W (z0c z1S rfl M.isinstance PyProof.Rows.boot_isinstance (z00 (z0Z z3u (pv 0) (pv 3) (fun _ _ => rfl)) (z00 (z5n (v := .ty "tuple") rfl M.tuple PyProof.Rows.boot_tuple rfl) z04))))) (z05 (z0k z4f)) z0r) (z03 (z0m (i := 4) nd rfl (Or.inl rfl) (z1N z04)) (z03 (z1g PassesOwn.never rfl (z3F (z0Z z3u (pv 0) (pv 3) (fun _ _ => rfl))) (z0j (i := 5) nd rfl (Or.inl rfl)) (z03 (z0P (PW.pt (z4W (z6Z (z3W (z0c z1S rfl M.isinstance PyProof.Rows.boot_isinstance (z00 (pv 5) (z00 (z5n (v := .ty "str") rfl M.str PyProof.Rows.boot_str rfl) z04))))) (z2t (z0e z1E (pv 5) (pv 1) (by with_unfolding_all rfl))))) (z05 (z0k z4f)) z0r) (z05 (z0y (z2V PySem.F.plainAttrs_list PySem.F.slot_list_append PySem.F.type_list_append z0I (pv 4) (z00 (z2V PySem.F.plainAttrs_list PySem.F.slot_list_index PySem.F.type_list_index y0N (pv 1) (z00 (pv 5) z04)) z04)))))) (z03 (z1g PassesOwn.never rfl (z4D rfl M.range (z00 z07 (z00 (z0c z0a rfl M.len PySem.boot_len (z00 (pv 4) z04)) z04))) (z0j (i := 6) nd rfl (Or.inl rfl)) (z05 (z0P (z0e y38 (z0Z z0B (pv 4) (z0p z4H (pv 6) z07) (fun _ _ => rfl)) (z0Z z0B (pv 4) (pv 6) (fun _ _ => rfl)) (z0v _)) (z05 (z0k z4f)) z0r))) (z05 (z0P (PW.pt (z8o (z7c (y4E (z0Z z0B (pv 2) (pv 3) (fun _ _ => rfl)))) (z6i (z0e (y4Q hr.units0) (z0Z z3u (pv 0) (pv 3) (fun _ _ => rfl)) (z0Z z0B (pv 2) (pv 3) (fun _ _ => rfl)) (z0v _))))) (z05 (z0k z4f)) z0r))))))) (z05 (z0k z4f)))), ?_⟩
 obtain ⟨a, us, rfl, ea, _, tu⟩ := z0f (show Tell H (.tup (c.map nmsD)) v from tc)
 have lus : us.length = c.length := by rw [tu.length, List.length_map]
 have lxs : xs.length = ks.length := by rw [tk.length, List.length_map]
 refine ⟨_, rfl, _, _, _, _, rfl, .tup ea, y1I, _, rfl, iteF ⟨_, rfl, a, _, rfl, .inr (SqT.of ea), _, rfl, lk, _, rfl, .inl hK, rfl, _, rfl, ?_⟩⟩
 by_cases cl : c.length = ks.length
 case neg =>
  rw [decide_eq_false (fun e => cl (by injection e with e; omega))]
  exact iteT (qf (fun h => cl h.1) H (Same.refl _))
 rw [decide_eq_true (by rw [lus, lxs, cl])]
 refine iteF ?_
 refine ⟨_, rfl, lk, xs, rfl, .inl hK, _, rfl, by omega, by omega, ?_⟩
 refine z1y (lo := 0) (n := ((xs.length : Nat) : Int).toNat) (fun i σ G => ∃ (o3 o4 o5 o6 : Option V), Same H G /\ (∀ (j : Nat) (o : Option (List Str)) (zs : List Str), j < i -> ks[j]? = some o -> c[j]? = some zs -> OkO nm o zs) /\ σ = [some (.ref a), some (.ref ln), some (.ref lk), o3, o4, o5, o6]) ⟨_, _, _, _, Same.refl _, fun _ _ _ h => absurd h (Nat.not_lt_zero _), rfl⟩ (fun i σ G hi hp => ?_) (fun σ G hp => ?_)
 ·obtain ⟨o3, o4, o5, o6, g, done, rfl⟩ := hp
  have hic : i < c.length := by omega
  have hik : i < ks.length := by omega
  have ei : (0 : Int) + (i : Int) = (i : Int) := Int.zero_add _
  have eci : c[i]? = some c[i] := List.getElem?_eq_getElem hic
  have eki : ks[i]? = some ks[i] := List.getElem?_eq_getElem hik
  have hz100 := c100 c[i] (List.getElem_mem hic)
  generalize c[i] = zs at eci hz100
  generalize ks[i] = o at eki
  obtain ⟨u, eu, tu1⟩ := tu.get i (nmsD zs) (by rw [List.getElem?_map, eci]; rfl)
  obtain ⟨b, ws, rfl, eb, _, tb⟩ := z0f (show Tell H (.tup (zs.map DV.str)) u from tu1)
  have ews := z0K tb
  subst ews
  obtain ⟨x, ex, tx⟩ := tk.get i (optD o) (by rw [List.getElem?_map, eki]; rfl)
  have atu : atI us ((0 : Int) + (i : Int)) = some (.ref b) := by rw [ei]; exact z0J eu
  have atx : atI xs ((0 : Int) + (i : Int)) = some x := by rw [ei]; exact z0J ex
  have bad : ¬ OkO nm o zs -> ¬ z4n nm ks c := fun h q => h (q.2 i o zs eki eci)
  refine ⟨_, rfl, _, rfl, a, _, _, _, rfl, rfl, SqT.of (g _ _ ea), atu, _, _, _, _, rfl, .tup (g _ _ eb), y1I, _, rfl, iteF ?_⟩
  refine ⟨(by show 0 ≤ sizeLine; decide), fun lp hlp => ?_⟩
  have s1 := g.trans (z01 hlp (.lst []))
  have e1 : upd G lp (.lst []) lp = some (.lst []) := z02
  have nlp : H lp = none := g.free hlp
  generalize upd G lp (.lst []) = G1 at s1 e1
  refine ⟨_, rfl, _, rfl, a, _, _, _, rfl, rfl, SqT.of (s1 _ _ ea), atu, b, rfl, ⟨_, SqT.of (s1 _ _ eb)⟩, z7I (K := K) (a := b) (xs := zs.map V.str) (fun j σ G2 => ∃ (o5 : Option V), Same H G2 /\ (∀ z ∈ zs.take j, z ∈ nm) /\ G2 lp = some (.lst ((zs.take j).map fun z => V.int (nm.idxOf z : Nat))) /\ σ = [some (.ref a), some (.ref ln), some (.ref lk), some (.int (0 + (i : Int))), some (.ref lp), o5, o6]) ⟨_, s1, (fun z hz => by rw [List.take_zero] at hz; cases hz), by rw [List.take_zero]; exact e1, rfl⟩ (fun j σ G2 _ ⟨_, g2, _⟩ => SqT.of (g2 _ _ eb)) ?_ ?_⟩
  ·rintro j y σ G2 hy ⟨o5, g2, hin, ep, rfl⟩
   rw [List.getElem?_map] at hy
   obtain ⟨z, ez, rfl⟩ := Option.map_eq_some_iff.mp hy
   refine ⟨_, rfl, _, _, _, _, rfl, z8W rfl, z4S "str" (.inr (.inr (.inr rfl))) rfl, _, rfl, iteF ⟨_, rfl, _, rfl, ln, _, rfl, .inl (g2.seq hN), rfl, z13 nm, _, rfl, ?_⟩⟩
   rw [if_pos rfl, z9H]
   by_cases hz : z ∈ nm
   ·rw [decide_eq_true hz]
    obtain ⟨f1, f2⟩ := y26 hz
    refine iteF ⟨_, rfl, .inl ⟨rfl, _, SqL.of ep⟩, _, rfl, .inl ⟨rfl, _, g2.seq hN⟩, _, rfl, ln, nm, z, nm.idxOf z, rfl, rfl, g2.seq hN, f1, f2, lp, _, _, rfl, rfl, ep, z0d (by rw [List.length_map, List.length_take]; omega), ?_⟩
    refine ⟨_, z1z g2 nlp, fun z' hz' => ?_, ?_, rfl⟩
    ·rw [z0l ez] at hz'
     rcases List.mem_append.mp hz' with h | h
     ·exact hin z' h
     ·rw [List.mem_singleton.mp h]
      exact hz
    ·rw [z02, z0l ez, List.map_append]
     rfl
   ·rw [decide_eq_false hz]
    exact iteT (qf (bad fun h => hz (h.1.subset (List.mem_of_getElem? ez))) _ g2)
  rintro σ G2 ⟨o5, g2, hin, ep, rfl⟩
  rw [List.length_map, List.take_length] at hin ep
  have lps : (zs.map fun z => V.int (nm.idxOf z : Nat)).length = zs.length := List.length_map _
  have pat : ∀ (j : Nat) (hj : j < zs.length), atI (zs.map fun z => V.int (nm.idxOf z : Nat)) (j : Int) = some (V.int (nm.idxOf zs[j] : Nat)) := fun j hj => z0J (by rw [List.getElem?_map, List.getElem?_eq_getElem hj]; rfl)
  have ipt : ∀ (j : Nat) (hj : j < zs.length), (zs.map fun z => nm.idxOf z)[j]? = some (nm.idxOf zs[j]) := fun j hj => by rw [List.getElem?_map, List.getElem?_eq_getElem hj]; rfl
  refine ⟨_, rfl, lp, _, rfl, .inl (SqL.of ep), 1, _, rfl, ⟨by decide, by decide, by omega, by omega⟩, ?_⟩
  refine z1y (lo := 1) (n := ((((zs.map fun z => V.int (nm.idxOf z : Nat)).length : Nat) : Int) - 1).toNat) (fun j σ G3 => ∃ (o6 : Option V), G3 = G2 /\ ((zs.map fun z => nm.idxOf z).take (j + 1)).Pairwise (· < ·) /\ σ = [some (.ref a), some (.ref ln), some (.ref lk), some (.int (0 + (i : Int))), some (.ref lp), o5, o6]) ⟨_, rfl, ?_, rfl⟩ (fun j σ G3 hj hp => ?_) (fun σ G3 hp => ?_)
  ·cases zs with
   | nil => exact .nil
   | cons z r => exact List.pairwise_singleton _ _
  ·obtain ⟨o6', rfl, pw, rfl⟩ := hp
   have hj1 : j + 1 < zs.length := by rw [lps] at hj; omega
   have e1 : (1 : Int) + (j : Int) - 1 = ((j : Nat) : Int) := by omega
   have e2 : (1 : Int) + (j : Int) = ((j + 1 : Nat) : Int) := by omega
   refine ⟨_, rfl, _, rfl, _, _, rfl, rfl, lp, _, _, _, rfl, rfl, SqL.of ep, (by rw [e1]; exact pat j (by omega)), _, rfl, _, rfl, lp, _, _, _, rfl, rfl, SqL.of ep, (by rw [e2]; exact pat (j + 1) hj1), _, _, rfl, rfl, _, rfl, ?_⟩
   by_cases hlt : nm.idxOf zs[j] < nm.idxOf zs[j + 1]
   ·rw [decide_eq_false (by omega)]
    exact iteF ⟨_, rfl, y1X pw (ipt j (by omega)) (ipt (j + 1) hj1) hlt, rfl⟩
   ·rw [decide_eq_true (by omega)]
    refine iteT (qf (bad fun h => hlt ?_) _ g2)
    have := (y0F ndn hin).mpr h.1
    rw [List.pairwise_map, List.pairwise_iff_getElem] at this
    exact this j (j + 1) (by omega) hj1 (by omega)
  obtain ⟨o6', rfl, pw, rfl⟩ := hp
  have sub : zs.Sublist nm := by
   refine (y0F ndn hin).mp ?_
   rw [List.take_of_length_le (by rw [List.length_map]; rw [lps]; omega)] at pw
   exact pw
  have more : OkO nm o zs -> ∀ (j : Nat) (o : Option (List Str)) (zs : List Str), j < i + 1 -> ks[j]? = some o -> c[j]? = some zs -> OkO nm o zs := fun h j o' zs' hj h1 h2 => by
   by_cases e : j = i
   ·subst e
    rw [eki] at h1
    rw [eci] at h2
    cases h1
    cases h2
    exact h
   ·exact done j o' zs' (by omega) h1 h2
  refine ⟨_, rfl, _, rfl, lk, _, _, _, rfl, rfl, g2.seq hK, atx, ?_⟩
  cases o with
  | none =>
   have ex' : x = .non := by
    unfold optD Tell at tx
    exact tx
   subst ex'
   exact ⟨_, rfl, iteF (iteF ⟨_, _, _, _, g2, more ⟨sub, fun _ h => by cases h⟩, rfl⟩)⟩
  | some ws =>
   obtain ⟨b2, vs2, rfl, eb2, _, tb2⟩ := z0f (show Tell H (.tup (ws.map DV.str)) x from tx)
   have ews := z0K tb2
   subst ews
   refine ⟨_, rfl, iteT ⟨_, rfl, _, rfl, a, _, _, _, rfl, rfl, SqT.of (g2 _ _ ea), atu, _, rfl, _, rfl, lk, _, _, _, rfl, rfl, g2.seq hK, atx, b, b2, _, _, rfl, rfl, SqT.of (g2 _ _ eb), SqT.of (g2 _ _ eb2), z13 zs, z13 ws, _, rfl, ?_⟩⟩
   by_cases e : zs = ws
   ·subst e
    rw [z5b (z13 zs)]
    exact iteF ⟨_, _, _, _, g2, more ⟨sub, fun _ h => by cases h; rfl⟩, rfl⟩
   ·rw [z5i, decide_eq_false e]
    exact iteT (qf (bad fun h => e (h.2 ws rfl)) _ g2)
 ·obtain ⟨o3, o4, o5, o6, g, done, rfl⟩ := hp
  refine qt ⟨cl, fun i o zs h1 h2 => done i o zs ?_ h1 h2⟩ _ g
  have := (List.getElem?_eq_some_iff.mp h1).1
  omega
theorem y0S {nm : List Str} {rows : List Row} (R : Rws nm rows) (n : Int) : (z0z (z0O rows n)).Sublist nm := by
 unfold z0O z0z
 rw [List.getD_eq_getElem?_getD]
 cases e : rows[(n - 1).toNat]? with
 | none => exact List.nil_sublist _
 | some w => exact R.sub w (List.mem_of_getElem? e)
theorem z7G {m : Nat} {hs : List Int} {rows : List Row} {r : Int} {i : Nat} {o : Option (List Str)} (h : (z0x m hs rows r)[i]? = some o) : i < m /\ o = z1j hs rows r (1 + (i : Int)) := by
 have hi := (List.getElem?_eq_some_iff.mp h).1
 rw [z1q] at hi
 refine ⟨hi, ?_⟩
 unfold z0x at h
 rw [List.getElem?_map, show (upI 1 m)[i]? = some (1 + (i : Int)) by unfold upI; rw [List.getElem?_map, List.getElem?_range hi]; rfl] at h
 exact (Option.some.inj h).symm
theorem z4g {hs : List Int} {rows : List Row} {r n : Int} {ws : List Str} (h : z1j hs rows r n = some ws) : ws = z0z (z0O rows n) /\ (n ∈ hs \/ z0X hs n r ≠ 0) := by
 unfold z1j at h
 split at h
 ·rename_i c
  exact ⟨(Option.some.inj h).symm, c⟩
 ·cases h
theorem z9Y {nm zs : List Str} (nd : nm.Nodup) : zs.Sublist nm ↔ zs = nm.filter fun z => decide (z ∈ zs) := by
 constructor
 ·intro h
  induction h with
  | slnil => rfl
  | cons a h ih =>
   rw [List.nodup_cons] at nd
   rw [List.filter_cons, if_neg (fun z => nd.1 (h.subset (of_decide_eq_true z)))]
   exact ih nd.2
  | cons_cons a h ih =>
   rename_i l1 l2
   rw [List.nodup_cons] at nd
   rw [List.filter_cons, if_pos (decide_eq_true List.mem_cons_self)]
   congr 1
   refine (ih nd.2).trans (List.filter_congr fun z hz => ?_)
   rw [decide_eq_decide, List.mem_cons]
   exact ⟨.inr, fun h => h.elim (fun e => absurd (e ▸ hz) nd.1) id⟩
 ·intro h
  rw [h]
  exact List.filter_sublist
def z9F (K : PySem.W.Frag) : Sp := fun vs H Q _ => ∃ (pn pc : Addr) (nm zs : List Str), vs = [.ref pn, .ref pc] /\ SqT K H pn (nm.map V.str) /\ nm.Nodup /\ nm.length ≤ 12 /\ SqT K H pc (zs.map V.str) /\ ∀ H', Same H H' -> Q (.bl (decide (zs.Sublist nm))) H'
theorem y19 (M : Bl mg) (F : Fun K "is_choice" "is_choice" z55 f fd) : FnOk P w K mg base CX0 1 f fd z56 (z9F K) := by
 have nd := z68.nd
 refine F.ok z68 (fun vs H Q E h => ?_) (fun cdv A outer s H vs Q E hr h => ?_)
 ·obtain ⟨pn, pc, nm, zs, rfl, _⟩ := h
  rfl
 obtain ⟨pn, pc, nm, zs, rfl, hN, ndn, n12, hC, q⟩ := h
 refine ⟨_, (z05 (z0k (z7O (y1K hr.units0) (pv 1) (z0t z0s rfl M.tuple PyProof.Rows.boot_tuple (z00 (z1p ["name"] ["chosen"] [1] rfl (z0u rfl (by decide +kernel) rfl (by decide +kernel) rfl rfl) (z3F (pv 0)) (fun _ _ _ _ _ => (z0j (i := 0) (show ((["name"] : List PySem.Str) ++ (["chosen"] : List PySem.Str)).Nodup from by decide +kernel) rfl (Or.inl rfl))) (z0w (by decide)) z0b (fun _ _ _ _ _ => (z3e (z0e (r := rIn K false) z8G (pv 0) (pv 1) (by with_unfolding_all rfl)))) (fun _ _ _ _ _ => (pv 0))) z04)) (z0v _)))), ?_⟩
 refine ⟨_, rfl, _, rfl, pn, rfl, ⟨_, hN⟩, ?_⟩
 refine z21 (xs := nm.map V.str) (fun i ys G => G = H /\ ys = ((nm.take i).filter fun z => decide (z ∈ zs)).map V.str) ⟨rfl, rfl⟩ (fun i ys G hi hp => ?_) (fun i y ys G hy hp => ?_) (fun ys G hp => ?_)
 ·obtain ⟨rfl, rfl⟩ := hp
  refine ⟨hN, z0d ?_⟩
  rw [List.length_map]
  have := List.length_filter_le (fun z => decide (z ∈ zs)) (nm.take i)
  rw [List.length_take] at this
  omega
 ·obtain ⟨rfl, rfl⟩ := hp
  rw [List.getElem?_map] at hy
  obtain ⟨z, ez, rfl⟩ := Option.map_eq_some_iff.mp hy
  refine ⟨_, rfl, _, rfl, pc, _, rfl, .inr hC, rfl, z13 zs, _, rfl, ?_⟩
  rw [if_neg Bool.false_ne_true, z9H, z0l ez, List.filter_append, List.filter_cons]
  by_cases c : z ∈ zs
  ·rw [decide_eq_true c, if_pos rfl, List.map_append]
   exact iteT ⟨_, rfl, rfl, rfl⟩
  ·rw [decide_eq_false c, if_neg Bool.false_ne_true, List.filter_nil, List.append_nil]
   exact iteF ⟨rfl, rfl⟩
 ·obtain ⟨rfl, rfl⟩ := hp
  rw [List.length_map, List.take_length]
  intro D hD
  refine ⟨D, _, rfl, .inl ⟨SqL.of z02, fun t ht => ?_⟩⟩
  have s1 := (z01 hD (.lst ((nm.filter fun z => decide (z ∈ zs)).map V.str))).trans (z01 ht (.tup ((nm.filter fun z => decide (z ∈ zs)).map V.str)))
  refine ⟨pc, t, _, _, rfl, rfl, z52 s1 hC, SqT.of z02, z13 zs, z13 _, ?_⟩
  rw [z5i]
  have := q _ s1
  rw [decide_eq_decide.mpr (z9Y ndn)] at this
  exact this
def StO (nm : List Str) (o : Option (List Str)) (zs : List Str) : Bool := match o with
 | none => decide (zs.Sublist nm)
 | some ws => decide (zs = ws)
def y1J (K : PySem.W.Frag) : Sp := fun vs H Q _ => ∃ (pn pc : Addr) (v : V) (nm zs : List Str) (o : Option (List Str)), vs = [.ref pn, v, .ref pc] /\ SqT K H pn (nm.map V.str) /\ nm.Nodup /\ nm.length ≤ 12 /\ SqT K H pc (zs.map V.str) /\ Tell H (optD o) v /\ ∀ H', Same H H' -> Q (.bl (StO nm o zs)) H'
theorem y2W (M : Bl mg) (F : Fun K "may_stand" "may_stand" z5k f fd) (Gis_choice : Cal P w K mg base 1 "is_choice" z56 (z9F K)) : FnOk P w K mg base CX0 2 f fd z5p (y1J K) := by
 have nd := z6H.nd
 refine F.ok z6H (fun vs H Q E h => ?_) (fun cdv A outer s H vs Q E hr h => ?_)
 ·obtain ⟨pn, pc, v, nm, zs, o, rfl, _⟩ := h
  rfl
 obtain ⟨pn, pc, v, nm, zs, o, rfl, hN, ndn, n12, hC, tv, q⟩ := h
 refine ⟨_, (z05 (z0k (z61 (z7c (y27 (pv 1))) (z0o Gis_choice (rm hr) rfl (z00 (pv 0) (z00 (pv 2) z04))) (z7O (y1K hr.units0) (pv 2) (pv 1) (z0v _))))), ?_⟩
 cases o with
 | none =>
  have ev : v = .non := by
   unfold optD Tell at tv
   exact tv
  subst ev
  exact ⟨_, rfl, _, rfl, iteT ⟨_, rfl, _, rfl, pn, pc, nm, zs, rfl, hN, ndn, n12, hC, fun H' s' => q H' s'⟩⟩
 | some ws =>
  obtain ⟨b, us, rfl, eb, _, tb⟩ := z0f (show Tell H (.tup (ws.map DV.str)) v from tv)
  have e := z0K tb
  subst e
  refine ⟨_, rfl, _, rfl, iteF ⟨_, rfl, _, rfl, pc, b, _, _, rfl, rfl, hC, SqT.of eb, z13 zs, z13 ws, ?_⟩⟩
  rw [z5i]
  exact q H (Same.refl _)
def y3p (Sh : ShP) : Sp := fun vs H Q _ => ∃ (x : Addr) (v : V) (fp : List Addr) (nm : List Str) (r : Int) (rows : List Row) (had : List Int) (m : Nat) (c : List (List Str)), vs = [.ref x, v] /\ Sh H x fp nm r (fun n => z1f rows n r) had /\ GoodN nm /\ Rws nm rows /\ rows.length ≤ 60 /\ (∀ n ∈ had, 1 ≤ n /\ n ≤ rows.length) /\ 0 ≤ r /\ r ≤ 10 /\ z4T had m /\ Tell H (z2Z c) v /\
 (z4n nm (z0x m (z0n had) rows r) c -> ∀ H', Same H H' -> Q (.bl true) H') /\ (¬ z4n nm (z0x m (z0n had) rows r) c -> ∀ H', Same H H' -> Q (.bl false) H')
theorem z9z {nm : List Str} {rows : List Row} (R : Rws nm rows) {m : Nat} {hs : List Int} {r : Int} {c : List (List Str)} (hl : c.length = (z0x m hs rows r).length) :
  z4n nm (z0x m hs rows r) c ↔ (((z0x m hs rows r).zip c).map fun p => StO nm p.1 p.2).all id = true := by
 rw [List.all_eq_true]
 constructor
 ·intro h b hb
  obtain ⟨⟨o, zs⟩, hp, rfl⟩ := List.mem_map.mp hb
  obtain ⟨i, hi, e⟩ := List.getElem_of_mem hp
  rw [List.getElem_zip] at e
  rw [List.length_zip] at hi
  have h1 : (z0x m hs rows r)[i]? = some o := by rw [List.getElem?_eq_getElem (by omega)]; exact congrArg some (congrArg Prod.fst e)
  have h2 : c[i]? = some zs := by rw [List.getElem?_eq_getElem (by omega)]; exact congrArg some (congrArg Prod.snd e)
  obtain ⟨q1, q2⟩ := h.2 i o zs h1 h2
  show StO nm o zs = true
  cases o with
  | none => exact decide_eq_true q1
  | some ws => exact decide_eq_true (q2 ws rfl)
 ·intro h
  refine ⟨hl, fun i o zs h1 h2 => ?_⟩
  have hi1 := (List.getElem?_eq_some_iff.mp h1).1
  have hi2 := (List.getElem?_eq_some_iff.mp h2).1
  have hz : i < ((z0x m hs rows r).zip c).length := by rw [List.length_zip]; omega
  have e : ((z0x m hs rows r).zip c)[i] = (o, zs) := by
   rw [List.getElem_zip]
   rw [List.getElem?_eq_getElem hi1] at h1
   rw [List.getElem?_eq_getElem hi2] at h2
   rw [Option.some.inj h1, Option.some.inj h2]
  have hb : StO nm o zs = true := h (StO nm o zs) (List.mem_map.mpr ⟨(o, zs), by rw [<- e]; exact List.getElem_mem hz, rfl⟩)
  cases o with
  | none => exact ⟨of_decide_eq_true hb, fun _ h => by cases h⟩
  | some ws =>
   have ew : zs = ws := of_decide_eq_true hb
   refine ⟨?_, fun _ h => by cases h; exact ew⟩
   rw [ew, (z4g (z7G h1).2.symm).1]
   exact y0S R _
theorem y3W {CShelf : Addr} (M : Bl mg) (T : TxShelf K mg CShelf) (F : Fun K "fits" "fits" y4F f fd) (Gknown_sets : Cal P w K mg base 4 "known_sets" z4t (y0K (ShD K CShelf))) (Gmay_stand : Cal P w K mg base 2 "may_stand" z5p (y1J K)) : FnOk P w K mg base CX0 5 f fd y3S (y3p (ShD K CShelf)) := by
 have nd := y3u.nd
 refine F.ok y3u (fun vs H Q E h => ?_) (fun cdv A outer s H vs Q E hr h => ?_)
 ·obtain ⟨x, v, fp, nm, r, rows, had, m, c, rfl, _⟩ := h
  rfl
 obtain ⟨x, v, fp, nm, r, rows, had, m, c, rfl, sh, gn, R, l60, hh, r0, r10, it, tc, qt, qf⟩ := h
 refine ⟨_, (z03 (z0m (i := 2) nd rfl (Or.inl rfl) (z0o Gknown_sets (rm hr) rfl (z00 (pv 0) z04))) (z03 (z0P (z0e y0I (z0c z0a rfl M.len PySem.boot_len (z00 (pv 1) z04)) (z0c z0a rfl M.len PySem.boot_len (z00 (pv 2) z04)) (z0v _)) (z05 (z0k z4f)) z0r) (z05 (z0k (z0c (y3j rfl) rfl M.all PyProof.Rows.boot_all (z00 (z1p ["known", "chosen"] ["shelf"] [0] rfl (z0u rfl (by decide +kernel) rfl (by decide +kernel) rfl rfl) (y5k rfl M.zip (z00 (pv 2) (z00 (pv 1) z04))) (fun _ _ _ _ _ => (z7o (K := K) (n := 2) rfl rfl (z14 (z0j (i := 0) (show ((["known", "chosen"] : List PySem.Str) ++ (["shelf"] : List PySem.Str)).Nodup from by decide +kernel) rfl (Or.inl rfl)) (z14 (z0j (i := 1) (show ((["known", "chosen"] : List PySem.Str) ++ (["shelf"] : List PySem.Str)).Nodup from by decide +kernel) rfl (Or.inl rfl)) z4a)))) (z7N (z1Z (z0w (by decide)) z0b (z1Z (z0w (by decide)) z0b z67 z15) (z0L z0b z15))) (z62 (z0L z0b (z0L z0b z15))) (fun _ _ _ _ _ => z1B) (fun _ _ _ _ _ => (z0o Gmay_stand (rm hr) rfl (z00 (y4B (K := K) rfl (pv 2) rfl) (z00 (pv 0) (z00 (pv 1) z04)))))) z04)))))), ?_⟩
 have h60 : ∀ n ∈ had, 1 ≤ n /\ n ≤ 60 := fun n hn => by have := hh n hn; omega
 have hm60 : m ≤ 60 := by have := it.le (k := 60) (by decide) fun x hx => (h60 x hx).2; omega
 obtain ⟨dx, pn, fs, h1, h3, ln⟩ : ∃ dx pn fs, H x = some (.ins CShelf dx fs) /\ H pn = some (.tup (nm.map V.str)) /\ fs.lookup ("names" : Str) = some (V.ref pn) := by
  obtain ⟨dx, pn, pd, fs, kvs, _, h1, _, h3, _, l1, _⟩ := sh
  exact ⟨dx, pn, fs, h1, h3, l1⟩
 refine ⟨_, rfl, x, fp, nm, r, rows, had, m, rfl, sh, gn, R, l60, hh, r0, r10, it, fun kv H1 s1 tk => ?_⟩
 obtain ⟨ak, us, rfl, eak, _, tus⟩ := z0f tk
 obtain ⟨ac, ws, rfl, eac, _, tws⟩ := z0f (show Tell H (.tup (c.map nmsD)) v from tc)
 have lus : us.length = (z0x m (z0n had) rows r).length := by rw [tus.length, List.length_map]
 have lws : ws.length = c.length := by rw [tws.length, List.length_map]
 have lk := z1q m (z0n had) rows r
 have eac1 := s1 _ _ eac
 refine ⟨_, rfl, ac, _, rfl, .inr (SqT.of eac1), _, rfl, ak, _, rfl, .inr (SqT.of eak), rfl, _, rfl, ?_⟩
 by_cases cl : c.length = (z0x m (z0n had) rows r).length
 case neg =>
  rw [decide_eq_false (fun e => cl (by injection e with e; omega))]
  exact iteT (qf (fun h => cl h.1) H1 s1)
 rw [decide_eq_true (by rw [lus, lws, cl])]
 refine iteF ?_
 refine ⟨_, rfl, _, rfl, ak, ac, us, ws, rfl, SqT.of eak, SqT.of eac1, by omega, ?_⟩
 refine y2t (xs := us) (ys := ws) (by omega) (fun i zs G => Same H1 G /\ zs = ((((z0x m (z0n had) rows r).zip c).take i).map fun p => StO nm p.1 p.2).map V.bl) ⟨Same.refl _, rfl⟩ (fun i zs G hi hp => ?_) (fun i y1 y2 zs G T' e1 e2 hT hp => ?_) (fun zs G hp => ?_)
 ·obtain ⟨g, rfl⟩ := hp
  refine ⟨SqT.of (g _ _ eak), SqT.of (g _ _ eac1), z0d ?_⟩
  rw [List.length_map, List.length_map, List.length_take]
  omega
 ·obtain ⟨g, rfl⟩ := hp
  have gT := g.trans (z01 hT (.tup [y1, y2]))
  obtain ⟨d, ed, td⟩ := tus.at i y1 e1
  rw [List.getElem?_map] at ed
  obtain ⟨o, eo, rfl⟩ := Option.map_eq_some_iff.mp ed
  obtain ⟨d2, ed2, td2⟩ := tws.at i y2 e2
  rw [List.getElem?_map] at ed2
  obtain ⟨zs2, ez2, rfl⟩ := Option.map_eq_some_iff.mp ed2
  obtain ⟨b, vs2, rfl, eb, _, tb⟩ := z0f (show Tell H (.tup (zs2.map DV.str)) y2 from td2)
  have e := z0K tb
  subst e
  have sG := s1.trans gT
  have ez : ((z0x m (z0n had) rows r).zip c)[i]? = some (o, zs2) := by
   rw [List.getElem?_zip_eq_some]
   exact ⟨eo, ez2⟩
  refine ⟨T', _, rfl, SqT.of z02, rfl, _, _, rfl, _, _, rfl, rfl, ?_⟩
  refine ⟨_, rfl, x, CShelf, dx, fs, _, rfl, sG _ _ h1, T.cl, T.n_names, ln, _, rfl, _, rfl, pn, b, y1, nm, zs2, o, rfl, SqT.of (sG _ _ h3), gn.nd, gn.hi, SqT.of (sG _ _ eb), Tell.keep gT _ _ td, fun G2 g2 => ⟨gT.trans g2, ?_⟩⟩
  rw [z0l ez, List.map_append, List.map_append]
  rfl
 ·obtain ⟨g, rfl⟩ := hp
  rw [List.take_of_length_le (by rw [List.length_zip]; omega)]
  intro D hD
  refine ⟨D, _, rfl, SqL.of z02, ?_⟩
  have sF := s1.trans (g.trans (z01 hD (.lst ((((z0x m (z0n had) rows r).zip c).map fun p => StO nm p.1 p.2).map V.bl))))
  by_cases cf : z4n nm (z0x m (z0n had) rows r) c
  ·rw [(z9z R cl).mp cf]
   exact qt cf _ sF
  ·rw [Bool.eq_false_iff.mpr fun h => cf ((z9z R cl).mpr h)]
   exact qf cf _ sF
theorem y1l {hs ht : List Int} {n r : Int} (sub : ∀ x ∈ hs, x ∈ ht) (h60 : ∀ x ∈ ht, 1 ≤ x /\ x ≤ 60) (h : z0X hs n r ≠ 0) : z0X ht n r ≠ 0 := fun e => h (z3L fun y hy => z9Z h60 e y (sub y hy))
theorem y18 {m : Nat} {hs : List Int} {rows : List Row} {r : Int} {i : Nat} (hi : i < m) : (z0x m hs rows r)[i]? = some (z1j hs rows r (1 + (i : Int))) := by
 unfold z0x
 rw [List.getElem?_map, show (upI 1 m)[i]? = some (1 + (i : Int)) by unfold upI; rw [List.getElem?_map, List.getElem?_range hi]; rfl]
 rfl
theorem y1F {nm : List Str} {m : Nat} {hs ht : List Int} {rows : List Row} {r : Int} {c : List (List Str)} (sub : ∀ x ∈ hs, x ∈ ht) (h60 : ∀ x ∈ ht, 1 ≤ x /\ x ≤ 60) (h : z4n nm (z0x m ht rows r) c) : z4n nm (z0x m hs rows r) c := by
 refine ⟨by rw [h.1, z1q, z1q], fun i o zs h1 h2 => ?_⟩
 obtain ⟨hi, rfl⟩ := z7G h1
 have q := h.2 i _ zs (y18 hi) h2
 refine ⟨q.1, fun ws e => q.2 ws ?_⟩
 obtain ⟨rfl, c⟩ := z4g e
 unfold z1j
 rw [if_pos]
 exact c.imp (sub _) (y1l sub h60)
theorem y1k {nm : List Str} {rows : List Row} (R : Rws nm rows) {m : Nat} {hs : List Int} {r : Int} (hm : m ≤ rows.length) : z4n nm (z0x m hs rows r) ((rows.take m).map z0z) := by
 refine ⟨by rw [z1q, List.length_map, List.length_take]; omega, fun i o zs h1 h2 => ?_⟩
 obtain ⟨hi, eo⟩ := z7G h1
 rw [List.getElem?_map, List.getElem?_take_of_lt hi] at h2
 have e : rows[i]? = some (z0O rows (1 + (i : Int))) := by
  have : i < rows.length := by omega
  unfold z0O
  rw [show (1 + (i : Int) - 1).toNat = i by omega, List.getD_eq_getElem?_getD, List.getElem?_eq_getElem this]
  rfl
 rw [e] at h2
 cases h2
 refine ⟨y0S R _, fun ws h => ?_⟩
 rw [h] at eo
 exact (z4g eo.symm).1.symm
theorem y07 {m : Nat} {hs : List Int} {rows : List Row} {r : Int} (it : z4T hs m) (h60 : ∀ x ∈ hs, 1 ≤ x /\ x ≤ 60) : (z0x m hs rows r).countP (fun o => o.isNone) = (z4d hs r).length := by
 unfold z0x
 rw [List.countP_map, List.countP_eq_length_filter]
 congr 1
 refine z20 ((z1i _ _).filter _) ?_ fun x => ?_
 ·have : z4d hs r = (z16 hs).filter fun n => decide (z0X hs n r = 0) := by
   unfold z4d lwtL
   rw [List.filter_map, List.map_map]
   exact List.map_id _
  rw [this]
  exact (z2e _).filter _
 ·rw [List.mem_filter, y1o, z0W, z1o]
  show _ /\ (z1j hs rows r x).isNone = true ↔ _
  unfold z1j
  by_cases c : x ∈ hs \/ z0X hs x r ≠ 0
  ·rw [if_pos c]
   refine ⟨fun h => absurd h.2 Bool.false_ne_true, fun h => ?_⟩
   rcases c with c | c
   ·exact absurd c h.1.2.1
   ·exact absurd h.2 c
  ·rw [if_neg c]
   rw [not_or] at c
   refine ⟨fun h => ⟨?_, Classical.not_not.mp c.2⟩, fun h => ⟨?_, rfl⟩⟩
   ·rcases it.1 with q | ⟨_, q⟩
    ·have := h60 _ q
     have : x ≠ (m : Int) := fun e => c.1 (e ▸ q)
     exact ⟨by omega, c.1, m, q, by omega⟩
    ·omega
   ·obtain ⟨⟨h1, _, y, hy, h3⟩, _⟩ := h
    have := it.2 y hy
    omega
theorem z6E {H : Hp} : ∀ {ks : List (Option (List Str))} {xs : List V}, z08 H (ks.map optD) xs -> xs.countP z8w = ks.countP fun o => o.isNone
 | [], xs, h => by
  rw [z0S h]
  rfl
 | o :: ks, xs, h => by
  obtain ⟨x, t, rfl, h1, h2⟩ := z0g h
  rw [List.countP_cons, List.countP_cons, z6E h2]
  cases o with
  | none =>
   have h1' : Tell H .non x := h1
   unfold Tell at h1'
   subst h1'
   rfl
  | some ws =>
   obtain ⟨a, ys, rfl, _⟩ := z0f (show Tell H (.tup (ws.map DV.str)) x from h1)
   rfl
theorem z76 {m : Nat} {hs ht : List Int} {rows : List Row} {r : Int} (h : ∀ x, x ∈ hs ↔ x ∈ ht) : z0x m hs rows r = z0x m ht rows r := by
 unfold z0x
 refine List.map_congr_left fun n _ => ?_
 unfold z1j
 rw [y0k h]
 by_cases c : n ∈ ht \/ z0X ht n r ≠ 0
 ·rw [if_pos c, if_pos (c.imp (h n).mpr id)]
 ·rw [if_neg c, if_neg fun q => c (q.imp (h n).mp id)]
theorem y3h {nm : List Str} {rows : List Row} {w : Row} (R : Rws nm rows) (nd : nm.Nodup) (hw : w ∈ rows) : GoodR nm w /\ z11 nm w = w := by
 have sb := R.sub w hw
 exact ⟨⟨sb.nodup nd, fun p hp => sb.subset (List.mem_map_of_mem hp), fun p hp => R.val w hw p hp⟩, z4e nd sb⟩
def NmV (nm : List Str) (H : Hp) (v : V) : Prop := ∃ zs : List Str, Tell H (nmsD zs) v /\ zs.Sublist nm
theorem NmV.keep {nm : List Str} {H H' : Hp} {v : V} (s : Same H H') (h : NmV nm H v) : NmV nm H' v := by
 obtain ⟨zs, t, l⟩ := h
 exact ⟨zs, Tell.keep s _ _ t, l⟩
theorem y1N {nm : List Str} {H : Hp} : ∀ {xs : List V}, (∀ v ∈ xs, NmV nm H v) -> ∃ c : List (List Str), z08 H (c.map nmsD) xs /\ ∀ zs ∈ c, zs.Sublist nm
 | [], _ => ⟨[], .nil, fun _ h => nomatch h⟩
 | v :: xs, h => by
  obtain ⟨zs, t, l⟩ := h v List.mem_cons_self
  obtain ⟨c, tc, lc⟩ := y1N fun v hv => h v (List.mem_cons_of_mem _ hv)
  refine ⟨zs :: c, .cons t tc, fun z hz => ?_⟩
  rcases List.mem_cons.mp hz with rfl | hz
  ·exact l
  ·exact lc z hz
def CoV (nm : List Str) (H : Hp) (v : V) : Prop := ∃ c : List (List Str), Tell H (z2Z c) v /\ ∀ zs ∈ c, zs.Sublist nm
theorem CoV.keep {nm : List Str} {H H' : Hp} {v : V} (s : Same H H') (h : CoV nm H v) : CoV nm H' v := by
 obtain ⟨zs, t, l⟩ := h
 exact ⟨zs, Tell.keep s _ _ t, l⟩
theorem y4s {nm : List Str} {H : Hp} {xs : List V} {t : Addr} (e : H t = some (.tup xs)) (hl : xs.length ≤ 60) (h : ∀ v ∈ xs, NmV nm H v) : CoV nm H (.ref t) := by
 obtain ⟨c, tc, lc⟩ := y1N h
 have := tc.length
 rw [List.length_map] at this
 exact ⟨c, z0E e (by rw [List.length_map]; omega) tc, lc⟩
theorem y3K {nm : List Str} {H : Hp} : ∀ {xs : List V}, (∀ v ∈ xs, CoV nm H v) -> ∃ cs : List (List (List Str)), z08 H (cs.map z2Z) xs /\ ∀ c ∈ cs, ∀ zs ∈ c, zs.Sublist nm
 | [], _ => ⟨[], .nil, fun _ h => nomatch h⟩
 | v :: xs, h => by
  obtain ⟨zs, t, l⟩ := h v List.mem_cons_self
  obtain ⟨c, tc, lc⟩ := y3K fun v hv => h v (List.mem_cons_of_mem _ hv)
  refine ⟨zs :: c, .cons t tc, fun z hz => ?_⟩
  rcases List.mem_cons.mp hz with rfl | hz
  ·exact l
  ·exact lc z hz
theorem z74 {α β : Type} {R : α -> β -> Prop} : ∀ {xs : List α} {ys : List β}, Paired R xs ys -> ∀ (i : Nat) (x : α), xs[i]? = some x -> ∃ y, ys[i]? = some y /\ R x y
 | _, _, .nil, i, x, h => by simp at h
 | _, _, .cons r _, 0, x, h => by
  cases h
  exact ⟨_, rfl, r⟩
 | _, _, .cons _ t, i + 1, x, h => z74 t i x h
theorem CoV.over {nm : List Str} {H : Hp} {l : Addr} {xs : List V} {o : HO} {v : V} (e : H l = some (.lst xs)) (h : CoV nm H v) : CoV nm (upd H l o) v := by
 obtain ⟨zs, t, q⟩ := h
 exact ⟨zs, Tell.over e z9f _ _ t, q⟩
theorem y1h {n : Nat} {k : Int} (h0 : 0 ≤ k) (h : k < (n : Int)) : ixN n k = some k.toNat := by
 unfold ixN
 rw [if_pos h0, if_pos h]
def y1w (nm : List Str) (ks : List (Option (List Str))) (cs : List (List (List Str))) (bs : List Bool) (i : Nat) : Prop := ∀ (k : Nat) (c : List (List Str)), k < i -> cs[k]? = some c -> (z4n nm ks c /\ bs[k]? = some false) \/ (¬ z4n nm ks c /\ bs[k]? = some true)
def y2g (K : PySem.W.Frag) (Sh : ShP) : Sp := fun vs H Q _ => ∃ (x lcs ln lk lrd : Addr) (fp : List Addr) (nm : List Str) (r : Int) (rows : List Row) (had : List Int) (m : Nat) (cs : List (List (List Str))) (vcs kz : List V) (bs : List Bool), vs = [.ref x, .ref lcs, .ref ln, .ref lk, .ref lrd] /\
 Sh H x fp nm r (fun n => z1f rows n r) had /\ GoodN nm /\ Rws nm rows /\ rows.length ≤ 60 /\ (∀ n ∈ had, 1 ≤ n /\ n ≤ rows.length) /\ 0 ≤ r /\ r ≤ 10 /\ z4T had m /\
 H lcs = some (.lst vcs) /\ z08 H (cs.map z2Z) vcs /\ cs.length ≤ 8 /\ (∀ c ∈ cs, ∀ zs ∈ c, zs.length ≤ 100) /\ H ln = some (.lst (nm.map V.str)) /\ H lk = some (.lst kz) /\ z08 H ((z0x m (z0n had) rows r).map optD) kz /\
 H lrd = some (.lst (bs.map V.bl)) /\ bs.length = 8 /\ lrd ≠ lcs /\ lrd ≠ ln /\ lrd ≠ lk /\ lrd ∉ fp /\ (∀ (k : Nat) (c : List (List Str)), cs[k]? = some c -> z4n nm (z0x m (z0n had) rows r) c -> bs[k]? = some false) /\
 ∀ (bs' : List Bool) (H' : Hp), z0q [lrd] H H' -> H' lrd = some (.lst (bs'.map V.bl)) -> bs'.length = 8 -> y1w nm (z0x m (z0n had) rows r) cs bs' cs.length -> Q (.bl true) H'
theorem y37 (M : Bl mg) (F : Fun K "_law_asked_all" "_law_asked_all" z2k f fd) {CShelf : Addr} {Sh : ShP} (OS : ShOk CShelf ["put", "had", "latest"] Sh) (G_law_course : Cal P w K mg base 1 "_law_course" z3w (z9R K)) (G_law_whole : Cal P w K mg base 1 "_law_whole" z46 y1q)
  (G_law_doubled : Cal P w K mg base 1 "_law_doubled" z2d z3D) (Gfits : Cal P w K mg base 8 "fits" y3S (y3p Sh)) (Gcourse_count : Cal P w K mg base 8 "course_count" z2Y (y1L Sh)) : FnOk P w K mg base CX0 12 f fd z2q (y2g K Sh) := by
 have nd := z3k.nd
 refine F.ok z3k (fun vs H Q E h => ?_) (fun cdv A outer s H vs Q E hr h => ?_)
 ·obtain ⟨x, lcs, ln, lk, lrd, fp, nm, r, rows, had, m, cs, vcs, kz, bs, rfl, _⟩ := h
  rfl
 obtain ⟨x, lcs, ln, lk, lrd, fp, nm, r, rows, had, m, cs, vcs, kz, bs, rfl, sh, gn, R, r60, hadr, r0, r10, it, eC, tC, c8, c100, eN, eK, tK, eB, b8, n1, n2, n3, nfp, good, q⟩ := h
 refine ⟨_, (z03 (z1g PassesOwn.never rfl (z17 rfl M.range (z00 (z0c z0a rfl M.len PySem.boot_len (z00 (pv 1) z04)) z04)) (z0j (i := 5) nd rfl (Or.inl rfl)) (z03 (z0m (i := 6) nd rfl (Or.inl rfl) (z0o G_law_course (rm hr) rfl (z00 (z0Z z0B (pv 1) (pv 5) (fun _ _ => rfl)) (z00 (pv 2) (z00 (pv 3) z04))))) (z03 (z0m (i := 7) nd rfl (Or.inl rfl) (z0o Gfits (rm hr) rfl (z00 (pv 0) (z00 (z0Z z0B (pv 1) (pv 5) (fun _ _ => rfl)) z04)))) (z03 (z0P (PW.pt (z4W (z6Z (z3W (z0c z1S rfl M.isinstance PyProof.Rows.boot_isinstance (z00 (pv 7) (z00 (z5n (v := .ty "bool") rfl M.bool PyProof.Rows.boot_bool rfl) z04))))) (z2t (z0e y0I (pv 7) (pv 6) (z0v _))))) (z05 (z0k z4f)) z0r) (z03 (z0P (PW.pt (z8o (z3W (pv 6)) (z6i (z3W (z0Z z0B (pv 4) (pv 5) (fun _ _ => rfl)))))) (z05 (z0k z4f)) z0r) (z05 (y3I (y3y (pv 6)) (y3o (pv 4) (pv 5) z9n)))))))) (z03 (z0m (i := 8) nd rfl (Or.inl rfl) (z0o Gcourse_count (rm hr) rfl (z00 (pv 0) z04))) (z05 (z0k (y3m (z0o G_law_whole (rm hr) rfl (z00 (pv 8) z04)) (y3Q (z7O z3P (pv 8) (z0o G_law_doubled (rm hr) rfl (z00 (z0p z3K (z2V PySem.F.plainAttrs_list PySem.F.slot_list_count PySem.F.type_list_count (y1f (Nat.lt_of_le_of_lt (Nat.add_le_add_left (by decide : 1 ≤ 64) _) hr.units)) (pv 3) (z00 y2h z04)) (z0c z0a rfl M.len PySem.boot_len (z00 (pv 2) z04))) z04)) (z0v _)))))))), ?_⟩
 have nt : z3Q H [lrd] := fun b hb xs e => by
  rw [List.mem_singleton.mp hb, eB] at e
  cases e
 have lv : vcs.length = cs.length := by rw [tC.length, List.length_map]
 have h60 : ∀ n ∈ had, 1 ≤ n /\ n ≤ 60 := fun n hn => by have := hadr n hn; omega
 have memr : ∀ n, n ∈ z0n had ↔ n ∈ had := fun n => z6s (fun _ => Iff.rfl) h60 n
 have h60r : ∀ n ∈ z0n had, 1 ≤ n /\ n ≤ 60 := fun n hn => h60 n ((memr n).mp hn)
 have out : ∀ {b : Addr}, b ≠ lrd -> b ∉ [lrd] := fun h m => h (List.mem_singleton.mp m)
 have m60 : m ≤ 60 := by have := it.le (k := 60) (by decide) fun x hx => (h60 x hx).2; omega
 refine ⟨_, rfl, lcs, vcs, rfl, .inl (SqL.of eC), _, rfl, by omega, by omega, ?_⟩
 refine z1y (lo := 0) (n := ((vcs.length : Nat) : Int).toNat) (fun i σ G => ∃ (bs' : List Bool) (o5 o6 o7 : Option V), z0q [lrd] H G /\ G lrd = some (.lst (bs'.map V.bl)) /\ bs'.length = 8 /\ y1w nm (z0x m (z0n had) rows r) cs bs' i /\ (∀ k, i ≤ k -> bs'[k]? = bs[k]?) /\
   σ = [some (.ref x), some (.ref lcs), some (.ref ln), some (.ref lk), some (.ref lrd), o5, o6, o7, none]) ⟨bs, none, none, none, .of (Same.refl _), eB, b8, fun _ _ h => absurd h (Nat.not_lt_zero _), fun _ _ => rfl, rfl⟩ (fun i σ G hi hp => ?_) (fun σ G hp => ?_)
 ·obtain ⟨bs', o5, o6, o7, g, eG, l8, rl, rest, rfl⟩ := hp
  have hi' : i < cs.length := by omega
  have ei : (0 : Int) + (i : Int) = (i : Int) := Int.zero_add _
  obtain ⟨c, ec⟩ : ∃ c, cs[i]? = some c := ⟨_, List.getElem?_eq_getElem hi'⟩
  have hc := List.mem_of_getElem? ec
  obtain ⟨v, ev, tv⟩ := (z08.but g nt _ _ tC).get i (z2Z c) (by rw [List.getElem?_map, ec]; rfl)
  have av : atI vcs ((0 : Int) + (i : Int)) = some v := by
   rw [ei]
   exact z0J ev
  have eC' := g _ _ eC (out n1.symm)
  have eN' := g _ _ eN (out n2.symm)
  have eK' := g _ _ eK (out n3.symm)
  have tK' := z08.but g nt _ _ tK
  have sh' := OS.keep sh g (fun b hb => by rw [List.mem_singleton.mp hb]; exact nfp) nt
  have eb : bs'[i]? = bs[i]? := rest i (Nat.le_refl _)
  have hi8 : i < bs'.length := by omega
  have both : ∀ (due : Bool), (due = true -> z4n nm (z0x m (z0n had) rows r) c) -> (due = false -> ¬ z4n nm (z0x m (z0n had) rows r) c) -> y1w nm (z0x m (z0n had) rows r) cs (bs'.set i (!due)) (i + 1) /\ (∀ k, i + 1 ≤ k -> (bs'.set i (!due))[k]? = bs[k]?) := fun due d1 d2 => by
   refine ⟨fun k c' hk ek => ?_, fun k hk => ?_⟩
   ·rcases Nat.lt_succ_iff_lt_or_eq.mp hk with h | h
    ·rw [List.getElem?_set_ne (by omega)]
     exact rl k c' h ek
    ·subst h
     rw [ec] at ek
     cases ek
     rw [List.getElem?_set_self hi8]
     cases due with
     | true => exact .inl ⟨d1 rfl, rfl⟩
     | false => exact .inr ⟨d2 rfl, rfl⟩
   ·rw [List.getElem?_set_ne (by omega)]
    exact rest k (by omega)
  refine ⟨_, rfl, _, rfl, lcs, vcs, _, v, rfl, rfl, SqL.of eC', av, _, rfl, _, rfl, v, ln, lk, c, nm, _, kz, rfl, tv, c100 c hc, SqL.of eN', gn.nd, gn.hi, SqL.of eK', tK', by rw [z1q]; omega, fun hf G1 g1 => ?_, fun hn G1 g1 => ?_⟩
  ·refine ⟨_, rfl, _, rfl, _, rfl, lcs, vcs, _, v, rfl, rfl, SqL.of (g1 _ _ eC'), av, x, v, fp, nm, r, rows, had, m, c, rfl, OS.same sh' g1, gn, R, r60, hadr, r0, r10, it, Tell.keep g1 _ _ tv, fun _ G2 g2 => ?_, fun hn => absurd hf hn⟩
   refine ⟨_, rfl, _, _, _, _, rfl, z8W rfl, z4S "bool" (.inr (.inl rfl)) rfl, _, rfl, iteF ?_⟩
   refine ⟨_, rfl, _, rfl, rfl, _, rfl, ?_⟩
   rw [show (!decide (V.bl true = V.bl true)) = false from rfl]
   have eb' : bs'[i]? = some false := eb.trans (good i c ec hf)
   have g2' := g.then (g1.trans g2)
   have eG2 := (g1.trans g2) _ _ eG
   have ab : atI (bs'.map V.bl) ((0 : Int) + (i : Int)) = some (.bl false) := by
    rw [ei]
    exact z0J (by rw [List.getElem?_map, eb']; rfl)
   refine iteF ⟨_, rfl, _, rfl, iteT ⟨_, rfl, _, rfl, lrd, _, _, _, rfl, rfl, SqL.of eG2, ab, _, rfl, iteF ?_⟩⟩
   have nx := both true (fun _ => hf) (fun h => by cases h)
   refine ⟨_, rfl, _, rfl, _, rfl, _, rfl, lrd, _, _, i, rfl, rfl, eG2, by rw [ei, List.length_map]; exact y1h (by omega) (by omega), ?_⟩
   exact ⟨bs'.set i (!true), _, _, _, fun b o e nb => by rw [z09 (fun h => nb (by rw [h]; exact List.mem_singleton.mpr rfl))]; exact g2' b o e nb, by rw [z02, List.map_set], by rw [List.length_set]; exact l8, nx.1, nx.2, rfl⟩
  ·refine ⟨_, rfl, _, rfl, _, rfl, lcs, vcs, _, v, rfl, rfl, SqL.of (g1 _ _ eC'), av, x, v, fp, nm, r, rows, had, m, c, rfl, OS.same sh' g1, gn, R, r60, hadr, r0, r10, it, Tell.keep g1 _ _ tv, fun hf => absurd hf hn, fun _ G2 g2 => ?_⟩
   refine ⟨_, rfl, _, _, _, _, rfl, z8W rfl, z4S "bool" (.inr (.inl rfl)) rfl, _, rfl, iteF ?_⟩
   refine ⟨_, rfl, _, rfl, rfl, _, rfl, ?_⟩
   rw [show (!decide (V.bl false = V.bl false)) = false from rfl]
   have g2' := g.then (g1.trans g2)
   have eG2 := (g1.trans g2) _ _ eG
   refine iteF ⟨_, rfl, _, rfl, iteF (iteF ?_)⟩
   have nx := both false (fun h => by cases h) (fun _ => hn)
   refine ⟨_, rfl, _, rfl, _, rfl, _, rfl, lrd, _, _, i, rfl, rfl, eG2, by rw [ei, List.length_map]; exact y1h (by omega) (by omega), ?_⟩
   exact ⟨bs'.set i (!false), _, _, _, fun b o e nb => by rw [z09 (fun h => nb (by rw [h]; exact List.mem_singleton.mpr rfl))]; exact g2' b o e nb, by rw [z02, List.map_set], by rw [List.length_set]; exact l8, nx.1, nx.2, rfl⟩
 ·obtain ⟨bs', o5, o6, o7, g, eG, l8, rl, rest, rfl⟩ := hp
  have el : ((vcs.length : Nat) : Int).toNat = cs.length := by omega
  rw [el] at rl
  have eN' := g _ _ eN (out n2.symm)
  have eK' := g _ _ eK (out n3.symm)
  have tK' := z08.but g nt _ _ tK
  have sh' := OS.keep sh g (fun b hb => by rw [List.mem_singleton.mp hb]; exact nfp) nt
  refine ⟨_, rfl, x, fp, nm, r, _, had, rfl, sh', h60, fun G1 g1 => ?_⟩
  have ck : kz.countP z8w = (z4d (z0n had) r).length := (z6E tK').trans (y07 (it.same memr) h60r)
  have lm' : (nm.map V.str).length = nm.length := List.length_map _
  have l60 := z8c (z0n had) r
  have n12 := gn.hi
  have lt : (z4d (z0n had) r).length * nm.length ≤ 60 * 12 := Nat.mul_le_mul l60 n12
  have kin : ∀ y ∈ kz, y = .non \/ ∃ a ys, y = .ref a /\ SqT K G1 a ys := fun y hy => by
   obtain ⟨j, hj, e⟩ := List.getElem_of_mem hy
   obtain ⟨d, ed, td⟩ := (z08.keep g1 _ _ tK').at j y (by rw [List.getElem?_eq_getElem hj, e])
   rw [List.getElem?_map] at ed
   obtain ⟨o, _, rfl⟩ := Option.map_eq_some_iff.mp ed
   cases o with
   | none =>
    have td' : Tell G1 .non y := td
    unfold Tell at td'
    exact .inl td'
   | some ws =>
    obtain ⟨a, ys, rfl, ea, _⟩ := z0f (show Tell G1 (.tup (ws.map DV.str)) y from td)
    exact .inr ⟨a, ys, rfl, SqT.of ea⟩
  refine ⟨_, rfl, _, rfl, _, rfl, iteT ⟨_, rfl, _, rfl, .inl ⟨rfl, _, SqL.of (g1 _ _ eK')⟩, lk, kz, rfl, rfl, SqL.of (g1 _ _ eK'), kin, _, rfl, ln, _, rfl, .inl (SqL.of (g1 _ _ eN')), _, _, rfl, rfl, ?_, _, rfl, ?_, ?_, ?_⟩⟩
  ·rw [ck]
   exact .inl ⟨by omega, by omega⟩
  ·exact Int.mul_nonneg (Int.natCast_nonneg _) (Int.natCast_nonneg _)
  ·rw [ck, lm', <- Int.natCast_mul]
   omega
  ·refine ⟨rfl, ?_⟩
   rw [ck, lm', <- Int.natCast_mul, Int.toNat_natCast, decide_eq_true rfl]
   exact q bs' G1 (g.then g1) (g1 _ _ eG) l8 rl
theorem y5j (M : Bl mg) (F : Fun K "law" "law" slaw f fd) {CBook CShelf : Addr} {Bk : BkP} {Sh : ShP} (O : BkOk CBook ["write", "deliver", "latest", "issue", "deeds", "deed", "shelf"] Bk) (OS : ShOk CShelf ["put", "had", "latest"] Sh)
  (G_law_at : Cal P w K mg base 1 "_law_at" z53 (spAt K)) (G_law_pick : Cal P w K mg base 1 "_law_pick" z2Q z9p) (G_law_row : Cal P w K mg base 1 "_law_row" z2o y04) (G_law_names : Cal P w K mg base 2 "_law_names" z4l (y14 K)) (G_law_numbers : Cal P w K mg base 3 "_law_numbers" z3g (z8a K))
  (G_law_had : Cal P w K mg base 2 "_law_had" z6b y4Z) (G_law_shuffled : Cal P w K mg base 2 "_law_shuffled" z2H (y3P K)) (G_law_sets : Cal P w K mg base 2 "_law_sets" z3M (y2a K)) (G_law_known : Cal P w K mg base 2 "_law_known" z4B (z9y K)) (G_law_asked_all : Cal P w K mg base 12 "_law_asked_all" z2q (y2g K Sh))
  (GBook : Mkr P w K mg base 8 CBook "Book" z2B (z9W K CBook Bk)) (GBook_write : MCal P w K mg base 8 CBook "write" z4w (z8k K Bk)) (GBook_deliver : MCal P w K mg base 8 CBook "deliver" z34 (z6p Bk))
  (GBook_shelfD : MCalD P w K mg base 8 CBook "shelf" z2p (z4V Bk Sh) [V.non]) : FnOk P w K mg base CX0 14 f fd plaw (y2C K) := by
 have nd := y5e.nd
 refine F.ok y5e (fun vs H Q E h => ?_) (fun cdv A outer s H vs Q E hr h => ?_)
 ·obtain ⟨a, ns, rfl, _⟩ := h
  rfl
 obtain ⟨a, ns, rfl, hS, h63, q⟩ := h
 refine ⟨_, (z03 (z0m (i := 1) nd rfl (Or.inl rfl) (z0o G_law_names (rm hr) rfl (z00 (pv 0) z04))) (z03 (z0m (i := 2) nd rfl (Or.inl rfl) (z0o G_law_numbers (rm hr) rfl (z00 (pv 0) (z00 (pv 1) z04)))) (z03 (z0m (i := 3) nd rfl (Or.inl rfl) (z0o G_law_pick (rm hr) rfl (z00 (z0o G_law_at (rm hr) rfl (z00 (pv 0) (z00 z07 z04))) (z00 z07 z04)))) (z03 (z0m (i := 4) nd rfl (Or.inr rfl) (z0o G_law_had (rm hr) rfl (z00 (z0o G_law_at (rm hr) rfl (z00 (pv 0) (z00 z07 z04))) (z00 (z0c z0a rfl M.len PySem.boot_len (z00 (pv 2) z04)) z04)))) (z03 (z0m (i := 5) nd rfl (Or.inl rfl) (z0c (z8f rfl) rfl M.max PyProof.Rows.boot_max (z00 (z0p y3w (pv 4) (z1N (z00 z07 z04))) z04))) (z03 (z0m (i := 6) nd rfl (Or.inl rfl) (y2d GBook (rm hr) rfl (z00 (z0t z2u rfl M.list PyProof.Rows.boot_list (z00 (pv 1) z04)) (z00 (pv 3) (z00 z07 z04))))) (z03 (z1g PassesOwn.never rfl (z1u (pv 2)) (z0j (i := 7) nd rfl (Or.inl rfl)) (z05 (z0y (z1M GBook_write (rm hr) (pv 6) (z00 (z0t z2u rfl M.list PyProof.Rows.boot_list (z00 (pv 7) z04)) z04))))) (z03 (z1g PassesOwn.never rfl (z1u (pv 4)) (z0j (i := 8) nd rfl (Or.inl rfl)) (z05 (z0y (z1M GBook_deliver (rm hr) (pv 6) (z00 z07 (z00 (pv 8) z04)))))) (z03 (z0m (i := 9) nd rfl (Or.inr rfl) (z1p ["_law_one"] [] [] rfl (z0u rfl (by decide +kernel) rfl (by decide +kernel) rfl rfl) (z1u (z35 z8Y (pv 2) z4x (z4r (pv 5)))) (fun _ _ _ _ _ => (z0j (i := 0) (show ((["_law_one"] : List PySem.Str) ++ ([] : List PySem.Str)).Nodup from by decide +kernel) rfl (Or.inl rfl))) (z0w (by decide)) z0b (fun _ _ _ _ _ => z1B) (fun _ _ _ _ _ => (z0t (z2y (K := K) rfl) rfl M.tuple PyProof.Rows.boot_tuple (z00 (z1p ["_law_row_here"] [] [] rfl (z0u rfl (by decide +kernel) rfl (by decide +kernel) rfl rfl) (y4e (K := K) rfl (pv 0)) (fun _ _ _ _ _ => (z0j (i := 0) (show ((["_law_row_here"] : List PySem.Str) ++ ([] : List PySem.Str)).Nodup from by decide +kernel) rfl (Or.inl rfl))) (z0w (by decide)) z0b (fun _ _ _ _ _ => z1B) (fun _ _ _ _ _ => (z0Z (r := rIxT K) z3u (pv 0) z07 (fun _ _ => rfl)))) z04))))) (z03 (z0m (i := 10) nd rfl (Or.inr rfl) (z1p ["_law_one"] [] [] rfl (z0u rfl (by decide +kernel) rfl (by decide +kernel) rfl rfl) (z1u (z0o G_law_sets (rm hr) rfl (z00 (pv 1) (z00 (z0o G_law_at (rm hr) rfl (z00 (pv 0) (z00 z07 z04))) (z00 (pv 5) z04))))) (fun _ _ _ _ _ => (z0j (i := 0) (show ((["_law_one"] : List PySem.Str) ++ ([] : List PySem.Str)).Nodup from by decide +kernel) rfl (Or.inl rfl))) (z0w (by decide)) z0b (fun _ _ _ _ _ => z1B) (fun _ _ _ _ _ => (z0t (z2y (K := K) rfl) rfl M.tuple PyProof.Rows.boot_tuple (z00 (pv 0) z04))))) (z03 (z0m (i := 11) nd rfl (Or.inr rfl) (z0o G_law_known (rm hr) rfl (z00 (pv 4) (z00 (pv 2) (z00 (pv 3) z04))))) (z03 (z45 (i := 12) ["_law_k"] ["_law_other", "_law_truth", "_law_known_here"] [10, 9, 11] rfl nd rfl (Or.inl rfl) (z0u rfl (by decide +kernel) rfl (by decide +kernel) rfl rfl) (z17 rfl M.range (z00 (pv 5) z04)) (fun _ _ _ _ _ => (z0j (i := 0) (show ((["_law_k"] : List PySem.Str) ++ (["_law_other", "_law_truth", "_law_known_here"] : List PySem.Str)).Nodup from by decide +kernel) rfl (Or.inl rfl))) (z0w (by decide)) z0b (fun _ _ _ _ _ => z1B) (fun _ _ _ _ _ => (z61 (z7c (y27 (z0Z (r := rIxL K) z0B (pv 3) (pv 0) (fun _ _ => rfl)))) (z0Z (r := rIxL K) z0B (pv 1) (pv 0) (fun _ _ => rfl)) (z0Z (r := rIxL K) z0B (pv 2) (pv 0) (fun _ _ => rfl))))) (z03 (z0m (i := 13) nd rfl (Or.inl rfl) (z1N (z00 (z0t z0s rfl M.tuple PyProof.Rows.boot_tuple (z00 (pv 9) z04)) (z00 (z0t z0s rfl M.tuple PyProof.Rows.boot_tuple (z00 (pv 12) z04)) z04)))) (z03 (z1g PassesOwn.never rfl (z1u (z0o G_law_row (rm hr) rfl (z00 (z0o G_law_at (rm hr) rfl (z00 (pv 0) (z00 z07 z04))) (z00 z07 (z00 z07 z04))))) (z0j (i := 14) nd rfl (Or.inl rfl)) (z03 (z0m (i := 15) nd rfl (Or.inl rfl) (z0t z2u rfl M.list PyProof.Rows.boot_list (z00 (pv 9) z04))) (z03 (z0P (z0e z4b (pv 5) z07 (z0v _)) (z05 (y3I (z0Z z0B (pv 10) (z0p z0R (pv 14) (pv 5)) (fun _ _ => rfl)) (y3o (pv 15) (z0p z0R (pv 14) (pv 5)) z9n))) z0r) (z05 (z0y (z2V PySem.F.plainAttrs_list PySem.F.slot_list_append PySem.F.type_list_append z0I (pv 13) (z00 (z0t z0s rfl M.tuple PyProof.Rows.boot_tuple (z00 (pv 15) z04)) z04))))))) (z03 (z0m (i := 16) nd rfl (Or.inl rfl) (z0p y57 (z1N (z00 z4f z04)) z07)) (z03 (z45 (i := 17) ["_law_number"] ["_law_had_here"] [4] rfl nd rfl (Or.inl rfl) (z0u rfl (by decide +kernel) rfl (by decide +kernel) rfl rfl) (z4D rfl M.range (z00 z07 (z00 (pv 5) z04))) (fun _ _ _ _ _ => (z0j (i := 0) (show ((["_law_number"] : List PySem.Str) ++ (["_law_had_here"] : List PySem.Str)).Nodup from by decide +kernel) rfl (Or.inl rfl))) (z0w (by decide)) z0b (fun _ _ _ _ _ => (z3e (z0e (r := rIn K true) z1E (pv 0) (pv 1) (by with_unfolding_all rfl)))) (fun _ _ _ _ _ => (pv 0))) (z03 (z0P (PW.pt (z4W (z6Z (z3W (z0o G_law_asked_all (rm hr) rfl (z00 (z9I GBook_shelfD (rm hr) (pv 6) (z00 z07 z04)) (z00 (pv 13) (z00 (pv 1) (z00 (pv 11) (z00 (pv 16) z04)))))))) (z2t (z3W (z0Z z0B (pv 16) z07 (fun _ _ => rfl)))))) (z05 (z0k z4f)) z0r) (z03 (z1g PassesOwn.never rfl (z1u (z35 z8Y (z0o G_law_shuffled (rm hr) rfl (z00 (pv 17) (z00 (z0o G_law_at (rm hr) rfl (z00 (pv 0) (z00 z07 z04))) z04))) z4x (z4r z07))) (z0j (i := 8) nd rfl (Or.inl rfl)) (z03 (z0y (z1M GBook_deliver (rm hr) (pv 6) (z00 z07 (z00 (pv 8) z04)))) (z03 (z0P (z0e z1E (pv 8) (pv 4) (by with_unfolding_all rfl)) (z05 (z0y (z2V PySem.F.plainAttrs_list PySem.F.slot_list_append PySem.F.type_list_append z0I (pv 4) (z00 (pv 8) z04)))) z0r) (z03 (z0m (i := 11) nd rfl (Or.inr rfl) (z0o G_law_known (rm hr) rfl (z00 (pv 4) (z00 (pv 2) (z00 (pv 3) z04))))) (z05 (z0P (PW.pt (z4W (z6Z (z3W (z0o G_law_asked_all (rm hr) rfl (z00 (z9I GBook_shelfD (rm hr) (pv 6) (z00 z07 z04)) (z00 (pv 13) (z00 (pv 1) (z00 (pv 11) (z00 (pv 16) z04)))))))) (z2t (z3W (z0Z z0B (pv 16) z07 (fun _ _ => rfl)))))) (z05 (z0k z4f)) z0r)))))) (z05 (z0k z4f)))))))))))))))))))), ?_⟩
 refine ⟨_, rfl, a, ns, rfl, hS, fun ln nm H1 nln s1 eN n1 n12 N => ?_⟩
 refine ⟨_, rfl, _, rfl, a, ln, ns, nm, rfl, s1.seq hS, SqL.of eN, n1, n12, fun lr us rows H2 nlr s2 eR tl r60 R => ?_⟩
 have s12 := s1.trans s2
 refine ⟨_, rfl, a, ns, 4, rfl, s12.seq hS, by decide, _, _, rfl, (by decide), fun r r0 r1 => ?_⟩
 have lus : us.length = rows.length := by rw [tl.length, List.length_map]
 have gn : GoodN nm := ⟨n1, n12, N.nd⟩
 refine ⟨_, rfl, a, ns, 5, rfl, s12.seq hS, by decide, _, rfl, lr, us, rfl, .inl (SqL.of eR), _, _, rfl, by omega, by omega, fun lh hs H3 nlh s3 eH rise hall hl60 => ?_⟩
 have s13 := s12.trans s3
 have hsr : ∀ x ∈ hs, 1 ≤ x /\ x ≤ (rows.length : Int) := fun x hx => by have := hall x hx; omega
 have hup : ∀ x ∈ hs, x ≤ (rows.length : Int) := fun x hx => (hsr x hx).2
 have h60 : ∀ x ∈ hs, 1 ≤ x /\ x ≤ 60 := fun x hx => by have := hsr x hx; omega
 have eN3 := s3 _ _ (s2 _ _ eN)
 have eR3 := s3 _ _ eR
 have tl3 := z08.keep s3 _ _ tl
 have r12 := y3H R n12
 have dif : lh ≠ ln /\ lh ≠ lr := ⟨(fun e => by rw [e, s2 _ _ eN] at nlh; cases nlh), (fun e => by rw [e, eR] at nlh; cases nlh)⟩
 obtain ⟨m, it⟩ := y5t hs h60
 have mle : m ≤ rows.length := by
  rcases it.1 with q | ⟨_, q⟩
  ·have := hup _ q
   omega
  ·omega
 refine ⟨_, rfl, (by show 1 ≤ sizeLine; decide), fun l0 hl0 => ⟨lh, l0, _, _, rfl, rfl, z01 hl0 _ _ _ eH, z02, ?_, fun lc hlc => ?_⟩⟩
 ·rw [List.length_map]
  exact Nat.le_of_lt (z0d (by show hs.length + 1 ≤ 1000; omega))
 have sX := (z01 hl0 (.lst [V.int 0])).trans (z01 hlc (.lst (hs.map V.int ++ [V.int 0])))
 have ex : upd (upd H3 l0 (.lst [V.int 0])) lc (.lst (hs.map V.int ++ [V.int 0])) lc = some (.lst ((hs ++ [0]).map V.int)) := by
  rw [z02, List.map_append]
  rfl
 generalize upd (upd H3 l0 (.lst [V.int 0])) lc (.lst (hs.map V.int ++ [V.int 0])) = H4 at sX ex
 refine ⟨lc, hs ++ [0], rfl, .inl (SqL.of ex), by simp, fun mx hmx top => ?_⟩
 have := y3L it h60 hmx top
 subst this
 have eN4 := sX _ _ eN3
 have eR4 := sX _ _ eR3
 have eH4 := sX _ _ eH
 have tl4 := z08.keep sX _ _ tl3
 have hS4 := (s13.trans sX).seq hS
 clear hmx top ex hlc hl0 sX tl3 eR3 eN3 s13 s12 s1 s2 s3 tl eR eN eH
 refine ⟨_, rfl, ln, nm.map V.str, rfl, .inl (SqL.of eN4), fun l1 hl1 => ⟨_, rfl, fun x dx nx ndx ne => ?_⟩⟩
 have mm1 := z6D (C := CBook) (z01 hl1 (.lst (nm.map V.str))) nx ndx
 refine ⟨x, dx, l1, nm, r, 1, rfl, z02, ne, by rw [z09 ne, z02], .inl (SqL.of (z84 nx ndx z02)), gn, r0, by omega, by decide, by decide, fun fp0 H5 hfp b5 bk5 => ⟨rfl, ?_⟩⟩
 have s5 : Same H4 H5 := z6B b5 mm1 ((z01 hl1 _).free nx)
 have f5 : ∀ b ∈ fp0, H4 b = none := fun b hb => z58 mm1 ((z01 hl1 _).free nx) ((z01 hl1 _).free ndx) (hfp b hb)
 refine ⟨_, rfl, lr, rfl, ⟨_, SqL.of (s5 _ _ eR4)⟩, z1I (K := K) (a := lr) (xs := us) (fun i σ G => ∃ (fp' : List Addr) (o : Option V), Same H4 G /\ Bk G x fp' nm r 1 (rows.take i) (wlog i) /\ (∀ b ∈ fp', H4 b = none) /\
   σ = [some (.ref a), some (.ref ln), some (.ref lr), some (.int r), some (.ref lh), some (.int m), some (.ref x), o, none, none, none, none, none, none, none, none, none, none]) ⟨fp0, none, s5, bk5, f5, rfl⟩ (fun i σ G _ ⟨_, _, g, _⟩ => SqL.of (g _ _ eR4)) ?_ ?_⟩
 ·rintro i u σ G hi ⟨fp', o, g, bk, ff, rfl⟩
  obtain ⟨d, ed, td⟩ := (z08.keep g _ _ tl4).at i u hi
  rw [List.getElem?_map] at ed
  obtain ⟨wr, ew, rfl⟩ := Option.map_eq_some_iff.mp ed
  have hw := List.mem_of_getElem? ew
  have hi' : i < rows.length := (List.getElem?_eq_some_iff.mp ew).1
  obtain ⟨ar, xs, rfl, er, _, tp⟩ := z0f td
  obtain ⟨d2, g2, z2, w2⟩ := O.ins bk
  refine ⟨_, rfl, x, d2, g2, rfl, z2, w2 _ (by simp), _, rfl, ar, xs, rfl, .inr (SqT.of er), fun l hl => ?_⟩
  have sl := z01 hl (.lst xs)
  have el : upd G l (.lst xs) l = some (.lst xs) := z02
  have nl : l ∉ fp' := fun m => by
   obtain ⟨o, e, _⟩ := O.own bk l m
   rw [hl] at e
   cases e
  have bk' := O.same bk sl
  have hts := z9k (z08.keep sl _ _ tp)
  generalize upd G l (.lst xs) = G1 at sl el bk' hts
  obtain ⟨good, ino⟩ := y3h R gn.nd hw
  have lti : (rows.take i).length = i := by rw [List.length_take]; omega
  refine ⟨x, .ref l, fp', nm, r, 1, rows.take i, wlog i, wr, rfl, bk', ⟨l, xs, rfl, .inl (SqL.of el), nl, HT.hand (O.noTup bk') hts⟩, good, y3H R gn.hi wr hw, by omega, by rw [z7S]; omega, fun fp2 H6 hf2 b6 bk6 => ?_⟩
  rw [ino, lti, <- z0l ew, <- y1V] at bk6
  have gl := g.trans sl
  exact ⟨fp2, _, (fun b o e => b6 b o (gl _ _ e) fun m => by rw [ff b m] at e; cases e), bk6, (fun b m => (hf2 b m).elim (ff b) fun z => gl.free z), rfl⟩
 rintro σ H6 ⟨fp, o7, g6, bk6, ff6, rfl⟩
 rw [lus, List.take_length] at bk6
 refine ⟨_, rfl, lh, rfl, ⟨_, SqL.of (g6 _ _ eH4)⟩, z1I (K := K) (a := lh) (xs := hs.map V.int) (fun i σ G => ∃ (o8 : Option V), Same H4 G /\ Bk G x fp nm r 1 rows (wlog rows.length ++ dlog (hs.take i)) /\
   σ = [some (.ref a), some (.ref ln), some (.ref lr), some (.int r), some (.ref lh), some (.int m), some (.ref x), o7, o8, none, none, none, none, none, none, none, none, none]) ⟨none, g6, by rw [List.take_zero]; exact (List.append_nil (wlog rows.length)).symm ▸ bk6, rfl⟩ (fun i σ G _ ⟨_, g, _⟩ => SqL.of (g _ _ eH4)) ?_ ?_⟩
 ·rintro i u σ G hi ⟨o8, g, bk, rfl⟩
  rw [List.getElem?_map] at hi
  obtain ⟨n, en, rfl⟩ := Option.map_eq_some_iff.mp hi
  have hn := hsr n (List.mem_of_getElem? en)
  obtain ⟨d2, g2, z2, w2⟩ := O.ins bk
  have ll : (wlog rows.length ++ dlog (hs.take i)).length < 400 := by
   rw [List.length_append, z7S]
   unfold dlog
   rw [List.length_map, List.length_take]
   omega
  refine ⟨_, rfl, x, d2, g2, rfl, z2, w2 _ (by simp), _, rfl, x, fp, nm, r, 1, rows, _, 1, n, rfl, bk, by decide, by decide, hn.1, hn.2, ll, fun G1 b1 bk1 => ?_⟩
  rw [List.append_assoc, <- z8g, <- z0l en] at bk1
  exact ⟨_, (fun b o e => b1 b o (g _ _ e) fun mm => by rw [ff6 b mm] at e; cases e), bk1, rfl⟩
 rintro σ H7 ⟨o8, g7, bk7, rfl⟩
 rw [List.length_map, List.take_length] at bk7
 have eN7 := g7 _ _ eN4
 have eR7 := g7 _ _ eR4
 have eH7 := g7 _ _ eH4
 have tl7 := z08.keep g7 _ _ tl4
 have hS7 := g7.seq hS4
 have kH : lh ∉ fp := fun mm => by rw [ff6 _ mm] at eH4; cases eH4
 have kN : ln ∉ fp := fun mm => by rw [ff6 _ mm] at eN4; cases eN4
 have kR : lr ∉ fp := fun mm => by rw [ff6 _ mm] at eR4; cases eR4
 clear bk6 bk5 b5 hfp mm1 f5 s5 g6 ff6
 refine ⟨_, rfl, _, rfl, _, rfl, lr, us, rfl, SqL.of eR7, fun lq hlq => ?_⟩
 rw [y2E (by omega)]
 have sq := z01 hlq (.lst (us.take m))
 have eq : upd H7 lq (.lst (us.take m)) lq = some (.lst (us.take m)) := z02
 generalize upd H7 lq (.lst (us.take m)) = G2 at sq eq
 have tO2 := z08.keep sq _ _ tl7
 have lt : (us.take m).length = m := by rw [List.length_take]; omega
 refine ⟨lq, rfl, ⟨_, SqL.of eq⟩, ?_⟩
 refine z2P (xs := us.take m) (fun i ys G => Same G2 G /\ z08 G ((((rows.take m).map z0z).take i).map nmsD) ys) ⟨Same.refl _, .nil⟩ (fun i ys G hi hp => ?_) (fun i u ys G hu hp => ?_) (fun ts G3 hp => ?_)
 ·obtain ⟨gG, th⟩ := hp
  have := th.length
  rw [List.length_map, List.length_take] at this
  exact ⟨SqL.of (gG _ _ eq), z0d (by omega)⟩
 ·obtain ⟨gG, th⟩ := hp
  have hi : i < m := by
   have := (List.getElem?_eq_some_iff.mp hu).1
   omega
  rw [List.getElem?_take_of_lt hi] at hu
  obtain ⟨d, ed, td⟩ := (z08.keep gG _ _ tO2).at i u hu
  rw [List.getElem?_map] at ed
  obtain ⟨wr, ew, rfl⟩ := Option.map_eq_some_iff.mp ed
  have hw := List.mem_of_getElem? ew
  obtain ⟨ar, xs, rfl, er, _, tp⟩ := z0f td
  have lx : xs.length = wr.length := by rw [tp.length, List.length_map]
  have w12 := r12 wr hw
  refine ⟨_, rfl, ar, rfl, ⟨_, SqT.of er⟩, ?_⟩
  refine z21 (xs := xs) (fun j ys2 H2 => H2 = G /\ ys2 = ((z0z wr).take j).map V.str) ⟨rfl, rfl⟩ (fun j ys2 H2 hj hp => ?_) (fun j y2 ys2 H2 hy hp => ?_) (fun ys2 H2 hp => ?_)
  ·obtain ⟨rfl, rfl⟩ := hp
   refine ⟨SqT.of er, z0d ?_⟩
   rw [List.length_map, List.length_take]
   omega
  ·obtain ⟨rfl, rfl⟩ := hp
   obtain ⟨pq, b, e1', rfl, e2'⟩ := z3f tp j y2 hy
   refine ⟨_, rfl, b, _, 0, _, rfl, rfl, SqT.of e2', rfl, rfl, ?_⟩
   have e3 : (z0z wr)[j]? = some pq.1 := by
    unfold z0z
    rw [List.getElem?_map, e1']
    rfl
   rw [z0l e3, List.map_append]
   rfl
  obtain ⟨rfl, rfl⟩ := hp
  have ll : (z0z wr).take xs.length = z0z wr := List.take_of_length_le (by unfold z0z; rw [List.length_map]; omega)
  rw [ll]
  intro D hD
  refine ⟨D, _, rfl, .inl ⟨SqL.of z02, fun t ht => ?_⟩⟩
  have sT := (z01 hD (.lst ((z0z wr).map V.str))).trans (z01 ht (.tup ((z0z wr).map V.str)))
  have lw : (z0z wr).length ≤ 12 := by
   unfold z0z
   rw [List.length_map]
   exact w12
  have eT : upd (upd H2 D (.lst ((z0z wr).map V.str))) t (.tup ((z0z wr).map V.str)) t = some (.tup ((z0z wr).map V.str)) := z02
  generalize upd (upd H2 D (.lst ((z0z wr).map V.str))) t (.tup ((z0z wr).map V.str)) = H5 at sT eT
  refine ⟨gG.trans sT, ?_⟩
  have e4 : ((rows.take m).map z0z)[i]? = some (z0z wr) := by
   rw [List.getElem?_map, List.getElem?_take_of_lt hi, ew]
   rfl
  rw [z0l e4, List.map_append]
  exact (z08.keep sT _ _ th).snoc (z0E eT (by rw [List.length_map]; omega) (z1F _))
 obtain ⟨gG, th⟩ := hp
 rw [lt, List.take_of_length_le (by rw [List.length_map, List.length_take]; omega)] at th
 intro lT hT
 have sT := sq.trans (gG.trans (z01 hT (.lst ts)))
 have eT : upd G3 lT (.lst ts) lT = some (.lst ts) := z02
 have thT := z08.keep (z01 hT (.lst ts)) _ _ th
 generalize upd G3 lT (.lst ts) = H8 at sT eT thT
 have ltm : ts.length = m := by
  have := thT.length
  rw [List.length_map, List.length_map, List.length_take] at this
  omega
 have nT : ∀ v ∈ ts, NmV nm H8 v := fun v hv => by
  obtain ⟨j, hj, e⟩ := List.getElem_of_mem hv
  obtain ⟨d, ed, td⟩ := thT.at j v (by rw [List.getElem?_eq_getElem hj, e])
  rw [List.getElem?_map] at ed
  obtain ⟨zs, ez, rfl⟩ := Option.map_eq_some_iff.mp ed
  rw [List.getElem?_map] at ez
  obtain ⟨w, ew, rfl⟩ := Option.map_eq_some_iff.mp ez
  exact ⟨_, td, R.sub w (List.mem_of_mem_take (List.mem_of_getElem? ew))⟩
 clear th gG sq eq tO2 hlq hT
 have g8 := g7.trans sT
 refine ⟨_, rfl, _, rfl, a, ns, 6, rfl, sT.seq hS7, by decide, _, rfl, ln, nm, _, _, rfl, SqL.of (sT _ _ eN7), gn.lo, gn.hi, by omega, by omega, fun lu xs0 ss H9 nlu s9 e9 st9 len9 sub9 => ?_⟩
 have lx0 : xs0.length = m := by rw [st9.length, len9]; omega
 refine ⟨lu, rfl, ⟨_, SqL.of e9⟩, ?_⟩
 refine z2P (xs := xs0) (fun i ys G => Same H9 G /\ ys.length = i /\ ∀ v ∈ ys, NmV nm G v) ⟨Same.refl _, rfl, fun _ h => nomatch h⟩ (fun i ys G hi hp => ?_) (fun i u ys G hu hp => ?_) (fun os G3 hp => ?_)
 ·obtain ⟨gG, hl, _⟩ := hp
  exact ⟨SqL.of (gG _ _ e9), z0d (by omega)⟩
 ·obtain ⟨gG, hl, hv⟩ := hp
  obtain ⟨zs, ez, b, rfl, _, eb⟩ := z74 st9 i u hu
  have sb := sub9 zs (List.mem_of_getElem? ez)
  have lz : zs.length ≤ 12 := Nat.le_trans sb.length_le gn.hi
  refine ⟨_, rfl, b, _, rfl, .inl ⟨SqL.of (gG _ _ eb), fun t ht => ?_⟩⟩
  have st := z01 ht (.tup (zs.map V.str))
  refine ⟨gG.trans st, by rw [List.length_append, hl]; rfl, fun v hv' => ?_⟩
  rcases List.mem_append.mp hv' with h | h
  ·exact (hv v h).keep st
  ·rw [List.mem_singleton.mp h]
   exact ⟨zs, z0E z02 (by rw [List.length_map]; omega) (z1F _), sb⟩
 obtain ⟨gG, hlo, hvo⟩ := hp
 intro lo hO
 have sO := s9.trans (gG.trans (z01 hO (.lst os)))
 have eO : upd G3 lo (.lst os) lo = some (.lst os) := z02
 have nO : ∀ v ∈ os, NmV nm (upd G3 lo (.lst os)) v := fun v hv => (hvo v hv).keep (z01 hO _)
 generalize upd G3 lo (.lst os) = HA at sO eO nO
 have lom : os.length = m := hlo.trans lx0
 have sA := sT.trans sO
 have gA := g7.trans sA
 have eTA := sO _ _ eT
 have thA := z08.keep sO _ _ thT
 have nTA : ∀ v ∈ ts, NmV nm HA v := fun v hv => (nT v hv).keep sO
 clear gG hvo hO s9 e9 st9 nlu nT thT eT
 have eHA := sA _ _ eH7
 have eNA := sA _ _ eN7
 have eRA := sA _ _ eR7
 have tlA := z08.keep sA _ _ tl7
 refine ⟨_, rfl, _, rfl, _, rfl, lh, lr, hs, us, rows, r, m, rfl, eHA, h60, by omega, hup, SqL.of eRA, tlA, r12, r0, it, fun lk kz HB nlk sB eK tK => ?_⟩
 have lkm : kz.length = m := by rw [tK.length, List.length_map, z1q]
 refine ⟨_, rfl, _, rfl, by omega, by omega, ?_⟩
 have eTB := sB _ _ eTA
 have eOB := sB _ _ eO
 have nTB : ∀ v ∈ ts, NmV nm HB v := fun v hv => (nTA v hv).keep sB
 have nOB : ∀ v ∈ os, NmV nm HB v := fun v hv => (nO v hv).keep sB
 have emm : ((m : Nat) : Int).toNat = m := by omega
 refine z73 (lo := 0) (n := ((m : Nat) : Int).toNat) (fun i ys G => G = HB /\ ys.length = i /\ ∀ v ∈ ys, NmV nm HB v) ⟨rfl, rfl, fun _ h => nomatch h⟩ (fun i ys G hi hp => ?_) (fun i ys G hi hp => ?_) (fun ms G3 hp => ?_)
 ·obtain ⟨rfl, hl, _⟩ := hp
  exact z0d (by omega)
 ·obtain ⟨rfl, hl, hv⟩ := hp
  have hi' : i < m := by omega
  have ei : (0 : Int) + (i : Int) = (i : Int) := Int.zero_add _
  have ak : atI kz ((0 : Int) + (i : Int)) = some kz[i] := by rw [ei]; exact z0J (List.getElem?_eq_getElem (by omega))
  have ao : atI os ((0 : Int) + (i : Int)) = some os[i] := by rw [ei]; exact z0J (List.getElem?_eq_getElem (by omega))
  have at' : atI ts ((0 : Int) + (i : Int)) = some ts[i] := by rw [ei]; exact z0J (List.getElem?_eq_getElem (by omega))
  refine ⟨_, rfl, _, rfl, lk, kz, _, _, rfl, rfl, SqL.of eK, ak, _, rfl, ite2 (fun c => ?_) (fun c => ?_)⟩
  ·refine ⟨_, rfl, _, rfl, lo, os, _, _, rfl, rfl, SqL.of eOB, ao, ?_⟩
   refine ⟨rfl, by rw [List.length_append, hl]; rfl, fun v hv' => ?_⟩
   rcases List.mem_append.mp hv' with h | h
   ·exact hv v h
   ·rw [List.mem_singleton.mp h]
    exact nOB _ (List.getElem_mem _)
  ·refine ⟨_, rfl, _, rfl, lT, ts, _, _, rfl, rfl, SqL.of eTB, at', ?_⟩
   refine ⟨rfl, by rw [List.length_append, hl]; rfl, fun v hv' => ?_⟩
   rcases List.mem_append.mp hv' with h | h
   ·exact hv v h
   ·rw [List.mem_singleton.mp h]
    exact nTB _ (List.getElem_mem _)
 obtain ⟨rfl, lms, nM⟩ := hp
 rw [emm] at lms
 intro lM hM
 have sM := z01 hM (.lst ms)
 have eM : upd G3 lM (.lst ms) lM = some (.lst ms) := z02
 generalize upd G3 lM (.lst ms) = HC at sM eM
 have sC := sA.trans (sB.trans sM)
 have sBM := sB.trans sM
 refine ⟨_, rfl, lT, ts, rfl, .inl ⟨SqL.of (sM _ _ eTB), fun t1 ht1 => ⟨_, rfl, lM, ms, rfl, .inl ⟨SqL.of (z01 ht1 _ _ _ eM), fun t2 ht2 => ?_⟩⟩⟩⟩
 have st1 := z01 ht1 (.tup ts)
 have st2 := z01 ht2 (.tup ms)
 have et1 : upd (upd HC t1 (.tup ts)) t2 (.tup ms) t1 = some (.tup ts) := st2 _ _ z02
 have et2 : upd (upd HC t1 (.tup ts)) t2 (.tup ms) t2 = some (.tup ms) := z02
 have s12 := st1.trans st2
 generalize upd (upd HC t1 (.tup ts)) t2 (.tup ms) = HD at st2 et1 et2 s12
 have sD := sC.trans s12
 have tru : Tell HD (z2Z ((rows.take m).map z0z)) (.ref t1) := z0E et1 (by rw [List.length_map, List.length_map, List.length_take]; omega) (z08.keep (sBM.trans s12) _ _ thA)
 have co1 : CoV nm HD (.ref t1) := ⟨_, tru, fun zs hz => by
  obtain ⟨w, hw, rfl⟩ := List.mem_map.mp hz
  exact R.sub w (List.mem_of_mem_take hw)⟩
 have co2 : CoV nm HD (.ref t2) := y4s et2 (by omega) fun v hv => (nM v hv).keep (sM.trans s12)
 have eTD := s12 _ _ (sM _ _ eTB)
 have eOD := s12 _ _ (sM _ _ eOB)
 have eKD := s12 _ _ (sM _ _ eK)
 have tKD := z08.keep (sM.trans s12) _ _ tK
 have nOD : ∀ v ∈ os, NmV nm HD v := fun v hv => (nOB v hv).keep (sM.trans s12)
 have nTD : ∀ v ∈ ts, NmV nm HD v := fun v hv => (nTB v hv).keep (sM.trans s12)
 refine ⟨le2, fun lcs hcs => ?_⟩
 have scs := z01 hcs (.lst [V.ref t1, V.ref t2])
 have ecs : upd HD lcs (.lst [V.ref t1, V.ref t2]) lcs = some (.lst [V.ref t1, V.ref t2]) := z02
 generalize upd HD lcs (.lst [V.ref t1, V.ref t2]) = HE at scs ecs
 clear thA nTA nO nTB nOB nM hM ht1 st1 sM sBM eM et2 st2
 refine ⟨_, rfl, a, ns, 7, rfl, (sD.trans scs).seq hS7, by decide, _, _, _, rfl, by decide, by decide, by decide, by decide, fun lf js HF nlf sF eF lenF allF => ?_⟩
 have nfc : lf ≠ lcs := fun e => by rw [e, ecs] at nlf; cases nlf
 have sEF := scs.trans sF
 have l6 : js.length = 6 := lenF
 refine ⟨lf, rfl, ⟨_, SqL.of eF⟩, z1I (K := K) (a := lf) (xs := js.map V.int) (fun i σ G => ∃ (vcs : List V) (o14 o15 : Option V), Same HD G /\ G lf = some (.lst (js.map V.int)) /\ G lcs = some (.lst vcs) /\ vcs.length = 2 + i /\ vcs[0]? = some (.ref t1) /\ (∀ v ∈ vcs, CoV nm G v) /\
   σ = [some (.ref a), some (.ref ln), some (.ref lr), some (.int r), some (.ref lh), some (.int m), some (.ref x), o7, o8, some (.ref lT), some (.ref lo), some (.ref lk), some (.ref lM), some (.ref lcs), o14, o15, none, none]) ⟨_, none, none, sEF, eF, sF _ _ ecs, rfl, rfl, fun v hv => ?_, rfl⟩ (fun i σ G _ ⟨_, _, _, _, e, _⟩ => SqL.of e) ?_ ?_⟩
 ·rcases List.mem_cons.mp hv with rfl | hv
  ·exact co1.keep sEF
  ·rw [List.mem_singleton.mp hv]
   exact co2.keep sEF
 ·rintro i u σ G hi ⟨vcs, o14, o15, g, ef, ec, lc, v0, co, rfl⟩
  rw [List.getElem?_map] at hi
  obtain ⟨j, ej, rfl⟩ := Option.map_eq_some_iff.mp hi
  have hj := allF j (List.mem_of_getElem? ej)
  have hi6 : i < 6 := by
   have := (List.getElem?_eq_some_iff.mp ej).1
   omega
  refine ⟨_, rfl, lT, ts, rfl, .inl (SqL.of (g _ _ eTD)), fun lb hlb => ?_⟩
  have sb := z01 hlb (.lst ts)
  have eb : upd G lb (.lst ts) lb = some (.lst ts) := z02
  have nbc : lb ≠ lcs := fun e => by rw [e, ec] at hlb; cases hlb
  have nbf : lb ≠ lf := fun e => by rw [e, ef] at hlb; cases hlb
  have hbD : HD lb = none := g.free hlb
  generalize upd G lb (.lst ts) = G1 at sb eb
  have g1 := g.trans sb
  refine ⟨_, rfl, _, _, rfl, rfl, _, rfl, ite2 (fun c => ?_) (fun c => ?_)⟩
  ·have c' := z0G c
   obtain ⟨k, ek, hk⟩ : ∃ k : Nat, j % (m : Int) = (k : Int) /\ k < m := ⟨(j % (m : Int)).toNat, by have := Int.emod_nonneg j (b := (m : Int)) (by omega); omega, by have := Int.emod_nonneg j (b := (m : Int)) (by omega); have := Int.emod_lt_of_pos j c'; omega⟩
   have ao : atI os (j % (m : Int)) = some os[k] := by rw [ek]; exact z0J (List.getElem?_eq_getElem (by omega))
   have ix : ixN ts.length (j % (m : Int)) = some k := by rw [ek]; exact y1h (by omega) (by omega)
   refine ⟨_, rfl, _, rfl, _, rfl, _, _, rfl, rfl, c', lo, os, _, _, rfl, rfl, SqL.of (g1 _ _ eOD), ao, _, rfl, _, rfl, _, rfl, _, _, rfl, rfl, c', lb, ts, _, k, rfl, rfl, eb, ix, ?_⟩
   have nB : ∀ v ∈ ts.set k os[k], NmV nm HD v := fun v hv => by
    rcases List.mem_or_eq_of_mem_set hv with h | h
    ·exact nTD v h
    ·rw [h]
     exact nOD _ (List.getElem_mem _)
   have g2 : Same HD (upd G1 lb (.lst (ts.set k os[k]))) := z1z g1 hbD
   have eb2 : upd G1 lb (.lst (ts.set k os[k])) lb = some (.lst (ts.set k os[k])) := z02
   have ec2 : upd G1 lb (.lst (ts.set k os[k])) lcs = some (.lst vcs) := by rw [z09 nbc.symm]; exact sb _ _ ec
   have ef2 : upd G1 lb (.lst (ts.set k os[k])) lf = some (.lst (js.map V.int)) := by rw [z09 nbf.symm]; exact sb _ _ ef
   have co2 : ∀ v ∈ vcs, CoV nm (upd G1 lb (.lst (ts.set k os[k]))) v := fun v hv => ((co v hv).keep sb).over eb
   generalize upd G1 lb (.lst (ts.set k os[k])) = G2 at g2 eb2 ec2 ef2 co2
   refine ⟨_, rfl, .inl ⟨rfl, _, SqL.of ec2⟩, _, rfl, lb, _, rfl, .inl ⟨SqL.of eb2, fun t ht => ?_⟩⟩
   have st := z01 ht (.tup (ts.set k os[k]))
   have et : upd G2 t (.tup (ts.set k os[k])) t = some (.tup (ts.set k os[k])) := z02
   generalize upd G2 t (.tup (ts.set k os[k])) = G3 at st et
   have g3 := g2.trans st
   have ct : CoV nm G3 (.ref t) := y4s et (by rw [List.length_set]; omega) fun v hv => (nB v hv).keep g3
   refine ⟨lcs, vcs, _, rfl, rfl, st _ _ ec2, z0d (by omega), ?_⟩
   refine ⟨vcs ++ [.ref t], _, _, z1z g3 hcs, by rw [z09 nfc]; exact st _ _ ef2, z02, by rw [List.length_append, lc]; rfl, by rw [List.getElem?_append_left (by omega)]; exact v0, fun v hv => ?_, rfl⟩
   rcases List.mem_append.mp hv with h | h
   ·exact ((co2 v h).keep st).over (st _ _ ec2)
   ·rw [List.mem_singleton.mp h]
    exact ct.over (st _ _ ec2)
  ·have ec2 := sb _ _ ec
   have ef2 := sb _ _ ef
   have co2 : ∀ v ∈ vcs, CoV nm G1 v := fun v hv => (co v hv).keep sb
   refine ⟨_, rfl, .inl ⟨rfl, _, SqL.of ec2⟩, _, rfl, lb, _, rfl, .inl ⟨SqL.of eb, fun t ht => ?_⟩⟩
   have st := z01 ht (.tup ts)
   have et : upd G1 t (.tup ts) t = some (.tup ts) := z02
   generalize upd G1 t (.tup ts) = G3 at st et
   have g3 := g1.trans st
   have ct : CoV nm G3 (.ref t) := y4s et (by omega) fun v hv => (nTD v hv).keep g3
   refine ⟨lcs, vcs, _, rfl, rfl, st _ _ ec2, z0d (by omega), ?_⟩
   refine ⟨vcs ++ [.ref t], _, _, z1z g3 hcs, by rw [z09 nfc]; exact st _ _ ef2, z02, by rw [List.length_append, lc]; rfl, by rw [List.getElem?_append_left (by omega)]; exact v0, fun v hv => ?_, rfl⟩
   rcases List.mem_append.mp hv with h | h
   ·exact ((co2 v h).keep st).over (st _ _ ec2)
   ·rw [List.mem_singleton.mp h]
    exact ct.over (st _ _ ec2)
 rintro σ HG ⟨vcs, o14, o15, sG, _, ecG, lcG, v0, coG, rfl⟩
 rw [List.length_map, l6] at lcG
 obtain ⟨vr, rfl⟩ : ∃ vr, vcs = .ref t1 :: vr := by
  cases vcs with
  | nil => cases v0
  | cons v vr => cases v0; exact ⟨vr, rfl⟩
 obtain ⟨cs, tcs, lcs', c0, l8⟩ : ∃ cs : List (List (List Str)), z08 HG (cs.map z2Z) (.ref t1 :: vr) /\ (∀ c ∈ cs, ∀ zs ∈ c, zs.Sublist nm) /\ cs[0]? = some ((rows.take m).map z0z) /\ cs.length = 8 := by
  obtain ⟨cr, tcr, lcr⟩ := y3K fun v hv => coG v (List.mem_cons_of_mem _ hv)
  have tcs : z08 HG ((((rows.take m).map z0z) :: cr).map z2Z) (.ref t1 :: vr) := .cons (Tell.keep sG _ _ tru) tcr
  refine ⟨_, tcs, fun c hc => ?_, rfl, ?_⟩
  ·rcases List.mem_cons.mp hc with rfl | hc
   ·intro zs hz
    obtain ⟨w, hw, rfl⟩ := List.mem_map.mp hz
    exact R.sub w (List.mem_of_mem_take hw)
   ·exact lcr c hc
  ·have := tcs.length
   rw [List.length_map] at this
   omega
 have c100 : ∀ c ∈ cs, ∀ zs ∈ c, zs.length ≤ 100 := fun c hc zs hz => by
  have := (lcs' c hc zs hz).length_le
  have := gn.hi
  omega
 have sDG := sD.trans sG
 have eNG := sDG _ _ eN7
 have eRG := sDG _ _ eR7
 have eHG := sDG _ _ eH7
 have tlG := z08.keep sDG _ _ tl7
 have hSG := sDG.seq hS7
 have eKG := sG _ _ eKD
 have tKG := z08.keep sG _ _ tKD
 have bkG := O.same bk7 sDG
 refine ⟨le1, fun l1 hl1 => ⟨l1, 8, _, rfl, rfl, z02, by decide, by decide, by decide, fun lrd hrd => ?_⟩⟩
 have sR := (z01 hl1 (.lst [V.bl false])).trans (z01 hrd (.lst (List.replicate 8 [V.bl false]).flatten))
 have eB : upd (upd HG l1 (.lst [V.bl false])) lrd (.lst (List.replicate 8 [V.bl false]).flatten) lrd = some (.lst ((List.replicate 8 false).map V.bl)) := z02
 have hrdG : HG lrd = none := (z01 hl1 (.lst [V.bl false])).free hrd
 show y0m 16 (V.ref lrd) _ (upd (upd HG l1 (.lst [V.bl false])) lrd (.lst (List.replicate 8 [V.bl false]).flatten)) _
 generalize upd (upd HG l1 (.lst [V.bl false])) lrd (.lst (List.replicate 8 [V.bl false]).flatten) = HH at sR eB
 refine ⟨_, rfl, 1, m, rfl, ⟨by decide, by decide, by omega, by omega⟩, ?_⟩
 refine z5j (lo := 1) (n := ((m : Int) - 1).toNat) (fun k => !decide (k ∈ hs)) (fun k => .int k) (by omega) (fun k ys N k0 k1 hN => ?_) ?_
 ·refine ⟨_, rfl, _, rfl, lh, _, rfl, .inl (SqL.of (sR _ _ eHG)), rfl, z3H hs, _, rfl, ?_⟩
  rw [if_pos rfl, z4X]
  refine ite2 (fun c => ?_) (fun c => ?_)
  ·rw [if_pos c] at hN
   exact ⟨_, rfl, hN⟩
  ·rw [if_neg c] at hN
   exact hN
 intro ll hll
 have ekw : z1Q (fun k => !decide (k ∈ hs)) (fun k => V.int k) (upI 1 ((m : Int) - 1).toNat) = (z16 hs).map V.int := by
  rw [<- y1M (it.1.imp id fun h => ⟨h.1, by omega⟩) h60 it.2]
  rfl
 rw [ekw]
 have sL := z01 hll (.lst ((z16 hs).map V.int))
 have eL : upd HH ll (.lst ((z16 hs).map V.int)) ll = some (.lst ((z16 hs).map V.int)) := z02
 generalize upd HH ll (.lst ((z16 hs).map V.int)) = HI at sL eL
 have sRL := sR.trans sL
 have eBI := sL _ _ eB
 have nrl : lrd ≠ ll := fun e => by rw [<- e, eB] at hll; cases hll
 have ndf : ∀ {b : Addr} {o : HO}, HG b = some o -> lrd ≠ b := fun e h => by rw [<- h, hrdG] at e; cases e
 have bkI := O.same bkG sRL
 obtain ⟨d3, g3, z3, w3⟩ := O.ins bkI
 refine ⟨_, rfl, x, d3, g3, rfl, z3, w3 _ (by simp), x, fp, nm, r, 1, rows, _, 1, none, rfl, bkI, by decide, by decide, (fun d h => by cases h), fun x5 f5 HJ fn5 sJ sh5 => ?_⟩
 rw [show (wlog rows.length ++ dlog hs).take (Option.getD none (wlog rows.length ++ dlog hs).length) = wlog rows.length ++ dlog hs from List.take_length] at sh5
 have gm : ∀ n, n ∈ gotL (wlog rows.length ++ dlog hs) 1 ↔ n ∈ hs := fun n => y3B n
 generalize gotL (wlog rows.length ++ dlog hs) 1 = had at sh5 gm
 have hadr : ∀ n ∈ had, 1 ≤ n /\ n ≤ (rows.length : Int) := fun n hn => hsr n ((gm n).mp hn)
 have had60 : ∀ n ∈ had, 1 ≤ n /\ n ≤ 60 := fun n hn => h60 n ((gm n).mp hn)
 have ek : z0x m (z0n had) rows r = z0x m hs rows r := z76 fun n => z6s gm h60 n
 have sRJ := sRL.trans sJ
 have kf5 : lrd ∉ f5 := fun mm => by rw [fn5 _ mm] at eBI; cases eBI
 refine ⟨_, rfl, _, rfl, _, rfl, _, rfl, x5, lcs, ln, lk, lrd, f5, nm, r, rows, had, m, cs, _, kz, List.replicate 8 false, rfl, sh5, gn, R, r60, hadr, r0, by omega, it.same gm, sRJ _ _ ecG, z08.keep sRJ _ _ tcs, by omega, c100, sRJ _ _ eNG, sRJ _ _ eKG, by rw [ek]; exact z08.keep sRJ _ _ tKG, sJ _ _ eBI, rfl, ndf ecG, ndf eNG, ndf eKG, kf5, fun k c hk _ => ?_, fun bs HK bK eBK lB rl => ?_⟩
 ·have : k < 8 := by
   have := (List.getElem?_eq_some_iff.mp hk).1
   omega
  rw [List.getElem?_replicate, if_pos this]
 rw [ek] at rl
 have first : ∀ {hs' : List Int} {bs : List Bool}, y1w nm (z0x m hs' rows r) cs bs cs.length -> bs[0]? = some false := fun {hs' bs} h => by
  rcases h 0 _ (by omega) c0 with ⟨_, e⟩ | ⟨h, _⟩
  ·exact e
  ·exact absurd (y1k R mle) h
 have at0 : ∀ {bs : List Bool}, bs[0]? = some false -> atI (bs.map V.bl) 0 = some (.bl false) := fun {bs} h => z0J (j := 0) (by rw [List.getElem?_map, h]; rfl)
 refine ⟨_, rfl, iteF ⟨_, rfl, lrd, _, 0, _, rfl, rfl, SqL.of eBK, at0 (first rl), _, rfl, iteF ?_⟩⟩
 have sK : Same HG HK := fun b o e => bK b o (sRJ _ _ e) fun mm => by rw [List.mem_singleton.mp mm, hrdG] at e; cases e
 have nrd : z3Q HJ [lrd] := fun b hb xs e => by
  rw [List.mem_singleton.mp hb, sJ _ _ eBI] at e
  cases e
 have eLK := bK _ _ (sJ _ _ eL) fun mm => nrl.symm (List.mem_singleton.mp mm)
 have krd : lrd ∉ fp := fun mm => by
  obtain ⟨o, e, _⟩ := O.own bkG _ mm
  rw [hrdG] at e
  cases e
 have bkK := O.keep (O.same bkI sJ) bK (fun b hb => by rw [List.mem_singleton.mp hb]; exact krd) nrd
 refine ⟨_, rfl, _, rfl, a, ns, 8, rfl, sK.seq hSG, by decide, ll, z16 hs, _, rfl, SqL.of eLK, z3t hs, fun lsf ts4 HL nls sL' eS mem4 len4 => ?_⟩
 refine ⟨_, rfl, lsf, _, rfl, SqL.of eS, fun lq hlq => ?_⟩
 have ecut : cutV (ts4.map V.int) none (some (4 : Int)) = ((ts4.drop (HT.sIx (ts4.map V.int).length 0 none)).take (HT.sIx (ts4.map V.int).length (ts4.map V.int).length (some 4) - HT.sIx (ts4.map V.int).length 0 none)).map V.int := by
  unfold cutV
  rw [List.map_take, List.map_drop]
 have hcs4 : ∀ x ∈ (ts4.drop (HT.sIx (ts4.map V.int).length 0 none)).take (HT.sIx (ts4.map V.int).length (ts4.map V.int).length (some 4) - HT.sIx (ts4.map V.int).length 0 none), x ∈ z16 hs := fun x hx => (mem4 x).mp (List.mem_of_mem_drop (List.mem_of_mem_take hx))
 have lcs4 : ((ts4.drop (HT.sIx (ts4.map V.int).length 0 none)).take (HT.sIx (ts4.map V.int).length (ts4.map V.int).length (some 4) - HT.sIx (ts4.map V.int).length 0 none)).length ≤ 120 := by
  rw [List.length_take, List.length_drop]
  omega
 rw [ecut]
 generalize (ts4.drop (HT.sIx (ts4.map V.int).length 0 none)).take (HT.sIx (ts4.map V.int).length (ts4.map V.int).length (some 4) - HT.sIx (ts4.map V.int).length 0 none) = qs at hcs4 lcs4
 have sq := z01 hlq (.lst (qs.map V.int))
 have eQ : upd HL lq (.lst (qs.map V.int)) lq = some (.lst (qs.map V.int)) := z02
 have sKZ := sL'.trans sq
 have bkZ := O.same bkK sKZ
 have kq : ∀ {b : Addr} {o : HO}, HL b = some o -> lq ≠ b := fun e h => by rw [<- h, hlq] at e; cases e
 have kqf : lq ∉ fp := fun mm => by
  obtain ⟨o, e, _⟩ := O.own (O.same bkK sL') _ mm
  rw [hlq] at e
  cases e
 have kqh : lq ≠ lh := kq (sL' _ _ (sK _ _ eHG))
 have kqr : lq ≠ lrd := kq (sL' _ _ eBK)
 generalize upd HL lq (.lst (qs.map V.int)) = HZ at sq eQ sKZ bkZ
 have sZ := sK.trans sKZ
 have qr : ∀ n ∈ qs, 1 ≤ n /\ n ≤ (m : Int) := fun n hn => by
  obtain ⟨h1, _, y, hy, h3⟩ := z1o.mp (hcs4 n hn)
  have := it.2 y hy
  omega
 have kcs : lcs ∉ lh :: lrd :: fp := fun mm => by
  rcases List.mem_cons.mp mm with h | mm
  ·rw [h, sD _ _ eH7] at hcs
   cases hcs
  rcases List.mem_cons.mp mm with h | mm
  ·exact ndf ecG h.symm
  ·obtain ⟨o, e, _⟩ := O.own (O.same bk7 sD) _ mm
   rw [hcs] at e
   cases e
 have kin : ∀ {b : Addr}, b ≠ lh -> b ≠ lrd -> b ∉ fp -> b ∉ lh :: lrd :: fp := fun h1 h2 h3 mm => by
  rcases List.mem_cons.mp mm with h | mm
  ·exact h1 h
  rcases List.mem_cons.mp mm with h | mm
  ·exact h2 h
  ·exact h3 mm
 have kN' := kin dif.1.symm (ndf eNG).symm kN
 have kR' := kin dif.2.symm (ndf eRG).symm kR
 have kQ' := kin kqh kqr kqf
 have ntZ : z3Q HZ (lh :: lrd :: fp) := fun b hb xs e => by
  rcases List.mem_cons.mp hb with h | hb
  ·rw [h, sZ _ _ eHG] at e
   cases e
  rcases List.mem_cons.mp hb with h | hb
  ·rw [h, sKZ _ _ eBK] at e
   cases e
  ·exact O.noTup bkZ b hb xs e
 have ecZ := sZ _ _ ecG
 have eNZ := sZ _ _ eNG
 have eRZ := sZ _ _ eRG
 have tlZ := z08.keep sZ _ _ tlG
 have tcZ := z08.keep sZ _ _ tcs
 have hlr : lh ≠ lrd := (ndf eHG).symm
 refine ⟨lq, rfl, ⟨_, SqL.of eQ⟩, z1I (K := K) (a := lq) (xs := qs.map V.int) (fun i σ G => ∃ (hs' : List Int) (bs : List Bool) (lk' : Addr) (p8 : Option V), z0q (lh :: lrd :: fp) HZ G /\ G lh = some (.lst (hs'.map V.int)) /\ (∀ n, n ∈ hs' ↔ n ∈ hs ++ qs.take i) /\ hs'.length ≤ 60 + i /\ Bk G x fp nm r 1 rows (wlog rows.length ++ dlog (hs ++ qs.take i)) /\
   G lrd = some (.lst (bs.map V.bl)) /\ bs.length = 8 /\ y1w nm (z0x m hs' rows r) cs bs cs.length /\
   σ = [some (.ref a), some (.ref ln), some (.ref lr), some (.int r), some (.ref lh), some (.int m), some (.ref x), o7, p8, some (.ref lT), some (.ref lo), some (.ref lk'), some (.ref lM), some (.ref lcs), o14, o15, some (.ref lrd), some (.ref ll)])
  ⟨hs, bs, lk, _, .of (Same.refl _), sZ _ _ eHG, fun n => by rw [List.take_zero, List.append_nil], by omega, by rw [List.take_zero, List.append_nil]; exact bkZ, sKZ _ _ eBK, lB, rl, rfl⟩ (fun i σ G _ ⟨_, _, _, _, g, _⟩ => SqL.of (g _ _ eQ kQ')) ?_ (fun σ G _ => q G)⟩
 rintro i u σ G hi ⟨hs', bs', lk', p8, g, eh, mh, lh', bk, eb, l8', rl', rfl⟩
 rw [List.getElem?_map] at hi
 obtain ⟨n, en, rfl⟩ := Option.map_eq_some_iff.mp hi
 have hn := qr n (List.mem_of_getElem? en)
 have hi120 : i < 120 := by
  have := (List.getElem?_eq_some_iff.mp en).1
  omega
 obtain ⟨d2, g2, z2, w2⟩ := O.ins bk
 have llog : (wlog rows.length ++ dlog (hs ++ qs.take i)).length < 400 := by
  rw [List.length_append, z7S]
  unfold dlog
  rw [List.length_map, List.length_append, List.length_take]
  omega
 refine ⟨_, rfl, x, d2, g2, rfl, z2, w2 _ (by simp), _, rfl, x, fp, nm, r, 1, rows, _, 1, n, rfl, bk, by decide, by decide, hn.1, by omega, llog, fun G1 b1 bk1 => ?_⟩
 rw [List.append_assoc, <- z8g, List.append_assoc, <- z0l en] at bk1
 have gb1 : z0q (lh :: lrd :: fp) HZ G1 := fun b o e nb => b1 b o (g b o e nb) fun mm => nb (List.mem_cons_of_mem _ (List.mem_cons_of_mem _ mm))
 have eh1 := b1 _ _ eh kH
 have eb1 := b1 _ _ eb krd
 refine ⟨_, rfl, _, rfl, lh, _, rfl, .inl (SqL.of eh1), rfl, z3H hs', _, rfl, ?_⟩
 rw [if_pos rfl, z4X]
 refine ite2 (fun c => ?pos) (fun c => ?neg)
 case' pos =>
  have c' : n ∉ hs' := of_decide_eq_true (by simpa using c)
  refine ⟨_, rfl, .inl ⟨rfl, _, SqL.of eh1⟩, _, rfl, lh, _, _, rfl, rfl, eh1, z0d (by rw [List.length_map]; omega), ?_⟩
  have f1 : z0q (lh :: lrd :: fp) HZ (upd G1 lh (.lst (hs'.map V.int ++ [V.int n]))) := fun b o e nb => by
   rw [z09 (fun h => nb (by rw [h]; exact List.mem_cons_self))]
   exact gb1 b o e nb
  have f2 : upd G1 lh (.lst (hs'.map V.int ++ [V.int n])) lh = some (.lst ((hs' ++ [n]).map V.int)) := by
   rw [z02, List.map_append]
   rfl
  have f3 : upd G1 lh (.lst (hs'.map V.int ++ [V.int n])) lrd = some (.lst (bs'.map V.bl)) := by
   rw [z09 hlr.symm]
   exact eb1
  have f4 : Bk (upd G1 lh (.lst (hs'.map V.int ++ [V.int n]))) x fp nm r 1 rows (wlog rows.length ++ dlog (hs ++ qs.take (i + 1))) := O.keep (gp := [lh]) bk1 (fun b o e nb => by
   rw [z09 (fun h => nb (by rw [h]; exact List.mem_singleton.mpr rfl))]
   exact e) (fun b hb => by rw [List.mem_singleton.mp hb]; exact kH) fun b hb xs e => by
    rw [List.mem_singleton.mp hb, eh1] at e
    cases e
  have f5' : ∀ k, k ∈ hs' ++ [n] ↔ k ∈ hs ++ qs.take (i + 1) := fun k => by
   rw [z0l en, <- List.append_assoc, List.mem_append, List.mem_append, mh]
  have f6 : (hs' ++ [n]).length ≤ 60 + (i + 1) := by
   rw [List.length_append]
   exact Nat.succ_le_succ lh'
  have f7 : ∀ k ∈ hs', k ∈ hs' ++ [n] := fun k hk => List.mem_append_left _ hk
  generalize upd G1 lh (.lst (hs'.map V.int ++ [V.int n])) = G2 at f1 f2 f3 f4
  generalize hs' ++ [n] = hs2 at f2 f5' f6 f7
 case' neg =>
  have c' : n ∈ hs' := by simpa using c
  have f1 := gb1
  have f3 := eb1
  have f4 := bk1
  obtain ⟨hs2, f2, f5', f6, f7⟩ : ∃ hs2 : List Int, G1 lh = some (.lst (hs2.map V.int)) /\ (∀ k, k ∈ hs2 ↔ k ∈ hs ++ qs.take (i + 1)) /\ hs2.length ≤ 60 + (i + 1) /\ ∀ k ∈ hs', k ∈ hs2 := ⟨hs', eh1, fun k => by
   rw [z0l en, <- List.append_assoc, List.mem_append (t := [n]), <- mh, List.mem_singleton]
   exact ⟨.inl, fun h => h.elim id fun e => e ▸ c'⟩, by omega, fun _ h => h⟩
  generalize G1 = G2 at f1 f2 f3 f4
 all_goals
  have h2m : ∀ k ∈ hs2, (1 ≤ k /\ k ≤ 60) /\ k ≤ (m : Int) := fun k hk => by
   rcases List.mem_append.mp ((f5' k).mp hk) with h | h
   ·exact ⟨h60 k h, it.2 k h⟩
   ·have := qr k (List.mem_of_mem_take h)
    omega
  have h260 : ∀ k ∈ hs2, 1 ≤ k /\ k ≤ 60 := fun k hk => (h2m k hk).1
  have h2r : ∀ k ∈ hs2, 1 ≤ k /\ k ≤ (rows.length : Int) := fun k hk => by have := h2m k hk; omega
  have it2 : z4T hs2 m := by
   refine ⟨?_, fun y hy => (h2m y hy).2⟩
   rcases it.1 with h | ⟨h, h0⟩
   ·exact .inl ((f5' _).mpr (List.mem_append_left _ h))
   ·refine .inr ⟨List.eq_nil_iff_forall_not_mem.mpr fun y hy => ?_, h0⟩
    rcases List.mem_append.mp ((f5' y).mp hy) with h' | h'
    ·rw [h] at h'
     cases h'
    ·obtain ⟨_, _, w, hw, _⟩ := z1o.mp (hcs4 y (List.mem_of_mem_take h'))
     rw [h] at hw
     cases hw
  refine ⟨_, rfl, _, rfl, _, rfl, lh, lr, hs2, us, rows, r, m, rfl, f2, h260, by omega, fun k hk => (h2r k hk).2, SqL.of (f1 _ _ eRZ kR'), z08.but f1 ntZ _ _ tlZ, r12, r0, it2, fun lk2 kz2 G3 nlk2 s3 eK2 tK2 => ?_⟩
  have bk3 := O.same f4 s3
  obtain ⟨d4, g4, z4, w4⟩ := O.ins bk3
  refine ⟨_, rfl, x, d4, g4, rfl, z4, w4 _ (by simp), x, fp, nm, r, 1, rows, _, 1, none, rfl, bk3, by decide, by decide, (fun d h => by cases h), fun x6 f6' G4 fn6 s4 sh6 => ?_⟩
  rw [show (wlog rows.length ++ dlog (hs ++ qs.take (i + 1))).take (Option.getD none (wlog rows.length ++ dlog (hs ++ qs.take (i + 1))).length) = wlog rows.length ++ dlog (hs ++ qs.take (i + 1)) from List.take_length] at sh6
  have gm2 : ∀ k, k ∈ gotL (wlog rows.length ++ dlog (hs ++ qs.take (i + 1))) 1 ↔ k ∈ hs2 := fun k => (y3B k).trans (f5' k).symm
  generalize gotL (wlog rows.length ++ dlog (hs ++ qs.take (i + 1))) 1 = had2 at sh6 gm2
  have hadr2 : ∀ k ∈ had2, 1 ≤ k /\ k ≤ (rows.length : Int) := fun k hk => h2r k ((gm2 k).mp hk)
  have ek2 : z0x m (z0n had2) rows r = z0x m hs2 rows r := z76 fun k => z6s gm2 h260 k
  have s34 := s3.trans s4
  have f34 := f1.then s34
  have eb4 := s34 _ _ f3
  have kf6 : lrd ∉ f6' := fun mm => by rw [s3.free (fn6 _ mm)] at f3; cases f3
  have nlk : lrd ≠ lk2 := fun e => by rw [<- e, f3] at nlk2; cases nlk2
  refine ⟨_, rfl, _, rfl, _, rfl, _, rfl, x6, lcs, ln, lk2, lrd, f6', nm, r, rows, had2, m, cs, _, kz2, bs', rfl, sh6, gn, R, r60, hadr2, r0, by omega, it2.same gm2, f34 _ _ ecZ kcs, z08.but f34 ntZ _ _ tcZ, by omega, c100, f34 _ _ eNZ kN', s4 _ _ eK2, by rw [ek2]; exact z08.keep s4 _ _ tK2, eb4, l8', ndf ecG, ndf eNG, nlk, kf6, fun k c hk hf => ?_, fun bs2 G5 b5 eb5 lb5 rl5 => ?_⟩
  ·rw [ek2] at hf
   rcases rl' k c (List.getElem?_eq_some_iff.mp hk).1 hk with ⟨_, e⟩ | ⟨hn', _⟩
   ·exact e
   ·exact absurd (y1F f7 h260 hf) hn'
  rw [ek2] at rl5
  refine ⟨_, rfl, iteF ⟨_, rfl, lrd, _, 0, _, rfl, rfl, SqL.of eb5, at0 (first rl5), _, rfl, iteF ?_⟩⟩
  refine ⟨hs2, bs2, lk2, _, fun b o e nb => b5 b o (f34 b o e nb) fun mm => nb (by rw [List.mem_singleton.mp mm]; exact List.mem_cons_of_mem _ List.mem_cons_self), b5 _ _ (s34 _ _ f2) (fun mm => hlr (List.mem_singleton.mp mm)), f5', f6, O.keep (O.same bk3 s4) b5 (fun b hb => by rw [List.mem_singleton.mp hb]; exact krd) (fun b hb xs e => ?_), eb5, lb5, rl5, rfl⟩
  rw [List.mem_singleton.mp hb, eb4] at e
  cases e
end
theorem y5q {l : PySem.W.OpenLaw} {w : World} {K : PySem.W.Frag} {h : Heap} {mg : Str -> Option Value} {fa : Addr} (X : K.In h) (G : h.Ns mainGlobals mg) (hfa : mg "law" = some (.ref fa))
  {f0 f1 f2 f3 f4 f5 f6 f7 f8 f9 f10 f11 f12 f13 f14 f15 f16 f17 f18 f19 f20 f21 f22 f23 f24 f25 f26 f27 f28 f29 f30 f31 f32 f33 f34 f35 f36 f37 f38 f39 f40 f41 f42 f43 f44 f45 f46 f47 f48 f49 f50 f51 f52 f53 f54 f55 f56 f57 f58 f59 f60 f61 COffice CShelf CBook T43 : Addr} {tMOST_NAMES tMOST_REACH tMOST_NUMBERS tMOST_VALUE tMOST_READERS tMOST_DEEDS tWRITE tDELIVER : Tok}
  (cOffice : DfC K "Office" COffice)
  (cShelf : DfC K "Shelf" CShelf)
  (cBook : DfC K "Book" CBook)
  (nOffice_names : PySem.W.findIn K (.ref COffice) "names" = some none)
  (nOffice_reach : PySem.W.findIn K (.ref COffice) "reach" = some none)
  (nOffice_written : PySem.W.findIn K (.ref COffice) "written" = some none)
  (nShelf_names : PySem.W.findIn K (.ref CShelf) "names" = some none)
  (nShelf_reach : PySem.W.findIn K (.ref CShelf) "reach" = some none)
  (nShelf_issues : PySem.W.findIn K (.ref CShelf) "issues" = some none)
  (nBook_office : PySem.W.findIn K (.ref CBook) "office" = some none)
  (nBook_readers : PySem.W.findIn K (.ref CBook) "readers" = some none)
  (nBook_done : PySem.W.findIn K (.ref CBook) "done" = some none)
  (a0 : DfT K "lacking_numbers" z29 .none f0)
  (a1 : DfT K "reached_by" z4u .none f1)
  (a2 : DfT K "teller_of" z5h .none f2)
  (a3 : DfT K "lacking_with_tellers" z1n .none f3)
  (a4 : DfT K "dark_numbers" z38 .none f4)
  (a5 : DfT K "refuse_bad_names" z1X .none f5)
  (a6 : DfT K "refuse_bad_reach" z1T .none f6)
  (a7 : DfT K "bulletin_names" z2i .none f7)
  (a8 : DfT K "refuse_unknown_name" z1v .none f8)
  (a9 : DfT K "names_told_of" z2L .none f9)
  (a10 : DfT K "gaps_of" z7z .none f10)
  (a11 : DfT K "tail_for" z6n .none f11)
  (a12 : DfT K "refuse_bad_value" z1U .none f12)
  (a13 : DfT K "refuse_bad_rows" z26 .none f13)
  (a14 : DfT K "rows_in_order" z2G .none f14)
  (a15 : DfT K "names_of_rows" z2A .none f15)
  (a16 : DfM K COffice "__init__" "Office.__init__" z25 .none f16)
  (a17 : DfM K COffice "refuse_writing" "Office.refuse_writing" z19 .none f17)
  (a18 : DfM K COffice "write" "Office.write" z36 .none f18)
  (a19 : DfM K COffice "latest" "Office.latest" z2F .none f19)
  (a20 : DfM K COffice "issue" "Office.issue" z2X .none f20)
  (a21 : DfT K "known_sets" z4p .none f21)
  (a22 : DfT K "is_choice" z55 .none f22)
  (a23 : DfT K "may_stand" z5k .none f23)
  (a24 : DfT K "fits" y4F .none f24)
  (a25 : DfT K "two_to_the" z44 .none f25)
  (a26 : DfT K "course_count" z32 .none f26)
  (a27 : DfM K CShelf "__init__" "Shelf.__init__" z2n .none f27)
  (a28 : DfM K CShelf "put" "Shelf.put" z5v .none f28)
  (a29 : DfM K CShelf "had" "Shelf.had" z59 .none f29)
  (a30 : DfM K CShelf "latest" "Shelf.latest" z3a .none f30)
  (a31 : DfM K CShelf "rows_of" "Shelf.rows_of" z2N .none f31)
  (a32 : DfM K CShelf "tail_of" "Shelf.tail_of" z2M .none f32)
  (a33 : DfT K "refuse_bad_readers" z1A .none f33)
  (a34 : DfM K CBook "__init__" "Book.__init__" z2z .none f34)
  (a35 : DfM K CBook "refuse_unknown_reader" "Book.refuse_unknown_reader" z0M .none f35)
  (a36 : DfM K CBook "refuse_further_deed" "Book.refuse_further_deed" z0U .none f36)
  (a37 : DfM K CBook "write" "Book.write" z48 .none f37)
  (a38 : DfM K CBook "deliver" "Book.deliver" z37 .none f38)
  (a39 : DfM K CBook "latest" "Book.latest" z3v .none f39)
  (a40 : DfM K CBook "issue" "Book.issue" z49 .none f40)
  (a41 : DfM K CBook "deeds" "Book.deeds" z4q .none f41)
  (a42 : DfM K CBook "deed" "Book.deed" z5m .none f42)
  (a43 : DfM K CBook "shelf" "Book.shelf" z4s (.ref T43) f43)
  (a44 : DfT K "_law_at" z7M .none f44)
  (a45 : DfT K "_law_pick" z5f .none f45)
  (a46 : DfT K "_law_row" z6A .none f46)
  (a47 : DfT K "_law_whole" z4y .none f47)
  (a48 : DfT K "_law_named" z4k .none f48)
  (a49 : DfT K "_law_doubled" z33 .none f49)
  (a50 : DfT K "_law_sets" z5r .none f50)
  (a51 : DfT K "_law_value" z4A .none f51)
  (a52 : DfT K "_law_valued" z3B .none f52)
  (a53 : DfT K "_law_had" z6N .none f53)
  (a54 : DfT K "_law_shuffled" z2K .none f54)
  (a55 : DfT K "_law_teller" z3x .none f55)
  (a56 : DfT K "_law_known" z4j .none f56)
  (a57 : DfT K "_law_course" z3A .none f57)
  (a58 : DfT K "_law_numbers" z3b .none f58)
  (a59 : DfT K "_law_names" z4i .none f59)
  (a60 : DfT K "_law_asked_all" z2k .none f60)
  (a61 : DfT K "law" slaw .none f61)
  (d43 : DfD K T43 #[Value.none])
  (zlen : PySem.W.nsIn K mainGlobals "len" = some none) (zrange : PySem.W.nsIn K mainGlobals "range" = some none) (ztuple : PySem.W.nsIn K mainGlobals "tuple" = some none) (zlist : PySem.W.nsIn K mainGlobals "list" = some none) (zmax : PySem.W.nsIn K mainGlobals "max" = some none) (zmin : PySem.W.nsIn K mainGlobals "min" = some none) (zsorted : PySem.W.nsIn K mainGlobals "sorted" = some none) (zisinstance : PySem.W.nsIn K mainGlobals "isinstance" = some none) (zbool : PySem.W.nsIn K mainGlobals "bool" = some none) (zint : PySem.W.nsIn K mainGlobals "int" = some none) (zstr : PySem.W.nsIn K mainGlobals "str" = some none) (zset : PySem.W.nsIn K mainGlobals "set" = some none) (zreversed : PySem.W.nsIn K mainGlobals "reversed" = some none) (zdict : PySem.W.nsIn K mainGlobals "dict" = some none) (zzip : PySem.W.nsIn K mainGlobals "zip" = some none) (zall : PySem.W.nsIn K mainGlobals "all" = some none) (vMOST_NAMES : PySem.W.nsIn K mainGlobals "MOST_NAMES" = some (some (.int 12 tMOST_NAMES))) (vMOST_REACH : PySem.W.nsIn K mainGlobals "MOST_REACH" = some (some (.int 10 tMOST_REACH))) (vMOST_NUMBERS : PySem.W.nsIn K mainGlobals "MOST_NUMBERS" = some (some (.int 60 tMOST_NUMBERS))) (vMOST_VALUE : PySem.W.nsIn K mainGlobals "MOST_VALUE" = some (some (.int 1000000 tMOST_VALUE))) (vMOST_READERS : PySem.W.nsIn K mainGlobals "MOST_READERS" = some (some (.int 10 tMOST_READERS))) (vMOST_DEEDS : PySem.W.nsIn K mainGlobals "MOST_DEEDS" = some (some (.int 400 tMOST_DEEDS))) (vWRITE : PySem.W.nsIn K mainGlobals "WRITE" = some (some (.str "write" tWRITE))) (vDELIVER : PySem.W.nsIn K mainGlobals "DELIVER" = some (some (.str "deliver" tDELIVER))) :
  ∃ fd : FuncData, (∀ (s : Shared) (v : Value), BindsTo s fd ⟨[v], []⟩ [("_law_script", v)]) /\ ∀ base : Heap, K.In base -> base.Ns mainGlobals mg -> FnOk l.prog w K mg base CX0 14 fa fd ["_law_script"] (y2C K) := by
 have M : Bl mg := ⟨PySem.W.mg_none_of X G zlen, PySem.W.mg_none_of X G zrange, PySem.W.mg_none_of X G ztuple, PySem.W.mg_none_of X G zlist, PySem.W.mg_none_of X G zmax, PySem.W.mg_none_of X G zmin, PySem.W.mg_none_of X G zsorted, PySem.W.mg_none_of X G zisinstance, PySem.W.mg_none_of X G zbool, PySem.W.mg_none_of X G zint, PySem.W.mg_none_of X G zstr, PySem.W.mg_none_of X G zset, PySem.W.mg_none_of X G zreversed, PySem.W.mg_none_of X G zdict, PySem.W.mg_none_of X G zzip, PySem.W.mg_none_of X G zall, ⟨_, PySem.W.mg_of X G vMOST_NAMES⟩, ⟨_, PySem.W.mg_of X G vMOST_REACH⟩, ⟨_, PySem.W.mg_of X G vMOST_NUMBERS⟩, ⟨_, PySem.W.mg_of X G vMOST_VALUE⟩, ⟨_, PySem.W.mg_of X G vMOST_READERS⟩, ⟨_, PySem.W.mg_of X G vMOST_DEEDS⟩, ⟨_, PySem.W.mg_of X G vWRITE⟩, ⟨_, PySem.W.mg_of X G vDELIVER⟩⟩
 have TOffice : TxOffice K mg COffice := ⟨cOffice.cls, cOffice.nm X G, nOffice_names, nOffice_reach, nOffice_written⟩
 have TShelf : TxShelf K mg CShelf := ⟨cShelf.cls, cShelf.nm X G, nShelf_names, nShelf_reach, nShelf_issues⟩
 have TBook : TxBook K mg CBook := ⟨cBook.cls, cBook.nm X G, nBook_office, nBook_readers, nBook_done⟩
 obtain ⟨_, Flacking_numbers⟩ := z0A X G a0
 obtain ⟨_, Freached_by⟩ := z0A X G a1
 obtain ⟨_, Fteller_of⟩ := z0A X G a2
 obtain ⟨_, Flacking_with_tellers⟩ := z0A X G a3
 obtain ⟨_, Fdark_numbers⟩ := z0A X G a4
 obtain ⟨_, Frefuse_bad_names⟩ := z0A X G a5
 obtain ⟨_, Frefuse_bad_reach⟩ := z0A X G a6
 obtain ⟨_, Fbulletin_names⟩ := z0A X G a7
 obtain ⟨_, Frefuse_unknown_name⟩ := z0A X G a8
 obtain ⟨_, Fnames_told_of⟩ := z0A X G a9
 obtain ⟨_, Fgaps_of⟩ := z0A X G a10
 obtain ⟨_, Ftail_for⟩ := z0A X G a11
 obtain ⟨_, Frefuse_bad_value⟩ := z0A X G a12
 obtain ⟨_, Frefuse_bad_rows⟩ := z0A X G a13
 obtain ⟨_, Frows_in_order⟩ := z0A X G a14
 obtain ⟨_, Fnames_of_rows⟩ := z0A X G a15
 obtain ⟨_, FOffice___init__⟩ := z8Z cOffice a16
 obtain ⟨_, FOffice_refuse_writing⟩ := z1l a17
 obtain ⟨_, FOffice_write⟩ := z1l a18
 obtain ⟨_, FOffice_latest⟩ := z1l a19
 obtain ⟨_, FOffice_issue⟩ := z1l a20
 obtain ⟨_, Fknown_sets⟩ := z0A X G a21
 obtain ⟨_, Fis_choice⟩ := z0A X G a22
 obtain ⟨_, Fmay_stand⟩ := z0A X G a23
 obtain ⟨_, Ffits⟩ := z0A X G a24
 obtain ⟨_, Ftwo_to_the⟩ := z0A X G a25
 obtain ⟨_, Fcourse_count⟩ := z0A X G a26
 obtain ⟨_, FShelf___init__⟩ := z8Z cShelf a27
 obtain ⟨_, FShelf_put⟩ := z1l a28
 obtain ⟨_, FShelf_had⟩ := z1l a29
 obtain ⟨_, FShelf_latest⟩ := z1l a30
 obtain ⟨_, FShelf_rows_of⟩ := z1l a31
 obtain ⟨_, FShelf_tail_of⟩ := z1l a32
 obtain ⟨_, Frefuse_bad_readers⟩ := z0A X G a33
 obtain ⟨_, FBook___init__⟩ := z8Z cBook a34
 obtain ⟨_, FBook_refuse_unknown_reader⟩ := z1l a35
 obtain ⟨_, FBook_refuse_further_deed⟩ := z1l a36
 obtain ⟨_, FBook_write⟩ := z1l a37
 obtain ⟨_, FBook_deliver⟩ := z1l a38
 obtain ⟨_, FBook_latest⟩ := z1l a39
 obtain ⟨_, FBook_issue⟩ := z1l a40
 obtain ⟨_, FBook_deeds⟩ := z1l a41
 obtain ⟨_, FBook_deed⟩ := z1l a42
 obtain ⟨_, FBook_shelf⟩ := y2A a43 d43
 have BBook_shelf := FBook_shelf.1.binds (ps := ["self", "reader", "deed"]) (ds := []) fun _ _ _ _ _ _ us hl => len3 (p := fun us => ∃ k, bindArgs _ ⟨us, []⟩ = seqItems? _ >>= k /\ k (some _) = pure (List.zip _ (us ++ []))) hl fun _ _ _ => ⟨_, rfl, rfl⟩
 have BBook_shelfD := FBook_shelf.1.binds (ps := ["self", "reader", "deed"]) (ds := [Value.none]) fun _ _ _ _ _ _ us hl => len2 (p := fun us => ∃ k, bindArgs _ ⟨us, []⟩ = seqItems? _ >>= k /\ k (some _) = pure (List.zip _ (us ++ [Value.none]))) (Nat.succ.inj (hl)) fun _ _ => ⟨_, rfl, rfl⟩
 obtain ⟨_, F_law_at⟩ := z0A X G a44
 obtain ⟨_, F_law_pick⟩ := z0A X G a45
 obtain ⟨_, F_law_row⟩ := z0A X G a46
 obtain ⟨_, F_law_whole⟩ := z0A X G a47
 obtain ⟨_, F_law_named⟩ := z0A X G a48
 obtain ⟨_, F_law_doubled⟩ := z0A X G a49
 obtain ⟨_, F_law_sets⟩ := z0A X G a50
 obtain ⟨_, F_law_value⟩ := z0A X G a51
 obtain ⟨_, F_law_valued⟩ := z0A X G a52
 obtain ⟨_, F_law_had⟩ := z0A X G a53
 obtain ⟨_, F_law_shuffled⟩ := z0A X G a54
 obtain ⟨_, F_law_teller⟩ := z0A X G a55
 obtain ⟨_, F_law_known⟩ := z0A X G a56
 obtain ⟨_, F_law_course⟩ := z0A X G a57
 obtain ⟨_, F_law_numbers⟩ := z0A X G a58
 obtain ⟨_, F_law_names⟩ := z0A X G a59
 obtain ⟨_, F_law_asked_all⟩ := z0A X G a60
 obtain ⟨_, Flaw⟩ := z0A X G a61
 have e := hfa.symm.trans Flaw.2
 cases e
 refine ⟨_, y2p Flaw.1, fun base _ _ => ?_⟩
 have cal := @calF l.prog w K mg base
 have mcl := @mclF l.prog w K mg base
 have mkr := @mkrF l.prog w K mg base
 have G_law_at := cal F_law_at (ok_at M F_law_at.1) (b2 F_law_at.1)
 have G_law_pick := cal F_law_pick (y45 F_law_pick.1) (b2 F_law_pick.1)
 have G_law_row := cal F_law_row (y5r M F_law_row.1) (b3 F_law_row.1)
 have G_law_teller := cal F_law_teller (y0g M F_law_teller.1) (b3 F_law_teller.1)
 have G_law_whole := cal F_law_whole (y3i M F_law_whole.1) (b1 F_law_whole.1)
 have G_law_named := cal F_law_named (y3c M F_law_named.1) (b2 F_law_named.1)
 have G_law_doubled := cal F_law_doubled (y0l M F_law_doubled.1) (b1 F_law_doubled.1)
 have G_law_value := cal F_law_value (y2z F_law_value.1) (b2 F_law_value.1)
 have Grefuse_bad_names := cal Frefuse_bad_names (z9d M Frefuse_bad_names.1) (b1 Frefuse_bad_names.1)
 have Grefuse_bad_reach := cal Frefuse_bad_reach (z92 M Frefuse_bad_reach.1) (b1 Frefuse_bad_reach.1)
 have GShelf_put := mcl TShelf.cl FShelf_put (y4X (CShelf := CShelf) M TShelf FShelf_put.1) (b2 FShelf_put.1)
 have GShelf_had := mcl TShelf.cl FShelf_had (y2M (CShelf := CShelf) M TShelf FShelf_had.1) (b1 FShelf_had.1)
 have Greached_by := cal Freached_by (y03 M Freached_by.1) (b2 Freached_by.1)
 have Grefuse_unknown_name := cal Frefuse_unknown_name (y5i M Frefuse_unknown_name.1) (b2 Frefuse_unknown_name.1)
 have Grefuse_bad_value := cal Frefuse_bad_value (y0O M Frefuse_bad_value.1) (b1 Frefuse_bad_value.1)
 have Grows_in_order := cal Frows_in_order (y0u M Frows_in_order.1) (b2 Frows_in_order.1)
 have Gnames_of_rows := cal Fnames_of_rows (y2B M Fnames_of_rows.1) (b1 Fnames_of_rows.1)
 have GOffice_latest := mcl TOffice.cl FOffice_latest (z8U (COffice := COffice) M TOffice FOffice_latest.1) (b1 FOffice_latest.1)
 have GOffice_issue := mcl TOffice.cl FOffice_issue (y0r (COffice := COffice) M TOffice FOffice_issue.1) (b2 FOffice_issue.1)
 have Grefuse_bad_readers := cal Frefuse_bad_readers (z7y M Frefuse_bad_readers.1) (b1 Frefuse_bad_readers.1)
 have GBook_refuse_unknown_reader := mcl TBook.cl FBook_refuse_unknown_reader (z7U (CBook := CBook) (COffice := COffice) M TBook FBook_refuse_unknown_reader.1) (b2 FBook_refuse_unknown_reader.1)
 have GBook_refuse_further_deed := mcl TBook.cl FBook_refuse_further_deed (y0v (CBook := CBook) (COffice := COffice) M TBook FBook_refuse_further_deed.1) (b1 FBook_refuse_further_deed.1)
 have GBook_deeds := mcl TBook.cl FBook_deeds (y0e (CBook := CBook) (COffice := COffice) M TBook FBook_deeds.1) (b1 FBook_deeds.1)
 have Glacking_numbers := cal Flacking_numbers (y4l M Flacking_numbers.1) (b1 Flacking_numbers.1)
 have Gteller_of := cal Fteller_of (y1v M Fteller_of.1) (b3 Fteller_of.1)
 have GShelf_tail_of := mcl TShelf.cl FShelf_tail_of (y0D (CShelf := CShelf) M TShelf FShelf_tail_of.1) (b2 FShelf_tail_of.1)
 have GShelf_rows_of := mcl TShelf.cl FShelf_rows_of (y2k (CShelf := CShelf) M TShelf FShelf_rows_of.1) (b2 FShelf_rows_of.1)
 have GBook_deed := mcl TBook.cl FBook_deed (y2l (CBook := CBook) (COffice := COffice) M TBook FBook_deed.1) (b2 FBook_deed.1)
 have Gtwo_to_the := cal Ftwo_to_the (y5c M Ftwo_to_the.1) (b1 Ftwo_to_the.1)
 have G_law_course := cal F_law_course (y01 M F_law_course.1) (b3 F_law_course.1)
 have Gis_choice := cal Fis_choice (y19 M Fis_choice.1) (b2 Fis_choice.1)
 have G_law_had := cal F_law_had (y4U M F_law_had.1 G_law_row.up) (b2 F_law_had.1)
 have G_law_shuffled := cal F_law_shuffled (y4c M F_law_shuffled.1 G_law_row.up) (b2 F_law_shuffled.1)
 have G_law_sets := cal F_law_sets (y46 M F_law_sets.1 G_law_row.up G_law_doubled.up) (b3 F_law_sets.1)
 have G_law_valued := cal F_law_valued (y1W M F_law_valued.1 G_law_row.up G_law_value.up) (b2 F_law_valued.1)
 have G_law_names := cal F_law_names (y3l F_law_names.1 G_law_at.up G_law_pick.up G_law_named.up) (b1 F_law_names.1)
 have Gbulletin_names := cal Fbulletin_names (z97 M Fbulletin_names.1 Grefuse_bad_names.up Grefuse_bad_reach.up) (b2 Fbulletin_names.1)
 have GShelf_latest := mcl TShelf.cl FShelf_latest (y1S (CShelf := CShelf) M TShelf FShelf_latest.1 GShelf_had.up) (b1 FShelf_latest.1)
 have Gtail_for := cal Ftail_for (y47 M Ftail_for.1 Greached_by.up) (b2 Ftail_for.1)
 have Grefuse_bad_rows := cal Frefuse_bad_rows (y0n M Frefuse_bad_rows.1 Grefuse_unknown_name.up Grefuse_bad_value.up) (b2 Frefuse_bad_rows.1)
 have GBook_deliver := mcl TBook.cl FBook_deliver (z8z (CBook := CBook) (COffice := COffice) M TBook FBook_deliver.1 GOffice_issue.up GBook_refuse_unknown_reader.up GBook_refuse_further_deed.up) (b3 FBook_deliver.1)
 have Glacking_with_tellers := cal Flacking_with_tellers (y4T M Flacking_with_tellers.1 Glacking_numbers.up Gteller_of.up) (b2 Flacking_with_tellers.1)
 have Gnames_told_of := cal Fnames_told_of (y4G (CShelf := CShelf) M TShelf Fnames_told_of.1 GShelf_tail_of.up) (b3 Fnames_told_of.1)
 have GBook_latest := mcl TBook.cl FBook_latest (z8M (CBook := CBook) (COffice := COffice) M TBook FBook_latest.1 GOffice_latest.up) (b1 FBook_latest.1)
 have GBook_issue := mcl TBook.cl FBook_issue (y0q (CBook := CBook) (COffice := COffice) M TBook FBook_issue.1 GOffice_issue.up) (b2 FBook_issue.1)
 have G_law_known := cal F_law_known (y0P M F_law_known.1 G_law_teller.up) (b3 F_law_known.1)
 have Gmay_stand := cal Fmay_stand (y2W M Fmay_stand.1 Gis_choice.up) (b3 Fmay_stand.1)
 have G_law_numbers := cal F_law_numbers (y0b F_law_numbers.1 G_law_at.up G_law_pick.up G_law_sets.up G_law_valued.up) (b2 F_law_numbers.1)
 have GShelf := mkr TShelf.mgC FShelf___init__ (y0R (CShelf := CShelf) M TShelf FShelf___init__.1 Gbulletin_names.up) (b3 FShelf___init__.1)
 have GOffice := mkr TOffice.mgC FOffice___init__ (y0W (COffice := COffice) M TOffice FOffice___init__.1 Gbulletin_names.up) (b3 FOffice___init__.1)
 have GOffice_refuse_writing := mcl TOffice.cl FOffice_refuse_writing (y0h (COffice := COffice) M TOffice FOffice_refuse_writing.1 Grefuse_bad_rows.up) (b2 FOffice_refuse_writing.1)
 have Gdark_numbers := cal Fdark_numbers (y4A M Fdark_numbers.1 Glacking_with_tellers.up) (b2 Fdark_numbers.1)
 have Ggaps_of := cal Fgaps_of (y25 (CShelf := CShelf) M TShelf Fgaps_of.1 GShelf_had.up Glacking_with_tellers.up Gnames_told_of.up) (b1 Fgaps_of.1)
 have GOffice_write := mcl TOffice.cl FOffice_write (y00 (COffice := COffice) M TOffice FOffice_write.1 GOffice_refuse_writing.up Gnames_of_rows.up Grows_in_order.up Gtail_for.up) (b2 FOffice_write.1)
 have GBook := mkr TBook.mgC FBook___init__ (y1t (CBook := CBook) (COffice := COffice) M TBook FBook___init__.1 GOffice.up Grefuse_bad_readers.up) (b4 FBook___init__.1)
 have GBook_shelf : MCal l.prog w K mg base 6 CBook "shelf" z2p (z4V (BkD K CBook COffice) (ShD K CShelf)) := .mk' TBook.cl (z6X (CBook := CBook) (COffice := COffice) (CShelf := CShelf) M TBook TOffice FBook_shelf.1 GOffice_issue.up GBook_refuse_unknown_reader.up GShelf.up GShelf_put.up) BBook_shelf FBook_shelf.2
 have GBook_shelfD : MCalD l.prog w K mg base 6 CBook "shelf" z2p (z4V (BkD K CBook COffice) (ShD K CShelf)) [V.non] := .mk' (.cons rfl .nil) TBook.cl (z6X (CBook := CBook) (COffice := COffice) (CShelf := CShelf) M TBook TOffice FBook_shelf.1 GOffice_issue.up GBook_refuse_unknown_reader.up GShelf.up GShelf_put.up) BBook_shelfD FBook_shelf.2
 have Gcourse_count := cal Fcourse_count (y3k (CShelf := CShelf) M TShelf Fcourse_count.1 GShelf_had.up Gdark_numbers.up Gtwo_to_the.up) (b1 Fcourse_count.1)
 have Gknown_sets := cal Fknown_sets (y2S (CShelf := CShelf) M Fknown_sets.1 GShelf_had.up GShelf_rows_of.up Gnames_of_rows.up Ggaps_of.up) (b1 Fknown_sets.1)
 have GBook_write := mcl TBook.cl FBook_write (y02 (CBook := CBook) (COffice := COffice) M TBook FBook_write.1 GOffice_refuse_writing.up GOffice_write.up GBook_refuse_further_deed.up) (b2 FBook_write.1)
 have Gfits := cal Ffits (y3W (CShelf := CShelf) M TShelf Ffits.1 Gknown_sets.up Gmay_stand.up) (b2 Ffits.1)
 have G_law_asked_all := cal F_law_asked_all (y37 (CShelf := CShelf) (Sh := (ShD K CShelf)) M F_law_asked_all.1 shOk G_law_course.up G_law_whole.up G_law_doubled.up Gfits.up Gcourse_count.up) (b5 F_law_asked_all.1)
 exact y5j M Flaw.1 bkOk shOk G_law_at.up G_law_pick.up G_law_row.up G_law_names.up G_law_numbers.up G_law_had.up G_law_shuffled.up G_law_sets.up G_law_known.up G_law_asked_all.up GBook.up GBook_write.up GBook_deliver.up GBook_shelfD.up
theorem walk {l : PySem.W.OpenLaw} {q : Program} {loose : List Str} {XP : (Str -> Option Value) -> Heap -> Prop} {YP : World -> Heap -> Prop} {d : DefRec} {K : Params -> PySem.W.Frag} (hn : l.most = some 63) (hdf : d.params.defaults = [])
  (hY : ∀ (w : World) (h : Heap), YP w h -> (K w.params).In h)
  (F : ∀ (w : World) (mg : Str -> Option Value) (fa : Addr) (h : Heap), (K w.params).In h -> h.Ns mainGlobals mg -> mg d.name = some (.ref fa) ->
   ∃ fd : FuncData, (∀ (s : Shared) (u : Value), BindsTo s fd ⟨[u], []⟩ [("_law_script", u)]) /\ ∀ base : Heap, (K w.params).In base -> base.Ns mainGlobals mg -> FnOk l.prog w (K w.params) mg base CX0 14 fa fd ["_law_script"] (y2C (K w.params))) :
  PySem.W.WalkO q loose XP YP l.row.toRowW d [] (fun f vs => PySem.call f vs) :=
 L2.y4H (n := 63) (k := 14) (x := "_law_script") (CX := fun _ => CX0) (sp := fun w => y2C (K w.params)) hn (by decide) hdf ⟨rfl, by decide, by decide⟩ hY F (fun _ _ a ns hl _ hS => ⟨a, ns, rfl, hS, hl, fun _ => rfl⟩) fun _ _ _ _ _ z => z
theorem walkX {q : Program} {loose : List Str} {XP : (Str -> Option Value) -> Heap -> Prop} {r : PySem.W.RowW} {d : DefRec} {kwd : List (Str × Expr)} {run : Value -> List Value -> Sem Value} {K : Params -> PySem.W.Frag} {ks : List Addr} {n t : Nat} (e : ∀ P, ks = (K P).map (·.1))
  (W : PySem.W.WalkO q loose XP (fun w h => (K w.params).In h) r d kwd run) : PySem.W.WalkX q loose XP (PySem.W.X.obsZ ks) (PySem.W.X.valZ K n t) r d kwd run :=
 fun w s₀ s₁ mg mb G y a o pm cd doc dV kV h1 h2 h3 h4 h5 h6 args vals as L g1 g2 g3 g4 g5 => W w s₀ s₁ mg mb G (PySem.W.InK.keeps w s₀.heap s₁.heap (PySem.W.X.z_facts e y).2.1 L.keeps) a o pm cd doc dV kV h1 h2 h3 h4 h5 h6 args vals as g1 g2 g3 g4 g5
end My
def PySem.W.Fast.tw3354514255160754073 : Unit := ()
def PySem.W.Fast.tw13888964969677596931 : Unit := ()
def PySem.W.Fast.tw2579401263563724809 : Unit := ()
def PySem.W.Fast.tw5472856572443222650 : Unit := ()
def PySem.W.Fast.tw3069148616396157961 : Unit := ()
def PySem.W.Fast.tw16779860917747165403 : Unit := ()
def PySem.W.Fast.tw16509165809357593395 : Unit := ()
def PySem.W.Fast.tw17408407493153951348 : Unit := ()
def PySem.W.Fast.tw11143343886452749629 : Unit := ()
def PySem.W.Fast.tw9309403000303994764 : Unit := ()
def PySem.W.Fast.tw9516634612181298549 : Unit := ()
def PySem.W.Fast.tw4650706651450321755 : Unit := ()
def PySem.W.Fast.tw12426135488717497753 : Unit := ()
def PySem.W.Fast.tw14992653868830254237 : Unit := ()
def PySem.W.Fast.tw7858298623666124994 : Unit := ()
def PySem.W.Fast.tw3470899941583880879 : Unit := ()
def PySem.W.Fast.tw18020040670723895695 : Unit := ()
def PySem.W.Fast.tw248020351404586526 : Unit := ()
def PySem.W.Fast.tw11116488028884950212 : Unit := ()
def PySem.W.Fast.tw7232180224284111 : Unit := ()
def PySem.W.Fast.tw8278687067305754243 : Unit := ()
def PySem.W.Fast.tw16347382544189456842 : Unit := ()
def PySem.W.Fast.tw4600687712908842896 : Unit := ()
def PySem.W.Fast.tw9611530324286629260 : Unit := ()
def PySem.W.Fast.tw9741500977066704418 : Unit := ()
def PySem.W.Fast.tw1856058497918962973 : Unit := ()
def PySem.W.Fast.tw15976901773089355574 : Unit := ()
def PySem.W.Fast.tw11159496257411234387 : Unit := ()
def PySem.W.Fast.tw7256920292488169108 : Unit := ()
def PySem.W.Fast.tw8435466428159196504 : Unit := ()
def PySem.W.Fast.tw9905569661744015425 : Unit := ()
def PySem.W.Fast.tw7156934375059316941 : Unit := ()
def PySem.W.Fast.tw15397487806144975115 : Unit := ()
def PySem.W.Fast.tw14752415006899795379 : Unit := ()
def PySem.W.Fast.tw17381218216067448340 : Unit := ()
def PySem.W.Fast.tw16479810192045501478 : Unit := ()
def PySem.W.Fast.tw11895645946829223687 : Unit := ()
def PySem.W.Fast.tw563345988199443045 : Unit := ()
def PySem.W.Fast.tw6992060638025269852 : Unit := ()
def PySem.W.Fast.tw4008690363570733923 : Unit := ()
def PySem.W.Fast.tw16636961815569873281 : Unit := ()
def PySem.W.Fast.tw17167772929691659471 : Unit := ()
def PySem.W.Fast.tw9795238527356469512 : Unit := ()
def PySem.W.Fast.tw3042801464556858737 : Unit := ()
def PySem.W.Fast.tw9594739066342590836 : Unit := ()
def PySem.W.Fast.tw13213858464463804045 : Unit := ()
def PySem.W.Fast.tw17842359823195914797 : Unit := ()
def PySem.W.Fast.tw982796294941247383 : Unit := ()
def PySem.W.Fast.tw1319863496297612262 : Unit := ()
def PySem.W.Fast.tw3640957706877359853 : Unit := ()
def PySem.W.Fast.tw3079428028069898251 : Unit := ()
def PySem.W.Fast.tw12927096759627947107 : Unit := ()
def PySem.W.Fast.tw2021870654947201759 : Unit := ()
def PySem.W.Fast.tw12302663966407130263 : Unit := ()
def PySem.W.Fast.tw3218006209699148241 : Unit := ()
def PySem.W.Fast.tw14760923335345339077 : Unit := ()
def PySem.W.Fast.tw1934482281590224432 : Unit := ()
def PySem.W.Fast.tw16630653158280325339 : Unit := ()
def PySem.W.Fast.tw1892438815437684006 : Unit := ()
def PySem.W.Fast.tw14040475766138041217 : Unit := ()
def PySem.W.Fast.tw10060210443335575037 : Unit := ()
def PySem.W.Fast.tw1526122871512389434 : Unit := ()
def PySem.W.Fast.tw9961803367181863379 : Unit := ()
def PySem.W.Fast.tw4538750423511239319 : Unit := ()
def PySem.W.Fast.tw1230541214137704232 : Unit := ()
def PySem.W.Fast.tw8517455639267444213 : Unit := ()
def PySem.W.Fast.tw1550240252861023812 : Unit := ()
def PySem.W.Fast.tw4795348945717940919 : Unit := ()
def PySem.W.Fast.tw16006599481224133350 : Unit := ()
def PySem.W.Fast.tw8843665264516226976 : Unit := ()
def PySem.W.Fast.tw383672764592670305 : Unit := ()
def PySem.W.Fast.tw3056706302622972671 : Unit := ()
open PySem PySem.W PyProof.Rows
set_option maxRecDepth 100000 in
set_option maxHeartbeats 0 in
theorem PySem.Challenge.cw_backissues_k40_whole_true_course_holds : PySem.Challenge.rw_backissues_k40_whole_true_course.Holds := by
 w_on; o_law; z_head; (case hw => w_witness2)
 k_fill
 refine My.walkX (fun _ => by kernel_rfl) ?_
 refine My.walk (l := PySem.Challenge.rw_backissues_k40_whole_true_course) rfl rfl (fun w h Y => Y) ?F
 case F =>
  intro w mg fa h KX G hmg
  refine' My.y5q KX G hmg ?cOffice ?cShelf ?cBook ?nOffice_names ?nOffice_reach ?nOffice_written ?nShelf_names ?nShelf_reach ?nShelf_issues ?nBook_office ?nBook_readers ?nBook_done ?a0 ?a1 ?a2 ?a3 ?a4 ?a5 ?a6 ?a7 ?a8 ?a9 ?a10 ?a11 ?a12 ?a13 ?a14 ?a15 ?a16 ?a17 ?a18 ?a19 ?a20 ?a21 ?a22 ?a23 ?a24 ?a25 ?a26 ?a27 ?a28 ?a29 ?a30 ?a31 ?a32 ?a33 ?a34 ?a35 ?a36 ?a37 ?a38 ?a39 ?a40 ?a41 ?a42 ?a43 ?a44 ?a45 ?a46 ?a47 ?a48 ?a49 ?a50 ?a51 ?a52 ?a53 ?a54 ?a55 ?a56 ?a57 ?a58 ?a59 ?a60 ?a61 ?d43 ?zlen ?zrange ?ztuple ?zlist ?zmax ?zmin ?zsorted ?zisinstance ?zbool ?zint ?zstr ?zset ?zreversed ?zdict ?zzip ?zall ?vMOST_NAMES ?vMOST_REACH ?vMOST_NUMBERS ?vMOST_VALUE ?vMOST_READERS ?vMOST_DEEDS ?vWRITE ?vDELIVER
  case' cOffice | cShelf | cBook => exact ⟨by k_is, by k_is, by k_is, by k_is, by k_is, by k_is, by k_is⟩
  case' nOffice_names | nOffice_reach | nOffice_written | nShelf_names | nShelf_reach | nShelf_issues | nBook_office | nBook_readers | nBook_done => k_is
  case' a0 | a1 | a2 | a3 | a4 | a5 | a6 | a7 | a8 | a9 | a10 | a11 | a12 | a13 | a14 | a15 | a21 | a22 | a23 | a24 | a25 | a26 | a33 | a44 | a45 | a46 | a47 | a48 | a49 | a50 | a51 | a52 | a53 | a54 | a55 | a56 | a57 | a58 | a59 | a60 | a61 => exact ⟨by k_is, _, _, _, _, _, _, _, _, _, by k_is, by k_is, by k_is⟩
  case' a16 | a17 | a18 | a19 | a20 | a27 | a28 | a29 | a30 | a31 | a32 | a34 | a35 | a36 | a37 | a38 | a39 | a40 | a41 | a42 | a43 => exact ⟨by k_is, by k_is, _, _, _, _, _, _, _, _, _, by k_is, by k_is, by k_is⟩
  case' d43 => exact ⟨_, _, _, _, by k_is⟩
  case' zlen | zrange | ztuple | zlist | zmax | zmin | zsorted | zisinstance | zbool | zint | zstr | zset | zreversed | zdict | zzip | zall | vMOST_NAMES | vMOST_REACH | vMOST_NUMBERS | vMOST_VALUE | vMOST_READERS | vMOST_DEEDS | vWRITE | vDELIVER => k_is