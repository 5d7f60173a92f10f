import PyProof.Rows.All
import Wide.All
import OpenK.AllK
import Wide.FinOn
import Lean
import PyProof.EqAt
import PyProof.EqKinds
import PyProof.TupleCall
import PyProof.WalksMore
import PyProof.ListRange
import PyProof.NeKinds
import PyProof.SliceStr2
import PyProof.StrOps2
import PyProof.Rows.SetFrom
import PyProof.MinMaxWalk
import KE.KRevIter
import KE.KDictList
import PyProof.AttrMiss
import PyProof.IsiH_list
import PyProof.IsiH_tuple
import KE.KDictOf
import PySem.Challenge.RW_backissues_k30_history
set_option Elab.async false
set_option linter.all false
set_option maxRecDepth 100000
namespace L2
open PySem PySem.Spec PyProof.Rows

abbrev Key := Sum Int Str
def z9i : Key -> Value -> Bool
 | .inl k, v => Value.isInt k v
 | .inr x, v => Value.isStrOf x v
def keyH (w : World) : Key -> Int
 | .inl k => hashInt k
 | .inr x => hashStr w x
theorem z1g : ∀ {k : Key} {v : Value}, z9i k v = true -> (∃ i t, k = Sum.inl i /\ v = Value.int i t) \/ (∃ x t, k = Sum.inr x /\ v = Value.str x t)
 | .inl i, v, h => by
  obtain ⟨t, e⟩ := Value.isInt_shape (k := i) (v := v) h
  exact .inl ⟨i, t, rfl, e⟩
 | .inr x, v, h => by
  obtain ⟨t, e⟩ := Value.isStrOf_shape (x := x) (v := v) h
  exact .inr ⟨x, t, rfl, e⟩
theorem y1T (i : Int) (t : Tok) : z9i (.inl i) (.int i t) = true := by simp [z9i, Value.isInt]
theorem y1P (x : Str) (t : Tok) : z9i (.inr x) (.str x t) = true := by simp [z9i, Value.isStrOf]
theorem y4p (a b : Int) : decide ((Sum.inl a : Key) = Sum.inl b) = (a == b) := by
 by_cases e : a = b
 ·subst e; simp
 ·have h : ¬ (Sum.inl a : Key) = Sum.inl b := fun q => e (Sum.inl.inj q)
  rw [decide_eq_false h]
  exact (beq_eq_false_iff_ne.mpr e).symm
theorem y4N (a b : Str) : decide ((Sum.inr a : Key) = Sum.inr b) = decide (a = b) := by
 by_cases e : a = b
 ·subst e; simp
 ·have h : ¬ (Sum.inr a : Key) = Sum.inr b := fun q => e (Sum.inr.inj q)
  rw [decide_eq_false h, decide_eq_false e]
theorem y4o (a : Int) (b : Str) : decide ((Sum.inl a : Key) = Sum.inr b) = false := decide_eq_false (fun q => nomatch q)
theorem y4R (a : Str) (b : Int) : decide ((Sum.inr a : Key) = Sum.inl b) = false := decide_eq_false (fun q => nomatch q)

def z1y (prog : Program) (w : World) : PySem.KeyKind prog w Key where
 is := z9i
 hash := keyH w
 inj := fun v a b ha hb => by
  rcases z1g ha with ⟨i, t, rfl, rfl⟩ | ⟨x, t, rfl, rfl⟩
  ·rcases z1g hb with ⟨j, u, rfl, e⟩ | ⟨y, u, rfl, e⟩
   ·injection e with e1 _; rw [e1]
   ·exact nomatch e
  ·rcases z1g hb with ⟨j, u, rfl, e⟩ | ⟨y, u, rfl, e⟩
   ·exact nomatch e
   ·injection e with e1 _; rw [e1]
 byValue := fun k v h => by
  rcases z1g h with ⟨i, t, rfl, rfl⟩ | ⟨x, t, rfl, rfl⟩ <;> rfl
 pyHash := fun hv h => by
  rcases z1g hv with ⟨i, t, rfl, rfl⟩ | ⟨x, t, rfl, rfl⟩
  ·exact wpAny_pyHash_int h
  ·exact wpAny_pyHash_str h
 eqBool := fun hu hv h => by
  rcases z1g hu with ⟨i, t, rfl, rfl⟩ | ⟨x, t, rfl, rfl⟩
  ·rcases z1g hv with ⟨j, u, rfl, rfl⟩ | ⟨y, u, rfl, rfl⟩
   ·rw [y4p] at h; exact wpAny_eqBool_int h
   ·rw [y4o] at h; exact SeqAt.EqAt.int_str i t y u _ _ _ _ h
  ·rcases z1g hv with ⟨j, u, rfl, rfl⟩ | ⟨y, u, rfl, rfl⟩
   ·rw [y4R] at h; exact SeqAt.EqAt.str_int x t j u _ _ _ _ h
   ·rw [y4N] at h; exact wpAny_eqBool_str h
 «strs» := fun k x t v h => by
  rcases z1g h with ⟨i, u, rfl, e⟩ | ⟨y, u, rfl, e⟩
  ·exact nomatch e
  ·injection e with e1 _
   subst e1
   cases v <;> rfl

theorem z9l (prog : Program) (w : World) (i : Int) (t : Tok) : (z1y prog w).is (.inl i) (.int i t) = true := y1T i t
theorem z9e (prog : Program) (w : World) (x : Str) (t : Tok) : (z1y prog w).is (.inr x) (.str x t) = true := y1P x t
end L2

namespace L2
open PySem PySem.Spec PyProof.Rows

inductive V where
 | non | bl (b : Bool) | int (i : Int) | str (x : Str) | byt (b : Array UInt8) | flt (b : UInt64) | ref (a : Addr) | ty (n : String)
 deriving DecidableEq

def RelV : V -> Value -> Prop
 | .non, u => u = Value.none
 | .bl b, u => u = Value.bool b
 | .int i, u => ∃ t, u = Value.int i t
 | .str x, u => ∃ t, u = Value.str x t
 | .byt b, u => ∃ t, u = Value.bytes b t
 | .flt b, u => ∃ t, u = Value.float b t
 | .ref a, u => u = Value.ref a
 | .ty n, u => u = Value.type n

abbrev Vals : List V -> List Value -> Prop := Paired RelV
theorem Vals.length {xs : List V} {us : List Value} (r : Vals xs us) : xs.length = us.length := Paired.length r
theorem Vals.get : ∀ {xs : List V} {us : List Value} {i : Nat} {x : V}, Vals xs us -> xs[i]? = some x -> ∃ u, us[i]? = some u /\ RelV x u
 | _, _, _, _, .nil, e => by simp at e
 | _, _, 0, _, .cons r _, e => by simp at e; subst e; exact ⟨_, rfl, r⟩
 | _, _, i + 1, x, .cons _ t, e => by
  obtain ⟨u, h1, h2⟩ := Vals.get (i := i) (x := x) t (by simpa using e)
  exact ⟨u, by simpa using h1, h2⟩
theorem Vals.append : ∀ {xs ys : List V} {us ws : List Value}, Vals xs us -> Vals ys ws -> Vals (xs ++ ys) (us ++ ws)
 | _, _, _, _, .nil, s => s
 | _, _, _, _, .cons r t, s => .cons r (Vals.append t s)
theorem Vals.take : ∀ {xs : List V} {us : List Value} (n : Nat), Vals xs us -> Vals (xs.take n) (us.take n)
 | _, _, 0, _ => .nil
 | _, _, _ + 1, .nil => .nil
 | _, _, n + 1, .cons r t => .cons r (Vals.take n t)
theorem Vals.drop : ∀ {xs : List V} {us : List Value} (n : Nat), Vals xs us -> Vals (xs.drop n) (us.drop n)
 | _, _, 0, r => r
 | _, _, _ + 1, .nil => .nil
 | _, _, n + 1, .cons _ t => Vals.drop n t
def RelO : Option V -> Option Value -> Prop
 | some v, some u => RelV v u
 | none, none => True
 | _, _ => False
def KV {κ : Type} : List (κ × V) -> List (κ × Value) -> Prop := Paired fun (p : κ × V) (q : κ × Value) => p.1 = q.1 /\ RelV p.2 q.2

def kV : Key -> V
 | .inl i => .int i
 | .inr x => .str x

inductive HO where
 /-- a list -/
 | lst (xs : List V)
 /-- a tuple (never changes) -/
 | tup (xs : List V)
 /-- a dict whose keys are ints and texts; one whose keys are tuples of ints and texts (the empty one is both) -/
 | dK (kvs : List (Key × V)) | dT (kvs : List (List Key × V))
 /-- a set of ints: its members, its size -/
 | set (S : Int -> Bool) (n : Nat)
 /-- an instance of the class at C, its dict at dx, its attributes -/
 | ins (C dx : Addr) (fs : List (Str × V))
 /-- the dict of the instance at x -/
 | own (x : Addr)
 /-- the dict of an exception -/
 | xd (fs : List (Str × V))
 /-- a bound method, f of x -/
 | met (f x : Addr)
 /-- a range object lo, lo + 1, .. below hi -/
 | rng (lo hi : Int)
 /-- a thing that is known to the object (the script; a dict while a loop walks it): read, never written while it is so -/
 | frz (o : Obj) (u : HO)
 /-- a code object's table -/
 | tbl (ps : Array Value)
 /-- any other thing, by what is true of its one object (a def of one's own: SetO a S n := HO.ext fun h => ..) -/
 | ext (φ : Heap -> Prop)

abbrev Hp := Addr -> Option HO
def upd (H : Hp) (a : Addr) (o : HO) : Hp := fun b => if b = a then some o else H b
def PlT (h : Heap) (a : Addr) (items : Array Value) : Prop := ∃ o, h.get? a = some o /\ o.cls = .type "tuple" /\ (∃ n, o.data = .seq items n) /\ o.dict = none
theorem PlT.tup {h : Heap} {a : Addr} {items : Array Value} (p : PlT h a items) : IsTup h a items := let ⟨o, e, c, d, _⟩ := p; ⟨o, e, c, d⟩
theorem PlT.new (h : Heap) (items : Array Value) : PlT (h.push { cls := .type "tuple", data := .seq items }) h.objs.size items := ⟨_, Heap.get?_push_size _ rfl, rfl, ⟨_, rfl⟩, rfl⟩
theorem z02 {H : Hp} {a : Addr} {o : HO} : upd H a o a = some o := by unfold upd; rw [if_pos rfl]
theorem z0g {H : Hp} {a b : Addr} {o : HO} (h : b ≠ a) : upd H a o b = H b := by unfold upd; rw [if_neg h]
theorem z4f {H : Hp} {a : Addr} {o u : HO} : upd (upd H a o) a u = upd H a u := by
 funext b; unfold upd; split <;> rfl
theorem z43 {H : Hp} {a b : Addr} {o u : HO} (h : H a = some o) (h' : H b = some u) (d : o ≠ u) : a ≠ b := by
 intro e; subst e; rw [h] at h'; exact d (Option.some.inj h')
theorem z0p {H : Hp} {a b : Addr} {o : HO} (h : H a = some o) (h' : H b = none) : a ≠ b := by
 intro e; subst e; rw [h] at h'; cases h'

section
variable (P : Program) (w : World)
def z1B (H : Hp) (h : Heap) (a : Addr) : HO -> Prop
 | .lst xs => xs.length ≤ sizeLine /\ ∃ (its : List Value) (n : Nat), Vals xs its /\ h.get? a = some { cls := .type "list", data := .seq its.toArray n }
 | .tup xs => xs.length ≤ sizeLine /\ ∃ its : List Value, Vals xs its /\ PlT h a its.toArray
 | .dK kvs => kvs.length ≤ sizeLine /\ (a == sysModules) = false /\ ∃ vs, KV kvs vs /\ h.DictOf (z1y P w) a vs
 | .dT kvs => kvs.length ≤ sizeLine /\ (a == sysModules) = false /\ ∃ xs : List (List Key × Addr × Value),
   Paired (fun (p : List Key × V) (q : List Key × Addr × Value) => p.1 = q.1 /\ H q.2.1 = some (.tup (p.1.map kV)) /\ RelV p.2 q.2.2) kvs xs /\
   ∃ o es ep, h.get? a = some o /\ o.ExactDict /\ o.data = .dict es ep /\ es.toList = xs.map (entryOfKey (tupleKind (z1y P w))) /\ (xs.map (·.1)).Nodup
 | .set S n => h.SetOf (intKind P w) a S n
 | .ins C dx fs => H dx = some (.own a) /\ fs.length ≤ 1000 /\ dx ≠ a /\ h.get? a = some (PySem.W.instObj C dx) /\
   ∃ mA, h.Ns1 dx mA /\ (∀ f, RelO (fs.lookup f) (mA f)) /\ PySem.Within mA (fs.map (·.1))
 | .own _ => ∃ o, h.get? a = some o
 | .xd fs => ∃ mA, h.Ns1 a mA /\ ∀ f, RelO (fs.lookup f) (mA f)
 | .rng lo hi => ∃ t u v, h.get? a = some { cls := .type "range", data := .fields #[.int lo t, .int hi u, .int 1 v] }
 | .frz o u => h.get? a = some o /\ z1B H h a u
 | .tbl ps => h.get? a = some { cls := .none, data := .fields ps }
 | .met f x => h.get? a = some (PySem.W.methodObj (.ref f) (.ref x))
 | .ext φ => φ h /\ (∃ o, h.get? a = some o) /\ ∀ h1 h2 : Heap, φ h1 -> (∀ o, h1.get? a = some o -> h2.get? a = some o) -> φ h2
def HOk (H : Hp) (h : Heap) : Prop := ∀ a o, H a = some o -> z1B P w H h a o
end

section
variable {P : Program} {w : World} {H H' : Hp} {h h' : Heap} {a : Addr} {o : HO}
theorem z1B.lt (x : z1B P w H h a o) : a < h.objs.size := by
 cases o with
 | lst xs => obtain ⟨_, _, _, _, e⟩ := x; exact Heap.lt_size e
 | tup xs => obtain ⟨_, _, _, o, e, _⟩ := x; exact Heap.lt_size e
 | dK kvs => obtain ⟨_, _, _, _, o, _, _, e, _⟩ := x; exact Heap.lt_size e
 | dT kvs => obtain ⟨_, _, _, _, o, _, _, e, _⟩ := x; exact Heap.lt_size e
 | set S n => obtain ⟨o, _, _, _, e, _⟩ := x; exact Heap.lt_size e
 | ins C dx fs => obtain ⟨_, _, _, e, _⟩ := x; exact Heap.lt_size e
 | own y => obtain ⟨_, e⟩ := x; exact Heap.lt_size e
 | xd fs => obtain ⟨_, ⟨_, _, _, e, _⟩, _⟩ := x; exact Heap.lt_size e
 | rng lo hi => obtain ⟨_, _, _, e⟩ := x; exact Heap.lt_size e
 | frz ob u => obtain ⟨e, _⟩ := x; exact Heap.lt_size e
 | tbl ps => exact Heap.lt_size (show h.get? a = some _ from x)
 | met f y => exact Heap.lt_size (show h.get? a = some _ from x)
 | ext φ => obtain ⟨_, ⟨_, e⟩, _⟩ := x; exact Heap.lt_size e
theorem Paired.mapP {α β : Type} {F G : α -> β -> Prop} : ∀ {l₁ : List α} {l₂ : List β}, Paired F l₁ l₂ -> (∀ a b, F a b -> G a b) -> Paired G l₁ l₂
 | _, _, .nil, _ => .nil
 | _, _, .cons r t, f => .cons (f _ _ r) (Paired.mapP t f)
theorem z1B.stay (x : z1B P w H h a o) (k : ∀ b u, (b = a \/ H b = some (.own a)) -> h.get? b = some u -> h'.get? b = some u)
  (ho : ∀ b, H b = some (.own a) -> H' b = some (.own a)) (ht : ∀ b xs, H b = some (.tup xs) -> H' b = some (.tup xs)) : z1B P w H' h' a o := by
 induction o with
 | lst xs => obtain ⟨z, its, n, r, e⟩ := x; exact ⟨z, its, n, r, k _ _ (.inl rfl) e⟩
 | tup xs => obtain ⟨z, its, r, ob, e, c⟩ := x; exact ⟨z, its, r, ob, k _ _ (.inl rfl) e, c⟩
 | dK kvs => obtain ⟨z, y, vs, r, ob, es, ep, e, c⟩ := x; exact ⟨z, y, vs, r, ob, es, ep, k _ _ (.inl rfl) e, c⟩
 | dT kvs =>
  obtain ⟨z, y, xs, r, ob, es, ep, e, c⟩ := x
  exact ⟨z, y, xs, Paired.mapP r fun p q z => ⟨z.1, ht _ _ z.2.1, z.2.2⟩, ob, es, ep, k _ _ (.inl rfl) e, c⟩
 | set S n => obtain ⟨ob, es, ep, t, e, c⟩ := x; exact ⟨ob, es, ep, t, k _ _ (.inl rfl) e, c⟩
 | ins C dx fs =>
  obtain ⟨d, z, ne, e, mA, ⟨od, es, ep, e2, c⟩, r⟩ := x
  exact ⟨ho _ d, z, ne, k _ _ (.inl rfl) e, mA, ⟨od, es, ep, k _ _ (.inr d) e2, c⟩, r⟩
 | own y => obtain ⟨ob, e⟩ := x; exact ⟨ob, k _ _ (.inl rfl) e⟩
 | xd fs => obtain ⟨mA, ⟨od, es, ep, e, c⟩, r⟩ := x; exact ⟨mA, ⟨od, es, ep, k _ _ (.inl rfl) e, c⟩, r⟩
 | rng lo hi => obtain ⟨t, u, v, e⟩ := x; exact ⟨t, u, v, k _ _ (.inl rfl) e⟩
 | frz ob u ih => obtain ⟨e, q⟩ := x; exact ⟨k _ _ (.inl rfl) e, ih q⟩
 | tbl ps =>
  have e : h.get? a = some { cls := .none, data := .fields ps } := x
  show h'.get? a = some { cls := .none, data := .fields ps }
  exact k a _ (.inl rfl) e
 | met f y =>
  have e : h.get? a = some (PySem.W.methodObj (.ref f) (.ref y)) := x
  show h'.get? a = some (PySem.W.methodObj (.ref f) (.ref y))
  exact k a _ (.inl rfl) e
 | ext φ => obtain ⟨p, ⟨o, e⟩, st⟩ := x; exact ⟨st _ _ p fun o q => k _ _ (.inl rfl) q, ⟨o, k _ _ (.inl rfl) e⟩, st⟩
theorem HOk.lt (x : HOk P w H h) (e : H a = some o) : a < h.objs.size := (x a o e).lt
theorem HOk.fresh (x : HOk P w H h) (e : h.objs.size ≤ a) : H a = none := by
 cases q : H a with
 | none => rfl
 | some u => exact absurd (Nat.lt_of_lt_of_le (x.lt q) e) (Nat.lt_irrefl _)
theorem HOk.kept (x : HOk P w H h) (k : ∀ b u, h.get? b = some u -> h'.get? b = some u) : HOk P w H h' := fun a o e =>
 (x a o e).stay (fun b u _ q => k b u q) (fun _ q => q) fun _ _ q => q
theorem HOk.laid (x : HOk P w H h) (k : ∀ b u, h.get? b = some u -> h'.get? b = some u) (hp : h.objs.size ≤ a) (new : z1B P w (upd H a o) h' a o) : HOk P w (upd H a o) h' := fun b u e => by
 have hn := x.fresh hp
 by_cases hb : b = a
 ·subst hb; rw [z02] at e; cases e; exact new
 ·rw [z0g hb] at e
  exact (x b u e).stay (fun c v _ q => k c v q) (fun c q => by rw [z0g (z0p q hn)]; exact q) fun c xs q => by rw [z0g (z0p q hn)]; exact q
end

def Rd (H : Hp) (a : Addr) (u : HO) : Prop := H a = some u \/ ∃ o, H a = some (.frz o u)
theorem Rd.ok {P : Program} {w : World} {H : Hp} {h : Heap} {a : Addr} {u : HO} (r : Rd H a u) (x : HOk P w H h) : z1B P w H h a u := by
 rcases r with r | ⟨o, r⟩
 ·exact x a u r
 ·obtain ⟨_, q⟩ := x a _ r
  exact q
def Mut : Option HO -> Prop
 | some (.lst _) => True
 | some (.dK _) => True
 | some (.dT _) => True
 | some (.set _ _) => True
 | some (.ins _ _ _) => True
 | some (.ext _) => True
 | _ => False
section
variable {P : Program} {w : World} {H : Hp} {h h' : Heap} {x e : Addr} {o' : HO}
theorem HOk.write (ok : HOk P w H h) (mu : Mut (H x)) (he : e = x \/ H e = some (.own x)) (k : ∀ b u, b ≠ e -> h.get? b = some u -> h'.get? b = some u) (heo : ∃ u, h'.get? e = some u)
  (new : z1B P w (upd H x o') h' x o') : HOk P w (upd H x o') h' := fun b u q => by
 have nown : ∀ c y, H c = some (.own y) -> c ≠ x := fun c y r z => by subst z; rw [r] at mu; exact mu
 have ntup : ∀ c xs, H c = some (.tup xs) -> c ≠ x := fun c xs r z => by subst z; rw [r] at mu; exact mu
 by_cases hb : b = x
 ·subst hb; rw [z02] at q; cases q; exact new
 ·rw [z0g hb] at q
  by_cases hbe : b = e
  ·have q' : H b = some (.own x) := by
    rcases he with z | z
    ·exact absurd (hbe.trans z) hb
    ·rw [hbe]; exact z
   rw [q] at q'; cases q'
   obtain ⟨v, hv⟩ := heo
   exact ⟨v, by rw [hbe]; exact hv⟩
  ·refine (ok b u q).stay (fun c v hc r => k c v ?_ r) (fun c r => by rw [z0g (nown c b r)]; exact r) fun c xs r => by rw [z0g (ntup c xs r)]; exact r
   rcases hc with rfl | hc
   ·exact hbe
   ·rintro rfl
    rcases he with z | z
    ·exact nown c b hc z
    ·rw [hc] at z; cases z; exact hb rfl
end

structure Un (fs ex : List Addr) (H H' : Hp) (h h' : Heap) : Prop where
 keep : ∀ b o, h.get? b = some o -> H b = none -> b ∉ fs -> b ∉ ex -> h'.get? b = some o
 slot : ∀ b o, h.get? b = some o -> H b = none -> b ∈ fs -> b ∉ ex -> ∃ sl, h'.get? b = some { o with slots := sl }
 free : ∀ b o, h.get? b = some o -> H b = none -> b ∉ ex -> H' b = none
 there : ∀ b o, h.get? b = some o -> b ∉ ex -> ∃ o', h'.get? b = some o'
 tups : ∀ b xs, H b = some (.tup xs) -> H' b = some (.tup xs)
 frzs : ∀ b o u, H b = some (.frz o u) -> H' b = some (.frz o u)
 tbls : ∀ b ps, H b = some (.tbl ps) -> ∃ more, H' b = some (.tbl (ps ++ more))
section
variable {fs fs' ex ex' : List Addr} {H H1 H2 : Hp} {h h1 h2 h' : Heap} {a x e : Addr} {o : HO}
theorem Un.any (u : Un fs ex H H1 h h1) {b : Addr} {ob : Obj} (q : h.get? b = some ob) (n : H b = none) (hx : b ∉ ex) : ∃ sl, h1.get? b = some { ob with slots := sl } := by
 by_cases hb : b ∈ fs
 ·exact u.slot b ob q n hb hx
 ·exact ⟨ob.slots, u.keep b ob q n hb hx⟩
theorem Un.kept (k : ∀ b u, h.get? b = some u -> h'.get? b = some u) : Un fs ex H H h h' :=
 ⟨fun b ob q _ _ _ => k b ob q, fun b ob q _ _ _ => ⟨ob.slots, k b ob q⟩, fun _ _ _ n _ => n, fun b ob q _ => ⟨ob, k b ob q⟩, fun _ _ q => q, fun _ _ _ q => q, fun _ ps q => ⟨#[], by rw [q]; simp⟩⟩
theorem Un.refl : Un fs ex H H h h := Un.kept fun _ _ q => q
theorem Un.laid (k : ∀ b u, h.get? b = some u -> h'.get? b = some u) (hp : h.objs.size ≤ a) (hn : H a = none) : Un fs ex H (upd H a o) h h' where
 keep := fun b u q _ _ _ => k b u q
 slot := fun b u q _ _ _ => ⟨u.slots, k b u q⟩
 free := fun b u q n _ => by rw [z0g (Nat.ne_of_lt (Nat.lt_of_lt_of_le (Heap.lt_size q) hp))]; exact n
 there := fun b u q _ => ⟨u, k b u q⟩
 tups := fun b xs q => by rw [z0g (z0p q hn)]; exact q
 frzs := fun b u xs q => by rw [z0g (z0p q hn)]; exact q
 tbls := fun b ps q => ⟨#[], by rw [z0g (z0p q hn), q]; simp⟩
theorem Un.write (mu : Mut (H x)) (he : e = x \/ H e = some (.own x)) (k : ∀ b u, b ≠ e -> h.get? b = some u -> h'.get? b = some u) (heo : ∃ u, h'.get? e = some u) : Un fs ex H (upd H x o) h h' := by
 have hx : ∀ b, H b = none -> b ≠ x := fun b n z => by subst z; rw [n] at mu; exact mu
 have hb : ∀ b, H b = none -> b ≠ e := fun b n z => by
  subst z
  rcases he with r | r
  ·exact hx b n r
  ·rw [n] at r; cases r
 have hm : ∀ b u, H b = some u -> ¬ Mut (some u) -> b ≠ x := fun b u q nm z => by subst z; rw [q] at mu; exact nm mu
 refine ⟨fun b u q n _ _ => k b u (hb b n) q, fun b u q n _ _ => ⟨u.slots, k b u (hb b n) q⟩, fun b u q n _ => by rw [z0g (hx b n)]; exact n, fun b u q _ => ?_,
  fun b xs q => by rw [z0g (hm b _ q fun z => z)]; exact q, fun b u xs q => by rw [z0g (hm b _ q fun z => z)]; exact q, fun b ps q => ⟨#[], by rw [z0g (hm b _ q fun z => z), q]; simp⟩⟩
 by_cases hbe : b = e
 ·subst hbe; exact heo
 ·exact ⟨u, k b u hbe q⟩
end

def trk (h : Heap) (H : Hp) : List Addr := (List.range h.objs.size).filter fun a => (H a).isSome
def hidT (h : Heap) (H : Hp) : Heap := PySem.W.hideAll h (trk h H)
theorem y1D (h : Heap) (H : Hp) : (hidT h H).objs.size = h.objs.size := PySem.W.hideAll_size _ _
theorem y2R {h : Heap} {H : Hp} {b : Addr} {o : Obj} (e : h.get? b = some o) (n : H b = none) : (hidT h H).get? b = some o :=
 PySem.W.hideAll_get _ e fun hm => by
  have q : (H b).isSome = true := (List.mem_filter.mp hm).2
  rw [n] at q; simp at q
theorem y4f {h : Heap} {H : Hp} {b : Addr} {o : Obj} (e : (hidT h H).get? b = some o) : h.get? b = some o /\ H b = none := by
 have e' : h.get? b = some o := PySem.W.of_hideAll (trk h H) e
 refine ⟨e', ?_⟩
 cases q : H b with
 | none => rfl
 | some x =>
  have hm : b ∈ trk h H := List.mem_filter.mpr ⟨List.mem_range.mpr (Heap.lt_size e'), by simp [q]⟩
  have z : (hidT h H).get? b = none := PySem.W.hideAll_none (trk h H) hm
  rw [z] at e; cases e

def y3N (g h : Heap) (L : Addr) : List (Addr × Obj) := (List.range h.objs.size).filterMap fun a => if a = L \/ (g.get? a).isSome = true then none else (h.get? a).map fun o => (a, o)
def rest (g h : Heap) (L d : Addr) : List (Addr × Obj) := (y3N g h L).filter fun p => decide (p.1 ≠ d)
end L2

namespace L2
open PySem PySem.Spec PyProof.Rows

structure Mod (K : PySem.W.Frag) (mg : Str -> Option Value) (base : Heap) : Prop where
 kin : K.In base
 glob : base.Ns mainGlobals mg
 blt : ∃ mb, base.Ns builtinsNs mb /\ ∀ x : Str, x ≠ "__name__" -> mb x = bootBuiltins x
 nolimit : base.NoLimit

structure Cx where
 prog : Program
 w : World
 K : PySem.W.Frag
 mg : Str -> Option Value
 base : Heap
 A : Around
 N : List Str
 s₀ : Shared
 H₀ : Hp
 env : Env
 outer : List Env
 stack : List Env
 ex : List Addr
 fn : Str -> Bool
 calm : Bool
 pn : List (Addr × Obj)
 xe : Value -> Shared -> Prop
def frs (l : List Env) : List Addr := l.filterMap (·.frame)
abbrev Cx.fs (X : Cx) : List Addr := frs X.outer

def Vis (sc : Scope) (x : Str) : Prop := sc.names.lookup x = some .local \/ sc.names.lookup x = some .cell \/ sc.names.lookup x = some .free
def Loc (sc : Scope) (x : Str) : Prop := sc.names.lookup x = some .local \/ sc.names.lookup x = some .cell
def Look (env : Env) (h : Heap) (m : Str -> Option Value) (x : Str) (u : Value) : Prop :=
 (env.kindOf x = some .local /\ m x = some u) \/ ((env.kindOf x = some .cell \/ env.kindOf x = some .free) /\ ∃ c, env.cells.lookup x = some c /\ h.IsCell c (some u))

structure Cx.Ok (X : Cx) : Prop where
 mod : Mod X.K X.mg X.base
 kind : X.env.scope.kind = .function
 glob : X.env.globals = mainGlobals
 blt : X.env.builtins = builtinsNs
 above : X.s₀.heap.objs.size ≤ X.env.locals
 inj : ∀ x y c, X.env.cells.lookup x = some c -> X.env.cells.lookup y = some c -> x = y
 has : ∀ x, (X.env.kindOf x = some .cell \/ X.env.kindOf x = some .free) -> ∃ c, X.env.cells.lookup x = some c
 cab : ∀ x c, X.fn x = true -> X.env.cells.lookup x = some c -> X.s₀.heap.objs.size ≤ c
 hd : X.calm = true -> X.A.handled = none
 frames : X.A.frames = some X.stack
 stk : X.stack = X.outer \/ (X.stack = X.env :: X.outer /\ X.env.frame = some X.env.locals)
 exf : ∀ b ∈ X.ex, b ≠ X.env.locals /\ ∀ x c, X.env.cells.lookup x = some c -> c ≠ b
 bs : ∀ b o, X.base.get? b = some o -> X.s₀.heap.get? b = some o /\ X.H₀ b = none
 bsz : X.base.objs.size ≤ X.s₀.heap.objs.size
 noex : ∀ b o, X.base.get? b = some o -> b ∉ X.ex
 exfs : ∀ b ∈ X.ex, b ∉ X.fs
 funs : X.s₀.heap.FunFrames X.base X.outer
 frf : ∀ b ∈ X.fs, X.H₀ b = none

structure Inv (X : Cx) (pins : List (Addr × Obj)) (σ : List (Option V)) (H : Hp) (s : Shared) : Prop where
 ok : X.Ok
 os : s.os = X.s₀.os
 bare : AllBare s.gens
 base : Un X.fs X.ex X.H₀ H X.s₀.heap s.heap
 loc : ∃ m, s.heap.Ns X.env.locals m /\ ∀ (i : Nat) (x : Str) (v : V), X.N[i]? = some x -> σ[i]? = some (some v) -> Vis X.env.scope x -> ∃ u, RelV v u /\ Look X.env s.heap m x u
 cell : ∀ x c, X.env.cells.lookup x = some c -> ∃ v, s.heap.IsCell c v
 free : H X.env.locals = none
 freeC : ∀ x c, X.env.cells.lookup x = some c -> H c = none
 pin : ∀ p ∈ X.pn ++ pins, s.heap.get? p.1 = some p.2 /\ H p.1 = none /\ p.1 ≠ X.env.locals /\ p.1 ∉ X.fs /\ ∀ v, p.2.data ≠ .cell v
 hok : HOk X.prog X.w H s.heap
 len : σ.length = X.N.length

section
variable {X : Cx} {pins : List (Addr × Obj)} {σ : List (Option V)} {H H' : Hp} {s : Shared} {h' : Heap}

theorem Cx.Ok.nofr (ok : X.Ok) {b : Addr} {o : Obj} (e : X.base.get? b = some o) : b ∉ X.fs := fun hb => by
 have := (ok.funs.mem hb).1
 rw [e] at this; cases this
theorem Inv.bs (I : Inv X pins σ H s) : ∀ b o, X.base.get? b = some o -> s.heap.get? b = some o /\ H b = none := fun b o e =>
 ⟨I.base.keep b o (I.ok.bs b o e).1 (I.ok.bs b o e).2 (I.ok.nofr e) (I.ok.noex b o e), I.base.free b o (I.ok.bs b o e).1 (I.ok.bs b o e).2 (I.ok.noex b o e)⟩
theorem Inv.bk (I : Inv X pins σ H s) : ∀ b o, X.base.get? b = some o -> s.heap.get? b = some o := fun b o e => (I.bs b o e).1
theorem Inv.mod (I : Inv X pins σ H s) : Mod X.K X.mg X.base := I.ok.mod
theorem Inv.kIn (I : Inv X pins σ H s) : X.K.In s.heap := I.ok.mod.kin.keeps I.bk
theorem Inv.fr (I : Inv X pins σ H s) : ∃ m, Fr X.base X.env.locals s.heap m :=
 let ⟨m, hn, _⟩ := I.loc
 ⟨m, hn, I.bk, Nat.le_trans I.ok.bsz I.ok.above⟩
theorem Inv.lt (I : Inv X pins σ H s) : X.env.locals < s.heap.objs.size := let ⟨_, hn, _⟩ := I.loc; hn.lt
theorem Inv.sz (I : Inv X pins σ H s) : X.s₀.heap.objs.size ≤ s.heap.objs.size := Nat.le_trans I.ok.above (Nat.le_of_lt I.lt)
theorem Inv.nofs (I : Inv X pins σ H s) {a : Addr} (h : s.heap.objs.size ≤ a) : a ∉ X.fs := fun hb => by
 obtain ⟨_, o, ho, _⟩ := I.ok.funs.mem hb
 exact absurd (Nat.lt_of_lt_of_le (Heap.lt_size ho) (Nat.le_trans I.sz h)) (Nat.lt_irrefl _)
theorem Inv.cne (I : Inv X pins σ H s) : ∀ x c, X.env.cells.lookup x = some c -> c ≠ X.env.locals := fun x c e z => by
 obtain ⟨v, o, ho, hd⟩ := I.cell x c e
 obtain ⟨m, ⟨o', es, ep, ho', hd', _⟩, _⟩ := I.loc
 rw [z, ho'] at ho; cases ho; rw [hd'] at hd; cases hd
theorem Inv.funs (I : Inv X pins σ H s) : s.heap.FunFrames X.base X.outer := by
 have all : ∀ (l : List Env), (∀ b ∈ frs l, b ∈ X.fs) -> X.s₀.heap.FunFrames X.base l -> s.heap.FunFrames X.base l := by
  intro l
  induction l with
  | nil => intro _ _; trivial
  | cons env r ih =>
   intro hs hl
   obtain ⟨hk, ⟨L, o, hf, hn, ho, hd⟩, hr⟩ := hl
   have hL : L ∈ X.fs := hs L (by unfold frs; rw [List.filterMap_cons, hf]; exact List.mem_cons_self)
   obtain ⟨sl, e⟩ := I.base.slot L o ho (I.ok.frf L hL) hL fun z => I.ok.exfs L z hL
   exact ⟨hk, ⟨L, _, hf, hn, e, hd⟩, ih (fun b hb => hs b (by unfold frs; rw [List.filterMap_cons, hf]; exact List.mem_cons_of_mem _ hb)) hr⟩
 exact all X.outer (fun _ hb => hb) I.ok.funs

theorem Inv.stack (I : Inv X pins σ H s) : s.heap.FunFrames X.base X.stack := by
 rcases I.ok.stk with e | ⟨e, hf⟩
 ·rw [e]; exact I.funs
 ·rw [e]
  obtain ⟨m, hn, _⟩ := I.loc
  refine .cons (by rw [I.ok.kind]; decide) hf hn ?_ I.funs
  exact Heap.get?_none_of_le (Nat.le_trans I.ok.bsz I.ok.above)
theorem Inv.stkSub (I : Inv X pins σ H s) : ∀ b ∈ frs X.stack, b ∈ X.env.locals :: X.fs := fun b hb => by
 rcases I.ok.stk with e | ⟨e, hf⟩
 ·rw [e] at hb; exact List.mem_cons_of_mem _ hb
 ·rw [e] at hb
  unfold frs at hb
  rw [List.filterMap_cons, hf] at hb
  exact hb
theorem Inv.stkFree (I : Inv X pins σ H s) : ∀ b ∈ frs X.stack, H b = none := fun b hb => by
 rcases List.mem_cons.mp (I.stkSub b hb) with e | hb
 ·rw [e]; exact I.free
 ·obtain ⟨_, o, ho, _⟩ := I.ok.funs.mem hb
  exact I.base.free b o ho (I.ok.frf b hb) fun z => I.ok.exfs b z hb

theorem Inv.step {g' : Array GenState} {t' : Nat} {d' : Drawn} {ch : List Addr} (I : Inv X pins σ H s)
  (hch : ∀ b ∈ ch, (b ∈ X.ex \/ X.s₀.heap.objs.size ≤ b) /\ b ≠ X.env.locals /\ (∀ x c, X.env.cells.lookup x = some c -> c ≠ b) /\ ∀ p ∈ X.pn ++ pins, p.1 ≠ b)
  (keep : ∀ b o, b ≠ X.env.locals -> b ∉ X.fs -> b ∉ ch -> s.heap.get? b = some o -> H b = none -> h'.get? b = some o)
  (slot : ∀ b o, b ≠ X.env.locals -> b ∈ X.fs -> b ∉ ch -> s.heap.get? b = some o -> H b = none -> ∃ sl, h'.get? b = some { o with slots := sl }) (free : ∀ b o, b ∉ ch -> s.heap.get? b = some o -> H b = none -> H' b = none)
  (there : ∀ b o, b ∉ ch -> s.heap.get? b = some o -> ∃ o', h'.get? b = some o')
  (tups : ∀ b xs, H b = some (.tup xs) -> H' b = some (.tup xs)) (frzs : ∀ b o u, H b = some (.frz o u) -> H' b = some (.frz o u)) (tbls : ∀ b ps, H b = some (.tbl ps) -> ∃ more, H' b = some (.tbl (ps ++ more)))
  (ns : ∀ m, s.heap.Ns X.env.locals m -> h'.Ns X.env.locals m) (hok : HOk X.prog X.w H' h') (hg : AllBare g') :
  Inv X pins σ H' { s with heap := h', gens := g', drawn := d', toks := t' } := by
 have neL : ∀ b o, X.s₀.heap.get? b = some o -> b ≠ X.env.locals := fun b o e => Nat.ne_of_lt (Nat.lt_of_lt_of_le (Heap.lt_size e) I.ok.above)
 have neC : ∀ b o, X.s₀.heap.get? b = some o -> b ∉ X.ex -> b ∉ ch := fun b o e hx hb => by
  rcases (hch b hb).1 with z | z
  ·exact hx z
  ·exact absurd (Nat.lt_of_lt_of_le (Heap.lt_size e) z) (Nat.lt_irrefl _)
 have cellK : ∀ x c, X.env.cells.lookup x = some c -> ∀ v, s.heap.IsCell c v -> h'.IsCell c v := fun x c e v ⟨o, ho, hd⟩ => by
  have nch : c ∉ ch := fun z => (hch c z).2.2.1 x c e rfl
  by_cases hc : c ∈ X.fs
  ·obtain ⟨sl, q⟩ := slot c o (I.cne x c e) hc nch ho (I.freeC x c e)
   exact ⟨_, q, hd⟩
  ·exact ⟨o, keep c o (I.cne x c e) hc nch ho (I.freeC x c e), hd⟩
 refine ⟨I.ok, I.os, hg, ⟨fun b o e n hb hx => ?_, fun b o e n hb hx => ?_, fun b o e n hx => ?_, fun b o e hx => ?_, fun b xs e => tups b xs (I.base.tups b xs e), fun b o xs e => frzs b o xs (I.base.frzs b o xs e), fun b ps e => ?_⟩, ?_, fun x c e => ?_, ?_, fun x c e => ?_, fun p hp => ?_, hok, I.len⟩
 ·exact keep b o (neL b o e) hb (neC b o e hx) (I.base.keep b o e n hb hx) (I.base.free b o e n hx)
 ·obtain ⟨sl, e1⟩ := I.base.slot b o e n hb hx
  obtain ⟨sl', e2⟩ := slot b _ (neL b o e) hb (neC b o e hx) e1 (I.base.free b o e n hx)
  exact ⟨sl', e2⟩
 ·obtain ⟨o', e1⟩ := I.base.there b o e hx
  exact free b o' (neC b o e hx) e1 (I.base.free b o e n hx)
 ·obtain ⟨o', e1⟩ := I.base.there b o e hx
  exact there b o' (neC b o e hx) e1
 ·obtain ⟨m1, e1⟩ := I.base.tbls b ps e
  obtain ⟨m2, e2⟩ := tbls b _ e1
  exact ⟨m1 ++ m2, by rw [e2, Array.append_assoc]⟩
 ·obtain ⟨m, hn, hl⟩ := I.loc
  refine ⟨m, ns m hn, fun i x v e1 e2 e3 => ?_⟩
  obtain ⟨u, r, l⟩ := hl i x v e1 e2 e3
  refine ⟨u, r, ?_⟩
  rcases l with l | ⟨k, c, e, z⟩
  ·exact .inl l
  ·exact .inr ⟨k, c, e, cellK x c e _ z⟩
 ·obtain ⟨v, z⟩ := I.cell x c e
  exact ⟨v, cellK x c e v z⟩
 ·obtain ⟨m, ⟨o, _, _, ho, _⟩, _⟩ := I.loc
  exact free _ o (fun z => (hch _ z).2.1 rfl) ho I.free
 ·obtain ⟨v, o, ho, hd⟩ := I.cell x c e
  exact free c o (fun z => (hch c z).2.2.1 x c e rfl) ho (I.freeC x c e)
 ·obtain ⟨e, n, ne, nf, d⟩ := I.pin p hp
  have nch : p.1 ∉ ch := fun z => (hch p.1 z).2.2.2 p hp rfl
  exact ⟨keep p.1 p.2 ne nf nch e n, free p.1 p.2 nch e n, ne, nf, d⟩
theorem Inv.un {t' : Nat} (I : Inv X pins σ H s) (u : Un X.fs [] H H' s.heap h') (hok : HOk X.prog X.w H' h') : Inv X pins σ H' { s with heap := h', toks := t' } := by
 obtain ⟨m, ⟨o, es, ep, ho, r⟩, _⟩ := id I.loc
 obtain ⟨sl, hL⟩ := u.any ho I.free (by simp)
 exact I.step (g' := s.gens) (d' := s.drawn) (ch := []) (fun _ z => nomatch z) (fun b o _ hb _ e n => u.keep b o e n hb (by simp)) (fun b o _ hb _ e n => u.slot b o e n hb (by simp)) (fun b o _ e n => u.free b o e n (by simp)) (fun b o _ e => u.there b o e (by simp)) u.tups u.frzs u.tbls (fun m' hm => by
  obtain ⟨o', es', ep', ho', r'⟩ := hm
  rw [ho] at ho'; cases ho'
  exact ⟨_, es', ep', hL, r'⟩) hok I.bare
theorem Inv.call {g' : Array GenState} {t' : Nat} {d' : Drawn} {ch : List Addr} (I : Inv X pins σ H s) (u : Un (frs X.stack) ch H H' s.heap h') (hok : HOk X.prog X.w H' h') (hg : AllBare g')
  (hch : ∀ b ∈ ch, (b ∈ X.ex \/ X.s₀.heap.objs.size ≤ b) /\ b ≠ X.env.locals /\ (∀ x c, X.env.cells.lookup x = some c -> c ≠ b) /\ ∀ p ∈ X.pn ++ pins, p.1 ≠ b) :
  Inv X pins σ H' { s with heap := h', gens := g', drawn := d', toks := t' } := by
 obtain ⟨m, ⟨o, es, ep, ho, r⟩, _⟩ := id I.loc
 obtain ⟨sl, hL⟩ := u.any ho I.free fun z => (hch _ z).2.1 rfl
 exact I.step (ch := ch) hch (fun b o hL hb hc e n => u.keep b o e n (fun z => (List.mem_cons.mp (I.stkSub b z)).elim hL hb) hc) (fun b o _ _ hc e n => u.any e n hc) (fun b o hc e n => u.free b o e n hc) (fun b o hc e => u.there b o e hc) u.tups u.frzs u.tbls (fun m' hm => by
  obtain ⟨o', es', ep', ho', r'⟩ := hm
  rw [ho] at ho'; cases ho'
  exact ⟨_, es', ep', hL, r'⟩) hok hg
theorem Inv.turned {t' : Nat} {it : Addr} (I : Inv X pins σ H s) (k : ∀ b o, b ≠ it -> s.heap.get? b = some o -> h'.get? b = some o) (hn : H it = none) (hL : it ≠ X.env.locals)
  (h1 : it ∈ X.ex \/ X.s₀.heap.objs.size ≤ it) (h2 : ∀ x c, X.env.cells.lookup x = some c -> c ≠ it) (h3 : ∀ p ∈ X.pn ++ pins, p.1 ≠ it) : Inv X pins σ H { s with heap := h', toks := t' } := by
 have nit : ∀ b u, H b = some u -> b ≠ it := fun b u e z => by rw [z, hn] at e; cases e
 refine I.step (g' := s.gens) (d' := s.drawn) (ch := [it]) (fun b hb => ?_) (fun b o _ _ hc e _ => k b o (fun z => hc (by simp [z])) e) (fun b o _ _ hc e _ => ⟨o.slots, k b o (fun z => hc (by simp [z])) e⟩) (fun _ _ _ _ n => n)
  (fun b o hc e => ⟨o, k b o (fun z => hc (by simp [z])) e⟩) (fun _ _ e => e) (fun _ _ _ e => e) (fun b ps e => ⟨#[], by rw [e]; simp⟩) (fun m hm => ?_) (fun b u e => ?_) I.bare
 ·have e : b = it := by simpa using hb
  subst e
  exact ⟨h1, hL, h2, h3⟩
 ·obtain ⟨o, es, ep, ho, r⟩ := hm
  exact ⟨o, es, ep, k _ o (Ne.symm hL) ho, r⟩
 ·refine (I.hok b u e).stay (fun c v hc q => k c v ?_ q) (fun _ q => q) fun _ _ q => q
  rcases hc with z | z
  ·rw [z]; exact nit b u e
  ·exact nit c _ z
theorem Inv.tok (I : Inv X pins σ H s) (t : Nat) : Inv X pins σ H { s with toks := t } := I.un (h' := s.heap) (t' := t) Un.refl I.hok
theorem Inv.kept {t' : Nat} (I : Inv X pins σ H s) (k : ∀ b u, s.heap.get? b = some u -> h'.get? b = some u) : Inv X pins σ H { s with heap := h', toks := t' } := I.un (Un.kept k) (I.hok.kept k)
theorem Inv.laid {a : Addr} {o : HO} {t' : Nat} (I : Inv X pins σ H s) (k : ∀ b u, s.heap.get? b = some u -> h'.get? b = some u) (hp : s.heap.objs.size ≤ a) (new : z1B X.prog X.w (upd H a o) h' a o) :
  Inv X pins σ (upd H a o) { s with heap := h', toks := t' } := I.un (Un.laid k hp (I.hok.fresh hp)) (I.hok.laid k hp new)
theorem Inv.write {x e : Addr} {o : HO} {t' : Nat} (I : Inv X pins σ H s) (mu : Mut (H x)) (he : e = x \/ H e = some (.own x)) (k : ∀ b u, b ≠ e -> s.heap.get? b = some u -> h'.get? b = some u) (heo : ∃ u, h'.get? e = some u)
  (new : z1B X.prog X.w (upd H x o) h' x o) : Inv X pins σ (upd H x o) { s with heap := h', toks := t' } := I.un (Un.write mu he k heo) (I.hok.write mu he k heo new)
theorem Inv.weak {σ' : List (Option V)} (I : Inv X pins σ H s) (hl : σ'.length = σ.length) (w : ∀ (i : Nat) v, σ'[i]? = some (some v) -> σ[i]? = some (some v)) : Inv X pins σ' H s :=
 ⟨I.ok, I.os, I.bare, I.base, let ⟨m, hn, hl'⟩ := I.loc; ⟨m, hn, fun i x v e1 e2 e3 => hl' i x v e1 (w i v e2) e3⟩, I.cell, I.free, I.freeC, I.pin, I.hok, hl.trans I.len⟩
theorem Inv.pins_of {pins' : List (Addr × Obj)} (I : Inv X pins σ H s) (h : ∀ p ∈ pins', s.heap.get? p.1 = some p.2 /\ H p.1 = none /\ p.1 ≠ X.env.locals /\ p.1 ∉ X.fs /\ ∀ v, p.2.data ≠ .cell v) : Inv X pins' σ H s :=
 ⟨I.ok, I.os, I.bare, I.base, I.loc, I.cell, I.free, I.freeC, fun p hp => (List.mem_append.mp hp).elim (fun z => I.pin p (List.mem_append_left _ z)) (h p), I.hok, I.len⟩

theorem z9H {N : List Str} (hN : N.Nodup) {i j : Nat} {x : Str} (a : N[i]? = some x) (b : N[j]? = some x) : i = j := by
 obtain ⟨h1, e1⟩ := List.getElem?_eq_some_iff.mp a
 obtain ⟨h2, e2⟩ := List.getElem?_eq_some_iff.mp b
 exact (List.getElem_inj hN).mp (e1.trans e2.symm)

theorem y1s {M : Model} {A : Around} {E : Value -> Shared -> Prop} {i : Nat} {x : Str} {v : V} {u : Value} {Q : Unit -> Shared -> Prop} (I : Inv X pins σ H s) (hN : X.N.Nodup) (hi : X.N[i]? = some x) (hx : Loc X.env.scope x) (r : RelV v u)
  (h : ∀ s', Inv X pins (σ.set i (some v)) H s' -> (∃ a, Heap.SameBut a s.heap s'.heap /\ (a = X.env.locals \/ X.env.cells.lookup x = some a)) -> Q () s') (hf : X.fn x = true \/ X.env.scope.names.lookup x = some .local := by first | exact .inl rfl | exact .inr rfl | assumption) : wpAny M A (storeName X.env x u) Q E s := by
 obtain ⟨m, hn, hl⟩ := id I.loc
 have hcls : (X.env.scope.kind == .class || (X.env.scope.kind == .module && X.env.locals != X.env.globals)) = false := by rw [I.ok.kind]; rfl
 have hiσ : i < σ.length := by rw [I.len]; exact (List.getElem?_eq_some_iff.mp hi).1
 have cne := I.cne
 have tracked : ∀ {a : Addr} {h' : Heap}, (∃ o, s.heap.get? a = some o /\ H a = none) -> Heap.SameBut a s.heap h' -> HOk X.prog X.w H h' := fun {a h'} ha hs b ob e => by
  obtain ⟨_, _, hfree⟩ := ha
  refine (I.hok b ob e).stay (fun c w' hc q => (hs.2 c ?_).trans q) (fun _ q => q) fun _ _ q => q
  rintro rfl
  rcases hc with rfl | hc
  ·rw [hfree] at e; cases e
  ·rw [hfree] at hc; cases hc
 rcases hx with hk | hk
 ·refine wpAny_storeName_local hk hn (fun h' hn' hs => ?_) hcls
  obtain ⟨oL, _, _, hoL, _⟩ := id hn
  refine h _ ⟨I.ok, I.os, I.bare, ⟨fun b o e n hb hx => ?_, fun b o e n hb hx => ?_, I.base.free, fun b o e hx => ?_, I.base.tups, I.base.frzs, I.base.tbls⟩, ⟨_, hn', fun j y v' e1 e2 e3 => ?_⟩, fun y c e => ?_, I.free, I.freeC, fun p hp => ?_, tracked ⟨oL, hoL, I.free⟩ hs, by simpa using I.len⟩ ⟨_, hs, .inl rfl⟩
  ·exact (hs.2 b (Nat.ne_of_lt (Nat.lt_of_lt_of_le (Heap.lt_size e) I.ok.above))).trans (I.base.keep b o e n hb hx)
  ·obtain ⟨sl, e1⟩ := I.base.slot b o e n hb hx
   exact ⟨sl, (hs.2 b (Nat.ne_of_lt (Nat.lt_of_lt_of_le (Heap.lt_size e) I.ok.above))).trans e1⟩
  ·obtain ⟨o', e1⟩ := I.base.there b o e hx
   exact ⟨o', (hs.2 b (Nat.ne_of_lt (Nat.lt_of_lt_of_le (Heap.lt_size e) I.ok.above))).trans e1⟩
  ·by_cases hj : j = i
   ·subst hj
    rw [hi] at e1; cases e1
    rw [List.getElem?_set_self hiσ] at e2
    cases e2
    exact ⟨u, r, .inl ⟨hk, by simp⟩⟩
   ·rw [List.getElem?_set_ne (Ne.symm hj)] at e2
    obtain ⟨u', r', q⟩ := hl j y v' e1 e2 e3
    refine ⟨u', r', ?_⟩
    rcases q with ⟨k, e⟩ | ⟨k, c, e, z⟩
    ·refine .inl ⟨k, ?_⟩
     have : y ≠ x := fun e => hj (z9H hN e1 (e ▸ hi))
     simp [this, e]
    ·exact .inr ⟨k, c, e, z.sameBut hs (cne y c e)⟩
  ·obtain ⟨w', z⟩ := I.cell y c e
   exact ⟨w', z.sameBut hs (cne y c e)⟩
  ·obtain ⟨e, n, ne, nf, d⟩ := I.pin p hp
   exact ⟨(hs.2 p.1 ne).trans e, n, ne, nf, d⟩
 ·have hfn : X.fn x = true := by
   rcases hf with z | z
   ·exact z
   ·rw [z] at hk; cases hk
  obtain ⟨c, hc⟩ := I.ok.has x (.inl hk)
  obtain ⟨w', z⟩ := I.cell x c hc
  refine wpAny_storeName_cell I.ok.kind hk hc z (fun h' hc' hs => ?_)
  obtain ⟨oc, hoc, hocd⟩ := id z
  refine h { s with heap := h' } ⟨I.ok, I.os, I.bare, ⟨fun b o e n hb hx => ?_, fun b o e n hb hx => ?_, I.base.free, fun b o e hx => ?_, I.base.tups, I.base.frzs, I.base.tbls⟩, ⟨m, hn.sameBut hs (Ne.symm (cne x c hc)), fun j y v' e1 e2 e3 => ?_⟩, fun y c' e => ?_, I.free, I.freeC, fun p hp => ?_, tracked ⟨oc, hoc, I.freeC x c hc⟩ hs, by simpa using I.len⟩ ⟨c, hs, .inr hc⟩
  ·exact (hs.2 b (Nat.ne_of_lt (Nat.lt_of_lt_of_le (Heap.lt_size e) (I.ok.cab x c hfn hc)))).trans (I.base.keep b o e n hb hx)
  ·obtain ⟨sl, e1⟩ := I.base.slot b o e n hb hx
   exact ⟨sl, (hs.2 b (Nat.ne_of_lt (Nat.lt_of_lt_of_le (Heap.lt_size e) (I.ok.cab x c hfn hc)))).trans e1⟩
  ·obtain ⟨o', e1⟩ := I.base.there b o e hx
   exact ⟨o', (hs.2 b (Nat.ne_of_lt (Nat.lt_of_lt_of_le (Heap.lt_size e) (I.ok.cab x c hfn hc)))).trans e1⟩
  ·by_cases hj : j = i
   ·subst hj
    rw [hi] at e1; cases e1
    rw [List.getElem?_set_self hiσ] at e2
    cases e2
    exact ⟨u, r, .inr ⟨.inl hk, c, hc, hc'⟩⟩
   ·rw [List.getElem?_set_ne (Ne.symm hj)] at e2
    obtain ⟨u', r', q⟩ := hl j y v' e1 e2 e3
    refine ⟨u', r', ?_⟩
    rcases q with q | ⟨k, c', e, z'⟩
    ·exact .inl q
    ·refine .inr ⟨k, c', e, z'.sameBut hs ?_⟩
     rintro rfl
     exact hj (z9H hN e1 (I.ok.inj _ _ _ e hc ▸ hi))
  ·by_cases hcc : c' = c
   ·subst hcc; exact ⟨_, hc'⟩
   ·obtain ⟨w2, z2⟩ := I.cell y c' e
    exact ⟨w2, z2.sameBut hs hcc⟩
  ·obtain ⟨e, n, ne, nf, d⟩ := I.pin p hp
   refine ⟨(hs.2 p.1 ?_).trans e, n, ne, nf, d⟩
   intro q
   rw [q, hoc] at e
   have q' : oc = p.2 := Option.some.inj e
   exact d w' (by rw [<- q']; exact hocd)
theorem z9M {M : Model} {A : Around} {E : Value -> Shared -> Prop} {i : Nat} {x : Str} {v : V} {u : Value} {Q : Unit -> Shared -> Prop} (I : Inv X pins σ H s) (hN : X.N.Nodup) (hi : X.N[i]? = some x) (hx : Loc X.env.scope x) (r : RelV v u)
  (h : ∀ s', Inv X pins (σ.set i (some v)) H s' -> Q () s') (hf : X.fn x = true \/ X.env.scope.names.lookup x = some .local := by first | exact .inl rfl | exact .inr rfl | assumption) : wpAny M A (storeName X.env x u) Q E s :=
 y1s I hN hi hx r (fun s' I' _ => h s' I') hf
theorem Inv.call' {s' : Shared} {ch : List Addr} (I : Inv X pins σ H s) (ho : s'.os = s.os) (u : Un (frs X.stack) ch H H' s.heap s'.heap) (hok : HOk X.prog X.w H' s'.heap) (hg : AllBare s'.gens)
  (hch : ∀ b ∈ ch, (b ∈ X.ex \/ X.s₀.heap.objs.size ≤ b) /\ b ≠ X.env.locals /\ (∀ x c, X.env.cells.lookup x = some c -> c ≠ b) /\ ∀ p ∈ X.pn ++ pins, p.1 ≠ b) : Inv X pins σ H' s' := by
 obtain ⟨h', g', d', t', o'⟩ := s'
 have e : o' = s.os := ho
 subst e
 exact I.call (g' := g') (t' := t') (d' := d') u hok hg hch
end

abbrev XK := Value -> Option Addr -> Hp -> Prop
abbrev St := List (Option V)
abbrev VK := V -> Hp -> Prop
abbrev TE := St -> Hp -> VK -> Prop
abbrev TT := St -> Hp -> (Bool -> Hp -> Prop) -> Prop
abbrev TA := St -> Hp -> (List V -> Hp -> Prop) -> Prop
structure Ends where
 nx : St -> Hp -> Prop
 rt : VK
 bk : St -> Hp -> Prop := fun _ _ => False
 ct : St -> Hp -> Prop := fun _ _ => False
abbrev TS := Ends -> St -> Hp -> Prop

def EP (X : Cx) (pins : List (Addr × Obj)) (σ : St) (Q : VK) (u : Value) (s' : Shared) : Prop := ∃ v H', Inv X pins σ H' s' /\ RelV v u /\ Q v H'
def TP (X : Cx) (pins : List (Addr × Obj)) (σ : St) (Q : Bool -> Hp -> Prop) (b : Bool) (s' : Shared) : Prop := ∃ H', Inv X pins σ H' s' /\ Q b H'
def AP (X : Cx) (pins : List (Addr × Obj)) (σ : St) (Q : List V -> Hp -> Prop) (us : List Value) (s' : Shared) : Prop := ∃ vs H', Inv X pins σ H' s' /\ Vals vs us /\ Q vs H'
def SP (X : Cx) (pins : List (Addr × Obj)) (D : Ends) (f : Flow) (s' : Shared) : Prop :=
 match f with
 | .next => ∃ σ' H', Inv X pins σ' H' s' /\ D.nx σ' H'
 | .brk => ∃ σ' H', Inv X pins σ' H' s' /\ D.bk σ' H'
 | .cont => ∃ σ' H', Inv X pins σ' H' s' /\ D.ct σ' H'
 | .ret u => ∃ v σ' H', Inv X pins σ' H' s' /\ RelV v u /\ D.rt v H'

def PE (X : Cx) (e : Expr) (t : TE) : Prop :=
 ∀ (pins : List (Addr × Obj)) (s : Shared) (σ : St) (H : Hp) (Q : VK), Inv X pins σ H s -> t σ H Q -> wpAny (model X.prog X.w) X.A (eval e X.env) (EP X pins σ Q) X.xe s
def PT (X : Cx) (e : Expr) (t : TT) : Prop :=
 ∀ (pins : List (Addr × Obj)) (s : Shared) (σ : St) (H : Hp) (Q : Bool -> Hp -> Prop), Inv X pins σ H s -> t σ H Q -> wpAny (model X.prog X.w) X.A (isTrue e X.env (eval e X.env)) (TP X pins σ Q) X.xe s
def PW (X : Cx) (e : Expr) (t : TT) : Prop :=
 ∀ (whole : Sem Value) (pins : List (Addr × Obj)) (s : Shared) (σ : St) (H : Hp) (Q : Bool -> Hp -> Prop), Inv X pins σ H s -> t σ H Q -> wpAny (model X.prog X.w) X.A (isTrue e X.env whole) (TP X pins σ Q) X.xe s
theorem PW.pt {X : Cx} {e : Expr} {t : TT} (h : PW X e t) : PT X e t := h _
def PA (X : Cx) (es : List Expr) (t : TA) : Prop :=
 ∀ (pos : Pos) (pins : List (Addr × Obj)) (s : Shared) (σ : St) (H : Hp) (Q : List V -> Hp -> Prop), Inv X pins σ H s -> t σ H Q -> wpAny (model X.prog X.w) X.A (spliced (backTo pos (starEach es X.env))) (AP X pins σ Q) X.xe s
def PS (X : Cx) (st : Stmt) (t : TS) : Prop :=
 ∀ (pins : List (Addr × Obj)) (s : Shared) (σ : St) (H : Hp) (D : Ends), Inv X pins σ H s -> t D σ H -> wpAny (model X.prog X.w) X.A (exec st X.env) (SP X pins D) X.xe s
def PSs (X : Cx) (st : List Stmt) (t : TS) : Prop :=
 ∀ (pins : List (Addr × Obj)) (s : Shared) (σ : St) (H : Hp) (D : Ends), Inv X pins σ H s -> t D σ H -> wpAny (model X.prog X.w) X.A (execs st X.env) (SP X pins D) X.xe s
theorem thn {α : Type} {t : Sem α} {Q Q' : α -> Shared -> Prop} {M : Model} {A : Around} {E : Value -> Shared -> Prop} {s : Shared} (h : wpAny M A t Q E s) (hQ : ∀ a s, Q a s -> Q' a s) : wpAny M A t Q' E s := wpAny_mono h hQ fun _ _ x => x
end L2

namespace L2
open PySem PySem.Spec PyProof.Rows
section
variable {X : Cx}

def tVar (i : Nat) : TE := fun σ H Q => ∃ v, σ[i]? = some (some v) /\ Q v H
def tC (v : V) : TE := fun _ H Q => Q v H
theorem y4P {i : Nat} {x : Str} {pos : Pos} (hN : X.N[i]? = some x) (hv : Vis X.env.scope x) (hd : (x == ("__debug__" : Str)) = false := by decide) (hcd : (x == ("__classdict__" : Str)) = false := by decide) : PE X (.Name x pos) (tVar i) := by
 intro pins s σ H Q I h
 obtain ⟨v, e, h⟩ := h
 obtain ⟨m, hn, hl⟩ := I.loc
 obtain ⟨u, r, l⟩ := hl i x v hN e hv
 have fin : EP X pins σ Q u s := ⟨v, H, I, r, h⟩
 rcases l with ⟨hk, hm⟩ | ⟨hk, c, hc, hcell⟩
 ·exact wpAny_Name (wpAny_loadName_local I.ok.kind hk hn hm fin) hd
 ·rcases hk with hk | hk
  ·exact wpAny_Name (wpAny_loadName_cell I.ok.kind hk hc hcell fin) hd
  ·exact wpAny_Name (wpAny_loadName_free I.ok.kind hk hc hcell fin hcd) hd
theorem z06 {i j pos} : PE X (.Constant (.int i) j pos) (tC (.int i)) := fun _ _ _ H _ I h => wpAny_Constant_int ⟨.int i, H, I.tok _, ⟨_, rfl⟩, h⟩
theorem z80 {b j pos} : PE X (.Constant (.bool b) j pos) (tC (.bl b)) := fun _ _ _ H _ I h => Constant_bool ⟨.bl b, H, I, rfl, h⟩
theorem z9G {j pos} : PE X (.Constant .none j pos) (tC .non) := fun _ _ _ H _ I h => Constant_none ⟨.non, H, I, rfl, h⟩
theorem z2b {x j pos} : PE X (.Constant (.str x) j pos) (tC (.str x)) := fun _ _ _ H _ I h => Calls.Constant_str ⟨.str x, H, I.tok _, ⟨_, rfl⟩, h⟩

def Gl (X : Cx) (x : Str) : Prop := X.env.kindOf x = some .globalImplicit
theorem z8U {E : Value -> Shared -> Prop} {pins : List (Addr × Obj)} {s : Shared} {σ : St} {H : Hp} {x : Str} {u : Value} {pos : Pos} {Q : Value -> Shared -> Prop} (I : Inv X pins σ H s) (hg : Gl X x) (hm : X.mg x = some u) (h : Q u s)
  (hd : (x == ("__debug__" : Str)) = false := by decide) : wpAny (model X.prog X.w) X.A (eval (.Name x pos) X.env) Q E s :=
 Calls.Name_function_global I.ok.kind hg (Calls.loadGlobal_global (by rw [I.ok.glob]; exact I.mod.glob.keeps I.bk) hm h) hd
theorem z4w {E : Value -> Shared -> Prop} {pins : List (Addr × Obj)} {s : Shared} {σ : St} {H : Hp} {x : Str} {u : Value} {pos : Pos} {Q : Value -> Shared -> Prop} (I : Inv X pins σ H s) (hg : Gl X x) (hm : X.mg x = none) (hv : bootBuiltins x = some u) (h : Q u s)
  (hn : x ≠ "__name__" := by decide) (hd : (x == ("__debug__" : Str)) = false := by decide) : wpAny (model X.prog X.w) X.A (eval (.Name x pos) X.env) Q E s := by
 obtain ⟨mb, h1, h2⟩ := I.mod.blt
 exact Calls.Name_function_global I.ok.kind hg (Calls.loadGlobal_builtin (by rw [I.ok.glob]; exact I.mod.glob.keeps I.bk) hm (by rw [I.ok.blt]; exact h1.keeps I.bk) ((h2 x hn).trans hv) h) hd
theorem y1j {x : Str} {v : V} {u : Value} {pos : Pos} (hg : Gl X x) (hm : X.mg x = some u) (r : RelV v u) (hd : (x == ("__debug__" : Str)) = false := by decide) : PE X (.Name x pos) (tC v) :=
 fun _ _ _ H _ I h => z8U I hg hm ⟨v, H, I, r, h⟩ hd
theorem z3Q {x : Str} {v : V} {u : Value} {pos : Pos} (hg : Gl X x) (hm : X.mg x = none) (hv : bootBuiltins x = some u) (r : RelV v u) (hn : x ≠ "__name__" := by decide) (hd : (x == ("__debug__" : Str)) = false := by decide) : PE X (.Name x pos) (tC v) :=
 fun _ _ _ H _ I h => z4w I hg hm hv ⟨v, H, I, r, h⟩ hn hd

variable {a b : Expr} {ta tb : TE} {pos : Pos}
def PC (X : Cx) (op : CmpOp) (a b : Expr) (t : TE) : Prop :=
 ∀ (pins : List (Addr × Obj)) (s : Shared) (σ : St) (H : Hp) (Q : VK), Inv X pins σ H s -> t σ H Q ->
  wpAny (model X.prog X.w) X.A (eval a X.env) (fun v s₁ => wpAny (model X.prog X.w) X.A (eval b X.env) (fun u s₂ => wpAny (model X.prog X.w) X.A (compareOp op v u) (EP X pins σ Q) X.xe s₂) X.xe s₁) X.xe s
theorem z9x (b : Expr) {op : CmpOp} (h : op ≠ .In) (h2 : op ≠ .NotIn) : behindInMarks op b = false := by
 have e1 : (op == CmpOp.In) = false := by cases op <;> first | rfl | exact absurd rfl h
 have e2 : (op == CmpOp.NotIn) = false := by cases op <;> first | rfl | exact absurd rfl h2
 cases b <;> simp [behindInMarks, e1, e2]
def tIsN (ta : TE) : TE := fun σ H Q => ta σ H fun x H1 => Q (.bl (decide (x = .non))) H1
theorem RelV.none_iff {x : V} {v : Value} (r : RelV x v) : (v == Value.none) = decide (x = .non) := by
 cases x with
 | non => cases r; rfl
 | bl _ => cases r; rfl
 | int _ => obtain ⟨t, rfl⟩ := r; rfl
 | str _ => obtain ⟨t, rfl⟩ := r; rfl
 | byt _ => obtain ⟨t, rfl⟩ := r; rfl
 | flt _ => obtain ⟨t, rfl⟩ := r; rfl
 | ref _ => cases r; rfl
 | ty _ => cases r; rfl
theorem y1i {j pos'} (ha : PE X a ta) : PC X .Is a (.Constant .none j pos') (tIsN ta) := by
 intro pins s σ H Q I h
 refine thn (ha pins s σ H _ I h) fun v s1 hz => ?_
 obtain ⟨x, H1, I1, r1, q1⟩ := hz
 exact Constant_none (is_none_gen ⟨.bl _, H1, I1, by rw [r1.none_iff]; rfl, q1⟩)
def tB (t : TE) : TT := fun σ H Q => t σ H fun x H1 => ∃ c, x = .bl c /\ Q c H1
theorem y3i {op : CmpOp} {t : TE} (h : PC X op a b t) (h1 : behindInMarks op b = false := by first | exact z9x _ (by decide) (by decide) | rfl) : PE X (.Compare a [op] [b] pos) t := fun pins s σ H Q I hw => wpAny_Compare1 (h pins s σ H Q I hw) h1
theorem z9S {op : CmpOp} {t : TE} (h : PC X op a b t) (h1 : behindInMarks op b = false := by first | exact z9x _ (by decide) (by decide) | rfl) : PT X (.Compare a [op] [b] pos) (tB t) := by
 intro pins s σ H Q I hw
 refine wpAny_isTrue_Compare1 (thn (h pins s σ H _ I hw) fun v s1 h1 => thn h1 fun u s2 h2 => thn h2 fun c s3 hz => ?_) h1
 obtain ⟨x, H1, I1, r1, q1⟩ := hz
 obtain ⟨d, rfl, q⟩ := q1
 cases r1
 exact wpAny_truthy_bool ⟨H1, I1, q⟩
theorem z9v {e : Expr} {t : TE} (h : PE X e t) (he : ∀ whole, isTrue e X.env whole = (do let v <- whole; standAt e.pos; holding [v] (truthy v)) := by intro _; rfl) : PT X e (tB t) := by
 intro pins s σ H Q I hw
 refine isTrue_plain (thn (h pins s σ H _ I hw) fun v s1 hz => ?_) (he _)
 obtain ⟨x, H1, I1, r1, q1⟩ := hz
 obtain ⟨d, rfl, q⟩ := q1
 cases r1
 exact wpAny_truthy_bool ⟨H1, I1, q⟩

variable {tA tB' : TT} {rest : List Expr}
def tAnd (t u : TT) : TT := fun σ H Q => t σ H fun c H1 => if c = true then u σ H1 Q else Q false H1
def tOr (t u : TT) : TT := fun σ H Q => t σ H fun c H1 => if c = true then Q true H1 else u σ H1 Q
def tNot (t : TT) : TT := fun σ H Q => t σ H fun c H1 => Q (!c) H1
theorem z38 (ha : PT X a tA) : PW X (.BoolOp .And [a] pos) tA := by
 intro wh pins s σ H Q I h
 refine isTrue_and (thn (ha pins s σ H Q I h) fun c s1 e => ?_)
 cases c with
 | true => exact isTrue_and_nil e
 | false => exact e
theorem z3D (ha : PT X a tA) : PW X (.BoolOp .Or [a] pos) tA := by
 intro wh pins s σ H Q I h
 refine isTrue_or (thn (ha pins s σ H Q I h) fun c s1 e => ?_)
 cases c with
 | false => exact isTrue_or_nil e
 | true => exact e
theorem z3F (ha : PT X a tA) (hb : PW X (.BoolOp .And (b :: rest) pos) tB') : PW X (.BoolOp .And (a :: b :: rest) pos) (tAnd tA tB') := by
 intro wh pins s σ H Q I h
 refine isTrue_and (thn (ha pins s σ H _ I h) fun c s1 hz => ?_)
 obtain ⟨H1, I1, q1⟩ := hz
 cases c with
 | true => exact hb wh pins s1 σ H1 Q I1 q1
 | false => exact ⟨H1, I1, q1⟩
theorem z5S (ha : PT X a tA) (hb : PW X (.BoolOp .Or (b :: rest) pos) tB') : PW X (.BoolOp .Or (a :: b :: rest) pos) (tOr tA tB') := by
 intro wh pins s σ H Q I h
 refine isTrue_or (thn (ha pins s σ H _ I h) fun c s1 hz => ?_)
 obtain ⟨H1, I1, q1⟩ := hz
 cases c with
 | true => exact ⟨H1, I1, q1⟩
 | false => exact hb wh pins s1 σ H1 Q I1 q1
theorem y0C (ha : PT X a tA) : PT X (.UnaryOp .Not a pos) (tNot tA) := by
 intro pins s σ H Q I h
 exact isTrue_not (ha pins s σ H (fun c H1 => Q (!c) H1) I h)
def tIf (t : TT) (ta tb : TE) : TE := fun σ H Q => t σ H fun c H1 => if c = true then ta σ H1 Q else tb σ H1 Q
theorem z9C {c : Expr} (hc : PT X c tA) (ha : PE X a ta) (hb : PE X b tb) : PE X (.IfExp c a b pos) (tIf tA ta tb) := by
 intro pins s σ H Q I h
 refine wpAny_IfExp (thn (hc pins s σ H _ I h) fun d s1 hz => ?_)
 obtain ⟨H1, I1, q1⟩ := hz
 cases d with
 | true => exact ha pins s1 σ H1 Q I1 q1
 | false => exact hb pins s1 σ H1 Q I1 q1
end
end L2

namespace L2
open PySem PySem.Spec PyProof.Rows

def SqL (K : PySem.W.Frag) (H : Hp) (a : Addr) (xs : List V) : Prop :=
 Rd H a (.lst xs) \/
  ∃ (o : Obj) (its : Array Value) (n : Nat), K.lookup a = some o /\ o.cls = .type "list" /\ o.dict = none /\ o.data = .seq its n /\ its.size ≤ sizeLine /\ Vals xs its.toList
def SqT (K : PySem.W.Frag) (H : Hp) (a : Addr) (xs : List V) : Prop :=
 Rd H a (.tup xs) \/
  ∃ (o : Obj) (its : Array Value) (n : Nat), K.lookup a = some o /\ o.cls = .type "tuple" /\ o.data = .seq its n /\ its.size ≤ sizeLine /\ Vals xs its.toList
def absV : Value -> Option V
 | .none => some .non
 | .bool b => some (.bl b)
 | .int i _ => some (.int i)
 | .str x _ => some (.str x)
 | .bytes b _ => some (.byt b)
 | .float b _ => some (.flt b)
 | .ref a => some (.ref a)
 | .type n => some (.ty n)
 | _ => none
theorem RelV.abs {x : V} {u : Value} (r : RelV x u) : absV u = some x := by
 cases x with
 | non => cases r; rfl
 | bl _ => cases r; rfl
 | int _ => obtain ⟨t, rfl⟩ := r; rfl
 | str _ => obtain ⟨t, rfl⟩ := r; rfl
 | byt _ => obtain ⟨t, rfl⟩ := r; rfl
 | flt _ => obtain ⟨t, rfl⟩ := r; rfl
 | ref _ => cases r; rfl
 | ty _ => cases r; rfl
theorem RelV.inj {x y : V} {u : Value} (r : RelV x u) (q : RelV y u) : x = y := Option.some.inj (r.abs.symm.trans q.abs)
theorem Vals.inj : ∀ {xs ys : List V} {us : List Value}, Vals xs us -> Vals ys us -> xs = ys
 | _, _, _, .nil, .nil => rfl
 | _, _, _, .cons r t, .cons r' t' => by rw [r.inj r', Vals.inj t t']
section
variable {X : Cx} {pins : List (Addr × Obj)} {σ : St} {H : Hp} {s : Shared} {a : Addr} {xs ys : List V}
theorem SqL.of {K : PySem.W.Frag} (h : H a = some (.lst xs)) : SqL K H a xs := .inl (.inl h)
theorem SqT.of {K : PySem.W.Frag} (h : H a = some (.tup xs)) : SqT K H a xs := .inl (.inl h)
theorem Inv.list (I : Inv X pins σ H s) (h : SqL X.K H a xs) : ∃ its : List Value, Vals xs its /\ PlainL s.heap a its.toArray /\ xs.length ≤ sizeLine := by
 rcases h with h | ⟨o, its, n, hk, hc, hd, hs, hz, r⟩
 ·obtain ⟨z, its, n, r, e⟩ := h.ok I.hok
  exact ⟨its, r, ⟨_, n, e, rfl, rfl, rfl⟩, z⟩
 ·refine ⟨its.toList, r, ⟨o, n, I.kIn a o hk, hc, hd, by simpa using hs⟩, ?_⟩
  have e := r.length
  simp only [Array.length_toList] at e
  omega
theorem Inv.tuple (I : Inv X pins σ H s) (h : SqT X.K H a xs) : ∃ its : List Value, Vals xs its /\ IsTup s.heap a its.toArray /\ xs.length ≤ sizeLine := by
 rcases h with h | ⟨o, its, n, hk, hc, hs, hz, r⟩
 ·obtain ⟨z, its, r, p⟩ := h.ok I.hok
  exact ⟨its, r, PlT.tup p, z⟩
 ·refine ⟨its.toList, r, ⟨o, I.kIn a o hk, hc, n, by simpa using hs⟩, ?_⟩
  have e := r.length
  simp only [Array.length_toList] at e
  omega
theorem Inv.list_inj (I : Inv X pins σ H s) (h : SqL X.K H a xs) (h' : SqL X.K H a ys) : xs = ys := by
 obtain ⟨its, r, ⟨o, n, e, _, _, d⟩, _⟩ := I.list h
 obtain ⟨its', r', ⟨o', n', e', _, _, d'⟩, _⟩ := I.list h'
 rw [e] at e'; cases e'
 rw [d] at d'
 injection d' with d1 _
 have : its = its' := by simpa using congrArg Array.toList d1
 subst this
 exact r.inj r'
theorem Inv.tuple_inj (I : Inv X pins σ H s) (h : SqT X.K H a xs) (h' : SqT X.K H a ys) : xs = ys := by
 obtain ⟨its, r, ⟨o, e, _, n, d⟩, _⟩ := I.tuple h
 obtain ⟨its', r', ⟨o', e', _, n', d'⟩, _⟩ := I.tuple h'
 rw [e] at e'; cases e'
 rw [d] at d'
 injection d' with d1 _
 have : its = its' := by simpa using congrArg Array.toList d1
 subst this
 exact r.inj r'
end

abbrev Cx.wish (X : Cx) (E : Value -> Shared -> Prop) : Cx := { X with xe := E }
abbrev Cx.nox (X : Cx) : Cx := X.wish fun _ _ => False
theorem Cx.Ok.wish {X : Cx} (ok : X.Ok) (E : Value -> Shared -> Prop) : (X.wish E).Ok :=
 ⟨ok.mod, ok.kind, ok.glob, ok.blt, ok.above, ok.inj, ok.has, ok.cab, ok.hd, ok.frames, ok.stk, ok.exf, ok.bs, ok.bsz, ok.noex, ok.exfs, ok.funs, ok.frf⟩
theorem Cx.Ok.unwish {X : Cx} {E : Value -> Shared -> Prop} (ok : (X.wish E).Ok) : X.Ok :=
 ⟨ok.mod, ok.kind, ok.glob, ok.blt, ok.above, ok.inj, ok.has, ok.cab, ok.hd, ok.frames, ok.stk, ok.exf, ok.bs, ok.bsz, ok.noex, ok.exfs, ok.funs, ok.frf⟩
section
variable {X : Cx} {pins : List (Addr × Obj)} {σ : St} {H : Hp} {s : Shared} {E : Value -> Shared -> Prop}
theorem Inv.wish (I : Inv X pins σ H s) (E : Value -> Shared -> Prop) : Inv (X.wish E) pins σ H s := ⟨I.ok.wish E, I.os, I.bare, I.base, I.loc, I.cell, I.free, I.freeC, I.pin, I.hok, I.len⟩
theorem Inv.unwish (I : Inv (X.wish E) pins σ H s) : Inv X pins σ H s := ⟨I.ok.unwish, I.os, I.bare, I.base, I.loc, I.cell, I.free, I.freeC, I.pin, I.hok, I.len⟩
theorem SP.unwish {D : Ends} {f : Flow} {s' : Shared} (h : SP (X.wish E) pins D f s') : SP X pins D f s' := by
 cases f with
 | next => obtain ⟨σ', H', I, q⟩ := h; exact ⟨σ', H', I.unwish, q⟩
 | brk => obtain ⟨σ', H', I, q⟩ := h; exact ⟨σ', H', I.unwish, q⟩
 | cont => obtain ⟨σ', H', I, q⟩ := h; exact ⟨σ', H', I.unwish, q⟩
 | ret u => obtain ⟨v, σ', H', I, r, q⟩ := h; exact ⟨v, σ', H', I.unwish, r, q⟩
theorem PSs.nox {st : List Stmt} {t : TS} (h : PSs X.nox st t) : PSs X st t := fun pins s σ H D I hw =>
 wpAny_mono (h pins s σ H D (I.wish _) hw) (fun _ _ q => q.unwish) fun _ _ z => False.elim z
end

section
variable {X : Cx} {st : Stmt} {rest : List Stmt} {t u : TS} {e : Expr} {te : TE} {pos : Pos}
def tNext : TS := fun D σ H => D.nx σ H
def tSeq (t u : TS) : TS := fun D σ H => t { D with nx := u D } σ H
theorem z0q : PSs X [] tNext := fun _ _ σ H _ I h => wpAny_execs_nil ⟨σ, H, I, h⟩
theorem z04 (h1 : PS X st t) (h2 : PSs X rest u) : PSs X (st :: rest) (tSeq t u) := by
 intro pins s σ H D I h
 refine wpAny_execs_cons (thn (h1 pins s σ H { D with nx := u D } I h) fun f s1 q => ?_)
 cases f with
 | next =>
  obtain ⟨σ', H', I', q⟩ := q
  exact h2 pins s1 σ' H' D I' q
 | ret v => exact q
 | brk => exact q
 | cont => exact q
theorem z07 (h1 : PS X st t) : PSs X [st] t := by
 intro pins s σ H D I h
 refine wpAny_execs_cons (thn (h1 pins s σ H D I h) fun f s1 q => ?_)
 cases f with
 | next => exact wpAny_execs_nil q
 | ret v => exact q
 | brk => exact q
 | cont => exact q
def y4L : TS := fun D σ H => D.bk σ H
theorem y2G : PS X (.Break pos) y4L := fun _ _ σ H _ I h => wpAny_Break ⟨σ, H, I, h⟩
theorem Inv.quiet {pins : List (Addr × Obj)} {σ : St} {H : Hp} {s : Shared} (I : Inv X pins σ H s) : interactive X.env = false := by simp [interactive, I.ok.kind]
def tDrop (te : TE) : TS := fun D σ H => te σ H fun _ H1 => D.nx σ H1
theorem z0A (he : PE X e te) (hs : swapsWith e none pos.line X.env = pure false := by rfl) : PS X (.Expr e pos) (tDrop te) := by
 intro pins s σ H D I h
 exact wpAny_Expr_any (thn (he pins s σ H _ I h) fun v s1 ⟨x, H1, I1, r1, q1⟩ => ⟨σ, H1, I1, q1⟩) I.quiet hs
def tRet (te : TE) : TS := fun D σ H => te σ H D.rt
theorem z0o (he : PE X e te) : PS X (.Return (some e) pos) (tRet te) := by
 intro pins s σ H D I h
 exact wpAny_Return_some (thn (he pins s σ H _ I h) fun v s1 ⟨x, H1, I1, r1, q1⟩ => ⟨x, σ, H1, I1, r1, q1⟩)
def tIfS (c : TT) (t u : TS) : TS := fun D σ H => c σ H fun b H1 => if b = true then t D σ H1 else u D σ H1
theorem z0R {c : Expr} {a b : List Stmt} {tc : TT} (hc : PT X c tc) (ha : PSs X a t) (hb : PSs X b u) : PS X (.If c a b pos) (tIfS tc t u) := by
 intro pins s σ H D I h
 refine wpAny_If (thn (hc pins s σ H _ I h) fun d s1 hz => ?_)
 obtain ⟨H1, I1, q1⟩ := hz
 cases d with
 | true => exact ha pins s1 σ H1 D I1 q1
 | false => exact hb pins s1 σ H1 D I1 q1
def y4u : TS := fun _ _ _ => False
theorem z1A : PS X st y4u := fun _ _ _ _ _ _ h => h.elim
end

abbrev TG := V -> St -> Hp -> (St -> Hp -> Prop) -> Prop
abbrev TGs := List V -> St -> Hp -> (St -> Hp -> Prop) -> Prop
def PG (X : Cx) (target : Expr) (t : TG) : Prop :=
 ∀ (pins : List (Addr × Obj)) (s : Shared) (σ : St) (H : Hp) (v : V) (u : Value) (Q : St -> Hp -> Prop), Inv X pins σ H s -> RelV v u -> t v σ H Q ->
  wpAny (model X.prog X.w) X.A (assign target X.env u) (fun _ s' => ∃ σ' H', Inv X pins σ' H' s' /\ Q σ' H') X.xe s
def PGs (X : Cx) (ts : List Expr) (t : TGs) : Prop :=
 ∀ (pins : List (Addr × Obj)) (s : Shared) (σ : St) (H : Hp) (vs : List V) (us : List Value) (Q : St -> Hp -> Prop), Inv X pins σ H s -> Vals vs us -> t vs σ H Q ->
  wpAny (model X.prog X.w) X.A (assignInOrder ((assignEach ts X.env).map (·.2)) us) (fun _ s' => ∃ σ' H', Inv X pins σ' H' s' /\ Q σ' H') X.xe s
section
variable {X : Cx} {pos : Pos}
def y07 (i : Nat) : TG := fun v σ H Q => Q (σ.set i (some v)) H
theorem z0n {i : Nat} {x : Str} (hN : X.N.Nodup) (hi : X.N[i]? = some x) (hx : Loc X.env.scope x) (hf : X.fn x = true \/ X.env.scope.names.lookup x = some .local := by first | exact .inl rfl | exact .inr rfl | assumption) : PG X (.Name x pos) (y07 i) := by
 intro pins s σ H v u Q I r h
 exact wpAny_assign_Name (z9M I hN hi hx r (fun s' I' => ⟨_, H, I', h⟩) hf)
def gNil : TGs := fun vs σ H Q => vs = [] /\ Q σ H
def y3y (t : TG) (u : TGs) : TGs := fun vs σ H Q => ∃ v r, vs = v :: r /\ t v σ H fun σ' H' => u r σ' H' Q
theorem z4U : PGs X [] gNil := by
 intro pins s σ H vs us Q I r h
 obtain ⟨e, h⟩ := h
 subst e
 cases r
 exact assignInOrder_nil ⟨σ, H, I, h⟩
theorem z1M {e : Expr} {es : List Expr} {t : TG} {u : TGs} (h1 : PG X e t) (h2 : PGs X es u)
  (hs : (assignEach (e :: es) X.env).map (·.2) = assign e X.env :: (assignEach es X.env).map (·.2) := by rfl) : PGs X (e :: es) (y3y t u) := by
 intro pins s σ H vs us Q I r h
 obtain ⟨v, vr, e1, h⟩ := h
 subst e1
 cases r with
 | cons r rr =>
  rw [hs]
  refine assignInOrder_cons (thn (h1 pins s σ H _ _ _ I r h) fun _ s1 hz => ?_)
  obtain ⟨σ1, H1, I1, q1⟩ := hz
  exact h2 pins s1 σ1 H1 _ _ Q I1 rr q1
def gTup (K : PySem.W.Frag) (n : Nat) (t : TGs) : TG := fun v σ H Q => ∃ a xs, v = .ref a /\ SqT K H a xs /\ xs.length = n /\ t xs σ H Q
theorem y4J {es : List Expr} {k : Nat} {t : TGs} {n : Nat} (hc : X.calm = true) (h : PGs X es t)
  (hn : (assignEach es X.env).length = n := by rfl) (hst : (assignEach es X.env).findIdx? (·.1) = none := by rfl) : PG X (.Tuple es k pos) (gTup X.K n t) := by
 intro pins s σ H v u Q I r hw
 obtain ⟨a, xs, e1, hq, hl, hw⟩ := hw
 subst e1
 cases r
 obtain ⟨its, rv, ht, hz⟩ := I.tuple hq
 refine assign_Tuple_tuple (I.ok.hd hc) ht (by simp [hn, <- hl, rv.length]) hst fun h' hx => ?_
 have I1 : Inv X pins σ H { s with heap := h' } := I.kept (t' := s.toks) fun b o e => hx b o (Nat.ne_of_lt (Heap.lt_size e)) e
 exact h pins _ σ H xs _ Q I1 (by simpa using rv) hw
def tAsg (te : TE) (g : TG) : TS := fun D σ H => te σ H fun x H1 => g x σ H1 D.nx
theorem z0m {i : Nat} {x : Str} {e : Expr} {te : TE} {pos' : Pos} (hN : X.N.Nodup) (hi : X.N[i]? = some x) (hx : Loc X.env.scope x) (he : PE X e te) (hs : swapsWith e (some (.Name x pos')) pos.line X.env = pure false := by rfl) (hf : X.fn x = true \/ X.env.scope.names.lookup x = some .local := by first | exact .inl rfl | exact .inr rfl | assumption) :
  PS X (.Assign [.Name x pos'] e pos) (tAsg te (y07 i)) := by
 intro pins s σ H D I h
 refine wpAny_Assign_Name (thn (he pins s σ H _ I h) fun v s1 hz => ?_) hs
 obtain ⟨y, H1, I1, r1, q1⟩ := hz
 exact z9M I1 hN hi hx r1 (fun s2 I2 => ⟨_, H1, I2, q1⟩) hf
end

section
variable {X : Cx} {pos : Pos}
end

structure It where
 go : Nat -> Hp -> Prop
 yld : Nat -> Hp -> V -> Hp -> Prop
 stop : Nat -> Hp -> Prop
def FpOk (X : Cx) (pins : List (Addr × Obj)) (H : Hp) (b : Addr) : Prop :=
 H b = none /\ b ≠ X.env.locals /\ b ∉ X.fs /\ (b ∈ X.ex \/ X.s₀.heap.objs.size ≤ b) /\ (∀ x c, X.env.cells.lookup x = some c -> c ≠ b) /\ ∀ p ∈ X.pn ++ pins, p.1 ≠ b
theorem Inv.fpOk {X : Cx} {pins : List (Addr × Obj)} {σ : St} {H H' : Hp} {s : Shared} {b : Addr} (I : Inv X pins σ H s) (hb : s.heap.objs.size ≤ b) (hn : H' b = none) : FpOk X pins H' b := by
 refine ⟨hn, Nat.ne_of_gt (Nat.lt_of_lt_of_le I.lt hb), I.nofs hb, .inr (Nat.le_trans I.sz hb), fun x c e z => ?_, fun p hp z => ?_⟩
 ·obtain ⟨v, q⟩ := I.cell x c e
  exact absurd (Nat.lt_of_lt_of_le q.lt (by rw [z]; exact hb)) (Nat.lt_irrefl _)
 ·exact absurd (Nat.lt_of_lt_of_le (Heap.lt_size (I.pin p hp).1) (by rw [z]; exact hb)) (Nat.lt_irrefl _)
structure Turn (P : Program) (w : World) (K : PySem.W.Frag) (tg : Expr) (J : It) (fp : List Addr) (it : Addr) (tn : Nat -> Heap -> Prop) : Prop where
 mem : it ∈ fp
 obj : ∀ i h, tn i h -> ∀ b ∈ fp, ∃ o, h.get? b = some o /\ ∀ v, o.data ≠ .cell v
 keep : ∀ i h h', tn i h -> (∀ b ∈ fp, ∀ o, h.get? b = some o -> h'.get? b = some o) -> tn i h'
 item : ∀ (X : Cx), X.prog = P -> X.w = w -> X.K = K -> X.calm = true -> ∀ (i : Nat) (pins : List (Addr × Obj)) (s : Shared) (σ : St) (H : Hp) (E : Value -> Shared -> Prop), Inv X pins σ H s -> (∀ b ∈ fp, FpOk X pins H b) -> tn i s.heap -> J.go i H ->
  wpAny (model P w) X.A (pyNext (.ref it)) (fun r s1 => ∃ u, r = some u /\
   wpAny (model P w) X.A (letOwnedTupleGo tg (.ref it) u) (fun _ s2 => ∃ x H', Inv X pins σ H' s2 /\ RelV x u /\ J.yld i H x H' /\ tn (i + 1) s2.heap /\ ∀ b ∈ fp, H' b = none) E s1) E s
 done : ∀ (X : Cx), X.prog = P -> X.w = w -> X.K = K -> X.calm = true -> ∀ (i : Nat) (pins : List (Addr × Obj)) (s : Shared) (σ : St) (H : Hp) (E : Value -> Shared -> Prop), Inv X pins σ H s -> (∀ b ∈ fp, FpOk X pins H b) -> tn i s.heap -> J.stop i H ->
  wpAny (model P w) X.A (pyNext (.ref it)) (fun r s1 => r = none /\ Inv X pins σ H s1) E s
 self : ∀ (A : Around) (i : Nat) (s : Shared) (Q : Value -> Shared -> Prop) (E : Value -> Shared -> Prop), tn i s.heap -> Q (.ref it) s -> wpAny (model P w) A (pyIter (.ref it)) Q E s
abbrev TI := St -> Hp -> (It -> Hp -> Prop) -> Prop
def PIE (X : Cx) (pins : List (Addr × Obj)) (σ : St) (tg : Expr) (R : It -> Hp -> Prop) (itv : Value) (s2 : Shared) : Prop :=
 ∃ (it : Addr) (fp : List Addr) (tn : Nat -> Heap -> Prop) (J : It) (H' : Hp), itv = .ref it /\ Inv X pins σ H' s2 /\ Turn X.prog X.w X.K tg J fp it tn /\ tn 0 s2.heap /\ (∀ b ∈ fp, FpOk X pins H' b) /\ R J H'
def PI (X : Cx) (tg iter : Expr) (wi : TI) : Prop :=
 ∀ (pins : List (Addr × Obj)) (s : Shared) (σ : St) (H : Hp) (R : It -> Hp -> Prop), Inv X pins σ H s -> wi σ H R ->
  wpAny (model X.prog X.w) X.A (eval iter X.env) (fun v s1 => wpAny (model X.prog X.w) X.A (pyIter v) (PIE X pins σ tg R) X.xe s1) X.xe s

theorem y1G {M : Model} {A : Around} {E : Value -> Shared -> Prop} {s : Shared} {tg : Expr} {it : Addr} {u : Value} {o : Obj} {n : String} {vs : Array Value} {Q : Unit -> Shared -> Prop} (ho : s.heap.get? it = some o) (hc : o.cls = .type n) (hd : o.data = .fields vs)
    (hn : ["enumerate", "zip", "dict_itemiterator", "dict_reverseitemiterator", "odict_iterator", "itertools.zip_longest", "itertools.pairwise"].contains n = false) (hQ : Q () s) : wpAny M A (letOwnedTupleGo tg (.ref it) u) Q E s := by
  unfold letOwnedTupleGo
  cases tg <;> first
    | exact wpAny_pure hQ
    | (cases u <;> first
        | exact wpAny_pure hQ
        | (refine wpAny_bind (wpAny_load ho ?_)
           rw [hc, hd]
           show wpAny M A (if (["enumerate", "zip", "dict_itemiterator", "dict_reverseitemiterator", "odict_iterator", "itertools.zip_longest", "itertools.pairwise"].contains n && vs[0]? == some (rawInt _)) = true then _ else _) Q E s
           rw [if_neg (by intro h; rw [hn, Bool.false_and] at h; cases h)]
           exact wpAny_pure hQ))

def Itl (K : PySem.W.Frag) (a : Addr) : It :=
 ⟨fun i H => ∃ xs x, SqL K H a xs /\ xs[i]? = some x, fun i H x H' => H' = H /\ ∀ xs, SqL K H a xs -> xs[i]? = some x, fun i H => ∃ xs, SqL K H a xs /\ xs.length ≤ i⟩
def Itt (K : PySem.W.Frag) (a : Addr) : It :=
 ⟨fun i H => ∃ xs x, SqT K H a xs /\ xs[i]? = some x, fun i H x H' => H' = H /\ ∀ xs, SqT K H a xs -> xs[i]? = some x, fun i H => ∃ xs, SqT K H a xs /\ xs.length ≤ i⟩
def Itr (lo : Int) (n : Nat) : It := ⟨fun i _ => i < n, fun i H x H' => H' = H /\ x = .int (lo + i), fun i _ => n ≤ i⟩
theorem z8n {P : Program} {w : World} {K : PySem.W.Frag} {tg : Expr} (a it : Addr) : Turn P w K tg (Itl K a) [it] it (fun i h => h.IsListIter it a i) where
 mem := by simp
 obj := fun i h st b hb => by
  have e : b = it := by simpa using hb
  subst e
  obtain ⟨o, e, c, d⟩ := st
  exact ⟨o, e, fun v z => by rw [d] at z; cases z⟩
 keep := fun i h h' st k => st.at fun o e => k it (by simp) o e
 item := by
  intro X hP hw hK hc i pins s σ H E I hf st hg
  subst hP hw hK
  obtain ⟨xs, x, hq, hx⟩ := hg
  obtain ⟨its, rv, p, hz⟩ := I.list hq
  obtain ⟨u, hu, ru⟩ := rv.get hx
  obtain ⟨f0, f1, f2, f3, f4, f5⟩ := hf it (by simp)
  refine wpAny_pyNext_list_item st p.isList (x := u) (by simpa using hu) fun h' st' sb => ?_
  have I1 : Inv X pins σ H { s with heap := h' } := I.turned (t' := s.toks) (fun b o hb e => (sb.2 b hb).trans e) f0 f1 f3 f4 f5
  obtain ⟨o, e, c, d⟩ := id st'
  exact ⟨u, rfl, y1G (s := { s with heap := h' }) e c d (by decide) ⟨x, H, I1, ru, ⟨rfl, fun ys hy => by rw [I.list_inj hy hq]; exact hx⟩, st', fun b hb => (hf b hb).1⟩⟩
 done := by
  intro X hP hw hK hc i pins s σ H E I hf st hg
  subst hP hw hK
  obtain ⟨xs, hq, hx⟩ := hg
  obtain ⟨its, rv, p, hz⟩ := I.list hq
  obtain ⟨f0, f1, f2, f3, f4, f5⟩ := hf it (by simp)
  have hl := rv.length
  exact wpAny_pyNext_list_end (I.ok.hd hc) st p.isList (by simp; omega) fun h' eb => ⟨rfl, I.turned (t' := s.toks) (fun b o hb e => eb b o hb e) f0 f1 f3 f4 f5⟩
 self := fun _ _ _ _ _ st h => wpAny_pyIter_listiter st h
theorem z79 {P : Program} {w : World} {K : PySem.W.Frag} {tg : Expr} (a it : Addr) : Turn P w K tg (Itt K a) [it] it (fun i h => h.IsTupleIter it a i) where
 mem := by simp
 obj := fun i h st b hb => by
  have e : b = it := by simpa using hb
  subst e
  obtain ⟨o, e, c, d⟩ := st
  exact ⟨o, e, fun v z => by rw [d] at z; cases z⟩
 keep := fun i h h' st k => st.at fun o e => k it (by simp) o e
 item := by
  intro X hP hw hK hc i pins s σ H E I hf st hg
  subst hP hw hK
  obtain ⟨xs, x, hq, hx⟩ := hg
  obtain ⟨its, rv, p, hz⟩ := I.tuple hq
  obtain ⟨u, hu, ru⟩ := rv.get hx
  obtain ⟨f0, f1, f2, f3, f4, f5⟩ := hf it (by simp)
  refine wpAny_pyNext_tuple_item st (show s.heap.IsTuple a its.toArray from p) (x := u) (by simpa using hu) fun h' st' sb => ?_
  have I1 : Inv X pins σ H { s with heap := h' } := I.turned (t' := s.toks) (fun b o hb e => (sb.2 b hb).trans e) f0 f1 f3 f4 f5
  obtain ⟨o, e, c, d⟩ := id st'
  exact ⟨u, rfl, y1G (s := { s with heap := h' }) e c d (by decide) ⟨x, H, I1, ru, ⟨rfl, fun ys hy => by rw [I.tuple_inj hy hq]; exact hx⟩, st', fun b hb => (hf b hb).1⟩⟩
 done := by
  intro X hP hw hK hc i pins s σ H E I hf st hg
  subst hP hw hK
  obtain ⟨xs, hq, hx⟩ := hg
  obtain ⟨its, rv, p, hz⟩ := I.tuple hq
  obtain ⟨f0, f1, f2, f3, f4, f5⟩ := hf it (by simp)
  have hl := rv.length
  exact wpAny_pyNext_tuple_end (I.ok.hd hc) st (show s.heap.IsTuple a its.toArray from p) (by simp; omega) fun h' eb => ⟨rfl, I.turned (t' := s.toks) (fun b o hb e => eb b o hb e) f0 f1 f3 f4 f5⟩
 self := fun _ _ _ _ _ st h => wpAny_pyIter_tupleiter st h
theorem y0y {P : Program} {w : World} {K : PySem.W.Frag} {tg : Expr} (it : Addr) (lo : Int) (n : Nat) : Turn P w K tg (Itr lo n) [it] it (fun i h => IsRangeIter h it (lo + (i : Nat) * 1) ((n : Int) - (i : Nat)) 1) where
 mem := by simp
 obj := fun i h st b hb => by
  have e : b = it := by simpa using hb
  subst e
  exact ⟨_, st, fun v z => by
   have z' : Data.fields _ = Data.cell v := z
   cases z'⟩
 keep := fun i h h' st k => k it (by simp) _ st
 item := by
  intro X hP hw hK hc i pins s σ H E I hf st hg
  subst hP hw hK
  obtain ⟨f0, f1, f2, f3, f4, f5⟩ := hf it (by simp)
  have W := Walks.range (prog := X.prog) (w := X.w) (I.ok.hd hc) it lo 1 n
  refine W.item i s _ _ hg st fun v h' tk hv st' kk => ?_
  obtain ⟨t, rfl⟩ := hv
  have I1 : Inv X pins σ H { s with heap := h', toks := tk } := I.turned (fun b o hb e => kk b o (by simpa using hb) e) f0 f1 f3 f4 f5
  refine ⟨_, rfl, y1G (s := { s with heap := h', toks := tk }) (n := "range_iterator") st' rfl rfl (by decide) ⟨.int (lo + i), H, I1, ⟨t, ?_⟩, ⟨rfl, rfl⟩, st', fun b hb => (hf b hb).1⟩⟩
  rw [Int.mul_one]
 done := by
  intro X hP hw hK hc i pins s σ H E I hf st hg
  subst hP hw hK
  obtain ⟨f0, f1, f2, f3, f4, f5⟩ := hf it (by simp)
  exact wpAny_pyNext_range_end (I.ok.hd hc) st (by have : n ≤ i := hg; omega) fun h' eb => ⟨rfl, I.turned (t' := s.toks) (fun b o hb e => eb b o hb e) f0 f1 f3 f4 f5⟩
 self := fun _ _ _ _ _ st h => wpAny_pyIter_rangeiter st h
end L2

namespace L2
open PySem PySem.Spec PyProof.Rows
section
variable {X : Cx} {tg : Expr}
def iList (K : PySem.W.Frag) (tl : TE) : TI := fun σ H R => tl σ H fun x H1 => ∃ a, x = .ref a /\ (∃ xs, SqL K H1 a xs) /\ R (Itl K a) H1
def iTup (K : PySem.W.Frag) (tl : TE) : TI := fun σ H R => tl σ H fun x H1 => ∃ a, x = .ref a /\ (∃ xs, SqT K H1 a xs) /\ R (Itt K a) H1
theorem z1Z {l : Expr} {tl : TE} (hl : PE X l tl) : PI X tg l (iList X.K tl) := by
 intro pins s σ H R I h
 refine thn (hl pins s σ H _ I h) fun v s1 hz => ?_
 obtain ⟨x, H1, I1, r1, q1⟩ := hz
 obtain ⟨a, e, ⟨xs, hq⟩, q⟩ := q1
 subst e
 cases r1
 obtain ⟨its, rv, p, hz⟩ := I1.list hq
 refine wpAny_pyIter_list p.isList ?_
 refine ⟨s1.heap.objs.size, [s1.heap.objs.size], _, _, H1, rfl, I1.kept (t' := s1.toks) fun b o e => Heap.get?_push_of_some _ e, z8n a _, ⟨_, Heap.get?_push_size _ rfl, rfl, rfl⟩, fun b hb => ?_, q⟩
 have e : b = s1.heap.objs.size := by simpa using hb
 subst e
 exact I1.fpOk (Nat.le_refl _) (I1.hok.fresh (Nat.le_refl _))
theorem z4r {l : Expr} {tl : TE} (hl : PE X l tl) : PI X tg l (iTup X.K tl) := by
 intro pins s σ H R I h
 refine thn (hl pins s σ H _ I h) fun v s1 hz => ?_
 obtain ⟨x, H1, I1, r1, q1⟩ := hz
 obtain ⟨a, e, ⟨xs, hq⟩, q⟩ := q1
 subst e
 cases r1
 obtain ⟨its, rv, p, hz⟩ := I1.tuple hq
 refine wpAny_pyIter_tuple (show s1.heap.IsTuple a its.toArray from p) ?_
 refine ⟨s1.heap.objs.size, [s1.heap.objs.size], _, _, H1, rfl, I1.kept (t' := s1.toks) fun b o e => Heap.get?_push_of_some _ e, z79 a _, ⟨_, Heap.get?_push_size _ rfl, rfl, rfl⟩, fun b hb => ?_, q⟩
 have e : b = s1.heap.objs.size := by simpa using hb
 subst e
 exact I1.fpOk (Nat.le_refl _) (I1.hok.fresh (Nat.le_refl _))
theorem z9Q {pins : List (Addr × Obj)} {σ : St} {H : Hp} {s : Shared} {R : It -> Hp -> Prop} {E : Value -> Shared -> Prop} {lo hi : Int} {t u v : Tok} {tk : Nat} (I : Inv X pins σ H s) (h1 : -(2 ^ 62) ≤ lo) (h2 : lo < 2 ^ 62) (h3 : -(2 ^ 62) ≤ hi) (h4 : hi < 2 ^ 62)
  (q : R (Itr lo (hi - lo).toNat) H) : wpAny (model X.prog X.w) X.A (pyIter (.ref s.heap.objs.size)) (PIE X pins σ tg R) E { s with heap := s.heap.push { cls := .type "range", data := .fields #[.int lo t, .int hi u, .int 1 v] }, toks := tk } := by
 refine wpAny_pyIter_range (IsRange.new ..) (small_one h1 h2 h3 h4) ?_
 have I1 : Inv X pins σ H { s with heap := s.heap.push { cls := .type "range", data := .fields #[.int lo t, .int hi u, .int 1 v] }, toks := tk } := I.kept fun b o e => Heap.get?_push_of_some _ e
 refine ⟨(s.heap.push { cls := .type "range", data := .fields #[.int lo t, .int hi u, .int 1 v] }).objs.size, [(s.heap.push { cls := .type "range", data := .fields #[.int lo t, .int hi u, .int 1 v] }).objs.size], _, _, H, rfl,
  I1.kept (t' := tk) fun b o e => Heap.get?_push_of_some _ e, y0y _ lo (hi - lo).toNat, ?_, fun b hb => ?_, q⟩
 ·have e1 : lo + ((0 : Nat) : Int) * 1 = lo := by simp
  have e2 : (((hi - lo).toNat : Nat) : Int) - ((0 : Nat) : Int) = Builtin.Range.rangeSize lo hi 1 := by rw [rangeSize_one]; split <;> omega
  show IsRangeIter _ _ (lo + ((0 : Nat) : Int) * 1) ((((hi - lo).toNat : Nat) : Int) - ((0 : Nat) : Int)) 1
  rw [e1, e2]
  exact Heap.get?_push_size _ rfl
 ·have e : b = (s.heap.push { cls := .type "range", data := .fields #[.int lo t, .int hi u, .int 1 v] }).objs.size := by simpa using hb
  subst e
  exact I1.fpOk (Nat.le_refl _) (I1.hok.fresh (Nat.le_refl _))
def iRng1 (ta : TA) : TI := fun σ H R => ta σ H fun vs H1 => ∃ j : Int, vs = [.int j] /\ -(2 ^ 62) ≤ j /\ j < 2 ^ 62 /\ R (Itr 0 j.toNat) H1
def iRng2 (ta : TA) : TI := fun σ H R => ta σ H fun vs H1 => ∃ i j : Int, vs = [.int i, .int j] /\ (-(2 ^ 62) ≤ i /\ i < 2 ^ 62 /\ -(2 ^ 62) ≤ j /\ j < 2 ^ 62) /\ R (Itr i (j - i).toNat) H1
theorem z18 {a : Expr} {ta : TA} {p pos : Pos} (hg : Gl X "range") (hm : X.mg "range" = none) (ha : PA X [a] ta) (hs : starEach [a] X.env = [(false, eval a X.env)] := by rfl) : PI X tg (.Call (.Name "range" p) [a] [] pos) (iRng1 ta) := by
 intro pins s σ H R I h
 refine Call_ (z4w I hg hm boot_range (PyProof.Rows.callWith_type1 (thn (ha pos pins s σ H _ I h) fun us s1 hz => ?_) hs rfl))
 obtain ⟨vs, H1, I1, r1, q1⟩ := hz
 obtain ⟨j, e, q1, q2, q⟩ := q1
 subst e
 cases r1 with
 | cons r rr =>
  cases rr
  obtain ⟨t, rfl⟩ := r
  exact call_range_1 (z9Q I1 (by omega) (by omega) q1 q2 (by simpa using q))
theorem z4s {a b : Expr} {ta : TA} {p pos : Pos} (hg : Gl X "range") (hm : X.mg "range" = none) (ha : PA X [a, b] ta) (hs : starEach [a, b] X.env = [(false, eval a X.env), (false, eval b X.env)] := by rfl) (hs2 : starEach [b] X.env = [(false, eval b X.env)] := by rfl) :
  PI X tg (.Call (.Name "range" p) [a, b] [] pos) (iRng2 ta) := by
 intro pins s σ H R I h
 refine Call_ (z4w I hg hm boot_range (PyProof.Rows.callWith_type1 (thn (ha pos pins s σ H _ I h) fun us s1 ⟨vs, H1, I1, r1, q1⟩ => ?_) (by rw [hs, hs2]) (by rw [hs2]; rfl)))
 obtain ⟨i, j, e, ⟨q1, q2, q3, q4⟩, q⟩ := q1
 subst e
 cases r1 with
 | cons r rr =>
  cases rr with
  | cons r' rr =>
   cases rr
   obtain ⟨t, rfl⟩ := r
   obtain ⟨t', rfl⟩ := r'
   exact call_range_2 (z9Q I1 q1 q2 q3 q4 q)

def tFor (wi : TI) (g : TG) (tb : TS) : TS := fun D σ H => wi σ H fun J H1 => ∃ W : Nat -> Nat -> St -> Hp -> Prop, (∃ m, W 0 m σ H1) /\ ∀ i m σ H, W i m σ H ->
 (J.stop i H /\ D.nx σ H) \/ (J.go i H /\ ∃ N : St -> Hp -> Prop, (∀ σ' H', N σ' H' -> ∃ m', m' < m /\ W (i + 1) m' σ' H') /\ ∀ x H', J.yld i H x H' -> g x σ H' fun σ2 H2 => tb { D with nx := N, ct := N, bk := D.nx } σ2 H2)
def z8I (fp : List Addr) (h : Heap) : List (Addr × Obj) := fp.filterMap fun b => (h.get? b).map fun o => (b, o)
theorem z3S {fp : List Addr} {h : Heap} {b : Addr} {o : Obj} (hb : b ∈ fp) (e : h.get? b = some o) : (b, o) ∈ z8I fp h := List.mem_filterMap.mpr ⟨b, hb, by rw [e]; rfl⟩
theorem y17 {fp : List Addr} {h : Heap} {p : Addr × Obj} (hp : p ∈ z8I fp h) : p.1 ∈ fp /\ h.get? p.1 = some p.2 := by
 obtain ⟨b, hb, e⟩ := List.mem_filterMap.mp hp
 cases q : h.get? b with
 | none => rw [q] at e; cases e
 | some o =>
  rw [q] at e
  have e' : (b, o) = p := Option.some.inj e
  subst e'
  exact ⟨hb, q⟩
theorem Inv.pinned {pins : List (Addr × Obj)} {σ : St} {H : Hp} {s : Shared} {fp : List Addr} (I : Inv X pins σ H s) (hf : ∀ b ∈ fp, FpOk X pins H b) (ho : ∀ b ∈ fp, ∃ o, s.heap.get? b = some o /\ ∀ v, o.data ≠ .cell v) : Inv X (pins ++ z8I fp s.heap) σ H s :=
 I.pins_of fun p hp => (List.mem_append.mp hp).elim (fun z => I.pin p (List.mem_append_right _ z)) fun z => by
  obtain ⟨hb, e⟩ := y17 z
  obtain ⟨f0, f1, f2, _⟩ := hf p.1 hb
  obtain ⟨o, e', d⟩ := ho p.1 hb
  rw [e] at e'; cases e'
  exact ⟨e, f0, f1, f2, d⟩
theorem Inv.unpinned {pins pl : List (Addr × Obj)} {σ : St} {H : Hp} {s : Shared} (I : Inv X (pins ++ pl) σ H s) : Inv X pins σ H s := I.pins_of fun p hp => I.pin p (List.mem_append_right _ (List.mem_append_left _ hp))
theorem z1p {iter : Expr} {body : List Stmt} {wi : TI} {g : TG} {tb : TS} {pos : Pos} (hp : PassesOwn (model X.prog X.w) X.A X.env X.xe) (hc : X.calm = true) (hi : PI X tg iter wi) (hg : PG X tg g) (hb : PSs X body tb)
  (hs : ∀ x, foldedSetIterable iter X.env x = pure x := by intro _; rfl) : PS X (.For tg iter body [] pos) (tFor wi g tb) := by
 intro pins s σ H D I h
 refine wpAny_For (thn (hi pins s σ H _ I h) fun v s1 h1 => thn h1 fun itv s2 h2 => ?_) hs
 obtain ⟨it, fp, tn, J, H2, e, I2, T, st2, f2, W, ⟨m0, w0⟩, turn⟩ := h2
 subst e
 -- what stays true of the iterator's objects through the loop
 have stat : ∀ {H' : Hp}, (∀ b ∈ fp, H' b = none) -> ∀ b ∈ fp, FpOk X pins H' b := fun hn b hb => ⟨hn b hb, (f2 b hb).2⟩
 refine codeAny_forLoop_any (fun n s' => ∃ i σ' H', Inv X pins σ' H' s' /\ tn i s'.heap /\ (∀ b ∈ fp, H' b = none) /\ W i n σ' H') ?_ m0 ⟨0, σ, H2, I2, st2, fun b hb => (f2 b hb).1, w0⟩
 rintro n s3 ⟨i, σ3, H3, I3, st3, fr3, w3⟩
 rcases turn i n σ3 H3 w3 with ⟨stop, qn⟩ | ⟨go, N, hN, step⟩
 ·refine wpAny_passesOwn hp (thn (T.done X rfl rfl rfl hc i pins s3 σ3 H3 X.xe I3 (stat fr3) st3 stop) fun r s4 hz => ?_)
  obtain ⟨hr, I4⟩ := hz
  subst hr
  exact wpAny_execs_nil ⟨σ3, H3, I4, qn⟩
 ·refine wpAny_passesOwn hp (thn (T.item X rfl rfl rfl hc i pins s3 σ3 H3 X.xe I3 (stat fr3) st3 go) fun r s4 hz => ?_)
  obtain ⟨u, hr, h4⟩ := hz
  subst hr
  refine wpAny_passesOwn hp (thn h4 fun _ s5 hz => ?_)
  obtain ⟨x, H5, I5, r5, y5, st5, fr5⟩ := hz
  have I5' := I5.pinned (stat fr5) (T.obj _ _ st5)
  refine wpAny_passesOwn hp (thn (hg _ s5 σ3 H5 x u _ I5' r5 (step x H5 y5)) fun _ s6 hz => ?_)
  obtain ⟨σ6, H6, I6, q6⟩ := hz
  refine wpAny_passesOwn hp (thn (hb _ s6 σ6 H6 _ I6 q6) fun f s7 q7 => ?_)
  have again : ∀ {σ7 : St} {H7 : Hp}, Inv X (pins ++ z8I fp s5.heap) σ7 H7 s7 -> N σ7 H7 -> ∃ m, m < n /\ ∃ i σ' H', Inv X pins σ' H' s7 /\ tn i s7.heap /\ (∀ b ∈ fp, H' b = none) /\ W i m σ' H' := fun {σ7 H7} I7 n7 => by
   obtain ⟨m', hm, w7⟩ := hN σ7 H7 n7
   refine ⟨m', hm, i + 1, σ7, H7, I7.unpinned, T.keep _ _ _ st5 fun b hb o e => (I7.pin (b, o) (List.mem_append_right _ (List.mem_append_right _ (z3S hb e)))).1, fun b hb => ?_, w7⟩
   obtain ⟨o, e, d⟩ := T.obj _ _ st5 b hb
   exact (I7.pin (b, o) (List.mem_append_right _ (List.mem_append_right _ (z3S hb e)))).2.1
  cases f with
  | next => obtain ⟨σ7, H7, I7, n7⟩ := q7; exact again I7 n7
  | cont => obtain ⟨σ7, H7, I7, n7⟩ := q7; exact again I7 n7
  | brk => obtain ⟨σ7, H7, I7, q7⟩ := q7; exact ⟨σ7, H7, I7.unpinned, q7⟩
  | ret v => obtain ⟨x7, σ7, H7, I7, r7, q7⟩ := q7; exact ⟨x7, σ7, H7, I7.unpinned, r7, q7⟩
end

theorem z2u {K : PySem.W.Frag} {a : Addr} {xs : List V} {g : TG} {tb : TS} {D : Ends} {σ : St} {H : Hp} (Pv : Nat -> St -> Hp -> Prop) (h0 : Pv 0 σ H) (hl : ∀ i σ H, i ≤ xs.length -> Pv i σ H -> SqL K H a xs)
  (hs : ∀ i x σ H, xs[i]? = some x -> Pv i σ H -> g x σ H fun σ2 H2 => tb { D with nx := Pv (i + 1), ct := Pv (i + 1), bk := D.nx } σ2 H2) (hd : ∀ σ H, Pv xs.length σ H -> D.nx σ H) :
  ∃ W : Nat -> Nat -> St -> Hp -> Prop, (∃ m, W 0 m σ H) /\ ∀ i m σ H, W i m σ H ->
   ((Itl K a).stop i H /\ D.nx σ H) \/ ((Itl K a).go i H /\ ∃ N : St -> Hp -> Prop, (∀ σ' H', N σ' H' -> ∃ m', m' < m /\ W (i + 1) m' σ' H') /\ ∀ x H', (Itl K a).yld i H x H' -> g x σ H' fun σ2 H2 => tb { D with nx := N, ct := N, bk := D.nx } σ2 H2) := by
 refine ⟨fun i m σ H => m = xs.length - i /\ i ≤ xs.length /\ Pv i σ H, ⟨xs.length, by simp, Nat.zero_le _, h0⟩, ?_⟩
 rintro i m σ H ⟨rfl, hi, p⟩
 have q := hl i σ H hi p
 by_cases hlt : i < xs.length
 ·refine .inr ⟨⟨xs, xs[i], q, by simp [hlt]⟩, Pv (i + 1), fun σ' H' p' => ⟨xs.length - (i + 1), by omega, rfl, hlt, p'⟩, fun x H' y => ?_⟩
  obtain ⟨e, y⟩ := y
  subst e
  exact hs i x σ _ (y xs q) p
 ·have e : i = xs.length := by omega
  subst e
  exact .inl ⟨⟨xs, q, Nat.le_refl _⟩, hd σ H p⟩
theorem y1u {K : PySem.W.Frag} {a : Addr} {xs : List V} {g : TG} {tb : TS} {D : Ends} {σ : St} {H : Hp} (Pv : Nat -> St -> Hp -> Prop) (h0 : Pv 0 σ H) (hl : ∀ i σ H, i ≤ xs.length -> Pv i σ H -> SqT K H a xs)
  (hs : ∀ i x σ H, xs[i]? = some x -> Pv i σ H -> g x σ H fun σ2 H2 => tb { D with nx := Pv (i + 1), ct := Pv (i + 1), bk := D.nx } σ2 H2) (hd : ∀ σ H, Pv xs.length σ H -> D.nx σ H) :
  ∃ W : Nat -> Nat -> St -> Hp -> Prop, (∃ m, W 0 m σ H) /\ ∀ i m σ H, W i m σ H ->
   ((Itt K a).stop i H /\ D.nx σ H) \/ ((Itt K a).go i H /\ ∃ N : St -> Hp -> Prop, (∀ σ' H', N σ' H' -> ∃ m', m' < m /\ W (i + 1) m' σ' H') /\ ∀ x H', (Itt K a).yld i H x H' -> g x σ H' fun σ2 H2 => tb { D with nx := N, ct := N, bk := D.nx } σ2 H2) := by
 refine ⟨fun i m σ H => m = xs.length - i /\ i ≤ xs.length /\ Pv i σ H, ⟨xs.length, by simp, Nat.zero_le _, h0⟩, ?_⟩
 rintro i m σ H ⟨rfl, hi, p⟩
 have q := hl i σ H hi p
 by_cases hlt : i < xs.length
 ·refine .inr ⟨⟨xs, xs[i], q, by simp [hlt]⟩, Pv (i + 1), fun σ' H' p' => ⟨xs.length - (i + 1), by omega, rfl, hlt, p'⟩, fun x H' y => ?_⟩
  obtain ⟨e, y⟩ := y
  subst e
  exact hs i x σ _ (y xs q) p
 ·have e : i = xs.length := by omega
  subst e
  exact .inl ⟨⟨xs, q, Nat.le_refl _⟩, hd σ H p⟩
theorem z1j {lo : Int} {n : Nat} {g : TG} {tb : TS} {D : Ends} {σ : St} {H : Hp} (Pv : Nat -> St -> Hp -> Prop) (h0 : Pv 0 σ H)
  (hs : ∀ i σ H, i < n -> Pv i σ H -> g (.int (lo + i)) σ H fun σ2 H2 => tb { D with nx := Pv (i + 1), ct := Pv (i + 1), bk := D.nx } σ2 H2) (hd : ∀ σ H, Pv n σ H -> D.nx σ H) :
  ∃ W : Nat -> Nat -> St -> Hp -> Prop, (∃ m, W 0 m σ H) /\ ∀ i m σ H, W i m σ H ->
   ((Itr lo n).stop i H /\ D.nx σ H) \/ ((Itr lo n).go i H /\ ∃ N : St -> Hp -> Prop, (∀ σ' H', N σ' H' -> ∃ m', m' < m /\ W (i + 1) m' σ' H') /\ ∀ x H', (Itr lo n).yld i H x H' -> g x σ H' fun σ2 H2 => tb { D with nx := N, ct := N, bk := D.nx } σ2 H2) := by
 refine ⟨fun i m σ H => m = n - i /\ i ≤ n /\ Pv i σ H, ⟨n, by simp, Nat.zero_le _, h0⟩, ?_⟩
 rintro i m σ H ⟨rfl, hi, p⟩
 by_cases hlt : i < n
 ·refine .inr ⟨hlt, Pv (i + 1), fun σ' H' p' => ⟨n - (i + 1), by omega, rfl, hlt, p'⟩, fun x H' y => ?_⟩
  obtain ⟨e, y⟩ := y
  subst e y
  exact hs i σ _ hlt p
 ·have e : i = n := by omega
  subst e
  exact .inl ⟨Nat.le_refl _, hd σ H p⟩
end L2

namespace L2
open PySem PySem.Spec PyProof.Rows

abbrev R2 := V -> V -> Hp -> VK -> Prop
def OpR (X : Cx) (f : Value -> Value -> Sem Value) (r : R2) : Prop :=
 ∀ (pins : List (Addr × Obj)) (s : Shared) (σ : St) (H : Hp) (x y : V) (v u : Value) (Q : VK), Inv X pins σ H s -> RelV x v -> RelV y u -> r x y H Q ->
  wpAny (model X.prog X.w) X.A (f v u) (EP X pins σ Q) X.xe s
def UnR (X : Cx) (f : Value -> Sem Value) (r : V -> Hp -> VK -> Prop) : Prop :=
 ∀ (pins : List (Addr × Obj)) (s : Shared) (σ : St) (H : Hp) (x : V) (v : Value) (Q : VK), Inv X pins σ H s -> RelV x v -> r x H Q ->
  wpAny (model X.prog X.w) X.A (f v) (EP X pins σ Q) X.xe s
def z3p (X : Cx) (f : Value) (r : List V -> Hp -> VK -> Prop) : Prop :=
 ∀ (pins : List (Addr × Obj)) (s : Shared) (σ : St) (H : Hp) (xs : List V) (us : List Value) (Q : VK), Inv X pins σ H s -> Vals xs us -> r xs H Q ->
  wpAny (model X.prog X.w) X.A (call f us) (EP X pins σ Q) X.xe s
def tOp (r : R2) (ta tb : TE) : TE := fun σ H Q => ta σ H fun x H1 => tb σ H1 fun y H2 => r x y H2 Q
def tUn (r : V -> Hp -> VK -> Prop) (ta : TE) : TE := fun σ H Q => ta σ H fun x H1 => r x H1 Q
def rI (C : Int -> Int -> Prop) (g : Int -> Int -> V) : R2 := fun x y H Q => ∃ i j, x = .int i /\ y = .int j /\ C i j /\ Q (g i j) H
def rI0 (g : Int -> Int -> V) : R2 := fun x y H Q => ∃ i j, x = .int i /\ y = .int j /\ Q (g i j) H
def rU (g : Int -> V) : V -> Hp -> VK -> Prop := fun x H Q => ∃ i, x = .int i /\ Q (g i) H

section
variable {X : Cx} {a b c : Expr} {ta tb tc : TE} {pos : Pos}

theorem binT (ha : PE X a ta) (hb : PE X b tb) {pins : List (Addr × Obj)} {s : Shared} {σ : St} {H : Hp} {R : V -> V -> Hp -> Prop} (I : Inv X pins σ H s)
  (h : ta σ H fun x H1 => tb σ H1 fun y H2 => R x y H2) {Q : Value -> Shared -> Prop} {f : Value -> Value -> Sem Value}
  (hf : ∀ v u s2 x y H2, Inv X pins σ H2 s2 -> RelV x v -> RelV y u -> R x y H2 -> wpAny (model X.prog X.w) X.A (f v u) Q X.xe s2) :
  wpAny (model X.prog X.w) X.A (eval a X.env) (fun v s₁ => wpAny (model X.prog X.w) X.A (eval b X.env) (fun u s₂ => wpAny (model X.prog X.w) X.A (f v u) Q X.xe s₂) X.xe s₁) X.xe s := by
 refine thn (ha pins s σ H _ I h) fun v s1 hz => ?_
 obtain ⟨x, H1, I1, r1, q1⟩ := hz
 refine thn (hb pins s1 σ H1 _ I1 q1) fun u s2 hz => ?_
 obtain ⟨y, H2, I2, r2, q2⟩ := hz
 exact hf v u s2 x y H2 I2 r1 r2 q2

theorem z0h {op : Operator} {r : R2} (ho : OpR X (binaryOp op) r) (ha : PE X a ta) (hb : PE X b tb) : PE X (.BinOp a op b pos) (tOp r ta tb) := by
 intro pins s σ H Q I h
 exact wpAny_BinOp (binT ha hb I h fun v u s2 x y H2 I2 rx ry q => ho pins s2 σ H2 x y v u Q I2 rx ry q)
theorem y4B {op : UnaryOp} {r : V -> Hp -> VK -> Prop} (ho : UnR X (unaryOp op) r) (ha : PE X a ta) : PE X (.UnaryOp op a pos) (tUn r ta) := by
 intro pins s σ H Q I h
 exact UnaryOp_ (thn (ha pins s σ H _ I h) fun v s1 ⟨x, H1, I1, r1, q1⟩ => ho pins s1 σ H1 x v Q I1 r1 q1)
theorem opI {f : Value -> Value -> Sem Value} {C : Int -> Int -> Prop} {g : Int -> Int -> Int}
  (rule : ∀ (i j : Int) (t u : Tok) (s : Shared) (Q : Value -> Shared -> Prop) (E : Value -> Shared -> Prop), C i j -> Q (.int (g i j) s.toks) { s with toks := s.toks + 1 } -> wpAny (model X.prog X.w) X.A (f (.int i t) (.int j u)) Q E s) :
  OpR X f (rI C fun i j => .int (g i j)) := by
 intro pins s σ H x y v u Q I rx ry h
 obtain ⟨i, j, rfl, rfl, hc, q⟩ := h
 obtain ⟨t, rfl⟩ := rx
 obtain ⟨t', rfl⟩ := ry
 exact rule i j t t' s _ _ hc ⟨.int (g i j), H, I.tok _, ⟨_, rfl⟩, q⟩
theorem opI0 {f : Value -> Value -> Sem Value} {g : Int -> Int -> Int}
  (rule : ∀ (i j : Int) (t u : Tok) (s : Shared) (Q : Value -> Shared -> Prop) (E : Value -> Shared -> Prop), Q (.int (g i j) s.toks) { s with toks := s.toks + 1 } -> wpAny (model X.prog X.w) X.A (f (.int i t) (.int j u)) Q E s) :
  OpR X f (rI0 fun i j => .int (g i j)) := by
 intro pins s σ H x y v u Q I rx ry h
 obtain ⟨i, j, rfl, rfl, q⟩ := h
 obtain ⟨t, rfl⟩ := rx
 obtain ⟨t', rfl⟩ := ry
 exact rule i j t t' s _ _ ⟨.int (g i j), H, I.tok _, ⟨_, rfl⟩, q⟩
theorem opB0 {f : Value -> Value -> Sem Value} {g : Int -> Int -> Bool}
  (rule : ∀ (i j : Int) (t u : Tok) (s : Shared) (Q : Value -> Shared -> Prop) (E : Value -> Shared -> Prop), Q (.bool (g i j)) s -> wpAny (model X.prog X.w) X.A (f (.int i t) (.int j u)) Q E s) :
  OpR X f (rI0 fun i j => .bl (g i j)) := by
 intro pins s σ H x y v u Q I rx ry h
 obtain ⟨i, j, rfl, rfl, q⟩ := h
 obtain ⟨t, rfl⟩ := rx
 obtain ⟨t', rfl⟩ := ry
 exact rule i j t t' s _ _ ⟨.bl (g i j), H, I, rfl, q⟩

def CDiv (i j : Int) : Prop := 0 < j /\ j < 1073741824
def CPow (i j : Int) : Prop := 0 ≤ j /\ j ≤ 1000000 /\ i.natAbs < 2 ^ 64
def CMul (i j : Int) : Prop := (-(2 ^ 64) < i /\ i < 2 ^ 64) \/ (-(2 ^ 64) < j /\ j < 2 ^ 64)
theorem CMul.ok {i j : Int} (h : CMul i j) : IntMulOk i j := by
 rcases h with ⟨h1, h2⟩ | ⟨h1, h2⟩
 ·exact .of_left (intBits_le_64 h1 h2)
 ·exact .of_right (intBits_le_64 h1 h2)
theorem z0Z : OpR X (binaryOp .Add) (rI0 fun i j => .int (i + j)) := opI0 fun _ _ _ _ _ _ _ q => add_int q
theorem z37 : OpR X (binaryOp .Sub) (rI0 fun i j => .int (i - j)) := opI0 fun _ _ _ _ _ _ _ q => sub_int q
theorem z44 : OpR X (binaryOp .Mult) (rI CMul fun i j => .int (i * j)) := opI fun _ _ _ _ _ _ _ hc q => mul_int q hc.ok
theorem z13 : OpR X (binaryOp .FloorDiv) (rI CDiv fun i j => .int (i / j)) := opI fun i j _ _ _ _ _ hc q => by
 have h1 : (0 : Int) < j := hc.1
 have h2 : j < 1073741824 := hc.2
 exact floordiv_int (by omega) (by rw [Int.fdiv_eq_ediv_of_nonneg i (by omega)]; exact q) (.inl (PyProof.noPylong_small (by omega)))
theorem z0L : OpR X (binaryOp .Mod) (rI (fun _ j => 0 < j) fun i j => .int (i % j)) := opI fun i j _ _ _ _ _ hc q => by
 have h1 : (0 : Int) < j := hc
 exact mod_int' (by omega) (by rw [Int.fmod_eq_emod_of_nonneg i (by omega)]; exact q)
theorem y4q : OpR X (binaryOp .Pow) (rI CPow fun i j => .int (i ^ j.toNat)) := opI fun _ _ _ _ _ _ _ hc q => pow_int_small hc.1 hc.2.1 hc.2.2 q
theorem unI {f : Value -> Sem Value} {g : Int -> Int}
  (rule : ∀ (i : Int) (t : Tok) (s : Shared) (Q : Value -> Shared -> Prop) (E : Value -> Shared -> Prop), Q (.int (g i) s.toks) { s with toks := s.toks + 1 } -> wpAny (model X.prog X.w) X.A (f (.int i t)) Q E s) :
  UnR X f (rU fun i => .int (g i)) := by
 intro pins s σ H x v Q I rx h
 obtain ⟨i, rfl, q⟩ := h
 obtain ⟨t, rfl⟩ := rx
 exact rule i t s _ _ ⟨.int (g i), H, I.tok _, ⟨_, rfl⟩, q⟩
theorem y3l : UnR X (unaryOp .USub) (rU fun i => .int (-i)) := unI fun _ _ _ _ _ q => neg_int q
end

def scal : V -> V -> Bool
 | .non, .non => true | .non, .int _ => true | .int _, .non => true | .non, .bl _ => true | .bl _, .non => true | .non, .str _ => true | .str _, .non => true
 | .int _, .int _ => true | .bl _, .bl _ => true | .str _, .str _ => true | .byt _, .byt _ => true
 | .int _, .str _ => true | .str _, .int _ => true | .bl _, .str _ => true | .str _, .bl _ => true
 | _, _ => false
def rEq : R2 := fun x y H Q => scal x y = true /\ Q (.bl (decide (x = y))) H
def rNe : R2 := fun x y H Q => scal x y = true /\ Q (.bl (!decide (x = y))) H

theorem y1S {i j : Int} : decide (V.int i = V.int j) = (i == j) := by
 rw [Bool.eq_iff_iff]
 simp
theorem y3a {i j : Bool} : decide (V.bl i = V.bl j) = (i == j) := by
 rw [Bool.eq_iff_iff]
 simp
theorem y0Z {i j : Str} : decide (V.str i = V.str j) = (i == j) := by
 rw [Bool.eq_iff_iff]
 simp
theorem y1O {i j : Array UInt8} : decide (V.byt i = V.byt j) = (i.toList == j.toList) := by
 rw [Bool.eq_iff_iff]
 cases i
 cases j
 simp

section
variable {X : Cx} {a b c : Expr} {ta tb tc : TE} {pos : Pos}
theorem z19 {pins : List (Addr × Obj)} {σ : St} {H : Hp} {s : Shared} {Q : VK} {k k' : Bool} (I : Inv X pins σ H s) (q : Q (.bl k) H) (e : k = k') : EP X pins σ Q (.bool k') s := by
 subst e
 exact ⟨.bl k, H, I, rfl, q⟩
theorem z2s : OpR X (compareOp .Eq) rEq := by
 intro pins s σ H x y v u Q I rx ry h
 obtain ⟨hs, q⟩ := h
 cases x with
 | non =>
  cases rx
  cases y with
  | non => cases ry; exact PySem.EqNone.eq_none_none (z19 I q (by simp))
  | bl j => cases ry; exact PySem.EqNone.eq_none_bool (z19 I q (by simp))
  | int j => obtain ⟨t', rfl⟩ := ry; exact PySem.EqNone.eq_none_int (z19 I q (by simp))
  | str j => obtain ⟨t', rfl⟩ := ry; exact PySem.EqNone.eq_none_str (z19 I q (by simp))
  | _ => exact absurd (show false = true from hs) Bool.false_ne_true
 | bl i =>
  cases rx
  cases y with
  | non => cases ry; exact PySem.EqNone.eq_bool_none (z19 I q (by simp))
  | bl j => cases ry; exact eq_bool (z19 I q y3a)
  | str j => obtain ⟨t', rfl⟩ := ry; exact PySem.EqMixed.eq_bool_str (z19 I q (by simp))
  | _ => exact absurd (show false = true from hs) Bool.false_ne_true
 | int i =>
  obtain ⟨t, rfl⟩ := rx
  cases y with
  | non => cases ry; exact PySem.EqNone.eq_int_none (z19 I q (by simp))
  | int j => obtain ⟨t', rfl⟩ := ry; exact eq_int (z19 I q y1S)
  | str j => obtain ⟨t', rfl⟩ := ry; exact PySem.EqMixed.eq_int_str (z19 I q (by simp))
  | _ => exact absurd (show false = true from hs) Bool.false_ne_true
 | str i =>
  obtain ⟨t, rfl⟩ := rx
  cases y with
  | non => cases ry; exact PySem.EqNone.eq_str_none (z19 I q (by simp))
  | bl j => cases ry; exact PySem.EqMixed.eq_str_bool (z19 I q (by simp))
  | int j => obtain ⟨t', rfl⟩ := ry; exact PySem.EqMixed.eq_str_int (z19 I q (by simp))
  | str j => obtain ⟨t', rfl⟩ := ry; exact eq_str (z19 I q y0Z)
  | _ => exact absurd (show false = true from hs) Bool.false_ne_true
 | byt i =>
  obtain ⟨t, rfl⟩ := rx
  cases y with
  | byt j => obtain ⟨t', rfl⟩ := ry; exact PySem.W.eq_bytes (z19 I q y1O)
  | _ => exact absurd (show false = true from hs) Bool.false_ne_true
 | _ => cases y <;> exact absurd (show false = true from hs) Bool.false_ne_true
theorem z98 : OpR X (compareOp .NotEq) rNe := by
 intro pins s σ H x y v u Q I rx ry h
 obtain ⟨hs, q⟩ := h
 cases x with
 | non =>
  cases rx
  cases y with
  | non => cases ry; exact PySem.EqNone.ne_none_none (z19 I q (by simp))
  | bl j => cases ry; exact PySem.EqNone.ne_none_bool (z19 I q (by simp))
  | int j => obtain ⟨t', rfl⟩ := ry; exact PySem.EqNone.ne_none_int (z19 I q (by simp))
  | str j => obtain ⟨t', rfl⟩ := ry; exact PySem.EqNone.ne_none_str (z19 I q (by simp))
  | _ => exact absurd (show false = true from hs) Bool.false_ne_true
 | bl i =>
  cases rx
  cases y with
  | non => cases ry; exact PySem.EqNone.ne_bool_none (z19 I q (by simp))
  | bl j => cases ry; exact ne_bool (z19 I q (congrArg not y3a))
  | str j => obtain ⟨t', rfl⟩ := ry; exact PySem.EqMixed.ne_bool_str (z19 I q (by simp))
  | _ => exact absurd (show false = true from hs) Bool.false_ne_true
 | int i =>
  obtain ⟨t, rfl⟩ := rx
  cases y with
  | non => cases ry; exact PySem.EqNone.ne_int_none (z19 I q (by simp))
  | int j => obtain ⟨t', rfl⟩ := ry; exact ne_int (z19 I q (congrArg not y1S))
  | str j => obtain ⟨t', rfl⟩ := ry; exact PySem.EqMixed.ne_int_str (z19 I q (by simp))
  | _ => exact absurd (show false = true from hs) Bool.false_ne_true
 | str i =>
  obtain ⟨t, rfl⟩ := rx
  cases y with
  | non => cases ry; exact PySem.EqNone.ne_str_none (z19 I q (by simp))
  | bl j => cases ry; exact PySem.EqMixed.ne_str_bool (z19 I q (by simp))
  | int j => obtain ⟨t', rfl⟩ := ry; exact PySem.EqMixed.ne_str_int (z19 I q (by simp))
  | str j => obtain ⟨t', rfl⟩ := ry; exact ne_str (z19 I q (congrArg not y0Z))
  | _ => exact absurd (show false = true from hs) Bool.false_ne_true
 | byt i =>
  obtain ⟨t, rfl⟩ := rx
  cases y with
  | byt j => obtain ⟨t', rfl⟩ := ry; exact PySem.W.ne_bytes (z19 I q (congrArg not y1O))
  | _ => exact absurd (show false = true from hs) Bool.false_ne_true
 | _ => cases y <;> exact absurd (show false = true from hs) Bool.false_ne_true

theorem z6H : OpR X (compareOp .Lt) (rI0 fun i j => .bl (decide (i < j))) := opB0 fun _ _ _ _ _ _ _ q => lt_int q
theorem y4i : OpR X (compareOp .LtE) (rI0 fun i j => .bl (decide (i ≤ j))) := opB0 fun _ _ _ _ _ _ _ q => le_int q
theorem z2U : OpR X (compareOp .Gt) (rI0 fun i j => .bl (decide (j < i))) := opB0 fun _ _ _ _ _ _ _ q => gt_int q
theorem y3M : OpR X (compareOp .GtE) (rI0 fun i j => .bl (decide (j ≤ i))) := opB0 fun _ _ _ _ _ _ _ q => ge_int q
theorem z0l (b : Expr) {op : CmpOp} (h : op ≠ .In := by decide) (h2 : op ≠ .NotIn := by decide) : behindInMarks op b = false := by
 have e1 : (op == CmpOp.In) = false := by cases op <;> first | rfl | exact absurd rfl h
 have e2 : (op == CmpOp.NotIn) = false := by cases op <;> first | rfl | exact absurd rfl h2
 cases b <;> simp [behindInMarks, e1, e2]
theorem y1I {op : CmpOp} {r : R2} (ho : OpR X (compareOp op) r) (ha : PE X a ta) (hb : PE X b tb) (hm : behindInMarks op b = false) : PE X (.Compare a [op] [b] pos) (tOp r ta tb) := by
 intro pins s σ H Q I h
 exact wpAny_Compare1 (binT ha hb I h fun v u s2 x y H2 I2 rx ry q => ho pins s2 σ H2 x y v u Q I2 rx ry q) hm
def tTest (t : TE) : TT := fun σ H Q => t σ H fun x H' => ∃ k, x = .bl k /\ Q k H'
theorem z08 {op : CmpOp} {r : R2} (ho : OpR X (compareOp op) r) (ha : PE X a ta) (hb : PE X b tb) (hm : behindInMarks op b = false) : PT X (.Compare a [op] [b] pos) (tTest (tOp r ta tb)) := by
 intro pins s σ H Q I h
 refine wpAny_isTrue_Compare1 (thn (ha pins s σ H _ I h) fun v s1 ⟨x, H1, I1, r1, q1⟩ => thn (hb pins s1 σ H1 _ I1 q1) fun u s2 ⟨y, H2, I2, r2, q2⟩ =>
  thn (ho pins s2 σ H2 x y v u _ I2 r1 r2 q2) fun c s3 ⟨z, H3, I3, r3, k, e, q3⟩ => ?_) hm
 subst e
 cases r3
 exact wpAny_truthy_bool ⟨H3, I3, q3⟩
theorem z5v : (sizeLine : Nat) < 2 ^ 63 := by rw [sizeLine_eq]; decide
theorem z6K : OpR X (binaryOp .Add) (fun x y H Q => ∃ i j, x = .str i /\ y = .str j /\ i.length + j.length ≤ sizeLine /\ Q (.str (i ++ j)) H) := by
 intro pins s σ H x y v u Q I rx ry h
 obtain ⟨i, j, rfl, rfl, hz, q⟩ := h
 obtain ⟨t, rfl⟩ := rx
 obtain ⟨t', rfl⟩ := ry
 exact add_str (fun t' tk => ⟨.str (i ++ j), H, I.tok _, ⟨_, rfl⟩, q⟩) hz
theorem z41 {x : V} {us : List Value} (r : Vals [x] us) : ∃ u, us = [u] /\ RelV x u := by
 cases r with
 | cons r1 r2 => cases r2; exact ⟨_, rfl, r1⟩
theorem y16 {x y : V} {us : List Value} (r : Vals [x, y] us) : ∃ u w', us = [u, w'] /\ RelV x u /\ RelV y w' := by
 cases r with
 | cons r1 r2 =>
  cases r2 with
  | cons r3 r4 => cases r4; exact ⟨_, _, rfl, r1, r3⟩
theorem z8K (hc : X.calm = true) : z3p X (.builtin "max") (fun xs H Q => ∃ i j, xs = [.int i, .int j] /\ Q (.int (if j > i then j else i)) H) := by
 intro pins s σ H xs us Q I r h
 obtain ⟨i, j, rfl, q⟩ := h
 obtain ⟨u, w', rfl, ⟨t, rfl⟩, ⟨t', rfl⟩⟩ := y16 r
 refine max_two_ints (I.ok.hd hc) fun h' tk k => ⟨_, H, I.kept k, ?_, q⟩
 by_cases hj : j > i
 ·rw [if_pos hj, if_pos hj]; exact ⟨_, rfl⟩
 ·rw [if_neg hj, if_neg hj]; exact ⟨_, rfl⟩
theorem y1x (hc : X.calm = true) : z3p X (.builtin "min") (fun xs H Q => ∃ i j, xs = [.int i, .int j] /\ Q (.int (if j < i then j else i)) H) := by
 intro pins s σ H xs us Q I r h
 obtain ⟨i, j, rfl, q⟩ := h
 obtain ⟨u, w', rfl, ⟨t, rfl⟩, ⟨t', rfl⟩⟩ := y16 r
 refine min_two_ints (I.ok.hd hc) fun h' tk k => ⟨_, H, I.kept k, ?_, q⟩
 by_cases hj : j < i
 ·rw [if_pos hj, if_pos hj]; exact ⟨_, rfl⟩
 ·rw [if_neg hj, if_neg hj]; exact ⟨_, rfl⟩
end
end L2

namespace L2
open PySem PySem.Spec PyProof.Rows

structure ObjM (h : Heap) (x dx C : Addr) (mA : Str -> Option Value) : Prop where
 obj : h.get? x = some (PySem.W.instObj C dx)
 ns : h.Ns1 dx mA
 ne : dx ≠ x

theorem y0J {h : Heap} {dx : Addr} {mA : Str -> Option Value} (n : h.Ns1 dx mA) : ∃ od, h.get? dx = some od /\ ∀ name, PySem.W.lookIn name od = some (mA name) := by
 obtain ⟨o, es, ep, ho, hd, hk, _, hm⟩ := n
 refine ⟨o, ho, fun name => ?_⟩
 have e := hm name
 unfold nsFind findBy at e
 rw [<- Array.find?_toList] at e
 unfold PySem.W.lookIn
 rw [hd]
 dsimp only
 split
 ·rename_i y q
  rw [q] at e
  exact congrArg some e
 ·rename_i q
  rw [q] at e
  have a : es.toList.any (·.refKey) = false := by
   rw [List.any_eq_false]
   intro y hy
   obtain ⟨z, t, hkey⟩ := hk y (Array.mem_toList_iff.mp hy)
   simp [DictEntry.refKey, hkey]
  have a' : ¬ es.toList.any (·.refKey) = true := by rw [a]; exact Bool.false_ne_true
  rw [if_neg a']
  exact congrArg some e

theorem ObjM.look {h : Heap} {x dx C : Addr} {mA : Str -> Option Value} (I : ObjM h x dx C mA) : ∃ od, PySem.W.InstAt h x (PySem.W.instObj C dx) C (some od) /\ ∀ name, PySem.W.lookIn name od = some (mA name) :=
 let ⟨od, ho, hl⟩ := y0J I.ns
 ⟨od, ⟨I.obj, rfl, rfl, ho⟩, hl⟩

section
variable {prog : Program} {w : World} {A : Around} {E : Value -> Shared -> Prop} {s : Shared} {K : PySem.W.Frag} {x dx C f : Addr} {mA : Str -> Option Value} {name : Str} {v : Value}

theorem y45 {expr : Bool} {Q : Value -> Shared -> Prop} (X : K.In s.heap) (I : ObjM s.heap x dx C mA) (hg : PySem.W.plainGet K C name = true) (hh : PySem.W.hasDictIn K C = true)
  (ha : PySem.W.findIn K (.ref C) name = some none) (hv : mA name = some v) (hv' : PySem.W.handedIn v = true) (h : Q v { s with toks := s.toks + 1 }) :
  wpAny (model prog w) A (getAttr (.ref x) name expr) Q E s := by
 obtain ⟨od, J, hl⟩ := I.look
 exact PySem.W.get_value X J (PySem.W.plainGet_of hg).1 (PySem.W.findObj_own hh ha rfl (by rw [hl, hv])) hv' h

theorem y2h {pl : Sem Bool} {Q : Value × List Value -> Shared -> Prop} (X : K.In s.heap) (I : ObjM s.heap x dx C mA) (hg : PySem.W.plainGet K C name = true)
  (hf : PySem.W.findIn K (.ref C) name = some (some (.ref f))) (ht : PySem.W.isFn K (.ref f) = true) (hv : mA name = none) (h : Q (.ref f, [.ref x]) s) :
  wpAny (model prog w) A (getMethod (.ref x) name pl) Q E s := by
 obtain ⟨od, J, hl⟩ := I.look
 exact PySem.W.method_fn X J (PySem.W.plainGet_of hg).1 (PySem.W.plainGet_of hg).2 hf (beq_iff_eq.mp ht) (by show (PySem.W.lookIn name od).map (·.isSome) = some false; rw [hl, hv]; rfl) h

theorem y3W {ns : List Str} {Q : Unit -> Shared -> Prop} (X : K.In s.heap) (I : ObjM s.heap x dx C mA)
  (hs : PySem.W.findIn K (.ref C) "__setattr__" = some (some (.builtin "object.__setattr__"))) (hp : PySem.W.plainOver K C = true) (ht : PySem.W.takerIn K C name = some none) (hh : PySem.W.hasDictIn K C = true)
  (hw : PySem.Within mA ns) (hsz : ns.length ≤ sizeLine)
  (h : ∀ h', ObjM h' x dx C (fun y => if y = name then some v else mA y) -> Heap.SameBut dx s.heap h' -> Q () { s with heap := h', toks := s.toks + 2 }) :
  wpAny (model prog w) A (setAttr (.ref x) name v) Q E s := by
 obtain ⟨od, J, hl⟩ := I.look
 refine PySem.W.set_plain X J hs (PySem.W.osa_open (s := { s with toks := s.toks + 1 }) (r := none) X J hp ht fun b => ?_)
 obtain ⟨cd, hc, hd'⟩ := PySem.W.any_some hh
 have hx : s.heap.get? x = some ⟨.ref C, some dx, .plain, #[]⟩ := I.obj
 refine wpAny_bind (wpAny_pure (wpAny_bind (wpAny_bind (wpAny_loadPart hx (wpAny_bind (PySem.W.Looks.here (s := { s with toks := s.toks + 1 }) (PySem.W.looks_clsIn X hc) ?_))))))
 rw [hd']
 refine wpAny_pure (a := some dx) (wpAny_bind (wpAny_pure (wpAny_bind ?_)))
 refine wpAny_nsSet1 (s := { s with toks := s.toks + 1 }) I.ns fun h' hn2 hs2 => ?_
 obtain ⟨oD, esD, epD, hoD, hdD, hcD⟩ := hn2.count (PySem.Within.cons name v hw)
 refine wpAny_bind (wpAny_lookBehind hoD (by rw [hdD]; exact pastItsLine_dict (Nat.le_trans hcD (by rw [List.length_cons]; omega))) ?_)
 exact wpAny_pure (h _ ⟨(hs2.2 _ (Ne.symm I.ne)).trans I.obj, hn2, I.ne⟩ hs2)

theorem y2H {R : Result -> Shared -> Prop} {vs : List Value} {kw : List (Str × Value)} (X : K.In s.heap) (hm : PySem.W.makesIn K C = true)
  (hi : PySem.W.findIn K (.ref C) "__init__" = some (some (.ref f))) (hf : PySem.W.typeIn K (.ref f) = some (.type "function"))
  (h : codeAny (model prog w) (A.under (.builtin "type.__call__" ⟨.ref C :: vs, kw⟩)) (.call (.ref f) ⟨.ref (s.heap.objs.size + 1) :: vs, kw⟩) (PySem.W.InitBack (s.heap.objs.size + 1) R)
   { s with heap := (s.heap.push PySem.W.emptyDict).push (PySem.W.instObj C s.heap.objs.size) }) :
  codeAny (model prog w) A (.call (.ref C) ⟨vs, kw⟩) R s := by
 obtain ⟨hh, g, d, t, os⟩ := s
 exact PySem.W.make_core (PySem.W.makes_of X hm) (PySem.W.looks_findIn X hi) (fun self => PySem.W.bind_fn X self hf) (.inl rfl) h
end

def putF (f : Str) (v : V) : List (Str × V) -> List (Str × V)
 | [] => [(f, v)]
 | (g, x) :: r => if g = f then (g, v) :: r else (g, x) :: putF f v r
theorem z0k (f g : Str) (v : V) : ∀ fs : List (Str × V), (putF f v fs).lookup g = if g = f then some v else fs.lookup g
 | [] => by
  show List.lookup g [(f, v)] = _
  by_cases h : g = f
  ·have hb : (g == f) = true := beq_iff_eq.mpr h
   simp only [List.lookup, hb, if_pos h]
  ·have hb : (g == f) = false := beq_eq_false_iff_ne.mpr h
   simp only [List.lookup, hb, if_neg h]
 | (k, x) :: r => by
  have ih := z0k f g v r
  rw [show putF f v ((k, x) :: r) = (if k = f then (k, v) :: r else (k, x) :: putF f v r) from rfl]
  by_cases hk : k = f
  ·rw [if_pos hk]
   by_cases h : g = k
   ·have hb : (g == k) = true := beq_iff_eq.mpr h
    simp only [List.lookup, hb, if_pos (h.trans hk)]
   ·have hb : (g == k) = false := beq_eq_false_iff_ne.mpr h
    simp only [List.lookup, hb, if_neg (fun e : g = f => h (e.trans hk.symm))]
  ·rw [if_neg hk]
   by_cases h : g = k
   ·have hb : (g == k) = true := beq_iff_eq.mpr h
    simp only [List.lookup, hb, if_neg (fun e : g = f => hk (h.symm.trans e))]
   ·have hb : (g == k) = false := beq_eq_false_iff_ne.mpr h
    simp only [List.lookup, hb]
    exact ih
theorem z6x (f : Str) (v : V) : ∀ fs : List (Str × V), f ∈ (putF f v fs).map (·.1) /\ ∀ g, g ∈ fs.map (·.1) -> g ∈ (putF f v fs).map (·.1)
 | [] => ⟨by simp [putF], fun g h => by simp at h⟩
 | (k, x) :: r => by
  obtain ⟨i1, i2⟩ := z6x f v r
  rw [show putF f v ((k, x) :: r) = (if k = f then (k, v) :: r else (k, x) :: putF f v r) from rfl]
  by_cases hk : k = f
  ·rw [if_pos hk]
   subst hk
   exact ⟨by simp, fun g h => by simpa using h⟩
  ·rw [if_neg hk]
   refine ⟨?_, fun g h => ?_⟩
   ·rw [List.map_cons]
    exact List.mem_cons_of_mem _ i1
   ·rw [List.map_cons] at h ⊢
    rcases List.mem_cons.mp h with e | e
    ·exact List.mem_cons.mpr (.inl e)
    ·exact List.mem_cons_of_mem _ (i2 g e)
theorem z1H (f : Str) (v : V) : ∀ fs : List (Str × V), (putF f v fs).length ≤ fs.length + 1
 | [] => by simp [putF]
 | (k, x) :: r => by
  have ih := z1H f v r
  rw [show putF f v ((k, x) :: r) = (if k = f then (k, v) :: r else (k, x) :: putF f v r) from rfl]
  by_cases hk : k = f
  ·rw [if_pos hk, List.length_cons, List.length_cons]; omega
  ·rw [if_neg hk, List.length_cons, List.length_cons]; omega

theorem RelO.some_of {v : V} {o : Option Value} (r : RelO (some v) o) : ∃ u, o = some u /\ RelV v u := by
 cases o with
 | none => exact (show False from r).elim
 | some u => exact ⟨u, rfl, r⟩
theorem RelO.none_of {o : Option Value} (r : RelO none o) : o = none := by
 cases o with
 | none => rfl
 | some u => exact (show False from r).elim
theorem y2b {v : V} {u : Value} (r : RelV v u) : PySem.W.handedIn u = true := by
 cases v with
 | non => cases (show u = Value.none from r); rfl
 | bl b => cases (show u = Value.bool b from r); rfl
 | int i => obtain ⟨t, e⟩ := (show ∃ t, u = Value.int i t from r); cases e; rfl
 | str x => obtain ⟨t, e⟩ := (show ∃ t, u = Value.str x t from r); cases e; rfl
 | byt b => obtain ⟨t, e⟩ := (show ∃ t, u = Value.bytes b t from r); cases e; rfl
 | flt b => obtain ⟨t, e⟩ := (show ∃ t, u = Value.float b t from r); cases e; rfl
 | ref a => cases (show u = Value.ref a from r); rfl
 | ty n => cases (show u = Value.type n from r); rfl

section
variable {P : Program} {w : World} {H H' : Hp} {h h' : Heap} {a C dx : Addr} {fs fs' : List (Str × V)}
theorem z7x (hok : HOk P w H h) (e : H a = some (.ins C dx fs)) : ∃ mA, ObjM h a dx C mA /\ (∀ f, RelO (fs.lookup f) (mA f)) /\ PySem.Within mA (fs.map (·.1)) /\ fs.length ≤ 1000 /\ H dx = some (.own a) := by
 obtain ⟨d, z, ne, ob, mA, n, r, q⟩ := (show z1B P w H h a (.ins C dx fs) from hok a _ e)
 exact ⟨mA, ⟨ob, n, ne⟩, r, q, z, d⟩
end

structure Cls (K : PySem.W.Frag) (C : Addr) : Prop where
 pg : PySem.W.plainGet K C Str.empty = true
 hd : PySem.W.hasDictIn K C = true
 po : PySem.W.plainOver K C = true
 sa : PySem.W.findIn K (.ref C) "__setattr__" = some (some (.builtin "object.__setattr__"))
theorem Cls.get {K : PySem.W.Frag} {C : Addr} (c : Cls K C) (f : Str) : PySem.W.plainGet K C f = true := c.pg
def z2T (K : PySem.W.Frag) (C : Addr) (f : Str) : Prop := PySem.W.findIn K (.ref C) f = some none
theorem z2T.taker {K : PySem.W.Frag} {C : Addr} {f : Str} (n : z2T K C f) : PySem.W.takerIn K C f = some none := by
 unfold PySem.W.takerIn
 rw [show PySem.W.findIn K (.ref C) f = some none from n]
 rfl
structure Meth (K : PySem.W.Frag) (C : Addr) (m : Str) (f : Addr) : Prop where
 at_ : PySem.W.findIn K (.ref C) m = some (some (.ref f))
 fn : PySem.W.isFn K (.ref f) = true
 kp : PySem.W.keepIn K (.ref f) = true

section
variable {X : Cx} {pins : List (Addr × Obj)} {σ : St} {H : Hp} {s : Shared} {a C dx : Addr} {fs : List (Str × V)} {f : Str} {v : V} {A : Around} {E : Value -> Shared -> Prop}

theorem y0x {b : Bool} {Q : Value -> Shared -> Prop} (I : Inv X pins σ H s) (e : H a = some (.ins C dx fs)) (c : Cls X.K C) (n : z2T X.K C f) (l : fs.lookup f = some v)
  (h : ∀ u s', Inv X pins σ H s' -> RelV v u -> Q u s') : wpAny (model X.prog X.w) A (getAttr (.ref a) f b) Q E s := by
 obtain ⟨mA, O, r, _, _, _⟩ := z7x I.hok e
 obtain ⟨u, hu, ru⟩ := RelO.some_of (v := v) (o := mA f) (by rw [<- l]; exact r f)
 exact y45 I.kIn O (c.get f) c.hd n hu (y2b ru) (h u _ (I.tok _) ru)

theorem z4W {m : Str} {g : Addr} {pl : Sem Bool} {Q : Value × List Value -> Shared -> Prop} (I : Inv X pins σ H s) (e : H a = some (.ins C dx fs)) (c : Cls X.K C) (k : Meth X.K C m g) (l : fs.lookup m = none)
  (h : Q (.ref g, [.ref a]) s) : wpAny (model X.prog X.w) A (getMethod (.ref a) m pl) Q E s := by
 obtain ⟨mA, O, r, _, _, _⟩ := z7x I.hok e
 have hn : mA m = none := RelO.none_of (by rw [<- l]; exact r m)
 exact y2h I.kIn O (c.get m) k.at_ k.fn hn h

theorem y0h {y : V} {u : Value} {Q : Unit -> Shared -> Prop} (I : Inv X pins σ H s) (e : H a = some (.ins C dx fs)) (c : Cls X.K C) (n : z2T X.K C f) (hl : fs.length < 1000) (ry : RelV y u)
  (h : ∀ s', Inv X pins σ (upd H a (.ins C dx (putF f y fs))) s' -> Q () s') : wpAny (model X.prog X.w) A (setAttr (.ref a) f u) Q E s := by
 obtain ⟨mA, O, r, wi, _, ho⟩ := z7x I.hok e
 have hz : (fs.map (·.1)).length ≤ sizeLine := by rw [List.length_map, sizeLine_eq]; omega
 refine y3W I.kIn O c.sa c.po n.taker c.hd wi hz fun h' O' sb => h _ ?_
 have hd : ∃ o, h'.get? dx = some o := let ⟨o, _, _, e', _⟩ := O'.ns; ⟨o, e'⟩
 refine I.write (x := a) (e := dx) (by rw [e]; exact True.intro) (.inr ho) (fun b q hb z => (sb.2 b hb).trans z) hd ?_
 refine ⟨by rw [z0g O.ne]; exact ho, ?_, O.ne, O'.obj, _, O'.ns, fun g => ?_, fun g hg => ?_⟩
 ·have := z1H f y fs; omega
 ·show RelO ((putF f y fs).lookup g) (if g = f then some u else mA g)
  rw [z0k]
  by_cases q : g = f
  ·rw [if_pos q, if_pos q]; exact ry
  ·rw [if_neg q, if_neg q]; exact r g
 ·by_cases q : g = f
  ·rw [q]; exact (z6x f y fs).1
  ·refine (z6x f y fs).2 g (wi g fun z => hg ?_)
   show (if g = f then some u else mA g) = none
   rw [if_neg q]; exact z

theorem Inv.made (I : Inv X pins σ H s) : Inv X pins σ (upd (upd H s.heap.objs.size (.own (s.heap.objs.size + 1))) (s.heap.objs.size + 1) (.ins C s.heap.objs.size []))
  { s with heap := (s.heap.push PySem.W.emptyDict).push (PySem.W.instObj C s.heap.objs.size) } := by
 have e1 : (s.heap.push PySem.W.emptyDict).get? s.heap.objs.size = some PySem.W.emptyDict := Heap.get?_push_size s.heap rfl
 have e2 : ((s.heap.push PySem.W.emptyDict).push (PySem.W.instObj C s.heap.objs.size)).get? (s.heap.objs.size + 1) = some (PySem.W.instObj C s.heap.objs.size) := by
  have := Heap.get?_push_size (s.heap.push PySem.W.emptyDict) (o := PySem.W.instObj C s.heap.objs.size) rfl
  rwa [Heap.size_push] at this
 have e3 : (s.heap.push PySem.W.emptyDict).Ns s.heap.objs.size (fun _ => none) := ⟨PySem.W.emptyDict, #[], _, e1, rfl, (fun e he => absurd he (by simp)), fun _ => rfl⟩
 have I1 := I.laid (a := s.heap.objs.size) (o := .own (s.heap.objs.size + 1)) (h' := s.heap.push PySem.W.emptyDict) (t' := s.toks) (fun b u q => Heap.get?_push_of_some _ q) (Nat.le_refl _) ⟨_, e1⟩
 refine I1.laid (a := s.heap.objs.size + 1) (o := .ins C s.heap.objs.size []) (t' := s.toks) (fun b u q => Heap.get?_push_of_some _ q) (Nat.le_of_eq (Heap.size_push _ _)) ?_
 have ne : s.heap.objs.size ≠ s.heap.objs.size + 1 := Nat.ne_of_lt (Nat.lt_succ_self _)
 refine ⟨by rw [z0g ne, z02], Nat.zero_le _, ne, e2, fun _ => none, (Heap.Ns1.of_empty e3).at fun o q => Heap.get?_push_of_some _ q, fun _ => True.intro, fun y hy => absurd rfl hy⟩

theorem y3E {prog : Program} {w : World} {env : Env} {e : Expr} {f : Str} {pos : Pos} {s : Shared} {Q : Value -> Shared -> Prop} (hb : attributeBase e f env (eval e env) = eval e env)
  (h : wpAny (model prog w) A (eval e env) (fun o s₁ => wpAny (model prog w) A (getAttr o f true) Q E s₁) E s) : wpAny (model prog w) A (eval (.Attribute e f pos) env) Q E s :=
 Attribute_any_ h (by rw [arm_eval_Attribute, hb])
end

def tFld (K : PySem.W.Frag) (ta : TE) (f : Str) : TE := fun σ H Q => ta σ H fun x H1 => ∃ a C dx fs v, x = .ref a /\ H1 a = some (.ins C dx fs) /\ Cls K C /\ z2T K C f /\ fs.lookup f = some v /\ Q v H1
def sFld (K : PySem.W.Frag) (ta tv : TE) (f : Str) : TS := fun D σ H => tv σ H fun y H1 => ta σ H1 fun x H2 => ∃ a C dx fs, x = .ref a /\ H2 a = some (.ins C dx fs) /\ Cls K C /\ z2T K C f /\ fs.length < 1000 /\
 D.nx σ (upd H2 a (.ins C dx (putF f y fs)))
section
variable {X : Cx} {o e value : Expr} {f : Str} {pos pos' tpos : Pos} {ta tv : TE}
theorem z0K (he : PE X e ta) (hb : attributeBase e f X.env (eval e X.env) = eval e X.env) : PE X (.Attribute e f pos) (tFld X.K ta f) := by
 intro pins s σ H Q I h
 refine y3E hb (thn (he pins s σ H _ I h) fun u s1 hz => ?_)
 obtain ⟨x, H1, I1, rx, a, C, dx, fs, v, ex, ea, c, n, l, q⟩ := hz
 subst ex
 obtain rfl : u = Value.ref a := rx
 exact y0x I1 ea c n l fun u' s2 I2 ru => ⟨v, H1, I2, ru, q⟩
theorem z4G (ha : PE X o ta) (hv : PE X value tv) (hs : swapsWith value (some (.Attribute o f pos')) pos.line X.env = pure false) : PS X (.Assign [.Attribute o f pos'] value pos) (sFld X.K ta tv f) := by
 intro pins s σ H D I h
 refine plainObj_wpAny_Assign_Attribute (thn (hv pins s σ H _ I h) fun u s1 ⟨y, H1, I1, ry, q⟩ => thn (ha pins s1 σ H1 _ I1 q) fun ov s2 hz => ?_) hs
 obtain ⟨x, H2, I2, rx, a, C, dx, fs, ex, ea, c, n, l, q2⟩ := hz
 subst ex
 obtain rfl : ov = Value.ref a := rx
 exact y0h I2 ea c n l ry fun s3 I3 => ⟨σ, _, I3, q2⟩
theorem y3I {pl : Sem Bool} {m : Str} {apos : Pos} {args : List Expr} {pins : List (Addr × Obj)} {s : Shared} {σ : St} {H : Hp} {Q : Value -> Shared -> Prop} {te : TE} (he : PE X e te) (I : Inv X pins σ H s)
  (h : te σ H fun x H1 => ∃ a C dx fs g, x = .ref a /\ H1 a = some (.ins C dx fs) /\ Cls X.K C /\ Meth X.K C m g /\ fs.lookup m = none /\
   ∀ s1, Inv X pins σ H1 s1 -> wpAny (model X.prog X.w) X.A (callWith pos (.ref g) [.ref a] (backTo pos (starEach args X.env)) (backToKw pos (keywordEach [] X.env))) Q X.xe s1)
  (ht : eval (.Call (.Attribute e m apos) args [] pos) X.env = (do
   let ov <- eval e X.env
   standAt apos.atName
   let (f, first) <- holding [ov] (getMethod ov m pl)
   callWith pos f first (backTo pos (starEach args X.env)) (backToKw pos (keywordEach [] X.env)))) :
  wpAny (model X.prog X.w) X.A (eval (.Call (.Attribute e m apos) args [] pos) X.env) Q X.xe s := by
 refine PySem.W.methodCall_KW (pl := pl) (thn (he pins s σ H _ I h) fun u s1 hz => ?_) ht
 obtain ⟨x, H1, I1, rx, a, C, dx, fs, g, ex, ea, c, k, l, q⟩ := hz
 subst ex
 obtain rfl : u = Value.ref a := rx
 exact z4W I1 ea c k l (q s1 I1)
end

section
variable {X : Cx} {pins : List (Addr × Obj)} {σ : St} {H : Hp} {s : Shared} {A : Around} {E : Value -> Shared -> Prop} {Q : Value -> Shared -> Prop} {c : Value} {b : Bool}
inductive TyOf (K : PySem.W.Frag) (H : Hp) : V -> Value -> Prop where
 | non : TyOf K H .non (.type "NoneType")
 | bl (x : Bool) : TyOf K H (.bl x) (.type "bool")
 | int (i : Int) : TyOf K H (.int i) (.type "int")
 | str (x : Str) : TyOf K H (.str x) (.type "str")
 | flt (x : UInt64) : TyOf K H (.flt x) (.type "float")
 | lst {a : Addr} {xs : List V} (e : H a = some (.lst xs)) : TyOf K H (.ref a) (.type "list")
 | frz {a : Addr} {o : Obj} {xs : List V} (e : H a = some (.frz o (.lst xs))) : TyOf K H (.ref a) (.type "list")
 | tup {a : Addr} {xs : List V} (e : H a = some (.tup xs)) : TyOf K H (.ref a) (.type "tuple")
 | dK {a : Addr} {kvs : List (Key × V)} (e : H a = some (.dK kvs)) : TyOf K H (.ref a) (.type "dict")
 | dT {a : Addr} {kvs : List (List Key × V)} (e : H a = some (.dT kvs)) : TyOf K H (.ref a) (.type "dict")
 | ins {a C dx : Addr} {fs : List (Str × V)} (e : H a = some (.ins C dx fs)) (cl : Cls K C) (ha : PySem.W.findIn K (.ref C) "__class__" = some (some (.builtin "object.__class__")))
   (hn : PySem.W.specialIn K (.builtin "object.__class__") "__get__" = some (some (.builtin "getset_descriptor.__get__"))) (htk : PySem.W.takesIn K (.builtin "object.__class__") = some true)
   (hm : PySem.W.mroIn K C (.type "object") = some true) : TyOf K H (.ref a) (.ref C)
theorem y0O {x : V} {u t : Value} (I : Inv X pins σ H s) (rx : RelV x u) (ty : TyOf X.K H x t) (e : PySem.W.kitOne X.K t c = some b) (h : ∀ tk, Q (.bool b) { s with toks := tk }) :
  wpAny (model X.prog X.w) A (call (.builtin "isinstance") [u, c]) Q E s := by
 cases ty with
 | non => cases (show u = Value.none from rx); exact PySem.W.kia_one PySem.W.kitx_none I.kIn True.intro e (fun z => nomatch z) h
 | bl y => cases (show u = Value.bool y from rx); exact PySem.W.kia_one PySem.W.kitx_bool I.kIn True.intro e (fun z => nomatch z) h
 | int i => obtain ⟨t, q⟩ := (show ∃ t, u = Value.int i t from rx); cases q; exact PySem.W.kia_one PySem.W.kitx_int I.kIn True.intro e (fun z => nomatch z) h
 | str y => obtain ⟨t, q⟩ := (show ∃ t, u = Value.str y t from rx); cases q; exact PySem.W.kia_one PySem.W.kitx_str I.kIn True.intro e (fun z => nomatch z) h
 | flt y => obtain ⟨t, q⟩ := (show ∃ t, u = Value.float y t from rx); cases q; exact PySem.W.kia_one PySem.W.kitx_float I.kIn True.intro e (fun z => nomatch z) h
 | @lst a xs ea =>
  cases (show u = Value.ref a from rx)
  obtain ⟨_, _, n, _, h1⟩ := (show z1B X.prog X.w H s.heap a (.lst xs) from I.hok a _ ea)
  exact PySem.W.kia_one PySem.W.kitx_list I.kIn ⟨_, h1, rfl⟩ e (fun z => nomatch z) h
 | @frz a ob xs ea =>
  cases (show u = Value.ref a from rx)
  obtain ⟨_, _, _, n, _, h1⟩ := (show z1B X.prog X.w H s.heap a (.frz ob (.lst xs)) from I.hok a _ ea)
  exact PySem.W.kia_one PySem.W.kitx_list I.kIn ⟨_, h1, rfl⟩ e (fun z => nomatch z) h
 | @tup a xs ea =>
  cases (show u = Value.ref a from rx)
  obtain ⟨_, _, _, p⟩ := (show z1B X.prog X.w H s.heap a (.tup xs) from I.hok a _ ea)
  obtain ⟨o, h1, h2, _⟩ := p
  exact PySem.W.kia_one PySem.W.kitx_tuple I.kIn ⟨o, h1, h2⟩ e (fun z => nomatch z) h
 | @dK a kvs ea =>
  cases (show u = Value.ref a from rx)
  obtain ⟨_, _, vs, _, p⟩ := (show z1B X.prog X.w H s.heap a (.dK kvs) from I.hok a _ ea)
  obtain ⟨o, es, ep, h1, h2, _⟩ := p
  exact PySem.W.kia_one PySem.W.kitx_dict I.kIn ⟨o, h1, h2.1⟩ e (fun z => nomatch z) h
 | @dT a kvs ea =>
  cases (show u = Value.ref a from rx)
  obtain ⟨_, _, xs, _, o, es, ep, h1, h2, _⟩ := (show z1B X.prog X.w H s.heap a (.dT kvs) from I.hok a _ ea)
  exact PySem.W.kia_one PySem.W.kitx_dict I.kIn ⟨o, h1, h2.1⟩ e (fun z => nomatch z) h
 | @ins a C dx fs ea cl ha hn htk hm =>
  cases (show u = Value.ref a from rx)
  obtain ⟨mA, O, _⟩ := z7x I.hok ea
  obtain ⟨od, J, _⟩ := O.look
  exact PySem.W.kia_one (PySem.W.kitx_own (cl.get _) cl.hd ha hn htk hm) I.kIn J e (fun z => nomatch z) h
end
end L2

namespace L2
open PySem PySem.Spec PyProof.Rows

structure Room (k : Nat) (A : Around) : Prop where
 hd : A.handled = none
 dp : A.depth + 3 * k + 5 < recursionLimit
 un : A.units + 16 * k + 200 < cLine
theorem Room.mono {j k : Nat} {A : Around} (r : Room k A) (h : j ≤ k) : Room j A := ⟨r.hd, by have := r.dp; omega, by have := r.un; omega⟩
theorem Room.deeper {k : Nat} {A : Around} (r : Room (k + 1) A) (env : Env) : Room k (A.deeper env) :=
 ⟨r.hd, by have := r.dp; show A.depth + 1 + 3 * k + 5 < _; omega, by have := r.un; show A.units + 3 + 16 * k + 200 < _; omega⟩
theorem y0j {A : Around} {C : Addr} {us : List Value} {kw : List (Str × Value)} : (A.under (.builtin "type.__call__" ⟨.ref C :: us, kw⟩)).depth = A.depth + 1 := by
 first | rfl | simp [Around.under, Code.weight, Code.isCreation, Code.isGuard, Code.isCaller, Code.frames, Code.isFrame, guardIds]
theorem y02 {A : Around} {C : Addr} {us : List Value} {kw : List (Str × Value)} : (A.under (.builtin "type.__call__" ⟨.ref C :: us, kw⟩)).units = A.units + 1 := by
 first | rfl | simp [Around.under, Code.cUnits, Code.frames, Code.isFrame]
theorem Room.make {k : Nat} {A : Around} (r : Room (k + 1) A) (C : Addr) (us : List Value) (kw : List (Str × Value)) : Room k (A.under (.builtin "type.__call__" ⟨.ref C :: us, kw⟩)) :=
 ⟨r.hd, by have := r.dp; rw [y0j]; omega, by have := r.un; rw [y02]; omega⟩
theorem Room.depth {k : Nat} {A : Around} (r : Room k A) : A.depth < recursionLimit := by have := r.dp; omega
theorem Room.units {k : Nat} {A : Around} (r : Room k A) : A.units + 64 < cLine := by have := r.un; omega
theorem Room.units0 {k : Nat} {A : Around} (r : Room k A) : A.units < cLine := by have := r.un; omega

def tNil : TA := fun _ H Q => Q [] H
def y4j (ta : TE) (tr : TA) : TA := fun σ H Q => ta σ H fun x H1 => tr σ H1 fun xs H2 => Q (x :: xs) H2
section
variable {X : Cx} {e : Expr} {es : List Expr} {te : TE} {t : TA} {pos : Pos}
theorem z03 : PA X [] tNil := fun _ _ _ _ H Q I h => Calls.spliced_nil ⟨[], H, I, .nil, h⟩
theorem z00 (ha : PE X e te) (hr : PA X es t) (hs : starEach (e :: es) X.env = (false, eval e X.env) :: starEach es X.env := by rfl) : PA X (e :: es) (y4j te t) := by
 intro pos pins s σ H Q I h
 rw [hs]
 show wpAny _ _ (spliced ((false, eval e X.env) :: backTo pos (starEach es X.env))) _ _ s
 refine Calls.spliced_cons (thn (ha pins s σ H _ I h) fun u s1 hz => ?_)
 obtain ⟨x, H1, I1, r1, q1⟩ := hz
 exact thn (hr pos pins s1 σ H1 _ I1 q1) fun us s2 ⟨xs, H2, I2, r2, q2⟩ => ⟨x :: xs, H2, I2, .cons r1 r2, q2⟩

def tTup (t : TA) : TE := fun σ H Q => t σ H fun xs H1 => xs.length ≤ sizeLine /\ ∀ p, H1 p = none -> Q (.ref p) (upd H1 p (.tup xs))
def tLst (t : TA) : TE := fun σ H Q => t σ H fun xs H1 => xs.length ≤ sizeLine /\ ∀ p, H1 p = none -> Q (.ref p) (upd H1 p (.lst xs))
theorem z11 {x1} (h : PA X es t) : PE X (.Tuple es x1 pos) (tTup t) := by
 intro pins s σ H Q I hq
 refine wpAny_Tuple_spliced (thn (h pos pins s σ H _ I hq) fun us s1 ⟨xs, H1, I1, r, z, q⟩ => ⟨by rw [<- r.length]; exact z, ?_⟩)
 have hf : H1 s1.heap.objs.size = none := I1.hok.fresh (Nat.le_refl _)
 refine ⟨.ref s1.heap.objs.size, upd H1 s1.heap.objs.size (.tup xs), I1.laid (t' := s1.toks) (fun b u e => Heap.get?_push_of_some _ e) (Nat.le_refl _) ?_, rfl, q _ hf⟩
 exact ⟨z, us, r, ⟨_, Heap.get?_push_size _ rfl, rfl, ⟨_, rfl⟩, rfl⟩⟩
theorem z1V (h : PA X es t) : PE X (.List es pos) (tLst t) := by
 intro pins s σ H Q I hq
 refine wpAny_List_spliced (thn (h pos pins s σ H _ I hq) fun us s1 ⟨xs, H1, I1, r, z, q⟩ => ⟨by rw [<- r.length]; exact z, ?_⟩)
 have hf : H1 s1.heap.objs.size = none := I1.hok.fresh (Nat.le_refl _)
 refine ⟨.ref s1.heap.objs.size, upd H1 s1.heap.objs.size (.lst xs), I1.laid (t' := s1.toks) (fun b u e => Heap.get?_push_of_some _ e) (Nat.le_refl _) ?_, rfl, q _ hf⟩
 exact ⟨z, us, 0, r, Heap.get?_push_size _ rfl⟩
end

abbrev Sp := List V -> Hp -> VK -> XK -> Prop
abbrev CXT := List Env -> Hp -> Shared -> XK -> Value -> Shared -> Prop

structure Env0 (P : Program) (w : World) (K : PySem.W.Frag) (mg : Str -> Option Value) (base : Heap) (A : Around) (outer : List Env) (s : Shared) (H : Hp) : Prop where
 frames : A.frames = some outer
 mod : Mod K mg base
 bs : ∀ b o, base.get? b = some o -> s.heap.get? b = some o /\ H b = none
 bsz : base.objs.size ≤ s.heap.objs.size
 funs : s.heap.FunFrames base outer
 frf : ∀ b ∈ frs outer, H b = none
 hok : HOk P w H s.heap
 bare : AllBare s.gens
def CE (outer : List Env) (P : Program) (w : World) (H : Hp) (s : Shared) (Q : VK) (u : Value) (s' : Shared) : Prop :=
 ∃ v H', s'.os = s.os /\ AllBare s'.gens /\ Un (frs outer) [] H H' s.heap s'.heap /\ HOk P w H' s'.heap /\ RelV v u /\ Q v H'
def CR (CX : CXT) (outer : List Env) (P : Program) (w : World) (H : Hp) (s : Shared) (Q : VK) (E : XK) (r : Result) (s' : Shared) : Prop :=
 match r with
 | .ok (.ret u) => CE outer P w H s Q u s'
 | .ok _ => False
 | .error e => CX outer H s E e s'
structure FnOk (P : Program) (w : World) (K : PySem.W.Frag) (mg : Str -> Option Value) (base : Heap) (CX : CXT) (k : Nat) (f : Addr) (fd : FuncData) (ps : List Str) (sp : Sp) : Prop where
 len : ∀ vs H Q E, sp vs H Q E -> vs.length = ps.length
 run : ∀ (A : Around) (outer : List Env) (s : Shared) (H : Hp) (args : Args) (us : List Value) (vs : List V) (Q : VK) (E : XK), Room k A -> Env0 P w K mg base A outer s H -> BindsTo s fd args (ps.zip us) -> Vals vs us -> sp vs H Q E ->
  codeAny (model P w) A (.call (.ref f) args) (CR CX outer P w H s Q E) s
theorem FnOk.mono {P : Program} {w : World} {K : PySem.W.Frag} {mg : Str -> Option Value} {base : Heap} {CX : CXT} {j k : Nat} {f : Addr} {fd : FuncData} {ps : List Str} {sp : Sp} (F : FnOk P w K mg base CX j f fd ps sp) (h : j ≤ k) :
  FnOk P w K mg base CX k f fd ps sp := ⟨F.len, fun A outer s H args us vs Q E hr => F.run A outer s H args us vs Q E (hr.mono h)⟩
theorem Env0.make {P : Program} {w : World} {K : PySem.W.Frag} {mg : Str -> Option Value} {base : Heap} {A : Around} {outer : List Env} {s : Shared} {H : Hp} (e : Env0 P w K mg base A outer s H) (C : Addr) (us : List Value) (kw : List (Str × Value)) :
  Env0 P w K mg base (A.under (.builtin "type.__call__" ⟨.ref C :: us, kw⟩)) outer s H := ⟨by first | exact e.frames | (simpa [Around.under, Code.envs, Code.isFrame, pushEnvs] using e.frames), e.mod, e.bs, e.bsz, e.funs, e.frf, e.hok, e.bare⟩
section
variable {X : Cx} {pins : List (Addr × Obj)} {σ : St} {H : Hp} {s s' : Shared}
theorem Inv.env0 (I : Inv X pins σ H s) : Env0 X.prog X.w X.K X.mg X.base X.A X.stack s H :=
 ⟨I.ok.frames, I.ok.mod, I.bs, Nat.le_trans I.ok.bsz I.sz, I.stack, I.stkFree, I.hok, I.bare⟩
theorem Inv.after {Q : VK} {u : Value} (I : Inv X pins σ H s) (h : CE X.stack X.prog X.w H s Q u s') : EP X pins σ Q u s' := by
 obtain ⟨v, H', os, bare, un, hok, r, q⟩ := h
 obtain ⟨hh, g, d, t, os'⟩ := s'
 obtain rfl : os' = s.os := os
 exact ⟨v, H', I.call (h' := hh) (g' := g) (d' := d) (t' := t) (ch := []) un hok bare (fun b z => absurd z (by simp)), r, q⟩
end

def y4t (sp : Sp) (dvs : List V) (E : XK) (t : TA) : TE := fun σ H Q => t σ H fun vs H1 => sp (vs ++ dvs) H1 Q E
def y2N (C : Addr) (m : Str) (sp : Sp) (dvs : List V) (E : XK) (ta : TE) (t : TA) : TE := fun σ H Q => ta σ H fun x H1 => ∃ a dx fs, x = .ref a /\ H1 a = some (.ins C dx fs) /\ fs.lookup m = none /\
 t σ H1 fun vs H2 => sp (x :: (vs ++ dvs)) H2 Q E
def y4M (C : Addr) (sp : Sp) (dvs : List V) (E : XK) (t : TA) : TE := fun σ H Q => t σ H fun vs H1 => ∀ x dx, H1 x = none -> H1 dx = none -> dx ≠ x ->
 sp (.ref x :: (vs ++ dvs)) (upd (upd H1 dx (.own x)) x (.ins C dx [])) (fun v H2 => v = .non /\ Q (.ref x) H2) E

def z3q (K : PySem.W.Frag) (fd : FuncData) (ps : List Str) (ds : List Value) : Prop :=
 ∀ (s : Shared) (us : List Value), K.In s.heap -> (us ++ ds).length = ps.length -> BindsTo s fd ⟨us, []⟩ (ps.zip (us ++ ds))
theorem z3q.all {K : PySem.W.Frag} {fd : FuncData} {ps : List Str} (h : ∀ us : List Value, us.length = ps.length -> bindArgs fd ⟨us, []⟩ = pure (ps.zip us)) : z3q K fd ps [] := fun s us _ hl => by
 rw [List.append_nil] at hl ⊢
 exact .of_eq (h us hl)

def z5O (CX : CXT) (X : Cx) (E : XK) : Prop := ∀ (pins : List (Addr × Obj)) (σ : St) (H : Hp) (s : Shared) (e : Value) (s' : Shared), Inv X pins σ H s -> CX X.stack H s E e s' -> X.xe e s'

section
variable {X : Cx} {CX : CXT} {k : Nat} {f C : Addr} {fd : FuncData} {ps : List Str} {sp : Sp} {dvs : List V} {ds : List Value} {E : XK} {x m : Str} {p pos apos : Pos} {e o : Expr} {es : List Expr} {ta : TE} {t : TA}

theorem y1k {pins : List (Addr × Obj)} {σ : St} {H : Hp} {s : Shared} {Q : VK} {us : List Value} {vs : List V} (F : FnOk X.prog X.w X.K X.mg X.base CX k f fd ps sp) (hr : Room k X.A) (hb : z3q X.K fd ps ds) (hd : Vals dvs ds) (hx : z5O CX X E)
  (I : Inv X pins σ H s) (r : Vals vs us) (h : sp (vs ++ dvs) H Q E) : wpAny (model X.prog X.w) X.A (call (.ref f) us) (EP X pins σ Q) X.xe s := by
 have r2 : Vals (vs ++ dvs) (us ++ ds) := r.append hd
 have hl : (us ++ ds).length = ps.length := by rw [<- r2.length]; exact F.len _ _ _ _ h
 refine wpAny_call (codeAny_mono (F.run X.A X.stack s H ⟨us, []⟩ (us ++ ds) (vs ++ dvs) Q E hr I.env0 (hb s us I.kIn hl) r2 h) fun r s' hq => ?_)
 cases r with
 | error e => exact hx pins σ H s e s' I hq
 | ok fl =>
  cases fl with
  | ret u => exact I.after hq
  | next => exact False.elim hq
  | brk => exact False.elim hq
  | cont => exact False.elim hq

theorem y3s (F : FnOk X.prog X.w X.K X.mg X.base CX k f fd ps sp) (hr : Room k X.A) (hg : Gl X x) (hm : X.mg x = some (.ref f)) (hk : PySem.W.keepIn X.K (.ref f) = true) (hb : z3q X.K fd ps ds) (hd : Vals dvs ds) (hx : z5O CX X E)
  (ha : PA X (e :: es) t) (hdb : (x == ("__debug__" : Str)) = false := by decide) (he : starEach (e :: es) X.env = (false, eval e X.env) :: starEach es X.env := by rfl) (hpl : (backTo pos (starEach es X.env)).any (·.1) = false := by rfl) :
  PE X (.Call (.Name x p) (e :: es) [] pos) (y4t sp dvs E t) := by
 intro pins s σ H Q I h
 refine wpAny_Call_Name_kw (z8U I hg hm ?_ hdb)
 refine PySem.W.callWith_K (h₀ := X.base) I.ok.mod.kin hk (thn (ha pos pins s σ H _ I h) fun us s1 ⟨vs, H1, I1, r, q⟩ => ⟨I1.kIn, ?_⟩) he hpl
 exact y1k F hr hb hd hx I1 r q
theorem y40 {pl : Sem Bool} (he : PE X o ta) (c : Cls X.K C) (hm : Meth X.K C m f) (F : FnOk X.prog X.w X.K X.mg X.base CX k f fd ps sp) (hr : Room k X.A) (hb : z3q X.K fd ps ds) (hd : Vals dvs ds) (hx : z5O CX X E) (ha : PA X (e :: es) t)
  (hst : starEach (e :: es) X.env = (false, eval e X.env) :: starEach es X.env := by rfl) (hpl : (backTo pos (starEach es X.env)).any (·.1) = false := by rfl)
  (ht : eval (.Call (.Attribute o m apos) (e :: es) [] pos) X.env = (do
   let ov <- eval o X.env
   standAt apos.atName
   let (f, first) <- holding [ov] (getMethod ov m pl)
   callWith pos f first (backTo pos (starEach (e :: es) X.env)) (backToKw pos (keywordEach [] X.env))) := by rfl) :
  PE X (.Call (.Attribute o m apos) (e :: es) [] pos) (y2N C m sp dvs E ta t) := by
 intro pins s σ H Q I h
 refine PySem.W.methodCall_KW (pl := pl) (thn (he pins s σ H _ I h) fun u s1 hz => ?_) ht
 obtain ⟨x, H1, I1, rx, a, dx, fs, ex, ea, l, q⟩ := hz
 subst ex
 obtain rfl : u = Value.ref a := rx
 refine z4W I1 ea c hm l ?_
 refine PySem.W.callWith_K (first := [.ref a]) (h₀ := X.base) I.ok.mod.kin hm.kp (thn (ha pos pins s1 σ H1 _ I1 q) fun us s2 ⟨vs, H2, I2, r, q2⟩ => ⟨I2.kIn, ?_⟩) hst hpl
 exact y1k (us := .ref a :: us) (vs := .ref a :: vs) F hr hb hd hx I2 (.cons rfl r) q2
theorem y2i {pl : Sem Bool} (he : PE X o ta) (c : Cls X.K C) (hm : Meth X.K C m f) (F : FnOk X.prog X.w X.K X.mg X.base CX k f fd ps sp) (hr : Room k X.A) (hb : z3q X.K fd ps ds) (hd : Vals dvs ds) (hx : z5O CX X E)
  (ht : eval (.Call (.Attribute o m apos) [] [] pos) X.env = (do
   let ov <- eval o X.env
   standAt apos.atName
   let (f, first) <- holding [ov] (getMethod ov m pl)
   callWith pos f first (backTo pos (starEach [] X.env)) (backToKw pos (keywordEach [] X.env))) := by rfl) :
  PE X (.Call (.Attribute o m apos) [] [] pos) (y2N C m sp dvs E ta tNil) := by
 intro pins s σ H Q I h
 refine PySem.W.methodCall_KW (pl := pl) (thn (he pins s σ H _ I h) fun u s1 hz => ?_) ht
 obtain ⟨x, H1, I1, rx, a, dx, fs, ex, ea, l, q⟩ := hz
 subst ex
 obtain rfl : u = Value.ref a := rx
 refine z4W I1 ea c hm l ?_
 exact PySem.W.callWith_K0 (first := [.ref a]) I1.kIn hm.kp (y1k (us := [.ref a]) (vs := [.ref a]) F hr hb hd hx I1 (.cons rfl .nil) q)

structure Mk (K : PySem.W.Frag) (C f : Addr) : Prop where
 makes : PySem.W.makesIn K C = true
 init : PySem.W.findIn K (.ref C) "__init__" = some (some (.ref f))
 fn : PySem.W.isFn K (.ref f) = true
 kp : PySem.W.keepIn K (.ref C) = true

theorem y2L {pins : List (Addr × Obj)} {σ : St} {H : Hp} {s : Shared} {Q : VK} {us : List Value} {vs : List V} (M : Mk X.K C f) (F : FnOk X.prog X.w X.K X.mg X.base CX k f fd ps sp) (hr : Room (k + 1) X.A) (hb : z3q X.K fd ps ds) (hd : Vals dvs ds)
  (hx : z5O CX X E) (I : Inv X pins σ H s) (r : Vals vs us)
  (h : ∀ x dx, H x = none -> H dx = none -> dx ≠ x -> sp (.ref x :: (vs ++ dvs)) (upd (upd H dx (.own x)) x (.ins C dx [])) (fun v H2 => v = .non /\ Q (.ref x) H2) E) :
  wpAny (model X.prog X.w) X.A (call (.ref C) us) (EP X pins σ Q) X.xe s := by
 have hq := h (s.heap.objs.size + 1) s.heap.objs.size (I.hok.fresh (Nat.le_succ _)) (I.hok.fresh (Nat.le_refl _)) (Nat.ne_of_lt (Nat.lt_succ_self _))
 have I2 := Inv.made (C := C) I
 have r2 : Vals (V.ref (s.heap.objs.size + 1) :: (vs ++ dvs)) (Value.ref (s.heap.objs.size + 1) :: (us ++ ds)) := .cons rfl (r.append hd)
 have hl : (Value.ref (s.heap.objs.size + 1) :: us ++ ds).length = ps.length := by
  have e := r2.length
  rw [F.len _ _ _ _ hq] at e
  exact e.symm
 refine wpAny_call (y2H (f := f) I.kIn M.makes M.init (beq_iff_eq.mp M.fn) (codeAny_mono (F.run _ X.stack _ _ ⟨Value.ref (s.heap.objs.size + 1) :: us, []⟩ (Value.ref (s.heap.objs.size + 1) :: (us ++ ds)) _ _ E (hr.make C us [])
  (I2.env0.make C us []) (hb _ (Value.ref (s.heap.objs.size + 1) :: us) I2.kIn hl) r2 hq) fun r s' hq' => ?_))
 cases r with
 | error e => exact hx pins σ _ _ e s' I2 hq'
 | ok fl =>
  cases fl with
  | ret u =>
   obtain ⟨v, H', I3, rv, ev, q3⟩ := I2.after hq'
   subst ev
   exact ⟨rv, ⟨V.ref (s.heap.objs.size + 1), H', I3, rfl, q3⟩⟩
  | next => exact False.elim hq'
  | brk => exact False.elim hq'
  | cont => exact False.elim hq'
theorem y44 (M : Mk X.K C f) (F : FnOk X.prog X.w X.K X.mg X.base CX k f fd ps sp) (hr : Room (k + 1) X.A) (hg : Gl X x) (hm : X.mg x = some (.ref C)) (hb : z3q X.K fd ps ds) (hd : Vals dvs ds) (hx : z5O CX X E)
  (ha : PA X (e :: es) t) (hdb : (x == ("__debug__" : Str)) = false := by decide) (he : starEach (e :: es) X.env = (false, eval e X.env) :: starEach es X.env := by rfl) (hpl : (backTo pos (starEach es X.env)).any (·.1) = false := by rfl) :
  PE X (.Call (.Name x p) (e :: es) [] pos) (y4M C sp dvs E t) := by
 intro pins s σ H Q I h
 refine wpAny_Call_Name_kw (z8U I hg hm ?_ hdb)
 refine PySem.W.callWith_K (h₀ := X.base) I.ok.mod.kin M.kp (thn (ha pos pins s σ H _ I h) fun us s1 ⟨vs, H1, I1, r, q⟩ => ⟨I1.kIn, ?_⟩) he hpl
 exact y2L M F hr hb hd hx I1 r q
end

def PK (X : Cx) (kws : List Keyword) (t : TA) : Prop :=
 ∀ (pos : Pos) (pins : List (Addr × Obj)) (s : Shared) (σ : St) (H : Hp) (Q : List V -> Hp -> Prop), Inv X pins σ H s -> t σ H Q -> wpAny (model X.prog X.w) X.A (evalAll ((backToKw pos (keywordEach kws X.env)).map (·.2))) (AP X pins σ Q) X.xe s
section
variable {X : Cx} {CX : CXT} {k : Nat} {f C : Addr} {fd : FuncData} {ps ks : List Str} {sp : Sp} {E : XK} {x m : Str} {p pos apos kpos : Pos} {e o : Expr} {es : List Expr} {kws : List Keyword} {te ta : TE} {t tk : TA} {nm : Option Str}
theorem z9X : PK X [] tNil := fun _ _ _ _ H Q I h => wpAny_evalAll_nil ⟨[], H, I, .nil, h⟩
theorem z7m (ha : PE X e te) (hr : PK X kws t) : PK X (⟨nm, e, kpos⟩ :: kws) (y4j te t) := by
 intro pos pins s σ H Q I h
 show wpAny _ _ (evalAll ((do let v <- eval e X.env; standAt pos; pure v) :: (backToKw pos (keywordEach kws X.env)).map (·.2))) _ _ s
 refine wpAny_evalAll_cons (wpAny_bind (thn (ha pins s σ H _ I h) fun u s1 ⟨x, H1, I1, r1, q1⟩ => wpAny_bind (wpAny_standAt (wpAny_pure ?_))))
 exact thn (hr pos pins s1 σ H1 _ I1 q1) fun us s2 ⟨xs, H2, I2, r2, q2⟩ => ⟨x :: xs, H2, I2, .cons r1 r2, q2⟩

variable {g : List Value -> List Value -> List Value} {gV : List V -> List V -> List V}
end

structure FnScope (N P : List Str) (sc : Scope) : Prop where
 kind : sc.kind = .function
 co : sc.isCoroutine = false
 gen : sc.isGenerator = false
 nd : N.Nodup
 pre : N.take P.length = P
 par : ∀ x ∈ P, sc.names.lookup x = some .local \/ sc.names.lookup x = some .cell
 nofree : ∀ y ∈ sc.names, y.2 ≠ .free

theorem z84 {kindOf : Str -> Option NameKind} {x : Str} : ∀ {binds : List (Str × Value)} {m : Str -> Option Value}, (∀ v, (x, v) ∉ binds) -> bindL kindOf binds m x = m x
 | [], _, _ => rfl
 | (n, v) :: r, m, h => by
  unfold bindL
  rw [z84 fun w hw => h w (List.mem_cons_of_mem _ hw)]
  split
  ·have : x ≠ n := by rintro rfl; exact h v List.mem_cons_self
   simp [this]
  ·rfl
theorem z8L {kindOf : Str -> Option NameKind} {x : Str} : ∀ {binds : List (Str × Value)} {m : Str -> Option Value}, (∀ v, (x, v) ∉ binds) -> bindC kindOf binds m x = m x
 | [], _, _ => rfl
 | (n, v) :: r, m, h => by
  unfold bindC
  rw [z8L fun w hw => h w (List.mem_cons_of_mem _ hw)]
  split
  ·rfl
  ·have : x ≠ n := by rintro rfl; exact h v List.mem_cons_self
   simp [this]
theorem z89 {kindOf : Str -> Option NameKind} {x : Str} {v : Value} : ∀ {P : List Str} {vs : List Value} {i : Nat} {m : Str -> Option Value}, P.Nodup -> P[i]? = some x -> vs[i]? = some v -> kindOf x = some .local ->
  bindL kindOf (P.zip vs) m x = some v
 | [], _, _, _, _, h, _, _ => by simp at h
 | _ :: _, [], _, _, _, _, h, _ => by simp at h
 | p :: P, w :: vs, 0, m, nd, h1, h2, hk => by
  simp at h1 h2; subst h1; subst h2
  show bindL kindOf ((p, w) :: P.zip vs) m p = _
  unfold bindL
  rw [z84 fun v hv => (List.nodup_cons.mp nd).1 (List.of_mem_zip hv).1, if_pos hk]
  simp
 | p :: P, w :: vs, i + 1, m, nd, h1, h2, hk => by
  show bindL kindOf ((p, w) :: P.zip vs) m x = _
  unfold bindL
  exact z89 (i := i) (List.nodup_cons.mp nd).2 (by simpa using h1) (by simpa using h2) hk
theorem z81 {kindOf : Str -> Option NameKind} {x : Str} {v : Value} : ∀ {P : List Str} {vs : List Value} {i : Nat} {m : Str -> Option Value}, P.Nodup -> P[i]? = some x -> vs[i]? = some v -> kindOf x ≠ some .local ->
  bindC kindOf (P.zip vs) m x = some v
 | [], _, _, _, _, h, _, _ => by simp at h
 | _ :: _, [], _, _, _, _, h, _ => by simp at h
 | p :: P, w :: vs, 0, m, nd, h1, h2, hk => by
  simp at h1 h2; subst h1; subst h2
  show bindC kindOf ((p, w) :: P.zip vs) m p = _
  unfold bindC
  rw [z8L fun v hv => (List.nodup_cons.mp nd).1 (List.of_mem_zip hv).1, if_neg hk]
  simp
 | p :: P, w :: vs, i + 1, m, nd, h1, h2, hk => by
  show bindC kindOf ((p, w) :: P.zip vs) m x = _
  unfold bindC
  exact z81 (i := i) (List.nodup_cons.mp nd).2 (by simpa using h1) (by simpa using h2) hk

def z4Q (N : List Str) (vs : List V) : St := vs.map some ++ List.replicate (N.length - vs.length) none

def cxOf (CX : CXT) (P : Program) (w : World) (K : PySem.W.Frag) (mg : Str -> Option Value) (base : Heap) (N : List Str) (qual : Str) (scope : Scope) (f : Addr) (cd : Value) (A : Around) (outer : List Env) (s : Shared) (H : Hp) (E : XK) : Cx where
 prog := P
 w := w
 K := K
 mg := mg
 base := base
 A := A.deeper (envOfC qual scope s.heap.objs.size f cd)
 N := N
 s₀ := s
 H₀ := H
 env := envOfC qual scope s.heap.objs.size f cd
 outer := outer
 stack := envOfC qual scope s.heap.objs.size f cd :: outer
 ex := []
 calm := true
 fn := fun _ => true
 pn := []
 xe := fun e s' => wpAny (model P w) (A.deeper (envOfC qual scope s.heap.objs.size f cd)) (leaving (envOfC qual scope s.heap.objs.size f cd) e) (fun _ s'' => CX outer H s E e s'') (fun e' s'' => CX outer H s E e' s'') s'

theorem z9V {sc : Scope} {n : Nat} {x : Str} (h : sc.names.lookup x = some .cell) : ∃ c, (cellsFrom n sc.names []).lookup x = some c := by
 have q := PySem.W.cellsFrom_some sc.names n [] (.inl h)
 exact Option.isSome_iff_exists.mp q

theorem y0L {CX : CXT} {P : Program} {w : World} {K : PySem.W.Frag} {mg : Str -> Option Value} {base : Heap} {N ps : List Str} {qual : Str} {scope : Scope} {f : Addr} {cd : Value} {A : Around} {outer : List Env} {s s1 : Shared} {H : Hp} {E : XK} {us : List Value} {vs : List V}
  (S : FnScope N ps scope) (hd : A.handled = none) (e0 : Env0 P w K mg base A outer s H) (hl : vs.length = ps.length) (r : Vals vs us)
  (x : InCallC s s.heap.objs.size (bindL (envOfC qual scope s.heap.objs.size f cd).kindOf (ps.zip us) fun _ => none) (cellsFrom (s.heap.objs.size + 1) scope.names []) (bindC (envOfC qual scope s.heap.objs.size f cd).kindOf (ps.zip us) fun _ => none) s1) :
  Inv (cxOf CX P w K mg base N qual scope f cd A outer s H E) [] (z4Q N vs) H s1 := by
 have hpl : ps.length ≤ N.length := by have := congrArg List.length S.pre; rw [List.length_take] at this; omega
 obtain ⟨h1, tk, rfl, hk⟩ := x.done
 have noA : ∀ b : Addr, b ∉ (cxOf CX P w K mg base N qual scope f cd A outer s H E).ex := fun b z => absurd (show b ∈ ([] : List Addr) from z) (by simp)
 refine ⟨⟨e0.mod, S.kind, rfl, rfl, Nat.le_refl _, fun y z c h1 h2 => ?_, fun y hy => ?_, fun y c _ h => ?_, fun _ => hd, Around.frames_deeper e0.frames, .inr ⟨rfl, rfl⟩, fun b z => absurd z (noA b), e0.bs, e0.bsz, fun b _ _ => noA b, fun b z => absurd z (noA b), e0.funs, e0.frf⟩,
  rfl, e0.bare, Un.kept hk, ⟨_, x.toInCall.ns, fun i y v h1 h2 h3 => ?_⟩, fun y c h => ⟨_, x.cell y c h⟩, e0.hok.fresh (Nat.le_refl _), fun y c h => ?_, fun p hp => absurd (show p ∈ ([] : List (Addr × Obj)) from hp) (by simp), e0.hok.kept hk, ?_⟩
 ·exact name_of_addr x.apart (PySem.mem_of_lookup h1) (PySem.mem_of_lookup h2)
 ·have hy : scope.names.lookup y = some .cell \/ scope.names.lookup y = some .free := hy
  rcases hy with hy | hy
  ·exact z9V hy
  ·exact absurd rfl (S.nofree _ (PySem.mem_of_lookup hy))
 ·exact Nat.le_of_lt (x.above y c (PySem.mem_of_lookup h))
 ·have hi : i < vs.length := by
   unfold z4Q at h2
   by_cases hi : i < vs.length
   ·exact hi
   ·rw [List.getElem?_append_right (by simpa using hi)] at h2
    rw [List.getElem?_replicate] at h2
    split at h2 <;> cases h2
  have ha : vs[i]? = some v := by
   unfold z4Q at h2
   rw [List.getElem?_append_left (by simpa using hi), List.getElem?_map] at h2
   cases e : vs[i]? with
   | none => rw [e] at h2; cases h2
   | some a => rw [e] at h2; cases h2; rfl
  obtain ⟨u, hu, rv⟩ := r.get ha
  have hp : ps[i]? = some y := by
   rw [<- S.pre, List.getElem?_take_of_lt (by omega)]; exact h1
  have ndP : ps.Nodup := by rw [<- S.pre]; exact S.nd.sublist (List.take_sublist _ _)
  refine ⟨u, rv, ?_⟩
  rcases S.par y (List.mem_of_getElem? hp) with k | k
  ·exact .inl ⟨k, z89 ndP hp hu k⟩
  ·obtain ⟨c, e⟩ := z9V (n := s.heap.objs.size + 1) k
   refine .inr ⟨.inl k, c, e, ?_⟩
   have q := x.cell y c e
   rw [z81 ndP hp hu (by show scope.names.lookup y ≠ _; rw [k]; decide)] at q
   exact q
 ·exact e0.hok.fresh (Nat.le_of_lt (x.above y c (PySem.mem_of_lookup h)))
 ·unfold z4Q
  show _ = N.length
  rw [List.length_append, List.length_map, List.length_replicate]
  omega

theorem y4H {CX : CXT} {P : Program} {w : World} {K : PySem.W.Frag} {mg : Str -> Option Value} {base : Heap} {k : Nat} {f : Addr} {name qual : Str} {params : Arguments} {body : List Stmt} {scope : Scope} {dV kV doc pm cdv ct oc : Value} {an od : Option Addr}
  {osl : Array (Option Value)} {N ps : List Str} {sp : Sp} (lk : K.lookup f = some ⟨oc, od, .func (PySem.W.fnOf name qual params body scope dV kV doc pm an cdv ct), osl⟩) (hcd : PySem.W.codeIn K cdv qual = true) (S : FnScope N ps scope)
  (len : ∀ vs H Q E, sp vs H Q E -> vs.length = ps.length)
  (hbody : ∀ (A : Around) (outer : List Env) (s : Shared) (H : Hp) (vs : List V) (Q : VK) (E : XK), Room k (A.deeper (envOfC qual scope s.heap.objs.size f cdv)) -> sp vs H Q E ->
   ∃ t, PSs (cxOf CX P w K mg base N qual scope f cdv A outer s H E) body t /\ t { nx := fun _ H' => Q .non H', rt := Q } (z4Q N vs) H) :
  FnOk P w K mg base CX (k + 1) f (PySem.W.fnOf name qual params body scope dV kV doc pm an cdv ct) ps sp := by
 refine ⟨len, fun A outer s H args us vs Q E hr e0 hb r hsp => ?_⟩
 have hl := len _ _ _ _ hsp
 have KX : K.In s.heap := e0.mod.kin.keeps fun b o e => (e0.bs b o e).1
 have lim : s.heap.NoLimit := e0.mod.nolimit.keeps fun b o e => (e0.bs b o e).1
 have hkind : ∀ y ∈ ps.zip us, scope.names.lookup y.1 = some .local \/ (scope.names.lookup y.1 = some .cell /\ ((cellsFrom (s.heap.objs.size + 1) scope.names []).lookup y.1).isSome = true) := fun ⟨n, v⟩ hy => by
  rcases S.par n (List.of_mem_zip hy).1 with q | q
  ·exact .inl q
  ·exact .inr ⟨q, PySem.W.cellsFrom_some _ _ _ (.inl q)⟩
 refine codeAny_call_function hr.depth (KX _ _ lk) rfl S.co S.gen rfl (PySem.W.codeRec_of KX hcd) (hb _ _ _ _ ?_)
 refine wpAny_newFunctionEnv_cells S.kind hkind fun env he s1 x => ?_
 subst he
 refine ⟨lim.keeps x.toInCall.keep, codeAny_func ?_⟩
 obtain ⟨t, ht, hq⟩ := hbody A outer s H vs Q E (hr.deeper _) hsp
 have I : Inv (cxOf CX P w K mg base N qual scope f cdv A outer s H E) [] (z4Q N vs) H s1 := y0L S hr.hd e0 hl r x
 refine wpAny_mono (ht [] s1 (z4Q N vs) H _ I hq) (fun fl s' hs => ?_) fun e s' hs => hs
 have fin : ∀ {σ' : St} {H' : Hp} {v : V} {u : Value}, Inv (cxOf CX P w K mg base N qual scope f cdv A outer s H E) [] σ' H' s' -> RelV v u -> Q v H' -> CE outer P w H s Q u s' :=
  fun {σ' H' v u} J rv q => ⟨v, H', J.os, J.bare, J.base, J.hok, rv, q⟩
 cases fl with
 | ret u =>
  obtain ⟨v, σ', H', J, rv, q⟩ := hs
  exact fin J rv q
 | next =>
  obtain ⟨σ', H', J, q⟩ := hs
  exact fin (v := V.non) (u := Value.none) J rfl q
 | brk =>
  obtain ⟨_, _, _, q⟩ := hs
  exact False.elim q
 | cont =>
  obtain ⟨_, _, _, q⟩ := hs
  exact False.elim q
end L2

namespace L2
open PySem PySem.Spec PyProof.Rows
section
variable {X : Cx} {x : Str} {p pos : Pos} {e : Expr} {es : List Expr} {t : TA} {id T : String} {r : List V -> Hp -> VK -> Prop}

def tCB (r : List V -> Hp -> VK -> Prop) (t : TA) : TE := fun σ H Q => t σ H fun vs H1 => r vs H1 Q
theorem z0f (hc : z3p X (.builtin id) r) (hg : Gl X x) (hm : X.mg x = none) (hv : bootBuiltins x = some (.builtin id)) (ha : PA X (e :: es) t) (hn : x ≠ "__name__" := by decide) (hdb : (x == ("__debug__" : Str)) = false := by decide)
  (he : starEach (e :: es) X.env = (false, eval e X.env) :: starEach es X.env := by rfl) (hpl : (backTo pos (starEach es X.env)).any (·.1) = false := by rfl) : PE X (.Call (.Name x p) (e :: es) [] pos) (tCB r t) := by
 intro pins s σ H Q I h
 refine wpAny_Call_Name_kw (z4w I hg hm hv ?_ hn hdb)
 exact PyProof.Rows.callWith_builtin1 (thn (ha pos pins s σ H _ I h) fun us s1 ⟨vs, H1, I1, r1, q1⟩ => hc pins s1 σ H1 vs us Q I1 r1 q1) he hpl
theorem z0x (hc : z3p X (.type T) r) (hg : Gl X x) (hm : X.mg x = none) (hv : bootBuiltins x = some (.type T)) (ha : PA X (e :: es) t) (hn : x ≠ "__name__" := by decide) (hdb : (x == ("__debug__" : Str)) = false := by decide)
  (he : starEach (e :: es) X.env = (false, eval e X.env) :: starEach es X.env := by rfl) (hpl : (backTo pos (starEach es X.env)).any (·.1) = false := by rfl) : PE X (.Call (.Name x p) (e :: es) [] pos) (tCB r t) := by
 intro pins s σ H Q I h
 refine wpAny_Call_Name_kw (z4w I hg hm hv ?_ hn hdb)
 exact PyProof.Rows.callWith_type1 (thn (ha pos pins s σ H _ I h) fun us s1 ⟨vs, H1, I1, r1, q1⟩ => hc pins s1 σ H1 vs us Q I1 r1 q1) he hpl
end
end L2

namespace HT
open PySem PyProof.Rows

section
open PySem.SeqAt
open PySem.AutoSeq1 (wpAny_loadPart')
open PySem.MeetsSeq PySem.MeetsSeq2 PySem.MeetsSeq3

end

section
variable {prog : Program} {w : World} {A : Around} {E : Value -> Shared -> Prop} {s : Shared}

theorem y3H {t b : Addr} {vs ws : List Value} {Q : Value -> Shared -> Prop} (ht : IsTup s.heap t vs.toArray) (hb : IsTup s.heap b ws.toArray) (hv : vs ≠ [])
  (h1 : ws = [] -> Q (.ref t) s) (h2 : ws ≠ [] -> Q (.ref s.heap.objs.size) { s with heap := s.heap.push { cls := .type "tuple", data := .seq (vs ++ ws).toArray } })
  (hsz : vs.length + ws.length ≤ sizeLine) : wpAny (model prog w) A (binaryOp .Add (.ref t) (.ref b)) Q E s := by
 obtain ⟨⟨cls, dd, data, sl⟩, ho, hc, n, hd⟩ := id ht
 obtain ⟨⟨cls2, dd2, data2, sl2⟩, ho2, hc2, n2, hd2⟩ := id hb
 simp only at hc hd hc2 hd2
 subst hc hd hc2 hd2
 have e : vs.toArray ++ ws.toArray = (vs ++ ws).toArray := by simp
 by_cases hw : ws = []
 ·exact concat_meets ⟨_, ho, rfl⟩ ⟨_, ho2, rfl⟩ noFill_tuple_add seq_tuple_add PySem.F.slot_tuple_add PySem.F.entry_tuple_add (PySem.F.args_tuple_add_2 _ _)
   (tuple_addW1 t b vs.toArray ws.toArray n n2 dd dd2 sl sl2 (by simpa using hv) (by simp [hw])) ⟨ho, ho2, h1 hw⟩
 ·refine concat_meets ⟨_, ho, rfl⟩ ⟨_, ho2, rfl⟩ noFill_tuple_add seq_tuple_add PySem.F.slot_tuple_add PySem.F.entry_tuple_add (PySem.F.args_tuple_add_2 _ _)
   (tuple_addW2 t b vs.toArray ws.toArray n n2 dd dd2 sl sl2 (by simpa using hv) (by simpa using hw) (by rw [List.size_toArray, List.size_toArray]; exact hsz)) ⟨ho, ho2, ?_⟩
  rw [e]
  exact h2 hw

def sIx (n d : Nat) : Option Int -> Nat
 | none => d
 | some v => if v < 0 then (v + (n : Int)).toNat else min v.toNat n
theorem z5W (n d k : Nat) : sIx n d (some (k : Int)) = min k n := by
 show (if (k : Int) < 0 then ((k : Int) + (n : Int)).toNat else min (k : Int).toNat n) = min k n
 rw [if_neg (by omega), Int.toNat_natCast]
theorem y39 (n d : Nat) (hd : d ≤ n) (o : Option Int) : sIx n d o ≤ n := by
 cases o with
 | none => exact hd
 | some v =>
  show (if v < 0 then (v + (n : Int)).toNat else min v.toNat n) ≤ n
  by_cases hv : v < 0
  ·rw [if_pos hv]; omega
  ·rw [if_neg hv]; exact Nat.min_le_right _ _
theorem y1g (v : Int) (n d : Nat) : (if v < 0 then max (v + (n : Int)) 0 else min v (n : Int)) = ((sIx n d (some v) : Nat) : Int) := by
 show (if v < 0 then max (v + (n : Int)) 0 else min v (n : Int)) = (((if v < 0 then (v + (n : Int)).toNat else min v.toNat n) : Nat) : Int)
 by_cases hv : v < 0
 ·simp only [if_pos hv]; omega
 ·simp only [if_neg hv]; omega
theorem y0f (lo hi : Option Int) (n : Nat) : Builtin.Slice.sliceAdjust lo hi 1 (n : Int) = (((sIx n 0 lo : Nat) : Int), ((sIx n n hi : Nat) : Int)) := by
 have h1 : ¬ ((1 : Int) < 0) := by omega
 unfold Builtin.Slice.sliceAdjust
 simp only [h1, if_false]
 refine Prod.ext ?_ ?_
 ·cases lo with
  | none => rfl
  | some v => exact y1g v n 0
 ·cases hi with
  | none => rfl
  | some v => exact y1g v n n
theorem y0q (i j : Nat) : Builtin.Slice.slicePlaces (i : Int) (j : Int) 1 = j - i := by
 unfold Builtin.Slice.slicePlaces
 have h1 : (1 : Int) > 0 := by omega
 simp only [h1, if_true, Int.ediv_one]
 split <;> omega
theorem z75 {v : Value} {o : Option Int} {Q : Option Int -> Shared -> Prop} (p : IsPart v o) (h : Q o s) : wpAny (model prog w) A (Builtin.Slice.slicePartIndex v) Q E s := by
 cases p with
 | none => exact slicePart_none h
 | int i t => exact slicePart_int h
theorem z3y {sl : Addr} {vl vu : Value} {lo hi : Option Int} {n : Nat} {Q : Int × Int × Nat -> Shared -> Prop} (hs : s.heap.IsSliceOf sl vl vu .none) (pl : IsPart vl lo) (pu : IsPart vu hi)
  (h : Q (((sIx n 0 lo : Nat) : Int), 1, sIx n n hi - sIx n 0 lo) s) : wpAny (model prog w) A (Builtin.Slice.sliceApplied (.ref sl) (pure (n : Int))) Q E s := by
 obtain ⟨os, hos, hcs, hds⟩ := id hs
 unfold Builtin.Slice.sliceApplied Builtin.Slice.sliceFields
 refine wpAny_bind (wpAny_bind (wpAny_field hos hds (x := vl) rfl (wpAny_bind (wpAny_field hos hds (x := vu) rfl (wpAny_bind (wpAny_field hos hds (x := .none) rfl (wpAny_pure ?_)))))))
 refine wpAny_bind (slicePart_none ?_)
 show wpAny _ _ (if ((1 : Int) == 0) = true then _ else _) _ _ s
 rw [if_neg (by decide)]
 refine wpAny_bind (z75 pl (wpAny_bind (z75 pu (wpAny_bind (wpAny_pure ?_)))))
 show wpAny _ _ (match Builtin.Slice.sliceAdjust lo hi 1 (n : Int) with | (lo, hi) => pure (lo, (1 : Int), Builtin.Slice.slicePlaces lo hi 1)) _ _ s
 rw [y0f lo hi n]
 show wpAny _ _ (pure (((sIx n 0 lo : Nat) : Int), (1 : Int), Builtin.Slice.slicePlaces ((sIx n 0 lo : Nat) : Int) ((sIx n n hi : Nat) : Int) 1)) _ _ s
 rw [y0q]
 exact wpAny_pure h
theorem y2Z (xs : Array Value) (i k : Nat) : ((List.range k).filterMap fun (m : Nat) => xs[((i : Int) + (m : Int) * 1).toNat]?).toArray = ((xs.toList.drop i).take k).toArray := by
 have e : (fun (m : Nat) => xs[((i : Int) + (m : Int) * 1).toNat]?) = fun m => xs[i + m]? := by
  funext m
  have : ((i : Int) + (m : Int) * 1).toNat = i + m := by omega
  rw [this]
 rw [e]
 have := pick_run xs i k
 rw [List.filterMap_map] at this
 have e2 : ((fun x => xs[x]?) ∘ fun x => i + x) = fun m => xs[i + m]? := rfl
 rw [e2] at this
 rw [this]

theorem z4S {t sl : Addr} {items : Array Value} {vl vu : Value} {lo hi : Option Int} {Q : Value -> Shared -> Prop} (ht : IsTup s.heap t items) (hs : s.heap.IsSliceOf sl vl vu .none) (pl : IsPart vl lo) (pu : IsPart vu hi)
  (hw : ¬ (sIx items.size 0 lo = 0 /\ sIx items.size items.size hi = items.size))
  (h : Q (.ref s.heap.objs.size) { s with heap := s.heap.push { cls := .type "tuple", data := .seq ((items.toList.drop (sIx items.size 0 lo)).take (sIx items.size items.size hi - sIx items.size 0 lo)).toArray } })
  (hsz : items.size ≤ sizeLine) : wpAny (model prog w) A (getItem (.ref t) (.ref sl)) Q E s := by
 have htake : sizeOk (.seq ((items.toList.drop (sIx items.size 0 lo)).take (sIx items.size items.size hi - sIx items.size 0 lo)).toArray) := by
  show ((items.toList.drop (sIx items.size 0 lo)).take (sIx items.size items.size hi - sIx items.size 0 lo)).toArray.size ≤ sizeLine
  rw [List.size_toArray, List.length_take, List.length_drop, Array.length_toList]
  omega
 have hj : sIx items.size items.size hi ≤ items.size := y39 _ _ (Nat.le_refl _) hi
 obtain ⟨os, hos, hcs, hds⟩ := id hs
 have hTs : s.TypeIs (.ref sl) "slice" := ⟨os, hos, hcs⟩
 unfold getItem
 try with_reducible refine wpAny_holding ?_
 first | refine wpAny_bind (wpAny_pure ?_) | skip
 refine wpAny_bind (wpAny_sequenceKey ht.typeIs (by decide) ?_)
 refine wpAny_bind (wpAny_callSpecial?_slot (name := Str.ofString "__getitem__") ht.typeIs PyProof.Rows.slot_tuple_getitem
  (wpAny_call_entry PyProof.Rows.slot_tuple_getitem ht.typeIs entry_tuple_getitem ?_ (args_tuple_getitem _ _)))
 show wpAny _ _ (Builtin.Tuple.tupleItemsOf (.ref t) >>= _) _ _ s
 refine wpAny_bind (tupleItemsOf_ ht ?_)
 refine wpAny_bind (wpAny_typeOf hTs ?_)
 rw [if_pos (by decide)]
 refine wpAny_bind (z3y hs pl pu ?_)
 have hno : ¬ ((((sIx items.size 0 lo : Nat) : Int) == 0 && (1 : Int) == 1 && (sIx items.size items.size hi - sIx items.size 0 lo) == items.size) = true) := by
  intro q
  rw [Bool.and_eq_true, Bool.and_eq_true] at q
  have q1 : ((sIx items.size 0 lo : Nat) : Int) = 0 := eq_of_beq q.1.1
  have q2 : sIx items.size items.size hi - sIx items.size 0 lo = items.size := eq_of_beq q.2
  exact hw ⟨by omega, by omega⟩
 show wpAny _ _ (if (((sIx items.size 0 lo : Nat) : Int) == 0 && (1 : Int) == 1 && (sIx items.size items.size hi - sIx items.size 0 lo) == items.size) = true then _ else _) _ _ s
 rw [if_neg hno, y2Z]
 first
  | exact wpAny_bind (m := Builtin.Tuple.tupleExact _) (wpAny_newObj_type (wpAny_pure ⟨_, rfl, wpAny_pure h⟩) htake)
  | exact wpAny_bind (m := Builtin.Tuple.tupleExact _) (wpAny_newObj_type (wpAny_bind (wpAny_pure (wpAny_pure ⟨_, rfl, wpAny_pure h⟩))) htake)
  | exact wpAny_bind (wpAny_bind (m := Builtin.Tuple.tupleExact _) (wpAny_newObj_type (wpAny_pure (wpAny_pure ⟨_, rfl, wpAny_pure h⟩)) htake))
  | exact wpAny_bind (wpAny_bind (m := Builtin.Tuple.tupleExact _) (wpAny_newObj_type (wpAny_pure ⟨_, rfl, wpAny_pure h⟩) htake))
end
end HT

namespace L2
open PySem PySem.Spec PyProof.Rows

abbrev TO := St -> Hp -> (Option Int -> Hp -> Prop) -> Prop
def PO (X : Cx) (e : Option Expr) (t : TO) : Prop :=
 ∀ (pins : List (Addr × Obj)) (s : Shared) (σ : St) (H : Hp) (Q : Option Int -> Hp -> Prop), Inv X pins σ H s -> t σ H Q ->
  wpAny (model X.prog X.w) X.A (evalPart e X.env) (fun u s' => ∃ o H', Inv X pins σ H' s' /\ IsPart u o /\ Q o H') X.xe s
def y4b : TO := fun _ H Q => Q none H
def tPart (t : TE) : TO := fun σ H Q => t σ H fun x H1 => ∃ i, x = .int i /\ Q (some i) H1

theorem y05 {ns : List Int} : ∀ {us : List Value}, Vals (ns.map V.int) us -> IntsAre us ns := by
 induction ns with
 | nil => intro us r; rw [List.map_nil] at r; cases r; exact .nil
 | cons n ns ih =>
  intro us r
  rw [List.map_cons] at r
  cases r with
  | cons r1 r2 =>
   obtain ⟨t, e⟩ := r1
   subst e
   exact .cons n t (ih r2)

section
variable {X : Cx} {e : Expr} {te : TE} {lo hi : Option Expr} {tl th : TO} {pos p2 : Pos}

theorem z2B : PO X none y4b := by
 intro pins s σ H Q I h
 rw [evalPart_none]
 exact wpAny_pure ⟨none, H, I, .none, h⟩
theorem z2A (h : PE X e te) : PO X (some e) (tPart te) := by
 intro pins s σ H Q I hw
 rw [evalPart_some]
 refine thn (h pins s σ H _ I hw) fun u s1 hz => ?_
 obtain ⟨x, H1, I1, r1, q1⟩ := hz
 obtain ⟨i, rfl, q⟩ := q1
 obtain ⟨t, rfl⟩ := r1
 exact ⟨some i, H1, I1, .int i t, q⟩

def SlR (X : Cx) (r : V -> Option Int -> Option Int -> Hp -> VK -> Prop) : Prop :=
 ∀ (pins : List (Addr × Obj)) (s : Shared) (σ : St) (H : Hp) (x : V) (v vl vu : Value) (lo hi : Option Int) (sl : Addr) (Q : VK), Inv X pins σ H s -> RelV x v -> s.heap.IsSliceOf sl vl vu .none -> IsPart vl lo -> IsPart vu hi -> r x lo hi H Q ->
  ∃ T id, typeLookup (.type T) "__getitem__" = pure (some (.builtin id)) /\ s.TypeIs v T /\ wpAny (model X.prog X.w) X.A (getItem v (.ref sl)) (EP X pins σ Q) X.xe s
def tSl (r : V -> Option Int -> Option Int -> Hp -> VK -> Prop) (te : TE) (tl th : TO) : TE := fun σ H Q => te σ H fun x H1 => tl σ H1 fun l H2 => th σ H2 fun u H3 => r x l u H3 Q
theorem z1X {r : V -> Option Int -> Option Int -> Hp -> VK -> Prop} (hr : SlR X r) (he : PE X e te) (hl : PO X lo tl) (hu : PO X hi th) : PE X (.Subscript e (.Slice lo hi none p2) pos) (tSl r te tl th) := by
 intro pins s σ H Q I h
 refine Subscript_ (thn (he pins s σ H _ I h) fun v s1 hz => ?_)
 obtain ⟨x, H1, I1, r1, q1⟩ := hz
 refine wpAny_Slice (thn (hl pins s1 σ H1 _ I1 q1) fun vl s2 ⟨l, H2, I2, pl, q2⟩ => thn (hu pins s2 σ H2 _ I2 q2) fun vu s3 hz => ?_)
 obtain ⟨u, H3, I3, pu, q3⟩ := hz
 rw [evalPart_none]
 refine wpAny_pure ?_
 have I4 : Inv X pins σ H3 { s3 with heap := s3.heap.push { cls := .type "slice", data := .fields #[vl, vu, .none] } } := I3.kept (t' := s3.toks) fun b ob q => Heap.get?_push_of_some _ q
 obtain ⟨T, id, hT, ht, hg⟩ := hr pins { s3 with heap := s3.heap.push { cls := .type "slice", data := .fields #[vl, vu, .none] } } σ H3 x v vl vu l u s3.heap.objs.size Q I4 r1 (Heap.IsSliceOf.new ..) pl pu q3
 show wpAny (model X.prog X.w) X.A (subscriptTail e (.Slice lo hi none p2) v (.ref s3.heap.objs.size)) (EP X pins σ Q) X.xe { s3 with heap := s3.heap.push { cls := .type "slice", data := .fields #[vl, vu, .none] } }
 exact tail_any (ops := [.ref s3.heap.objs.size, v]) ht hT hg (by with_unfolding_all rfl)

def cutV (xs : List V) (lo hi : Option Int) : List V := (xs.drop (HT.sIx xs.length 0 lo)).take (HT.sIx xs.length xs.length hi - HT.sIx xs.length 0 lo)
theorem z6y (xs : List V) (lo hi : Option Int) : (cutV xs lo hi).length ≤ xs.length := by
 unfold cutV
 rw [List.length_take, List.length_drop]
 omega
def rSlT (K : PySem.W.Frag) : V -> Option Int -> Option Int -> Hp -> VK -> Prop := fun x lo hi H Q => ∃ a xs, x = .ref a /\ SqT K H a xs /\
 ¬ (HT.sIx xs.length 0 lo = 0 /\ HT.sIx xs.length xs.length hi = xs.length) /\ ∀ p, H p = none -> Q (.ref p) (upd H p (.tup (cutV xs lo hi)))
theorem y23 : SlR X (rSlT X.K) := by
 intro pins s σ H x v vl vu lo hi sl Q I rx hs pl pu h
 obtain ⟨a, xs, rfl, hx, hw, q⟩ := h
 cases rx
 obtain ⟨its, r, ht, hz⟩ := I.tuple hx
 have hlen : its.toArray.size = xs.length := by rw [List.size_toArray]; exact r.length.symm
 refine ⟨"tuple", _, PyProof.Rows.slot_tuple_getitem.lookup, ht.typeIs, ?_⟩
 refine HT.z4S ht hs pl pu (by rw [hlen]; exact hw) ?_ (by rw [hlen]; exact hz)
 rw [hlen]
 refine ⟨.ref s.heap.objs.size, _, I.laid (t' := s.toks) (o := .tup (cutV xs lo hi)) (fun b ob q => Heap.get?_push_of_some _ q) (Nat.le_refl _) ?_, rfl, q _ (I.hok.fresh (Nat.le_refl _))⟩
 exact ⟨Nat.le_trans (z6y xs lo hi) hz, _, (r.drop (HT.sIx xs.length 0 lo)).take (HT.sIx xs.length xs.length hi - HT.sIx xs.length 0 lo), PlT.new _ _⟩

def y4F (K : PySem.W.Frag) : R2 := fun x y H Q => ∃ a b xs ys, x = .ref a /\ y = .ref b /\ SqT K H a xs /\ SqT K H b ys /\ xs ≠ [] /\ xs.length + ys.length ≤ sizeLine /\
 (ys = [] -> Q (.ref a) H) /\ (ys ≠ [] -> ∀ p, H p = none -> Q (.ref p) (upd H p (.tup (xs ++ ys))))
theorem Vals.nil_iff {xs : List V} {us : List Value} (r : Vals xs us) : us = [] ↔ xs = [] := by
 cases r with
 | nil => simp
 | cons _ _ => simp
theorem y3x : OpR X (binaryOp .Add) (y4F X.K) := by
 intro pins s σ H x y v u Q I rx ry h
 obtain ⟨a, b, xs, ys, rfl, rfl, ha, hb, hx, hz, q1, q2⟩ := h
 cases rx
 cases ry
 obtain ⟨its, r1, p1, _⟩ := I.tuple ha
 obtain ⟨its2, r2, p2, _⟩ := I.tuple hb
 refine HT.y3H p1 p2 (fun z => hx (r1.nil_iff.mp z)) (fun z => ⟨.ref a, H, I, rfl, q1 (r2.nil_iff.mp z)⟩) (fun z => ?_) (by rw [<- r1.length, <- r2.length]; exact hz)
 refine ⟨.ref s.heap.objs.size, _, I.laid (t' := s.toks) (o := .tup (xs ++ ys)) (fun b ob q => Heap.get?_push_of_some _ q) (Nat.le_refl _) ?_, rfl, q2 (fun w => z (r2.nil_iff.mpr w)) _ (I.hok.fresh (Nat.le_refl _))⟩
 exact ⟨by rw [List.length_append]; exact hz, _, r1.append r2, PlT.new _ _⟩
end
end L2

namespace L2
open PySem PySem.Spec PyProof.Rows

def ixN (n : Nat) (i : Int) : Option Nat := if 0 ≤ i then (if i < n then some i.toNat else none) else if -(n : Int) ≤ i then some (i + n).toNat else none
def atI {α : Type} (xs : List α) (i : Int) : Option α := (ixN xs.length i).bind fun j => xs[j]?
theorem y4c {n : Nat} {i : Int} {j : Nat} (h : ixN n i = some j) : seqIndex? i n = some j /\ j < n /\ -(n : Int) ≤ i /\ i < n := by
 unfold ixN at h
 by_cases h0 : 0 ≤ i
 ·rw [if_pos h0] at h
  by_cases h1 : i < n
  ·rw [if_pos h1] at h
   have e : i.toNat = j := Option.some.inj h
   exact ⟨by rw [seqIndex_of h0 h1, e], by omega, by omega, h1⟩
  ·rw [if_neg h1] at h; cases h
 ·rw [if_neg h0] at h
  by_cases h1 : -(n : Int) ≤ i
  ·rw [if_pos h1] at h
   have e : (i + n).toNat = j := Option.some.inj h
   exact ⟨by rw [seqIndex_neg (by omega) h1, e], by omega, h1, by omega⟩
  ·rw [if_neg h1] at h; cases h
theorem z9s {α : Type} {xs : List α} {i : Int} {v : α} (h : atI xs i = some v) : ∃ j, seqIndex? i xs.length = some j /\ xs[j]? = some v /\ j < xs.length /\ -(xs.length : Int) ≤ i /\ i < xs.length := by
 unfold atI at h
 cases e : ixN xs.length i with
 | none => rw [e] at h; cases h
 | some j =>
  rw [e] at h
  obtain ⟨h1, h2, h3, h4⟩ := y4c e
  exact ⟨j, h1, h, h2, h3, h4⟩
theorem z1k {α : Type} {xs : List α} {j : Nat} {v : α} (h : xs[j]? = some v) : atI xs (j : Int) = some v := by
 have hj : j < xs.length := (List.getElem?_eq_some_iff.mp h).1
 have e : ixN xs.length (j : Int) = some j := by
  unfold ixN
  rw [if_pos (by omega), if_pos (by omega)]; simp
 unfold atI; rw [e]; exact h
theorem y2x {α : Type} (xs : List α) (v : α) : atI (xs ++ [v]) (-1) = some v := by
 have hl : (xs ++ [v]).length = xs.length + 1 := by simp
 have e : ixN (xs ++ [v]).length (-1) = some xs.length := by
  unfold ixN
  rw [hl, if_neg (by decide), if_pos (by omega)]
  congr 1
  omega
 unfold atI
 rw [e]
 show (xs ++ [v])[xs.length]? = some v
 simp

def y4d (b : Expr) : Prop := ∀ o i, subscripted b false o i = operate [o, i] (getItem o i)
def IxR (X : Cx) (r : R2) : Prop :=
 ∀ (value slice : Expr) (pins : List (Addr × Obj)) (s : Shared) (σ : St) (H : Hp) (x y : V) (v u : Value) (Q : VK), Inv X pins σ H s -> RelV x v -> RelV y u -> r x y H Q ->
  subscripted slice false v u = operate [v, u] (getItem v u) -> wpAny (model X.prog X.w) X.A (subscriptTail value slice v u) (EP X pins σ Q) X.xe s
def MtR (X : Cx) (id : String) (r : V -> List V -> Hp -> VK -> Prop) : Prop :=
 ∀ (pins : List (Addr × Obj)) (s : Shared) (σ : St) (H : Hp) (x : V) (xs : List V) (v : Value) (us : List Value) (Q : VK), Inv X pins σ H s -> RelV x v -> Vals xs us -> r x xs H Q ->
  wpAny (model X.prog X.w) X.A (call (.builtin id) (v :: us)) (EP X pins σ Q) X.xe s
section
variable {X : Cx} {a b : Expr} {ta tb : TE} {pos : Pos}
theorem IxR.or {r r' : R2} (h : IxR X r) (h' : IxR X r') : IxR X (fun x y H Q => r x y H Q \/ r' x y H Q) := by
 intro value slice pins s σ H x y v u Q I rx ry q hs
 rcases q with q | q
 ·exact h value slice pins s σ H x y v u Q I rx ry q hs
 ·exact h' value slice pins s σ H x y v u Q I rx ry q hs
theorem z0E {r : R2} (hr : IxR X r) (ha : PE X a ta) (hb : PE X b tb) (hs : y4d b) : PE X (.Subscript a b pos) (tOp r ta tb) := by
 intro pins s σ H Q I h
 exact Subscript_ (binT ha hb I h fun v u s2 x y H2 I2 rx ry q => hr a b pins s2 σ H2 x y v u Q I2 rx ry q (hs _ _))

def rIxL (K : PySem.W.Frag) : R2 := fun x y H Q => ∃ p xs i v, x = .ref p /\ y = .int i /\ SqL K H p xs /\ atI xs i = some v /\ Q v H
def rIxT (K : PySem.W.Frag) : R2 := fun x y H Q => ∃ p xs i v, x = .ref p /\ y = .int i /\ SqT K H p xs /\ atI xs i = some v /\ Q v H
def rIxS : R2 := fun x y H Q => ∃ z i c, x = .str z /\ y = .int i /\ z.length ≤ sizeLine /\ atI z.cps.toList i = some c /\ Q (.str ⟨#[c]⟩) H
theorem z0U : IxR X (rIxL X.K) := by
 intro value slice pins s σ H x y v u Q I rx ry h hs
 obtain ⟨p, xs, i, z, rfl, rfl, hq, he, q⟩ := h
 cases rx
 obtain ⟨t, rfl⟩ := ry
 obtain ⟨its, r, pl, hz⟩ := I.list hq
 obtain ⟨j, h1, h2, h3, h4, h5⟩ := z9s he
 obtain ⟨w, ew, rw'⟩ := r.get h2
 have hl := r.length
 have hn := z5v
 have fin : EP X pins σ Q w s := ⟨z, H, I, rw', q⟩
 by_cases h0 : 0 ≤ i
 ·have hj : i.toNat = j := by
   rw [seqIndex_of h0 h5] at h1
   exact Option.some.inj h1
  exact item_listR pl.isList h0 (by omega) (by rw [hj]; simpa using ew) fin hs
 ·have hj : (i + (its.toArray.size : Int)).toNat = j := by
   rw [seqIndex_neg (by omega) h4] at h1
   rw [List.size_toArray, <- hl]
   exact Option.some.inj h1
  exact subscriptTail_builtinR (x := w) pl.isList.typeIs slot_list_getitem.lookup
   (wpAny_getItem_list_neg (Q := fun r s' => r = w /\ EP X pins σ Q r s') pl.isList (by omega) (by rw [List.size_toArray] <;> omega) (by omega) (by rw [hj]; simpa using ew) ⟨rfl, fin⟩) hs
theorem z0S : IxR X (rIxT X.K) := by
 intro value slice pins s σ H x y v u Q I rx ry h hs
 obtain ⟨p, xs, i, z, rfl, rfl, hq, he, q⟩ := h
 cases rx
 obtain ⟨t, rfl⟩ := ry
 obtain ⟨its, r, pl, hz⟩ := I.tuple hq
 obtain ⟨j, h1, h2, h3, h4, h5⟩ := z9s he
 obtain ⟨w, ew, rw'⟩ := r.get h2
 have hl := r.length
 have hn := z5v
 have fin : EP X pins σ Q w s := ⟨z, H, I, rw', q⟩
 exact subscriptTail_builtinR (x := w) pl.typeIs slot_tuple_getitem.lookup
  (getItem_tuple (j := j) (Q := fun r s' => r = w /\ EP X pins σ Q r s') pl (by omega) (by omega) (by rw [List.size_toArray, <- hl]; exact h1) (by simpa using ew) ⟨rfl, fin⟩) hs
theorem y2e : IxR X rIxS := by
 intro value slice pins s σ H x y v u Q I rx ry h hs
 obtain ⟨z, i, c, rfl, rfl, hz, he, q⟩ := h
 obtain ⟨t, rfl⟩ := rx
 obtain ⟨t', rfl⟩ := ry
 obtain ⟨j, h1, h2, h3, h4, h5⟩ := z9s he
 have hl : z.cps.toList.length = z.length := by simp [Str.length]
 rw [hl] at h1 h4 h5
 have hn := z5v
 exact tail_any (typeIs_str s z t) slot_str_getitem.lookup (getItem_str (c := c) (by
  have e1 : decide (i < -(2 ^ 63 : Int)) = false := decide_eq_false (by omega)
  have e2 : decide (i ≥ 2 ^ 63) = false := decide_eq_false (by omega)
  rw [e1, e2, Bool.or_false]) (by rw [h1]; simpa using h2) ⟨.str ⟨#[c]⟩, H, I.tok _, ⟨_, rfl⟩, q⟩) hs
def rIx (K : PySem.W.Frag) : R2 := fun x y H Q => rIxL K x y H Q \/ rIxT K x y H Q \/ rIxS x y H Q
theorem y4A : IxR X (rIx X.K) := z0U.or (z0S.or y2e)

theorem z5q (lo hi : Option Int) (n : Nat) : (sliceBounds lo hi none n).1 = ((HT.sIx n 0 lo : Nat) : Int) /\ (sliceBounds lo hi none n).2.1 = ((HT.sIx n n hi : Nat) : Int) /\ (sliceBounds lo hi none n).2.2 = 1 := by
 refine ⟨?_, ?_, rfl⟩
 ·cases lo with
  | none => simp [sliceBounds, HT.sIx]
  | some i =>
   simp only [sliceBounds, HT.sIx, Option.getD_none, show (1 : Int) > 0 by decide, if_true]
   by_cases h : i < 0
   ·simp only [h, if_true] <;> omega
   ·simp only [h, if_false] <;> omega
 ·cases hi with
  | none => simp [sliceBounds, HT.sIx]
  | some i =>
   simp only [sliceBounds, HT.sIx, Option.getD_none, show (1 : Int) > 0 by decide, if_true]
   by_cases h : i < 0
   ·simp only [h, if_true] <;> omega
   ·simp only [h, if_false] <;> omega
theorem z7j (its : List Value) (lo hi : Option Int) : slicePick its.toArray lo hi none = ((its.drop (HT.sIx its.length 0 lo)).take (HT.sIx its.length its.length hi - HT.sIx its.length 0 lo)).toArray := by
 obtain ⟨h1, h2, h3⟩ := z5q lo hi its.toArray.size
 unfold slicePick
 rw [h1, h2, h3]
 simp only [sliceRange_one, pick_run, List.size_toArray] <;> rfl
def rSlL (K : PySem.W.Frag) : V -> Option Int -> Option Int -> Hp -> VK -> Prop := fun x lo hi H Q => ∃ a xs, x = .ref a /\ SqL K H a xs /\ ∀ p, H p = none -> Q (.ref p) (upd H p (.lst (cutV xs lo hi)))
theorem z4l : SlR X (rSlL X.K) := by
 intro pins s σ H x v vl vu lo hi sl Q I rx hs pl pu h
 obtain ⟨a, xs, rfl, hx, q⟩ := h
 cases rx
 obtain ⟨its, r, ht, hz⟩ := I.list hx
 have hlen := r.length
 refine ⟨"list", _, slot_list_getitem.lookup, ht.isList.typeIs, ?_⟩
 refine wpAny_getItem_list_slice ht.isList hs pl pu .none (by simp) ?_ (by rw [List.size_toArray] <;> omega)
 rw [z7j, <- hlen]
 refine ⟨.ref s.heap.objs.size, _, I.laid (t' := s.toks) (o := .lst (cutV xs lo hi)) (fun b ob q => Heap.get?_push_of_some _ q) (Nat.le_refl _) ?_, rfl, q _ (I.hok.fresh (Nat.le_refl _))⟩
 exact ⟨Nat.le_trans (z6y xs lo hi) hz, _, 0, (r.drop (HT.sIx xs.length 0 lo)).take (HT.sIx xs.length xs.length hi - HT.sIx xs.length 0 lo), Heap.get?_push_size _ rfl⟩

def z20 : V -> Bool
 | .non => true
 | .bl _ => true
 | .int _ => true
 | .str _ => true
 | _ => false
def eqV : V -> V -> Bool
 | .non, .non => true
 | .bl a, .bl b => a == b
 | .bl a, .int b => (if a then 1 else 0) == b
 | .int a, .bl b => a == (if b then 1 else 0)
 | .int a, .int b => a == b
 | .str a, .str b => a == b
 | _, _ => false
theorem y1q {A : Around} {s : Shared} {y x : V} {u v : Value} (ry : RelV y u) (rx : RelV x v) (fy : z20 y = true) (fx : z20 x = true) : SeqAt.EqAt A s u v (eqV y x) := by
 cases y with
 | non =>
  cases ry
  cases x with
  | non => cases rx; exact SeqAt.EqAt.same _
  | bl b => cases rx; exact SeqAt.EqAt.none_bool b
  | int b => obtain ⟨t, rfl⟩ := rx; exact SeqAt.EqAt.none_int b t
  | str b => obtain ⟨t, rfl⟩ := rx; exact SeqAt.EqAt.none_str b t
  | _ => exact absurd (show false = true from fx) Bool.false_ne_true
 | bl a =>
  cases ry
  cases x with
  | non => cases rx; exact SeqAt.EqAt.bool_none a
  | bl b => cases rx; exact SeqAt.EqAt.bool_bool a b
  | int b => obtain ⟨t, rfl⟩ := rx; exact SeqAt.EqAt.bool_int a b t
  | str b => obtain ⟨t, rfl⟩ := rx; exact SeqAt.EqAt.bool_str a b t
  | _ => exact absurd (show false = true from fx) Bool.false_ne_true
 | int a =>
  obtain ⟨t', rfl⟩ := ry
  cases x with
  | non => cases rx; exact SeqAt.EqAt.int_none a t'
  | bl b => cases rx; exact SeqAt.EqAt.int_bool a t' b
  | int b => obtain ⟨t, rfl⟩ := rx; exact SeqAt.EqAt.int_int a t' b t
  | str b => obtain ⟨t, rfl⟩ := rx; exact SeqAt.EqAt.int_str a t' b t
  | _ => exact absurd (show false = true from fx) Bool.false_ne_true
 | str a =>
  obtain ⟨t', rfl⟩ := ry
  cases x with
  | non => cases rx; exact SeqAt.EqAt.str_none a t'
  | bl b => cases rx; exact SeqAt.EqAt.str_bool a t' b
  | int b => obtain ⟨t, rfl⟩ := rx; exact SeqAt.EqAt.str_int a t' b t
  | str b => obtain ⟨t, rfl⟩ := rx; exact SeqAt.EqAt.str_str a t' b t
  | _ => exact absurd (show false = true from fx) Bool.false_ne_true
 | _ => exact absurd (show false = true from fy) Bool.false_ne_true
def eqU (x : V) (u : Value) : Bool := match u with
 | .none => eqV .non x
 | .bool b => eqV (.bl b) x
 | .int i _ => eqV (.int i) x
 | .str z _ => eqV (.str z) x
 | _ => false
theorem y1L {x y : V} {u : Value} (r : RelV y u) (f : z20 y = true) : eqU x u = eqV y x := by
 cases y with
 | non => cases r; rfl
 | bl b => cases r; rfl
 | int i => obtain ⟨t, rfl⟩ := r; rfl
 | str z => obtain ⟨t, rfl⟩ := r; rfl
 | _ => exact absurd (show false = true from f) Bool.false_ne_true
theorem z5T {x : V} : ∀ {xs : List V} {us : List Value}, Vals xs us -> xs.all z20 = true -> us.any (eqU x) = xs.any fun y => eqV y x
 | _, _, .nil, _ => rfl
 | y :: xs, u :: us, .cons r t, f => by
  rw [List.all_cons, Bool.and_eq_true] at f
  rw [List.any_cons, List.any_cons, y1L r f.1, z5T t f.2]
theorem z4H {A : Around} {s : Shared} {x : V} {v : Value} (rx : RelV x v) (fx : z20 x = true) : ∀ {xs : List V} {us : List Value}, Vals xs us -> xs.all z20 = true -> ∀ u ∈ us, SeqAt.EqAt A s u v (eqU x u)
 | _, _, .nil, _ => fun u hu => by cases hu
 | y :: xs, u :: us, .cons r t, f => fun u' hu => by
  rw [List.all_cons, Bool.and_eq_true] at f
  rcases List.mem_cons.mp hu with rfl | hu
  ·rw [y1L r f.1]; exact y1q r rx f.1 fx
  ·exact z4H rx fx t f.2 u' hu
def inV (x : V) (xs : List V) : Bool := xs.any fun y => eqV y x
def rIn (K : PySem.W.Frag) (neg : Bool) : R2 := fun x y H Q => ∃ p xs, y = .ref p /\ (SqL K H p xs \/ SqT K H p xs) /\ z20 x = true /\ xs.all z20 = true /\ Q (.bl (if neg then !inV x xs else inV x xs)) H
theorem z8x : OpR X (compareOp .In) (rIn X.K false) := by
 intro pins s σ H x y v u Q I rx ry h
 obtain ⟨p, xs, rfl, hq, fx, fs, q⟩ := h
 cases ry
 rcases hq with hq | hq
 ·obtain ⟨its, r, pl, hz⟩ := I.list hq
  refine SeqAt.in_listAt (eqU x) pl.isList (fun w hw => z4H rx fx r fs w (by simpa using hw)) ⟨.bl _, H, I, rfl, ?_⟩
  rw [show its.toArray.any (eqU x) = its.any (eqU x) by simp, z5T r fs]
  exact q
 ·obtain ⟨its, r, pl, hz⟩ := I.tuple hq
  refine SeqAt.in_tupleAt (eqU x) pl (fun w hw => z4H rx fx r fs w (by simpa using hw)) ⟨.bl _, H, I, rfl, ?_⟩
  rw [show its.toArray.any (eqU x) = its.any (eqU x) by simp, z5T r fs]
  exact q
theorem z21 : OpR X (compareOp .NotIn) (rIn X.K true) := by
 intro pins s σ H x y v u Q I rx ry h
 obtain ⟨p, xs, rfl, hq, fx, fs, q⟩ := h
 cases ry
 rcases hq with hq | hq
 ·obtain ⟨its, r, pl, hz⟩ := I.list hq
  refine SeqAt.notIn_listAt (eqU x) pl.isList (fun w hw => z4H rx fx r fs w (by simpa using hw)) ⟨.bl _, H, I, rfl, ?_⟩
  rw [show its.toArray.any (eqU x) = its.any (eqU x) by simp, z5T r fs]
  exact q
 ·obtain ⟨its, r, pl, hz⟩ := I.tuple hq
  refine SeqAt.notIn_tupleAt (eqU x) pl (fun w hw => z4H rx fx r fs w (by simpa using hw)) ⟨.bl _, H, I, rfl, ?_⟩
  rw [show its.toArray.any (eqU x) = its.any (eqU x) by simp, z5T r fs]
  exact q
theorem z0a : z3p X (.builtin "len") (fun xs H Q => ∃ p ys, xs = [.ref p] /\ (SqL X.K H p ys \/ SqT X.K H p ys) /\ Q (.int ys.length) H) := by
 intro pins s σ H xs us Q I r h
 obtain ⟨p, ys, rfl, hq, q⟩ := h
 obtain ⟨u, rfl, rx⟩ := z41 r
 cases rx
 have hn := z5v
 rcases hq with hq | hq
 ·obtain ⟨its, r', pl, hz⟩ := I.list hq
  have hlen := r'.length
  exact Calls.call_len_list pl.isList (by simp only [List.size_toArray] <;> omega) ⟨.int ys.length, H, I.tok _, ⟨s.toks + 1, by rw [List.size_toArray, hlen]⟩, q⟩
 ·obtain ⟨its, r', pl, hz⟩ := I.tuple hq
  have hlen := r'.length
  exact len_tuple pl (by simp only [List.size_toArray] <;> omega) ⟨.int ys.length, H, I.tok _, ⟨s.toks + 1, by rw [List.size_toArray, hlen]⟩, q⟩
theorem z8t : z3p X (.builtin "len") (fun xs H Q => ∃ z, xs = [.str z] /\ z.length ≤ sizeLine /\ Q (.int z.length) H) := by
 intro pins s σ H xs us Q I r h
 obtain ⟨z, rfl, hz, q⟩ := h
 obtain ⟨u, rfl, t, rfl⟩ := z41 r
 have hn := z5v
 exact len_str (by omega) ⟨.int z.length, H, I.tok _, ⟨_, rfl⟩, q⟩
theorem z3P : z3p X (.type "list") (fun xs H Q => ∃ p ys, xs = [.ref p] /\ (SqL X.K H p ys \/ SqT X.K H p ys) /\ ∀ l, H l = none -> Q (.ref l) (upd H l (.lst ys))) := by
 intro pins s σ H xs us Q I r h
 obtain ⟨p, ys, rfl, hq, q⟩ := h
 obtain ⟨u, rfl, rx⟩ := z41 r
 cases rx
 have fin : ∀ (its : List Value), Vals ys its -> ys.length ≤ sizeLine -> ∀ (h' : Heap) (c' : Nat), (∀ b o', s.heap.get? b = some o' -> h'.get? b = some o') ->
   h'.get? s.heap.objs.size = some { cls := .type "list", dict := none, data := .seq its.toArray c', slots := #[] } -> EP X pins σ Q (.ref s.heap.objs.size) { s with heap := h' } := fun its r' hz h' c' kp e =>
  ⟨.ref s.heap.objs.size, _, I.laid (t' := s.toks) kp (Nat.le_refl _) (show z1B X.prog X.w _ h' _ (.lst ys) from ⟨hz, its, c', r', e⟩), rfl, q _ (I.hok.fresh (Nat.le_refl _))⟩
 rcases hq with hq | hq
 ·obtain ⟨its, r', pl, hz⟩ := I.list hq
  have hlen := r'.length
  obtain ⟨o, ho, hc, n, hd⟩ := pl.isList
  exact call_list_seq p (.inl rfl) ho hc hd (fun h' c' kp e => fin its r' hz h' c' kp e) (by simp only [List.size_toArray] <;> omega)
 ·obtain ⟨its, r', pl, hz⟩ := I.tuple hq
  have hlen := r'.length
  obtain ⟨o, ho, hc, n, hd⟩ := pl
  exact call_list_seq p (.inr rfl) ho hc hd (fun h' c' kp e => fin its r' hz h' c' kp e) (by simp only [List.size_toArray] <;> omega)
theorem z0u : z3p X (.type "tuple") (fun xs H Q => ∃ p ys, xs = [.ref p] /\ ((SqL X.K H p ys /\ ∀ l, H l = none -> Q (.ref l) (upd H l (.tup ys))) \/ (SqT X.K H p ys /\ Q (.ref p) H))) := by
 intro pins s σ H xs us Q I r h
 obtain ⟨p, ys, rfl, h⟩ := h
 obtain ⟨u, rfl, rx⟩ := z41 r
 cases rx
 rcases h with ⟨hq, q⟩ | ⟨hq, q⟩
 ·obtain ⟨its, r', pl, hz⟩ := I.list hq
  have hlen := r'.length
  refine call_tuple_list pl.isList (fun h' kp => ?_) (by simp only [List.size_toArray] <;> omega)
  have I1 : Inv X pins σ H { s with heap := h' } := I.kept (t' := s.toks) kp
  have I2 : Inv X pins σ (upd H h'.objs.size (.tup ys)) { s with heap := h'.push { cls := .type "tuple", data := .seq its.toArray } } :=
   I1.laid (t' := s.toks) (fun b o e => Heap.get?_push_of_some _ e) (Nat.le_refl _) (show z1B X.prog X.w _ _ _ (.tup ys) from ⟨hz, its, r', PlT.new _ _⟩)
  exact ⟨.ref h'.objs.size, _, I2, rfl, q _ (I1.hok.fresh (Nat.le_refl _))⟩
 ·obtain ⟨its, r', pl, hz⟩ := I.tuple hq
  exact call_tuple_same pl ⟨.ref p, H, I, rfl, q⟩

def tyV (K : PySem.W.Frag) (T : String) (x : V) (H : Hp) : Prop := match x with
 | .str _ => T = "str"
 | .int _ => T = "int"
 | .ref p => (T = "list" /\ ∃ xs, SqL K H p xs) \/ (T = "tuple" /\ ∃ o, K.lookup p = some o /\ o.cls = .type "tuple" /\ o.dict = none) \/
   (T = "dict" /\ ((∃ kvs, H p = some (.dK kvs)) \/ ∃ kvs, H p = some (.dT kvs))) \/ (T = "set" /\ ∃ S n, H p = some (.set S n))
 | _ => False
theorem y4W {pins : List (Addr × Obj)} {σ : St} {H : Hp} {s : Shared} {T : String} {x : V} {v : Value} (I : Inv X pins σ H s) (r : RelV x v) (ty : tyV X.K T x H) :
  s.TypeIs v T /\ ∀ a, v = .ref a -> ∃ ob, s.heap.get? a = some ob /\ ob.dict = none := by
 cases x with
 | str z =>
  obtain ⟨t, rfl⟩ := r
  cases (show T = "str" from ty)
  exact ⟨typeIs_str s z t, fun _ e => nomatch e⟩
 | int i =>
  obtain ⟨t, rfl⟩ := r
  cases (show T = "int" from ty)
  exact ⟨typeIs_int s i t, fun _ e => nomatch e⟩
 | ref p =>
  cases r
  rcases ty with ⟨rfl, xs, hq⟩ | ⟨rfl, o, hk, hc, hd⟩ | ⟨rfl, hk⟩ | ⟨rfl, S, n, hk⟩
  ·obtain ⟨its, _, pl, _⟩ := I.list hq
   refine ⟨pl.isList.typeIs, fun a e => ?_⟩
   cases e
   obtain ⟨o, n, e, c, hd, _⟩ := pl
   exact ⟨o, e, hd⟩
  ·refine ⟨⟨o, I.kIn p o hk, hc⟩, fun a e => ?_⟩
   cases e
   exact ⟨o, I.kIn _ o hk, hd⟩
  ·have z : ∃ o, s.heap.get? p = some o /\ o.ExactDict := by
    rcases hk with ⟨kvs, hk⟩ | ⟨kvs, hk⟩
    ·obtain ⟨_, _, _, _, o, _, _, e, ex, _⟩ := I.hok p _ hk
     exact ⟨o, e, ex⟩
    ·obtain ⟨_, _, _, _, o, _, _, e, ex, _⟩ := I.hok p _ hk
     exact ⟨o, e, ex⟩
   obtain ⟨o, e, ex⟩ := z
   refine ⟨⟨o, e, ex.1⟩, fun a e2 => ?_⟩
   cases e2
   exact ⟨o, e, ex.2.1⟩
  ·obtain ⟨o, _, _, _, e, ex, _⟩ := I.hok p _ hk
   refine ⟨⟨o, e, ex.1⟩, fun a e2 => ?_⟩
   cases e2
   exact ⟨o, e, ex.2.1⟩
 | _ => exact False.elim ty
def tBM (K : PySem.W.Frag) (T : String) (r : V -> List V -> Hp -> VK -> Prop) (to : TE) (t : TA) : TE := fun σ H Q => to σ H fun x H1 => tyV K T x H1 /\ t σ H1 fun xs H2 => r x xs H2 Q
variable {o e : Expr} {es : List Expr} {to : TE} {t : TA} {name : Str} {apos cpos : Pos} {T id : String} {r : V -> List V -> Hp -> VK -> Prop}
theorem z3a (pa : PlainAttrs T) (slot : Slot T name id) (hty : typeOf (.builtin id) = pure (.type "method_descriptor")) (hm : MtR X id r) (ho : PE X o to) (ha : PA X (e :: es) t)
  (hbase : attributeBase o name X.env (eval o X.env) = eval o X.env := by rfl)
  (hfew : ((backTo cpos (starEach (e :: es) X.env)).all (fun x => !x.1) && (backToKw cpos (keywordEach [] X.env)).all (fun x => x.1.isSome)
   && decide ((e :: es).length + ([] : List Keyword).length + (if ([] : List Keyword).isEmpty then 0 else 1) < 30)) = true := by rfl)
  (hline : (apos.endLine == cpos.line) = true := by rfl) (hs : starEach (e :: es) X.env = (false, eval e X.env) :: starEach es X.env := by rfl) (hplain : (backTo cpos (starEach es X.env)).any (·.1) = false := by rfl) :
  PE X (.Call (.Attribute o name apos) (e :: es) [] cpos) (tBM X.K T r to t) := by
 intro pins s σ H Q I h
 refine wpAny_Call_method_late hbase hfew hline rfl (thn (ho pins s σ H _ I h) fun v s1 hz => ?_)
 obtain ⟨x, H1, I1, r1, ty, q1⟩ := hz
 obtain ⟨h1, h2⟩ := y4W I1 r1 ty
 refine ⟨T, id, pa, slot, hty, h1, h2, ?_⟩
 have hA := ha cpos pins s1 σ H1 _ I1 q1
 rw [hs] at hA ⊢
 refine Calls.callWith_builtin (by show (false || (backTo cpos (starEach es X.env)).any (·.1)) = false; rw [hplain] <;> rfl) (Calls.evalArgs_plain ?_)
 exact thn hA fun us s2 ⟨vs, H2, I2, r2, q2⟩ => hm pins s2 σ H2 x vs v us Q I2 r1 r2 q2
end
end L2

namespace L2
open PySem PySem.Spec PyProof.Rows

def MtM (X : Cx) (id : String) (r : V -> List V -> Hp -> VK -> Prop) : Prop :=
 ∀ (pins : List (Addr × Obj)) (s : Shared) (σ : St) (H : Hp) (x : V) (xs : List V) (v : Value) (us : List Value) (Q : VK), Inv X pins σ H s -> RelV x v -> Vals xs us -> r x xs H Q ->
  wpAny (model X.prog X.w) X.A (call (.builtin id) (v :: us)) (EP X pins σ Q) X.xe s

theorem Vals.one : ∀ {x : V} {us : List Value}, Vals [x] us -> ∃ u, us = [u] /\ RelV x u
 | _, _, .cons r .nil => ⟨_, rfl, r⟩
theorem Vals.two : ∀ {x y : V} {us : List Value}, Vals [x, y] us -> ∃ u v, us = [u, v] /\ RelV x u /\ RelV y v
 | _, _, _, .cons r (.cons q .nil) => ⟨_, _, rfl, r, q⟩
section
variable {X : Cx} {pins : List (Addr × Obj)} {σ : St} {H : Hp} {s : Shared} {l b : Addr} {xs ys zs : List V}

theorem Inv.lset {its its' : List Value} {n : Nat} {f : Array Value -> Array Value} {t' : Nat} (I : Inv X pins σ H s) (hH : H l = some (.lst xs))
  (e : s.heap.get? l = some { cls := .type "list", data := .seq its.toArray n }) (hf : f its.toArray = its'.toArray) (hv : Vals ys its') (hz : ys.length ≤ sizeLine) :
  Inv X pins σ (upd H l (.lst ys)) { s with heap := s.heap.update l (Obj.mapSeq f), toks := t' } := by
 have q := PySem.IsL.update e f
 rw [hf] at q
 refine I.write (x := l) (e := l) (by rw [hH]; exact trivial) (.inl rfl) (fun b' u hb hu => (Heap.get?_update_other s.heap (Obj.mapSeq f) (Ne.symm hb)).trans hu) ⟨_, q⟩ ?_
 exact ⟨hz, its', _, hv, q⟩
theorem Inv.lnew {its : List Value} {t' : Nat} (I : Inv X pins σ H s) (hv : Vals ys its) (hz : ys.length ≤ sizeLine) :
  Inv X pins σ (upd H s.heap.objs.size (.lst ys)) { s with heap := s.heap.push { cls := .type "list", data := .seq its.toArray }, toks := t' } :=
 I.laid (fun _ _ q => Heap.get?_push_of_some _ q) (Nat.le_refl _) ⟨hz, its, 0, hv, Heap.get?_push_size _ rfl⟩
theorem Inv.fresh (I : Inv X pins σ H s) : H s.heap.objs.size = none := I.hok.fresh (Nat.le_refl _)
theorem Inv.lstM (I : Inv X pins σ H s) (hH : H l = some (.lst xs)) : xs.length ≤ sizeLine /\ ∃ (its : List Value) (n : Nat), Vals xs its /\ xs.length = its.length /\ s.heap.get? l = some { cls := .type "list", data := .seq its.toArray n } := by
 obtain ⟨z, its, n, r, e⟩ := I.hok l _ hH
 exact ⟨z, its, n, r, r.length, e⟩

theorem y2n {n : Nat} (h : n ≤ sizeLine) : Builtin.List.listTooLong n = false := by
 unfold Builtin.List.listTooLong
 exact decide_eq_false (by omega)
end

section
variable {X : Cx}

def y3u : V -> List V -> Hp -> VK -> Prop := fun x vs H Q => ∃ l xs y, x = .ref l /\ vs = [y] /\ H l = some (.lst xs) /\ xs.length < sizeLine /\ Q .non (upd H l (.lst (xs ++ [y])))
theorem z0M : MtM X "list.append" y3u := by
 intro pins s σ H x vs v us Q I rx rv h
 obtain ⟨l, xs, y, rfl, rfl, hH, hz, q⟩ := h
 cases rx
 obtain ⟨u, rfl, ru⟩ := rv.one
 obtain ⟨z, its, n, r, hl, e⟩ := I.lstM hH
 refine call_meets F.slot_list_append ⟨_, e, rfl⟩ F.entry_list_append (F.args_list_append_2 _ _) (PySem.list_append l its.toArray n u (by rw [List.size_toArray]; omega)) ⟨e, ?_⟩
 refine ⟨.non, _, I.lset (its' := its ++ [u]) hH e (by simp) (r.append (.cons ru .nil)) ?_, rfl, q⟩
 rw [List.length_append, List.length_singleton]
 omega

def y4g : V -> List V -> Hp -> VK -> Prop := fun x vs H Q => ∃ l b xs zs, x = .ref l /\ vs = [.ref b] /\ H l = some (.lst xs) /\ H b = some (.lst zs) /\ xs.length + zs.length ≤ sizeLine /\ Q .non (upd H l (.lst (xs ++ zs)))
theorem y4w : MtM X "list.extend" y4g := by
 intro pins s σ H x vs v us Q I rx rv h
 obtain ⟨l, b, xs, zs, rfl, rfl, hH, hB, hz, q⟩ := h
 cases rx
 obtain ⟨u, rfl, ru⟩ := rv.one
 cases ru
 obtain ⟨z, its, n, r, hl, e⟩ := I.lstM hH
 obtain ⟨z2, its2, n2, r2, hl2, e2⟩ := I.lstM hB
 have hsz : its.toArray.size + its2.toArray.size ≤ sizeLine := by rw [List.size_toArray, List.size_toArray]; omega
 have hlong : ¬ (!its.toArray.isEmpty && Builtin.List.listTooLong (its.toArray.size + its2.toArray.size)) = true := by
  rw [y2n hsz, Bool.and_false]
  exact Bool.false_ne_true
 refine call_meets F.slot_list_extend ⟨_, e, rfl⟩ F.entry_list_extend (F.args_list_extend_2 _ _)
  (AutoSeq1.list_extend_list_list_0 l its.toArray n b its2.toArray n2 hlong (by rw [List.size_toArray]; omega) (by omega)) ⟨e, e2, ?_⟩
 refine ⟨.non, _, I.lset (its' := its ++ its2) hH e (by simp) (r.append r2) ?_, rfl, q⟩
 rw [List.length_append]
 omega

def rCat : R2 := fun x y H Q => ∃ l b xs zs, x = .ref l /\ y = .ref b /\ H l = some (.lst xs) /\ H b = some (.lst zs) /\ xs.length + zs.length ≤ sizeLine /\ ∀ p, H p = none -> Q (.ref p) (upd H p (.lst (xs ++ zs)))
theorem y3h : OpR X (binaryOp .Add) rCat := by
 intro pins s σ H x y v u Q I rx ry h
 obtain ⟨l, b, xs, zs, rfl, rfl, hH, hB, hz, q⟩ := h
 cases rx
 cases ry
 obtain ⟨z, its, n, r, hl, e⟩ := I.lstM hH
 obtain ⟨z2, its2, n2, r2, hl2, e2⟩ := I.lstM hB
 refine PySem.P.add_list e e2 ?_ (by rw [List.size_toArray, List.size_toArray]; omega)
 have ea : its.toArray ++ its2.toArray = (its ++ its2).toArray := by simp
 rw [ea]
 exact ⟨.ref _, _, I.lnew (t' := s.toks) (r.append r2) (by rw [List.length_append]; omega), rfl, q _ I.fresh⟩
end

section
variable {prog : Program} {w : World} {A : Around} {E : Value -> Shared -> Prop} {s : Shared}
end

section
variable {X : Cx}
end
end L2

namespace Att
open PySem PySem.W PySem.Calls PyProof.Rows

theorem z5R {P : Params} {h : Heap} : ∀ (ns : List Int) (vs : List Value), WellAll P h vs (ns.map WData.int) -> IntsAre vs ns := by
 intro ns
 induction ns with
 | nil =>
  intro vs w
  rw [List.map_nil] at w
  cases w
  exact .nil
 | cons n ns ih =>
  intro vs w
  rw [List.map_cons] at w
  cases w with
  | cons a b =>
   cases a
   exact .cons _ _ (ih _ b)

theorem y13 {l : OpenLaw} {n : Nat} (hn : l.most = some n) {P : Params} {h : Heap} {args : List WData} {vals : List Value}
  (hpre : l.row.toRowW.claim.pre args = true) (hwl : WellAll P h vals args) :
  ∃ a vs ns, vals = [Value.ref a] /\ args = [WData.list (ns.map WData.int)] /\ h.get? a = some { cls := .type "list", data := .seq vs.toArray } /\ IntsAre vs ns /\ ns.length ≤ n := by
 have hsh : WShape.hasAll [] args [.list .int] = true := (pre_splitW hpre).1
 have hc : l.pre.holds [] { args := args } = true := (pre_splitW hpre).2
 obtain ⟨d, r, rfl, h1, h2⟩ := hasAllW_cons hsh
 obtain rfl := hasAllW_nil h2
 obtain ⟨xs, rfl, h3⟩ := hasW_list h1
 obtain ⟨ns, rfl⟩ := items_int h3
 have hlen : ns.length ≤ n := by
  unfold OpenLaw.pre at hc
  have h4 : (WTm.not (.lt (.lit (.int (n : Int))) (.len (.arg 0)))).holds [] { args := [.list (ns.map .int)] } = true := by
   have h4 := (holds_andW hc).1
   rw [hn] at h4
   exact h4
  have h5 := condW_of h4 (w_not (w_lt w_lit (w_len_list (w_arg rfl))))
  rw [List.length_map] at h5
  refine Nat.le_of_not_lt fun q => ?_
  have q' : (n : Int) < ((ns.length : Nat) : Int) := by omega
  first
   | (rw [decide_eq_true q'] at h5; exact absurd h5 (by decide))
   | (simp at h5; omega)
 cases hwl with
 | cons w1 w2 =>
  cases w2
  cases w1 with
  | list ho hall => exact ⟨_, _, ns, rfl, rfl, ho, z5R ns _ hall, hlen⟩

theorem y12 (l : OpenLaw) (args : List WData) : l.row.toRowW.claim.post args (.bool true) args = true :=
 postW_of (r := l.row.toRowW) (X := (true == true))
  (show WShape.has [] (.bool true) .bool = true by first | rfl | decide | simp [WShape.has, WShape.arms, WShape.armsAll])
  (show (WTm.eq .res (.lit (.bool true))).value [] { args := args, res := some (.bool true), after := args } = some (.bool (true == true)) from w_eq_bool (w_res rfl) w_lit) rfl

theorem z9n {l : OpenLaw} {n : Nat} {q : Program} {loose : List Str} {XP : (Str -> Option Value) -> Heap -> Prop} {YP : World -> Heap -> Prop} {d : DefRec}
  (hn : l.most = some n) (hdf : d.params.defaults = [])
  (call : ∀ (w : World) (s₀ s₁ : Shared) (mg mb : Str -> Option Value) (fa : Addr) (o : Obj) (pm cd doc : Value) (a : Addr) (vs : List Value) (ns : List Int),
   Ground q loose [] XP w s₀ mg mb s₁.heap -> YP w s₁.heap ->
   s₁.heap.get? fa = some o -> o.data = .func (docDef d.name d.params d.body d.scope pm cd doc) -> s₁.heap.CodeRec cd d.name -> mg d.name = some (.ref fa) ->
   s₁.heap.get? a = some { cls := .type "list", data := .seq vs.toArray } -> IntsAre vs ns -> ns.length ≤ n -> s₁.gens = #[] ->
   codeAny (model l.prog w) callerA (.call (.ref fa) ⟨[.ref a], []⟩) (fun r s' => r = .ok (.ret (.bool true)) /\ OldK s₁.heap s'.heap /\ s'.os = s₁.os /\ AllBare s'.gens) s₁) :
  WalkO q loose XP YP l.row.toRowW d [] (fun f vs => PySem.call f vs) := by
 intro w s₀ s₁ mg mb G Y fa o pm cd doc dV kV ho hd hcd hD hmg hg args vals as hpre hlay hrd hwl hlo
 obtain rfl : dV = .none := Dflts.none hD hdf
 obtain rfl : kV = .none := Dflts.noKw hD
 obtain ⟨a, vs, ns, rfl, rfl, hobj, hints, hlen⟩ := y13 hn hpre hwl
 refine enter_call (codeAny_mono (call w s₀ s₁ mg mb fa o pm cd doc a vs ns G Y ho (fd_plain hd) hcd hmg hobj hints hlen hg) fun r s' hq => ?_)
 obtain ⟨rfl, h2, h3, h4⟩ := hq
 exact ⟨.inl ⟨.bool true, .bool true, [], rfl, fun _ => rfl, .bool true, y12 l _, fun _ => ⟨List.Pairwise.nil, fun _ hm => (nomatch hm)⟩⟩, h2, h3, h4⟩

section
variable {prog : Program} {w : World} {A : Around} {E : Value -> Shared -> Prop} {s : Shared} {K : Frag}

end
end Att

namespace L2
open PySem PySem.Spec PyProof.Rows

theorem z4D : ∀ {vs : List Value} {ns : List Int}, IntsAre vs ns -> Vals (ns.map V.int) vs
 | _, _, .nil => .nil
 | _, _, .cons n t h => .cons ⟨t, rfl⟩ (z4D h)

def Only (H : Hp) : Prop := ∀ b, H b = none \/ ∃ o xs, H b = some (.frz o (.lst xs))

theorem y35 {P : Program} {w : World} {K : PySem.W.Frag} {mg mb : Str -> Option Value} {CX : CXT} {k : Nat} {fa a : Addr} {fd : FuncData} {x : Str} {sp : Sp} {s₁ : Shared} {vs : List Value} {ns : List Int}
  (KX : K.In s₁.heap) (hns : s₁.heap.Ns mainGlobals mg) (hb : s₁.heap.Ns builtinsNs mb) (hbb : ∀ x : Str, x ≠ "__name__" -> mb x = bootBuiltins x) (hlim : s₁.heap.NoLimit) (hg : s₁.gens = #[])
  (ha : s₁.heap.get? a = some { cls := .type "list", data := .seq vs.toArray }) (hi : IntsAre vs ns) (hl : ns.length ≤ sizeLine) (hr : Room k callerA)
  (F : ∀ base : Heap, K.In base -> base.Ns mainGlobals mg -> FnOk P w K mg base CX k fa fd [x] sp) (hbind : ∀ (s : Shared) (u : Value), BindsTo s fd ⟨[u], []⟩ [(x, u)])
  (hsp : ∀ H : Hp, Only H -> SqL K H a (ns.map V.int) -> sp [.ref a] H (fun v _ => v = .bl true) fun _ _ _ => False)
  (hCX : ∀ H e s', CX [] H s₁ (fun _ _ _ => False) e s' -> False) :
  codeAny (model P w) callerA (.call (.ref fa) ⟨[.ref a], []⟩) (fun r s' => r = .ok (.ret (.bool true)) /\ OldK s₁.heap s'.heap /\ s'.os = s₁.os /\ AllBare s'.gens) s₁ := by
 have rv := z4D hi
 have lenV := hi.length
 -- from an abstract heap in which nothing but the script may be tracked
 have core : ∀ H : Hp, Only H -> SqL K H a (ns.map V.int) -> HOk P w H s₁.heap -> (∀ b, H b ≠ none -> b = a) -> (H a ≠ none -> K.lookup a = none) ->
   codeAny (model P w) callerA (.call (.ref fa) ⟨[.ref a], []⟩) (fun r s' => r = .ok (.ret (.bool true)) /\ OldK s₁.heap s'.heap /\ s'.os = s₁.os /\ AllBare s'.gens) s₁ := by
  intro H hO hS hok hA hK
  have base_of : ∀ {b : Addr} {o : Obj}, s₁.heap.get? b = some o -> H b = none -> (hidT s₁.heap H).get? b = some o := fun e n => y2R e n
  have noA : ∀ {b : Addr} {o : Obj} {es : Array DictEntry} {ep : Nat}, s₁.heap.get? b = some o -> o.data = .dict es ep -> H b = none := fun {b o es ep} e d => by
   cases q : H b with
   | none => rfl
   | some u =>
    have e' : b = a := hA b (by rw [q]; simp)
    subst e'
    rw [ha] at e; cases e
    have d' : Data.seq vs.toArray _ = Data.dict es ep := d
    cases d'
  have nsK : ∀ {b : Addr} {m : Str -> Option Value}, s₁.heap.Ns b m -> (hidT s₁.heap H).Ns b m := fun {b m} ⟨o, es, ep, e, d, r⟩ => ⟨o, es, ep, base_of e (noA e d), d, r⟩
  have hKb : K.In (hidT s₁.heap H) := fun b o e => base_of (KX b o e) (by
   cases q : H b with
   | none => rfl
   | some u =>
    have e' : b = a := hA b (by rw [q]; simp)
    subst e'
    rw [hK (by rw [q]; simp)] at e; cases e)
  have hM : Mod K mg (hidT s₁.heap H) := ⟨hKb, nsK hns, ⟨mb, nsK hb, hbb⟩, let ⟨mc, h1, h2⟩ := hlim; ⟨mc, nsK h1, h2⟩⟩
  have e0 : Env0 P w K mg (hidT s₁.heap H) callerA [] s₁ H := ⟨rfl, hM, fun b o e => y4f e, Nat.le_of_eq (y1D _ _), trivial, fun b hb => absurd (show b ∈ ([] : List Addr) from hb) (by simp), hok, .of_eq hg⟩
  refine codeAny_mono ((F _ hKb (nsK hns)).run callerA [] s₁ H ⟨[.ref a], []⟩ [.ref a] [.ref a] _ _ hr e0 (hbind s₁ (.ref a)) (.cons rfl .nil) (hsp H hO hS)) fun r s' h => ?_
  cases r with
  | error e => exact (hCX H e s' h).elim
  | ok fl =>
   cases fl with
   | next => exact False.elim h
   | brk => exact False.elim h
   | cont => exact False.elim h
   | ret u =>
    obtain ⟨v, H', os, bare, un, hok', r', q⟩ := h
    have q' : v = .bl true := q
    subst q'
    obtain rfl : u = Value.bool true := r'
    refine ⟨rfl, OldK.of_keep fun b o e => ?_, os, bare⟩
    cases q : H b with
    | none => exact un.keep b o e q (by intro z; exact absurd (show b ∈ ([] : List Addr) from z) (by simp)) (by simp)
    | some u =>
     rcases hO b with z | ⟨ob, xs, z⟩
     ·rw [q] at z; cases z
     ·have z2 := un.frzs b ob _ z
      obtain ⟨e1, _⟩ := hok b _ z
      obtain ⟨e2, _⟩ := hok' b _ z2
      rw [e] at e1; cases e1
      exact e2
 cases hk : K.lookup a with
 | some o =>
  -- the script is one of the module's own objects
  have e := KX a o hk
  rw [ha] at e
  cases e
  refine core (fun _ => none) (fun _ => .inl rfl) (.inr ⟨_, vs.toArray, _, hk, rfl, rfl, rfl, by rw [List.size_toArray, lenV]; exact hl, by simpa using rv⟩) (fun b u z => by have z' : (none : Option HO) = some u := z; cases z') (fun b z => absurd rfl z) fun z => absurd rfl z
 | none =>
  refine core (fun b => if b = a then some (.frz { cls := .type "list", data := .seq vs.toArray } (.lst (ns.map V.int))) else none) (fun b => ?_) (.inl (.inr ⟨{ cls := .type "list", data := .seq vs.toArray }, if_pos rfl⟩)) (fun b u z => ?_) (fun b z => ?_) fun _ => hk
  ·by_cases hb : b = a
   ·exact .inr ⟨_, _, if_pos hb⟩
   ·exact .inl (if_neg hb)
  ·by_cases hb : b = a
   ·have z' := (if_pos hb).symm.trans z
    cases z'
    subst hb
    exact ⟨ha, by rw [List.length_map]; exact hl, vs, _, rv, ha⟩
   ·have z' := (if_neg hb).symm.trans z
    cases z'
  ·by_cases hb : b = a
   ·exact hb
   ·exact absurd (if_neg hb) z
end L2

namespace L2
open PySem PySem.Spec PyProof.Rows

theorem y3R {l : PySem.W.OpenLaw} {n k : Nat} {q : Program} {loose : List Str} {XP : (Str -> Option Value) -> Heap -> Prop} {YP : World -> Heap -> Prop} {d : DefRec} {K : Params -> PySem.W.Frag} {CX : World -> CXT} {sp : World -> Sp} {x : Str}
  (hn : l.most = some n) (hn2 : n ≤ sizeLine) (hdf : d.params.defaults = []) (hr : Room k callerA)
  (hY : ∀ (w : World) (h : Heap), YP w h -> (K w.params).In h)
  (F : ∀ (w : World) (mg : Str -> Option Value) (fa : Addr) (h : Heap), (K w.params).In h -> h.Ns mainGlobals mg -> mg d.name = some (.ref fa) ->
   ∃ fd : FuncData, (∀ (s : Shared) (u : Value), BindsTo s fd ⟨[u], []⟩ [(x, u)]) /\
    ∀ base : Heap, (K w.params).In base -> base.Ns mainGlobals mg -> FnOk l.prog w (K w.params) mg base (CX w) k fa fd [x] (sp w))
  (hsp : ∀ (w : World) (H : Hp) (a : Addr) (ns : List Int), ns.length ≤ n -> Only H -> SqL (K w.params) H a (ns.map V.int) -> sp w [.ref a] H (fun v _ => v = .bl true) fun _ _ _ => False)
  (hCX : ∀ (w : World) (H : Hp) (s : Shared) (e : Value) (s' : Shared), CX w [] H s (fun _ _ _ => False) e s' -> False) :
  PySem.W.WalkO q loose XP YP l.row.toRowW d [] (fun f vs => PySem.call f vs) := by
 refine Att.z9n hn hdf fun w s₀ s₁ mg mb fa o pm cd doc a vs ns G Y ho hd hcd hmg hobj hints hlen hg => ?_
 have KX := hY w _ Y
 obtain ⟨fd, hb, hF⟩ := F w mg fa _ KX G.T.g hmg
 exact y35 KX G.T.g G.T.b G.T.builtins G.T.nolimit hg hobj hints (Nat.le_trans hlen hn2) hr hF hb (fun H hO hS => hsp w H a ns hlen hO hS) fun H e s' => hCX w H s₁ e s'
end L2

namespace L2
open PySem PySem.Spec PyProof.Rows

def z1e (s : Stmt) (j : Nat) : Stmt := match s with
 | .ClassDef _ _ _ body _ _ _ _ _ _ _ => body.getD j (.Pass ⟨0, 0, 0, 0⟩)
 | _ => .Pass ⟨0, 0, 0, 0⟩
def z0c (s : Stmt) : Arguments := match s with
 | .FunctionDef _ a _ _ _ _ _ _ _ _ => a
 | _ => { posonlyargs := [], args := [], vararg := none, kwonlyargs := [], kw_defaults := [], kwarg := none, defaults := [] }
def z0b (s : Stmt) : List Stmt := match s with
 | .FunctionDef _ _ b _ _ _ _ _ _ _ => b
 | _ => []
def z05 (s : Stmt) : Scope := match s with
 | .FunctionDef _ _ _ _ _ _ sc _ _ _ => sc
 | _ => { kind := .function, names := [], isGenerator := false, isCoroutine := false }

abbrev CX0 : CXT := fun _ _ _ _ _ _ => False
abbrev E0 : XK := fun _ _ _ => False
theorem y33 {X : Cx} : z5O CX0 X E0 := fun _ _ _ _ _ _ _ h => h.elim

structure Fun (K : PySem.W.Frag) (x qual : Str) (st : Stmt) (f : Addr) (fd : FuncData) : Prop where
 ex : ∃ (oc : Value) (od : Option Addr) (kV doc pm : Value) (an : Option Addr) (cdv ct : Value) (osl : Array (Option Value)),
  fd = PySem.W.fnOf x qual (z0c st) (z0b st) (z05 st) .none kV doc pm an cdv ct /\ K.lookup f = some ⟨oc, od, .func fd, osl⟩ /\ PySem.W.codeIn K cdv qual = true
 kp : PySem.W.keepIn K (.ref f) = true
section
variable {P : Program} {w : World} {K : PySem.W.Frag} {mg : Str -> Option Value} {base : Heap}
theorem Fun.ok {x qual : Str} {st : Stmt} {f : Addr} {fd : FuncData} {N ps : List Str} {k : Nat} {sp : Sp} (F : Fun K x qual st f fd) (S : FnScope N ps (z05 st)) (len : ∀ vs H Q E, sp vs H Q E -> vs.length = ps.length)
  (hbody : ∀ (cdv : Value) (A : Around) (outer : List Env) (s : Shared) (H : Hp) (vs : List V) (Q : VK) (E : XK), Room k (A.deeper (envOfC qual (z05 st) s.heap.objs.size f cdv)) -> sp vs H Q E ->
   ∃ t, PSs (cxOf CX0 P w K mg base N qual (z05 st) f cdv A outer s H E).nox (z0b st) t /\ t { nx := fun _ H' => Q .non H', rt := Q } (z4Q N vs) H) : FnOk P w K mg base CX0 (k + 1) f fd ps sp := by
 obtain ⟨oc, od, kV, doc, pm, an, cdv, ct, osl, rfl, lk, hcd⟩ := F.ex
 refine y4H lk hcd S len fun A outer s H vs Q E hr hsp => ?_
 obtain ⟨t, h, q⟩ := hbody cdv A outer s H vs Q E hr hsp
 exact ⟨t, h.nox, q⟩
theorem Fun.binds {x qual : Str} {st : Stmt} {f : Addr} {fd : FuncData} {ps : List Str} (F : Fun K x qual st f fd)
  (h : ∀ (kV doc pm : Value) (an : Option Addr) (cdv ct : Value) (us : List Value), us.length = ps.length -> bindArgs (PySem.W.fnOf x qual (z0c st) (z0b st) (z05 st) .none kV doc pm an cdv ct) ⟨us, []⟩ = pure (ps.zip us)) : z3q K fd ps [] := by
 obtain ⟨oc, od, kV, doc, pm, an, cdv, ct, osl, rfl, lk, hcd⟩ := F.ex
 exact .all (h kV doc pm an cdv ct)
theorem z0t {x qual : Str} {st : Stmt} {f : Addr} {oc : Value} {od an : Option Addr} {osl : Array (Option Value)} {kV doc pm cdv ct : Value} (l : K.lookup f = some ⟨oc, od, .func (PySem.W.fnOf x qual (z0c st) (z0b st) (z05 st) .none kV doc pm an cdv ct), osl⟩)
  (c : PySem.W.codeIn K cdv qual = true) (k : PySem.W.keepIn K (.ref f) = true) : Fun K x qual st f (PySem.W.fnOf x qual (z0c st) (z0b st) (z05 st) .none kV doc pm an cdv ct) := ⟨⟨oc, od, kV, doc, pm, an, cdv, ct, osl, rfl, l, c⟩, k⟩
end
theorem z8X {A : Around} {k : Nat} (hr : Room k A) : A.units + 1 < cLine := Nat.lt_of_le_of_lt (Nat.add_le_add_left (by decide : 1 ≤ 64) _) hr.units
theorem z0i {n : Nat} (h : n ≤ 1000) : n < sizeLine := Nat.lt_of_le_of_lt h (by decide)

section
variable {X : Cx}
theorem pv (i : Nat) {x : Str} {pos : Pos} (hN : X.N[i]? = some x := by rfl) (hv : Vis X.env.scope x := by first | exact Or.inl rfl | exact Or.inr (Or.inl rfl) | exact Or.inr (Or.inr rfl)) (hd : (x == ("__debug__" : Str)) = false := by decide)
  (hcd : (x == ("__classdict__" : Str)) = false := by decide) : PE X (.Name x pos) (tVar i) := y4P hN hv hd hcd
end

theorem iteF {A B : Prop} (h : B) : if false = true then A else B := by
 rw [if_neg Bool.false_ne_true]
 exact h
theorem iteT {A B : Prop} (h : A) : if true = true then A else B := by
 rw [if_pos rfl]
 exact h
theorem ite2 {c A B : Prop} [Decidable c] (h1 : c -> A) (h2 : ¬ c -> B) : if c then A else B := by
 by_cases h : c
 ·rw [if_pos h]
  exact h1 h
 ·rw [if_neg h]
  exact h2 h
theorem y4D {c A B : Prop} [Decidable c] (hc : c) (h : B) : if (!decide c) = true then A else B := by
 rw [decide_eq_true hc]
 exact iteF h

def Same (H H' : Hp) : Prop := ∀ b o, H b = some o -> H' b = some o
theorem Same.refl (H : Hp) : Same H H := fun _ _ h => h
theorem Same.trans {H H1 H2 : Hp} (a : Same H H1) (b : Same H1 H2) : Same H H2 := fun c o h => b c o (a c o h)
theorem Same.free {H H' : Hp} (e : Same H H') {l : Addr} (h : H' l = Option.none) : H l = Option.none := by
 cases q : H l with
 | none => rfl
 | some o =>
  rw [e l o q] at h
  cases h
theorem Same.seq {K : PySem.W.Frag} {H H' : Hp} {a : Addr} {xs : List V} (e : Same H H') (h : SqL K H a xs) : SqL K H' a xs := by
 rcases h with (h | ⟨o, h⟩) | h
 ·exact .inl (.inl (e _ _ h))
 ·exact .inl (.inr ⟨o, e _ _ h⟩)
 ·exact .inr h

end L2

set_option maxHeartbeats 4000000
namespace L2
open PySem PySem.Spec PyProof.Rows

abbrev noE : Value -> Shared -> Prop := fun _ _ => False

theorem z9g {prog : Program} {w : World} {A : Around} {R : Result -> Shared -> Prop} {s : Shared} {elt target iter : Expr} {ifs : List Expr} {scope : Scope} {pos : Pos} {it acc : Value} {env : Env} (I : Nat -> Shared -> Prop)
  (turn : ∀ n s, I n s -> wpAny (model prog w) A (pyNext it) (fun r s1 => match r with
   | none => R (.ok .next) s1
   | some v => wpAny (model prog w) A (letOwnedTupleGo target it v) (fun _ s0 => wpAny (model prog w) A (assign target env v) (fun _ s2 =>
     wpAny (model prog w) A (forIn ifs true fun c r => if r = true then do let ok <- isTrue c env (eval c env); pure (ForInStep.yield ok) else pure (ForInStep.yield r)) (fun ok s3 =>
      if ok = true then wpAny (model prog w) A (eval elt env) (fun x s4 =>
       wpAny (model prog w) A (call (.builtin "list.append") [acc, x]) (fun _ s5 => ∃ m, m < n /\ I m s5) noE s4) noE s3
      else ∃ m, m < n /\ I m s3) noE s2) noE s0) noE s1) noE s)
  (n : Nat) (h : I n s) : codeAny (model prog w) A (.compLoop (.ListComp elt [⟨target, iter, ifs, 0⟩] scope pos) 0 it acc env) R s := by
 refine codeAny_loop rfl I (fun n s hI => ?_) n h
 show wpAny _ A ((compTurn (.ListComp elt [⟨target, iter, ifs, 0⟩] scope pos) 0 it acc env).onRaise (fun x => do noteFrame x env; theTreesLotGoes x)) _ _ s
 refine wpAny_noted ?_
 rw [compTurn_list]
 refine wpAny_bind (wpAny_standAt (wpAny_bind (wpAny_mono (turn n s hI) (fun r s1 h1 => ?_) fun _ _ z => False.elim z)))
 cases r with
 | none => exact wpAny_pure h1
 | some v =>
  refine wpAny_bind (wpAny_mono h1 (fun _ s0 h0 => ?_) fun _ _ z => False.elim z)
  refine wpAny_bind (wpAny_mono h0 (fun _ s2 h2 => wpAny_bind (wpAny_mono h2 (fun ok s3 h3 => ?_) fun _ _ z => False.elim z)) fun _ _ z => False.elim z)
  cases ok with
  | false => exact wpAny_pure ⟨rfl, h3⟩
  | true =>
   exact wpAny_bind (wpAny_bind (wpAny_mono h3 (fun x s4 h4 => wpAny_bind (wpAny_mono h4 (fun _ s5 h5 => wpAny_pure (wpAny_pure ⟨rfl, h5⟩)) fun _ _ z => False.elim z)) fun _ _ z => False.elim z))

def z6a (cells : List (Str × Addr)) : List (Str × NameKind) -> List (Str × Addr) -> Option (List (Str × Addr))
 | [], acc => some acc
 | (n, k) :: r, acc => if k == .free then (match cells.lookup n with
   | some a => z6a cells r ((n, a) :: acc)
   | none => none) else z6a cells r acc
theorem z4R {env : Env} : ∀ (names : List (Str × NameKind)) (acc cl : List (Str × Addr)), z6a env.cells names acc = some cl ->
  (forIn names acc fun (x : Str × NameKind) (cs : List (Str × Addr)) => match x with
   | (name, kind) => if (kind == NameKind.free) = true then do let c <- cellOf env name; pure (ForInStep.yield ((name, c) :: cs)) else pure (ForInStep.yield cs) : Sem (List (Str × Addr))) = pure cl
 | [], acc, cl, h => by
  have h' : acc = cl := Option.some.inj h
  subst h'
  rfl
 | (n, k) :: r, acc, cl, h => by
  rw [List.forIn_cons]
  unfold z6a at h
  by_cases hk : (k == NameKind.free) = true
  ·rw [if_pos hk] at h
   cases e : env.cells.lookup n with
   | none => rw [e] at h; cases h
   | some a =>
    rw [e] at h
    have ih := z4R r ((n, a) :: acc) cl h
    have hc : cellOf env n = pure a := by unfold cellOf; rw [e]
    dsimp only
    rw [if_pos hk, hc]
    simpa using ih
  ·rw [if_neg hk] at h
   have ih := z4R r acc cl h
   dsimp only
   rw [if_neg hk]
   simpa using ih
theorem z5h {scope : Scope} {env : Env} {cl : List (Str × Addr)} (h : z6a env.cells scope.names [] = some cl) : closureFor scope env = pure cl := by
 have q := z4R (env := env) scope.names [] cl h
 unfold closureFor
 simpa using q
theorem z6k {cells : List (Str × Addr)} : ∀ {names : List (Str × NameKind)} {acc cl : List (Str × Addr)}, z6a cells names acc = some cl ->
  (∀ x c, acc.lookup x = some c -> cells.lookup x = some c) -> ∀ x c, cl.lookup x = some c -> cells.lookup x = some c
 | [], acc, cl, h, ha, x, c, e => by
  have h' : acc = cl := Option.some.inj h
  subst h'
  exact ha x c e
 | (n, k) :: r, acc, cl, h, ha, x, c, e => by
  unfold z6a at h
  by_cases hk : (k == NameKind.free) = true
  ·rw [if_pos hk] at h
   cases q : cells.lookup n with
   | none => rw [q] at h; cases h
   | some a =>
    rw [q] at h
    refine z6k (names := r) (acc := (n, a) :: acc) h (fun y d z => ?_) x c e
    rw [List.lookup_cons] at z
    cases hy : y == n with
    | true =>
     rw [hy] at z
     have z' : a = d := Option.some.inj z
     rw [<- z', beq_iff_eq.mp hy]
     exact q
    | false =>
     rw [hy] at z
     exact ha y d z
  ·rw [if_neg hk] at h
   exact z6k (names := r) (acc := acc) h ha x c e
theorem z4z {cells : List (Str × Addr)} : ∀ {names : List (Str × NameKind)} {acc cl : List (Str × Addr)}, z6a cells names acc = some cl ->
  ∀ x, ((∃ c, acc.lookup x = some c) \/ (x, NameKind.free) ∈ names) -> ∃ c, cl.lookup x = some c
 | [], acc, cl, h, x, hx => by
  have h' : acc = cl := Option.some.inj h
  subst h'
  rcases hx with hx | hx
  ·exact hx
  ·cases hx
 | (n, k) :: r, acc, cl, h, x, hx => by
  unfold z6a at h
  by_cases hk : (k == NameKind.free) = true
  ·rw [if_pos hk] at h
   cases q : cells.lookup n with
   | none => rw [q] at h; cases h
   | some a =>
    rw [q] at h
    refine z4z (names := r) (acc := (n, a) :: acc) h x ?_
    rcases hx with ⟨c, hx⟩ | hx
    ·left
     rw [List.lookup_cons]
     cases hy : x == n with
     | true => exact ⟨a, rfl⟩
     | false => exact ⟨c, hx⟩
    ·rcases List.mem_cons.mp hx with e | e
     ·left
      have e1 : x = n := congrArg Prod.fst e
      rw [List.lookup_cons, e1, beq_self_eq_true]
      exact ⟨a, rfl⟩
     ·exact .inr e
  ·rw [if_neg hk] at h
   refine z4z (names := r) (acc := acc) h x ?_
   rcases hx with hx | hx
   ·exact .inl hx
   ·rcases List.mem_cons.mp hx with e | e
    ·have e2 : NameKind.free = k := congrArg Prod.snd e
     exact absurd (by rw [<- e2]; rfl) hk
    ·exact .inr e
theorem z6c {α β : Type} [BEq α] [LawfulBEq α] : ∀ {l : List (α × β)} {x : α} {b : β}, l.lookup x = some b -> (x, b) ∈ l
 | [], x, b, h => by cases h
 | (a, c) :: r, x, b, h => by
  rw [List.lookup_cons] at h
  cases hx : x == a with
  | true =>
   rw [hx] at h
   have h' : c = b := Option.some.inj h
   rw [beq_iff_eq.mp hx, h']
   exact List.mem_cons_self
  | false =>
   rw [hx] at h
   exact List.mem_cons_of_mem _ (z6c h)
theorem z5g {scope : Scope} {env : Env} (hcell : ∀ y ∈ scope.names, y.2 ≠ .cell) {x : Str} (h : (relabel scope env).names.lookup x = some .cell \/ (relabel scope env).names.lookup x = some .free) : (x, NameKind.free) ∈ scope.names := by
 have go : ∀ k, (relabel scope env).names.lookup x = some k -> (k = .cell \/ k = .free) -> (x, NameKind.free) ∈ scope.names := fun k h hk => by
  have m := z6c h
  obtain ⟨⟨n, k'⟩, hm, e⟩ := List.mem_map.mp m
  dsimp only at e
  by_cases c : (k' == NameKind.free && env.scope.kind == .function && env.kindOf n == some .cell) = true
  ·rw [if_pos c] at e
   have e1 : n = x := congrArg Prod.fst e
   have c1 : (k' == NameKind.free) = true := by
    rw [Bool.and_eq_true, Bool.and_eq_true] at c
    exact c.1.1
   have c2 : k' = .free := eq_of_beq c1
   rw [<- e1, <- c2]
   exact hm
  ·rw [if_neg c] at e
   have e1 : n = x := congrArg Prod.fst e
   have e2 : k' = k := congrArg Prod.snd e
   rcases hk with z | z
   ·exact absurd (e2.trans z) (hcell _ hm)
   ·rw [<- e1, <- z, <- e2]
    exact hm
 rcases h with h | h
 ·exact go _ h (.inl rfl)
 ·exact go _ h (.inr rfl)

def z3w (X : Cx) (scope : Scope) (cl : List (Str × Addr)) (N : List Str) (C : Addr) (s3 : Shared) (H1 : Hp) (ex : List Addr) (pins : List (Addr × Obj)) : Cx :=
 { X with N := N, s₀ := s3, H₀ := H1, env := compEnvC scope cl C X.env, outer := X.stack, ex := ex, fn := fun _ => false, pn := X.pn ++ pins, xe := noE }
def z6m (own : Nat) (ix : List Nat) (σ : St) : St := List.replicate own none ++ ix.map fun i => (σ[i]?).join

structure CompScope (X : Cx) (scope : Scope) (cl : List (Str × Addr)) (own caps : List Str) (ix : List Nat) : Prop where
 clos : z6a X.env.cells scope.names [] = some cl
 cell : ∀ y ∈ scope.names, y.2 ≠ .cell
 kind : scope.kind = .function
 names : ∀ y ∈ scope.names, y.2 = .local -> scope.names.lookup y.1 = some .local
 capn : caps.length = ix.length
 cap : ∀ (j i : Nat) (x : Str), caps[j]? = some x -> ix[j]? = some i -> X.N[i]? = some x /\ X.env.kindOf x ≠ some .local /\ Vis X.env.scope x /\ ((relabel scope X.env).names.lookup x = some .cell \/ (relabel scope X.env).names.lookup x = some .free)

theorem Inv.track {X : Cx} {pins : List (Addr × Obj)} {σ : St} {H : Hp} {s : Shared} {D : Addr} {o : HO} (I : Inv X pins σ H s) (f : FpOk X pins H D) (new : z1B X.prog X.w (upd H D o) s.heap D o) : Inv X pins σ (upd H D o) s := by
 obtain ⟨f0, f1, f2, f3, f4, f5⟩ := f
 have q := I.step (H' := upd H D o) (h' := s.heap) (g' := s.gens) (t' := s.toks) (d' := s.drawn) (ch := [D]) (fun b hb => by
   have e : b = D := by simpa using hb
   subst e
   exact ⟨f3, f1, f4, f5⟩)
  (fun _ _ _ _ _ e _ => e) (fun b ob _ _ _ e _ => ⟨ob.slots, e⟩) (fun b ob hb _ n => by
   have e : b ≠ D := fun z => hb (by simp [z])
   rw [z0g e]; exact n)
  (fun b ob _ e => ⟨ob, e⟩) (fun b xs e => by rw [z0g (z0p e f0)]; exact e) (fun b ob u e => by rw [z0g (z0p e f0)]; exact e)
  (fun b ps e => ⟨#[], by rw [z0g (z0p e f0), e]; simp⟩) (fun _ hm => hm) (fun b u e => by
   by_cases hb : b = D
   ·subst hb
    rw [z02] at e
    cases e
    exact new
   ·rw [z0g hb] at e
    exact (I.hok b u e).stay (fun _ _ _ q => q) (fun c q => by rw [z0g (z0p q f0)]; exact q) fun c xs q => by rw [z0g (z0p q f0)]; exact q) I.bare
 exact q

section
variable {X : Cx} {scope : Scope} {cl : List (Str × Addr)} {own caps : List Str} {ix : List Nat}

theorem CompScope.look (S : CompScope X scope cl own caps ix) : ∀ x c, cl.lookup x = some c -> X.env.cells.lookup x = some c :=
 z6k S.clos fun x c e => by cases e

theorem y2W {pins : List (Addr × Obj)} {σ : St} {H1 : Hp} {s3 : Shared} {h1 : Heap} {ex : List Addr} {m : Str -> Option Value} {tk : Nat} (S : CompScope X scope cl own caps ix) (I : Inv X pins σ H1 s3)
  (hex : ∀ b ∈ ex, b < s3.heap.objs.size /\ b ≠ X.env.locals /\ b ∉ X.fs /\ (b ∈ X.ex \/ X.s₀.heap.objs.size ≤ b) /\ ∀ x c, X.env.cells.lookup x = some c -> c ≠ b)
  (hn : h1.Ns s3.heap.objs.size m) (hk : ∀ b o, s3.heap.get? b = some o -> h1.get? b = some o) :
  Inv (z3w X scope cl (own ++ caps) s3.heap.objs.size s3 H1 ex pins) [] (z6m own.length ix σ) H1 { s3 with heap := h1, toks := tk } := by
 have stkN : ∀ b ∈ frs X.stack, b < s3.heap.objs.size := fun b hb => by
  obtain ⟨_, o, ho, _⟩ := I.stack.mem hb
  exact Heap.lt_size ho
 have lt0 : ∀ b o, X.base.get? b = some o -> b < X.s₀.heap.objs.size := fun b o e => Heap.lt_size (I.ok.bs b o e).1
 refine ⟨⟨I.ok.mod, S.kind, I.ok.glob, I.ok.blt, Nat.le_refl _, ?_, ?_, ?_, I.ok.hd, I.ok.frames, .inl rfl, ?_, I.bs, Nat.le_trans I.ok.bsz I.sz, ?_, ?_, I.stack, I.stkFree⟩, rfl, I.bare, ?_, ?_, ?_, ?_, ?_, ?_, ?_, ?_⟩
 ·intro x y c e1 e2
  exact I.ok.inj x y c (S.look x c e1) (S.look y c e2)
 ·intro x hx
  exact z4z S.clos x (.inr (z5g S.cell hx))
 ·intro x c hf
  exact absurd hf Bool.false_ne_true
 ·intro b hb
  obtain ⟨l, a1, a2, a3, a4⟩ := hex b hb
  exact ⟨Nat.ne_of_lt l, fun x c e => a4 x c (S.look x c e)⟩
 ·intro b o e hb
  obtain ⟨l, a1, a2, a3, a4⟩ := hex b hb
  rcases a3 with z | z
  ·exact I.ok.noex b o e z
  ·exact absurd (Nat.lt_of_lt_of_le (lt0 b o e) z) (Nat.lt_irrefl _)
 ·intro b hb hf
  obtain ⟨l, a1, a2, a3, a4⟩ := hex b hb
  rcases List.mem_cons.mp (I.stkSub b hf) with z | z
  ·exact a1 z
  ·exact a2 z
 ·exact Un.kept hk
 ·refine ⟨m, hn, fun i x v e1 e2 e3 => ?_⟩
  have e2' : (List.replicate own.length none ++ ix.map fun i => (σ[i]?).join : St)[i]? = some (some v) := e2
  have e1' : (own ++ caps)[i]? = some x := e1
  by_cases hi : i < own.length
  ·rw [List.getElem?_append_left (by simpa using hi), List.getElem?_replicate, if_pos hi] at e2'
   cases e2'
  ·have hi' : own.length ≤ i := Nat.le_of_not_lt hi
   rw [List.getElem?_append_right (by simpa using hi'), List.length_replicate, List.getElem?_map] at e2'
   rw [List.getElem?_append_right hi'] at e1'
   cases q : ix[i - own.length]? with
   | none => rw [q] at e2'; cases e2'
   | some k =>
    rw [q] at e2'
    have e2'' : (σ[k]?).join = some v := Option.some.inj e2'
    have e4 : σ[k]? = some (some v) := by
     cases z : σ[k]? with
     | none => rw [z] at e2''; cases e2''
     | some u => rw [z] at e2''; rw [show u = some v from e2'']
    obtain ⟨n1, n2, n3, n4⟩ := S.cap (i - own.length) k x e1' q
    obtain ⟨mX, _, hl⟩ := I.loc
    obtain ⟨u, r, l⟩ := hl k x v n1 e4 n3
    refine ⟨u, r, ?_⟩
    rcases l with ⟨kl, _⟩ | ⟨_, c, ec, ic⟩
    ·exact absurd kl n2
    ·obtain ⟨c', ec'⟩ := z4z S.clos x (.inr (z5g S.cell n4))
     have e5 := S.look x c' ec'
     rw [ec] at e5
     cases e5
     exact .inr ⟨n4, c, ec', ic.keeps hk⟩
 ·intro x c e
  obtain ⟨v, q⟩ := I.cell x c (S.look x c e)
  exact ⟨v, q.keeps hk⟩
 ·exact I.hok.fresh (Nat.le_refl _)
 ·intro x c e
  exact I.freeC x c (S.look x c e)
 ·intro p hp
  have hp' : p ∈ X.pn ++ pins := by
   have : p ∈ (X.pn ++ pins) ++ [] := hp
   rwa [List.append_nil] at this
  obtain ⟨e, n, ne, nf, d⟩ := I.pin p hp'
  refine ⟨hk _ _ e, n, Nat.ne_of_lt (Heap.lt_size e), fun z => ?_, d⟩
  rcases List.mem_cons.mp (I.stkSub p.1 z) with z | z
  ·exact ne z
  ·exact nf z
 ·exact I.hok.kept hk
 ·show (List.replicate own.length none ++ ix.map fun i => (σ[i]?).join : St).length = (own ++ caps).length
  rw [List.length_append, List.length_replicate, List.length_map, List.length_append, S.capn]

def PTs (X : Cx) (ifs : List Expr) (t : TT) : Prop :=
 ∀ (pins : List (Addr × Obj)) (s : Shared) (σ : St) (H : Hp) (Q : Bool -> Hp -> Prop), Inv X pins σ H s -> t σ H Q ->
  wpAny (model X.prog X.w) X.A (forIn ifs true fun c r => if r = true then do let ok <- isTrue c X.env (eval c X.env); pure (ForInStep.yield ok) else pure (ForInStep.yield r)) (TP X pins σ Q) X.xe s
def tYes : TT := fun _ H Q => Q true H
theorem z2D : PTs X [] tYes := fun _ _ _ H _ I h => wpAny_tests_nil ⟨H, I, h⟩
theorem z2W {c : Expr} {t : TT} (hc : PT X c t) : PTs X [c] t := fun pins s σ H Q I h => wpAny_tests_one (hc pins s σ H Q I h)

def z4u (n : Nat) (σ σ' : St) : Prop := σ'.length = σ.length /\ ∀ i, n ≤ i -> σ'[i]? = σ[i]?
def OwnG (n : Nat) (g : TG) : Prop := ∀ v σ H Q, g v σ H Q -> g v σ H fun σ' H' => Q σ' H' /\ z4u n σ σ'
def y1J (n : Nat) (g : TGs) : Prop := ∀ vs σ H Q, g vs σ H Q -> g vs σ H fun σ' H' => Q σ' H' /\ z4u n σ σ'
theorem z4u.refl (n : Nat) (σ : St) : z4u n σ σ := ⟨rfl, fun _ _ => rfl⟩
theorem z4u.trans {n : Nat} {a b c : St} (x : z4u n a b) (y : z4u n b c) : z4u n a c := ⟨y.1.trans x.1, fun i h => (y.2 i h).trans (x.2 i h)⟩
theorem z0C {n i : Nat} (h : i < n) : OwnG n (y07 i) := fun v σ H Q q => ⟨q, by simp, fun j hj => List.getElem?_set_ne (by omega)⟩
theorem z5X {n : Nat} : y1J n gNil := fun vs σ H Q q => ⟨q.1, q.2, z4u.refl n σ⟩
def z8B (g : TG) : Prop := ∀ v σ H (Q Q' : St -> Hp -> Prop), (∀ σ' H', Q σ' H' -> Q' σ' H') -> g v σ H Q -> g v σ H Q'
def z73 (g : TGs) : Prop := ∀ vs σ H (Q Q' : St -> Hp -> Prop), (∀ σ' H', Q σ' H' -> Q' σ' H') -> g vs σ H Q -> g vs σ H Q'
theorem z0e {i : Nat} : z8B (y07 i) := fun _ _ _ _ _ f q => f _ _ q
theorem z1i : z73 gNil := fun _ _ _ _ _ f q => ⟨q.1, f _ _ q.2⟩
theorem z0W {t : TG} {u : TGs} (a : z8B t) (b : z73 u) : z73 (y3y t u) := fun vs σ H Q Q' f q => by
 obtain ⟨v, r, e, q⟩ := q
 exact ⟨v, r, e, a _ _ _ _ _ (fun σ' H' z => b _ _ _ _ _ f z) q⟩
theorem z5C {K : PySem.W.Frag} {n : Nat} {t : TGs} (a : z73 t) : z8B (gTup K n t) := fun v σ H Q Q' f q => by
 obtain ⟨p, xs, e, h1, h2, q⟩ := q
 exact ⟨p, xs, e, h1, h2, a _ _ _ _ _ f q⟩
theorem z27 {n : Nat} {t : TG} {u : TGs} (a : OwnG n t) (m : z8B t) (b : y1J n u) (m' : z73 u) : y1J n (y3y t u) := fun vs σ H Q q => by
 obtain ⟨v, r, e, q⟩ := q
 refine ⟨v, r, e, m _ _ _ _ _ (fun σ' H' z => ?_) (a _ _ _ _ q)⟩
 exact m' _ _ _ _ _ (fun σ2 H2 y => ⟨y.1, z.2.trans y.2⟩) (b _ _ _ _ z.1)
theorem z7y {K : PySem.W.Frag} {n k : Nat} {t : TGs} (a : y1J n t) : OwnG n (gTup K k t) := fun v σ H Q q => by
 obtain ⟨p, xs, e, h1, h2, q⟩ := q
 exact ⟨p, xs, e, h1, h2, a _ _ _ _ q⟩

def z1D (g : TG) (tc : TT) (te : TE) (σ0 : St) (x : V) (H : Hp) (ys : List V) (N : List V -> Hp -> Prop) : Prop :=
 g x σ0 H fun σ2 H2 => tc σ2 H2 fun b H3 => if b = true then te σ2 H3 fun y H4 => N (ys ++ [y]) H4 else N ys H3
def y4Q (own : Nat) (ix : List Nat) (wi : TI) (g : TG) (tc : TT) (te : TE) (σ : St) (H : Hp) (F : List V -> Hp -> Prop) : Prop :=
 wi σ H fun J H1 => ∃ W : Nat -> Nat -> List V -> Hp -> Prop, (∃ m, W 0 m [] H1) /\ ∀ i m ys H, W i m ys H ->
  (J.stop i H /\ F ys H) \/ (J.go i H /\ ys.length < sizeLine /\ ∃ N : List V -> Hp -> Prop, (∀ zs H', N zs H' -> ∃ m', m' < m /\ W (i + 1) m' zs H') /\
   ∀ x H', J.yld i H x H' -> z1D g tc te (z6m own ix σ) x H' ys N)

theorem z78 {elt iter tg : Expr} {ifs : List Expr} {pos : Pos} {pins : List (Addr × Obj)} {σ : St} {s2 : Shared} {itv : Value} {g : TG} {tc : TT} {te : TE} {F : List V -> Hp -> Prop} {RR : Value -> Addr -> Result -> Shared -> Prop} {E : Value -> Shared -> Prop}
  (S : CompScope X scope cl own caps ix) (hc : X.calm = true)
  (hg : ∀ C s3 H1 ex pn, PG (z3w X scope cl (own ++ caps) C s3 H1 ex pn) tg g) (og : OwnG own.length g) (mg : z8B g)
  (ht : ∀ C s3 H1 ex pn, PTs (z3w X scope cl (own ++ caps) C s3 H1 ex pn) ifs tc)
  (he : ∀ C s3 H1 ex pn, PE (z3w X scope cl (own ++ caps) C s3 H1 ex pn) elt te)
  (h : PIE X pins σ tg (fun J H1 => ∃ W : Nat -> Nat -> List V -> Hp -> Prop, (∃ m, W 0 m [] H1) /\ ∀ i m ys H, W i m ys H ->
   (J.stop i H /\ F ys H) \/ (J.go i H /\ ys.length < sizeLine /\ ∃ N : List V -> Hp -> Prop, (∀ zs H', N zs H' -> ∃ m', m' < m /\ W (i + 1) m' zs H') /\
    ∀ x H', J.yld i H x H' -> z1D g tc te (z6m own.length ix σ) x H' ys N)) itv s2)
  (hRR : ∀ D C m H' ys s', Inv X pins σ (upd H' D (.lst ys)) s' -> FpOk X pins (upd H' D (.lst ys)) C -> s'.heap.Ns C m -> H' D = none -> F ys H' -> RR (.ref D) C (.ok .next) s') :
  wpAny (model X.prog X.w) X.A (newList []) (fun acc s3 => wpAny (model X.prog X.w) X.A (newFunctionEnv scope X.env.globals cl [] X.env.qual none .none (some X.env)) (fun cenv s4 =>
   codeAny (model X.prog X.w) X.A (.compStart (.ListComp elt [⟨tg, iter, ifs, 0⟩] scope pos) 0 itv acc { cenv with scope := relabel scope X.env }) (RR acc cenv.locals) s4) E s3) E s2 := by
 obtain ⟨it, fp, tn, J, H1, e, I2, T, st2, f2, W, ⟨m0, w0⟩, turn⟩ := h
 subst e
 refine wpAny_newObj_type (wpAny_newFunctionEnv S.cell (by intro y hy; simp at hy) (fun h1 hns1 hsb1 => ?_) S.kind)
 dsimp only at hns1 hsb1 ⊢
 generalize hH2 : s2.heap.push { cls := .type "list", dict := none, data := .seq ([] : List Value).toArray } = h2 at hns1 hsb1 ⊢
 have keep2 : ∀ b o, s2.heap.get? b = some o -> h2.get? b = some o := fun b o e => hH2 ▸ Heap.get?_push_of_some _ e
 have sz2 : h2.objs.size = s2.heap.objs.size + 1 := by rw [<- hH2, Heap.size_push]
 have hDC : s2.heap.objs.size ≠ h2.objs.size := by omega
 have keep1 : ∀ b o, h2.get? b = some o -> h1.get? b = some o := fun b o e => hsb1.extBut b o (Nat.ne_of_lt (Heap.lt_size e)) (Heap.get?_push_of_some _ e)
 have getD2 : h2.get? s2.heap.objs.size = some { cls := .type "list", dict := none, data := .seq ([] : List Value).toArray } := hH2 ▸ Heap.get?_push_size _ rfl
 have I3 : Inv X pins σ H1 { s2 with heap := h2, toks := s2.toks } := I2.kept keep2
 have fD : FpOk X pins H1 s2.heap.objs.size := I2.fpOk (Nat.le_refl _) I2.fresh
 have fDs : ∀ {H' : Hp}, H' s2.heap.objs.size = none -> FpOk X pins H' s2.heap.objs.size := fun hn => ⟨hn, fD.2⟩
 have fpLt : ∀ b ∈ fp, b < s2.heap.objs.size := fun b hb => by
  obtain ⟨o, e, _⟩ := T.obj _ _ st2 b hb
  exact Heap.lt_size e
 have hDfp : s2.heap.objs.size ∉ fp := fun z => Nat.lt_irrefl _ (fpLt _ z)
 have exOk : ∀ b ∈ s2.heap.objs.size :: fp, b < h2.objs.size /\ b ≠ X.env.locals /\ b ∉ X.fs /\ (b ∈ X.ex \/ X.s₀.heap.objs.size ≤ b) /\ ∀ x c, X.env.cells.lookup x = some c -> c ≠ b := fun b hb => by
  rcases List.mem_cons.mp hb with rfl | hb
  ·exact ⟨by omega, fD.2.1, fD.2.2.1, fD.2.2.2.1, fD.2.2.2.2.1⟩
  ·have := fpLt b hb
   obtain ⟨_, a1, a2, a3, a4, _⟩ := f2 b hb
   exact ⟨by rw [sz2]; exact Nat.lt_succ_of_lt this, a1, a2, a3, a4⟩
 have I4 : Inv (z3w X scope cl (own ++ caps) h2.objs.size { s2 with heap := h2, toks := s2.toks } H1 (s2.heap.objs.size :: fp) pins) [] (z6m own.length ix σ) H1 { s2 with heap := h1, toks := s2.toks + ([] : List (Str × Value)).length } :=
  y2W S I3 exOk hns1 keep1
 generalize hX : z3w X scope cl (own ++ caps) h2.objs.size { s2 with heap := h2, toks := s2.toks } H1 (s2.heap.objs.size :: fp) pins = Y at I4
 have HG : PG Y tg g := by rw [<- hX]; exact hg _ _ _ _ _
 have HT : PTs Y ifs tc := by rw [<- hX]; exact ht _ _ _ _ _
 have HE : PE Y elt te := by rw [<- hX]; exact he _ _ _ _ _
 have eP : Y.prog = X.prog := by rw [<- hX]; rfl
 have eW : Y.w = X.w := by rw [<- hX]; rfl
 have eK : Y.K = X.K := by rw [<- hX]; rfl
 have eA : Y.A = X.A := by rw [<- hX]; rfl
 have eC : Y.calm = true := by rw [<- hX]; exact hc
 have eE : Y.xe = noE := by rw [<- hX]; rfl
 have eEnv : Y.env = compEnvC scope cl h2.objs.size X.env := by rw [<- hX]; rfl
 have eEx : Y.ex = s2.heap.objs.size :: fp := by rw [<- hX]; rfl
 have ePn : Y.pn = X.pn ++ pins := by rw [<- hX]; rfl
 have eFs : Y.fs = frs X.stack := by rw [<- hX]; rfl
 have eCells : ∀ x c, Y.env.cells.lookup x = some c -> X.env.cells.lookup x = some c := fun x c e => by
  rw [eEnv] at e
  exact S.look x c e
 have eLoc : Y.env.locals = h2.objs.size := by rw [eEnv]; rfl
 -- the block's own records may turn
 have fY : ∀ {pl : List (Addr × Obj)} {H' : Hp} {b : Addr}, b ∈ s2.heap.objs.size :: fp -> H' b = none -> (∀ p ∈ pl, p.1 ≠ b) -> FpOk Y pl H' b := fun {pl H' b} hb hn hpl => by
  obtain ⟨l, a1, a2, a3, a4⟩ := exOk b hb
  refine ⟨hn, by rw [eLoc]; exact Nat.ne_of_lt l, fun z => ?_, .inl (by rw [eEx]; exact hb), fun x c e => a4 x c (eCells x c e), fun p hp => ?_⟩
  ·rw [eFs] at z
   rcases List.mem_cons.mp (I3.stkSub b z) with z | z
   ·exact a1 z
   ·exact a2 z
  ·rcases List.mem_append.mp hp with z | z
   ·rw [ePn] at z
    rcases List.mem_cons.mp hb with rfl | hb
    ·exact fD.2.2.2.2.2 p z
    ·exact (f2 b hb).2.2.2.2.2 p z
   ·exact hpl p z
 let IV : Nat -> Shared -> Prop := fun n s' => ∃ i ys its c H', Inv Y [] (z6m own.length ix σ) H' s' /\ tn i s'.heap /\ (∀ b ∈ fp, H' b = none) /\ H' s2.heap.objs.size = none /\ Vals ys its /\
  s'.heap.get? s2.heap.objs.size = some { cls := .type "list", data := .seq its.toArray c } /\ ys.length ≤ sizeLine /\ W i n ys H'
 have loop : ∀ s3 : Shared, s3 = { s2 with heap := h1, toks := s2.toks + ([] : List (Str × Value)).length } ->
   codeAny (model X.prog X.w) X.A (.compLoop (.ListComp elt [⟨tg, iter, ifs, 0⟩] scope pos) 0 (.ref it) (.ref s2.heap.objs.size) (compEnvC scope cl h2.objs.size X.env)) (RR (.ref s2.heap.objs.size) h2.objs.size) s3 := by
  rintro s3 rfl
  refine z9g IV ?_ m0 ⟨0, [], [], _, H1, I4, T.keep _ _ _ st2 fun b _ o e => keep1 b o (keep2 b o e), fun b hb => (f2 b hb).1, I2.fresh, .nil, keep1 _ _ getD2, Nat.zero_le _, w0⟩
  rintro n s5 ⟨i, ys, its, c, H5, I5, st5, fr5, nD5, v5, gD5, z5, w5⟩
  have I5p : Inv Y [(s2.heap.objs.size, { cls := .type "list", data := .seq its.toArray c })] (z6m own.length ix σ) H5 s5 := I5.pins_of fun p hp => by
   have e : p = (s2.heap.objs.size, { cls := .type "list", data := .seq its.toArray c }) := by simpa using hp
   subst e
   obtain ⟨_, b1, b2, _⟩ := fY (pl := []) (H' := H5) (b := s2.heap.objs.size) List.mem_cons_self nD5 (fun p hp => nomatch hp)
   exact ⟨gD5, nD5, b1, b2, fun v z => by cases z⟩
  have fps : ∀ {H' : Hp}, (∀ b ∈ fp, H' b = none) -> ∀ b ∈ fp, FpOk Y [(s2.heap.objs.size, { cls := .type "list", data := .seq its.toArray c })] H' b := fun hn b hb =>
   fY (List.mem_cons_of_mem _ hb) (hn b hb) fun p hp => by
    have e : p = (s2.heap.objs.size, { cls := .type "list", data := .seq its.toArray c }) := by simpa using hp
    subst e
    exact fun z => hDfp (by have z' : s2.heap.objs.size = b := z; rw [z']; exact hb)
  rcases turn i n ys H5 w5 with ⟨stop, fin⟩ | ⟨go, hlen, N, hN, step⟩
  ·have q := T.done Y eP eW eK eC i _ s5 _ H5 noE I5p (fps fr5) st5 stop
   rw [eA] at q
   refine thn q fun r s6 ⟨hr, I6⟩ => ?_
   subst hr
   have gD6 := (I6.pin (s2.heap.objs.size, { cls := .type "list", data := .seq its.toArray c }) (List.mem_append_right _ (by simp))).1
   have u6 : Un (frs X.stack) (s2.heap.objs.size :: fp) H1 H5 h2 s6.heap := by
    have := I6.base
    rw [eFs, eEx] at this
    rw [<- hX] at this
    exact this
   have os6 : s6.os = s2.os := by
    have := I6.os
    rw [<- hX] at this
    exact this
   have hok6 : HOk X.prog X.w H5 s6.heap := by
    have := I6.hok
    rw [eP, eW] at this
    exact this
   have J6 : Inv X pins σ H5 s6 := I3.call' (s' := s6) os6 u6 hok6 I6.bare fun b hb => by
    obtain ⟨l, a1, a2, a3, a4⟩ := exOk b hb
    refine ⟨a3, a1, a4, ?_⟩
    rcases List.mem_cons.mp hb with rfl | hb
    ·exact fD.2.2.2.2.2
    ·exact (f2 b hb).2.2.2.2.2
   have J7 : Inv X pins σ (upd H5 s2.heap.objs.size (.lst ys)) s6 := J6.track (fDs nD5) ⟨z5, its, c, v5, gD6⟩
   obtain ⟨mC, hC, _⟩ := I6.loc
   rw [eLoc] at hC
   have nC : H5 h2.objs.size = none := by
    have := I6.free
    rw [eLoc] at this
    exact this
   refine hRR _ _ mC H5 ys s6 J7 (I3.fpOk (Nat.le_refl _) ?_) hC nD5 fin
   show upd H5 s2.heap.objs.size (.lst ys) h2.objs.size = none
   rw [z0g (Ne.symm hDC)]
   exact nC
  ·have q := T.item Y eP eW eK eC i _ s5 _ H5 noE I5p (fps fr5) st5 go
   rw [eA] at q
   refine thn q fun r s6 ⟨u, hr, h6⟩ => ?_
   subst hr
   refine thn h6 fun _ s7 ⟨x, H7, I7, r7, y7, st7, fr7⟩ => ?_
   have I7p := I7.pinned (fps fr7) (T.obj _ _ st7)
   have st := og _ _ _ _ (step x H7 y7)
   have q2 := HG _ s7 _ H7 x u _ I7p r7 st
   rw [eE, eP, eW, eA, eEnv] at q2
   refine thn q2 fun _ s8 ⟨σ8, H8, I8, q8, fr8⟩ => ?_
   have q3 := HT _ s8 σ8 H8 _ I8 q8
   rw [eE, eP, eW, eA, eEnv] at q3
   refine thn q3 fun ok s9 ⟨H9, I9, q9⟩ => ?_
   -- what every end of the turn has
   have back : ∀ {H' : Hp} {s' : Shared}, Inv Y ([(s2.heap.objs.size, ({ cls := .type "list", data := .seq its.toArray c } : Obj))] ++ z8I fp s7.heap) σ8 H' s' ->
     Inv Y [] (z6m own.length ix σ) H' s' /\ tn (i + 1) s'.heap /\ (∀ b ∈ fp, H' b = none) /\ H' s2.heap.objs.size = none /\ s'.heap.get? s2.heap.objs.size = some { cls := .type "list", data := .seq its.toArray c } := fun {H' s'} I' => by
    have pD := I'.pin (s2.heap.objs.size, { cls := .type "list", data := .seq its.toArray c }) (List.mem_append_right _ (List.mem_append_left _ (by simp)))
    refine ⟨(I'.pins_of (pins' := []) fun p hp => nomatch hp).weak fr8.1.symm fun j v e => ?_, T.keep _ _ _ st7 fun b hb o e => (I'.pin (b, o) (List.mem_append_right _ (List.mem_append_right _ (z3S hb e)))).1, fun b hb => ?_, pD.2.1, pD.1⟩
    ·by_cases hj : j < own.length
     ·have e' : (List.replicate own.length none ++ ix.map fun i => (σ[i]?).join : St)[j]? = some (some v) := e
      rw [List.getElem?_append_left (by simpa using hj), List.getElem?_replicate, if_pos hj] at e'
      cases e'
     ·rw [fr8.2 j (Nat.le_of_not_lt hj)]
      exact e
    ·obtain ⟨o, e, d⟩ := T.obj _ _ st7 b hb
     exact (I'.pin (b, o) (List.mem_append_right _ (List.mem_append_right _ (z3S hb e)))).2.1
   cases ok with
   | false =>
    obtain ⟨m', hm, w9⟩ := hN _ _ (show N ys H9 from q9)
    obtain ⟨b1, b2, b3, b4, b5⟩ := back I9
    exact ⟨m', hm, i + 1, ys, its, c, H9, b1, b2, b3, b4, v5, b5, z5, w9⟩
   | true =>
    have q9' : te σ8 H9 fun y H4 => N (ys ++ [y]) H4 := q9
    have q4 := HE _ s9 σ8 H9 _ I9 q9'
    rw [eE, eP, eW, eA, eEnv] at q4
    refine thn q4 fun yv s10 ⟨y, H10, I10, r10, n10⟩ => ?_
    obtain ⟨b1, b2, b3, b4, b5⟩ := back I10
    obtain ⟨m', hm, w10⟩ := hN _ _ n10
    have hl := v5.length
    refine call_meets PySem.F.slot_list_append ⟨_, b5, rfl⟩ PySem.F.entry_list_append (PySem.F.args_list_append_2 _ _) (PySem.list_append s2.heap.objs.size its.toArray c yv (by rw [List.size_toArray]; omega)) ⟨b5, ?_⟩
    have q5 := PySem.IsL.update b5 (fun a => a.push yv)
    have e5 : its.toArray.push yv = (its ++ [yv]).toArray := by simp
    rw [e5] at q5
    have k5 : ∀ b o, b ≠ s2.heap.objs.size -> s10.heap.get? b = some o -> (s10.heap.update s2.heap.objs.size (Obj.mapSeq fun a => a.push yv)).get? b = some o := fun b o hb e =>
     (Heap.get?_update_other s10.heap (Obj.mapSeq fun a => a.push yv) (Ne.symm hb)).trans e
    obtain ⟨f0, f1, f2', f3, f4, f5⟩ := fY (pl := []) (H' := H10) (b := s2.heap.objs.size) List.mem_cons_self b4 (fun p hp => nomatch hp)
    have b1' := b1.turned (t' := s10.toks) k5 f0 f1 f3 f4 f5
    refine ⟨m', hm, i + 1, ys ++ [y], its ++ [yv], _, H10, b1', T.keep _ _ _ b2 fun b hb o e => k5 b o (fun z => hDfp (by rw [<- z]; exact hb)) e, b3, b4, v5.append (.cons r10 .nil), q5, ?_, w10⟩
    ·rw [List.length_append, List.length_singleton]
     omega
 exact codeAny_compStart_list (loop _ rfl) (T.self _ 0 _ _ _ (T.keep _ _ _ st2 fun b _ o e => keep1 b o (keep2 b o e)) (loop _ rfl))

def y50 (own : Nat) (ix : List Nat) (wi : TI) (g : TG) (tc : TT) (te : TE) : TE := fun σ H Q => y4Q own ix wi g tc te σ H fun ys H' => ∀ D, H' D = none -> Q (.ref D) (upd H' D (.lst ys))
theorem z1F {elt iter tg : Expr} {ifs : List Expr} {pos : Pos} {wi : TI} {g : TG} {tc : TT} {te : TE} (own caps : List Str) (ix : List Nat)
  (hc : X.calm = true) (S : CompScope X scope cl own caps ix) (hi : PI X tg iter wi)
  (hg : ∀ C s3 H1 ex pn, PG (z3w X scope cl (own ++ caps) C s3 H1 ex pn) tg g) (og : OwnG own.length g) (mg : z8B g)
  (ht : ∀ C s3 H1 ex pn, PTs (z3w X scope cl (own ++ caps) C s3 H1 ex pn) ifs tc)
  (he : ∀ C s3 H1 ex pn, PE (z3w X scope cl (own ++ caps) C s3 H1 ex pn) elt te)
  (hs : ∀ x, foldedSetIterable iter X.env x = pure x := by intro _; rfl) :
  PE X (.ListComp elt [⟨tg, iter, ifs, 0⟩] scope pos) (y50 own.length ix wi g tc te) := by
 intro pins s σ H Q I h
 rw [eval_ListComp]
 refine wpAny_comprehension_free (use := none) rfl hs (z5h S.clos) S.kind S.names (thn (hi pins s σ H _ I h) fun v s1 h1 => thn h1 fun itv s2 h2 => ?_)
 refine z78 (RR := fun acc C => compPost (model X.prog X.w) X.A X.xe none (EP X pins σ Q) acc C) S hc hg og mg ht he h2 ?_
 intro D C m H' ys s' I' fC hn hD fin
 refine ⟨m, hn, fun h' sb => ?_⟩
 obtain ⟨f0, f1, f2, f3, f4, f5⟩ := fC
 have I2 := I'.turned (t' := s'.toks) (h' := h') (it := C) (fun b o hb e => (sb.2 b hb).trans e) f0 f1 f3 f4 f5
 exact ⟨.ref D, _, I2, rfl, fin D hD⟩

theorem z4X {elt iter tg : Expr} {ifs : List Expr} {pos pos' spos : Pos} {x : Str} {i : Nat} {wi : TI} {g : TG} {tc : TT} {te : TE} (own caps : List Str) (ix : List Nat)
  (hc : X.calm = true) (hN : X.N.Nodup) (hx : X.N[i]? = some x) (hl : Loc X.env.scope x) (S : CompScope X scope cl own caps ix) (hi : PI X tg iter wi)
  (hg : ∀ C s3 H1 ex pn, PG (z3w X scope cl (own ++ caps) C s3 H1 ex pn) tg g) (og : OwnG own.length g) (mg : z8B g)
  (ht : ∀ C s3 H1 ex pn, PTs (z3w X scope cl (own ++ caps) C s3 H1 ex pn) ifs tc)
  (he : ∀ C s3 H1 ex pn, PE (z3w X scope cl (own ++ caps) C s3 H1 ex pn) elt te)
  (hsw : swapsWith (.ListComp elt [⟨tg, iter, ifs, 0⟩] scope pos) (some (.Name x pos')) spos.line X.env = pure true := by rfl)
  (hf : X.fn x = true \/ X.env.scope.names.lookup x = some .local := by first | exact .inl rfl | exact .inr rfl | assumption)
  (hs : ∀ x, foldedSetIterable iter X.env x = pure x := by intro _; rfl) :
  PS X (.Assign [.Name x pos'] (.ListComp elt [⟨tg, iter, ifs, 0⟩] scope pos) spos) (tAsg (y50 own.length ix wi g tc te) (y07 i)) := by
 intro pins s σ H D I h
 rw [exec_Assign_Name_used _ _ _ _ hsw]
 refine wpAny_bind (wpAny_standAt (wpAny_bind ?_))
 show wpAny _ X.A (do let _ <- comprehension (.ListComp elt [⟨tg, iter, ifs, 0⟩] scope pos) scope X.env _ (newList []) false (eval iter X.env) (some (assign (.Name x pos') X.env))) _ _ s
 refine wpAny_bind (wpAny_mono (wpAny_comprehension_free (use := some (assign (.Name x pos') X.env)) (Q := fun _ s' => SP X pins D .next s') rfl hs (z5h S.clos) S.kind S.names
  (thn (hi pins s σ H _ I h) fun v s1 h1 => thn h1 fun itv s2 h2 => ?_)) (fun _ s' hq => wpAny_pure (wpAny_pure hq)) fun _ _ e => e)
 refine z78 (RR := fun acc C => compPost (model X.prog X.w) X.A X.xe (some (assign (.Name x pos') X.env)) (fun _ s' => SP X pins D .next s') acc C) S hc hg og mg ht he h2 ?_
 intro D' C m H' ys s' I' fC hn hD fin
 obtain ⟨f0, f1, f2, f3, f4, f5⟩ := fC
 obtain ⟨oC, es, ep, hoC, hdC, hr⟩ := id hn
 show wpAny _ X.A (assign (.Name x pos') X.env (.ref D')) _ _ _
 have Ip : Inv X (pins ++ [(C, oC)]) σ (upd H' D' (.lst ys)) s' := I'.pins_of fun p hp => (List.mem_append.mp hp).elim (fun z => I'.pin p (List.mem_append_right _ z)) fun z => by
  have e : p = (C, oC) := by simpa using z
  subst e
  exact ⟨hoC, f0, f1, f2, fun v z => by rw [hdC] at z; cases z⟩
 refine thn (z0n hN hx hl hf (pins ++ [(C, oC)]) s' σ _ (.ref D') (.ref D') _ Ip rfl (fin D' hD)) fun _ s3 ⟨σ3, H3, I3, q3⟩ => ?_
 have pC := I3.pin (C, oC) (List.mem_append_right _ (List.mem_append_right _ (by simp)))
 refine ⟨m, ⟨oC, es, ep, pC.1, hdC, hr⟩, fun h' sb => ?_⟩
 have I4 : Inv X pins σ3 H3 s3 := I3.unpinned
 exact ⟨σ3, H3, I4.turned (t' := s3.toks) (h' := h') (it := C) (fun b o hb e => (sb.2 b hb).trans e) pC.2.1 f1 f3 f4 f5, q3⟩
end
end L2

namespace L2
open PySem PySem.Spec PyProof.Rows
section
variable {prog : Program} {w : World} {A : Around} {R : Result -> Shared -> Prop} {I : Addr} {fp wr : List Addr} {n : Nat} {P : Nat -> Value -> Prop} {St : Nat -> Heap -> Prop}

theorem y2C (W : Walks prog w A.in1 I fp wr n P St) (bt : Nat -> Nat -> Bool) (hcmp : CmpOf prog w A.in1 .Gt P bt) (S : Addr) (hSf : S ∉ fp) (kw : List (Str × Value)) :
  ∀ (k j : Nat) (s : Shared) (vb : Value) (c : Nat), n - (j + 1) = k -> j + 1 ≤ n -> St (j + 1) s.heap -> P (argBest bt j) vb ->
  s.heap.get? S = some { cls := .type "list", dict := none, data := .seq #[vb, vb] c, slots := #[] } ->
  (∀ v h' tk, P (argBest bt (n - 1)) v -> (∀ b o, b ∉ wr -> b ≠ S -> s.heap.get? b = some o -> h'.get? b = some o) -> R (.ok (.ret v)) { s with heap := h', toks := tk }) ->
  codeAny (model prog w) A (.builtin "max.loop" ⟨[.ref I, .none, .ref S], kw⟩) R s := by
 have hSw : S ∉ wr := fun h => hSf (W.sub _ h)
 have hname : (toString "max" ++ toString ".loop" : String) = "max.loop" := by decide
 intro k
 induction k with
 | zero =>
  intro j s vb c hk hj hst hPb hS hR
  have hin : j + 1 = n := by omega
  refine codeAny_builtin PySem.F.entry_max_loop ?_
  rw [Around.under_plainId PySem.F.plain_max_loop _]
  show wpAny _ A.in1 (seqItems? (.ref S) >>= _) _ _ s
  refine wpAny_bind (wpAny_seqItems hS rfl ?_)
  show wpAny _ A.in1 (tryCatch (pyNext (.ref I)) _ >>= _) _ _ s
  refine wpAny_bind (wpAny_tryCatch (W.done s _ _ (hin ▸ hst) fun h' tk hk' => ?_))
  have hS' := hk' S _ hSw hS
  show wpAny _ A.in1 (updateSeq S (fun _ => #[]) >>= _) _ _ _
  refine wpAny_bind ?_
  refine wpAny_updateSeq hS' rfl (wpAny_bind (wpAny_letGo (wpAny_pure ?_)))
  refine hR vb _ tk (by rw [<- hin]; exact hPb) fun b o hbw hbS e => (Heap.get?_update_other _ _ (Ne.symm hbS)).trans (hk' b o hbw e)
 | succ k ih =>
  intro j s vb c hk hj hst hPb hS hR
  have hlt : j + 1 < n := by omega
  refine codeAny_builtin PySem.F.entry_max_loop ?_
  rw [Around.under_plainId PySem.F.plain_max_loop _]
  show wpAny _ A.in1 (seqItems? (.ref S) >>= _) _ _ s
  refine wpAny_bind (wpAny_seqItems hS rfl ?_)
  show wpAny _ A.in1 (tryCatch (pyNext (.ref I)) _ >>= _) _ _ s
  refine wpAny_bind (wpAny_tryCatch (W.item (j + 1) s _ _ hlt hst fun v h' tk hP hst' hk' => ?_))
  have hS' := hk' S _ hSw hS
  show wpAny _ A.in1 (tryCatch (holding [v, v] (richCompare .Gt v vb >>= _)) _ >>= _) _ _ _
  refine wpAny_bind (wpAny_tryCatch (wpAny_holding (wpAny_bind (hcmp (j + 1) (argBest bt j) v vb _ _ _ hP hPb ?_))))
  refine wpAny_bind (wpAny_holding (wpAny_truthy_bool ?_))
  refine wpAny_bind (wpAny_letGo (wpAny_pure ?_))
  cases hb : bt (j + 1) (argBest bt j) with
  | true =>
   simp only [if_true]
   refine wpAny_bind ?_
   refine wpAny_updateSeq hS' rfl (wpAny_bind (wpAny_letGo ?_))
   rw [hname]
   refine wpAny_pure ⟨plainId_quiet PySem.F.plain_max_loop _, ih (j + 1) _ v _ (by omega) hlt (W.frame _ _ _ hst' fun b hbf o e => ?_) (by simp only [argBest, hb, if_true]; exact hP) (Heap.get?_update_self _ hS' rfl)
    fun v' h'' tk'' hP' hk'' => ?_⟩
   ·exact (Heap.get?_update_other _ _ (fun h : S = b => hSf (by rw [h]; exact hbf))).trans e
   ·exact hR v' h'' tk'' hP' fun b o hbw hbS e => hk'' b o hbw hbS ((Heap.get?_update_other _ _ (Ne.symm hbS)).trans (hk' b o hbw e))
  | false =>
   simp only [Bool.false_eq_true, if_false]
   refine wpAny_bind (wpAny_letGo ?_)
   rw [hname]
   refine wpAny_pure ⟨plainId_quiet PySem.F.plain_max_loop _, ih (j + 1) _ vb c (by omega) hlt hst' (by simp only [argBest, hb, Bool.false_eq_true, if_false]; exact hPb) hS' fun v' h'' tk'' hP' hk'' => ?_⟩
   exact hR v' h'' tk'' hP' fun b o hbw hbS e => hk'' b o hbw hbS (hk' b o hbw e)

theorem y1R (W : Walks prog w A.in1 I fp wr n P St) (bt : Nat -> Nat -> Bool) (hcmp : CmpOf prog w A.in1 .Gt P bt) (S : Addr) (hSf : S ∉ fp) (kw : List (Str × Value)) (hn : 0 < n) {s : Shared} {c : Nat} (hst : St 0 s.heap)
  (hS : s.heap.get? S = some { cls := .type "list", dict := none, data := .seq #[] c, slots := #[] })
  (hR : ∀ v h' tk, P (argBest bt (n - 1)) v -> (∀ b o, b ∉ wr -> b ≠ S -> s.heap.get? b = some o -> h'.get? b = some o) -> R (.ok (.ret v)) { s with heap := h', toks := tk }) :
  codeAny (model prog w) A (.builtin "max.loop" ⟨[.ref I, .none, .ref S], kw⟩) R s := by
 have hSw : S ∉ wr := fun h => hSf (W.sub _ h)
 have hname : (toString "max" ++ toString ".loop" : String) = "max.loop" := by decide
 refine codeAny_builtin PySem.F.entry_max_loop ?_
 rw [Around.under_plainId PySem.F.plain_max_loop _]
 show wpAny _ A.in1 (seqItems? (.ref S) >>= _) _ _ s
 refine wpAny_bind (wpAny_seqItems hS rfl ?_)
 show wpAny _ A.in1 (tryCatch (pyNext (.ref I)) _ >>= _) _ _ s
 refine wpAny_bind (wpAny_tryCatch (W.item 0 s _ _ hn hst fun v h' tk hP hst' hk' => ?_))
 have hS' := hk' S _ hSw hS
 show wpAny _ A.in1 (updateSeq S (fun _ => #[v, v]) >>= _) _ _ _
 refine wpAny_bind ?_
 refine wpAny_updateSeq hS' rfl ?_
 rw [hname]
 refine wpAny_pure ⟨plainId_quiet PySem.F.plain_max_loop _, y2C W bt hcmp S hSf kw _ 0 _ v _ rfl hn (W.frame _ _ _ hst' fun b hbf o e => ?_) hP (Heap.get?_update_self _ hS' rfl) fun v' h'' tk'' hP' hk'' => ?_⟩
 ·exact (Heap.get?_update_other _ _ (fun h : S = b => hSf (by rw [h]; exact hbf))).trans e
 ·exact hR v' h'' tk'' hP' fun b o hbw hbS e => hk'' b o hbw hbS ((Heap.get?_update_other _ _ (Ne.symm hbS)).trans (hk' b o hbw e))

theorem y2g (W : Walks prog w A.in1 I fp wr n P St) (S : Addr) (hSf : S ∉ fp) (kn : Str) (d : Value) (hn : n = 0) {s : Shared} {c : Nat} (hst : St 0 s.heap)
  (hS : s.heap.get? S = some { cls := .type "list", dict := none, data := .seq #[] c, slots := #[] })
  (hR : ∀ h' tk, (∀ b o, b ∉ wr -> s.heap.get? b = some o -> h'.get? b = some o) -> R (.ok (.ret d)) { s with heap := h', toks := tk }) :
  codeAny (model prog w) A (.builtin "max.loop" ⟨[.ref I, .none, .ref S], [(kn, d)]⟩) R s := by
 refine codeAny_builtin PySem.F.entry_max_loop ?_
 rw [Around.under_plainId PySem.F.plain_max_loop _]
 show wpAny _ A.in1 (seqItems? (.ref S) >>= _) _ _ s
 refine wpAny_bind (wpAny_seqItems hS rfl ?_)
 show wpAny _ A.in1 (tryCatch (pyNext (.ref I)) _ >>= _) _ _ s
 refine wpAny_bind (wpAny_tryCatch (W.done s _ _ (hn ▸ hst) fun h' tk hk' => ?_))
 exact wpAny_bind (wpAny_rule (wpAny_pure (hR h' tk hk')))

theorem z5x (a v : Value) : argsOk "max" ⟨[a], [(Str.ofString "default", v)]⟩ := by unfold argsOk; kernel_rfl
theorem y2B {x d : Value} {s : Shared} {E : Value -> Shared -> Prop} {Q : Value -> Shared -> Prop}
  (h : wpAny (model prog w) A.in1 (pyIter x) (fun it s2 => ∃ I fp wr n P St bt, it = .ref I /\ Walks prog w A.in1 I fp wr n P St /\ St 0 s2.heap /\ (∀ b ∈ fp, b < s2.heap.objs.size) /\ CmpOf prog w A.in1 .Gt P bt /\
   (n = 0 -> ∀ h' tk, (∀ b o, b ∉ wr -> s2.heap.get? b = some o -> h'.get? b = some o) -> Q d { s2 with heap := h', toks := tk }) /\
   (0 < n -> ∀ v h' tk, P (argBest bt (n - 1)) v -> (∀ b o, b ∉ wr -> s2.heap.get? b = some o -> h'.get? b = some o) -> Q v { s2 with heap := h', toks := tk })) E s) :
  wpAny (model prog w) A (call (.builtin "max") [x] [(Str.ofString "default", d)]) Q E s := by
 have hname : (toString "max" ++ toString ".loop" : String) = "max.loop" := by decide
 refine kmk_tree PySem.F.kind_max PySem.F.plain_max PySem.F.entry_max (z5x _ _) ?_
 show wpAny _ A.in1 (Builtin.Builtins.bindParams "max" ["key", "default"] 0 ⟨[], [(Str.ofString "default", d)]⟩ >>= _) _ _ s
 refine wpAny_bind (wpAny_of_eq (show Builtin.Builtins.bindParams "max" ["key", "default"] 0 ⟨[], [(Str.ofString "default", d)]⟩ = pure [none, some d] from by kernel_rfl) ?_)
 refine wpAny_bind (wpAny_pure ?_)
 refine wpAny_bind (wpAny_mono h (fun it s2 h2 => ?_) fun _ _ e => e)
 obtain ⟨I, fp, wr, n, P, St, bt, rfl, W, hst, hfp, hcmp, hQ0, hQ⟩ := h2
 refine wpAny_bind (wpAny_newObj_type ?_)
 have hSf : s2.heap.objs.size ∉ fp := fun hm => Nat.lt_irrefl _ (hfp _ hm)
 rw [hname]
 refine wpAny_pure ⟨plainId_quiet PySem.F.plain_max_loop _, ?_⟩
 by_cases hn : n = 0
 ·exact y2g W s2.heap.objs.size hSf _ d hn (W.frame _ _ _ hst fun b _ o e => Heap.get?_push_of_some _ e) (Heap.get?_push_size _ rfl) fun h' tk hk => hQ0 hn h' tk fun b o hbw e => hk b o hbw (Heap.get?_push_of_some _ e)
 ·exact y1R W bt hcmp s2.heap.objs.size hSf _ (Nat.pos_of_ne_zero hn) (W.frame _ _ _ hst fun b _ o e => Heap.get?_push_of_some _ e) (Heap.get?_push_size _ rfl) fun v h' tk hP hk =>
   hQ (Nat.pos_of_ne_zero hn) v h' tk hP fun b o hbw e => hk b o hbw (Nat.ne_of_lt (Heap.lt_size e)) (Heap.get?_push_of_some _ e)

theorem y37 (W : Walks prog w A.in1 I fp wr n P St) (bt : Nat -> Nat -> Bool) (hcmp : CmpOf prog w A.in1 .Lt P bt) (S : Addr) (hSf : S ∉ fp) (kw : List (Str × Value)) :
  ∀ (k j : Nat) (s : Shared) (vb : Value) (c : Nat), n - (j + 1) = k -> j + 1 ≤ n -> St (j + 1) s.heap -> P (argBest bt j) vb ->
  s.heap.get? S = some { cls := .type "list", dict := none, data := .seq #[vb, vb] c, slots := #[] } ->
  (∀ v h' tk, P (argBest bt (n - 1)) v -> (∀ b o, b ∉ wr -> b ≠ S -> s.heap.get? b = some o -> h'.get? b = some o) -> R (.ok (.ret v)) { s with heap := h', toks := tk }) ->
  codeAny (model prog w) A (.builtin "min.loop" ⟨[.ref I, .none, .ref S], kw⟩) R s := by
 have hSw : S ∉ wr := fun h => hSf (W.sub _ h)
 have hname : (toString "min" ++ toString ".loop" : String) = "min.loop" := by decide
 intro k
 induction k with
 | zero =>
  intro j s vb c hk hj hst hPb hS hR
  have hin : j + 1 = n := by omega
  refine codeAny_builtin PySem.F.entry_min_loop ?_
  rw [Around.under_plainId PySem.F.plain_min_loop _]
  show wpAny _ A.in1 (seqItems? (.ref S) >>= _) _ _ s
  refine wpAny_bind (wpAny_seqItems hS rfl ?_)
  show wpAny _ A.in1 (tryCatch (pyNext (.ref I)) _ >>= _) _ _ s
  refine wpAny_bind (wpAny_tryCatch (W.done s _ _ (hin ▸ hst) fun h' tk hk' => ?_))
  have hS' := hk' S _ hSw hS
  show wpAny _ A.in1 (updateSeq S (fun _ => #[]) >>= _) _ _ _
  refine wpAny_bind ?_
  refine wpAny_updateSeq hS' rfl (wpAny_bind (wpAny_letGo (wpAny_pure ?_)))
  refine hR vb _ tk (by rw [<- hin]; exact hPb) fun b o hbw hbS e => (Heap.get?_update_other _ _ (Ne.symm hbS)).trans (hk' b o hbw e)
 | succ k ih =>
  intro j s vb c hk hj hst hPb hS hR
  have hlt : j + 1 < n := by omega
  refine codeAny_builtin PySem.F.entry_min_loop ?_
  rw [Around.under_plainId PySem.F.plain_min_loop _]
  show wpAny _ A.in1 (seqItems? (.ref S) >>= _) _ _ s
  refine wpAny_bind (wpAny_seqItems hS rfl ?_)
  show wpAny _ A.in1 (tryCatch (pyNext (.ref I)) _ >>= _) _ _ s
  refine wpAny_bind (wpAny_tryCatch (W.item (j + 1) s _ _ hlt hst fun v h' tk hP hst' hk' => ?_))
  have hS' := hk' S _ hSw hS
  show wpAny _ A.in1 (tryCatch (holding [v, v] (richCompare .Lt v vb >>= _)) _ >>= _) _ _ _
  refine wpAny_bind (wpAny_tryCatch (wpAny_holding (wpAny_bind (hcmp (j + 1) (argBest bt j) v vb _ _ _ hP hPb ?_))))
  refine wpAny_bind (wpAny_holding (wpAny_truthy_bool ?_))
  refine wpAny_bind (wpAny_letGo (wpAny_pure ?_))
  cases hb : bt (j + 1) (argBest bt j) with
  | true =>
   simp only [if_true]
   refine wpAny_bind ?_
   refine wpAny_updateSeq hS' rfl (wpAny_bind (wpAny_letGo ?_))
   rw [hname]
   refine wpAny_pure ⟨plainId_quiet PySem.F.plain_min_loop _, ih (j + 1) _ v _ (by omega) hlt (W.frame _ _ _ hst' fun b hbf o e => ?_) (by simp only [argBest, hb, if_true]; exact hP) (Heap.get?_update_self _ hS' rfl)
    fun v' h'' tk'' hP' hk'' => ?_⟩
   ·exact (Heap.get?_update_other _ _ (fun h : S = b => hSf (by rw [h]; exact hbf))).trans e
   ·exact hR v' h'' tk'' hP' fun b o hbw hbS e => hk'' b o hbw hbS ((Heap.get?_update_other _ _ (Ne.symm hbS)).trans (hk' b o hbw e))
  | false =>
   simp only [Bool.false_eq_true, if_false]
   refine wpAny_bind (wpAny_letGo ?_)
   rw [hname]
   refine wpAny_pure ⟨plainId_quiet PySem.F.plain_min_loop _, ih (j + 1) _ vb c (by omega) hlt hst' (by simp only [argBest, hb, Bool.false_eq_true, if_false]; exact hPb) hS' fun v' h'' tk'' hP' hk'' => ?_⟩
   exact hR v' h'' tk'' hP' fun b o hbw hbS e => hk'' b o hbw hbS (hk' b o hbw e)

theorem y1d (W : Walks prog w A.in1 I fp wr n P St) (bt : Nat -> Nat -> Bool) (hcmp : CmpOf prog w A.in1 .Lt P bt) (S : Addr) (hSf : S ∉ fp) (kw : List (Str × Value)) (hn : 0 < n) {s : Shared} {c : Nat} (hst : St 0 s.heap)
  (hS : s.heap.get? S = some { cls := .type "list", dict := none, data := .seq #[] c, slots := #[] })
  (hR : ∀ v h' tk, P (argBest bt (n - 1)) v -> (∀ b o, b ∉ wr -> b ≠ S -> s.heap.get? b = some o -> h'.get? b = some o) -> R (.ok (.ret v)) { s with heap := h', toks := tk }) :
  codeAny (model prog w) A (.builtin "min.loop" ⟨[.ref I, .none, .ref S], kw⟩) R s := by
 have hSw : S ∉ wr := fun h => hSf (W.sub _ h)
 have hname : (toString "min" ++ toString ".loop" : String) = "min.loop" := by decide
 refine codeAny_builtin PySem.F.entry_min_loop ?_
 rw [Around.under_plainId PySem.F.plain_min_loop _]
 show wpAny _ A.in1 (seqItems? (.ref S) >>= _) _ _ s
 refine wpAny_bind (wpAny_seqItems hS rfl ?_)
 show wpAny _ A.in1 (tryCatch (pyNext (.ref I)) _ >>= _) _ _ s
 refine wpAny_bind (wpAny_tryCatch (W.item 0 s _ _ hn hst fun v h' tk hP hst' hk' => ?_))
 have hS' := hk' S _ hSw hS
 show wpAny _ A.in1 (updateSeq S (fun _ => #[v, v]) >>= _) _ _ _
 refine wpAny_bind ?_
 refine wpAny_updateSeq hS' rfl ?_
 rw [hname]
 refine wpAny_pure ⟨plainId_quiet PySem.F.plain_min_loop _, y37 W bt hcmp S hSf kw _ 0 _ v _ rfl hn (W.frame _ _ _ hst' fun b hbf o e => ?_) hP (Heap.get?_update_self _ hS' rfl) fun v' h'' tk'' hP' hk'' => ?_⟩
 ·exact (Heap.get?_update_other _ _ (fun h : S = b => hSf (by rw [h]; exact hbf))).trans e
 ·exact hR v' h'' tk'' hP' fun b o hbw hbS e => hk'' b o hbw hbS ((Heap.get?_update_other _ _ (Ne.symm hbS)).trans (hk' b o hbw e))

theorem y2w (W : Walks prog w A.in1 I fp wr n P St) (S : Addr) (hSf : S ∉ fp) (kn : Str) (d : Value) (hn : n = 0) {s : Shared} {c : Nat} (hst : St 0 s.heap)
  (hS : s.heap.get? S = some { cls := .type "list", dict := none, data := .seq #[] c, slots := #[] })
  (hR : ∀ h' tk, (∀ b o, b ∉ wr -> s.heap.get? b = some o -> h'.get? b = some o) -> R (.ok (.ret d)) { s with heap := h', toks := tk }) :
  codeAny (model prog w) A (.builtin "min.loop" ⟨[.ref I, .none, .ref S], [(kn, d)]⟩) R s := by
 refine codeAny_builtin PySem.F.entry_min_loop ?_
 rw [Around.under_plainId PySem.F.plain_min_loop _]
 show wpAny _ A.in1 (seqItems? (.ref S) >>= _) _ _ s
 refine wpAny_bind (wpAny_seqItems hS rfl ?_)
 show wpAny _ A.in1 (tryCatch (pyNext (.ref I)) _ >>= _) _ _ s
 refine wpAny_bind (wpAny_tryCatch (W.done s _ _ (hn ▸ hst) fun h' tk hk' => ?_))
 exact wpAny_bind (wpAny_rule (wpAny_pure (hR h' tk hk')))

theorem z5y (a v : Value) : argsOk "min" ⟨[a], [(Str.ofString "default", v)]⟩ := by unfold argsOk; kernel_rfl
theorem y2J {x d : Value} {s : Shared} {E : Value -> Shared -> Prop} {Q : Value -> Shared -> Prop}
  (h : wpAny (model prog w) A.in1 (pyIter x) (fun it s2 => ∃ I fp wr n P St bt, it = .ref I /\ Walks prog w A.in1 I fp wr n P St /\ St 0 s2.heap /\ (∀ b ∈ fp, b < s2.heap.objs.size) /\ CmpOf prog w A.in1 .Lt P bt /\
   (n = 0 -> ∀ h' tk, (∀ b o, b ∉ wr -> s2.heap.get? b = some o -> h'.get? b = some o) -> Q d { s2 with heap := h', toks := tk }) /\
   (0 < n -> ∀ v h' tk, P (argBest bt (n - 1)) v -> (∀ b o, b ∉ wr -> s2.heap.get? b = some o -> h'.get? b = some o) -> Q v { s2 with heap := h', toks := tk })) E s) :
  wpAny (model prog w) A (call (.builtin "min") [x] [(Str.ofString "default", d)]) Q E s := by
 have hname : (toString "min" ++ toString ".loop" : String) = "min.loop" := by decide
 refine kmk_tree PySem.F.kind_min PySem.F.plain_min PySem.F.entry_min (z5y _ _) ?_
 show wpAny _ A.in1 (Builtin.Builtins.bindParams "min" ["key", "default"] 0 ⟨[], [(Str.ofString "default", d)]⟩ >>= _) _ _ s
 refine wpAny_bind (wpAny_of_eq (show Builtin.Builtins.bindParams "min" ["key", "default"] 0 ⟨[], [(Str.ofString "default", d)]⟩ = pure [none, some d] from by kernel_rfl) ?_)
 refine wpAny_bind (wpAny_pure ?_)
 refine wpAny_bind (wpAny_mono h (fun it s2 h2 => ?_) fun _ _ e => e)
 obtain ⟨I, fp, wr, n, P, St, bt, rfl, W, hst, hfp, hcmp, hQ0, hQ⟩ := h2
 refine wpAny_bind (wpAny_newObj_type ?_)
 have hSf : s2.heap.objs.size ∉ fp := fun hm => Nat.lt_irrefl _ (hfp _ hm)
 rw [hname]
 refine wpAny_pure ⟨plainId_quiet PySem.F.plain_min_loop _, ?_⟩
 by_cases hn : n = 0
 ·exact y2w W s2.heap.objs.size hSf _ d hn (W.frame _ _ _ hst fun b _ o e => Heap.get?_push_of_some _ e) (Heap.get?_push_size _ rfl) fun h' tk hk => hQ0 hn h' tk fun b o hbw e => hk b o hbw (Heap.get?_push_of_some _ e)
 ·exact y1d W bt hcmp s2.heap.objs.size hSf _ (Nat.pos_of_ne_zero hn) (W.frame _ _ _ hst fun b _ o e => Heap.get?_push_of_some _ e) (Heap.get?_push_size _ rfl) fun v h' tk hP hk =>
   hQ (Nat.pos_of_ne_zero hn) v h' tk hP fun b o hbw e => hk b o hbw (Nat.ne_of_lt (Heap.lt_size e)) (Heap.get?_push_of_some _ e)

end
end L2

namespace L2
open PySem PySem.Spec PyProof.Rows

theorem z7f (f : Nat -> Int) : ∀ k, argBest (fun i j => decide (f i > f j)) k ≤ k /\ ∀ i, i ≤ k -> f i ≤ f (argBest (fun i j => decide (f i > f j)) k)
 | 0 => ⟨Nat.le_refl _, fun i hi => by rw [Nat.le_zero.mp hi]; exact Int.le_refl _⟩
 | k + 1 => by
  obtain ⟨h1, h2⟩ := z7f f k
  unfold argBest
  by_cases c : f (k + 1) > f (argBest (fun i j => decide (f i > f j)) k)
  ·rw [if_pos (decide_eq_true c)]
   refine ⟨Nat.le_refl _, fun i hi => ?_⟩
   by_cases e : i = k + 1
   ·rw [e]; exact Int.le_refl _
   ·have := h2 i (by omega)
    omega
  ·rw [if_neg (by rw [decide_eq_false c]; exact Bool.false_ne_true)]
   refine ⟨by omega, fun i hi => ?_⟩
   by_cases e : i = k + 1
   ·rw [e]; omega
   ·exact h2 i (by omega)
theorem z7u (f : Nat -> Int) : ∀ k, argBest (fun i j => decide (f i < f j)) k ≤ k /\ ∀ i, i ≤ k -> f (argBest (fun i j => decide (f i < f j)) k) ≤ f i
 | 0 => ⟨Nat.le_refl _, fun i hi => by rw [Nat.le_zero.mp hi]; exact Int.le_refl _⟩
 | k + 1 => by
  obtain ⟨h1, h2⟩ := z7u f k
  unfold argBest
  by_cases c : f (k + 1) < f (argBest (fun i j => decide (f i < f j)) k)
  ·rw [if_pos (decide_eq_true c)]
   refine ⟨Nat.le_refl _, fun i hi => ?_⟩
   by_cases e : i = k + 1
   ·rw [e]; exact Int.le_refl _
   ·have := h2 i (by omega)
    omega
  ·rw [if_neg (by rw [decide_eq_false c]; exact Bool.false_ne_true)]
   refine ⟨by omega, fun i hi => ?_⟩
   by_cases e : i = k + 1
   ·rw [e]; omega
   ·exact h2 i (by omega)

section
variable {X : Cx}
def SqI (K : PySem.W.Frag) (H : Hp) (p : Addr) (ns : List Int) : Prop := SqL K H p (ns.map V.int) \/ SqT K H p (ns.map V.int)

theorem z36 {ns : List Int} {its : List Value} (r : Vals (ns.map V.int) its) : ∀ (i : Nat) (v : Value), its.toArray[i]? = some v -> ∃ t, v = .int (ns.getD i 0) t := by
 intro i v e
 have e' : its[i]? = some v := by simpa using e
 have hi : i < its.length := (List.getElem?_eq_some_iff.mp e').1
 have hl := r.length
 rw [List.length_map] at hl
 obtain ⟨u, hu, ru⟩ := r.get (i := i) (x := .int (ns.getD i 0)) (by
  rw [List.getElem?_map, List.getD_eq_getElem?_getD]
  have : ns[i]? = some ns[i] := List.getElem?_eq_getElem (by omega)
  rw [this]; rfl)
 rw [e'] at hu
 cases hu
 exact ru

theorem z4q {pins : List (Addr × Obj)} {σ : St} {H : Hp} {s : Shared} {p : Addr} {ns : List Int} {A : Around} {E : Value -> Shared -> Prop} {Q : Value -> Shared -> Prop} (I : Inv X pins σ H s) (hh : A.handled = none) (hq : SqI X.K H p ns)
  (h : ∀ (it : Addr) (fp : List Addr) (St : Nat -> Heap -> Prop) (its : List Value) (s2 : Shared), Vals (ns.map V.int) its -> Walks X.prog X.w A it fp [it] its.toArray.size (fun i v => its.toArray[i]? = some v) St -> St 0 s2.heap -> (∀ b ∈ fp, b < s2.heap.objs.size) ->
   (∀ h' tk, (∀ b o, b ∉ [it] -> s2.heap.get? b = some o -> h'.get? b = some o) -> Inv X pins σ H { s2 with heap := h', toks := tk }) -> Q (.ref it) s2) :
  wpAny (model X.prog X.w) A (pyIter (.ref p)) Q E s := by
 have back : ∀ (o : Obj) (h' : Heap) (tk : Nat), (∀ b ob, b ∉ [s.heap.objs.size] -> (s.heap.push o).get? b = some ob -> h'.get? b = some ob) -> Inv X pins σ H { s with heap := h', toks := tk } := fun o h' tk k =>
  I.kept fun b ob e => k b ob (fun z => absurd (Heap.lt_size e) (by rw [List.mem_singleton.mp z]; exact Nat.lt_irrefl _)) (Heap.get?_push_of_some _ e)
 rcases hq with hq | hq
 ·obtain ⟨its, r, pl, hz⟩ := I.list hq
  have hlt : p < s.heap.objs.size := by obtain ⟨_, e, _⟩ := pl.isList; exact Heap.lt_size e
  refine wpAny_pyIter_list pl.isList ?_
  refine h s.heap.objs.size [s.heap.objs.size, p] _ its _ r (Walks.list hh s.heap.objs.size p (Nat.ne_of_lt hlt) its.toArray) ⟨⟨_, Heap.get?_push_size _ rfl, rfl, rfl⟩, pl.isList.push _⟩ (fun b hb => ?_) fun h' tk k => back _ h' tk k
  show b < (s.heap.push _).objs.size
  rw [Heap.size_push]
  rcases List.mem_cons.mp hb with rfl | hb
  ·exact Nat.lt_succ_self _
  ·rw [List.mem_singleton.mp hb]; exact Nat.lt_succ_of_lt hlt
 ·obtain ⟨its, r, pl, hz⟩ := I.tuple hq
  have hlt : p < s.heap.objs.size := by obtain ⟨_, e, _⟩ := pl; exact Heap.lt_size e
  refine wpAny_pyIter_tuple (show s.heap.IsTuple p its.toArray from pl) ?_
  refine h s.heap.objs.size [s.heap.objs.size, p] _ its _ r (Walks.tuple hh s.heap.objs.size p (Nat.ne_of_lt hlt) its.toArray) ⟨⟨_, Heap.get?_push_size _ rfl, rfl, rfl⟩, ?_⟩ (fun b hb => ?_) fun h' tk k => back _ h' tk k
  ·obtain ⟨o, e, c⟩ := (show s.heap.IsTuple p its.toArray from pl)
   exact ⟨o, Heap.get?_push_of_some _ e, c⟩
  ·show b < (s.heap.push _).objs.size
   rw [Heap.size_push]
   rcases List.mem_cons.mp hb with rfl | hb
   ·exact Nat.lt_succ_self _
   ·rw [List.mem_singleton.mp hb]; exact Nat.lt_succ_of_lt hlt

def y3r (K : PySem.W.Frag) (le : Int -> Int -> Prop) (ta td : TA) : TE := fun σ H Q => ta σ H fun xs H1 => td σ H1 fun ds H2 => ∃ p ns d, xs = [.ref p] /\ ds = [d] /\ SqI K H2 p ns /\ (ns = [] -> Q d H2) /\ ∀ m, m ∈ ns -> (∀ y ∈ ns, le y m) -> Q (.int m) H2
theorem z5B {ns : List Int} {i : Nat} (h : i < ns.length) : ns.getD i 0 ∈ ns := by
 rw [List.getD_eq_getElem?_getD, List.getElem?_eq_getElem h]
 exact List.getElem_mem h
theorem z5z {ns : List Int} {y : Int} (h : y ∈ ns) : ∃ i, i < ns.length /\ ns.getD i 0 = y := by
 obtain ⟨i, hi, e⟩ := List.mem_iff_getElem.mp h
 refine ⟨i, hi, ?_⟩
 rw [List.getD_eq_getElem?_getD, List.getElem?_eq_getElem hi]
 exact e

theorem y21 {e : Expr} {p pos kp : Pos} {dx : Expr} {ta td : TA} (hc : X.calm = true) (hg : Gl X "max") (hm : X.mg "max" = none) (ha : PA X [e] ta) (hd : PK X [⟨some (Str.ofString "default"), dx, kp⟩] td)
  (he : backTo pos (starEach [e] X.env) = (false, eval e X.env) :: backTo pos (starEach [] X.env) := by rfl)
  (hplain : (backTo pos (starEach [e] X.env)).any (·.1) = false := by rfl)
  (hall : (backToKw pos (keywordEach [⟨some (Str.ofString "default"), dx, kp⟩] X.env)).all (·.1.isSome) = true := by rfl)
  (hkw : (backToKw pos (keywordEach [⟨some (Str.ofString "default"), dx, kp⟩] X.env)).any (·.1.isNone) = false := by rfl) :
  PE X (.Call (.Name "max" p) [e] [⟨some (Str.ofString "default"), dx, kp⟩] pos) (y3r X.K (fun y m => y ≤ m) ta td) := by
 intro pins s σ H Q I h
 refine wpAny_Call_Name_kw (z4w I hg hm PyProof.Rows.boot_max ?_)
 refine PyProof.Rows.callWith_kw (thn (ha pos pins s σ H _ I h) fun us s1 ⟨vs, H1, I1, r, q⟩ => ?_) he hplain hall hkw
 refine thn (hd pos pins s1 σ H1 _ I1 q) fun ws s2 ⟨zs, H2, I2, rz, q2⟩ => ?_
 obtain ⟨a, ns, d, e1, e2, hq, q0, q1⟩ := q2
 subst e1 e2
 obtain ⟨u, rfl, ru⟩ := z41 r
 cases ru
 obtain ⟨dv, rfl, rd⟩ := z41 rz
 show wpAny _ X.A (call (.builtin "max") [.ref a] [(Str.ofString "default", dv)]) _ _ _
 refine y2B (z4q (A := X.A.in1) I2 (I2.ok.hd hc) hq fun it fp St its s3 rv W st hfp back => ?_)
 have hl := rv.length
 rw [List.length_map] at hl
 refine ⟨it, fp, [it], _, _, St, _, rfl, W, st, hfp, CmpOf.ints_gt (fun i => ns.getD i 0) (z36 rv), fun hn h' tk k => ?_, fun hn v h' tk hv k => ?_⟩
 ·rw [List.size_toArray] at hn
  exact ⟨d, H2, back h' tk k, rd, q0 (List.eq_nil_of_length_eq_zero (by omega))⟩
 ·rw [List.size_toArray] at hn hv
  obtain ⟨t, rfl⟩ := z36 rv _ _ hv
  obtain ⟨b1, b2⟩ := z7f (fun i => ns.getD i 0) (its.length - 1)
  refine ⟨.int _, H2, back h' tk k, ⟨t, rfl⟩, q1 _ (z5B (by omega)) fun y hy => ?_⟩
  obtain ⟨i, hi, rfl⟩ := z5z hy
  exact b2 i (by omega)

theorem y1y {e : Expr} {p pos kp : Pos} {dx : Expr} {ta td : TA} (hc : X.calm = true) (hg : Gl X "min") (hm : X.mg "min" = none) (ha : PA X [e] ta) (hd : PK X [⟨some (Str.ofString "default"), dx, kp⟩] td)
  (he : backTo pos (starEach [e] X.env) = (false, eval e X.env) :: backTo pos (starEach [] X.env) := by rfl)
  (hplain : (backTo pos (starEach [e] X.env)).any (·.1) = false := by rfl)
  (hall : (backToKw pos (keywordEach [⟨some (Str.ofString "default"), dx, kp⟩] X.env)).all (·.1.isSome) = true := by rfl)
  (hkw : (backToKw pos (keywordEach [⟨some (Str.ofString "default"), dx, kp⟩] X.env)).any (·.1.isNone) = false := by rfl) :
  PE X (.Call (.Name "min" p) [e] [⟨some (Str.ofString "default"), dx, kp⟩] pos) (y3r X.K (fun y m => m ≤ y) ta td) := by
 intro pins s σ H Q I h
 refine wpAny_Call_Name_kw (z4w I hg hm PyProof.Rows.boot_min ?_)
 refine PyProof.Rows.callWith_kw (thn (ha pos pins s σ H _ I h) fun us s1 ⟨vs, H1, I1, r, q⟩ => ?_) he hplain hall hkw
 refine thn (hd pos pins s1 σ H1 _ I1 q) fun ws s2 ⟨zs, H2, I2, rz, q2⟩ => ?_
 obtain ⟨a, ns, d, e1, e2, hq, q0, q1⟩ := q2
 subst e1 e2
 obtain ⟨u, rfl, ru⟩ := z41 r
 cases ru
 obtain ⟨dv, rfl, rd⟩ := z41 rz
 show wpAny _ X.A (call (.builtin "min") [.ref a] [(Str.ofString "default", dv)]) _ _ _
 refine y2J (z4q (A := X.A.in1) I2 (I2.ok.hd hc) hq fun it fp St its s3 rv W st hfp back => ?_)
 have hl := rv.length
 rw [List.length_map] at hl
 refine ⟨it, fp, [it], _, _, St, _, rfl, W, st, hfp, CmpOf.ints_lt (fun i => ns.getD i 0) (z36 rv), fun hn h' tk k => ?_, fun hn v h' tk hv k => ?_⟩
 ·rw [List.size_toArray] at hn
  exact ⟨d, H2, back h' tk k, rd, q0 (List.eq_nil_of_length_eq_zero (by omega))⟩
 ·rw [List.size_toArray] at hn hv
  obtain ⟨t, rfl⟩ := z36 rv _ _ hv
  obtain ⟨b1, b2⟩ := z7u (fun i => ns.getD i 0) (its.length - 1)
  refine ⟨.int _, H2, back h' tk k, ⟨t, rfl⟩, q1 _ (z5B (by omega)) fun y hy => ?_⟩
  obtain ⟨i, hi, rfl⟩ := z5z hy
  exact b2 i (by omega)

def rngV (i : Int) (n : Nat) : List V := (List.range n).map fun (k : Nat) => V.int (i + (k : Int))
theorem y0S : z3p X (.type "range") (fun xs H Q => ∃ i j, xs = [.int i, .int j] /\ ∀ p, H p = none -> Q (.ref p) (upd H p (.rng i j))) := by
 intro pins s σ H xs us Q I r h
 obtain ⟨i, j, rfl, q⟩ := h
 obtain ⟨u, w', rfl, ⟨t, rfl⟩, ⟨t', rfl⟩⟩ := y16 r
 refine call_range_2 ?_
 refine ⟨.ref s.heap.objs.size, _, I.laid (fun b o e => Heap.get?_push_of_some _ e) (Nat.le_refl _) (show z1B X.prog X.w _ _ _ (.rng i j) from ⟨t, t', s.toks, Heap.get?_push_size _ rfl⟩), rfl, q _ (I.hok.fresh (Nat.le_refl _))⟩

theorem z7B {prog : Program} {w : World} {A : Around} {E : Value -> Shared -> Prop} {s : Shared} {Q : List Value -> Shared -> Prop} {r : Addr} {a b c : Int} {t u v : Tok} {n : Nat} (hh : A.handled = none) (hr : IsRange s.heap r a b c t u v) (hsmall : Builtin.Range.small a b c = true)
  (hn : Builtin.Range.rangeSize a b c = n) (hlen : n ≤ 2 ^ 24)
  (hQ : ∀ h' tk acc, (∀ b o, s.heap.get? b = some o -> h'.get? b = some o) -> ItemsOf (fun i v => ∃ t, v = .int (a + i * c) t) acc n -> Q acc.toList { s with heap := h', toks := tk }) :
  wpAny (model prog w) A (collect (.ref r)) Q E s := by
 unfold collect
 refine wpAny_bind (wpAny_runValue (codeAny_builtin PySem.F.entry_proto_collect ?_))
 rw [Around.under_plainId PySem.F.plain_proto_collect _]
 show wpAny _ A.in1 (newList [] >>= fun l => again (.builtin "list.__iadd__" ⟨[l, .ref r], []⟩)) _ _ s
 refine wpAny_bind (wpAny_newObj_type ?_)
 refine wpAny_pure ⟨plainId_quiet PySem.F.plain_list_iadd _, codeAny_builtin PySem.F.entry_list_iadd ?_⟩
 rw [Around.under_plainId PySem.F.plain_list_iadd _]
 show wpAny _ A.in1 (Builtin.List.listExtendWith (.ref s.heap.objs.size) (.ref r) (.ref s.heap.objs.size)) _ _ _
 have hS : (s.heap.push { cls := .type "list", data := .seq ([] : List Value).toArray }).get? s.heap.objs.size = some { cls := .type "list", data := .seq #[] 0 } := Heap.get?_push_size _ rfl
 have fin : ∀ (r' : Result) (s' : Shared), (∃ h' tk acc c', r' = .ok (.ret (.ref s.heap.objs.size)) /\ s' = { s with heap := h', toks := tk } /\ (∀ b o, s.heap.get? b = some o -> h'.get? b = some o) /\
   h'.get? s.heap.objs.size = some { cls := .type "list", dict := none, data := .seq acc c', slots := #[] } /\ ItemsOf (fun i v => ∃ t, v = .int (a + i * c) t) acc n) ->
   match r' with
   | Except.ok (Flow.ret v) => wpAny (model prog w) A (match v with
     | Value.ref a => do
      match (<- load a).data with
       | Data.seq xs _ => pure xs.toList
       | _ => unsupported "internal:collect"
     | _ => unsupported "internal:collect") Q E s'
   | Except.ok _ => False
   | Except.error e => E e s' := by
  rintro r' s' ⟨h', tk, acc, c', rfl, rfl, hk, hS', hacc⟩
  show wpAny _ A (load s.heap.objs.size >>= _) _ _ _
  refine wpAny_bind (wpAny_load hS' ?_)
  exact wpAny_pure (hQ h' tk acc hk hacc)
 refine wpAny_mono (wpAny_extend_range (A := A) (R := fun r' s' => ∃ h' tk acc c', r' = .ok (.ret (.ref s.heap.objs.size)) /\ s' = { s with heap := h', toks := tk } /\ (∀ b o, s.heap.get? b = some o -> h'.get? b = some o) /\
   h'.get? s.heap.objs.size = some { cls := .type "list", dict := none, data := .seq acc c', slots := #[] } /\ ItemsOf (fun i v => ∃ t, v = .int (a + i * c) t) acc n)
  (s := { s with heap := s.heap.push { cls := .type "list", data := .seq ([] : List Value).toArray } }) hh (Heap.get?_push_of_some _ hr) hsmall hn hlen s.heap.objs.size _ 0 hS
  fun h' tk acc c' hk hS' hacc => ⟨h', tk, acc, c', rfl, rfl, fun b o e => hk b o (Nat.ne_of_lt (Heap.lt_size e)) (Heap.get?_push_of_some _ e), hS', hacc⟩) (fun f s' h => ?_) (fun e s' h => ?_)
 ·cases f with
  | done f => exact fin _ _ h
  | again c' => exact ⟨h.1, codeAny_mono h.2 fun r' s'' hr' => fin _ _ hr'⟩
 ·obtain ⟨_, _, _, _, e, _⟩ := h
  cases e

theorem z5L (r : Addr) (a b : Int) (t u v : Tok) (n : Nat) (hsmall : Builtin.Range.small a b 1 = true) (hn : Builtin.Range.rangeSize a b 1 = n) (hlen : n ≤ 2 ^ 24) :
  Meets (Builtin.«tuple.__new__» ⟨[.type "tuple", .ref r], []⟩)
   (fun A R s => A.handled = none /\ IsRange s.heap r a b 1 t u v /\ ∀ (h' : Heap) (tk : Nat) (acc : Array Value), (∀ b o, s.heap.get? b = some o -> h'.get? b = some o) -> ItemsOf (fun i v => ∃ t, v = .int (a + i * 1) t) acc n ->
    R (.ok (.ret (.ref h'.objs.size))) { s with heap := h'.push { cls := .type "tuple", data := .seq acc }, toks := tk }) :=
 .of_wp fun prog w A R s h => by
  obtain ⟨hp, g, d, tk0, os⟩ := s
  obtain ⟨hh, hr, h⟩ := h
  have hsub := sub_tuple_self
  have hinit := init_tuple_lookup
  have hmh := madeHere_tuple
  have hT : Shared.TypeIs ⟨hp, g, d, tk0, os⟩ (.ref r) "range" := ⟨_, hr, rfl⟩
  have hh1 : A.in1.handled = none := hh
  wp_walk using wpAny_typeOf hT, z7B hh1 hr hsmall hn hlen
  intro h' tk acc hk hacc
  show wpAny _ _ (Builtin.Tuple.tupleExact acc.toList.toArray >>= fun v => ret v) _ _ _
  unfold Builtin.Tuple.tupleExact
  refine wpAny_bind (wpAny_newObj_type ?_ (show acc.toList.toArray.size ≤ sizeLine by simp only [Array.toArray_toList]; rw [hacc.1, sizeLine_eq]; omega))
  refine wpAny_pure ⟨_, rfl, ?_⟩
  have e : acc.toList.toArray = acc := by simp
  rw [e]
  exact h h' tk acc hk hacc
theorem y2t {a : Int} {acc : Array Value} {n : Nat} (h : ItemsOf (fun i v => ∃ t, v = Value.int (a + (i : Int) * 1) t) acc n) : Vals (rngV a n) acc.toList := by
 have go : ∀ (l : List Value) (k : Nat), (∀ (j : Nat) (v : Value), l[j]? = some v -> ∃ t, v = Value.int (a + ((k + j : Nat) : Int)) t) -> Vals ((List.range' k l.length).map fun (j : Nat) => V.int (a + (j : Int))) l := by
  intro l
  induction l with
  | nil => intro k _; exact .nil
  | cons x r ih =>
   intro k hx
   rw [List.length_cons, List.range'_succ, List.map_cons]
   refine .cons ?_ (ih (k + 1) fun j v e => ?_)
   ·obtain ⟨t, e⟩ := hx 0 x rfl
    exact ⟨t, e⟩
   ·obtain ⟨t, e'⟩ := hx (j + 1) v (by simpa using e)
    refine ⟨t, e'.trans ?_⟩
    congr 1
    omega
 have q := go acc.toList 0 fun j v e => by
  obtain ⟨t, e'⟩ := h.2 j v (by simpa using e)
  exact ⟨t, by rw [e']; congr 1; first | done | omega⟩
 unfold rngV
 rw [List.range_eq_range']
 have hn : acc.toList.length = n := by simpa using h.1
 rw [hn] at q
 exact q
theorem z6F (hc : X.calm = true) : z3p X (.type "tuple") (fun xs H Q => ∃ p i j, xs = [.ref p] /\ H p = some (.rng i j) /\ (-(2 ^ 62) ≤ i /\ i < 2 ^ 62 /\ -(2 ^ 62) ≤ j /\ j < 2 ^ 62) /\ (j - i).toNat ≤ 2 ^ 24 /\
  ∀ l, H l = none -> Q (.ref l) (upd H l (.tup (rngV i (j - i).toNat)))) := by
 intro pins s σ H xs us Q I r h
 obtain ⟨p, i, j, rfl, hp, ⟨h1, h2, h3, h4⟩, hlen, q⟩ := h
 obtain ⟨u, rfl, rx⟩ := z41 r
 cases rx
 obtain ⟨t, u', v, e⟩ := (show z1B X.prog X.w H s.heap p (.rng i j) from I.hok p _ hp)
 have hn : Builtin.Range.rangeSize i j 1 = (((j - i).toNat : Nat) : Int) := by rw [rangeSize_one]; split <;> omega
 refine callType_new PySem.F.called_tuple (by decide) (PySem.F.typeCall_tuple_1 _) (PySem.F.newCall_tuple_1 _) (fun obj => PySem.F.args_object_init_2 obj _) PySem.F.entry_tuple_new
  (z5L p i j t u' v _ (small_one h1 h2 h3 h4) hn hlen) ⟨I.ok.hd hc, e, fun h' tk acc hk hacc => ⟨⟨_, Heap.get?_push_size _ rfl, rfl⟩, ?_⟩⟩
 have I1 : Inv X pins σ H { s with heap := h', toks := tk } := I.kept hk
 have z : (rngV i (j - i).toNat).length ≤ sizeLine := by unfold rngV; rw [List.length_map, List.length_range, sizeLine_eq]; omega
 have I2 : Inv X pins σ (upd H h'.objs.size (.tup (rngV i (j - i).toNat))) { s with heap := h'.push { cls := .type "tuple", data := .seq acc }, toks := tk } :=
  I1.laid (t' := tk) (fun b o e => Heap.get?_push_of_some _ e) (Nat.le_refl _) (show z1B X.prog X.w _ _ _ (.tup _) from ⟨z, acc.toList, y2t hacc, by simpa using PlT.new h' acc⟩)
 exact ⟨.ref h'.objs.size, _, I2, rfl, q _ (I1.hok.fresh (Nat.le_refl _))⟩

theorem Vals.ins {x : V} {u : Value} (r : RelV x u) {xs : List V} {us : List Value} (h : Vals xs us) (k : Nat) : Vals (xs.take k ++ x :: xs.drop k) (us.take k ++ u :: us.drop k) :=
 (h.take k).append (.cons r (h.drop k))
def y3Q : V -> List V -> Hp -> VK -> Prop := fun x vs H Q => ∃ l xs i y, x = .ref l /\ vs = [.int i, y] /\ H l = some (.lst xs) /\ 0 ≤ i /\ i ≤ xs.length /\ xs.length < sizeLine /\ Q .non (upd H l (.lst (xs.take i.toNat ++ y :: xs.drop i.toNat)))
theorem z8j : MtM X "list.insert" y3Q := by
 intro pins s σ H x vs v us Q I rx rv h
 obtain ⟨l, xs, i, y, rfl, rfl, hH, h0, h1, hz, q⟩ := h
 cases rx
 obtain ⟨u, w', rfl, ⟨t, rfl⟩, ry⟩ := rv.two
 obtain ⟨z, its, n, r, hl, e⟩ := I.lstM hH
 have hn := z5v
 have hs : sizeLine = 16777216 := sizeLine_eq
 have fit : ¬ (!Builtin.List.listFitsIndex i) = true := by
  rw [fitsIndex_both (by omega) (by omega)]
  decide
 refine call_meets PySem.F.slot_list_insert ⟨_, e, rfl⟩ PySem.F.entry_list_insert (PySem.F.args_list_insert_3 _ _ _) (AutoSeq1.list_insert_list_int_val_1 l its.toArray n i t w' fit (by rw [List.size_toArray]; omega)) ⟨e, ?_⟩
 refine ⟨.non, _, I.lset (its' := its.take i.toNat ++ w' :: its.drop i.toNat) hH e ?_ (Vals.ins ry r i.toNat) ?_, rfl, q⟩
 ·have e1 : (if i < 0 then (i + (its.toArray.size : Int)).toNat else min i.toNat its.toArray.size) = i.toNat := by
   rw [if_neg (by omega), List.size_toArray, Nat.min_eq_left (by omega)]
  show ((its.toArray.extract 0 (if i < 0 then (i + (its.toArray.size : Int)).toNat else min i.toNat its.toArray.size)).push w' ++ its.toArray.extract (if i < 0 then (i + (its.toArray.size : Int)).toNat else min i.toNat its.toArray.size)) = _
  rw [e1]
  apply Array.toList_inj.mp
  simp
  rw [List.take_of_length_le (by rw [List.length_drop]; omega)]
 ·rw [List.length_append, List.length_cons, List.length_take, List.length_drop]
  omega

theorem z6s : z3p X (.builtin "sorted") (fun xs H Q => ∃ (p : Addr) (ns : List Int), xs = [.ref p] /\ SqL X.K H p (ns.map V.int) /\ ns.length < 64 /\
  ∀ (l : Addr) (ns' : List Int), H l = none -> ns'.Perm ns -> ns'.Pairwise (· ≤ ·) -> Q (.ref l) (upd H l (.lst (ns'.map V.int)))) := by
 intro pins s σ H xs us Q I r h
 obtain ⟨p, ns, rfl, hq, h64, q⟩ := h
 obtain ⟨u, rfl, rx⟩ := z41 r
 cases rx
 obtain ⟨its, rv, pl, hz⟩ := I.list hq
 have hl := rv.length
 rw [List.length_map] at hl hz
 refine sorted_ints pl.isList (y05 rv) (by omega) fun out ns' a1 a2 a3 => ?_
 obtain ⟨e, he⟩ := sortedAll_at s.heap its out
 have hlen := a2.length_eq
 refine ⟨.ref (s.heap.objs.size + 1), _, I.laid (t' := s.toks) (fun b o e => sortedAll_old e) (Nat.le_succ _) (show z1B X.prog X.w _ _ _ (.lst (ns'.map V.int)) from ⟨?_, out.toList, e, z4D a1, ?_⟩), rfl, q _ ns' (I.hok.fresh (Nat.le_succ _)) a2 a3⟩
 ·rw [List.length_map, hlen]; exact hz
 ·simpa using he

end
end L2

namespace L2
open PySem PySem.Spec PyProof.Rows
section
variable {X : Cx} {tg : Expr}

end
abbrev z8J (J : It) (g : TG) (tc : TT) (te : TE) (σ0 : St) (H1 : Hp) (F : List V -> Hp -> Prop) : Prop :=
 ∃ W : Nat -> Nat -> List V -> Hp -> Prop, (∃ m, W 0 m [] H1) /\ ∀ i m ys H, W i m ys H ->
  (J.stop i H /\ F ys H) \/ (J.go i H /\ ys.length < sizeLine /\ ∃ N : List V -> Hp -> Prop, (∀ zs H', N zs H' -> ∃ m', m' < m /\ W (i + 1) m' zs H') /\
   ∀ x H', J.yld i H x H' -> z1D g tc te σ0 x H' ys N)
theorem z3l {K : PySem.W.Frag} {a : Addr} {xs : List V} {g : TG} {tc : TT} {te : TE} {σ0 : St} {H1 : Hp} {F : List V -> Hp -> Prop} (Pv : Nat -> List V -> Hp -> Prop) (h0 : Pv 0 [] H1)
  (hl : ∀ i ys H, i ≤ xs.length -> Pv i ys H -> SqL K H a xs /\ ys.length < sizeLine)
  (hs : ∀ i x ys H, xs[i]? = some x -> Pv i ys H -> z1D g tc te σ0 x H ys (Pv (i + 1))) (hd : ∀ ys H, Pv xs.length ys H -> F ys H) : z8J (Itl K a) g tc te σ0 H1 F := by
 refine ⟨fun i m ys H => m = xs.length - i /\ i ≤ xs.length /\ Pv i ys H, ⟨xs.length, by simp, Nat.zero_le _, h0⟩, ?_⟩
 rintro i m ys H ⟨rfl, hi, p⟩
 obtain ⟨q, z⟩ := hl i ys H hi p
 by_cases hlt : i < xs.length
 ·refine .inr ⟨⟨xs, xs[i], q, by simp [hlt]⟩, z, Pv (i + 1), fun zs H' p' => ⟨xs.length - (i + 1), by omega, rfl, hlt, p'⟩, fun x H' y => ?_⟩
  obtain ⟨e, y⟩ := y
  subst e
  exact hs i x ys _ (y xs q) p
 ·have e : i = xs.length := by omega
  subst e
  exact .inl ⟨⟨xs, q, Nat.le_refl _⟩, hd ys H p⟩
theorem z33 {K : PySem.W.Frag} {a : Addr} {xs : List V} {g : TG} {tc : TT} {te : TE} {σ0 : St} {H1 : Hp} {F : List V -> Hp -> Prop} (Pv : Nat -> List V -> Hp -> Prop) (h0 : Pv 0 [] H1)
  (hl : ∀ i ys H, i ≤ xs.length -> Pv i ys H -> SqT K H a xs /\ ys.length < sizeLine)
  (hs : ∀ i x ys H, xs[i]? = some x -> Pv i ys H -> z1D g tc te σ0 x H ys (Pv (i + 1))) (hd : ∀ ys H, Pv xs.length ys H -> F ys H) : z8J (Itt K a) g tc te σ0 H1 F := by
 refine ⟨fun i m ys H => m = xs.length - i /\ i ≤ xs.length /\ Pv i ys H, ⟨xs.length, by simp, Nat.zero_le _, h0⟩, ?_⟩
 rintro i m ys H ⟨rfl, hi, p⟩
 obtain ⟨q, z⟩ := hl i ys H hi p
 by_cases hlt : i < xs.length
 ·refine .inr ⟨⟨xs, xs[i], q, by simp [hlt]⟩, z, Pv (i + 1), fun zs H' p' => ⟨xs.length - (i + 1), by omega, rfl, hlt, p'⟩, fun x H' y => ?_⟩
  obtain ⟨e, y⟩ := y
  subst e
  exact hs i x ys _ (y xs q) p
 ·have e : i = xs.length := by omega
  subst e
  exact .inl ⟨⟨xs, q, Nat.le_refl _⟩, hd ys H p⟩
theorem z50 {lo : Int} {n : Nat} {g : TG} {tc : TT} {te : TE} {σ0 : St} {H1 : Hp} {F : List V -> Hp -> Prop} (Pv : Nat -> List V -> Hp -> Prop) (h0 : Pv 0 [] H1)
  (hl : ∀ i ys H, i ≤ n -> Pv i ys H -> ys.length < sizeLine)
  (hs : ∀ i ys H, i < n -> Pv i ys H -> z1D g tc te σ0 (.int (lo + i)) H ys (Pv (i + 1))) (hd : ∀ ys H, Pv n ys H -> F ys H) : z8J (Itr lo n) g tc te σ0 H1 F := by
 refine ⟨fun i m ys H => m = n - i /\ i ≤ n /\ Pv i ys H, ⟨n, by simp, Nat.zero_le _, h0⟩, ?_⟩
 rintro i m ys H ⟨rfl, hi, p⟩
 have z := hl i ys H hi p
 by_cases hlt : i < n
 ·refine .inr ⟨hlt, z, Pv (i + 1), fun zs H' p' => ⟨n - (i + 1), by omega, rfl, hlt, p'⟩, fun x H' y => ?_⟩
  obtain ⟨e, y⟩ := y
  subst e y
  exact hs i ys _ hlt p
 ·have e : i = n := by omega
  subst e
  exact .inl ⟨Nat.le_refl _, hd ys H p⟩
def z2z {α : Type} (p : α -> Bool) (f : α -> V) (zs : List α) : List V := (zs.filter p).map f
theorem z4V {α : Type} (p : α -> Bool) (f : α -> V) (zs : List α) (z : α) : z2z p f (zs ++ [z]) = if p z = true then z2z p f zs ++ [f z] else z2z p f zs := by
 unfold z2z
 rw [List.filter_append, List.map_append]
 cases h : p z <;> simp [h]
theorem z7w {α : Type} (p : α -> Bool) (f : α -> V) (zs : List α) : (z2z p f zs).length ≤ zs.length := by
 unfold z2z
 rw [List.length_map]
 exact List.length_filter_le _ _
theorem z0w {α : Type} {zs : List α} {i : Nat} {z : α} (h : zs[i]? = some z) : zs.take (i + 1) = zs.take i ++ [z] := by
 rw [List.take_add_one, h]
 rfl
theorem z8v {K : PySem.W.Frag} {a : Addr} {ns : List Int} {g : TG} {tc : TT} {te : TE} {σ0 : St} {H1 : Hp} {F : List V -> Hp -> Prop} (p : Int -> Bool) (f : Int -> V) (hq : SqL K H1 a (ns.map V.int)) (hz : ns.length ≤ 1000)
  (hs : ∀ n ys N, n ∈ ns -> N (if p n = true then ys ++ [f n] else ys) H1 -> z1D g tc te σ0 (.int n) H1 ys N) (hd : F (z2z p f ns) H1) : z8J (Itl K a) g tc te σ0 H1 F := by
 refine z3l (xs := ns.map V.int) (fun i ys H => H = H1 /\ ys = z2z p f (ns.take i)) ⟨rfl, rfl⟩ (fun i ys H hi hp => ?_) (fun i x ys H hx hp => ?_) (fun ys H hp => ?_)
 ·obtain ⟨rfl, rfl⟩ := hp
  refine ⟨hq, z0i ?_⟩
  have h1 := z7w p f (ns.take i)
  have h2 := List.length_take_le i ns
  have h3 : (ns.take i).length ≤ ns.length := by rw [List.length_take]; omega
  omega
 ·obtain ⟨rfl, rfl⟩ := hp
  rw [List.getElem?_map] at hx
  cases e : ns[i]? with
  | none => rw [e] at hx; cases hx
  | some n =>
   rw [e] at hx
   cases hx
   refine hs n _ _ (List.mem_of_getElem? e) ⟨rfl, ?_⟩
   rw [z0w e, z4V]
 ·obtain ⟨rfl, rfl⟩ := hp
  rw [List.length_map, List.take_length]
  exact hd
theorem z72 {K : PySem.W.Frag} {a : Addr} {ns : List Int} {g : TG} {tc : TT} {te : TE} {σ0 : St} {H1 : Hp} {F : List V -> Hp -> Prop} (p : Int -> Bool) (f : Int -> V) (hq : SqT K H1 a (ns.map V.int)) (hz : ns.length ≤ 1000)
  (hs : ∀ n ys N, n ∈ ns -> N (if p n = true then ys ++ [f n] else ys) H1 -> z1D g tc te σ0 (.int n) H1 ys N) (hd : F (z2z p f ns) H1) : z8J (Itt K a) g tc te σ0 H1 F := by
 refine z33 (xs := ns.map V.int) (fun i ys H => H = H1 /\ ys = z2z p f (ns.take i)) ⟨rfl, rfl⟩ (fun i ys H hi hp => ?_) (fun i x ys H hx hp => ?_) (fun ys H hp => ?_)
 ·obtain ⟨rfl, rfl⟩ := hp
  refine ⟨hq, z0i ?_⟩
  have h1 := z7w p f (ns.take i)
  have h3 : (ns.take i).length ≤ ns.length := by rw [List.length_take]; omega
  omega
 ·obtain ⟨rfl, rfl⟩ := hp
  rw [List.getElem?_map] at hx
  cases e : ns[i]? with
  | none => rw [e] at hx; cases hx
  | some n =>
   rw [e] at hx
   cases hx
   refine hs n _ _ (List.mem_of_getElem? e) ⟨rfl, ?_⟩
   rw [z0w e, z4V]
 ·obtain ⟨rfl, rfl⟩ := hp
  rw [List.length_map, List.take_length]
  exact hd
def upI (lo : Int) (n : Nat) : List Int := (List.range n).map fun (k : Nat) => lo + (k : Int)
theorem z4o (lo : Int) (n : Nat) : upI lo (n + 1) = upI lo n ++ [lo + (n : Int)] := by
 unfold upI
 rw [List.range_succ, List.map_append]
 rfl
theorem z0O (lo : Int) (n : Nat) : (upI lo n).length = n := by unfold upI; rw [List.length_map, List.length_range]
theorem z1C {lo : Int} {n : Nat} {x : Int} : x ∈ upI lo n ↔ lo ≤ x /\ x < lo + n := by
 unfold upI
 rw [List.mem_map]
 constructor
 ·rintro ⟨k, hk, rfl⟩
  have := List.mem_range.mp hk
  omega
 ·rintro ⟨h1, h2⟩
  exact ⟨(x - lo).toNat, List.mem_range.mpr (by omega), by omega⟩
theorem z65 {lo : Int} {n : Nat} {g : TG} {tc : TT} {te : TE} {σ0 : St} {H1 : Hp} {F : List V -> Hp -> Prop} (p : Int -> Bool) (f : Int -> V) (hz : n ≤ 1000)
  (hs : ∀ k ys N, lo ≤ k -> k < lo + n -> N (if p k = true then ys ++ [f k] else ys) H1 -> z1D g tc te σ0 (.int k) H1 ys N) (hd : F (z2z p f (upI lo n)) H1) : z8J (Itr lo n) g tc te σ0 H1 F := by
 refine z50 (fun i ys H => H = H1 /\ ys = z2z p f (upI lo i)) ⟨rfl, rfl⟩ (fun i ys H hi hp => ?_) (fun i ys H hx hp => ?_) (fun ys H hp => ?_)
 ·obtain ⟨rfl, rfl⟩ := hp
  have h1 := z7w p f (upI lo i)
  rw [z0O] at h1
  exact z0i (by omega)
 ·obtain ⟨rfl, rfl⟩ := hp
  refine hs _ _ _ (by omega) (by omega) ⟨rfl, ?_⟩
  rw [z4o, z4V]
 ·obtain ⟨rfl, rfl⟩ := hp
  exact hd

section
variable {X : Cx}
theorem z1I : z3p X (.builtin "isinstance") (fun xs H Q => ∃ x T t b, xs = [x, .ty T] /\ TyOf X.K H x t /\ PySem.W.kitOne X.K t (.type T) = some b /\ Q (.bl b) H) := by
 intro pins s σ H xs us Q I r h
 obtain ⟨x, T, t, b, rfl, ty, e, q⟩ := h
 obtain ⟨u, w', rfl, rx, ry⟩ := y16 r
 cases (show w' = Value.type T from ry)
 exact y0O I rx ty e fun tk => ⟨.bl b, H, I.tok _, rfl, q⟩

theorem y4O (hu : X.A.units < cLine) : OpR X (compareOp .NotEq) (fun x y H Q => ∃ a b xs, x = .ref a /\ y = .ref b /\ SqL X.K H a xs /\ SqL X.K H b [] /\ Q (.bl (!xs.isEmpty)) H) := by
 intro pins s σ H x y v u Q I rx ry h
 obtain ⟨a, b, xs, rfl, rfl, ha, hb, q⟩ := h
 cases rx
 cases ry
 obtain ⟨its, r, pl, hz⟩ := I.list ha
 obtain ⟨its2, r2, pl2, hz2⟩ := I.list hb
 cases r2
 have hl := r.length
 cases xs with
 | nil =>
  cases r
  exact SeqAt.RcNeAt.lists (e := fun _ => true) pl.isList pl2.isList rfl hu (fun j h1 _ => absurd h1 (Nat.not_lt_zero _)) X.prog X.w X.xe _ ⟨.bl false, H, I, rfl, q⟩
 | cons x0 xr =>
  refine SeqAt.RcNeAt.lists_lengths pl.isList pl2.isList ?_ hu X.prog X.w X.xe _ ⟨.bl true, H, I, rfl, q⟩
  rw [List.size_toArray, <- hl]
  rfl
end
end L2

namespace L2
open PySem PySem.Spec PyProof.Rows
def z9z (N : List Str) (kind : Str -> Option NameKind) (rl : List (Str × NameKind)) : List Str -> List Nat -> Bool
 | x :: xs, i :: is => decide (N[i]? = some x) && (decide (kind x = some .cell) || decide (kind x = some .free)) && (decide (rl.lookup x = some .cell) || decide (rl.lookup x = some .free)) && z9z N kind rl xs is
 | _, _ => true
theorem y3m {N : List Str} {kind : Str -> Option NameKind} {rl : List (Str × NameKind)} : ∀ {caps : List Str} {ix : List Nat}, z9z N kind rl caps ix = true -> ∀ (j i : Nat) (x : Str), caps[j]? = some x -> ix[j]? = some i ->
  N[i]? = some x /\ (kind x = some .cell \/ kind x = some .free) /\ (rl.lookup x = some .cell \/ rl.lookup x = some .free)
 | [], _, _, j, i, x, e, _ => by simp at e
 | _ :: _, [], _, j, i, x, _, e => by simp at e
 | y :: ys, k :: ks, h, j, i, x, e1, e2 => by
  unfold z9z at h
  rw [Bool.and_eq_true, Bool.and_eq_true, Bool.and_eq_true, Bool.or_eq_true, Bool.or_eq_true] at h
  obtain ⟨⟨⟨h1, h2⟩, h3⟩, h4⟩ := h
  cases j with
  | zero =>
   simp at e1 e2
   subst e1 e2
   exact ⟨of_decide_eq_true h1, h2.imp of_decide_eq_true of_decide_eq_true, h3.imp of_decide_eq_true of_decide_eq_true⟩
  | succ j => exact y3m h4 j i x (by simpa using e1) (by simpa using e2)
theorem z0y {X : Cx} {scope : Scope} {cl : List (Str × Addr)} {own caps : List Str} {ix : List Nat} (clos : z6a X.env.cells scope.names [] = some cl) (cell : ∀ y ∈ scope.names, y.2 ≠ .cell) (kind : scope.kind = .function)
  (names : ∀ y ∈ scope.names, y.2 = .local -> scope.names.lookup y.1 = some .local) (n : caps.length = ix.length) (cap : z9z X.N X.env.kindOf (relabel scope X.env).names caps ix = true) : CompScope X scope cl own caps ix :=
 ⟨clos, cell, kind, names, n, fun j i x e1 e2 => by
  obtain ⟨a, b, c⟩ := y3m cap j i x e1 e2
  refine ⟨a, fun z => ?_, b.elim (fun q => .inr (.inl q)) (fun q => .inr (.inr q)), c⟩
  rcases b with b | b <;> (rw [b] at z; cases z)⟩

theorem z7O {X : Cx} {K : PySem.W.Frag} {es : List Expr} {k : Nat} {t : TGs} {n : Nat} {pos : Pos} (hK : X.K = K) (hc : X.calm = true) (h : PGs X es t)
  (hn : (assignEach es X.env).length = n := by rfl) (hst : (assignEach es X.env).findIdx? (·.1) = none := by rfl) : PG X (.Tuple es k pos) (gTup K n t) := by
 subst hK
 exact y4J hc h hn hst

structure Cal (P : Program) (w : World) (K : PySem.W.Frag) (mg : Str -> Option Value) (base : Heap) (k : Nat) (x : Str) (ps : List Str) (sp : Sp) : Prop where
 ex : ∃ (f : Addr) (fd : FuncData), FnOk P w K mg base CX0 k f fd ps sp /\ z3q K fd ps [] /\ PySem.W.keepIn K (.ref f) = true /\ mg x = some (.ref f)
theorem Cal.mk' {P : Program} {w : World} {K : PySem.W.Frag} {mg : Str -> Option Value} {base : Heap} {k : Nat} {x : Str} {ps : List Str} {sp : Sp} {f : Addr} {fd : FuncData} (a : FnOk P w K mg base CX0 k f fd ps sp) (b : z3q K fd ps []) (c : PySem.W.keepIn K (.ref f) = true) (d : mg x = some (.ref f)) :
  Cal P w K mg base k x ps sp := ⟨⟨f, fd, a, b, c, d⟩⟩
theorem z0r {X : Cx} {k : Nat} {x : Str} {ps : List Str} {sp : Sp} {e : Expr} {es : List Expr} {t : TA} {p pos : Pos} (G : Cal X.prog X.w X.K X.mg X.base k x ps sp) (hr : Room k X.A) (hg : Gl X x) (ha : PA X (e :: es) t)
  (hdb : (x == ("__debug__" : Str)) = false := by decide) (he : starEach (e :: es) X.env = (false, eval e X.env) :: starEach es X.env := by rfl) (hpl : (backTo pos (starEach es X.env)).any (·.1) = false := by rfl) :
  PE X (.Call (.Name x p) (e :: es) [] pos) (y4t sp [] E0 t) := by
 obtain ⟨f, fd, a, b, c, d⟩ := G.ex
 exact y3s a hr hg d c b .nil y33 ha hdb he hpl
end L2

namespace L2
open PySem PySem.Spec PyProof.Rows
def cutS (z : Str) (lo hi : Option Int) : Str := ⟨((z.cps.toList.drop (HT.sIx z.length 0 lo)).take (HT.sIx z.length z.length hi - HT.sIx z.length 0 lo)).toArray⟩
theorem z7h {x y : Str} (h : x.cps.toList = y.cps.toList) : x = y := by
 obtain ⟨a⟩ := x
 obtain ⟨b⟩ := y
 exact congrArg Str.mk (Array.toList_inj.mp h)
theorem z1G (z : Str) : z.cps.toList.length = z.length := by simp [Str.length]
theorem z9q (lo hi : Option Int) (n : Nat) : Builtin.Str.strSliceIndices lo hi 1 n = (List.range (HT.sIx n n hi - HT.sIx n 0 lo)).map (fun k => HT.sIx n 0 lo + k) := by
 obtain ⟨h1, h2, h3⟩ := z5q lo hi n
 have e : Builtin.Str.strSliceIndices lo hi 1 n = sliceRange (sliceBounds lo hi none n).1 (sliceBounds lo hi none n).2.1 1 := by
  unfold Builtin.Str.strSliceIndices sliceBounds
  cases lo <;> cases hi <;> rfl
 rw [e, h1, h2, sliceRange_one]
theorem y2A {z : Str} {t : Tok} {l u : Option (Int × Tok)} {Q : Value -> Shared -> Prop} {s : Shared} (hz : z.length ≤ sizeLine) (h : ∀ t' tk, Q (.str (cutS z (l.map (·.1)) (u.map (·.1))) t') { s with toks := tk }) : (sliceMade z t l u none).post Q s := by
 have picked : slicePicked z l u none = (List.range (HT.sIx z.length z.length (u.map (·.1)) - HT.sIx z.length 0 (l.map (·.1)))).map (fun k => HT.sIx z.length 0 (l.map (·.1)) + k) := z9q _ _ _
 have items : (slicePicked z l u none).filterMap (z.cps[·]?) = (cutS z (l.map (·.1)) (u.map (·.1))).cps.toList := by
  rw [picked, pick_run]
  rfl
 have lh := HT.y39 z.length z.length (Nat.le_refl _) (u.map (·.1))
 unfold sliceMade
 by_cases c : (((none : Option (Int × Tok)).map (·.1)).getD 1 == 1 && (slicePicked z l u none).length == z.length) = true
 ·rw [if_pos c]
  rw [Bool.and_eq_true] at c
  have c2 : (slicePicked z l u none).length = z.length := eq_of_beq c.2
  rw [picked, List.length_map, List.length_range] at c2
  have e : cutS z (l.map (·.1)) (u.map (·.1)) = z := by
   apply z7h
   show (z.cps.toList.drop _).take _ = _
   by_cases hz0 : z.length = 0
   ·have : z.cps.toList = [] := List.eq_nil_of_length_eq_zero (by rw [z1G]; exact hz0)
    rw [this]
    simp
   ·have e1 : HT.sIx z.length 0 (l.map (·.1)) = 0 := by omega
    rw [e1, List.drop_zero, List.take_of_length_le]
    rw [z1G]
    omega
  have := h t s.toks
  rw [e] at this
  exact this
 ·rw [if_neg c, items]
  refine ⟨?_, ?_⟩
  ·show (((cutS z (l.map (·.1)) (u.map (·.1))).cps.toList.toArray).size) ≤ sizeLine
   rw [List.size_toArray]
   show ((z.cps.toList.drop _).take _).length ≤ _
   rw [List.length_take, List.length_drop, z1G]
   omega
  ·have := h s.toks (s.toks + 1)
   have e : (⟨(cutS z (l.map (·.1)) (u.map (·.1))).cps.toList.toArray⟩ : Str) = cutS z (l.map (·.1)) (u.map (·.1)) := z7h (by simp)
   rw [e]
   exact this
section
variable {X : Cx}
theorem z5s {v : Value} {o : Option Int} (h : IsPart v o) : ∃ p : Option (Int × Tok), v = partValue p /\ p.map (·.1) = o := by
 cases h with
 | none => exact ⟨none, rfl, rfl⟩
 | int i t => exact ⟨some (i, t), rfl, rfl⟩
def rSlS : V -> Option Int -> Option Int -> Hp -> VK -> Prop := fun x lo hi H Q => ∃ z, x = .str z /\ z.length ≤ sizeLine /\ Q (.str (cutS z lo hi)) H
theorem y3b : SlR X rSlS := by
 intro pins s σ H x v vl vu lo hi sl Q I rx hs pl pu h
 obtain ⟨z, rfl, hz, q⟩ := h
 obtain ⟨t, rfl⟩ := rx
 obtain ⟨l, rfl, rfl⟩ := z5s pl
 obtain ⟨u, rfl, rfl⟩ := z5s pu
 refine ⟨"str", _, slot_str_getitem.lookup, typeIs_str s z t, ?_⟩
 obtain ⟨o, ho, hc, hd⟩ := hs
 refine wpAny_getItem_str_slice (l := l) (u := u) (st := none) ⟨o, ho, hc, hd⟩ rfl (y2A hz fun t' tk => ?_)
 exact ⟨.str _, H, I.tok _, ⟨_, rfl⟩, q⟩
def repS (z : Str) (n : Nat) : Str := ⟨(List.replicate n z.cps.toList).flatten.toArray⟩
theorem z9N (z : Array Nat) : ∀ (n : Nat) (acc : Array Nat), (List.foldl (fun a b => a ++ b) acc (List.replicate n z)).toList = acc.toList ++ (List.replicate n z.toList).flatten
 | 0, acc => by simp
 | n + 1, acc => by
  rw [List.replicate_succ, List.foldl_cons, z9N z n]
  simp [List.replicate_succ]
theorem y0a : OpR X (binaryOp .Mult) (fun x y H Q => ∃ z n, x = .str z /\ y = .int n /\ 1 ≤ n /\ n ≤ 1000 /\ z.length ≤ 1000 /\ Q (.str (repS z n.toNat)) H) := by
 intro pins s σ H x y v u Q I rx ry h
 obtain ⟨z, n, rfl, rfl, h1, h2, hz, q⟩ := h
 obtain ⟨t, rfl⟩ := rx
 obtain ⟨t', rfl⟩ := ry
 have hs : sizeLine = 16777216 := sizeLine_eq
 have hm : z.length * n.toNat ≤ 1000 * 1000 := Nat.mul_le_mul hz (by omega)
 have fin : ∀ t' tk, EP X pins σ Q (.str (repS z n.toNat) t') { s with toks := tk } := fun t' tk => ⟨.str _, H, I.tok _, ⟨_, rfl⟩, q⟩
 refine PySem.P.mul_str ?_ (fun _ _ => ?_) (fun _ _ => ?_) ?_
 ·rw [decide_eq_false (show ¬ n < -(2 ^ 63 : Int) by omega), decide_eq_false (show ¬ n ≥ 2 ^ 63 by omega)]
  rfl
 ·have : (1000 : Int) ≤ (2 ^ 63 - 1) / n := by
   apply Int.le_ediv_of_mul_le (by omega)
   have : 1000 * n ≤ 1000 * 1000 := Int.mul_le_mul_of_nonneg_left h2 (by decide)
   omega
  omega
 ·unfold Builtin.Str.tooLong
  exact decide_eq_false (by omega)
 ·rw [if_neg (by omega)]
  by_cases c : (n == 1 || z.length == 0) = true
  ·rw [if_pos c]
   have e : repS z n.toNat = z := by
    apply z7h
    show ((List.replicate n.toNat z.cps.toList).flatten.toArray).toList = _
    rw [Bool.or_eq_true] at c
    rcases c with c | c
    ·have : n = 1 := eq_of_beq c
     subst this
     simp
    ·have : z.length = 0 := eq_of_beq c
     have : z.cps.toList = [] := List.eq_nil_of_length_eq_zero (by rw [z1G]; exact this)
     rw [this]
     simp
   have := fin t s.toks
   rw [e] at this
   exact this
  ·rw [if_neg c]
   have e : (⟨(List.replicate n.toNat z.cps).foldl (· ++ ·) #[]⟩ : Str) = repS z n.toNat := by
    apply z7h
    show (List.foldl (fun a b => a ++ b) #[] (List.replicate n.toNat z.cps)).toList = ((List.replicate n.toNat z.cps.toList).flatten.toArray).toList
    rw [z9N]
    simp
   refine ⟨?_, ?_⟩
   ·rw [e, <- z1G]
    show ((List.replicate n.toNat z.cps.toList).flatten.toArray).toList.length ≤ sizeLine
    have : ((List.replicate n.toNat z.cps.toList).flatten.toArray).toList.length = n.toNat * z.length := by
     simp [List.length_flatten, List.map_replicate, z1G]
     rfl
    rw [this, Nat.mul_comm]
    omega
   ·rw [e]
    exact fin _ _
end
end L2

namespace L2
open PySem
inductive DV where
 | non | bl (b : Bool) | int (i : Int) | str (x : Str) | tup (l : List DV)
mutual
def Tell (H : Hp) : DV -> V -> Prop
 | .non, x => x = .non
 | .bl b, x => x = .bl b
 | .int i, x => x = .int i
 | .str s, x => x = .str s
 | .tup ds, x => ∃ a xs, x = .ref a /\ H a = some (.tup xs) /\ xs.length ≤ 1000000 /\ z09 H ds xs
def z09 (H : Hp) : List DV -> List V -> Prop
 | [], xs => xs = []
 | d :: ds, xs => ∃ x r, xs = x :: r /\ Tell H d x /\ z09 H ds r
end
mutual
theorem Tell.keep {H H' : Hp} (s : Same H H') : ∀ (d : DV) (x : V), Tell H d x -> Tell H' d x
 | .non, _, h => h
 | .bl _, _, h => h
 | .int _, _, h => h
 | .str _, _, h => h
 | .tup ds, _, h => by
  unfold Tell at h ⊢
  obtain ⟨a, xs, e, h1, h2, h3⟩ := h
  exact ⟨a, xs, e, s _ _ h1, h2, z09.keep s ds xs h3⟩
theorem z09.keep {H H' : Hp} (s : Same H H') : ∀ (ds : List DV) (xs : List V), z09 H ds xs -> z09 H' ds xs
 | [], _, h => h
 | d :: ds, _, h => by
  unfold z09 at h ⊢
  obtain ⟨x, r, e, h1, h2⟩ := h
  exact ⟨x, r, e, Tell.keep s d x h1, z09.keep s ds r h2⟩
end
mutual
theorem Tell.over {H : Hp} {l : Addr} {o o' : HO} (hl : H l = some o) (hn : ∀ xs, o ≠ .tup xs) : ∀ (d : DV) (x : V), Tell H d x -> Tell (upd H l o') d x
 | .non, _, h => h
 | .bl _, _, h => h
 | .int _, _, h => h
 | .str _, _, h => h
 | .tup ds, _, h => by
  unfold Tell at h ⊢
  obtain ⟨a, xs, e, h1, h2, h3⟩ := h
  exact ⟨a, xs, e, by rw [z0g (z43 h1 hl (fun z => hn xs z.symm))]; exact h1, h2, z09.over hl hn ds xs h3⟩
theorem z09.over {H : Hp} {l : Addr} {o o' : HO} (hl : H l = some o) (hn : ∀ xs, o ≠ .tup xs) : ∀ (ds : List DV) (xs : List V), z09 H ds xs -> z09 (upd H l o') ds xs
 | [], _, h => h
 | d :: ds, _, h => by
  unfold z09 at h ⊢
  obtain ⟨x, r, e, h1, h2⟩ := h
  exact ⟨x, r, e, Tell.over hl hn d x h1, z09.over hl hn ds r h2⟩
end
theorem z09.length {H : Hp} : ∀ {ds : List DV} {xs : List V}, z09 H ds xs -> xs.length = ds.length
 | [], _, h => by unfold z09 at h; rw [h]; rfl
 | d :: ds, _, h => by
  unfold z09 at h
  obtain ⟨x, r, rfl, _, h2⟩ := h
  rw [List.length_cons, List.length_cons, z09.length h2]
theorem z09.get {H : Hp} : ∀ {ds : List DV} {xs : List V}, z09 H ds xs -> ∀ (i : Nat) (d : DV), ds[i]? = some d -> ∃ x, xs[i]? = some x /\ Tell H d x
 | [], _, _, i, d, e => by simp at e
 | d0 :: ds, _, h, 0, d, e => by
  unfold z09 at h
  obtain ⟨x, r, rfl, h1, _⟩ := h
  simp at e
  subst e
  exact ⟨x, rfl, h1⟩
 | d0 :: ds, _, h, i + 1, d, e => by
  unfold z09 at h
  obtain ⟨x, r, rfl, _, h2⟩ := h
  obtain ⟨y, e1, e2⟩ := z09.get h2 i d (by simpa using e)
  exact ⟨y, by simpa using e1, e2⟩
theorem z09.at {H : Hp} : ∀ {ds : List DV} {xs : List V}, z09 H ds xs -> ∀ (i : Nat) (x : V), xs[i]? = some x -> ∃ d, ds[i]? = some d /\ Tell H d x
 | [], _, h, i, x, e => by
  unfold z09 at h
  subst h
  simp at e
 | d0 :: ds, _, h, 0, x, e => by
  unfold z09 at h
  obtain ⟨x0, r, rfl, h1, _⟩ := h
  simp at e
  subst e
  exact ⟨d0, rfl, h1⟩
 | d0 :: ds, _, h, i + 1, x, e => by
  unfold z09 at h
  obtain ⟨x0, r, rfl, _, h2⟩ := h
  obtain ⟨y, e1, e2⟩ := z09.at h2 i x (by simpa using e)
  exact ⟨y, by simpa using e1, e2⟩
theorem z09.nil {H : Hp} : z09 H [] [] := by unfold z09; rfl
theorem z09.cons {H : Hp} {d : DV} {ds : List DV} {x : V} {xs : List V} (h : Tell H d x) (t : z09 H ds xs) : z09 H (d :: ds) (x :: xs) := by unfold z09; exact ⟨x, xs, rfl, h, t⟩
theorem z09.snoc {H : Hp} : ∀ {ds : List DV} {xs : List V} {d : DV} {x : V}, z09 H ds xs -> Tell H d x -> z09 H (ds ++ [d]) (xs ++ [x])
 | [], _, _, _, h, q => by
  unfold z09 at h
  subst h
  exact z09.cons q .nil
 | d0 :: ds, _, _, _, h, q => by
  unfold z09 at h
  obtain ⟨x0, r, rfl, h1, h2⟩ := h
  exact z09.cons h1 (z09.snoc h2 q)
theorem z0F {H : Hp} (i : Int) : Tell H (.int i) (.int i) := by unfold Tell; rfl
theorem z3Y {H : Hp} (x : Str) : Tell H (.str x) (.str x) := by unfold Tell; rfl
theorem z7E {H : Hp} : Tell H .non .non := by unfold Tell; rfl
theorem z0D {H : Hp} {a : Addr} {xs : List V} {ds : List DV} (h : H a = some (.tup xs)) (hl : ds.length ≤ 1000000) (t : z09 H ds xs) : Tell H (.tup ds) (.ref a) := by
 unfold Tell
 exact ⟨a, xs, rfl, h, by rw [t.length]; exact hl, t⟩
theorem z55 {H : Hp} : ∀ (l : List Str), z09 H (l.map DV.str) (l.map V.str)
 | [] => .nil
 | i :: r => .cons (z3Y i) (z55 r)
theorem z45 {H : Hp} : ∀ {l : List Str} {xs : List V}, z09 H (l.map DV.str) xs -> xs = l.map V.str
 | [], _, h => by unfold z09 at h; exact h
 | i :: r, _, h => by
  rw [List.map_cons] at h
  unfold z09 at h
  obtain ⟨x, t, rfl, h1, h2⟩ := h
  unfold Tell at h1
  rw [h1, z45 h2]
  rfl
theorem z0s {H : Hp} {ds : List DV} {x : V} (h : Tell H (.tup ds) x) : ∃ a xs, x = .ref a /\ H a = some (.tup xs) /\ xs.length ≤ 1000000 /\ z09 H ds xs := by
 unfold Tell at h
 exact h
theorem z14 {H : Hp} {i : Int} {x : V} (h : Tell H (.int i) x) : x = .int i := by unfold Tell at h; exact h
theorem z3O {H : Hp} {i : Str} {x : V} (h : Tell H (.str i) x) : x = .str i := by unfold Tell at h; exact h
theorem z0d {H : Hp} {d : DV} {ds : List DV} {xs : List V} (h : z09 H (d :: ds) xs) : ∃ x r, xs = x :: r /\ Tell H d x /\ z09 H ds r := by
 unfold z09 at h
 exact h
theorem z0Y {H : Hp} {xs : List V} (h : z09 H [] xs) : xs = [] := by unfold z09 at h; exact h
mutual
def DV.deep : DV -> Nat
 | .tup ds => DV.deeps ds + 1
 | _ => 0
def DV.deeps : List DV -> Nat
 | [] => 0
 | d :: ds => max d.deep (DV.deeps ds)
end
def y03 : V -> Bool
 | .non => true
 | .bl _ => true
 | .int _ => true
 | .str _ => true
 | _ => false
def z40 (H : Hp) : Nat -> V -> V -> Prop
 | 0, x, y => x = y /\ y03 x = true
 | n + 1, x, y => (x = y /\ y03 x = true) \/ ∃ (a b : Addr) (xs ys : List V), x = .ref a /\ y = .ref b /\ H a = some (.tup xs) /\ H b = some (.tup ys) /\ xs.length = ys.length /\ ys.length ≤ 1000000 /\
   ∀ (i : Nat) (u v : V), xs[i]? = some u -> ys[i]? = some v -> z40 H n u v
theorem z40.keep {H H' : Hp} (s : Same H H') : ∀ {n : Nat} {x y : V}, z40 H n x y -> z40 H' n x y
 | 0, _, _, h => h
 | n + 1, x, y, h => by
  rcases h with h | ⟨a, b, xs, ys, e1, e2, h1, h2, hl, hm, h⟩
  ·exact .inl h
  ·exact .inr ⟨a, b, xs, ys, e1, e2, s _ _ h1, s _ _ h2, hl, hm, fun i u v hu hv => z40.keep s (h i u v hu hv)⟩
theorem z40.up {H : Hp} : ∀ {n : Nat} {x y : V}, z40 H n x y -> z40 H (n + 1) x y
 | 0, _, _, h => .inl h
 | n + 1, x, y, h => by
  rcases h with h | ⟨a, b, xs, ys, e1, e2, h1, h2, hl, hm, h⟩
  ·exact .inl h
  ·exact .inr ⟨a, b, xs, ys, e1, e2, h1, h2, hl, hm, fun i u v hu hv => z40.up (h i u v hu hv)⟩
theorem z40.mono {H : Hp} {x y : V} {n m : Nat} (h : z40 H n x y) (hm : n ≤ m) : z40 H m x y := by
 induction hm with
 | refl => exact h
 | step _ ih => exact ih.up
mutual
theorem z6I {H : Hp} : ∀ (d : DV) (x y : V), Tell H d x -> Tell H d y -> z40 H d.deep x y
 | .non, x, y, h1, h2 => by
  unfold Tell at h1 h2
  subst h1 h2
  exact ⟨rfl, rfl⟩
 | .bl _, x, y, h1, h2 => by
  unfold Tell at h1 h2
  subst h1 h2
  exact ⟨rfl, rfl⟩
 | .int _, x, y, h1, h2 => by
  unfold Tell at h1 h2
  subst h1 h2
  exact ⟨rfl, rfl⟩
 | .str _, x, y, h1, h2 => by
  unfold Tell at h1 h2
  subst h1 h2
  exact ⟨rfl, rfl⟩
 | .tup ds, x, y, h1, h2 => by
  unfold Tell at h1 h2
  obtain ⟨a, xs, rfl, a1, a2, a3⟩ := h1
  obtain ⟨b, ys, rfl, b1, b2, b3⟩ := h2
  unfold DV.deep
  exact .inr ⟨a, b, xs, ys, rfl, rfl, a1, b1, by rw [a3.length, b3.length], b2, z6v ds xs ys a3 b3⟩
theorem z6v {H : Hp} : ∀ (ds : List DV) (xs ys : List V), z09 H ds xs -> z09 H ds ys -> ∀ (i : Nat) (u v : V), xs[i]? = some u -> ys[i]? = some v -> z40 H (DV.deeps ds) u v
 | [], xs, ys, h1, h2, i, u, v, e1, e2 => by
  unfold z09 at h1
  subst h1
  simp at e1
 | d :: ds, xs, ys, h1, h2, 0, u, v, e1, e2 => by
  unfold z09 at h1 h2
  obtain ⟨x, r, rfl, a1, a2⟩ := h1
  obtain ⟨y, t, rfl, b1, b2⟩ := h2
  simp at e1 e2
  subst e1 e2
  unfold DV.deeps
  exact (z6I d x y a1 b1).mono (Nat.le_max_left _ _)
 | d :: ds, xs, ys, h1, h2, i + 1, u, v, e1, e2 => by
  unfold z09 at h1 h2
  obtain ⟨x, r, rfl, a1, a2⟩ := h1
  obtain ⟨y, t, rfl, b1, b2⟩ := h2
  unfold DV.deeps
  exact (z6v ds r t a2 b2 i u v (by simpa using e1) (by simpa using e2)).mono (Nat.le_max_right _ _)
end
end L2

set_option Elab.async false
set_option linter.all false
set_option maxRecDepth 100000
set_option maxHeartbeats 4000000
namespace L2
open PySem PySem.Spec PyProof.Rows
section
variable {κ : Type} [DecidableEq κ]
def metL (ks : List κ) : List κ := ks.foldl (fun acc k => if k ∈ acc then acc else acc ++ [k]) []
theorem y1B (ks : List κ) (k : κ) : metL (ks ++ [k]) = if k ∈ metL ks then metL ks else metL ks ++ [k] := by
 unfold metL
 rw [List.foldl_append]
 rfl
theorem y1w {ks : List κ} {i : Nat} {k : κ} (h : ks[i]? = some k) : metL (ks.take (i + 1)) = if k ∈ metL (ks.take i) then metL (ks.take i) else metL (ks.take i) ++ [k] := by
 have e : ks.take (i + 1) = ks.take i ++ [k] := by rw [List.take_add_one, h] <;> rfl
 rw [e, y1B]
theorem z6j (k : κ) : ∀ (ks acc : List κ), k ∈ ks.foldl (fun acc k => if k ∈ acc then acc else acc ++ [k]) acc ↔ k ∈ acc \/ k ∈ ks
 | [], acc => by simp
 | x :: r, acc => by
  rw [List.foldl_cons, z6j k r]
  by_cases h : x ∈ acc
  ·rw [if_pos h, List.mem_cons]
   constructor
   ·rintro (a | a)
    ·exact .inl a
    ·exact .inr (.inr a)
   ·rintro (a | rfl | a)
    ·exact .inl a
    ·exact .inl h
    ·exact .inr a
  ·rw [if_neg h, List.mem_append, List.mem_singleton, List.mem_cons, or_assoc]
theorem z9w {k : κ} {ks : List κ} : k ∈ metL ks ↔ k ∈ ks := by unfold metL; rw [z6j]; simp
theorem z6l : ∀ (ks acc : List κ), (ks.foldl (fun acc k => if k ∈ acc then acc else acc ++ [k]) acc).length ≤ acc.length + ks.length
 | [], acc => by simp
 | x :: r, acc => by
  rw [List.foldl_cons]
  refine Nat.le_trans (z6l r _) ?_
  by_cases h : x ∈ acc
  ·rw [if_pos h, List.length_cons]; omega
  ·rw [if_neg h, List.length_append, List.length_cons, List.length_cons, List.length_nil]; omega
theorem z9A (ks : List κ) : (metL ks).length ≤ ks.length := by
 have := z6l ks []
 simpa [metL] using this
theorem z6R : ∀ (ks acc : List κ), (acc ++ ks).Nodup -> ks.foldl (fun acc k => if k ∈ acc then acc else acc ++ [k]) acc = acc ++ ks
 | [], acc, _ => by simp
 | x :: r, acc, h => by
  have hx : x ∉ acc := fun hx => by
   rw [List.nodup_append] at h
   exact h.2.2 x hx x (List.mem_cons_self) rfl
  rw [List.foldl_cons, if_neg hx, z6R r (acc ++ [x]) (by rw [List.append_assoc]; exact h), List.append_assoc]
  rfl
theorem y1Q {ks : List κ} (h : ks.Nodup) : metL ks = ks := by
 have := z6R ks [] (by simpa using h)
 simpa [metL] using this
end

section
variable {prog : Program} {w : World} {A : Around} {κ : Type} [DecidableEq κ] {kd : KeyKind prog w κ} {I : Addr} {fp wr : List Addr} {G : Array GenState -> Array GenState -> Prop} {n : Nat} {P : Nat -> Value -> Prop} {St : Nat -> Shared -> Prop}
abbrev z4F (kd : KeyKind prog w κ) (h : Heap) (a : Addr) (ks : List κ) : Prop := h.SetOf kd a (fun k => decide (k ∈ ks)) (metL ks).length
theorem z4F.at {h h' : Heap} {a : Addr} {ks : List κ} (x : z4F kd h a ks) (e : ∀ o, h.get? a = some o -> h'.get? a = some o) : z4F kd h' a ks := by
 obtain ⟨o, es, ep, t, ho, r⟩ := x
 exact ⟨o, es, ep, t, e o ho, r⟩
theorem z7N {R : Result -> Shared -> Prop} (W : WalksS prog w A.in1 I fp wr G n P St) {a : Addr} (out : a ∉ fp) {ks : List κ} (lk : ks.length = n)
  (vals : ∀ i v, P i v -> ∃ k, ks[i]? = some k /\ kd.is k v = true /\ v.scannable = true) (few : n + 1 < scanBound) :
  ∀ (todo i : Nat) (s : Shared), i + todo = n -> St i s -> z4F kd s.heap a (ks.take i) ->
   (∀ s', Moved (a :: wr) G s s' -> z4F kd s'.heap a ks -> R (.ok (.ret .none)) s') -> codeAny (model prog w) A (.builtin "set.update.loop" ⟨[.ref a, .ref I], []⟩) R s
 | 0, i, s, ei, st, sx, fin => by
  have e : ks.take i = ks := List.take_of_length_le (by omega)
  rw [e] at sx
  have ei' : i = n := by omega
  subst ei'
  refine codeAny_builtin F.entry_set_update_loop ?_
  rw [Around.under_plainId F.plain_set_update_loop _]
  refine wpAny_bind (W.done s _ _ st fun s' mv => wpAny_pure (fin s' (mv.mono fun b hb => .tail _ hb) (sx.at fun o => mv.heap a o fun q => out (W.sub _ q))))
 | todo + 1, i, s, ei, st, sx, fin => by
  refine codeAny_builtin F.entry_set_update_loop ?_
  rw [Around.under_plainId F.plain_set_update_loop _]
  refine wpAny_bind (W.item i s _ _ (by omega) st fun v s1 hv st1 mv => ?_)
  obtain ⟨k, ek, iv, sc⟩ := vals i v hv
  have sx1 := sx.at (h' := s1.heap) fun o => mv.heap a o fun q => out (W.sub _ q)
  refine wpAny_bind (wpAny_holding (m := setAdd a v) ?_)
  unfold setAdd
  refine wpAny_holding (wpAny_bind (kd.pyHash iv ?_))
  have lm := z9A (ks.take i)
  rw [List.length_take] at lm
  refine wpAny_setAddHashed_of (s := { s1 with toks := s1.toks + 1 }) iv sc sx1 (by omega) fun h2 sb sx2 => ?_
  have sx3 : z4F kd h2 a (ks.take (i + 1)) := by
   have e1 : (fun k' => decide (k' ∈ ks.take i) || decide (k' = k)) = fun k' => decide (k' ∈ ks.take (i + 1)) := by
    funext k'
    rw [List.take_add_one, ek]
    simp [Bool.decide_or]
   have e2 : (if decide (k ∈ ks.take i) = true then (metL (ks.take i)).length else (metL (ks.take i)).length + 1) = (metL (ks.take (i + 1))).length := by
    rw [y1w ek]
    by_cases hk : k ∈ ks.take i
    ·rw [if_pos (decide_eq_true hk), if_pos (z9w.mpr hk)]
    ·rw [if_neg (by simpa using hk), if_neg (fun q => hk (z9w.mp q)), List.length_append]
     rfl
   rw [e1, e2] at sx2
   exact sx2
  have far : ∀ b, b ≠ a -> h2.get? b = s1.heap.get? b := fun b hb => sb.2 b hb
  refine wpAny_pure ⟨plainId_quiet F.plain_set_update_loop _, z7N W out lk vals few todo (i + 1) _ (by omega) (W.frame _ s1 _ _ st1 (Nat.le_succ _) fun b hb o q => ?_) sx3 fun s3 mv3 sx4 => ?_⟩
  ·rw [far b fun z => out (z ▸ hb)]; exact q
  ·refine fin s3 (.trans W.gtrans ((mv.mono fun b hb => .tail _ hb).then_heap (Nat.le_succ _) fun b o hb q => ?_) mv3) sx4
   rw [far b fun z => hb (z ▸ .head _)]; exact q
end

namespace Ty
theorem y11 : isSubtype (.type "tuple") (.type "set") = pure false := by rw [isSubtype_type]; kernel_rfl
theorem z5Q : isSubtype (.type "tuple") (.type "frozenset") = pure false := by rw [isSubtype_type]; kernel_rfl
end Ty
abbrev set0 (led : Bool) : Obj := { cls := .type "set", dict := none, data := .set #[] 0 (.fresh 0 0 led) }
section
variable {prog : Program} {w : World} {A : Around} {E : Value -> Shared -> Prop} {s : Shared} {κ : Type} [DecidableEq κ] {kd : KeyKind prog w κ}
theorem y2j {T : String} {p : Addr} {o : Obj} {its : Array Value} {c0 : Nat} {ks : List κ} {Q : Value -> Shared -> Prop} (hh : A.handled = none) (hp : s.heap.get? p = some o) (hc : o.cls = .type T) (hd : o.data = .seq its c0) (hT : T = "list" \/ T = "tuple")
  (lk : ks.length = its.size) (vals : ∀ (i : Nat) v, its[i]? = some v -> ∃ k, ks[i]? = some k /\ kd.is k v = true /\ v.scannable = true) (few : its.size + 1 < scanBound)
  (fin : ∀ (h' : Heap) (t : Nat), z4F kd h' s.heap.objs.size ks -> (∀ b u, b < s.heap.objs.size -> s.heap.get? b = some u -> h'.get? b = some u) -> Q (.ref s.heap.objs.size) { s with heap := h', toks := t }) :
  wpAny (model prog w) A (call (.type "set") [.ref p]) Q E s := by
 obtain ⟨c, tl, hmro⟩ := F.called_set.mro
 have g1 := F.called_set.made
 have g2 := F.called_set.sub
 refine wpAny_call (codeAny_of_tree (wpAny_pure ⟨Code.quiet_builtin _ (by decide +kernel), codeAny_builtin F.entry_type_call ?_⟩))
 rw [Around.under_plain (weight_type_call_type "set" [.ref p] []) rfl]
 have g3 := F.called_set.notType
 have g4 := F.called_set.canCreate
 have g5 := F.typeCall_set_1 (.ref p)
 repeat (any_goals (first | assumption | wp_step))
 refine codeAny_mono (code_set_new_1 (.ref p) (E := E) (Q₁ := fun u s1 => ∃ led, u = .ref s.heap.objs.size /\ s1 = { s with heap := s.heap.push (set0 led) }) fun led => ⟨led, rfl, rfl⟩) fun r s1 q1 => ?_
 rcases r with e | (_ | _ | _ | u)
 all_goals try exact q1.elim
 all_goals try exact q1
 obtain ⟨led, rfl, rfl⟩ := q1
 have at1 : (s.heap.push (set0 led)).get? s.heap.objs.size = some (set0 led) := Heap.get?_push_size _ rfl
 have ty1 : Shared.TypeIs { s with heap := s.heap.push (set0 led) } (.ref s.heap.objs.size) "set" := ⟨_, at1, rfl⟩
 have g6 := F.called_set.init.lookup
 have g7 := F.called_set.init.bind (.ref s.heap.objs.size)
 repeat (any_goals (first | assumption | wp_step))
 refine codeAny_mono (codeAny_call_builtin (R := wants (fun r s2 => r = .none /\ ∃ h' t, s2 = { s with heap := h', toks := t } /\ z4F kd h' s.heap.objs.size ks /\ ∀ b u, b < s.heap.objs.size -> s.heap.get? b = some u -> h'.get? b = some u) E)
  F.called_set.init.plain F.entry_set_init (check_set_init_1 ty1 ?_)) fun r s2 q2 => ?_
 case _ =>
  have hpS : p < s.heap.objs.size := Heap.lt_size hp
  obtain ⟨oc, od, oa, os⟩ := o
  simp only at hc hd
  subst hc; subst hd
  have hp1 : (s.heap.push (set0 led)).get? p = some { cls := .type T, dict := od, data := .seq its c0, slots := os } := Heap.get?_push_of_some _ hp
  have f1 : isSubtype (.type T) (.type "set") = pure false := by rcases hT with rfl | rfl <;> first | exact F.sub_list_set | exact Ty.y11
  have f2 : isSubtype (.type T) (.type "frozenset") = pure false := by rcases hT with rfl | rfl <;> first | exact F.sub_list_frozenset | exact Ty.z5Q
  have f3 : (Value.type T == Value.type "dict") = false := by rcases hT with rfl | rfl <;> decide
  have hh3 : A.in1.in1.in1.handled = none := by simp [hh]
  have sz : (s.heap.push (set0 led)).objs.size = s.heap.objs.size + 1 := Heap.size_push _ _
  have apart : p ≠ (s.heap.push (set0 led)).objs.size := by rw [sz]; exact Nat.ne_of_lt (Nat.lt_succ_of_lt hpS)
  have out : s.heap.objs.size ∉ [(s.heap.push (set0 led)).objs.size, p] := by rw [sz, List.mem_cons, List.mem_singleton]; exact fun z => z.elim (Nat.ne_of_lt (Nat.lt_succ_self _)) (Nat.ne_of_gt hpS)
  have z4Q : ∀ x : Obj, z4F kd ((s.heap.push (set0 led)).push x) s.heap.objs.size (ks.take 0) := fun x => by
   have z := (setObjOf_fresh (knd := kd) led).setOf (Heap.get?_push_of_some x at1) (by unfold scanBound; omega)
   have e : (fun k : κ => decide (k ∈ ks.take 0)) = fun _ => false := by funext k; simp
   show Heap.SetOf kd _ _ (fun k => decide (k ∈ ks.take 0)) _
   rw [e]
   exact z
  have ends : ∀ (x : Obj) (s' : Shared), Moved [s.heap.objs.size, (s.heap.push (set0 led)).objs.size] (fun a b => b = a) { s with heap := (s.heap.push (set0 led)).push x } s' -> z4F kd s'.heap s.heap.objs.size ks ->
    ∃ h' t, s' = { s with heap := h', toks := t } /\ z4F kd h' s.heap.objs.size ks /\ ∀ b u, b < s.heap.objs.size -> s.heap.get? b = some u -> h'.get? b = some u := fun x s' mv sx => by
   obtain ⟨h', g', d', t', o'⟩ := s'
   obtain rfl : g' = s.gens := mv.gens
   obtain rfl : d' = s.drawn := mv.drawn
   obtain rfl : o' = s.os := mv.os
   exact ⟨h', t', rfl, sx, fun b u hb q => mv.heap b u (by rw [sz, List.mem_cons, List.mem_singleton]; exact fun z => z.elim (Nat.ne_of_lt hb) (Nat.ne_of_lt (Nat.lt_succ_of_lt hb))) (Heap.get?_push_of_some _ (Heap.get?_push_of_some _ q))⟩
  unfold Builtin.«set.__init__» noKeywords Builtin.Frozenset.updateFrom
  generalize hPI : pyIter = PI
  wp_walk
  subst hPI
  rcases hT with rfl | rfl
  ·have hl : (s.heap.push (set0 led)).IsList p its := ⟨_, hp1, rfl, c0, rfl⟩
   refine wpAny_pyIter_list hl (wpAny_bind (wpAny_runValue ?_))
   refine z7N (kd := kd) ((Walks.list hh3 _ p apart its).toS) out lk vals few its.size 0 _ (Nat.zero_add _) ⟨⟨_, Heap.get?_push_size _ rfl, rfl, rfl⟩, hl.push _⟩ (z4Q _) fun s' mv sx => ?_
   exact wpAny_pure (wpAny_pure ⟨rfl, ends _ s' mv sx⟩)
  ·have hl : (s.heap.push (set0 led)).IsTuple p its := ⟨_, hp1, rfl, c0, rfl⟩
   refine wpAny_pyIter_tuple hl (wpAny_bind (wpAny_runValue ?_))
   refine z7N (kd := kd) ((Walks.tuple hh3 _ p apart its).toS) out lk vals few its.size 0 _ (Nat.zero_add _) ⟨⟨_, Heap.get?_push_size _ rfl, rfl, rfl⟩, hl.push _⟩ (z4Q _) fun s' mv sx => ?_
   exact wpAny_pure (wpAny_pure ⟨rfl, ends _ s' mv sx⟩)
 ·rcases r with e | (_ | _ | _ | u)
  all_goals try exact q2.elim
  all_goals try exact q2
  obtain ⟨rfl, h', t, rfl, sx, kp⟩ := q2
  repeat (any_goals (first | assumption | wp_step))
  exact fin _ _ sx kp
end
section
variable {X : Cx}
def SetT (P : Program) (w : World) (a : Addr) (zs : List Str) : HO := .ext fun h => z4F (strKind P w) h a zs
theorem SetT.new {P : Program} {w : World} {H : Hp} {h : Heap} {a : Addr} {zs : List Str} (x : z4F (strKind P w) h a zs) : z1B P w H h a (SetT P w a zs) := by
 refine ⟨x, ?_, fun h1 h2 y e => z4F.at y e⟩
 obtain ⟨o, _, _, _, e, _⟩ := x
 exact ⟨o, e⟩
theorem z9T : ∀ {zs : List Str} {us : List Value}, Vals (zs.map V.str) us -> ∀ (i : Nat) (v : Value), us[i]? = some v -> ∃ (k : Str) (t : Tok), zs[i]? = some k /\ v = .str k t
 | [], _, .nil, i, v, h => by simp at h
 | z :: zs, u :: us, .cons r rs, 0, v, h => by
  simp at h
  subst h
  obtain ⟨t, rfl⟩ := r
  exact ⟨z, t, rfl, rfl⟩
 | z :: zs, u :: us, .cons r rs, i + 1, v, h => by
  simp at h
  obtain ⟨k, t, a, b⟩ := z9T rs i v h
  exact ⟨k, t, by simpa using a, b⟩
theorem z47 (hc : X.calm = true) : z3p X (.type "set") (fun xs H Q => ∃ p zs, xs = [.ref p] /\ (SqL X.K H p (zs.map V.str) \/ SqT X.K H p (zs.map V.str)) /\ zs.length ≤ 1000 /\ ∀ l, H l = none -> Q (.ref l) (upd H l (SetT X.prog X.w l zs))) := by
 intro pins s σ H xs us Q I r h
 obtain ⟨p, zs, rfl, hq, hl, q⟩ := h
 obtain ⟨u, rfl, rx⟩ := z41 r
 cases rx
 have go : ∀ (T : String) (o : Obj) (its : List Value) (c0 : Nat), s.heap.get? p = some o -> o.cls = .type T -> o.data = .seq its.toArray c0 -> (T = "list" \/ T = "tuple") -> Vals (zs.map V.str) its -> wpAny (model X.prog X.w) X.A (call (.type "set") [.ref p]) (EP X pins σ Q) X.xe s :=
  fun T o its c0 ho hcl hda hT rv => by
   have ln : zs.length = its.length := by have := rv.length; rwa [List.length_map] at this
   refine y2j (kd := strKind X.prog X.w) (ks := zs) (I.ok.hd hc) ho hcl hda hT (by simpa using ln) (fun i v hv => ?_) (by simp [scanBound]; omega) fun h' t sx kp => ?_
   ·obtain ⟨k, t, a, rfl⟩ := z9T rv i v (by simpa using hv)
    exact ⟨k, a, strKind_is _ _ _ _, rfl⟩
   ·refine ⟨.ref s.heap.objs.size, _, I.laid (a := s.heap.objs.size) (o := SetT X.prog X.w s.heap.objs.size zs) (h' := h') (t' := t) (fun b u q1 => kp b u (Heap.lt_size q1) q1) (Nat.le_refl _) (SetT.new sx), rfl, q _ (I.hok.fresh (Nat.le_refl _))⟩
 rcases hq with hq | hq
 ·obtain ⟨its, rv, pl, _⟩ := I.list hq
  obtain ⟨o, ho, hcl, n, hda⟩ := pl.isList
  exact go "list" o its n ho hcl hda (.inl rfl) rv
 ·obtain ⟨its, rv, pl, _⟩ := I.tuple hq
  obtain ⟨o, ho, hcl, n, hda⟩ := pl
  exact go "tuple" o its n ho hcl hda (.inr rfl) rv
theorem z4N : z3p X (.builtin "len") (fun xs H Q => ∃ p zs, xs = [.ref p] /\ H p = some (SetT X.prog X.w p zs) /\ zs.length ≤ 1000 /\ Q (.int (metL zs).length) H) := by
 intro pins s σ H xs us Q I r h
 obtain ⟨p, zs, rfl, hp, hl, q⟩ := h
 obtain ⟨u, rfl, rx⟩ := z41 r
 cases rx
 obtain ⟨⟨o, es, ep, t, e1, e2, e3, _, _, _, e4, e5⟩, _⟩ := (show z1B X.prog X.w H s.heap p (SetT X.prog X.w p zs) from I.hok p _ hp)
 have := z9A zs
 exact PySem.call_len_set e1 e2 e3 e4 (by omega) ⟨.int (metL zs).length, H, I.tok _, ⟨s.toks + 1, by rw [e5]⟩, q⟩
end
end L2

set_option Elab.async false
set_option linter.all false
set_option maxRecDepth 100000
set_option maxHeartbeats 4000000
namespace L2
open PySem PySem.Spec PyProof.Rows

section
variable {κ : Type} [DecidableEq κ]
def valV (kvs : List (κ × V)) (k : κ) : Option V := (kvs.find? fun kv => decide (kv.1 = k)).map (·.2)
def putK (kvs : List (κ × V)) (k : κ) (v : V) : List (κ × V) :=
 if (kvs.any fun kv => decide (kv.1 = k)) = true then kvs.map (fun kv => if kv.1 = k then (kv.1, v) else kv) else kvs ++ [(k, v)]
theorem z4O {p : κ × V} {r : List (κ × V)} {k : κ} (e : p.1 = k) : valV (p :: r) k = some p.2 := by simp [valV, List.find?_cons, e]
theorem z4x {p : κ × V} {r : List (κ × V)} {k : κ} (e : ¬ p.1 = k) : valV (p :: r) k = valV r k := by simp [valV, List.find?_cons, e]
theorem z5E (k : κ) : ∀ kvs : List (κ × V), (kvs.any fun kv => decide (kv.1 = k)) = (valV kvs k).isSome
 | [] => rfl
 | p :: r => by
  rw [List.any_cons]
  by_cases e : p.1 = k
  ·simp only [z4O e, decide_eq_true e, Bool.true_or, Option.isSome_some]
  ·rw [z4x e, decide_eq_false e, Bool.false_or]; exact z5E k r
theorem z6r (kvs : List (κ × V)) (k : κ) (v : V) : (putK kvs k v).length ≤ kvs.length + 1 := by
 unfold putK
 split
 ·rw [List.length_map]; omega
 ·rw [List.length_append, List.length_cons, List.length_nil]; omega
theorem y2K {kvs : List (κ × V)} {k : κ} (v : V) (h : valV kvs k = none) : putK kvs k v = kvs ++ [(k, v)] := by
 unfold putK
 rw [z5E, h]
 exact if_neg (by decide)

theorem RelO.isSome_eq {o : Option V} {u : Option Value} (r : RelO o u) : o.isSome = u.isSome := by
 cases o with
 | none => cases u with
  | none => rfl
  | some _ => exact (show False from r).elim
 | some _ => cases u with
  | none => exact (show False from r).elim
  | some _ => rfl
theorem KV.val {kvs : List (κ × V)} {vs : List (κ × Value)} (r : KV kvs vs) (k : κ) : RelO (valV kvs k) (valueAt vs k) := by
 unfold KV at r
 induction r with
 | nil => exact True.intro
 | @cons p q ps qs h t ih =>
  obtain ⟨h1, h2⟩ := h
  by_cases e : p.1 = k
  ·have e' : q.1 = k := h1.symm.trans e
   have b : valueAt (q :: qs) k = some q.2 := by simp [valueAt, List.find?_cons, e']
   rw [z4O e, b]; exact h2
  ·have e' : ¬ q.1 = k := fun z => e (h1.trans z)
   have b : valueAt (q :: qs) k = valueAt qs k := by simp [valueAt, List.find?_cons, e']
   rw [z4x e, b]; exact ih
theorem KV.any {kvs : List (κ × V)} {vs : List (κ × Value)} (r : KV kvs vs) (k : κ) : (kvs.any fun kv => decide (kv.1 = k)) = vs.any fun kv => decide (kv.1 = k) := by
 unfold KV at r
 induction r with
 | nil => rfl
 | cons h t ih => rw [List.any_cons, List.any_cons, ih, h.1]
theorem KV.repl {kvs : List (κ × V)} {vs : List (κ × Value)} (r : KV kvs vs) (k : κ) {y : V} {u : Value} (ry : RelV y u) :
  KV (kvs.map fun kv => if kv.1 = k then (kv.1, y) else kv) (vs.map fun kv => if kv.1 = k then (kv.1, u) else kv) := by
 unfold KV at r ⊢
 induction r with
 | nil => exact .nil
 | @cons p q ps qs h t ih =>
  rw [List.map_cons, List.map_cons]
  refine .cons ?_ ih
  obtain ⟨h1, h2⟩ := h
  by_cases e : p.1 = k
  ·rw [if_pos e, if_pos (h1.symm.trans e)]; exact ⟨h1, ry⟩
  ·rw [if_neg e, if_neg (fun z => e (h1.trans z))]; exact ⟨h1, h2⟩
theorem KV.put {kvs : List (κ × V)} {vs : List (κ × Value)} (r : KV kvs vs) (k : κ) {y : V} {u : Value} (ry : RelV y u) : KV (putK kvs k y) (stored vs k u) := by
 unfold putK stored
 rw [r.any k]
 by_cases e : (vs.any fun kv => decide (kv.1 = k)) = true
 ·rw [if_pos e, if_pos e]; exact r.repl k ry
 ·rw [if_neg e, if_neg e]; exact Paired.snoc r ⟨rfl, ry⟩
theorem KV.keys {kvs : List (κ × V)} {vs : List (κ × Value)} (r : KV kvs vs) : kvs.map (·.1) = vs.map (·.1) := by
 unfold KV at r
 induction r with
 | nil => rfl
 | cons h t ih => rw [List.map_cons, List.map_cons, ih, h.1]
theorem KV.length {kvs : List (κ × V)} {vs : List (κ × Value)} (r : KV kvs vs) : kvs.length = vs.length := Paired.length r
end

theorem y1n {P : Program} {w : World} {k : Key} {u : Value} (r : RelV (kV k) u) : (z1y P w).is k u = true := by
 cases k with
 | inl i => obtain ⟨t, e⟩ := (show ∃ t, u = Value.int i t from r); subst e; exact z9l P w i t
 | inr x => obtain ⟨t, e⟩ := (show ∃ t, u = Value.str x t from r); subst e; exact z9e P w x t
theorem z8p {P : Program} {w : World} : ∀ {ks : List Key} {us : List Value}, Vals (ks.map kV) us -> ItemsAre (z1y P w) ks us
 | [], _, r => by rw [List.map_nil] at r; cases r; exact .nil
 | k :: ks, _, r => by
  rw [List.map_cons] at r
  cases r with
  | cons h t => exact .cons (y1n h) (z8p t)

abbrev KT (H : Hp) : List (List Key × V) -> List (List Key × Addr × Value) -> Prop := Paired fun p q => p.1 = q.1 /\ H q.2.1 = some (.tup (p.1.map kV)) /\ RelV p.2 q.2.2
theorem KT.val {H : Hp} {kvs : List (List Key × V)} {xs : List (List Key × Addr × Value)} (r : KT H kvs xs) (k : List Key) : RelO (valV kvs k) ((atKey xs k).map (·.2)) := by
 induction r with
 | nil => exact True.intro
 | @cons p q ps qs h t ih =>
  obtain ⟨h1, _, h2⟩ := h
  by_cases e : p.1 = k
  ·have e' : q.1 = k := h1.symm.trans e
   have b : atKey (q :: qs) k = some q.2 := by simp [atKey, List.find?_cons, e']
   rw [z4O e, b]; exact h2
  ·have e' : ¬ q.1 = k := fun z => e (h1.trans z)
   have b : atKey (q :: qs) k = atKey qs k := by simp [atKey, List.find?_cons, e']
   rw [z4x e, b]; exact ih
theorem KT.repl {H : Hp} {kvs : List (List Key × V)} {xs : List (List Key × Addr × Value)} (r : KT H kvs xs) (k : List Key) {y : V} {u : Value} (ry : RelV y u) :
  KT H (kvs.map fun kv => if kv.1 = k then (kv.1, y) else kv) (xs.map (putAt k u)) := by
 induction r with
 | nil => exact .nil
 | @cons p q ps qs h t ih =>
  rw [List.map_cons, List.map_cons]
  refine .cons ?_ ih
  obtain ⟨h1, h2, h3⟩ := h
  unfold putAt
  by_cases e : p.1 = k
  ·rw [if_pos e, if_pos (h1.symm.trans e)]; exact ⟨h1, h2, ry⟩
  ·rw [if_neg e, if_neg (fun z => e (h1.trans z))]; exact ⟨h1, h2, h3⟩
theorem KT.put {H : Hp} {kvs : List (List Key × V)} {xs : List (List Key × Addr × Value)} (r : KT H kvs xs) (k : List Key) {b : Addr} {y : V} {u : Value} (hb : H b = some (.tup (k.map kV))) (ry : RelV y u) :
  KT H (putK kvs k y) (storedH xs k b u) := by
 have e : (kvs.any fun kv => decide (kv.1 = k)) = (atKey xs k).isSome := by
  rw [z5E, (r.val k).isSome_eq, Option.isSome_map]
 unfold putK storedH
 rw [e]
 by_cases q : (atKey xs k).isSome = true
 ·rw [if_pos q, if_pos q]; exact r.repl k ry
 ·rw [if_neg q, if_neg q]; exact Paired.snoc r ⟨rfl, hb, ry⟩
theorem KT.keeps {H H' : Hp} {kvs : List (List Key × V)} {xs : List (List Key × Addr × Value)} (r : KT H kvs xs) (ht : ∀ b ys, H b = some (.tup ys) -> H' b = some (.tup ys)) : KT H' kvs xs :=
 Paired.mapP r fun _ _ z => ⟨z.1, ht _ _ z.2.1, z.2.2⟩

section
variable {P : Program} {w : World} {H : Hp} {h : Heap} {a : Addr}
theorem y4x {u : HO} (ok : HOk P w H h) (e : Rd H a u) : z1B P w H h a u := e.ok ok
theorem y2X {kvs : List (Key × V)} (ok : HOk P w H h) (e : Rd H a (.dK kvs)) : kvs.length ≤ sizeLine /\ (a == sysModules) = false /\ ∃ vs, KV kvs vs /\ h.DictOf (z1y P w) a vs :=
 show z1B P w H h a (.dK kvs) from y4x ok e
theorem y4I {kvs : List (Key × V)} (ok : HOk P w H h) (e : H a = some (.dK kvs)) : kvs.length ≤ sizeLine /\ (a == sysModules) = false /\ ∃ vs, KV kvs vs /\ h.DictOf (z1y P w) a vs := y2X ok (.inl e)
theorem z9K {ks : List Key} (ok : HOk P w H h) (e : H a = some (.tup (ks.map kV))) : (tupleKind (z1y P w)).is h ks a := by
 obtain ⟨_, its, r, o, h1, h2, ⟨n, h3⟩, _⟩ := (show z1B P w H h a (.tup (ks.map kV)) from ok a _ e)
 exact ⟨o, its.toArray, n, h1, h2, h3, by simpa using z8p r⟩
theorem y2S {kvs : List (List Key × V)} (ok : HOk P w H h) (e : Rd H a (.dT kvs)) : kvs.length ≤ sizeLine /\ (a == sysModules) = false /\
  ∃ xs, KT H kvs xs /\ h.DictOfH (tupleKind (z1y P w)) a xs := by
 obtain ⟨z, y, xs, r, o, es, ep, h1, h2, h3, h4, h5⟩ := (show z1B P w H h a (.dT kvs) from y4x ok e)
 refine ⟨z, y, xs, r, o, es, ep, h1, h2, h3, h4, fun x hx => ?_, h5⟩
 have all : ∀ {l : List (List Key × V)} {m : List (List Key × Addr × Value)}, KT H l m -> ∀ x ∈ m, (tupleKind (z1y P w)).is h x.1 x.2.1 := by
  intro l m q
  induction q with
  | nil => intro x hx; exact nomatch hx
  | @cons p q ps qs hq t ih =>
   intro x hx
   rcases List.mem_cons.mp hx with e | hx
   ·subst e
    exact z9K ok (by rw [<- hq.1]; exact hq.2.1)
   ·exact ih x hx
 exact all r x hx
theorem dt_of {kvs : List (List Key × V)} (ok : HOk P w H h) (e : H a = some (.dT kvs)) : kvs.length ≤ sizeLine /\ (a == sysModules) = false /\
  ∃ xs, KT H kvs xs /\ h.DictOfH (tupleKind (z1y P w)) a xs := y2S ok (.inl e)
end

def DGet (H : Hp) (a : Addr) (y : V) (r : Option V) : Prop :=
 (∃ kvs k, Rd H a (.dK kvs) /\ y = kV k /\ r = valV kvs k) \/ ∃ kvs k b, Rd H a (.dT kvs) /\ y = .ref b /\ H b = some (.tup (k.map kV)) /\ r = valV kvs k
def DPut (H : Hp) (a : Addr) (y v : V) (H' : Hp) : Prop :=
 (∃ kvs k, H a = some (.dK kvs) /\ y = kV k /\ kvs.length < sizeLine /\ H' = upd H a (.dK (putK kvs k v))) \/
 ∃ kvs k b, H a = some (.dT kvs) /\ y = .ref b /\ H b = some (.tup (k.map kV)) /\ kvs.length < sizeLine /\ H' = upd H a (.dT (putK kvs k v))
theorem DGet.k {H : Hp} {a : Addr} {kvs : List (Key × V)} {k : Key} (e : H a = some (.dK kvs)) : DGet H a (kV k) (valV kvs k) := .inl ⟨kvs, k, .inl e, rfl, rfl⟩
theorem DPut.k {H : Hp} {a : Addr} {kvs : List (Key × V)} {k : Key} {v : V} (e : H a = some (.dK kvs)) (hl : kvs.length < sizeLine) : DPut H a (kV k) v (upd H a (.dK (putK kvs k v))) := .inl ⟨kvs, k, e, rfl, hl, rfl⟩
section
variable {X : Cx} {pins : List (Addr × Obj)} {σ : St} {H : Hp} {s : Shared} {a : Addr} {y v : V} {u r : Value} {o : Option V} {A : Around} {E : Value -> Shared -> Prop}

theorem Inv.big (I : Inv X pins σ H s) : sysModules < s.heap.objs.size := by
 have h : mainGlobals < s.heap.objs.size := (I.mod.glob.keeps I.bk).lt
 exact Nat.lt_trans (by decide) h

theorem y1C {Q : Value -> Shared -> Prop} (hu : A.units + 1 < cLine) (I : Inv X pins σ H s) (g : DGet H a y (some v)) (ry : RelV y u) (h : ∀ w' s', Inv X pins σ H s' -> RelV v w' -> Q w' s') :
  wpAny (model X.prog X.w) A (getItem (.ref a) u) Q E s := by
 rcases g with ⟨kvs, k, e, ey, l⟩ | ⟨kvs, k, b, e, ey, eb, l⟩
 ·subst ey
  obtain ⟨z, hd, vs, rel, dd⟩ := y2X I.hok e
  obtain ⟨w', hw, rw'⟩ := RelO.some_of (v := v) (o := valueAt vs k) (by rw [l]; exact rel.val k)
  exact wpAny_getItem_of (y1n ry) dd.mapOf hw (h w' _ (I.tok _) rw')
 ·subst ey
  cases (show u = Value.ref b from ry)
  obtain ⟨z, hd, xs, rel, dd⟩ := y2S I.hok e
  obtain ⟨w', hw, rw'⟩ := RelO.some_of (v := v) (o := (atKey xs k).map (·.2)) (by rw [l]; exact rel.val k)
  obtain ⟨p, hp, hp2⟩ := Option.map_eq_some_iff.mp hw
  refine wpAny_getItem_heap (tupleKind_room_in1 hu) (z9K I.hok eb) dd hp ?_
  rw [hp2]
  exact h w' _ (I.tok _) rw'
theorem d_in {Q : Value -> Shared -> Prop} (hu : A.units + 1 < cLine) (I : Inv X pins σ H s) (g : DGet H a y o) (ry : RelV y u) (h : ∀ s', Inv X pins σ H s' -> Q (.bool o.isSome) s') :
  wpAny (model X.prog X.w) A (compareOp .In u (.ref a)) Q E s := by
 rcases g with ⟨kvs, k, e, ey, l⟩ | ⟨kvs, k, b, e, ey, eb, l⟩
 ·subst ey
  obtain ⟨z, hd, vs, rel, dd⟩ := y2X I.hok e
  refine wpAny_in_of (y1n ry) hd dd.mapOf ?_
  rw [<- (rel.val k).isSome_eq, <- l]
  exact h _ (I.tok _)
 ·subst ey
  cases (show u = Value.ref b from ry)
  obtain ⟨z, hd, xs, rel, dd⟩ := y2S I.hok e
  refine wpAny_in_heap (tupleKind_room_in1 hu) (z9K I.hok eb) hd dd ?_
  have q := (rel.val k).isSome_eq
  rw [Option.isSome_map] at q
  rw [<- q, <- l]
  exact h _ (I.tok _)
theorem y2c {h' : Heap} {t' : Nat} {ob : HO} (I : Inv X pins σ H s) (mu : Mut (H a)) (hs : Heap.SameBut a s.heap h') (he : ∃ q, h'.get? a = some q) (new : z1B X.prog X.w (upd H a ob) h' a ob) :
  Inv X pins σ (upd H a ob) { s with heap := h', toks := t' } :=
 I.write (x := a) (e := a) mu (.inl rfl) (fun b q hb z => (hs.2 b hb).trans z) he new
theorem y3q {P : Program} {w : World} {H' : Hp} {h' : Heap} {kvs : List (Key × V)} {vs : List (Key × Value)} (z : kvs.length ≤ sizeLine) (hd : (a == sysModules) = false) (rel : KV kvs vs) (dd : h'.DictOf (z1y P w) a vs) :
  z1B P w H' h' a (.dK kvs) := ⟨z, hd, vs, rel, dd⟩
theorem y1A {H' : Hp} {Q : Unit -> Shared -> Prop} (hu : A.units + 1 < cLine) (I : Inv X pins σ H s) (g : DPut H a y v H') (ry : RelV y u) (rv : RelV v r) (h : ∀ s', Inv X pins σ H' s' -> Q () s') :
  wpAny (model X.prog X.w) A (setItem (.ref a) u r) Q E s := by
 rcases g with ⟨kvs, k, e, ey, l, eH⟩ | ⟨kvs, k, b, e, ey, eb, l, eH⟩
 ·subst ey eH
  obtain ⟨z, hd, vs, rel, dd⟩ := y4I I.hok e
  have hz : vs.length ≤ sizeLine := by rw [<- rel.length]; exact z
  have hl : (putK kvs k v).length ≤ sizeLine := by have := z6r kvs k v; omega
  refine wpAny_setItem_pairs (hsz := hz) (y1n ry) dd fun h' dd' hs => h _ ?_
  have he : ∃ q, h'.get? a = some q := let ⟨q, _, _, hq, _⟩ := dd'; ⟨q, hq⟩
  exact y2c I (by rw [e]; exact True.intro) hs he (y3q hl hd (rel.put k rv) dd')
 ·subst ey eH
  cases (show u = Value.ref b from ry)
  obtain ⟨z, hd, xs, rel, dd⟩ := dt_of I.hok e
  have hz : xs.length ≤ sizeLine := by rw [<- Paired.length rel]; exact z
  have hl : (putK kvs k v).length ≤ sizeLine := by have := z6r kvs k v; omega
  refine wpAny_setItem_heap (hsz := hz) (tupleKind_room_in1 hu) (z9K I.hok eb) dd fun h' dd' hs => h _ ?_
  obtain ⟨q, es, ep, hq, h2, h3, h4, _, h5⟩ := dd'
  refine y2c I (by rw [e]; exact True.intro) hs ⟨q, hq⟩ ⟨hl, hd, _, (rel.put k eb rv).keeps fun c ys ec => ?_, q, es, ep, hq, h2, h3, h4, h5⟩
  rw [z0g (z43 ec e (fun z => nomatch z))]
  exact ec
end

section
variable {X : Cx} {pins : List (Addr × Obj)} {σ : St} {H : Hp} {s : Shared} {a : Addr} {kvs : List (Key × V)} {k : Key} {u : Value} {A : Around} {E : Value -> Shared -> Prop}
end

def NoSl (i : Expr) : Prop := ∀ ov iv, subscripted i false ov iv = operate [ov, iv] (getItem ov iv)
theorem y4m {prog : Program} {w : World} {A : Around} {E : Value -> Shared -> Prop} {s : Shared} {env : Env} {value slice : Expr} {pos : Pos} {T id : String} {Q : Value -> Shared -> Prop}
  (hl : typeLookup (.type T) "__getitem__" = pure (some (.builtin id))) (hs : NoSl slice)
  (h : wpAny (model prog w) A (eval value env) (fun o s₁ => wpAny (model prog w) A (eval slice env) (fun i s₂ => s₂.TypeIs o T /\ wpAny (model prog w) A (getItem o i) Q E s₂) E s₁) E s) :
  wpAny (model prog w) A (eval (.Subscript value slice pos) env) Q E s := by
 refine Subscript_ (wpAny_mono h (fun o s₁ h₁ => wpAny_mono h₁ (fun i s₂ h₂ => ?_) fun _ _ x => x) fun _ _ x => x)
 obtain ⟨hT, h₂⟩ := h₂
 unfold subscriptTail
 refine wpAny_bind ?_
 rw [getitemInPython_of_ne hT.not_modules]
 refine wpAny_bind (wpAny_specialOf hT hl ?_)
 have fin : wpAny (model prog w) A (subscripted slice false o i) (fun r s₃ => wpAny (model prog w) A (letTemporaryGo value o r >>= fun _ => pure r) Q E s₃) E s₂ := by
  rw [hs o i]
  exact wpAny_operating (wpAny_mono h₂ (fun r s₃ h₃ => wpAny_bind (wpAny_letTemporaryGo (wpAny_pure h₃))) fun _ _ x => x)
 first
  | exact wpAny_pure (wpAny_bind fin)
  | exact wpAny_bind (wpAny_pure (wpAny_bind fin))
  | exact wpAny_bind fin

theorem z9f {X : Cx} {pins : List (Addr × Obj)} {σ : St} {H : Hp} {s : Shared} {a : Addr} {y : V} {o : Option V} (I : Inv X pins σ H s) (g : DGet H a y o) : s.TypeIs (.ref a) "dict" := by
 rcases g with ⟨kvs, k, e, _, _⟩ | ⟨kvs, k, b, e, _, _, _⟩
 ·obtain ⟨_, _, vs, _, dd⟩ := y2X I.hok e
  exact dd.typeIs
 ·obtain ⟨_, _, xs, _, dd⟩ := y2S I.hok e
  exact dd.typeIs
def tDGet (td ty : TE) : TE := fun σ H Q => td σ H fun x H1 => ty σ H1 fun y H2 => ∃ a v, x = .ref a /\ DGet H2 a y (some v) /\ Q v H2
def tDIn (ty td : TE) : TE := fun σ H Q => ty σ H fun y H1 => td σ H1 fun x H2 => ∃ a o, x = .ref a /\ DGet H2 a y o /\ Q (.bl o.isSome) H2
def sDPut (td ty tv : TE) : TS := fun D σ H => tv σ H fun v H1 => td σ H1 fun x H2 => ty σ H2 fun y H3 => ∃ a H4, x = .ref a /\ DPut H3 a y v H4 /\ D.nx σ H4
section
variable {X : Cx} {o i e value : Expr} {pos pos' tpos : Pos} {td ty tv : TE}
theorem z6d (hu : X.A.units + 1 < cLine) (ho : PE X o td) (hi : PE X i ty) (hs : NoSl i) : PE X (.Subscript o i pos) (tDGet td ty) := by
 intro pins s σ H Q I h
 refine y4m PySem.F.slot_dict_getitem.lookup hs (thn (ho pins s σ H _ I h) fun u s1 ⟨x, H1, I1, rx, q1⟩ => thn (hi pins s1 σ H1 _ I1 q1) fun iv s2 hz => ?_)
 obtain ⟨y, H2, I2, ry, a, v, ex, g, q2⟩ := hz
 subst ex
 obtain rfl : u = Value.ref a := rx
 exact ⟨z9f I2 g, y1C hu I2 g ry fun w' s3 I3 rw' => ⟨v, H2, I3, rw', q2⟩⟩
theorem y1r (hu : X.A.units + 1 < cLine) (hi : PE X i ty) (ho : PE X o td) : PC X .In i o (tDIn ty td) := by
 intro pins s σ H Q I h
 refine thn (hi pins s σ H _ I h) fun iv s1 ⟨y, H1, I1, ry, q1⟩ => thn (ho pins s1 σ H1 _ I1 q1) fun u s2 hz => ?_
 obtain ⟨x, H2, I2, rx, a, ov, ex, g, q2⟩ := hz
 subst ex
 obtain rfl : u = Value.ref a := rx
 exact d_in hu I2 g ry fun s3 I3 => ⟨.bl ov.isSome, H2, I3, rfl, q2⟩
theorem y4k (hu : X.A.units + 1 < cLine) (ho : PE X o td) (hi : PE X i ty) (hv : PE X value tv) (hs : swapsWith value (some (.Subscript o i pos')) pos.line X.env = pure false) :
  PS X (.Assign [.Subscript o i pos'] value pos) (sDPut td ty tv) := by
 intro pins s σ H D I h
 refine wpAny_Assign_Subscript (thn (hv pins s σ H _ I h) fun r s1 ⟨v, H1, I1, rv, q1⟩ => thn (ho pins s1 σ H1 _ I1 q1) fun u s2 ⟨x, H2, I2, rx, q2⟩ => thn (hi pins s2 σ H2 _ I2 q2) fun iv s3 hz => ?_) hs
 obtain ⟨y, H3, I3, ry, a, H4, ex, g, q3⟩ := hz
 subst ex
 obtain rfl : u = Value.ref a := rx
 exact y1A hu I3 g ry rv fun s4 I4 => ⟨σ, H4, I4, q3⟩
end

theorem y2I {P : Program} {w : World} {H : Hp} (h : Heap) (hb : sysModules < h.objs.size) : z1B P w H (h.push { cls := .type "dict", data := .dict #[] }) h.objs.size (.dK []) :=
 ⟨Nat.zero_le _, beq_eq_false_iff_ne.mpr (Ne.symm (Nat.ne_of_lt hb)), [], .nil, Heap.DictOf.new h⟩
def y4S : TE := fun _ H Q => ∀ p, H p = none -> Q (.ref p) (upd H p (.dK []))
section
variable {X : Cx} {pos : Pos}
theorem y30 : PE X (.Dict [] [] pos) y4S := fun pins s σ H Q I h =>
 wpAny_Dict_empty ⟨.ref s.heap.objs.size, _, I.laid (a := s.heap.objs.size) (o := .dK []) (t' := s.toks) (fun _ _ q => Heap.get?_push_of_some _ q) (Nat.le_refl _) (y2I s.heap I.big), rfl, h _ (I.hok.fresh (Nat.le_refl _))⟩
end

section
variable {X : Cx} {pins : List (Addr × Obj)} {σ : St} {H : Hp} {s : Shared} {a : Addr} {y d : V} {u r : Value} {o : Option V} {A : Around} {E : Value -> Shared -> Prop}
end

section
variable {X : Cx} {o e f : Expr} {apos cpos : Pos} {td ty tx : TE}
end

section
variable {X : Cx} {pins : List (Addr × Obj)} {σ : St} {H : Hp} {s : Shared} {a : Addr} {kvs : List (Key × V)} {A : Around} {E : Value -> Shared -> Prop}
end

section
variable {X : Cx} {pins : List (Addr × Obj)} {σ : St} {H : Hp} {s : Shared} {a : Addr} {y : V} {u : Value} {A : Around} {E : Value -> Shared -> Prop}
end
end L2

set_option Elab.async false
set_option linter.all false
set_option maxRecDepth 100000
set_option maxHeartbeats 4000000
namespace L2
open PySem PySem.Spec PyProof.Rows
structure MCal (P : Program) (w : World) (K : PySem.W.Frag) (mg : Str -> Option Value) (base : Heap) (k : Nat) (C : Addr) (m : Str) (ps : List Str) (sp : Sp) : Prop where
 cl : Cls K C
 ex : ∃ (f : Addr) (fd : FuncData), FnOk P w K mg base CX0 k f fd ps sp /\ z3q K fd ps [] /\ Meth K C m f
theorem MCal.mk' {P : Program} {w : World} {K : PySem.W.Frag} {mg : Str -> Option Value} {base : Heap} {k : Nat} {C : Addr} {m : Str} {ps : List Str} {sp : Sp} {f : Addr} {fd : FuncData} (c : Cls K C) (a : FnOk P w K mg base CX0 k f fd ps sp) (b : z3q K fd ps []) (d : Meth K C m f) :
  MCal P w K mg base k C m ps sp := ⟨c, f, fd, a, b, d⟩
section
variable {X : Cx} {k : Nat} {C : Addr} {m x : Str} {ps : List Str} {sp : Sp} {o e : Expr} {es : List Expr} {ta : TE} {t : TA} {p pos apos : Pos} {pl : Sem Bool}
theorem z1S (G : MCal X.prog X.w X.K X.mg X.base k C m ps sp) (hr : Room k X.A) (he : PE X o ta) (ha : PA X (e :: es) t)
  (hst : starEach (e :: es) X.env = (false, eval e X.env) :: starEach es X.env := by rfl) (hpl : (backTo pos (starEach es X.env)).any (·.1) = false := by rfl)
  (ht : eval (.Call (.Attribute o m apos) (e :: es) [] pos) X.env = (do
   let ov <- eval o X.env
   standAt apos.atName
   let (f, first) <- holding [ov] (getMethod ov m pl)
   callWith pos f first (backTo pos (starEach (e :: es) X.env)) (backToKw pos (keywordEach [] X.env))) := by rfl) :
  PE X (.Call (.Attribute o m apos) (e :: es) [] pos) (y2N C m sp [] E0 ta t) := by
 obtain ⟨f, fd, a, b, d⟩ := G.ex
 exact y40 he G.cl d a hr b .nil y33 ha hst hpl ht
theorem z2G (G : MCal X.prog X.w X.K X.mg X.base k C m ps sp) (hr : Room k X.A) (he : PE X o ta)
  (ht : eval (.Call (.Attribute o m apos) [] [] pos) X.env = (do
   let ov <- eval o X.env
   standAt apos.atName
   let (f, first) <- holding [ov] (getMethod ov m pl)
   callWith pos f first (backTo pos (starEach [] X.env)) (backToKw pos (keywordEach [] X.env))) := by rfl) :
  PE X (.Call (.Attribute o m apos) [] [] pos) (y2N C m sp [] E0 ta tNil) := by
 obtain ⟨f, fd, a, b, d⟩ := G.ex
 exact y2i he G.cl d a hr b .nil y33 ht
end
structure Mkr (P : Program) (w : World) (K : PySem.W.Frag) (mg : Str -> Option Value) (base : Heap) (k : Nat) (C : Addr) (x : Str) (ps : List Str) (sp : Sp) : Prop where
 ex : ∃ (f : Addr) (fd : FuncData), FnOk P w K mg base CX0 k f fd ps sp /\ z3q K fd ps [] /\ Mk K C f /\ mg x = some (.ref C)
theorem Mkr.mk' {P : Program} {w : World} {K : PySem.W.Frag} {mg : Str -> Option Value} {base : Heap} {k : Nat} {C : Addr} {x : Str} {ps : List Str} {sp : Sp} {f : Addr} {fd : FuncData} (a : FnOk P w K mg base CX0 k f fd ps sp) (b : z3q K fd ps []) (c : Mk K C f) (d : mg x = some (.ref C)) :
  Mkr P w K mg base k C x ps sp := ⟨f, fd, a, b, c, d⟩
section
variable {X : Cx} {k : Nat} {C : Addr} {m x : Str} {ps : List Str} {sp : Sp} {o e : Expr} {es : List Expr} {ta : TE} {t : TA} {p pos apos : Pos}
theorem y0T (G : Mkr X.prog X.w X.K X.mg X.base k C x ps sp) (hr : Room (k + 1) X.A) (hg : Gl X x) (ha : PA X (e :: es) t)
  (hdb : (x == ("__debug__" : Str)) = false := by decide) (he : starEach (e :: es) X.env = (false, eval e X.env) :: starEach es X.env := by rfl) (hpl : (backTo pos (starEach es X.env)).any (·.1) = false := by rfl) :
  PE X (.Call (.Name x p) (e :: es) [] pos) (y4M C sp [] E0 t) := by
 obtain ⟨f, fd, a, b, c, d⟩ := G.ex
 exact y44 c a hr hg d b .nil y33 ha hdb he hpl
theorem z2R {n : Int} (hg : Gl X x) (hm : ∃ t, X.mg x = some (.int n t)) (hd : (x == ("__debug__" : Str)) = false := by decide) : PE X (.Name x pos) (tC (.int n)) := by
 obtain ⟨t, e⟩ := hm
 exact y1j hg e ⟨t, rfl⟩ hd
end
def y3j (K : PySem.W.Frag) : List V -> Hp -> VK -> Prop := fun xs H Q => ∃ p ys, xs = [.ref p] /\ ((SqL K H p ys /\ ∀ l, H l = none -> Q (.ref l) (upd H l (.tup ys))) \/ (SqT K H p ys /\ Q (.ref p) H))
section
variable {X : Cx} {K : PySem.W.Frag}
theorem z6B (h : X.K = K) : z3p X (.type "tuple") (y3j K) := by
 subst h
 exact z0u
end
end L2

set_option Elab.async false
set_option linter.all false
set_option maxRecDepth 100000
set_option maxHeartbeats 4000000
namespace L2
open PySem PySem.Spec PyProof.Rows
section
variable {X : Cx}
def y4s (K : PySem.W.Frag) (le : Int -> Int -> Prop) : List V -> Hp -> VK -> Prop := fun xs H Q => ∃ p ns, xs = [.ref p] /\ SqI K H p ns /\ ns ≠ [] /\ ∀ m, m ∈ ns -> (∀ y ∈ ns, le y m) -> Q (.int m) H
theorem y1H (hc : X.calm = true) : z3p X (.builtin "max") (y4s X.K fun y m => y ≤ m) := by
 intro pins s σ H xs us Q I r h
 obtain ⟨a, ns, rfl, hq, hn, q⟩ := h
 obtain ⟨u, rfl, ru⟩ := z41 r
 cases ru
 refine call_max_walk (z4q (A := X.A.in1) I (I.ok.hd hc) hq fun it fp St its s3 rv W st hfp back => ?_)
 have hl := rv.length
 rw [List.length_map] at hl
 have h0 : 0 < its.length := by
  rw [<- hl]
  exact List.length_pos_iff.mpr hn
 refine ⟨it, fp, [it], _, _, St, _, rfl, W, st, hfp, by rw [List.size_toArray]; exact h0, CmpOf.ints_gt (fun i => ns.getD i 0) (z36 rv), fun v h' tk hv k => ?_⟩
 rw [List.size_toArray] at hv
 obtain ⟨t, rfl⟩ := z36 rv _ _ hv
 obtain ⟨b1, b2⟩ := z7f (fun i => ns.getD i 0) (its.length - 1)
 refine ⟨.int _, H, back h' tk k, ⟨t, rfl⟩, q _ (z5B (by omega)) fun y hy => ?_⟩
 obtain ⟨i, hi, rfl⟩ := z5z hy
 exact b2 i (by omega)
theorem z88 (hc : X.calm = true) : z3p X (.builtin "min") (y4s X.K fun y m => m ≤ y) := by
 intro pins s σ H xs us Q I r h
 obtain ⟨a, ns, rfl, hq, hn, q⟩ := h
 obtain ⟨u, rfl, ru⟩ := z41 r
 cases ru
 refine call_min_walk (z4q (A := X.A.in1) I (I.ok.hd hc) hq fun it fp St its s3 rv W st hfp back => ?_)
 have hl := rv.length
 rw [List.length_map] at hl
 have h0 : 0 < its.length := by
  rw [<- hl]
  exact List.length_pos_iff.mpr hn
 refine ⟨it, fp, [it], _, _, St, _, rfl, W, st, hfp, by rw [List.size_toArray]; exact h0, CmpOf.ints_lt (fun i => ns.getD i 0) (z36 rv), fun v h' tk hv k => ?_⟩
 rw [List.size_toArray] at hv
 obtain ⟨t, rfl⟩ := z36 rv _ _ hv
 obtain ⟨b1, b2⟩ := z7u (fun i => ns.getD i 0) (its.length - 1)
 refine ⟨.int _, H, back h' tk k, ⟨t, rfl⟩, q _ (z5B (by omega)) fun y hy => ?_⟩
 obtain ⟨i, hi, rfl⟩ := z5z hy
 exact b2 i (by omega)
theorem y4K (hu : X.A.units < cLine) : OpR X (compareOp .Eq) (fun x y H Q => ∃ a b xs, x = .ref a /\ y = .ref b /\ SqL X.K H a xs /\ SqL X.K H b [] /\ Q (.bl xs.isEmpty) H) := by
 intro pins s σ H x y v u Q I rx ry h
 obtain ⟨a, b, xs, rfl, rfl, ha, hb, q⟩ := h
 cases rx
 cases ry
 obtain ⟨its, r, pl, hz⟩ := I.list ha
 obtain ⟨its2, r2, pl2, hz2⟩ := I.list hb
 cases r2
 have hl := r.length
 cases xs with
 | nil =>
  cases r
  exact SeqAt.RcAt.lists (e := fun _ => true) pl.isList pl2.isList rfl hu (fun j h1 _ => absurd h1 (Nat.not_lt_zero _)) X.prog X.w X.xe _ ⟨.bl true, H, I, rfl, q⟩
 | cons x0 xr =>
  refine SeqAt.RcAt.lists_lengths pl.isList pl2.isList ?_ hu X.prog X.w X.xe _ ⟨.bl false, H, I, rfl, q⟩
  rw [List.size_toArray, <- hl]
  rfl
end
end L2

set_option Elab.async false
set_option linter.all false
set_option maxRecDepth 100000
set_option maxHeartbeats 4000000
namespace L2
open PySem
section
variable {prog : Program} {w : World} {A : Around} {E : Value -> Shared -> Prop} {s : Shared} {κ : Type} [DecidableEq κ] {kd : KeyKind prog w κ} {led : Bool}
end
end L2

set_option Elab.async false
set_option linter.all false
set_option maxRecDepth 100000
set_option maxHeartbeats 4000000
namespace L2
open PySem PySem.Spec PyProof.Rows
namespace Ty
end Ty
section
variable {prog : Program} {w : World} {A : Around} {E : Value -> Shared -> Prop} {s : Shared}
end
end L2

set_option Elab.async false
set_option linter.all false
set_option maxRecDepth 100000
set_option maxHeartbeats 4000000
namespace L2
open PySem PySem.Spec PyProof.Rows
namespace Ty
end Ty
section
variable {prog : Program} {w : World} {A : Around} {E : Value -> Shared -> Prop} {s : Shared} {κ : Type} [DecidableEq κ] {kd : KeyKind prog w κ}
end
end L2

set_option Elab.async false
set_option linter.all false
set_option maxRecDepth 100000
set_option maxHeartbeats 4000000
namespace L2
open PySem PySem.Spec PyProof.Rows
section
variable {X : Cx}
end
end L2

set_option Elab.async false
set_option linter.all false
set_option maxRecDepth 100000
set_option maxHeartbeats 4000000
namespace L2
open PySem PySem.Spec PyProof.Rows
theorem z2w : Slot "reversed" "__next__" "reversed.__next__" :=
 .of (owner := "reversed") (n := "__next__") (by rw [typeLookup_type, builtinLookup_eq_fast]; kernel_rfl) (by decide +kernel) (by decide +kernel) (by decide +kernel) (by first | exact .inl (by decide +kernel) | exact .inr (by decide +kernel)) (by rw [isSubtype_type]; kernel_rfl)
theorem z5l : Slot "reversed" "__iter__" "reversed.__iter__" :=
 .of (owner := "reversed") (n := "__iter__") (by rw [typeLookup_type, builtinLookup_eq_fast]; kernel_rfl) (by decide +kernel) (by decide +kernel) (by decide +kernel) (by first | exact .inl (by decide +kernel) | exact .inr (by decide +kernel)) (by rw [isSubtype_type]; kernel_rfl)
theorem z8e : Slot "reversed" "__init__" "object.__init__" :=
 .of (owner := "object") (n := "__init__") (by rw [typeLookup_type, builtinLookup_eq_fast]; kernel_rfl) (by decide +kernel) (by decide +kernel) (by decide +kernel) (by first | exact .inl (by decide +kernel) | exact .inr (by decide +kernel)) (by rw [isSubtype_type]; kernel_rfl)
theorem z4B : entryFor table "reversed.__next__" = some Builtin.«reversed.__next__» := entryFor_of_tree (by kernel_rfl)
theorem z7X : entryFor table "reversed.__iter__" = some Builtin.«dict_keyiterator.__iter__» := entryFor_alias (id' := "dict_keyiterator.__iter__") (by kernel_rfl) (by first | rfl | decide +kernel | (unfold String.splitOn; simp +decide [String.splitOnAux])) (by decide +kernel) (by kernel_rfl)
theorem z5n (a : Value) : argsOk "reversed.__next__" ⟨[a], []⟩ := by unfold argsOk; kernel_rfl
theorem z8k (a : Value) : argsOk "reversed.__iter__" ⟨[a], []⟩ := by unfold argsOk; kernel_rfl
theorem z5M : TypeCalled "reversed" "reversed.__new__" "object.__init__" :=
 ⟨by decide +kernel, by decide +kernel, ⟨_, _, PySem.F.mro_reversed⟩, PySem.F.made_reversed, by decide +kernel, PySem.F.sub_reversed_self, z8e⟩
theorem z7r : typeLookup (.type "tuple") "__reversed__" = pure none := by rw [typeLookup_type, builtinLookup_eq_fast]; kernel_rfl
theorem y0v : isSubtype (.type "tuple") (.type "dict") = pure false := by rw [isSubtype_type]; kernel_rfl
abbrev z7C (t : Addr) (i : Int) : Obj := { cls := .type "reversed", dict := none, data := .fields #[.ref t, rawInt i], slots := #[] }
section
variable {prog : Program} {w : World} {A : Around} {E : Value -> Shared -> Prop} {s : Shared}
theorem z95 {t : Addr} {items : Array Value} {Q : Value -> Shared -> Prop} (ht : IsTup s.heap t items) (hf : (items.size : Int) < 2 ^ 63) (h : ∀ tk, Q (.ref s.heap.objs.size) { s with heap := s.heap.push (z7C t ((items.size : Int) - 1)), toks := tk }) :
  codeAny (model prog w) A (.call (.builtin "reversed.__new__") ⟨[.type "reversed", .ref t], []⟩) (wants Q E) s := by
 refine codeAny_of_tree ?_
 show wpAny _ A.in1 (do checkBuiltinCall "reversed.__new__" ⟨[.type "reversed", .ref t], []⟩; again (.builtin "reversed.__new__" ⟨[.type "reversed", .ref t], []⟩)) _ _ s
 refine wpAny_bind (wpAny_of_eq (PySem.F.newCall_reversed_1 _) (wpAny_pure ⟨plainId_quiet PySem.F.plain_reversed_new _, codeAny_builtin PySem.F.entry_reversed_new ?_⟩))
 rw [Around.under_plainId PySem.F.plain_reversed_new _]
 unfold Builtin.«reversed.__new__»
 refine wpAny_bind (wpAny_of_eq (newClass_reversed _) ?_)
 try dsimp only
 refine wpAny_bind (wpAny_of_eq (a := ()) (by first | rfl | kernel_rfl) ?_)
 refine wpAny_bind (wpAny_of_eq (a := ()) (by first | rfl | kernel_rfl) ?_)
 try dsimp only
 refine wpAny_bind (wpAny_specialOf ht.typeIs z7r ?_)
 try dsimp only
 refine wpAny_bind ?_
 show wpAny _ _ (isInstance (.ref t) (.type "dict") >>= fun b => _) _ _ _
 refine wpAny_bind (wpAny_isInstance (T := "tuple") ht.typeIs y0v ?_)
 rw [if_neg (by decide)]
 refine wpAny_bind (wpAny_specialOf ht.typeIs slot_tuple_getitem.lookup ?_)
 dsimp only
 rw [if_pos (by decide +kernel)]
 refine wpAny_pure ?_
 rw [if_neg (by decide)]
 refine wpAny_bind (len_tuple ht hf ?_)
 refine wpAny_bind (wpAny_of_eq (a := some (items.size : Int)) rfl ?_)
 dsimp only
 refine wpAny_bind ?_
 show wpAny _ _ (newObj (.type "reversed") (.fields #[.ref t, rawInt ((items.size : Int) - 1)])) _ _ _
 exact wpAny_newObj_type (wpAny_pure (h _)) (by size_fits)
theorem y3Z {t : Addr} {items : Array Value} {Q : Value -> Shared -> Prop} (ht : IsTup s.heap t items) (hf : (items.size : Int) < 2 ^ 63) (h : ∀ tk, Q (.ref s.heap.objs.size) { s with heap := s.heap.push (z7C t ((items.size : Int) - 1)), toks := tk }) :
  wpAny (model prog w) A (call (.type "reversed") [.ref t]) Q E s := by
 refine callType_codes (Q₁ := fun obj s₁ => obj = .ref s.heap.objs.size /\ ∃ tk, s₁ = { s with heap := s.heap.push (z7C t ((items.size : Int) - 1)), toks := tk }) z5M (PySem.F.typeCall_reversed_1 _) F.entry_object_init (z95 ht hf fun tk => ⟨rfl, tk, rfl⟩) ?_
 rintro obj s₁ ⟨rfl, tk, rfl⟩
 have ty : Shared.TypeIs { s with heap := s.heap.push (z7C t ((items.size : Int) - 1)), toks := tk } (.ref s.heap.objs.size) "reversed" := ⟨_, Heap.get?_push_size _ rfl, rfl⟩
 exact ⟨ty, F.args_object_init_2 _ _, object_init_meets z5M.init.lookup z5M.made (by decide) _ _ _ _ _ ⟨ty, rfl, h tk⟩⟩
theorem y3L {I t : Addr} {i : Nat} {items : Array Value} {x : Value} {Q : Option Value -> Shared -> Prop} (hI : s.heap.get? I = some (z7C t (i : Int))) (ht : IsTup s.heap t items) (hx : items[i]? = some x) (hz : (items.size : Int) < 2 ^ 63)
  (hQ : ∀ h' tk, h'.get? I = some (z7C t ((i : Int) - 1)) -> Heap.SameBut I s.heap h' -> Q (some x) { s with heap := h', toks := tk }) : wpAny (model prog w) A (pyNext (.ref I)) Q E s := by
 have ty : s.TypeIs (.ref I) "reversed" := ⟨_, hI, rfl⟩
 have hi : i < items.size := (Array.getElem?_eq_some_iff.mp hx).1
 unfold pyNext
 refine wpAny_bind (wpAny_attempt (wpAny_callSpecial?_slot (name := Str.ofString "__next__") ty z2w
  (wpAny_call_entry z2w ty z4B ?_ (z5n _))))
 unfold Builtin.«reversed.__next__»
 refine wpAny_bind (wpAny_of_eq (a := (Value.ref I, [])) rfl ?_)
 try dsimp only
 refine wpAny_bind (wpAny_field hI rfl (x := .ref t) rfl ?_)
 refine wpAny_bind (wpAny_field hI rfl (x := rawInt (i : Int)) rfl ?_)
 show wpAny _ _ (if (i : Int) < 0 then _ else _) _ _ s
 rw [if_neg (by omega)]
 refine wpAny_bind (wpAny_specialOf ht.typeIs slot_tuple_getitem.lookup ?_)
 rw [if_neg (by decide)]
 refine wpAny_bind (wpAny_mkInt ?_)
 refine wpAny_bind (wpAny_attempt (getItem_tuple (j := i) (x := x) ht (by omega) (by omega) ?_ hx ?_))
 ·exact seqIndex_of (by omega) (by omega)
 dsimp only
 refine wpAny_bind (wpAny_field hI rfl (x := rawInt (i : Int)) rfl ?_)
 show wpAny _ _ (setField (.ref I) 1 (rawInt ((i : Int) - 1)) >>= _) _ _ _
 refine wpAny_bind (wpAny_setField hI rfl (by simp) ?_)
 refine wpAny_pure ⟨x, rfl, wpAny_pure (hQ _ _ ?_ (Heap.SameBut.update ..))⟩
 exact Heap.get?_update_self _ hI rfl
theorem y4y {I t : Addr} {Q : Option Value -> Shared -> Prop} (hh : A.handled = none) (hI : s.heap.get? I = some (z7C t (-1)))
  (hQ : ∀ h', Heap.ExtBut I s.heap h' -> Q none { s with heap := h' }) : wpAny (model prog w) A (pyNext (.ref I)) Q E s := by
 have ty : s.TypeIs (.ref I) "reversed" := ⟨_, hI, rfl⟩
 unfold pyNext
 refine wpAny_bind (wpAny_attempt (wpAny_callSpecial?_slot (name := Str.ofString "__next__") ty z2w
  (wpAny_call_entry z2w ty z4B ?_ (z5n _))))
 unfold Builtin.«reversed.__next__»
 refine wpAny_bind (wpAny_of_eq (a := (Value.ref I, [])) rfl ?_)
 try dsimp only
 refine wpAny_bind (wpAny_field hI rfl (x := .ref t) rfl ?_)
 refine wpAny_bind (wpAny_field hI rfl (x := rawInt (-1)) rfl ?_)
 show wpAny _ _ (if (-1 : Int) < 0 then _ else _) _ _ s
 rw [if_pos (by decide)]
 refine wpAny_bind (wpAny_rule ?_)
 refine wpAny_bind ?_
 show wpAny _ _ (setField (.ref I) 1 (rawInt (-1)) >>= fun _ => setField (.ref I) 0 .none) _ _ _
 refine wpAny_bind (wpAny_setField hI rfl (by simp) ?_)
 have g1 := Heap.get?_update_self (Obj.mapFields (·.setIfInBounds 1 (rawInt (-1)))) hI rfl
 have b1 : Heap.SameBut I s.heap (s.heap.update I (Obj.mapFields (·.setIfInBounds 1 (rawInt (-1))))) := Heap.SameBut.update ..
 refine wpAny_setField (vs := #[.ref t, rawInt (-1)]) g1 rfl (by simp) ?_
 have b2 : Heap.SameBut I (s.heap.update I (Obj.mapFields (·.setIfInBounds 1 (rawInt (-1))))) ((s.heap.update I (Obj.mapFields (·.setIfInBounds 1 (rawInt (-1))))).update I (Obj.mapFields (·.setIfInBounds 0 .none))) := Heap.SameBut.update ..
 refine wpAny_bind ?_
 unfold Builtin.SmallTypes.stopIteration
 refine wpAny_bind ?_
 simp only [newExc, newTuple]
 refine wpAny_bind (wpAny_newObj_type ?_ (by size_fits))
 refine wpAny_bind (m := firstArgMember _ _) (wpAny_of_eq (a := Value.none) (by first | rfl | (simp only [firstArgMember]; rfl)) (wpAny_newObj_type ?_ (by size_fits)))
 simp only [raiseNew]
 refine wpAny_bind (wpAny_handled ?_)
 rw [show A.in1.handled = none from hh]
 refine wpAny_bind (wpAny_pure (wpAny_throw ?_))
 refine wpAny_bind (wpAny_isInstance (T := "StopIteration") (b := true) ⟨_, Heap.get?_push_size _ rfl, rfl⟩ isSubtype_stop ?_)
 exact wpAny_pure (hQ _ fun b o hb e => Heap.get?_push_of_some _ (Heap.get?_push_of_some _ ((b2.2 b hb).trans ((b1.2 b hb).trans e))))
theorem y1Z {I t : Addr} {i : Int} {Q : Value -> Shared -> Prop} (hI : s.heap.get? I = some (z7C t i)) (h : Q (.ref I) s) : wpAny (model prog w) A (pyIter (.ref I)) Q E s := by
 have ty : s.TypeIs (.ref I) "reversed" := ⟨_, hI, rfl⟩
 refine wpAny_pyIter_slot ty z5l (wpAny_call_entry z5l ty z7X ?_ (z8k _))
 show wpAny _ _ (ret (.ref I)) _ _ s
 exact wpAny_pure ⟨_, rfl, "reversed", _, ty, z2w.lookup, h⟩
end
def Itv (K : PySem.W.Frag) (a : Addr) (n : Nat) : It :=
 ⟨fun i H => i < n /\ ∃ xs, SqT K H a xs /\ xs.length = n, fun i H x H' => H' = H /\ ∀ xs, SqT K H a xs -> xs.reverse[i]? = some x, fun i H => n ≤ i⟩
theorem y2U {P : Program} {w : World} {K : PySem.W.Frag} {tg : Expr} (a it : Addr) (n : Nat) : Turn P w K tg (Itv K a n) [it] it (fun i h => i ≤ n /\ h.get? it = some (z7C a ((n : Int) - 1 - (i : Int)))) where
 mem := by simp
 obj := fun i h st b hb => by
  have e : b = it := by simpa using hb
  subst e
  exact ⟨_, st.2, fun v z => by
   have z' : Data.fields _ = Data.cell v := z
   cases z'⟩
 keep := fun i h h' st k => ⟨st.1, k it (by simp) _ st.2⟩
 item := by
  intro X hP hw hK hc i pins s σ H E I hf st hg
  subst hP hw hK
  obtain ⟨hi, xs, hq, hn⟩ := hg
  obtain ⟨its, rv, p, hz⟩ := I.tuple hq
  have ln : xs.length = its.length := rv.length
  have hk : n - 1 - i < xs.length := by omega
  obtain ⟨u, hu, ru⟩ := rv.get (List.getElem?_eq_getElem hk)
  obtain ⟨f0, f1, f2, f3, f4, f5⟩ := hf it (by simp)
  have e1 : (n : Int) - 1 - (i : Int) = ((n - 1 - i : Nat) : Int) := by omega
  have st1 := st.2
  rw [e1] at st1
  refine y3L st1 (show IsTup s.heap a its.toArray from p) (x := u) (by simpa using hu) ?_ fun h' tk st' sb => ?_
  ·have : its.toArray.size = xs.length := by simp [ln]
   rw [this]
   have := Nat.lt_of_le_of_lt hz z5v
   omega
  have I1 : Inv X pins σ H { s with heap := h', toks := tk } := I.turned (t' := tk) (fun b o hb e => (sb.2 b hb).trans e) f0 f1 f3 f4 f5
  refine ⟨u, rfl, y1G (s := { s with heap := h', toks := tk }) st' rfl rfl (by decide) ⟨xs[n - 1 - i], H, I1, ru, ⟨rfl, fun ys hy => ?_⟩, ⟨hi, ?_⟩, fun b hb => (hf b hb).1⟩⟩
  ·rw [I.tuple_inj hy hq, List.getElem?_reverse (by omega), List.getElem?_eq_getElem (by omega)]
   congr 2
   omega
  ·have e2 : (n : Int) - 1 - ((i + 1 : Nat) : Int) = ((n - 1 - i : Nat) : Int) - 1 := by omega
   rw [e2]
   exact st'
 done := by
  intro X hP hw hK hc i pins s σ H E I hf st hg
  subst hP hw hK
  obtain ⟨f0, f1, f2, f3, f4, f5⟩ := hf it (by simp)
  have hg' : n ≤ i := hg
  have st1 := st.2
  rw [show (n : Int) - 1 - (i : Int) = -1 by have := st.1; omega] at st1
  exact y4y (I.ok.hd hc) st1 fun h' eb => ⟨rfl, I.turned (t' := s.toks) (fun b o hb e => eb b o hb e) f0 f1 f3 f4 f5⟩
 self := fun _ _ _ _ _ st h => y1Z st.2 h
section
variable {X : Cx} {tg : Expr}
def iRev (K : PySem.W.Frag) (ta : TA) : TI := fun σ H R => ta σ H fun vs H1 => ∃ a xs, vs = [.ref a] /\ SqT K H1 a xs /\ R (Itv K a xs.length) H1
theorem y3f {e : Expr} {ta : TA} {p pos : Pos} (hg : Gl X "reversed") (hm : X.mg "reversed" = none) (ha : PA X [e] ta) (hs : starEach [e] X.env = [(false, eval e X.env)] := by rfl) : PI X tg (.Call (.Name "reversed" p) [e] [] pos) (iRev X.K ta) := by
 intro pins s σ H R I h
 refine Call_ (z4w I hg hm boot_reversed (PyProof.Rows.callWith_type1 (thn (ha pos pins s σ H _ I h) fun us s1 ⟨vs, H1, I1, r1, q1⟩ => ?_) hs rfl))
 obtain ⟨a, xs, e, hq, q⟩ := q1
 subst e
 cases r1 with
 | cons r rr =>
  cases rr
  cases r
  obtain ⟨its, rv, p, hz⟩ := I1.tuple hq
  have ln : (its.toArray.size : Int) = xs.length := by simp [rv.length]
  refine y3Z (show IsTup s1.heap a its.toArray from p) ?_ fun tk => ?_
  ·rw [ln]
   have := Nat.lt_of_le_of_lt hz z5v
   omega
  refine y1Z (Heap.get?_push_size _ rfl) ?_
  refine ⟨s1.heap.objs.size, [s1.heap.objs.size], _, _, H1, rfl, I1.kept (t' := tk) fun b o e => Heap.get?_push_of_some _ e, y2U a _ xs.length, ⟨Nat.zero_le _, ?_⟩, fun b hb => ?_, q⟩
  ·rw [show (xs.length : Int) - 1 - ((0 : Nat) : Int) = (its.toArray.size : Int) - 1 by rw [ln]; simp]
   exact Heap.get?_push_size _ rfl
  ·have e : b = s1.heap.objs.size := by simpa using hb
   subst e
   exact I1.fpOk (Nat.le_refl _) (I1.hok.fresh (Nat.le_refl _))
end
theorem y2O {K : PySem.W.Frag} {a : Addr} {xs : List V} {g : TG} {tc : TT} {te : TE} {σ0 : St} {H1 : Hp} {F : List V -> Hp -> Prop} (Pv : Nat -> List V -> Hp -> Prop) (h0 : Pv 0 [] H1)
  (hl : ∀ i ys H, i ≤ xs.length -> Pv i ys H -> SqT K H a xs /\ ys.length < sizeLine)
  (hs : ∀ i x ys H, xs.reverse[i]? = some x -> Pv i ys H -> z1D g tc te σ0 x H ys (Pv (i + 1))) (hd : ∀ ys H, Pv xs.length ys H -> F ys H) : z8J (Itv K a xs.length) g tc te σ0 H1 F := by
 refine ⟨fun i m ys H => m = xs.length - i /\ i ≤ xs.length /\ Pv i ys H, ⟨xs.length, by simp, Nat.zero_le _, h0⟩, ?_⟩
 rintro i m ys H ⟨rfl, hi, p⟩
 obtain ⟨q, z⟩ := hl i ys H hi p
 by_cases hlt : i < xs.length
 ·refine .inr ⟨⟨hlt, xs, q, rfl⟩, z, Pv (i + 1), fun zs H' p' => ⟨xs.length - (i + 1), by omega, rfl, hlt, p'⟩, fun x H' y => ?_⟩
  obtain ⟨e, y⟩ := y
  subst e
  exact hs i x ys _ (y xs q) p
 ·have e : i = xs.length := by omega
  subst e
  exact .inl ⟨Nat.le_refl _, hd ys H p⟩
theorem y3G {K : PySem.W.Frag} {a : Addr} {xs : List V} {g : TG} {tb : TS} {D : Ends} {σ : St} {H : Hp} (Pv : Nat -> St -> Hp -> Prop) (h0 : Pv 0 σ H) (hl : ∀ i σ H, i ≤ xs.length -> Pv i σ H -> SqT K H a xs)
  (hs : ∀ i x σ H, xs.reverse[i]? = some x -> Pv i σ H -> g x σ H fun σ2 H2 => tb { D with nx := Pv (i + 1), ct := Pv (i + 1), bk := D.nx } σ2 H2) (hd : ∀ σ H, Pv xs.length σ H -> D.nx σ H) :
  ∃ W : Nat -> Nat -> St -> Hp -> Prop, (∃ m, W 0 m σ H) /\ ∀ i m σ H, W i m σ H ->
   ((Itv K a xs.length).stop i H /\ D.nx σ H) \/ ((Itv K a xs.length).go i H /\ ∃ N : St -> Hp -> Prop, (∀ σ' H', N σ' H' -> ∃ m', m' < m /\ W (i + 1) m' σ' H') /\ ∀ x H', (Itv K a xs.length).yld i H x H' -> g x σ H' fun σ2 H2 => tb { D with nx := N, ct := N, bk := D.nx } σ2 H2) := by
 refine ⟨fun i m σ H => m = xs.length - i /\ i ≤ xs.length /\ Pv i σ H, ⟨xs.length, by simp, Nat.zero_le _, h0⟩, ?_⟩
 rintro i m σ H ⟨rfl, hi', p⟩
 have q := hl i σ H hi' p
 by_cases hlt : i < xs.length
 ·refine .inr ⟨⟨hlt, xs, q, rfl⟩, Pv (i + 1), fun σ' H' p' => ⟨xs.length - (i + 1), by omega, rfl, hlt, p'⟩, fun x H' y => ?_⟩
  obtain ⟨e, y⟩ := y
  subst e
  exact hs i x σ _ (y xs q) p
 ·have e : i = xs.length := by omega
  subst e
  exact .inl ⟨Nat.le_refl _, hd σ H p⟩
theorem len0 {us : List Value} {p : List Value -> Prop} (h : us.length = 0) (k : p []) : p us := by rw [List.eq_nil_of_length_eq_zero h]; exact k
theorem len1 {us : List Value} {p : List Value -> Prop} (h : us.length = 1) (k : ∀ a, p [a]) : p us := by
 obtain ⟨a, r, rfl⟩ := List.exists_cons_of_length_eq_add_one h
 exact len0 (p := fun r => p (a :: r)) (Nat.succ.inj h) (k a)
theorem len2 {us : List Value} {p : List Value -> Prop} (h : us.length = 2) (k : ∀ a b, p [a, b]) : p us := by
 obtain ⟨a, r, rfl⟩ := List.exists_cons_of_length_eq_add_one h
 exact len1 (p := fun r => p (a :: r)) (Nat.succ.inj h) (k a)
theorem len3 {us : List Value} {p : List Value -> Prop} (h : us.length = 3) (k : ∀ a b c, p [a, b, c]) : p us := by
 obtain ⟨a, r, rfl⟩ := List.exists_cons_of_length_eq_add_one h
 exact len2 (p := fun r => p (a :: r)) (Nat.succ.inj h) (k a)
theorem len4 {us : List Value} {p : List Value -> Prop} (h : us.length = 4) (k : ∀ a b c d, p [a, b, c, d]) : p us := by
 obtain ⟨a, r, rfl⟩ := List.exists_cons_of_length_eq_add_one h
 exact len3 (p := fun r => p (a :: r)) (Nat.succ.inj h) (k a)
theorem len5 {us : List Value} {p : List Value -> Prop} (h : us.length = 5) (k : ∀ a b c d e, p [a, b, c, d, e]) : p us := by
 obtain ⟨a, r, rfl⟩ := List.exists_cons_of_length_eq_add_one h
 exact len4 (p := fun r => p (a :: r)) (Nat.succ.inj h) (k a)
theorem len6 {us : List Value} {p : List Value -> Prop} (h : us.length = 6) (k : ∀ a b c d e f, p [a, b, c, d, e, f]) : p us := by
 obtain ⟨a, r, rfl⟩ := List.exists_cons_of_length_eq_add_one h
 exact len5 (p := fun r => p (a :: r)) (Nat.succ.inj h) (k a)
theorem Cal.mono {P : Program} {w : World} {K : PySem.W.Frag} {mg : Str -> Option Value} {base : Heap} {j k : Nat} {x : Str} {ps : List Str} {sp : Sp} (G : Cal P w K mg base j x ps sp) (h : j ≤ k) : Cal P w K mg base k x ps sp := by
 obtain ⟨f, fd, a, b, c, d⟩ := G.ex
 exact ⟨f, fd, a.mono h, b, c, d⟩
theorem MCal.mono {P : Program} {w : World} {K : PySem.W.Frag} {mg : Str -> Option Value} {base : Heap} {j k : Nat} {C : Addr} {m : Str} {ps : List Str} {sp : Sp} (G : MCal P w K mg base j C m ps sp) (h : j ≤ k) : MCal P w K mg base k C m ps sp := by
 obtain ⟨f, fd, a, b, c⟩ := G.ex
 exact ⟨G.cl, f, fd, a.mono h, b, c⟩
theorem Mkr.mono {P : Program} {w : World} {K : PySem.W.Frag} {mg : Str -> Option Value} {base : Heap} {j k : Nat} {C : Addr} {x : Str} {ps : List Str} {sp : Sp} (G : Mkr P w K mg base j C x ps sp) (h : j ≤ k) : Mkr P w K mg base k C x ps sp := by
 obtain ⟨f, fd, a, b, c, d⟩ := G.ex
 exact ⟨f, fd, a.mono h, b, c, d⟩
theorem z2P {X : Cx} {x z : Str} {pos : Pos} (hg : Gl X x) (hm : ∃ t, X.mg x = some (.str z t)) (hd : (x == ("__debug__" : Str)) = false := by decide) : PE X (.Name x pos) (tC (.str z)) := by
 obtain ⟨t, e⟩ := hm
 exact y1j hg e ⟨t, rfl⟩ hd
end L2

set_option Elab.async false
set_option linter.all false
set_option maxRecDepth 100000
set_option maxHeartbeats 4000000
namespace L2
open PySem PySem.Spec PyProof.Rows
section
variable {X : Cx}
theorem z5i {P : Program} {w : World} : ∀ {ns : List Int} {vs : List Value}, vs.length = ns.length -> (∀ (j : Nat) (v : Value), vs[j]? = some v -> ∃ k : Key, (ns.map Sum.inl)[j]? = some k /\ (z1y P w).is k v = true) -> IntsAre vs ns
 | [], [], _, _ => .nil
 | [], _ :: _, h, _ => by cases h
 | _ :: _, [], h, _ => by cases h
 | n :: ns, v :: vs, h, q => by
  obtain ⟨k, e, hk⟩ := q 0 v rfl
  cases e
  rcases z1g (show z9i (Sum.inl n) v = true from hk) with ⟨i, t, e1, rfl⟩ | ⟨x, t, e1, _⟩
  ·cases e1
   exact .cons n t (z5i (Nat.succ.inj h) fun j u hu => q (j + 1) u hu)
  ·cases e1
theorem z86 {prog : Program} {w : World} {A : Around} {E : Value -> Shared -> Prop} {s : Shared} {R : List Value -> Shared -> Prop} {T : String} {r d : Addr} {n : Nat} {P : Nat -> Value -> Prop} {OK : Heap -> Prop} (K : PySem.W.KdlSrc prog w T r d n P OK) (hh : A.handled = none) (hok : OK s.heap) (hn : n ≤ sizeLine)
  (fin : ∀ (h' : Heap) (tk : Nat) (acc : Array Value), (∀ b o, s.heap.get? b = some o -> h'.get? b = some o) -> s.heap.objs.size < h'.objs.size -> ItemsOf P acc n -> R acc.toList { s with heap := h', toks := tk }) : wpAny (model prog w) A (collect (.ref r)) R E s := by
 have hlt := K.there _ hok
 unfold collect
 refine wpAny_bind (wpAny_runValue (codeAny_builtin entry_proto_collect' ?_))
 rw [Around.under_plainId PySem.F.plain_proto_collect _]
 refine (show wpAny _ A.in1 (newList [] >>= fun l => again (.builtin "list.__iadd__" ⟨[l, .ref r], []⟩)) _ _ s from wpAny_bind (wpAny_newObj_type (wpAny_pure ⟨plainId_quiet PySem.F.plain_list_iadd _, codeAny_builtin entry_list_iadd' ?_⟩)))
 rw [Around.under_plainId PySem.F.plain_list_iadd _]
 have g1 : (s.heap.push { cls := .type "list", data := .seq ([] : List Value).toArray }).get? s.heap.objs.size = some { cls := .type "list", data := .seq #[] } := Heap.get?_push_size _ rfl
 have ext := PySem.W.kdl_extend (A := A) (s := { s with heap := s.heap.push { cls := .type "list", data := .seq ([] : List Value).toArray } })
  (R := fun (q : Result) (s' : Shared) => ∃ (h' : Heap) (tk : Nat) (acc : Array Value) (c' : Nat), q = .ok (.ret (.ref s.heap.objs.size)) /\ s' = { s with heap := h', toks := tk } /\ (∀ b o, s.heap.get? b = some o -> h'.get? b = some o) /\
   h'.get? s.heap.objs.size = some { cls := .type "list", dict := none, data := .seq acc c', slots := #[] } /\ ItemsOf P acc n)
  K hh (K.keep _ _ hok fun b _ o e => Heap.get?_push_of_some _ e) s.heap.objs.size (Nat.ne_of_gt hlt.1) (Nat.ne_of_gt hlt.2) (.ref s.heap.objs.size) 0 g1
  (fun h' tk acc c' k hS' so => ⟨h', tk, acc, c', rfl, rfl, fun b o e => k b o (Nat.ne_of_lt (Heap.lt_size e)) (Heap.get?_push_of_some _ e), hS', so⟩) hn
 refine (show wpAny _ A.in1 (Builtin.List.listExtendWith (.ref s.heap.objs.size) (.ref r) (.ref s.heap.objs.size)) _ _ _ from wpAny_mono ext (fun f s' x => ?_) fun e s' x => ?_)
 ·cases f with
  | done f =>
   obtain ⟨h', tk, acc, c', e, rfl, k, hS', so⟩ := x
   cases e
   exact (show wpAny _ A (load s.heap.objs.size >>= _) _ _ _ from wpAny_bind (wpAny_load hS' (wpAny_pure (fin h' tk _ k (Heap.lt_size hS') so))))
  | again c1 =>
   refine ⟨x.1, codeAny_mono x.2 fun q s2 y => ?_⟩
   obtain ⟨h', tk, acc, c', rfl, rfl, k, hS', so⟩ := y
   exact (show wpAny _ A (load s.heap.objs.size >>= _) _ _ _ from wpAny_bind (wpAny_load hS' (wpAny_pure (fin h' tk _ k (Heap.lt_size hS') so))))
 ·obtain ⟨_, _, _, _, e', _⟩ := x
  cases e'
theorem z5w (hc : X.calm = true) : z3p X (.builtin "sorted") (fun xs H Q => ∃ (p : Addr) (kvs : List (Key × V)) (ns : List Int), xs = [.ref p] /\ H p = some (.dK kvs) /\ kvs.map (·.1) = ns.map Sum.inl /\ ns.length < 64 /\
  ∀ (l : Addr) (ms : List Int), H l = none -> ms.Perm ns -> ms.Pairwise (· ≤ ·) -> Q (.ref l) (upd H l (.lst (ms.map V.int)))) := by
 intro pins s σ H xs us Q I r h
 obtain ⟨p, kvs, ns, rfl, hp, hk, h64, q⟩ := h
 obtain ⟨u, rfl, rx⟩ := z41 r
 cases rx
 obtain ⟨_, lo, kv, rk, dd⟩ := y4I I.hok hp
 obtain ⟨ep, hat⟩ := dd.dictAt
 have lk : kv.length = ns.length := by
  have e1 := rk.length
  have e2 := congrArg List.length hk
  rw [List.length_map, List.length_map] at e2
  omega
 refine Calls.call_function_entry kind_sorted plain_sorted entry_sorted (args_sorted1 _) ?_
 unfold Builtin.«sorted»
 refine wpAny_bind (m := checkCount "sorted" 1 1 _) (wpAny_pure ?_)
 refine wpAny_bind (z86 (A := X.A.in1) (PySem.W.kdl_dict (knd := z1y X.prog X.w) (kvs := kv) (ep := ep) lo) (I.ok.hd hc) hat (by rw [sizeLine_eq]; omega) fun h' tk acc kp slt items => ?_)
 have hi : IntsAre acc.toList ns := z5i (P := X.prog) (w := X.w) (by rw [Array.length_toList, items.1, lk]) fun j v hv => by
  obtain ⟨k, x, e, ik⟩ := items.2 j v (by rw [<- Array.getElem?_toList]; exact hv)
  refine ⟨k, ?_, ik⟩
  rw [<- hk, rk.keys, List.getElem?_map, e]
  rfl
 have lv : acc.toList.length < 64 := by rw [IntsAre.length hi]; exact h64
 refine wpAny_bind (wpAny_newList ?_ (by rw [sizeLine_eq]; omega))
 have g1 : (h'.push (seqObj "list" acc.toList.toArray 0)).get? h'.objs.size = some (seqObj "list" acc.toList.toArray 0) := Heap.get?_push_size _ rfl
 refine wpAny_bind (wpAny_holding (wpAny_call_entry slot_list_sort ⟨_, g1, rfl⟩ entry_list_sort (list_sort_tree g1 hi lv fun out ns' a1 a2 a3 => ⟨_, rfl, ?_⟩) (args_list_sort _)))
 refine wpAny_pure ⟨_, rfl, ?_⟩
 obtain ⟨e, he⟩ := sortedHeap_at (out := out) g1
 have sle : s.heap.objs.size ≤ h'.objs.size := Nat.le_of_lt slt
 have old : ∀ b o, s.heap.get? b = some o -> (sortedHeap (h'.push (seqObj "list" acc.toList.toArray 0)) h'.objs.size acc.toList out).get? b = some o := fun b o e => by
  have hb := Heap.lt_size (kp b o e)
  rw [sortedHeap_old (Nat.ne_of_lt hb) (by rw [size_push']; exact Nat.lt_succ_of_lt hb)]
  exact Heap.get?_push_of_some _ (kp b o e)
 refine ⟨.ref h'.objs.size, _, I.laid (a := h'.objs.size) (o := .lst (ns'.map V.int)) (t' := tk) old sle (show z1B X.prog X.w _ _ _ (.lst (ns'.map V.int)) from ⟨?_, out.toList, e, z4D a1, ?_⟩), rfl, q _ ns' (I.hok.fresh sle) a2 a3⟩
 ·rw [List.length_map, a2.length_eq, sizeLine_eq]
  omega
 ·simpa using he
end
end L2

set_option Elab.async false
set_option linter.all false
set_option maxRecDepth 100000
set_option maxHeartbeats 4000000
namespace L2
open PySem PySem.Spec PyProof.Rows
theorem z6D : typeLookup (.type "list") "keys" = pure none := am_miss_of_fast (by kernel_rfl)
theorem z67 : typeLookup (.type "tuple") "keys" = pure none := am_miss_of_fast (by kernel_rfl)
theorem z8F : typeLookup (.type "list") "__getattr__" = pure none := by rw [typeLookup_type, builtinLookup_eq_fast]; kernel_rfl
theorem z7v : typeLookup (.type "tuple") "__getattr__" = pure none := by rw [typeLookup_type, builtinLookup_eq_fast]; kernel_rfl
section
variable {prog : Program} {w : World} {A : Around} {E : Value -> Shared -> Prop} {s : Shared}
theorem z8c {a : Addr} {items : Array Value} {n : Nat} {sl : Array (Option Value)} {u : Tok} {R : Result -> Shared -> Prop} (hA : A.handled = none) (ho : s.heap.get? a = some ⟨.type "list", none, .seq items n, sl⟩) (h : ∀ h' tk e, Heap.NewAttrErr s.heap h' e (.ref a) "keys" -> R (.error (.ref e)) { s with heap := h', toks := tk }) :
  wpAny (model prog w) A.in1 (Builtin.«object.__getattribute__» ⟨[.ref a, .str "keys" u], []⟩) (fun fin s' => match fin with | .done f => R (.ok f) s' | .again c' => c'.quiet = true /\ codeAny (model prog w) A c' R s') (fun e s' => R (.error e) s') s := by
 obtain ⟨hp, g, d, tk, os⟩ := s
 have hT : (⟨hp, g, d, tk, os⟩ : Shared).TypeIs (.ref a) "list" := ⟨_, ho, rfl⟩
 have f1 := z6D
 unfold Builtin.«object.__getattribute__»
 repeat (any_goals (first | assumption | wp_step))
 exact wpAny_raiseAttrError hA h (attrMsg_fits (by decide +kernel) (by decide +kernel))
theorem z7s {a : Addr} {items : Array Value} {n : Nat} {sl : Array (Option Value)} {u : Tok} {R : Result -> Shared -> Prop} (hA : A.handled = none) (ho : s.heap.get? a = some ⟨.type "tuple", none, .seq items n, sl⟩) (h : ∀ h' tk e, Heap.NewAttrErr s.heap h' e (.ref a) "keys" -> R (.error (.ref e)) { s with heap := h', toks := tk }) :
  wpAny (model prog w) A.in1 (Builtin.«object.__getattribute__» ⟨[.ref a, .str "keys" u], []⟩) (fun fin s' => match fin with | .done f => R (.ok f) s' | .again c' => c'.quiet = true /\ codeAny (model prog w) A c' R s') (fun e s' => R (.error e) s') s := by
 obtain ⟨hp, g, d, tk, os⟩ := s
 have hT : (⟨hp, g, d, tk, os⟩ : Shared).TypeIs (.ref a) "tuple" := ⟨_, ho, rfl⟩
 have f1 := z67
 unfold Builtin.«object.__getattribute__»
 repeat (any_goals (first | assumption | wp_step))
 exact wpAny_raiseAttrError hA h (attrMsg_fits (by decide +kernel) (by decide +kernel))
theorem z6C {a : Addr} {items : Array Value} {n : Nat} {sl : Array (Option Value)} {u : Tok} {R : Result -> Shared -> Prop} (hA : A.handled = none) (ho : s.heap.get? a = some ⟨.type "list", none, .seq items n, sl⟩) (h : ∀ h' tk e, Heap.NewAttrErr s.heap h' e (.ref a) "keys" -> R (.error (.ref e)) { s with heap := h', toks := tk }) :
  codeAny (model prog w) A (.call (.builtin "list.__getattribute__") ⟨[.ref a, .str "keys" u], []⟩) R s :=
 codeAny_call_builtin F.slot_list_getattribute.plain F.entry_list_ga (F.slot_list_getattribute.check _ _ _ _ _ _ _ _ (show s.TypeIs (.ref a) "list" from ⟨_, ho, rfl⟩) (F.args_list_getattribute_2 _ _) (z8c (R := R) hA ho h))
theorem z6E {a : Addr} {items : Array Value} {n : Nat} {sl : Array (Option Value)} {Q : Option Value -> Shared -> Prop} (hA : A.handled = none) (ho : s.heap.get? a = some ⟨.type "list", none, .seq items n, sl⟩) (h : ∀ h' tk, (∀ b o, s.heap.get? b = some o -> h'.get? b = some o) -> Q none { s with heap := h', toks := tk }) :
  wpAny (model prog w) A (getAttr? (.ref a) "keys") Q E s := by
 obtain ⟨hp, g, d, tk, os⟩ := s
 have hT : ∀ tk', (⟨hp, g, d, tk', os⟩ : Shared).TypeIs (.ref a) "list" := fun _ => ⟨_, ho, rfl⟩
 have f1 := sub_AttributeError
 have f3 := F.slot_list_getattribute.lookup
 have f4 := F.slot_list_getattribute.bind (.ref a)
 have f5 := z8F
 unfold getAttr? getAttrBy? getAttrBy
 repeat (any_goals (first | assumption | exact hT _ | wp_step))
 refine z6C (s := ⟨hp, g, d, tk + 1, os⟩) hA ho fun h' tk' e hx => ?_
 obtain ⟨t', u', he⟩ := hx.there
 show wpAny _ _ (getattributeRaised _ _ _ _ _ _ _) _ _ _
 unfold getattributeRaised
 repeat (any_goals (first | assumption | wp_step))
 exact h _ _ hx.keeps
theorem z6o {a : Addr} {items : Array Value} {n : Nat} {sl : Array (Option Value)} {u : Tok} {R : Result -> Shared -> Prop} (hA : A.handled = none) (ho : s.heap.get? a = some ⟨.type "tuple", none, .seq items n, sl⟩) (h : ∀ h' tk e, Heap.NewAttrErr s.heap h' e (.ref a) "keys" -> R (.error (.ref e)) { s with heap := h', toks := tk }) :
  codeAny (model prog w) A (.call (.builtin "tuple.__getattribute__") ⟨[.ref a, .str "keys" u], []⟩) R s :=
 codeAny_call_builtin F.slot_tuple_getattribute.plain F.entry_tuple_ga (F.slot_tuple_getattribute.check _ _ _ _ _ _ _ _ (show s.TypeIs (.ref a) "tuple" from ⟨_, ho, rfl⟩) (F.args_tuple_getattribute_2 _ _) (z7s (R := R) hA ho h))
theorem z6A {a : Addr} {items : Array Value} {n : Nat} {sl : Array (Option Value)} {Q : Option Value -> Shared -> Prop} (hA : A.handled = none) (ho : s.heap.get? a = some ⟨.type "tuple", none, .seq items n, sl⟩) (h : ∀ h' tk, (∀ b o, s.heap.get? b = some o -> h'.get? b = some o) -> Q none { s with heap := h', toks := tk }) :
  wpAny (model prog w) A (getAttr? (.ref a) "keys") Q E s := by
 obtain ⟨hp, g, d, tk, os⟩ := s
 have hT : ∀ tk', (⟨hp, g, d, tk', os⟩ : Shared).TypeIs (.ref a) "tuple" := fun _ => ⟨_, ho, rfl⟩
 have f1 := sub_AttributeError
 have f3 := F.slot_tuple_getattribute.lookup
 have f4 := F.slot_tuple_getattribute.bind (.ref a)
 have f5 := z7v
 unfold getAttr? getAttrBy? getAttrBy
 repeat (any_goals (first | assumption | exact hT _ | wp_step))
 refine z6o (s := ⟨hp, g, d, tk + 1, os⟩) hA ho fun h' tk' e hx => ?_
 obtain ⟨t', u', he⟩ := hx.there
 show wpAny _ _ (getattributeRaised _ _ _ _ _ _ _) _ _ _
 unfold getattributeRaised
 repeat (any_goals (first | assumption | wp_step))
 exact h _ _ hx.keeps
end
end L2

set_option Elab.async false
set_option linter.all false
set_option maxRecDepth 100000
set_option maxHeartbeats 4000000
namespace L2
open PySem PySem.Spec PyProof.Rows
theorem z4b : entryFor table "dict.update.loop" = some Builtin.«dict.update.loop» := entryFor_of_tree (by kernel_rfl)
theorem z1U : plainId "dict.update.loop" = true := by decide +kernel
section
variable {prog : Program} {w : World} {A : Around} {κ : Type} [DecidableEq κ] {kd : KeyKind prog w κ} {I : Addr} {fp wr : List Addr} {G : Array GenState -> Array GenState -> Prop} {n : Nat} {P : Nat -> Value -> Prop} {St : Nat -> Shared -> Prop}
def z8a (kd : KeyKind prog w κ) (h : Heap) (v : Value) (kv : κ × Value) (out : List Addr) : Prop := ∃ (a : Addr) (o : Obj) (T : String) (k : Value) (c : Nat), v = .ref a /\ h.get? a = some o /\ o.cls = .type T /\ (T = "list" \/ T = "tuple") /\ o.data = .seq #[k, kv.2] c /\ kd.is kv.1 k = true /\ a ∉ out
theorem z5I {R : Result -> Shared -> Prop} (W : WalksS prog w A.in1 I fp wr G n P St) {d : Addr} (out : d ∉ fp) {h0 : Heap} {vs : List (κ × Value)} (lk : vs.length = n)
  (vals : ∀ i v, P i v -> ∃ kv, vs[i]? = some kv /\ z8a kd h0 v kv (d :: wr)) (few : n ≤ 1000) :
  ∀ (todo i : Nat) (s : Shared), i + todo = n -> St i s -> s.heap.DictOf kd d (merged [] (vs.take i)) -> (∀ b o, b ∉ d :: wr -> h0.get? b = some o -> s.heap.get? b = some o) ->
   (∀ s', Moved (d :: wr) G s s' -> s'.heap.DictOf kd d (merged [] vs) -> R (.ok (.ret .none)) s') -> codeAny (model prog w) A (.builtin "dict.update.loop" ⟨[.ref d, .ref I, rawInt i, .none], []⟩) R s
 | 0, i, s, ei, st, sx, kp, fin => by
  have e : vs.take i = vs := List.take_of_length_le (by omega)
  rw [e] at sx
  have ei' : i = n := by omega
  subst ei'
  refine codeAny_builtin z4b ?_
  rw [Around.under_plainId z1U _]
  refine wpAny_bind (W.done s _ _ st fun s' mv => wpAny_bind (wpAny_pure (wpAny_pure (fin s' (mv.mono fun b hb => .tail _ hb) (sx.at fun o => mv.heap d o fun q => out (W.sub _ q))))))
 | todo + 1, i, s, ei, st, sx, kp, fin => by
  refine codeAny_builtin z4b ?_
  rw [Around.under_plainId z1U _]
  refine wpAny_bind (W.item i s _ _ (by omega) st fun v s1 hv st1 mv => ?_)
  obtain ⟨⟨key, y⟩, ek, a, o, T, k, c, rfl, ho, hc, hT, hd, ik, na⟩ := vals i v hv
  have sx1 := sx.at (h' := s1.heap) fun o => mv.heap d o fun q => out (W.sub _ q)
  have ho1 : s1.heap.get? a = some o := mv.heap a o (fun q => na (.tail _ q)) (kp a o na ho)
  have ty : s1.TypeIs (.ref a) T := ⟨o, ho1, hc⟩
  refine wpAny_bind (wpAny_holding (m := (Builtin.Dict.pairItems (.ref a)).tryCatch _ >>= _) (wpAny_bind (wpAny_tryCatch ?_)))
  unfold Builtin.Dict.pairItems
  refine wpAny_bind (wpAny_typeOf ty ?_)
  rw [if_pos (by rcases hT with rfl | rfl <;> decide)]
  refine wpAny_bind (wpAny_seqItems ho1 hd (wpAny_pure ?_))
  show wpAny _ _ (holding [k, y] (dictSet d k y)) _ _ _
  have lm := merged_length_le [] (vs.take i)
  rw [List.length_take, List.length_nil] at lm
  refine wpAny_holding (wpAny_dictSet_pairs (hsz := by rw [sizeLine_eq]; omega) ik sx1 fun h2 sx2 sb => ?_)
  rw [<- merged_take_succ [] vs i (key, y) ek] at sx2
  have far : ∀ b, b ≠ d -> h2.get? b = s1.heap.get? b := fun b hb => sb.2 b hb
  refine wpAny_pure ⟨plainId_quiet z1U _, z5I W out lk vals few todo (i + 1) _ (by omega) (W.frame _ s1 _ _ st1 (Nat.le_succ _) fun b hb o q => ?_) sx2 (fun b o nb q => ?_) fun s3 mv3 sx4 => ?_⟩
  ·rw [far b fun z => out (z ▸ hb)]; exact q
  ·rw [far b fun z => nb (z ▸ .head _)]
   exact mv.heap b o (fun q => nb (.tail _ q)) (kp b o nb q)
  ·refine fin s3 (.trans W.gtrans ((mv.mono fun b hb => .tail _ hb).then_heap (Nat.le_succ _) fun b o hb q => ?_) mv3) sx4
   rw [far b fun z => hb (z ▸ .head _)]; exact q
end
section
variable {prog : Program} {w : World} {A : Around} {E : Value -> Shared -> Prop} {s : Shared} {κ : Type} [DecidableEq κ] {kd : KeyKind prog w κ}
theorem y3J {T : String} {p : Addr} {its : Array Value} {c0 : Nat} {sl : Array (Option Value)} {vs : List (κ × Value)} {Q : Value -> Shared -> Prop} (hh : A.handled = none) (hp : s.heap.get? p = some ⟨.type T, none, .seq its c0, sl⟩) (hT : T = "list" \/ T = "tuple")
  (lk : vs.length = its.size) (vals : ∀ (i : Nat) v, its[i]? = some v -> ∃ kv, vs[i]? = some kv /\ z8a kd s.heap v kv []) (few : its.size ≤ 1000) (nd : (vs.map (·.1)).Nodup)
  (fin : ∀ (h' : Heap) (t : Nat), h'.DictOf kd s.heap.objs.size vs -> (∀ b u, s.heap.get? b = some u -> h'.get? b = some u) -> Q (.ref s.heap.objs.size) { s with heap := h', toks := t }) :
  wpAny (model prog w) A (call (.type "dict") [.ref p]) Q E s := by
 refine callType_codes (Q₁ := fun obj s₁ => obj = .ref s.heap.objs.size /\ s₁ = { s with heap := s.heap.push { cls := .type "dict", data := .dict #[] } }) PySem.F.kt_called_dict (PySem.F.kt_typeCall_dict_1 _) F.entry_dict_init (kt_code_dict_new _ ⟨rfl, rfl⟩) ?_
 rintro obj s₁ ⟨rfl, rfl⟩
 have hnew : (s.heap.push { cls := .type "dict", data := .dict #[] }).DictOf kd s.heap.objs.size [] := Heap.DictOf.new s.heap
 have hp1 : (s.heap.push { cls := .type "dict", data := .dict #[] }).get? p = some ⟨.type T, none, .seq its c0, sl⟩ := Heap.get?_push_of_some _ hp
 have hpl : p < s.heap.objs.size := Heap.lt_size hp
 refine ⟨hnew.typeIs, F.args_dict_init_2 _ _, ?_⟩
 unfold Builtin.«dict.__init__»
 refine wpAny_bind ?_
 unfold Builtin.Dict.selfAndRest
 refine wpAny_bind (wpAny_notOrdered_dict hnew.typeIs ?_)
 show wpAny _ _ (pure (s.heap.objs.size, [Value.ref p])) _ _ _
 refine wpAny_pure ?_
 show wpAny _ _ (Builtin.Dict.updateFrom "dict.__init__" s.heap.objs.size (.ref p) [] .none) _ _ _
 unfold Builtin.Dict.updateFrom
 refine wpAny_bind (wpAny_typeOf (T := T) ⟨_, hp1, rfl⟩ ?_)
 rw [if_pos (by rcases hT with rfl | rfl <;> decide)]
 have main : ∀ (h1 : Heap) (tk : Nat), (∀ b o, (s.heap.push { cls := .type "dict", data := .dict #[] }).get? b = some o -> h1.get? b = some o) ->
   wpAny (model prog w) A.in1.in1 (do
    rule (toString "dict.__init__" ++ toString ".from-pairs")
    return <- again (.builtin "dict.update.loop" ⟨[.ref s.heap.objs.size, <- pyIter (.ref p), rawInt 0, .none], []⟩))
    (fun fin s' => match fin with | .done f => wants (fun r s₂ => r = .none /\ Q (.ref s.heap.objs.size) s₂) E (.ok f) s' | .again c' => c'.quiet = true /\ codeAny (model prog w) A.in1 c' (wants (fun r s₂ => r = .none /\ Q (.ref s.heap.objs.size) s₂) E) s')
    (fun e s' => wants (fun r s₂ => r = .none /\ Q (.ref s.heap.objs.size) s₂) E (.error e) s') { s with heap := h1, toks := tk } := by
  intro h1 tk k1
  have hd1 := hnew.keep k1
  have dlt : s.heap.objs.size < h1.objs.size := by
   obtain ⟨_, _, _, e, _⟩ := hd1
   exact Heap.lt_size e
  have hp2 := k1 _ _ hp1
  have apart : p ≠ h1.objs.size := Nat.ne_of_lt (Heap.lt_size hp2)
  have out : s.heap.objs.size ∉ [h1.objs.size, p] := by rw [List.mem_cons, List.mem_singleton]; exact fun z => z.elim (Nat.ne_of_lt dlt) (Nat.ne_of_gt hpl)
  have hh2 : A.in1.in1.handled = none := by simp [hh]
  have nin : ∀ {b : Addr} {o : Obj}, s.heap.get? b = some o -> b ∉ [s.heap.objs.size, h1.objs.size] := fun e m => by
   have hb := Heap.lt_size e
   rcases List.mem_cons.mp m with z | z
   ·exact absurd hb (by rw [z]; exact Nat.lt_irrefl _)
   ·rw [List.mem_singleton] at z
    exact absurd (Nat.lt_trans hb dlt) (by rw [z]; exact Nat.lt_irrefl _)
  have vals' : ∀ (i : Nat) v, its[i]? = some v -> ∃ kv, vs[i]? = some kv /\ z8a kd s.heap v kv [s.heap.objs.size, h1.objs.size] := fun i v hv => by
   obtain ⟨kv, e, a, o, T, k, c, e1, e2, e3, e4, e5, e6, _⟩ := vals i v hv
   exact ⟨kv, e, a, o, T, k, c, e1, e2, e3, e4, e5, e6, nin e2⟩
  have ends : ∀ (x : Obj) (s' : Shared), Moved [s.heap.objs.size, h1.objs.size] (fun a b => b = a) { s with heap := h1.push x, toks := tk } s' -> s'.heap.DictOf kd s.heap.objs.size (merged [] vs) -> Q (.ref s.heap.objs.size) s' := fun x s' mv sx => by
   obtain ⟨h', g', d', t', o'⟩ := s'
   obtain rfl : g' = s.gens := mv.gens
   obtain rfl : d' = s.drawn := mv.drawn
   obtain rfl : o' = s.os := mv.os
   rw [merged_nil_of_nodup vs nd] at sx
   exact fin h' t' sx fun b u q => mv.heap b u (nin q) (Heap.get?_push_of_some _ (k1 _ _ (Heap.get?_push_of_some _ q)))
  refine wpAny_bind (wpAny_rule ?_)
  rcases hT with rfl | rfl
  ·have hl : h1.IsList p its := ⟨_, hp2, rfl, c0, rfl⟩
   refine wpAny_bind (wpAny_pyIter_list hl (wpAny_pure ⟨plainId_quiet z1U _, ?_⟩))
   exact z5I (kd := kd) ((Walks.list hh2 _ p apart its).toS) out (h0 := s.heap) lk vals' few its.size 0 _ (Nat.zero_add _) ⟨⟨_, Heap.get?_push_size _ rfl, rfl, rfl⟩, hl.push _⟩ (by rw [List.take_zero]; exact hd1.push _) (fun b o _ q => Heap.get?_push_of_some _ (k1 _ _ (Heap.get?_push_of_some _ q))) fun s' mv sx => ⟨rfl, ends _ s' mv sx⟩
  ·have hl : h1.IsTuple p its := ⟨_, hp2, rfl, c0, rfl⟩
   refine wpAny_bind (wpAny_pyIter_tuple hl (wpAny_pure ⟨plainId_quiet z1U _, ?_⟩))
   exact z5I (kd := kd) ((Walks.tuple hh2 _ p apart its).toS) out (h0 := s.heap) lk vals' few its.size 0 _ (Nat.zero_add _) ⟨⟨_, Heap.get?_push_size _ rfl, rfl, rfl⟩, hl.push _⟩ (by rw [List.take_zero]; exact hd1.push _) (fun b o _ q => Heap.get?_push_of_some _ (k1 _ _ (Heap.get?_push_of_some _ q))) fun s' mv sx => ⟨rfl, ends _ s' mv sx⟩
 have hh2 : A.in1.in1.handled = none := by simp [hh]
 rcases hT with rfl | rfl
 ·refine wpAny_bind (z6E hh2 hp1 fun h1 tk k1 => ?_)
  exact main h1 tk k1
 ·refine wpAny_bind (z6A hh2 hp1 fun h1 tk k1 => ?_)
  exact main h1 tk k1
end
section
variable {X : Cx}
def y1K (K : PySem.W.Frag) (H : Hp) (u : V) (kv : Key × V) : Prop := ∃ a, u = .ref a /\ (SqL K H a [kV kv.1, kv.2] \/ SqT K H a [kV kv.1, kv.2])
def SqP (K : PySem.W.Frag) (H : Hp) (p : Addr) (ys : List V) : Prop := SqL K H p ys \/ H p = some (.tup ys)
def y3K (K : PySem.W.Frag) : List V -> Hp -> VK -> Prop := fun xs H Q => ∃ p ys kvs, xs = [.ref p] /\ SqP K H p ys /\ Paired (y1K K H) ys kvs /\ ys.length ≤ 1000 /\ (kvs.map (·.1)).Nodup /\ ∀ l, H l = none -> Q (.ref l) (upd H l (.dK kvs))
theorem z6V {pins : List (Addr × Obj)} {σ : St} {H : Hp} {s : Shared} (I : Inv X pins σ H s) : ∀ {ys : List V} {kvs : List (Key × V)} {its : List Value}, Paired (y1K X.K H) ys kvs -> Vals ys its ->
  ∃ vs, KV kvs vs /\ vs.length = its.length /\ ∀ (i : Nat) v, its[i]? = some v -> ∃ kv, vs[i]? = some kv /\ z8a (z1y X.prog X.w) s.heap v kv []
 | _, _, _, .nil, .nil => ⟨[], .nil, rfl, fun i v h => by simp at h⟩
 | _ :: ys, kv :: kvs, _ :: its, .cons ⟨a, e, hq⟩ t, .cons r rr => by
  obtain ⟨vs, k1, l1, p1⟩ := z6V I t rr
  subst e
  cases r
  have go : ∀ (T : String) (o : Obj) (us : List Value) (c : Nat), s.heap.get? a = some o -> o.cls = .type T -> (T = "list" \/ T = "tuple") -> o.data = .seq us.toArray c -> Vals [kV kv.1, kv.2] us ->
    ∃ vs', KV (kv :: kvs) vs' /\ vs'.length = (Value.ref a :: its).length /\ ∀ (i : Nat) v, (Value.ref a :: its)[i]? = some v -> ∃ kv, vs'[i]? = some kv /\ z8a (z1y X.prog X.w) s.heap v kv [] := fun T o us c h1 h2 h3 h4 h5 => by
   obtain ⟨u1, u2, rfl, r1, r2⟩ := y16 h5
   refine ⟨(kv.1, u2) :: vs, .cons ⟨rfl, r2⟩ k1, by rw [List.length_cons, List.length_cons, l1], fun i v hv => ?_⟩
   cases i with
   | zero =>
    simp at hv
    subst hv
    exact ⟨_, rfl, a, o, T, u1, c, rfl, h1, h2, h3, by simpa using h4, y1n r1, by simp⟩
   | succ i => exact p1 i v (by simpa using hv)
  rcases hq with hq | hq
  ·obtain ⟨us, rv, pl, _⟩ := I.list hq
   obtain ⟨o, ho, hcl, n, hda⟩ := pl.isList
   exact go "list" o us n ho hcl (.inl rfl) hda rv
  ·obtain ⟨us, rv, pl, _⟩ := I.tuple hq
   obtain ⟨o, ho, hcl, n, hda⟩ := pl
   exact go "tuple" o us n ho hcl (.inr rfl) hda rv
theorem z3K {K : PySem.W.Frag} (hK : X.K = K) (hc : X.calm = true) : z3p X (.type "dict") (y3K K) := by
 subst hK
 intro pins s σ H xs us Q I r h
 obtain ⟨p, ys, kvs, rfl, hq, pr, hl, nd, q⟩ := h
 obtain ⟨u, rfl, rx⟩ := z41 r
 cases rx
 have go : ∀ (T : String) (its : List Value) (c0 : Nat) (sl : Array (Option Value)), s.heap.get? p = some ⟨.type T, none, .seq its.toArray c0, sl⟩ -> (T = "list" \/ T = "tuple") -> Vals ys its -> wpAny (model X.prog X.w) X.A (call (.type "dict") [.ref p]) (EP X pins σ Q) X.xe s :=
  fun T its c0 sl ho hT rv => by
   obtain ⟨vs, k1, l1, p1⟩ := z6V I pr rv
   have ln : ys.length = its.length := rv.length
   refine y3J (kd := z1y X.prog X.w) (vs := vs) (I.ok.hd hc) ho hT (by simpa using l1) (fun i v hv => p1 i v (by simpa using hv)) (by simp; omega) (by rw [<- k1.keys]; exact nd) fun h' t dd kp => ?_
   have big := I.big
   refine ⟨.ref s.heap.objs.size, _, I.laid (a := s.heap.objs.size) (o := .dK kvs) (h' := h') (t' := t) kp (Nat.le_refl _) (y3q ?_ ?_ k1 dd), rfl, q _ (I.hok.fresh (Nat.le_refl _))⟩
   ·have := k1.length
    rw [sizeLine_eq]
    omega
   ·exact beq_false_of_ne (Nat.ne_of_gt big)
 rcases hq with hq | hq
 ·obtain ⟨its, rv, pl, _⟩ := I.list hq
  obtain ⟨o, n, ho, hcl, hdi, hda⟩ := pl
  obtain ⟨oc, od, oa, os⟩ := o
  simp only at hcl hdi hda
  subst hcl hdi hda
  exact go "list" its n os ho (.inl rfl) rv
 ·obtain ⟨_, its, rv, o, ho, hcl, ⟨n, hda⟩, hdi⟩ := (show z1B X.prog X.w H s.heap p (.tup ys) from I.hok p _ hq)
  obtain ⟨oc, od, oa, os⟩ := o
  simp only at hcl hdi hda
  subst hcl hdi hda
  exact go "tuple" its n os ho (.inr rfl) rv
end
end L2

set_option Elab.async false
set_option linter.all false
set_option maxRecDepth 100000
set_option maxHeartbeats 4000000
namespace L2
open PySem PySem.Spec PyProof.Rows
def SqS (K : PySem.W.Frag) (t : Bool) (H : Hp) (a : Addr) (xs : List V) : Prop := if t then SqL K H a xs else SqT K H a xs
theorem SqS.of {K : PySem.W.Frag} {H : Hp} {a : Addr} {xs : List V} (h : SqL K H a xs \/ SqT K H a xs) : ∃ t, SqS K t H a xs := h.elim (fun q => ⟨true, q⟩) fun q => ⟨false, q⟩
theorem SqS.keep {K : PySem.W.Frag} {t : Bool} {H H' : Hp} {a : Addr} {xs : List V} (s : Same H H') (h : SqS K t H a xs) : SqS K t H' a xs := by
 cases t
 ·rcases (show SqT K H a xs from h) with (h | ⟨o, h⟩) | h
  ·exact .inl (.inl (s _ _ h))
  ·exact .inl (.inr ⟨o, s _ _ h⟩)
  ·exact .inr h
 ·exact s.seq (show SqL K H a xs from h)
def Its (K : PySem.W.Frag) (t : Bool) (a : Addr) : It := if t then Itl K a else Itt K a
section
variable {X : Cx} {tg : Expr}
def iSeq (K : PySem.W.Frag) (tl : TE) : TI := fun σ H R => tl σ H fun x H1 => ∃ a t, x = .ref a /\ (∃ xs, SqS K t H1 a xs) /\ R (Its K t a) H1
theorem y1E {l : Expr} {tl : TE} (hl : PE X l tl) : PI X tg l (iSeq X.K tl) := by
 intro pins s σ H R I h
 refine thn (hl pins s σ H _ I h) fun v s1 ⟨x, H1, I1, r1, q1⟩ => ?_
 obtain ⟨a, t, e, ⟨xs, hq⟩, q⟩ := q1
 subst e
 cases r1
 cases t
 ·obtain ⟨its, rv, p, hz⟩ := I1.tuple hq
  refine wpAny_pyIter_tuple (show s1.heap.IsTuple a its.toArray from p) ?_
  refine ⟨s1.heap.objs.size, [s1.heap.objs.size], _, _, H1, rfl, I1.kept (t' := s1.toks) fun b o e => Heap.get?_push_of_some _ e, z79 a _, ⟨_, Heap.get?_push_size _ rfl, rfl, rfl⟩, fun b hb => ?_, q⟩
  have e : b = s1.heap.objs.size := by simpa using hb
  subst e
  exact I1.fpOk (Nat.le_refl _) (I1.hok.fresh (Nat.le_refl _))
 ·obtain ⟨its, rv, p, hz⟩ := I1.list hq
  refine wpAny_pyIter_list p.isList ?_
  refine ⟨s1.heap.objs.size, [s1.heap.objs.size], _, _, H1, rfl, I1.kept (t' := s1.toks) fun b o e => Heap.get?_push_of_some _ e, z8n a _, ⟨_, Heap.get?_push_size _ rfl, rfl, rfl⟩, fun b hb => ?_, q⟩
  have e : b = s1.heap.objs.size := by simpa using hb
  subst e
  exact I1.fpOk (Nat.le_refl _) (I1.hok.fresh (Nat.le_refl _))
end
theorem z9U {K : PySem.W.Frag} {t : Bool} {a : Addr} {xs : List V} {g : TG} {tc : TT} {te : TE} {σ0 : St} {H1 : Hp} {F : List V -> Hp -> Prop} (Pv : Nat -> List V -> Hp -> Prop) (h0 : Pv 0 [] H1)
  (hl : ∀ i ys H, i ≤ xs.length -> Pv i ys H -> SqS K t H a xs /\ ys.length < sizeLine)
  (hs : ∀ i x ys H, xs[i]? = some x -> Pv i ys H -> z1D g tc te σ0 x H ys (Pv (i + 1))) (hd : ∀ ys H, Pv xs.length ys H -> F ys H) : z8J (Its K t a) g tc te σ0 H1 F := by
 cases t
 ·exact z33 Pv h0 hl hs hd
 ·exact z3l Pv h0 hl hs hd
theorem y42 {K : PySem.W.Frag} {t : Bool} {a : Addr} {xs : List V} {g : TG} {tb : TS} {D : Ends} {σ : St} {H : Hp} (Pv : Nat -> St -> Hp -> Prop) (h0 : Pv 0 σ H) (hl : ∀ i σ H, i ≤ xs.length -> Pv i σ H -> SqS K t H a xs)
  (hs : ∀ i x σ H, xs[i]? = some x -> Pv i σ H -> g x σ H fun σ2 H2 => tb { D with nx := Pv (i + 1), ct := Pv (i + 1), bk := D.nx } σ2 H2) (hd : ∀ σ H, Pv xs.length σ H -> D.nx σ H) :
  ∃ W : Nat -> Nat -> St -> Hp -> Prop, (∃ m, W 0 m σ H) /\ ∀ i m σ H, W i m σ H ->
   ((Its K t a).stop i H /\ D.nx σ H) \/ ((Its K t a).go i H /\ ∃ N : St -> Hp -> Prop, (∀ σ' H', N σ' H' -> ∃ m', m' < m /\ W (i + 1) m' σ' H') /\ ∀ x H', (Its K t a).yld i H x H' -> g x σ H' fun σ2 H2 => tb { D with nx := N, ct := N, bk := D.nx } σ2 H2) := by
 cases t
 ·exact y1u Pv h0 hl hs hd
 ·exact z2u Pv h0 hl hs hd
section
variable {prog : Program} {w : World} {A : Around} {E : Value -> Shared -> Prop}
theorem z8l {it t : Addr} {items : Array Value} (hne : t ≠ it) : ∀ (n i : Nat) (s : Shared) (Q : List Value -> Shared -> Prop), s.heap.IsListIter it t i -> s.heap.IsList t items -> i + n ≤ items.size ->
  (∀ h', h'.IsListIter it t (i + n) -> Heap.SameBut it s.heap h' -> Q ((items.toList.drop i).take n) { s with heap := h' }) -> wpAny (model prog w) A (draw (.ref it) n) Q E s
 | 0, i, s, Q, hit, _, _, hQ => by
  show wpAny _ _ (pure []) Q E s
  exact wpAny_pure (by simpa using hQ s.heap hit (Heap.SameBut.refl ..))
 | n + 1, i, s, Q, hit, ht, hle, hQ => by
  have hlt : i < items.size := by omega
  show wpAny _ _ (pyNext (.ref it) >>= _) Q E s
  refine wpAny_bind (wpAny_pyNext_list_item hit ht (x := items[i]) (by simp [hlt]) fun h₁ hit₁ hs₁ => ?_)
  refine wpAny_bind (wpAny_holding (z8l hne n (i + 1) _ _ hit₁ (ht.at fun o e => (hs₁.2 t hne).trans e) (by omega) fun h₂ hit₂ hs₂ => wpAny_pure ?_))
  have hd : items.toList.drop i = items[i] :: items.toList.drop (i + 1) := by simp [List.drop_eq_getElem_cons, hlt]
  have := hQ h₂ (by rw [show i + (n + 1) = i + 1 + n by omega]; exact hit₂) (hs₁.trans hs₂)
  rw [hd, List.take_succ_cons] at this
  exact this
theorem z8P {s : Shared} {t : Addr} {items : Array Value} {Q : List Value -> Shared -> Prop} (hh : A.handled = none) (ht : s.heap.IsList t items)
  (hQ : ∀ h', Heap.ExtBut s.heap.objs.size s.heap h' -> Q items.toList { s with heap := h' }) : wpAny (model prog w) A (unpackItems (.ref t) items.size none) Q E s := by
 have hlt : t ≠ s.heap.objs.size := by obtain ⟨o, ho, _⟩ := ht; exact Nat.ne_of_lt (Heap.lt_size ho)
 unfold unpackItems
 refine wpAny_bind ?_
 unfold notIterableAtAll
 refine wpAny_bind (wpAny_specialOf ht.typeIs PySem.F.slot_list_iter.lookup ?_)
 refine wpAny_pure ?_
 simp only [Bool.false_eq_true, if_false]
 refine wpAny_bind (wpAny_holding (wpAny_pyIter_list ht ?_))
 refine wpAny_bind (wpAny_holding (z8l hlt items.size 0 _ _ ⟨_, Heap.get?_push_size _ rfl, rfl, rfl⟩ (ht.push _) (by omega) fun h₁ hit₁ hs₁ => ?_))
 have hall : List.take items.size (List.drop 0 items.toList) = items.toList := by
  rw [List.drop_zero]; exact List.take_of_length_le (by simp)
 rw [hall]
 rw [if_neg (by simp)]
 have ht₁ : h₁.IsList t items := (ht.push _).at fun o e => (hs₁.2 t hlt).trans e
 refine wpAny_bind (wpAny_holding (wpAny_pyNext_list_end hh hit₁ ht₁ (by simp) fun h₂ he₂ => ?_))
 simp only [Option.isSome_none, Bool.false_eq_true, if_false]
 exact wpAny_pure (hQ h₂ fun b o hb e => he₂ b o hb (hs₁.extBut b o hb (Heap.get?_push_of_some _ e)))
theorem z4Y {s : Shared} {env : Env} {elts : List Expr} {x1} {pos : Pos} {t : Addr} {items : Array Value} {Q : Unit -> Shared -> Prop} (hh : A.handled = none) (ht : s.heap.IsList t items)
  (hn : (assignEach elts env).length = items.size) (hstar : (assignEach elts env).findIdx? (·.1) = none)
  (h : ∀ h', Heap.ExtBut s.heap.objs.size s.heap h' -> wpAny (model prog w) A (assignInOrder ((assignEach elts env).map (·.2)) items.toList) Q E { s with heap := h' }) :
  wpAny (model prog w) A (assign (.Tuple elts x1 pos) env (.ref t)) Q E s := by
 rw [assign_Tuple]
 refine wpAny_bind (wpAny_standAt ?_)
 unfold unpack
 rw [hn, hstar]
 exact wpAny_bind (wpAny_holding (z8P hh ht h))
end
def gSeq (K : PySem.W.Frag) (n : Nat) (t : TGs) : TG := fun v σ H Q => ∃ a xs, v = .ref a /\ (SqL K H a xs \/ SqT K H a xs) /\ xs.length = n /\ t xs σ H Q
theorem y0M {X : Cx} {K : PySem.W.Frag} {es : List Expr} {k : Nat} {t : TGs} {n : Nat} {pos : Pos} (hK : X.K = K) (hc : X.calm = true) (h : PGs X es t)
  (hn : (assignEach es X.env).length = n := by rfl) (hst : (assignEach es X.env).findIdx? (·.1) = none := by rfl) : PG X (.Tuple es k pos) (gSeq K n t) := by
 subst hK
 intro pins s σ H v u Q I r hw
 obtain ⟨a, xs, e1, hq, hl, hw⟩ := hw
 subst e1
 cases r
 rcases hq with hq | hq
 ·obtain ⟨its, rv, ht, hz⟩ := I.list hq
  refine z4Y (I.ok.hd hc) ht.isList (by simp [hn, <- hl, rv.length]) hst fun h' hx => ?_
  have I1 : Inv X pins σ H { s with heap := h' } := I.kept (t' := s.toks) fun b o e => hx b o (Nat.ne_of_lt (Heap.lt_size e)) e
  exact h pins _ σ H xs _ Q I1 (by simpa using rv) hw
 ·obtain ⟨its, rv, ht, hz⟩ := I.tuple hq
  refine assign_Tuple_tuple (I.ok.hd hc) ht (by simp [hn, <- hl, rv.length]) hst fun h' hx => ?_
  have I1 : Inv X pins σ H { s with heap := h' } := I.kept (t' := s.toks) fun b o e => hx b o (Nat.ne_of_lt (Heap.lt_size e)) e
  exact h pins _ σ H xs _ Q I1 (by simpa using rv) hw
theorem y2v {K : PySem.W.Frag} {n : Nat} {t : TGs} (a : z73 t) : z8B (gSeq K n t) := fun v σ H Q Q' f q => by
 obtain ⟨p, xs, e, h1, h2, q⟩ := q
 exact ⟨p, xs, e, h1, h2, a _ _ _ _ _ f q⟩
theorem y48 {K : PySem.W.Frag} {n k : Nat} {t : TGs} (a : y1J n t) : OwnG n (gSeq K k t) := fun v σ H Q q => by
 obtain ⟨p, xs, e, h1, h2, q⟩ := q
 exact ⟨p, xs, e, h1, h2, a _ _ _ _ q⟩
theorem z7S {X : Cx} {K : PySem.W.Frag} (hK : X.K = K) : OpR X (binaryOp .Add) (y4F K) := by
 subst hK
 exact y3x
end L2

set_option Elab.async false
set_option linter.all false
set_option maxRecDepth 100000
set_option maxHeartbeats 4000000
namespace L2
open PySem PySem.Spec PyProof.Rows
section
variable {X : Cx}
end
structure FunD (K : PySem.W.Frag) (x qual : Str) (st : Stmt) (f : Addr) (fd : FuncData) (T : Addr) (items : Array Value) : Prop where
 ex : ∃ (oc : Value) (od : Option Addr) (kV doc pm : Value) (an : Option Addr) (cdv ct : Value) (osl : Array (Option Value)),
  fd = PySem.W.fnOf x qual (z0c st) (z0b st) (z05 st) (.ref T) kV doc pm an cdv ct /\ K.lookup f = some ⟨oc, od, .func fd, osl⟩ /\ PySem.W.codeIn K cdv qual = true
 kp : PySem.W.keepIn K (.ref f) = true
 dt : ∃ (o : Obj) (n : Nat), K.lookup T = some o /\ o.data = .seq items n
section
variable {P : Program} {w : World} {K : PySem.W.Frag} {mg : Str -> Option Value} {base : Heap}
theorem FunD.ok {x qual : Str} {st : Stmt} {f T : Addr} {items : Array Value} {fd : FuncData} {N ps : List Str} {k : Nat} {sp : Sp} (F : FunD K x qual st f fd T items) (S : FnScope N ps (z05 st)) (len : ∀ vs H Q E, sp vs H Q E -> vs.length = ps.length)
  (hbody : ∀ (cdv : Value) (A : Around) (outer : List Env) (s : Shared) (H : Hp) (vs : List V) (Q : VK) (E : XK), Room k (A.deeper (envOfC qual (z05 st) s.heap.objs.size f cdv)) -> sp vs H Q E ->
   ∃ t, PSs (cxOf CX0 P w K mg base N qual (z05 st) f cdv A outer s H E).nox (z0b st) t /\ t { nx := fun _ H' => Q .non H', rt := Q } (z4Q N vs) H) : FnOk P w K mg base CX0 (k + 1) f fd ps sp := by
 obtain ⟨oc, od, kV, doc, pm, an, cdv, ct, osl, rfl, lk, hcd⟩ := F.ex
 refine y4H lk hcd S len fun A outer s H vs Q E hr hsp => ?_
 obtain ⟨t, h, q⟩ := hbody cdv A outer s H vs Q E hr hsp
 exact ⟨t, h.nox, q⟩
theorem FunD.binds {x qual : Str} {st : Stmt} {f T : Addr} {items : Array Value} {fd : FuncData} {ps : List Str} {ds : List Value} (F : FunD K x qual st f fd T items)
  (h : ∀ (kV doc pm : Value) (an : Option Addr) (cdv ct : Value) (us : List Value), us.length + ds.length = ps.length -> ∃ k, bindArgs (PySem.W.fnOf x qual (z0c st) (z0b st) (z05 st) (.ref T) kV doc pm an cdv ct) ⟨us, []⟩ = seqItems? (.ref T) >>= k /\ k (some items) = pure (ps.zip (us ++ ds))) : z3q K fd ps ds := by
 obtain ⟨oc, od, kV, doc, pm, an, cdv, ct, osl, rfl, lk, hcd⟩ := F.ex
 obtain ⟨o, n, lt, hs⟩ := F.dt
 intro s us KX hl
 rw [List.length_append] at hl
 obtain ⟨k, h1, h2⟩ := h kV doc pm an cdv ct us hl
 exact .of_defaults rfl (KX _ _ lt) hs h1 h2
theorem y3C {x qual : Str} {st : Stmt} {f T : Addr} {oc oct : Value} {od odt an : Option Addr} {osl oslt : Array (Option Value)} {items : Array Value} {n : Nat} {kV doc pm cdv ct : Value} (l : K.lookup f = some ⟨oc, od, .func (PySem.W.fnOf x qual (z0c st) (z0b st) (z05 st) (.ref T) kV doc pm an cdv ct), osl⟩)
  (lt : K.lookup T = some ⟨oct, odt, .seq items n, oslt⟩) (c : PySem.W.codeIn K cdv qual = true) (k : PySem.W.keepIn K (.ref f) = true) : FunD K x qual st f (PySem.W.fnOf x qual (z0c st) (z0b st) (z05 st) (.ref T) kV doc pm an cdv ct) T items := ⟨⟨oc, od, kV, doc, pm, an, cdv, ct, osl, rfl, l, c⟩, k, _, n, lt, rfl⟩
end
structure MCalD (P : Program) (w : World) (K : PySem.W.Frag) (mg : Str -> Option Value) (base : Heap) (k : Nat) (C : Addr) (m : Str) (ps : List Str) (sp : Sp) (dvs : List V) : Prop where
 cl : Cls K C
 ex : ∃ (f : Addr) (fd : FuncData) (ds : List Value), FnOk P w K mg base CX0 k f fd ps sp /\ z3q K fd ps ds /\ Vals dvs ds /\ Meth K C m f
theorem MCalD.mk' {P : Program} {w : World} {K : PySem.W.Frag} {mg : Str -> Option Value} {base : Heap} {k : Nat} {C : Addr} {m : Str} {ps : List Str} {sp : Sp} {dvs : List V} {ds : List Value} {f : Addr} {fd : FuncData} (v : Vals dvs ds) (c : Cls K C) (a : FnOk P w K mg base CX0 k f fd ps sp) (b : z3q K fd ps ds) (d : Meth K C m f) :
  MCalD P w K mg base k C m ps sp dvs := ⟨c, f, fd, ds, a, b, v, d⟩
end L2

set_option Elab.async false
set_option linter.all false
set_option maxRecDepth 100000
set_option maxHeartbeats 4000000
namespace HT
open PySem PySem.Spec PyProof.Rows L2
section
variable {prog : Program} {w : World} {A : Around} {E : Value -> Shared -> Prop} {s : Shared}
theorem z59 {t sl : Addr} {items : Array Value} {vl vu : Value} {lo hi : Option Int} {Q : Value -> Shared -> Prop} (ht : IsTup s.heap t items) (hs : s.heap.IsSliceOf sl vl vu .none) (pl : IsPart vl lo) (pu : IsPart vu hi)
  (hw : sIx items.size 0 lo = 0 /\ sIx items.size items.size hi = items.size) (h : Q (.ref t) s) : wpAny (model prog w) A (getItem (.ref t) (.ref sl)) Q E s := by
 obtain ⟨os, hos, hcs, hds⟩ := id hs
 have hTs : s.TypeIs (.ref sl) "slice" := ⟨os, hos, hcs⟩
 unfold getItem
 try with_reducible refine wpAny_holding ?_
 first | refine wpAny_bind (wpAny_pure ?_) | skip
 refine wpAny_bind (wpAny_sequenceKey ht.typeIs (by decide) ?_)
 refine wpAny_bind (wpAny_callSpecial?_slot (name := Str.ofString "__getitem__") ht.typeIs PyProof.Rows.slot_tuple_getitem
  (wpAny_call_entry PyProof.Rows.slot_tuple_getitem ht.typeIs entry_tuple_getitem ?_ (args_tuple_getitem _ _)))
 show wpAny _ _ (Builtin.Tuple.tupleItemsOf (.ref t) >>= _) _ _ s
 refine wpAny_bind (tupleItemsOf_ ht ?_)
 refine wpAny_bind (wpAny_typeOf hTs ?_)
 rw [if_pos (by decide)]
 refine wpAny_bind (z3y hs pl pu ?_)
 have hyes : (((sIx items.size 0 lo : Nat) : Int) == 0 && (1 : Int) == 1 && (sIx items.size items.size hi - sIx items.size 0 lo) == items.size) = true := by
  rw [hw.1, hw.2]
  simp
 show wpAny _ _ (if (((sIx items.size 0 lo : Nat) : Int) == 0 && (1 : Int) == 1 && (sIx items.size items.size hi - sIx items.size 0 lo) == items.size) = true then _ else _) _ _ s
 rw [if_pos hyes]
 refine wpAny_bind (m := Builtin.Tuple.tupleIsExact _) (wpAny_bind (wpAny_typeOf ht.typeIs (wpAny_pure ?_)))
 rw [if_pos (by decide)]
 refine wpAny_bind (wpAny_rule ?_)
 exact wpAny_pure ⟨_, rfl, wpAny_pure h⟩
end
end HT
namespace L2
open PySem PySem.Spec PyProof.Rows
def z1W : List V -> List V -> Bool
 | [], [] => true
 | x :: xs, y :: ys => eqV x y && z1W xs ys
 | _, _ => false
theorem z7k : ∀ xs ys : List V, ((List.range (min xs.length ys.length)).all (fun j => eqV (xs.getD j .non) (ys.getD j .non)) && xs.length == ys.length) = z1W xs ys
 | [], [] => rfl
 | [], _ :: _ => rfl
 | _ :: _, [] => rfl
 | x :: xs, y :: ys => by
  have ih := z7k xs ys
  unfold z1W
  rw [<- ih, List.length_cons, List.length_cons, Nat.succ_min_succ, List.range_succ_eq_map, List.all_cons, List.all_map, Bool.and_assoc]
  congr 1
  congr 1
  rw [Bool.eq_iff_iff]
  simp
theorem z7P : ∀ {x : V}, z20 x = true -> eqV x x = true := fun {x} h => by
 cases x with
 | non => rfl
 | bl b => exact beq_self_eq_true b
 | int i => exact beq_self_eq_true i
 | str z => exact beq_self_eq_true z
 | _ => exact absurd (show false = true from h) Bool.false_ne_true
theorem z3b : ∀ {xs : List V}, xs.all z20 = true -> z1W xs xs = true
 | [], _ => rfl
 | x :: xs, h => by
  rw [List.all_cons, Bool.and_eq_true] at h
  unfold z1W
  rw [z7P h.1, z3b h.2]
  rfl
theorem z64 : ∀ {xs : List V} {us : List Value}, Vals xs us -> xs.all z20 = true -> ∀ (j : Nat) (h : j < us.length), RelV (xs.getD j .non) us[j] /\ z20 (xs.getD j .non) = true
 | _, _, .nil, _, j, h => absurd h (Nat.not_lt_zero _)
 | x :: xs, u :: us, .cons r t, f, 0, h => by
  rw [List.all_cons, Bool.and_eq_true] at f
  exact ⟨r, f.1⟩
 | x :: xs, u :: us, .cons r t, f, j + 1, h => by
  rw [List.all_cons, Bool.and_eq_true] at f
  exact z64 t f.2 j (Nat.lt_of_succ_lt_succ h)
def eqI : List Value -> List V -> Bool
 | [], [] => true
 | u :: us, x :: xs => eqU x u && eqI us xs
 | _, _ => false
theorem y1z : ∀ {ys : List V} {us : List Value} (xs : List V), Vals ys us -> ys.all z20 = true -> eqI us xs = z1W ys xs
 | _, _, [], .nil, _ => rfl
 | _, _, _ :: _, .nil, _ => rfl
 | y :: ys, u :: us, [], .cons r t, f => rfl
 | y :: ys, u :: us, x :: xs, .cons r t, f => by
  rw [List.all_cons, Bool.and_eq_true] at f
  unfold eqI z1W
  rw [y1L r f.1, y1z xs t f.2]
section
variable {X : Cx}
theorem y24 {A : Around} {s : Shared} {a b : Addr} {its its2 : List Value} {xs ys : List V} (pl : s.heap.IsTuple a its.toArray) (pl2 : s.heap.IsTuple b its2.toArray) (r : Vals xs its) (r2 : Vals ys its2) (f : xs.all z20 = true) (f2 : ys.all z20 = true) (hu : A.units < cLine) :
  SeqAt.RcAt A s (.ref a) (.ref b) (z1W xs ys) := by
 have h := SeqAt.RcAt.tuples (e := fun j => eqV (xs.getD j .non) (ys.getD j .non)) pl pl2 hu fun j h1 h2 => by
  rw [List.size_toArray] at h1 h2
  obtain ⟨q1, q2⟩ := z64 r f j h1
  obtain ⟨q3, q4⟩ := z64 r2 f2 j h2
  exact y1q q1 q3 q2 q4
 rw [List.size_toArray, List.size_toArray, <- r.length, <- r2.length, z7k] at h
 exact h
def rEqT (K : PySem.W.Frag) : R2 := fun x y H Q => ∃ a b xs ys, x = .ref a /\ y = .ref b /\ SqT K H a xs /\ SqT K H b ys /\ xs.all z20 = true /\ ys.all z20 = true /\ Q (.bl (z1W xs ys)) H
theorem y4U (hu : X.A.units < cLine) : OpR X (compareOp .Eq) (rEqT X.K) := by
 intro pins s σ H x y v u Q I rx ry h
 obtain ⟨a, b, xs, ys, rfl, rfl, ha, hb, f1, f2, q⟩ := h
 cases rx
 cases ry
 obtain ⟨its, r, pl, hz⟩ := I.tuple ha
 obtain ⟨its2, r2, pl2, hz2⟩ := I.tuple hb
 exact y24 pl pl2 r r2 f1 f2 hu X.prog X.w X.xe _ ⟨.bl _, H, I, rfl, q⟩
def z3r (s : Shared) (xs : List V) : Value -> Bool
 | .ref b => match s.heap.get? b with
  | some o => match o.data with
   | .seq its _ => eqI its.toList xs
   | _ => false
  | none => false
 | _ => false
def y3X (K : PySem.W.Frag) : R2 := fun x y H Q => ∃ a p xs us yss, x = .ref a /\ y = .ref p /\ SqT K H a xs /\ xs.all z20 = true /\ SqL K H p us /\ Paired (fun u ys => ∃ b, u = .ref b /\ SqT K H b ys /\ ys.all z20 = true) us yss /\ Q (.bl (!yss.any fun ys => z1W ys xs)) H
theorem y0A (hu : X.A.units + 1 < cLine) : OpR X (compareOp .NotIn) (y3X X.K) := by
 intro pins s σ H x y v u Q I rx ry h
 obtain ⟨a, p, xs, us, yss, rfl, rfl, ha, f1, hp, pr, q⟩ := h
 cases rx
 cases ry
 obtain ⟨its, r, pl, hz⟩ := I.tuple ha
 obtain ⟨its2, r2, pl2, hz2⟩ := I.list hp
 have item : ∀ (b : Addr) (ys : List V), SqT X.K H b ys -> ys.all z20 = true -> z3r s xs (.ref b) = z1W ys xs /\ SeqAt.EqAt X.A.in1 s (.ref b) (.ref a) (z1W ys xs) := fun b ys hb fb => by
  obtain ⟨its3, r3, pl3, hz3⟩ := I.tuple hb
  have e1 : z3r s xs (.ref b) = z1W ys xs := by
   obtain ⟨o, ho, hc, n, hd⟩ := pl3
   unfold z3r
   simp only [ho, hd]
   exact y1z xs r3 fb
  refine ⟨e1, ?_⟩
  by_cases hne : b = a
  ·subst hne
   have e2 : z1W ys xs = true := by
    rw [<- e1]
    obtain ⟨o, ho, hc, n, hd⟩ := pl
    unfold z3r
    simp only [ho, hd]
    rw [y1z xs r f1]
    exact z3b f1
   rw [e2]
   exact SeqAt.EqAt.same _
  ·exact SeqAt.EqAt.of_refs hne (y24 pl3 pl r3 r fb f1 hu)
 have all : ∀ {us : List V} {yss : List (List V)} {vs : List Value}, Paired (fun u ys => ∃ b, u = .ref b /\ SqT X.K H b ys /\ ys.all z20 = true) us yss -> Vals us vs -> vs.any (z3r s xs) = yss.any (fun ys => z1W ys xs) /\ ∀ v ∈ vs, SeqAt.EqAt X.A.in1 s v (.ref a) (z3r s xs v) := by
  intro us yss vs pr
  induction pr generalizing vs with
  | nil =>
   intro r
   cases r
   exact ⟨rfl, fun v hv => (nomatch hv)⟩
  | cons h t ih =>
   intro r
   cases r with
   | cons r1 rt =>
    obtain ⟨b, rfl, hb, fb⟩ := h
    cases r1
    obtain ⟨i1, i2⟩ := ih rt
    obtain ⟨j1, j2⟩ := item b _ hb fb
    refine ⟨by rw [List.any_cons, List.any_cons, i1, j1], fun v hv => ?_⟩
    rcases List.mem_cons.mp hv with rfl | hv
    ·rw [j1]; exact j2
    ·exact i2 v hv
 obtain ⟨a1, a2⟩ := all pr r2
 refine SeqAt.notIn_listAt (z3r s xs) pl2.isList (fun w hw => a2 w (by simpa using hw)) ⟨.bl _, H, I, rfl, ?_⟩
 rw [show its2.toArray.any (z3r s xs) = its2.any (z3r s xs) by simp, a1]
 exact q
end
def rSlA (K : PySem.W.Frag) : V -> Option Int -> Option Int -> Hp -> VK -> Prop := fun x lo hi H Q => ∃ a xs, x = .ref a /\ SqT K H a xs /\ ((HT.sIx xs.length 0 lo = 0 /\ HT.sIx xs.length xs.length hi = xs.length) -> Q (.ref a) H) /\
 (¬ (HT.sIx xs.length 0 lo = 0 /\ HT.sIx xs.length xs.length hi = xs.length) -> ∀ p, H p = none -> Q (.ref p) (upd H p (.tup (cutV xs lo hi))))
theorem y4l {X : Cx} : SlR X (rSlA X.K) := by
 intro pins s σ H x v vl vu lo hi sl Q I rx hs pl pu h
 obtain ⟨a, xs, rfl, hx, q1, q2⟩ := h
 by_cases hw : HT.sIx xs.length 0 lo = 0 /\ HT.sIx xs.length xs.length hi = xs.length
 ·cases rx
  obtain ⟨its, r, ht, hz⟩ := I.tuple hx
  have hlen : its.toArray.size = xs.length := by rw [List.size_toArray]; exact r.length.symm
  exact ⟨"tuple", _, PyProof.Rows.slot_tuple_getitem.lookup, ht.typeIs, HT.z59 ht hs pl pu (by rw [hlen]; exact hw) ⟨.ref a, H, I, rfl, q1 hw⟩⟩
 ·exact y23 pins s σ H (.ref a) v vl vu lo hi sl Q I rx hs pl pu ⟨a, xs, rfl, hx, hw, q2 hw⟩
end L2

set_option Elab.async false
set_option linter.all false
set_option maxRecDepth 100000
set_option maxHeartbeats 4000000
namespace L2
open PySem PySem.Spec PyProof.Rows
def rNeT (K : PySem.W.Frag) : R2 := fun x y H Q => ∃ a b xs ys, x = .ref a /\ y = .ref b /\ SqT K H a xs /\ SqT K H b ys /\ xs.all z20 = true /\ ys.all z20 = true /\ Q (.bl (!z1W xs ys)) H
theorem y3d {X : Cx} (hu : X.A.units < cLine) : OpR X (compareOp .NotEq) (rNeT X.K) := by
 intro pins s σ H x y v u Q I rx ry h
 obtain ⟨a, b, xs, ys, rfl, rfl, ha, hb, f1, f2, q⟩ := h
 cases rx
 cases ry
 obtain ⟨its, r, pl, hz⟩ := I.tuple ha
 obtain ⟨its2, r2, pl2, hz2⟩ := I.tuple hb
 have h := SeqAt.RcNeAt.tuples (A := X.A) (e := fun j => eqV (xs.getD j .non) (ys.getD j .non)) pl pl2 hu fun j h1 h2 => by
  rw [List.size_toArray] at h1 h2
  obtain ⟨q1, q2⟩ := z64 r f1 j h1
  obtain ⟨q3, q4⟩ := z64 r2 f2 j h2
  exact y1q q1 q3 q2 q4
 rw [List.size_toArray, List.size_toArray, <- r.length, <- r2.length, z7k] at h
 exact h X.prog X.w X.xe _ ⟨.bl _, H, I, rfl, q⟩
end L2

set_option Elab.async false
set_option linter.all false
set_option maxRecDepth 100000
set_option maxHeartbeats 4000000
namespace L2
open PySem PySem.Spec PyProof.Rows
def stepN (a b c : Int) : Nat := (Builtin.Range.rangeSize a b c).toNat
theorem z9O {a b c : Int} (hc : c < 0) : stepN a b c = if a > b then ((a - b - 1) / (-c) + 1).toNat else 0 := by
 unfold stepN Builtin.Range.rangeSize
 rw [if_neg (by omega)]
 split <;> rfl
theorem z9h {a b c : Int} {i : Nat} (hc : c < 0) (h : i < stepN a b c) : b < a + i * c /\ a + i * c ≤ a := by
 rw [z9O hc] at h
 split at h
 ·have h0 : 0 ≤ (a - b - 1) / (-c) := Int.ediv_nonneg (by omega) (by omega)
  have h1 : (i : Int) ≤ (a - b - 1) / (-c) := by omega
  have h2 : (a - b - 1) / (-c) * (-c) ≤ a - b - 1 := Int.ediv_mul_le _ (by omega)
  have h3 : (i : Int) * (-c) ≤ (a - b - 1) / (-c) * (-c) := Int.mul_le_mul_of_nonneg_right h1 (by omega)
  have h4 : (i : Int) * (-c) = -((i : Int) * c) := Int.mul_neg _ _
  have h5 : (0 : Int) ≤ (i : Int) * (-c) := Int.mul_nonneg (by omega) (by omega)
  omega
 ·exact absurd h (Nat.not_lt_zero _)
theorem y2k {a b c : Int} (hc : c < 0) : (stepN a b c : Int) ≤ (a - b).toNat := by
 rw [z9O hc]
 split
 ·have h0 : 0 ≤ (a - b - 1) / (-c) := Int.ediv_nonneg (by omega) (by omega)
  have h1 : (a - b - 1) / (-c) ≤ a - b - 1 := Int.ediv_le_self _ (by omega)
  omega
 ·omega
def Itk (hi c : Int) (n : Nat) : It := ⟨fun i _ => i < n, fun i H x H' => H' = H /\ x = .int (hi + i * c), fun i _ => n ≤ i⟩
theorem y1p {P : Program} {w : World} {K : PySem.W.Frag} {tg : Expr} (it : Addr) (hi c : Int) (n : Nat) : Turn P w K tg (Itk hi c n) [it] it (fun i h => IsRangeIter h it (hi + (i : Nat) * c) ((n : Int) - (i : Nat)) c) where
 mem := by simp
 obj := fun i h st b hb => by
  have e : b = it := by simpa using hb
  subst e
  exact ⟨_, st, fun v z => by
   have z' : Data.fields _ = Data.cell v := z
   cases z'⟩
 keep := fun i h h' st k => k it (by simp) _ st
 item := by
  intro X hP hw hK hc i pins s σ H E I hf st hg
  subst hP hw hK
  obtain ⟨f0, f1, f2, f3, f4, f5⟩ := hf it (by simp)
  have W := Walks.range (prog := X.prog) (w := X.w) (I.ok.hd hc) it hi c n
  refine W.item i s _ _ hg st fun v h' tk hv st' kk => ?_
  obtain ⟨t, rfl⟩ := hv
  have I1 : Inv X pins σ H { s with heap := h', toks := tk } := I.turned (fun b o hb e => kk b o (by simpa using hb) e) f0 f1 f3 f4 f5
  exact ⟨_, rfl, y1G (s := { s with heap := h', toks := tk }) (n := "range_iterator") st' rfl rfl (by decide) ⟨.int (hi + i * c), H, I1, ⟨t, rfl⟩, ⟨rfl, rfl⟩, st', fun b hb => (hf b hb).1⟩⟩
 done := by
  intro X hP hw hK hc i pins s σ H E I hf st hg
  subst hP hw hK
  obtain ⟨f0, f1, f2, f3, f4, f5⟩ := hf it (by simp)
  exact wpAny_pyNext_range_end (I.ok.hd hc) st (by have : n ≤ i := hg; omega) fun h' eb => ⟨rfl, I.turned (t' := s.toks) (fun b o hb e => eb b o hb e) f0 f1 f3 f4 f5⟩
 self := fun _ _ _ _ _ st h => wpAny_pyIter_rangeiter st h
theorem y0n {a b c : Int} (ha : -1000 ≤ a) (ha' : a ≤ 1000) (hb : -1000 ≤ b) (hb' : b ≤ 1000) (hc : c < 0) (hc' : -1000 ≤ c) : Builtin.Range.small a b c = true := by
 have h := y2k (a := a) (b := b) hc
 have e : Builtin.Range.rangeSize a b c = (stepN a b c : Int) := by
  unfold stepN
  exact rangeSize_toNat a b c
 unfold Builtin.Range.small
 rw [e]
 have h0 : (0 : Int) ≤ (stepN a b c : Int) := Int.natCast_nonneg _
 have h' : (stepN a b c : Int) ≤ 2000 := by omega
 clear h
 generalize (stepN a b c : Int) = m at h' h0
 rw [if_neg (show ¬ c > 0 by omega)]
 simp only [Builtin.Range.rangeFitsLong, Bool.and_eq_true, Bool.or_eq_true, decide_eq_true_eq, beq_iff_eq]
 exact ⟨by omega, .inr (by omega)⟩
section
variable {X : Cx} {tg : Expr}
def iRngS (ta : TA) : TI := fun σ H R => ta σ H fun vs H1 => ∃ i j c : Int, vs = [.int i, .int j, .int c] /\ (-1000 ≤ i /\ i ≤ 1000 /\ -1000 ≤ j /\ j ≤ 1000 /\ c < 0 /\ -1000 ≤ c) /\ R (Itk i c (stepN i j c)) H1
theorem y20 {a b c : Expr} {ta : TA} {p pos : Pos} (hg : Gl X "range") (hm : X.mg "range" = none) (ha : PA X [a, b, c] ta)
  (hs : starEach [a, b, c] X.env = [(false, eval a X.env), (false, eval b X.env), (false, eval c X.env)] := by rfl) (hs2 : starEach [b, c] X.env = [(false, eval b X.env), (false, eval c X.env)] := by rfl) :
  PI X tg (.Call (.Name "range" p) [a, b, c] [] pos) (iRngS ta) := by
 intro pins s σ H R I h
 refine Call_ (z4w I hg hm boot_range (PyProof.Rows.callWith_type1 (thn (ha pos pins s σ H _ I h) fun us s1 ⟨vs, H1, I1, r1, q1⟩ => ?_) (by rw [hs, hs2]) (by rw [hs2]; rfl)))
 obtain ⟨i, j, k, e, ⟨q1, q2, q3, q4, q5, q6⟩, q⟩ := q1
 subst e
 cases r1 with
 | cons r rr =>
  cases rr with
  | cons r' rr =>
   cases rr with
   | cons r'' rr =>
    cases rr
    obtain ⟨t, rfl⟩ := r
    obtain ⟨t', rfl⟩ := r'
    obtain ⟨t'', rfl⟩ := r''
    refine call_range_3 (by omega) ?_ (.inl (PyProof.noPylong_small (by omega)))
    refine wpAny_pyIter_range (IsRange.new ..) (y0n q1 q2 q3 q4 q5 q6) ?_
    have I2 : Inv X pins σ H1 { s1 with heap := s1.heap.push { cls := .type "range", data := .fields #[.int i t, .int j t', .int k t''] }, toks := s1.toks } := I1.kept fun b o e => Heap.get?_push_of_some _ e
    refine ⟨(s1.heap.push { cls := .type "range", data := .fields #[.int i t, .int j t', .int k t''] }).objs.size, [(s1.heap.push { cls := .type "range", data := .fields #[.int i t, .int j t', .int k t''] }).objs.size], _, _, H1, rfl,
     I2.kept (t' := s1.toks) fun b o e => Heap.get?_push_of_some _ e, y1p _ i k (stepN i j k), ?_, fun b hb => ?_, q⟩
    ·have e1 : i + ((0 : Nat) : Int) * k = i := by simp
     have e2 : ((stepN i j k : Nat) : Int) - ((0 : Nat) : Int) = Builtin.Range.rangeSize i j k := by
      unfold stepN
      rw [<- rangeSize_toNat i j k]
      simp
     show IsRangeIter _ _ (i + ((0 : Nat) : Int) * k) (((stepN i j k : Nat) : Int) - ((0 : Nat) : Int)) k
     rw [e1, e2]
     exact Heap.get?_push_size _ rfl
    ·have e : b = (s1.heap.push { cls := .type "range", data := .fields #[.int i t, .int j t', .int k t''] }).objs.size := by simpa using hb
     subst e
     exact I2.fpOk (Nat.le_refl _) (I2.hok.fresh (Nat.le_refl _))
end
theorem z9I {hi c : Int} {n : Nat} {g : TG} {tb : TS} {D : Ends} {σ : St} {H : Hp} (Pv : Nat -> St -> Hp -> Prop) (h0 : Pv 0 σ H)
  (hs : ∀ i σ H, i < n -> Pv i σ H -> g (.int (hi + i * c)) σ H fun σ2 H2 => tb { D with nx := Pv (i + 1), ct := Pv (i + 1), bk := D.nx } σ2 H2) (hd : ∀ σ H, Pv n σ H -> D.nx σ H) :
  ∃ W : Nat -> Nat -> St -> Hp -> Prop, (∃ m, W 0 m σ H) /\ ∀ i m σ H, W i m σ H ->
   ((Itk hi c n).stop i H /\ D.nx σ H) \/ ((Itk hi c n).go i H /\ ∃ N : St -> Hp -> Prop, (∀ σ' H', N σ' H' -> ∃ m', m' < m /\ W (i + 1) m' σ' H') /\ ∀ x H', (Itk hi c n).yld i H x H' -> g x σ H' fun σ2 H2 => tb { D with nx := N, ct := N, bk := D.nx } σ2 H2) := by
 refine ⟨fun i m σ H => m = n - i /\ i ≤ n /\ Pv i σ H, ⟨n, by simp, Nat.zero_le _, h0⟩, ?_⟩
 rintro i m σ H ⟨rfl, hi', p⟩
 by_cases hlt : i < n
 ·refine .inr ⟨hlt, Pv (i + 1), fun σ' H' p' => ⟨n - (i + 1), by omega, rfl, hlt, p'⟩, fun x H' y => ?_⟩
  obtain ⟨e, y⟩ := y
  subst e y
  exact hs i σ _ hlt p
 ·have e : i = n := by omega
  subst e
  exact .inl ⟨Nat.le_refl _, hd σ H p⟩
end L2

set_option Elab.async false
set_option linter.all false
set_option maxRecDepth 100000
set_option maxHeartbeats 4000000
namespace L2
open PySem PySem.Spec PyProof.Rows
def tCut (t u : TS) : TS := fun D σ H => ∃ W : St -> Hp -> Prop, t { D with nx := W } σ H /\ ∀ σ' H', W σ' H' -> u D σ' H'
theorem y3w {X : Cx} {st : Stmt} {rest : List Stmt} {t u : TS} (h1 : PS X st t) (h2 : PSs X rest u) : PSs X (st :: rest) (tCut t u) := by
 intro pins s σ H D I h
 obtain ⟨W, h, hw⟩ := h
 refine wpAny_execs_cons (thn (h1 pins s σ H { D with nx := W } I h) fun f s1 q => ?_)
 cases f with
 | next =>
  obtain ⟨σ', H', I', q⟩ := q
  exact h2 pins s1 σ' H' D I' (hw σ' H' q)
 | ret v => exact q
 | brk => exact q
 | cont => exact q
theorem len7 {us : List Value} {p : List Value -> Prop} (h : us.length = 7) (k : ∀ a b c d e f g, p [a, b, c, d, e, f, g]) : p us := by
 match us, h with
 | [a, b, c, d, e, f, g], _ => exact k a b c d e f g
end L2

set_option Elab.async false
set_option linter.all false
set_option maxRecDepth 100000
set_option maxHeartbeats 4000000
namespace HT
open PySem PySem.Spec PyProof.Rows L2
section
variable {prog : Program} {w : World} {A : Around} {E : Value -> Shared -> Prop} {s : Shared}
end
end HT
namespace L2
open PySem PySem.Spec PyProof.Rows
section
variable {X : Cx}
theorem z4I (zs : List Str) : (zs.map V.str).all z20 = true := by
 rw [List.all_map, List.all_eq_true]
 intro z _
 rfl
end
end L2

set_option Elab.async false
set_option linter.all false
set_option maxRecDepth 100000
set_option maxHeartbeats 4000000
namespace My
open PySem L2
def top (i : Nat) : Stmt := PySem.Challenge.pw_backissues_k30_history.main.body.getD i (.Pass ⟨0, 0, 0, 0⟩)
abbrev z1a : Stmt := top 1
abbrev z2j : Stmt := top 2
abbrev z2Q : Stmt := top 3
abbrev z0J : Stmt := top 4
abbrev z1K : Stmt := top 5
abbrev z0P : Stmt := top 6
abbrev z15 : Stmt := top 27
abbrev z17 : Stmt := top 28
abbrev z1n : Stmt := top 29
abbrev z0N : Stmt := top 30
abbrev z3e : Stmt := top 35
abbrev z1w : Stmt := top 36
abbrev z3Z : Stmt := top 37
abbrev z2S : Stmt := top 38
abbrev z3k : Stmt := top 39
abbrev z1m : Stmt := top 40
abbrev z3V : Stmt := top 42
abbrev z3g : Stmt := top 44
abbrev z16 : Stmt := top 46
abbrev z1b : Stmt := top 47
abbrev z1q : Stmt := top 48
abbrev z1r : Stmt := top 49
abbrev z1c : Stmt := z1e (top 50) 0
abbrev z0G : Stmt := z1e (top 50) 1
abbrev z1P : Stmt := z1e (top 50) 2
abbrev z1t : Stmt := z1e (top 50) 3
abbrev z1N : Stmt := z1e (top 50) 4
abbrev z1l : Stmt := z1e (top 52) 0
abbrev z2N : Stmt := z1e (top 52) 1
abbrev z2J : Stmt := z1e (top 52) 2
abbrev z1O : Stmt := z1e (top 52) 3
abbrev z1u : Stmt := z1e (top 52) 4
abbrev z1s : Stmt := z1e (top 52) 5
abbrev z0X : Stmt := top 56
abbrev z1v : Stmt := z1e (top 57) 0
abbrev z0z : Stmt := z1e (top 57) 1
abbrev z0B : Stmt := z1e (top 57) 2
abbrev z2h : Stmt := z1e (top 57) 3
abbrev z1L : Stmt := z1e (top 57) 4
abbrev z24 : Stmt := z1e (top 57) 5
abbrev z2o : Stmt := z1e (top 57) 6
abbrev z2k : Stmt := z1e (top 57) 7
abbrev z2I : Stmt := z1e (top 57) 8
abbrev z2g : Stmt := z1e (top 57) 9
abbrev z3X : Stmt := top 59
abbrev z2O : Stmt := top 60
abbrev z3o : Stmt := top 61
abbrev z2n : Stmt := top 62
abbrev z2t : Stmt := top 63
abbrev z1J : Stmt := top 64
abbrev z2L : Stmt := top 65
abbrev z2m : Stmt := top 66
abbrev z23 : Stmt := top 67
abbrev z3h : Stmt := top 68
abbrev z1x : Stmt := top 69
abbrev z22 : Stmt := top 70
abbrev z2H : Stmt := top 71
abbrev z2K : Stmt := top 72
abbrev z2f : Stmt := top 73
abbrev z2q : Stmt := top 74
abbrev z2i : Stmt := top 75
abbrev z2p : Stmt := top 76
abbrev z2M : Stmt := top 77
abbrev z2r : Stmt := top 78
abbrev slaw : Stmt := top 79
theorem z3m : FnScope ["had", "latest"] ["had"] (z05 z1a) := ⟨rfl, rfl, rfl, by decide +kernel, rfl, by decide +kernel, by decide +kernel⟩
theorem z5r : FnScope ["number", "reach"] ["number", "reach"] (z05 z2j) := ⟨rfl, rfl, rfl, by decide +kernel, rfl, by decide +kernel, by decide +kernel⟩
theorem z5P : FnScope ["had", "number", "reach", "tellers"] ["had", "number", "reach"] (z05 z2Q) := ⟨rfl, rfl, rfl, by decide +kernel, rfl, by decide +kernel, by decide +kernel⟩
theorem z2d : FnScope ["had", "reach"] ["had", "reach"] (z05 z0J) := ⟨rfl, rfl, rfl, by decide +kernel, rfl, by decide +kernel, by decide +kernel⟩
theorem z4d : FnScope ["had", "reach"] ["had", "reach"] (z05 z1K) := ⟨rfl, rfl, rfl, by decide +kernel, rfl, by decide +kernel, by decide +kernel⟩
theorem z2x : FnScope ["had", "reach", "behind"] ["had", "reach", "behind"] (z05 z0P) := ⟨rfl, rfl, rfl, by decide +kernel, rfl, by decide +kernel, by decide +kernel⟩
theorem z34 : FnScope ["names"] ["names"] (z05 z15) := ⟨rfl, rfl, rfl, by decide +kernel, rfl, by decide +kernel, by decide +kernel⟩
theorem z35 : FnScope ["reach"] ["reach"] (z05 z17) := ⟨rfl, rfl, rfl, by decide +kernel, rfl, by decide +kernel, by decide +kernel⟩
theorem z3x : FnScope ["names", "reach"] ["names", "reach"] (z05 z1n) := ⟨rfl, rfl, rfl, by decide +kernel, rfl, by decide +kernel, by decide +kernel⟩
theorem z2v : FnScope ["names", "name"] ["names", "name"] (z05 z0N) := ⟨rfl, rfl, rfl, by decide +kernel, rfl, by decide +kernel, by decide +kernel⟩
theorem z6W : FnScope ["shelf", "name", "number", "values"] ["shelf", "name"] (z05 z3e) := ⟨rfl, rfl, rfl, by decide +kernel, rfl, by decide +kernel, by decide +kernel⟩
theorem z3G : FnScope ["shelf", "number", "teller"] ["shelf", "number", "teller"] (z05 z1w) := ⟨rfl, rfl, rfl, by decide +kernel, rfl, by decide +kernel, by decide +kernel⟩
theorem z8r : FnScope ["shelf", "lacking"] ["shelf"] (z05 z3Z) := ⟨rfl, rfl, rfl, by decide +kernel, rfl, by decide +kernel, by decide +kernel⟩
theorem z69 : FnScope ["shelf", "name", "held_from"] ["shelf", "name"] (z05 z2S) := ⟨rfl, rfl, rfl, by decide +kernel, rfl, by decide +kernel, by decide +kernel⟩
theorem z6Q : FnScope ["shelf", "name", "held_from", "dark_behind"] ["shelf", "name"] (z05 z3k) := ⟨rfl, rfl, rfl, by decide +kernel, rfl, by decide +kernel, by decide +kernel⟩
theorem z3u : FnScope ["shelf", "name"] ["shelf", "name"] (z05 z1m) := ⟨rfl, rfl, rfl, by decide +kernel, rfl, by decide +kernel, by decide +kernel⟩
theorem z8d : FnScope ["book", "reader", "name", "rows", "which", "now"] ["book", "reader", "name"] (z05 z3V) := ⟨rfl, rfl, rfl, by decide +kernel, rfl, by decide +kernel, by decide +kernel⟩
theorem z6P : FnScope ["sets", "reach", "number", "ahead"] ["sets", "reach"] (z05 z3g) := ⟨rfl, rfl, rfl, by decide +kernel, rfl, by decide +kernel, by decide +kernel⟩
theorem z31 : FnScope ["value"] ["value"] (z05 z16) := ⟨rfl, rfl, rfl, by decide +kernel, rfl, by decide +kernel, by decide +kernel⟩
theorem z3f : FnScope ["names", "rows", "set_names", "name", "value"] ["names", "rows"] (z05 z1b) := ⟨rfl, rfl, rfl, by decide +kernel, rfl, by decide +kernel, by decide +kernel⟩
theorem z3H : FnScope ["names", "rows", "values"] ["names", "rows"] (z05 z1q) := ⟨rfl, rfl, rfl, by decide +kernel, rfl, by decide +kernel, by decide +kernel⟩
theorem z3N : FnScope ["rows"] ["rows"] (z05 z1r) := ⟨rfl, rfl, rfl, by decide +kernel, rfl, by decide +kernel, by decide +kernel⟩
theorem z3d : FnScope ["self", "names", "reach"] ["self", "names", "reach"] (z05 z1c) := ⟨rfl, rfl, rfl, by decide +kernel, rfl, by decide +kernel, by decide +kernel⟩
theorem z25 : FnScope ["self", "rows"] ["self", "rows"] (z05 z0G) := ⟨rfl, rfl, rfl, by decide +kernel, rfl, by decide +kernel, by decide +kernel⟩
theorem z4a : FnScope ["self", "rows", "number", "sets"] ["self", "rows"] (z05 z1P) := ⟨rfl, rfl, rfl, by decide +kernel, rfl, by decide +kernel, by decide +kernel⟩
theorem z3M : FnScope ["self"] ["self"] (z05 z1t) := ⟨rfl, rfl, rfl, by decide +kernel, rfl, by decide +kernel, by decide +kernel⟩
theorem z48 : FnScope ["self", "number"] ["self", "number"] (z05 z1N) := ⟨rfl, rfl, rfl, by decide +kernel, rfl, by decide +kernel, by decide +kernel⟩
theorem z3v : FnScope ["self", "names", "reach"] ["self", "names", "reach"] (z05 z1l) := ⟨rfl, rfl, rfl, by decide +kernel, rfl, by decide +kernel, by decide +kernel⟩
theorem z5Y : FnScope ["self", "issue", "number"] ["self", "issue"] (z05 z2N) := ⟨rfl, rfl, rfl, by decide +kernel, rfl, by decide +kernel, by decide +kernel⟩
theorem z6u : FnScope ["self"] ["self"] (z05 z2J) := ⟨rfl, rfl, rfl, by decide +kernel, rfl, by decide +kernel, by decide +kernel⟩
theorem z4c : FnScope ["self"] ["self"] (z05 z1O) := ⟨rfl, rfl, rfl, by decide +kernel, rfl, by decide +kernel, by decide +kernel⟩
theorem z3z : FnScope ["self", "number"] ["self", "number"] (z05 z1u) := ⟨rfl, rfl, rfl, by decide +kernel, rfl, by decide +kernel, by decide +kernel⟩
theorem z3B : FnScope ["self", "number"] ["self", "number"] (z05 z1s) := ⟨rfl, rfl, rfl, by decide +kernel, rfl, by decide +kernel, by decide +kernel⟩
theorem z2E : FnScope ["readers"] ["readers"] (z05 z0X) := ⟨rfl, rfl, rfl, by decide +kernel, rfl, by decide +kernel, by decide +kernel⟩
theorem z3L : FnScope ["self", "names", "reach", "readers"] ["self", "names", "reach", "readers"] (z05 z1v) := ⟨rfl, rfl, rfl, by decide +kernel, rfl, by decide +kernel, by decide +kernel⟩
theorem z1z : FnScope ["self", "reader"] ["self", "reader"] (z05 z0z) := ⟨rfl, rfl, rfl, by decide +kernel, rfl, by decide +kernel, by decide +kernel⟩
theorem z1Q : FnScope ["self"] ["self"] (z05 z0B) := ⟨rfl, rfl, rfl, by decide +kernel, rfl, by decide +kernel, by decide +kernel⟩
theorem z5c : FnScope ["self", "rows", "number"] ["self", "rows"] (z05 z2h) := ⟨rfl, rfl, rfl, by decide +kernel, rfl, by decide +kernel, by decide +kernel⟩
theorem z49 : FnScope ["self", "reader", "number", "getting", "lacked"] ["self", "reader", "number"] (z05 z1L) := ⟨rfl, rfl, rfl, by decide +kernel, rfl, by decide +kernel, by decide +kernel⟩
theorem z4A : FnScope ["self"] ["self"] (z05 z24) := ⟨rfl, rfl, rfl, by decide +kernel, rfl, by decide +kernel, by decide +kernel⟩
theorem z5t : FnScope ["self", "number"] ["self", "number"] (z05 z2o) := ⟨rfl, rfl, rfl, by decide +kernel, rfl, by decide +kernel, by decide +kernel⟩
theorem z5j : FnScope ["self"] ["self"] (z05 z2k) := ⟨rfl, rfl, rfl, by decide +kernel, rfl, by decide +kernel, by decide +kernel⟩
theorem z5V : FnScope ["self", "which"] ["self", "which"] (z05 z2I) := ⟨rfl, rfl, rfl, by decide +kernel, rfl, by decide +kernel, by decide +kernel⟩
theorem z5u : FnScope ["self", "reader", "deed", "behind", "told", "past"] ["self", "reader", "deed"] (z05 z2g) := ⟨rfl, rfl, rfl, by decide +kernel, rfl, by decide +kernel, by decide +kernel⟩
theorem z8f : FnScope ["_law_script", "_law_k"] ["_law_script", "_law_k"] (z05 z3X) := ⟨rfl, rfl, rfl, by decide +kernel, rfl, by decide +kernel, by decide +kernel⟩
theorem z6q : FnScope ["_law_cell", "_law_size", "_law_once"] ["_law_cell", "_law_size"] (z05 z2O) := ⟨rfl, rfl, rfl, by decide +kernel, rfl, by decide +kernel, by decide +kernel⟩
theorem z76 : FnScope ["_law_cell", "_law_many", "_law_size", "_law_rest", "_law_mixed", "_law_figures", "_law_k"] ["_law_cell", "_law_many", "_law_size"] (z05 z3o) := ⟨rfl, rfl, rfl, by decide +kernel, rfl, by decide +kernel, by decide +kernel⟩
theorem z5J : FnScope ["_law_found", "_law_due", "_law_k"] ["_law_found", "_law_due"] (z05 z2n) := ⟨rfl, rfl, rfl, by decide +kernel, rfl, by decide +kernel, by decide +kernel⟩
theorem z5d : FnScope ["_law_cell", "_law_many", "_law_signs", "_law_turn", "_law_stem", "_law_spot"] ["_law_cell", "_law_many"] (z05 z2t) := ⟨rfl, rfl, rfl, by decide +kernel, rfl, by decide +kernel, by decide +kernel⟩
theorem z46 : FnScope ["_law_times", "_law_many", "_law_turn"] ["_law_times"] (z05 z1J) := ⟨rfl, rfl, rfl, by decide +kernel, rfl, by decide +kernel, by decide +kernel⟩
theorem z5N : FnScope ["_law_names_here", "_law_cell", "_law_many", "_law_size", "_law_sets_here", "_law_figure", "_law_mask", "_law_chosen", "_law_name"] ["_law_names_here", "_law_cell", "_law_many"] (z05 z2L) := ⟨rfl, rfl, rfl, by decide +kernel, rfl, by decide +kernel, by decide +kernel⟩
theorem z5m : FnScope ["_law_figure", "_law_place"] ["_law_figure", "_law_place"] (z05 z2m) := ⟨rfl, rfl, rfl, by decide +kernel, rfl, by decide +kernel, by decide +kernel⟩
theorem z4v : FnScope ["_law_sets_here", "_law_cell", "_law_figures", "_law_rows", "_law_k", "_law_one", "_law_place"] ["_law_sets_here", "_law_cell"] (z05 z23) := ⟨rfl, rfl, rfl, by decide +kernel, rfl, by decide +kernel, by decide +kernel⟩
theorem z6Z : FnScope ["_law_cell", "_law_many", "_law_flags", "_law_numbers", "_law_number", "_law_jump", "_law_figure"] ["_law_cell", "_law_many"] (z05 z3h) := ⟨rfl, rfl, rfl, by decide +kernel, rfl, by decide +kernel, by decide +kernel⟩
theorem z3C : FnScope ["_law_row_here", "_law_cell", "_law_figures", "_law_told", "_law_k"] ["_law_row_here", "_law_cell"] (z05 z1x) := ⟨rfl, rfl, rfl, by decide +kernel, rfl, by decide +kernel, by decide +kernel⟩
theorem z4E : FnScope ["_law_had_here", "_law_number", "_law_reach", "_law_above"] ["_law_had_here", "_law_number", "_law_reach"] (z05 z22) := ⟨rfl, rfl, rfl, by decide +kernel, rfl, by decide +kernel, by decide +kernel⟩
theorem z6g : FnScope ["_law_had_here", "_law_rows", "_law_reach", "_law_gaps_here", "_law_number", "_law_teller_here"] ["_law_had_here", "_law_rows", "_law_reach"] (z05 z2H) := ⟨rfl, rfl, rfl, by decide +kernel, rfl, by decide +kernel, by decide +kernel⟩
theorem z6p : FnScope ["_law_had_here", "_law_rows", "_law_name", "_law_held_here", "_law_number", "_law_row_here"] ["_law_had_here", "_law_rows", "_law_name"] (z05 z2K) := ⟨rfl, rfl, rfl, by decide +kernel, rfl, by decide +kernel, by decide +kernel⟩
theorem z5b : FnScope ["_law_gaps_here", "_law_number", "_law_name"] ["_law_gaps_here", "_law_number", "_law_name"] (z05 z2f) := ⟨rfl, rfl, rfl, by decide +kernel, rfl, by decide +kernel, by decide +kernel⟩
theorem z5p : FnScope ["_law_gaps_here", "_law_number", "_law_name"] ["_law_gaps_here", "_law_number", "_law_name"] (z05 z2q) := ⟨rfl, rfl, rfl, by decide +kernel, rfl, by decide +kernel, by decide +kernel⟩
theorem z5f : FnScope ["_law_script"] ["_law_script"] (z05 z2i) := ⟨rfl, rfl, rfl, by decide +kernel, rfl, by decide +kernel, by decide +kernel⟩
theorem z5k : FnScope ["_law_cells", "_law_many", "_law_first", "_law_readers", "_law_log", "_law_written", "_law_cell", "_law_rest", "_law_k", "_law_reader", "_law_number", "_law_jump", "_law_other"] ["_law_cells", "_law_many", "_law_first", "_law_readers"] (z05 z2p) := ⟨rfl, rfl, rfl, by decide +kernel, rfl, by decide +kernel, by decide +kernel⟩
theorem z60 : FnScope ["_law_book", "_law_log", "_law_rows", "_law_deed"] ["_law_book", "_law_log", "_law_rows"] (z05 z2M) := ⟨rfl, rfl, rfl, by decide +kernel, rfl, by decide +kernel, by decide +kernel⟩
theorem z5e : FnScope ["_law_name", "_law_log", "_law_reader", "_law_rows", "_law_reach", "_law_had_here", "_law_last", "_law_story_here", "_law_k", "_law_held_here", "_law_state_here"] ["_law_name", "_law_log", "_law_reader", "_law_rows", "_law_reach"] (z05 z2r) := ⟨rfl, rfl, rfl, by decide +kernel, rfl, by decide +kernel, by decide +kernel⟩
theorem y4G : FnScope ["_law_script", "_law_names_here", "_law_rows", "_law_reach", "_law_readers", "_law_log", "_law_had_here", "_law_order", "_law_book", "_law_half", "_law_turn", "_law_reader", "_law_k", "_law_name", "_law_due"] ["_law_script"] (z05 slaw) := ⟨rfl, rfl, rfl, by decide +kernel, rfl, by decide +kernel, by decide +kernel⟩
structure TxOffice (K : PySem.W.Frag) (mg : Str -> Option Value) (C : Addr) : Prop where
 cl : Cls K C
 mgC : mg "Office" = some (.ref C)
 n_names : z2T K C "names"
 n_reach : z2T K C "reach"
 n_written : z2T K C "written"
structure TxShelf (K : PySem.W.Frag) (mg : Str -> Option Value) (C : Addr) : Prop where
 cl : Cls K C
 mgC : mg "Shelf" = some (.ref C)
 n_names : z2T K C "names"
 n_reach : z2T K C "reach"
 n_issues : z2T K C "issues"
structure TxBook (K : PySem.W.Frag) (mg : Str -> Option Value) (C : Addr) : Prop where
 cl : Cls K C
 mgC : mg "Book" = some (.ref C)
 n_office : z2T K C "office"
 n_readers : z2T K C "readers"
 n_done : z2T K C "done"
structure Bl (mg : Str -> Option Value) : Prop where
 len : mg "len" = none
 range : mg "range" = none
 tuple : mg "tuple" = none
 list : mg "list" = none
 max : mg "max" = none
 min : mg "min" = none
 sorted : mg "sorted" = none
 isinstance : mg "isinstance" = none
 bool : mg "bool" = none
 int : mg "int" = none
 str : mg "str" = none
 set : mg "set" = none
 reversed : mg "reversed" = none
 dict : mg "dict" = none
 MOST_NAMES : ∃ t, mg "MOST_NAMES" = some (.int 12 t)
 MOST_REACH : ∃ t, mg "MOST_REACH" = some (.int 10 t)
 MOST_NUMBERS : ∃ t, mg "MOST_NUMBERS" = some (.int 60 t)
 MOST_VALUE : ∃ t, mg "MOST_VALUE" = some (.int 1000000 t)
 MOST_READERS : ∃ t, mg "MOST_READERS" = some (.int 10 t)
 MOST_DEEDS : ∃ t, mg "MOST_DEEDS" = some (.int 400 t)
 SURE : ∃ t, mg "SURE" = some (.str "sure" t)
 STALE : ∃ t, mg "STALE" = some (.str "stale" t)
 OPEN : ∃ t, mg "OPEN" = some (.str "open" t)
 WRITE : ∃ t, mg "WRITE" = some (.str "write" t)
 DELIVER : ∃ t, mg "DELIVER" = some (.str "deliver" t)
theorem z01 {H : Hp} {p : Addr} (h : H p = none) (o : HO) : Same H (upd H p o) := fun b u q => by rw [z0g (z0p q h)]; exact q
theorem z2F {H H' : Hp} {l : Addr} {o : HO} (hs : Same H H') (hl : H l = none) : Same H (upd H' l o) := fun b u e => by rw [z0g (z0p e hl)]; exact hs b u e
theorem z7I {n : Nat} (h : n ≤ 1000) : n ≤ sizeLine := Nat.le_of_lt (z0i h)
theorem z6b {ns : List Int} {k : Int} (h0 : 0 ≤ k) (h : k < (ns.length : Int)) : atI (ns.map V.int) k = some (.int (ns.getD k.toNat 0)) := by
 have hk : k.toNat < ns.length := by omega
 have ek : k = ((k.toNat : Nat) : Int) := by omega
 have q : atI (ns.map V.int) ((k.toNat : Nat) : Int) = some (.int (ns.getD k.toNat 0)) := z1k (by
  rw [List.getElem?_map, List.getElem?_eq_getElem hk, List.getD_eq_getElem?_getD, List.getElem?_eq_getElem hk] <;> rfl)
 rw [<- ek] at q
 exact q
theorem z5F {K : PySem.W.Frag} {H H' : Hp} {a : Addr} {xs : List V} (e : Same H H') (h : SqT K H a xs) : SqT K H' a xs := by
 rcases h with (h | ⟨o, h⟩) | h
 ·exact .inl (.inl (e _ _ h))
 ·exact .inl (.inr ⟨o, e _ _ h⟩)
 ·exact .inr h
theorem z0H {p : Prop} [Decidable p] (h : decide p = true) : p := of_decide_eq_true h
theorem z3E {p : Prop} [Decidable p] (h : ¬ decide p = true) : ¬ p := fun q => h (decide_eq_true q)
section
variable {P : Program} {w : World} {K : PySem.W.Frag} {mg : Str -> Option Value} {base : Heap} {f : Addr} {fd : FuncData}
theorem z29 : ∀ {l1 l2 : List Int}, l1.Pairwise (· < ·) -> l2.Pairwise (· < ·) -> (∀ x, x ∈ l1 ↔ x ∈ l2) -> l1 = l2
 | [], [], _, _, _ => rfl
 | [], y :: _, _, _, h => by have := (h y).mpr List.mem_cons_self; cases this
 | x :: _, [], _, _, h => by have := (h x).mp List.mem_cons_self; cases this
 | x :: r, y :: t, p1, p2, h => by
  rw [List.pairwise_cons] at p1 p2
  have e : x = y := by
   rcases List.mem_cons.mp ((h x).mp List.mem_cons_self) with e | hx
   ·exact e
   ·rcases List.mem_cons.mp ((h y).mpr List.mem_cons_self) with e | hy
    ·exact e.symm
    ·have := p1.1 y hy
     have := p2.1 x hx
     omega
  subst e
  refine congrArg (x :: ·) (z29 p1.2 p2.2 fun z => ⟨fun hz => ?_, fun hz => ?_⟩)
  ·rcases List.mem_cons.mp ((h z).mp (List.mem_cons_of_mem _ hz)) with e | q
   ·have := p1.1 z hz
    omega
   ·exact q
  ·rcases List.mem_cons.mp ((h z).mpr (List.mem_cons_of_mem _ hz)) with e | q
   ·have := p2.1 z hz
    omega
   ·exact q
theorem z1Y (lo : Int) : ∀ n, (upI lo n).Pairwise (· < ·)
 | 0 => List.Pairwise.nil
 | n + 1 => by
  rw [z4o]
  refine List.pairwise_append.mpr ⟨z1Y lo n, List.pairwise_singleton _ _, fun x hx y hy => ?_⟩
  have h1 := z1C.mp hx
  rw [List.mem_singleton.mp hy]
  omega
theorem y41 (lo : Int) (n : Nat) : rngV lo n = (upI lo n).map V.int := by
 unfold rngV upI
 rw [List.map_map]
 rfl
def spAt (K : PySem.W.Frag) : Sp := fun vs H Q _ => ∃ (a : Addr) (ns : List Int) (k : Int), vs = [.ref a, .int k] /\ SqL K H a (ns.map V.int) /\ 0 ≤ k /\ Q (.int (ns.getD k.toNat 0)) H
theorem ok_at (M : Bl mg) (F : Fun K "_law_at" "_law_at" z3X f fd) : FnOk P w K mg base CX0 1 f fd ["_law_script", "_law_k"] (spAt K) := by
 have nd := z8f.nd
 refine F.ok z8f (fun vs H Q E h => ?_) (fun cdv A outer s H vs Q E hr h => ?_)
 ·obtain ⟨a, ns, k, rfl, _⟩ := h
  rfl
 obtain ⟨a, ns, k, rfl, hS, h0, q⟩ := h
 refine ⟨_, (z04 (z0R (z08 z6H (pv 1) (z0f z0a rfl M.len PySem.boot_len (z00 (pv 0) z03)) (z0l _)) (z07 (z0o (z0E z0U (pv 0) (pv 1) (fun _ _ => rfl)))) z0q) (z07 (z0o z06))), ?_⟩
 have hl : (ns.map V.int).length = ns.length := List.length_map _
 refine ⟨_, rfl, _, rfl, a, _, rfl, .inl hS, _, _, rfl, rfl, _, rfl, ?_⟩
 refine ite2 (fun c => ?_) (fun c => ?_)
 ·have c' := z0H c
  rw [hl] at c'
  exact ⟨_, rfl, _, rfl, a, _, _, _, rfl, rfl, hS, z6b h0 c', q⟩
 ·have c' := z3E c
  rw [hl] at c'
  have e : ns.getD k.toNat 0 = 0 := by rw [List.getD_eq_getElem?_getD, List.getElem?_eq_none (by omega)]; rfl
  rw [e] at q
  exact q
def z8h : Sp := fun vs H Q _ => ∃ c n : Int, vs = [.int c, .int n] /\ 0 < n /\ ∀ r, 0 ≤ r -> r < n -> Q (.int r) H
theorem y3V (F : Fun K "_law_pick" "_law_pick" z2O f fd) : FnOk P w K mg base CX0 1 f fd ["_law_cell", "_law_size"] z8h := by
 have nd := z6q.nd
 refine F.ok z6q (fun vs H Q E h => ?_) (fun cdv A outer s H vs Q E hr h => ?_)
 ·obtain ⟨c, n, rfl, _⟩ := h
  rfl
 obtain ⟨c, n, rfl, hn, q⟩ := h
 refine ⟨_, (z04 (z0R (z08 z2s (z0h z0L (pv 0) z06) z06 (z0l _)) (z07 (z0o (z0h z0L (z0h z13 (pv 0) z06) (pv 1)))) z0q) (z04 (z0m (i := 2) nd rfl (Or.inl rfl) (z0h z0L (z0h z44 (z0h z13 (pv 0) z06) z06) z06)) (z07 (z0o (z0h z0L (z0h z0L (z0h z44 (z0h z0Z (pv 2) z06) z06) z06) (pv 1)))))), ?_⟩
 refine ⟨_, rfl, _, _, rfl, rfl, (by show (0 : Int) < 2; decide), rfl, _, rfl, ?_⟩
 refine ite2 (fun _ => ?_) (fun _ => ?_)
 ·exact ⟨_, rfl, _, _, rfl, rfl, ⟨by decide, by decide⟩, _, rfl, _, _, rfl, rfl, hn, q _ (Int.emod_nonneg _ (by omega)) (Int.emod_lt_of_pos _ hn)⟩
 ·refine ⟨_, rfl, _, _, rfl, rfl, ⟨by decide, by decide⟩, _, _, rfl, rfl, .inr ⟨by decide, by decide⟩, _, _, rfl, rfl, (by show (0 : Int) < 2147483647; decide), ?_⟩
  refine ⟨_, rfl, _, _, rfl, rfl, _, _, rfl, rfl, .inr ⟨by decide, by decide⟩, _, _, rfl, rfl, (by show (0 : Int) < 2147483647; decide), _, rfl, _, _, rfl, rfl, hn, ?_⟩
  exact q _ (Int.emod_nonneg _ (by omega)) (Int.emod_lt_of_pos _ hn)
def z8G : Nat -> Sp
 | 0 => fun _ _ _ _ => False
 | n + 1 => fun vs H Q _ => ∃ x y, vs = [x, y] /\ z40 H n x y /\ ∀ H', Same H H' -> Q (.bl true) H'
theorem y0U : FnOk P w K mg base CX0 0 f fd ["_law_found", "_law_due"] (z8G 0) :=
 ⟨fun vs H Q E h => h.elim, fun A outer s H args us vs Q E _ _ _ _ h => h.elim⟩
def tyOf : V -> String
 | .non => "NoneType"
 | .bl _ => "bool"
 | .int _ => "int"
 | _ => "str"
theorem z4e {H : Hp} {x : V} (h : y03 x = true) : TyOf K H x (.type (tyOf x)) := by
 cases x with
 | non => exact .non
 | bl b => exact .bl b
 | int i => exact .int i
 | str z => exact .str z
 | _ => exact absurd h Bool.false_ne_true
def kitB : V -> String -> Bool
 | .bl _, T => T == "bool" || T == "int"
 | .int _, T => T == "int"
 | .str _, T => T == "str"
 | _, _ => false
theorem z5D (T : String) (hT : T = "tuple" \/ T = "bool" \/ T = "int" \/ T = "str") {x : V} (h : y03 x = true) : PySem.W.kitOne K (.type (tyOf x)) (.type T) = some (kitB x T) := by
 cases x with
 | non => rcases hT with rfl | rfl | rfl | rfl <;> kernel_rfl
 | bl b => rcases hT with rfl | rfl | rfl | rfl <;> kernel_rfl
 | int i => rcases hT with rfl | rfl | rfl | rfl <;> kernel_rfl
 | str z => rcases hT with rfl | rfl | rfl | rfl <;> kernel_rfl
 | _ => exact absurd h Bool.false_ne_true
theorem y0m (x : V) : kitB x "tuple" = false := by cases x <;> rfl
theorem y0F : PySem.W.kitOne K (.type "tuple") (.type "tuple") = some true := by kernel_rfl
theorem y3o {xs : List V} {i : Nat} (h : i < xs.length) : ∃ v, xs[i]? = some v /\ atI xs (i : Int) = some v := ⟨xs[i], List.getElem?_eq_getElem h, z1k (List.getElem?_eq_getElem h)⟩
theorem y49 {x : V} (h : y03 x = true) : scal x x = true := by
 cases x <;> first | rfl | exact absurd h Bool.false_ne_true
theorem y3Y {n : Nat} (M : Bl mg) (F : Fun K "_law_same" "_law_same" z2n f fd) (G_law_same : Cal P w K mg base n "_law_same" ["_law_found", "_law_due"] (z8G n)) :
  FnOk P w K mg base CX0 (n + 1) f fd ["_law_found", "_law_due"] (z8G (n + 1)) := by
 have nd := z5J.nd
 refine F.ok z5J (fun vs H Q E h => ?_) (fun cdv A outer s H vs Q E hr h => ?_)
 ·obtain ⟨x, y, rfl, _⟩ := h
  rfl
 obtain ⟨x, y, rfl, ha, q⟩ := h
 refine ⟨_, (z04 (z0R (z9v (z0f z1I rfl M.isinstance PyProof.Rows.boot_isinstance (z00 (pv 1) (z00 (z3Q (v := .ty "tuple") rfl M.tuple PyProof.Rows.boot_tuple rfl) z03)))) (z04 (z0R (PW.pt (z5S (y0C (z9v (z0f z1I rfl M.isinstance PyProof.Rows.boot_isinstance (z00 (pv 0) (z00 (z3Q (v := .ty "tuple") rfl M.tuple PyProof.Rows.boot_tuple rfl) z03))))) (z3D (z08 z98 (z0f z0a rfl M.len PySem.boot_len (z00 (pv 0) z03)) (z0f z0a rfl M.len PySem.boot_len (z00 (pv 1) z03)) (z0l _))))) (z07 (z0o z80)) z0q) (z04 (z1p PassesOwn.never rfl (z18 rfl M.range (z00 (z0f z0a rfl M.len PySem.boot_len (z00 (pv 1) z03)) z03)) (z0n (i := 2) nd rfl (Or.inl rfl)) (z07 (z0R (y0C (z9v (z0r G_law_same (hr.mono (by omega)) rfl (z00 (z0E z0S (pv 0) (pv 2) (fun _ _ => rfl)) (z00 (z0E z0S (pv 1) (pv 2) (fun _ _ => rfl)) z03))))) (z07 (z0o z80)) z0q))) (z07 (z0o z80)))) z0q) (z04 (z0R (PW.pt (z5S (z08 z98 (z0f z1I rfl M.isinstance PyProof.Rows.boot_isinstance (z00 (pv 0) (z00 (z3Q (v := .ty "bool") rfl M.bool PyProof.Rows.boot_bool rfl) z03))) (z0f z1I rfl M.isinstance PyProof.Rows.boot_isinstance (z00 (pv 1) (z00 (z3Q (v := .ty "bool") rfl M.bool PyProof.Rows.boot_bool rfl) z03))) (z0l _)) (z3D (z08 z98 (z0f z1I rfl M.isinstance PyProof.Rows.boot_isinstance (z00 (pv 0) (z00 (z3Q (v := .ty "int") rfl M.int PyProof.Rows.boot_int rfl) z03))) (z0f z1I rfl M.isinstance PyProof.Rows.boot_isinstance (z00 (pv 1) (z00 (z3Q (v := .ty "int") rfl M.int PyProof.Rows.boot_int rfl) z03))) (z0l _))))) (z07 (z0o z80)) z0q) (z04 (z0R (PW.pt (z5S (z08 z98 (z0f z1I rfl M.isinstance PyProof.Rows.boot_isinstance (z00 (pv 0) (z00 (z3Q (v := .ty "str") rfl M.str PyProof.Rows.boot_str rfl) z03))) (z0f z1I rfl M.isinstance PyProof.Rows.boot_isinstance (z00 (pv 1) (z00 (z3Q (v := .ty "str") rfl M.str PyProof.Rows.boot_str rfl) z03))) (z0l _)) (z3D (z08 z98 (y3i (y1i (pv 0))) (y3i (y1i (pv 1))) (z0l _))))) (z07 (z0o z80)) z0q) (z07 (z0o (y1I z2s (pv 0) (pv 1) (z0l _))))))), ?_⟩
 have ha' : (x = y /\ y03 x = true) \/ ∃ (m : Nat) (a b : Addr) (xs ys : List V), n = m + 1 /\ x = .ref a /\ y = .ref b /\ H a = some (.tup xs) /\ H b = some (.tup ys) /\ xs.length = ys.length /\ ys.length ≤ 1000000 /\
   ∀ (i : Nat) (u v : V), xs[i]? = some u -> ys[i]? = some v -> z40 H m u v := by
  cases n with
  | zero => exact .inl ha
  | succ n =>
   rcases ha with ha | ⟨a, b, xs, ys, e1, e2, h1, h2, hl, hm, hi⟩
   ·exact .inl ha
   ·exact .inr ⟨n, a, b, xs, ys, rfl, e1, e2, h1, h2, hl, hm, hi⟩
 rcases ha' with ⟨rfl, hs⟩ | ⟨m, a, b, xs, ys, rfl, rfl, rfl, h1, h2, hl, hm, hi⟩
 ·have k1 := z5D (K := K) "tuple" (.inl rfl) hs
  have k2 := z5D (K := K) "bool" (.inr (.inl rfl)) hs
  have k3 := z5D (K := K) "int" (.inr (.inr (.inl rfl))) hs
  have k4 := z5D (K := K) "str" (.inr (.inr (.inr rfl))) hs
  rw [y0m] at k1
  refine ⟨_, rfl, _, _, _, _, rfl, z4e hs, k1, _, rfl, iteF ?_⟩
  refine ⟨_, rfl, _, _, _, _, rfl, z4e hs, k2, _, rfl, _, _, _, _, rfl, z4e hs, k2, rfl, _, rfl, ?_⟩
  rw [decide_eq_true rfl]
  refine iteF ⟨_, rfl, _, _, _, _, rfl, z4e hs, k3, _, rfl, _, _, _, _, rfl, z4e hs, k3, rfl, _, rfl, ?_⟩
  rw [decide_eq_true rfl]
  refine iteF ?_
  refine ⟨_, rfl, _, _, _, _, rfl, z4e hs, k4, _, rfl, _, _, _, _, rfl, z4e hs, k4, rfl, _, rfl, ?_⟩
  rw [decide_eq_true rfl]
  refine iteF ⟨_, rfl, _, rfl, rfl, _, rfl, ?_⟩
  rw [decide_eq_true rfl]
  refine iteF ?_
  refine ⟨_, rfl, _, rfl, y49 hs, ?_⟩
  rw [decide_eq_true rfl]
  exact q H (Same.refl H)
 ·refine ⟨_, rfl, _, _, _, _, rfl, .tup h2, y0F, _, rfl, iteT ?_⟩
  refine ⟨_, rfl, _, _, _, _, rfl, .tup h1, y0F, _, rfl, iteF ?_⟩
  refine ⟨_, rfl, a, xs, rfl, .inr (SqT.of h1), _, rfl, b, ys, rfl, .inr (SqT.of h2), rfl, _, rfl, ?_⟩
  rw [hl, decide_eq_true rfl]
  refine iteF ?_
  refine ⟨_, rfl, b, ys, rfl, .inr (SqT.of h2), _, rfl, by omega, by omega, ?_⟩
  refine z1j (lo := 0) (n := ys.length) (fun _ σ H' => Same H H' /\ ∃ o, σ = [some (.ref a), some (.ref b), o]) ⟨Same.refl H, _, rfl⟩ (fun i σ H' hi' hp => ?_) (fun σ H' hp => ?_)
  ·obtain ⟨hS, o, rfl⟩ := hp
   obtain ⟨u, hu, au⟩ := y3o (xs := xs) (i := i) (by omega)
   obtain ⟨v, hv, av⟩ := y3o (xs := ys) (i := i) hi'
   have ei : (0 : Int) + (i : Int) = (i : Int) := Int.zero_add _
   refine ⟨_, rfl, _, rfl, a, _, _, _, rfl, rfl, SqT.of (hS _ _ h1), (by rw [ei]; exact au), _, rfl, _, rfl, b, _, _, _, rfl, rfl, SqT.of (hS _ _ h2), (by rw [ei]; exact av), ?_⟩
   refine ⟨u, v, rfl, (hi i u v hu hv).keep hS, fun H2 hS2 => ⟨_, rfl, ?_⟩⟩
   exact iteF ⟨hS.trans hS2, _, rfl⟩
  ·obtain ⟨hS, o, rfl⟩ := hp
   exact q H' hS
theorem z9E (M : Bl mg) (F : Fun K "_law_same" "_law_same" z2n f fd) (B : z3q K fd ["_law_found", "_law_due"] []) (N : mg "_law_same" = some (.ref f)) :
  ∀ n, Cal P w K mg base n "_law_same" ["_law_found", "_law_due"] (z8G n)
 | 0 => .mk' y0U B F.kp N
 | n + 1 => .mk' (y3Y M F (z9E M F B N n)) B F.kp N
theorem z7M {ns : List Int} {n : Nat} (h : ns.length ≤ n) (hn : n ≤ 1000) : (ns.map V.int).length < sizeLine := z0i (by rw [List.length_map]; omega)
def y0t : Sp := fun vs H Q _ => ∃ c m z : Int, vs = [.int c, .int m, .int z] /\ 0 ≤ m /\ m ≤ 900 /\ 0 < z /\ z < 1073741824 /\
 ∀ (l : Addr) (ns : List Int) (H' : Hp), H l = none -> Same H H' -> H' l = some (.lst (ns.map V.int)) -> ns.length = m.toNat -> (∀ x ∈ ns, 0 ≤ x /\ x < z) -> Q (.ref l) H'
theorem y4X (M : Bl mg) (F : Fun K "_law_row" "_law_row" z3o f fd) : FnOk P w K mg base CX0 1 f fd ["_law_cell", "_law_many", "_law_size"] y0t := by
 have nd := z76.nd
 refine F.ok z76 (fun vs H Q E h => ?_) (fun cdv A outer s H vs Q E hr h => ?_)
 ·obtain ⟨c, m, z, rfl, _⟩ := h
  rfl
 obtain ⟨c, m, z, rfl, m0, m1, z0, z1, q⟩ := h
 refine ⟨_, (z04 (z0m (i := 3) nd rfl (Or.inl rfl) (z0h z13 (pv 0) z06)) (z04 (z0m (i := 4) nd rfl (Or.inl rfl) (z0h z0L (z0h z44 (pv 3) z06) z06)) (z04 (z0m (i := 5) nd rfl (Or.inl rfl) (z1V z03)) (z04 (z1p PassesOwn.never rfl (z18 rfl M.range (z00 (pv 1) z03)) (z0n (i := 6) nd rfl (Or.inl rfl)) (z04 (z0m (i := 4) nd rfl (Or.inl rfl) (z0h z0L (z0h z0Z (z0h z0Z (z0h z44 (pv 4) z06) (pv 6)) z06) z06)) (z07 (z0R (z08 z2s (z0h z0L (pv 0) z06) z06 (z0l _)) (z04 (z0A (z3a PySem.F.plainAttrs_list PySem.F.slot_list_append PySem.F.type_list_append z0M (pv 5) (z00 (z0h z0L (pv 3) (pv 2)) z03))) (z07 (z0m (i := 3) nd rfl (Or.inl rfl) (z0h z13 (pv 3) (pv 2))))) (z07 (z0A (z3a PySem.F.plainAttrs_list PySem.F.slot_list_append PySem.F.type_list_append z0M (pv 5) (z00 (z0h z0L (z0h z13 (pv 4) z06) (pv 2)) z03)))))))) (z07 (z0o (pv 5))))))), ?_⟩
 refine ⟨_, rfl, _, _, rfl, rfl, ⟨by decide, by decide⟩, ?_⟩
 refine ⟨_, rfl, _, _, rfl, rfl, .inr ⟨by decide, by decide⟩, _, _, rfl, rfl, (by show (0 : Int) < 2147483647; decide), ?_⟩
 refine ⟨(by show 0 ≤ sizeLine; decide), fun l hl => ?_⟩
 refine ⟨_, rfl, _, rfl, by omega, by omega, ?_⟩
 refine z1j (lo := 0) (n := m.toNat) (fun i σ H' => ∃ (ns : List Int) (r mx : Int) (o : Option V), ns.length = i /\ (∀ x ∈ ns, 0 ≤ x /\ x < z) /\ H' = upd H l (.lst (ns.map V.int)) /\
  σ = [some (.int c), some (.int m), some (.int z), some (.int r), some (.int mx), some (.ref l), o]) ⟨[], _, _, _, rfl, (fun _ h => nomatch h), rfl, rfl⟩ (fun i σ H' hi hp => ?_) (fun σ H' hp => ?_)
 ·obtain ⟨ns, r, mx, o, hlen, hall, rfl, rfl⟩ := hp
  refine ⟨_, rfl, _, _, rfl, rfl, .inr ⟨by decide, by decide⟩, _, rfl, _, _, rfl, rfl, _, _, rfl, rfl, _, _, rfl, rfl, (by show (0 : Int) < 2147483647; decide), ?_⟩
  refine ⟨_, rfl, _, _, rfl, rfl, (by show (0 : Int) < 2; decide), rfl, _, rfl, ?_⟩
  have grow : ∀ y : Int, (∀ x ∈ ns ++ [y % z], 0 ≤ x /\ x < z) := fun y x hx => by
   rcases List.mem_append.mp hx with h | h
   ·exact hall x h
   ·rw [List.mem_singleton.mp h]
    exact ⟨Int.emod_nonneg _ (by omega), Int.emod_lt_of_pos _ z0⟩
  have put : ∀ y : Int, upd (upd H l (.lst (ns.map V.int))) l (.lst (ns.map V.int ++ [.int (y % z)])) = upd H l (.lst ((ns ++ [y % z]).map V.int)) := fun y => by
   rw [z4f, List.map_append]
   rfl
  refine ite2 (fun _ => ?_) (fun _ => ?_)
  ·refine ⟨_, rfl, .inl ⟨rfl, _, SqL.of z02⟩, _, rfl, _, rfl, _, _, rfl, rfl, z0, l, _, _, rfl, rfl, z02, z7M (n := i) (by omega) (by omega), ?_⟩
   refine ⟨_, rfl, _, rfl, _, _, rfl, rfl, ⟨z0, z1⟩, ?_⟩
   exact ⟨ns ++ [r % z], _, _, _, by rw [List.length_append, hlen]; rfl, grow r, put r, rfl⟩
  ·refine ⟨_, rfl, .inl ⟨rfl, _, SqL.of z02⟩, _, rfl, _, _, rfl, rfl, ⟨by decide, by decide⟩, _, rfl, _, _, rfl, rfl, z0, l, _, _, rfl, rfl, z02, z7M (n := i) (by omega) (by omega), ?_⟩
   exact ⟨ns ++ [_ % z], _, _, _, by rw [List.length_append, hlen]; rfl, grow _, put _, rfl⟩
 ·obtain ⟨ns, r, mx, o, hlen, hall, rfl, rfl⟩ := hp
  exact ⟨_, rfl, q l ns _ hl (z01 hl _) z02 hlen hall⟩
theorem z3t (x : Int) (ns : List Int) : inV (.int x) (ns.map V.int) = decide (x ∈ ns) := by
 unfold inV
 rw [Bool.eq_iff_iff, List.any_map, List.any_eq_true, decide_eq_true_eq]
 constructor
 ·rintro ⟨y, hy, e⟩
  have e' : (y == x) = true := e
  rw [<- eq_of_beq e']
  exact hy
 ·intro h
  exact ⟨x, h, show (x == x) = true from beq_self_eq_true x⟩
theorem z2Y (ns : List Int) : (ns.map V.int).all z20 = true := by
 rw [List.all_map, List.all_eq_true]
 intro x _
 rfl
theorem y0H {l : List Int} {x : Int} (h : l.Pairwise (· < ·)) (hx : ∀ y ∈ l, y < x) : (l ++ [x]).Pairwise (· < ·) :=
 List.pairwise_append.mpr ⟨h, List.pairwise_singleton _ _, fun a ha b hb => by rw [List.mem_singleton.mp hb]; exact hx a ha⟩
theorem y0I {l : List Int} (h : l.Pairwise (· < ·)) : (l.map fun x => x + 1).Pairwise (· < ·) := by
 rw [List.pairwise_map]
 exact h.imp fun {a b} h => by omega
theorem z8u : ∀ {l : List Int}, l.Pairwise (· ≤ ·) -> l.Nodup -> l.Pairwise (· < ·)
 | [], _, _ => .nil
 | x :: r, h, n => by
  rw [List.pairwise_cons] at h ⊢
  rw [List.nodup_cons] at n
  refine ⟨fun y hy => ?_, z8u h.2 n.2⟩
  have := h.1 y hy
  have : x ≠ y := fun e => n.1 (e ▸ hy)
  omega
def y4a : Sp := fun vs H Q _ => ∃ c m : Int, vs = [.int c, .int m] /\ 0 ≤ m /\ m ≤ 60 /\
 ∀ (l : Addr) (ns : List Int) (H' : Hp), H l = none -> Same H H' -> H' l = some (.lst (ns.map V.int)) -> ns.Pairwise (· < ·) -> (∀ x ∈ ns, 1 ≤ x /\ x ≤ m) -> ns.length ≤ 60 -> Q (.ref l) H'
theorem y4v (M : Bl mg) (F : Fun K "_law_had" "_law_had" z3h f fd) (G_law_row : Cal P w K mg base 1 "_law_row" ["_law_cell", "_law_many", "_law_size"] y0t) : FnOk P w K mg base CX0 2 f fd ["_law_cell", "_law_many"] y4a := by
 have nd := z6Z.nd
 refine F.ok z6Z (fun vs H Q E h => ?_) (fun cdv A outer s H vs Q E hr h => ?_)
 ·obtain ⟨c, m, rfl, _⟩ := h
  rfl
 obtain ⟨c, m, rfl, m0, m1, q⟩ := h
 refine ⟨_, (z04 (z0R (z08 z2s (z0h z0L (pv 0) z06) z06 (z0l _)) (z04 (z0m (i := 2) nd rfl (Or.inr rfl) (z0r G_law_row (hr.mono (by omega)) rfl (z00 (z0h z13 (pv 0) z06) (z00 (pv 1) (z00 z06 z03))))) (z07 (z0o (z1F ["_law_k"] ["_law_flags"] [2] rfl (z0y rfl (by decide +kernel) rfl (by decide +kernel) rfl rfl) (z18 rfl M.range (z00 (pv 1) z03)) (fun _ _ _ _ _ => (z0n (i := 0) (show ((["_law_k"] : List PySem.Str) ++ (["_law_flags"] : List PySem.Str)).Nodup from by decide +kernel) rfl (Or.inl rfl))) (z0C (by decide)) z0e (fun _ _ _ _ _ => (z2W (z08 z2s (z0E (r := rIxL K) z0U (pv 1) (pv 0) (fun _ _ => rfl)) z06 (z0l _)))) (fun _ _ _ _ _ => (z0h z0Z (pv 0) z06)))))) z0q) (z04 (z0m (i := 3) nd rfl (Or.inl rfl) (z1V z03)) (z04 (z0R (z08 z2s (z0h z0L (pv 0) z06) z06 (z0l _)) (z04 (z0m (i := 4) nd rfl (Or.inl rfl) z06) (z04 (z1p PassesOwn.never rfl (z1Z (z0r G_law_row (hr.mono (by omega)) rfl (z00 (z0h z13 (pv 0) z06) (z00 (pv 1) (z00 z06 z03))))) (z0n (i := 5) nd rfl (Or.inl rfl)) (z04 (z0m (i := 4) nd rfl (Or.inl rfl) (z0h z0Z (z0h z0Z (pv 4) z06) (pv 5))) (z07 (z0R (z08 y4i (pv 4) (pv 1) (z0l _)) (z07 (z0A (z3a PySem.F.plainAttrs_list PySem.F.slot_list_append PySem.F.type_list_append z0M (pv 3) (z00 (pv 4) z03)))) z0q)))) (z07 (z0o (pv 3))))) z0q) (z04 (z1p PassesOwn.never rfl (z1Z (z0r G_law_row (hr.mono (by omega)) rfl (z00 (z0h z13 (pv 0) z06) (z00 z06 (z00 (z0h z0Z (pv 1) z06) z03))))) (z0n (i := 6) nd rfl (Or.inl rfl)) (z07 (z0R (PW.pt (z3F (z08 z2U (pv 6) z06 (z0l _)) (z38 (z08 z21 (pv 6) (pv 3) (by with_unfolding_all rfl))))) (z07 (z0A (z3a PySem.F.plainAttrs_list PySem.F.slot_list_append PySem.F.type_list_append z0M (pv 3) (z00 (pv 6) z03)))) z0q))) (z07 (z0o (z0f z6s rfl M.sorted PyProof.Rows.boot_sorted (z00 (pv 3) z03)))))))), ?_⟩
 refine ⟨_, rfl, _, _, rfl, rfl, (by show (0 : Int) < 3; decide), rfl, _, rfl, ?_⟩
 refine ite2 (fun _ => ?_) (fun _ => ?_)
 ·refine ⟨_, rfl, _, _, rfl, rfl, ⟨by decide, by decide⟩, _, rfl, _, m, 2, rfl, m0, by omega, by decide, by decide, fun lf fs H1 nlf s1 e1 len1 all1 => ?_⟩
  refine ⟨_, rfl, _, rfl, by omega, by omega, ?_⟩
  refine z65 (lo := 0) (n := m.toNat) (fun k => decide (fs.getD k.toNat 0 = 1)) (fun k => .int (k + 1)) (by omega) (fun k ys N k0 k1 hN => ?_) ?_
  ·refine ⟨_, rfl, _, rfl, lf, _, _, _, rfl, rfl, SqL.of e1, z6b k0 (by omega), rfl, _, rfl, ?_⟩
   refine ite2 (fun c2 => ?_) (fun c2 => ?_)
   ·have c3 : decide (fs.getD k.toNat 0 = 1) = true := decide_eq_true (V.int.inj (z0H c2))
    rw [if_pos c3] at hN
    exact ⟨_, rfl, _, _, rfl, rfl, hN⟩
   ·have c3 : ¬ decide (fs.getD k.toNat 0 = 1) = true := fun z => c2 (decide_eq_true (congrArg V.int (z0H z)))
    rw [if_neg c3] at hN
    exact hN
  ·intro D hD
   have e : z2z (fun k => decide (fs.getD k.toNat 0 = 1)) (fun k => V.int (k + 1)) (upI 0 m.toNat) = (((upI 0 m.toNat).filter fun k => decide (fs.getD k.toNat 0 = 1)).map fun x => x + 1).map V.int := by
    unfold z2z
    rw [List.map_map]
    rfl
   refine q D (((upI 0 m.toNat).filter fun k => decide (fs.getD k.toNat 0 = 1)).map fun x => x + 1) _ (s1.free hD) (s1.trans (z01 hD _)) ?_ (y0I ((z1Y 0 _).filter _)) (fun x hx => ?_) ?_
   ·rw [z02, e]
   ·obtain ⟨y, hy, rfl⟩ := List.mem_map.mp hx
    have := z1C.mp (List.mem_filter.mp hy).1
    omega
   ·rw [List.length_map]
    have h := List.length_filter_le (fun k : Int => decide (fs.getD k.toNat 0 = 1)) (upI 0 m.toNat)
    rw [z0O] at h
    omega
 ·refine ⟨(by show 0 ≤ sizeLine; decide), fun l hl => ?_⟩
  refine ⟨_, rfl, _, _, rfl, rfl, (by show (0 : Int) < 3; decide), rfl, _, rfl, ?_⟩
  refine ite2 (fun _ => ?_) (fun _ => ?_)
  ·refine ⟨_, rfl, _, _, rfl, rfl, ⟨by decide, by decide⟩, _, rfl, _, m, 15, rfl, m0, by omega, by decide, by decide, fun lf fs H1 nlf s1 e1 len1 all1 => ?_⟩
   have nl : lf ≠ l := fun z => by rw [z, z02] at nlf; cases nlf
   refine ⟨lf, rfl, ⟨_, SqL.of e1⟩, ?_⟩
   refine z2u (xs := fs.map V.int) (fun i σ H' => ∃ (ns : List Int) (x : Int) (o1 o2 o3 : Option V), ns.Pairwise (· < ·) /\ (∀ y ∈ ns, 1 ≤ y /\ y ≤ m /\ y ≤ x) /\ 0 ≤ x /\ ns.length ≤ i /\ H' l = some (.lst (ns.map V.int)) /\ H' lf = some (.lst (fs.map V.int)) /\ Same H H' /\
    σ = [some (.int c), some (.int m), o1, some (.ref l), some (.int x), o2, o3]) ⟨[], 0, _, _, _, .nil, (fun _ h => nomatch h), Int.le_refl 0, Nat.le_refl 0, s1 _ _ z02, e1, (z01 hl _).trans s1, rfl⟩ (fun i σ H' hi hp => ?_) (fun i x σ H' hx hp => ?_) (fun σ H' hp => ?_)
   ·obtain ⟨ns, x, o1, o2, o3, _, _, _, _, _, h2, _⟩ := hp
    exact SqL.of h2
   ·obtain ⟨ns, v, o1, o2, o3, p1, p2, p3, p4, p5, p6, p7, rfl⟩ := hp
    rw [List.getElem?_map] at hx
    cases ef : fs[i]? with
    | none => rw [ef] at hx; cases hx
    | some j =>
     rw [ef] at hx
     cases hx
     have hj := all1 j (List.mem_of_getElem? ef)
     have hi : i < fs.length := (List.getElem?_eq_some_iff.mp ef).1
     refine ⟨_, rfl, _, _, rfl, rfl, _, rfl, _, _, rfl, rfl, ?_⟩
     refine ⟨_, rfl, _, rfl, _, _, rfl, rfl, _, rfl, ?_⟩
     refine ite2 (fun c2 => ?_) (fun c2 => ?_)
     ·have c3 := z0H c2
      refine ⟨_, rfl, .inl ⟨rfl, _, SqL.of p5⟩, _, rfl, l, _, _, rfl, rfl, p5, z7M (n := i) p4 (by omega), ?_⟩
      refine ⟨ns ++ [v + 1 + j], v + 1 + j, _, _, _, y0H p1 fun y hy => by have := p2 y hy; omega, fun y hy => ?_, by omega, by rw [List.length_append, List.length_singleton]; omega, ?_, ?_, z2F p7 hl, rfl⟩
      ·rcases List.mem_append.mp hy with h | h
       ·have := p2 y h; omega
       ·rw [List.mem_singleton.mp h]; omega
      ·rw [z02, List.map_append]; rfl
      ·rw [z0g nl]; exact p6
     ·exact ⟨ns, v + 1 + j, _, _, _, p1, fun y hy => by have := p2 y hy; omega, by omega, by omega, p5, p6, p7, rfl⟩
   ·obtain ⟨ns, x, o1, o2, o3, p1, p2, p3, p4, p5, p6, p7, rfl⟩ := hp
    rw [List.length_map] at p4
    exact ⟨_, rfl, q l ns _ hl p7 p5 p1 (fun y hy => ⟨(p2 y hy).1, (p2 y hy).2.1⟩) (by omega)⟩
  ·refine ⟨_, rfl, _, _, rfl, rfl, ⟨by decide, by decide⟩, _, rfl, _, _, rfl, rfl, _, 4, m + 1, rfl, by decide, by decide, by omega, by omega, fun lf fs H1 nlf s1 e1 len1 all1 => ?_⟩
   have nl : lf ≠ l := fun z => by rw [z, z02] at nlf; cases nlf
   refine ⟨lf, rfl, ⟨_, SqL.of e1⟩, ?_⟩
   refine z2u (xs := fs.map V.int) (fun i σ H' => ∃ (ns : List Int) (o1 o2 o3 o4 : Option V), ns.Nodup /\ (∀ y ∈ ns, 1 ≤ y /\ y ≤ m) /\ ns.length ≤ i /\ H' l = some (.lst (ns.map V.int)) /\ H' lf = some (.lst (fs.map V.int)) /\ Same H H' /\
    σ = [some (.int c), some (.int m), o1, some (.ref l), o2, o3, o4]) ⟨[], _, _, _, _, .nil, (fun _ h => nomatch h), Nat.le_refl 0, s1 _ _ z02, e1, (z01 hl _).trans s1, rfl⟩ (fun i σ H' hi hp => ?_) (fun i x σ H' hx hp => ?_) (fun σ H' hp => ?_)
   ·obtain ⟨ns, o1, o2, o3, o4, _, _, _, _, h2, _⟩ := hp
    exact SqL.of h2
   ·obtain ⟨ns, o1, o2, o3, o4, p1, p2, p4, p5, p6, p7, rfl⟩ := hp
    rw [List.getElem?_map] at hx
    cases ef : fs[i]? with
    | none => rw [ef] at hx; cases hx
    | some j =>
     rw [ef] at hx
     cases hx
     have hj := all1 j (List.mem_of_getElem? ef)
     have hi : i < fs.length := (List.getElem?_eq_some_iff.mp ef).1
     have same : ∃ (ns' : List Int) (o1 o2 o3 o4 : Option V), ns'.Nodup /\ (∀ y ∈ ns', 1 ≤ y /\ y ≤ m) /\ ns'.length ≤ i + 1 /\ H' l = some (.lst (ns'.map V.int)) /\ H' lf = some (.lst (fs.map V.int)) /\ Same H H' /\
       ([some (.int c), some (.int m), o1, some (.ref l), o2, o3, o4] : St) = [some (.int c), some (.int m), o1, some (.ref l), o2, o3, o4] := ⟨ns, o1, o2, o3, o4, p1, p2, by omega, p5, p6, p7, rfl⟩
     refine ⟨_, rfl, _, _, rfl, rfl, _, rfl, ?_⟩
     refine ite2 (fun c2 => ?_) (fun c2 => ?_)
     ·have c3 := z0H c2
      refine ⟨_, rfl, _, rfl, l, _, rfl, .inl (SqL.of p5), rfl, z2Y ns, _, rfl, ?_⟩
      rw [if_pos rfl, z3t]
      refine ite2 (fun c4 => ?_) (fun c4 => ?_)
      ·have c5 : j ∉ ns := fun z => by rw [decide_eq_true z] at c4; exact absurd c4 Bool.false_ne_true
       refine ⟨_, rfl, .inl ⟨rfl, _, SqL.of p5⟩, _, rfl, l, _, _, rfl, rfl, p5, z7M (n := i) p4 (by omega), ?_⟩
       refine ⟨ns ++ [j], _, _, _, _, ?_, fun y hy => ?_, by rw [List.length_append, List.length_singleton]; omega, ?_, ?_, z2F p7 hl, rfl⟩
       ·rw [List.nodup_append]
        exact ⟨p1, List.nodup_cons.mpr ⟨List.not_mem_nil, List.nodup_nil⟩, fun y hy z hz => by rw [List.mem_singleton.mp hz]; exact fun e => c5 (e ▸ hy)⟩
       ·rcases List.mem_append.mp hy with h | h
        ·exact p2 y h
        ·rw [List.mem_singleton.mp h]; omega
       ·rw [z02, List.map_append]; rfl
       ·rw [z0g nl]; exact p6
      ·exact ⟨ns, _, _, _, _, p1, p2, by omega, p5, p6, p7, rfl⟩
     ·refine iteF ?_
      exact ⟨ns, _, _, _, _, p1, p2, by omega, p5, p6, p7, rfl⟩
   ·obtain ⟨ns, o1, o2, o3, o4, p1, p2, p4, p5, p6, p7, rfl⟩ := hp
    rw [List.length_map] at p4
    refine ⟨_, rfl, l, ns, rfl, SqL.of p5, by omega, fun l2 ns2 hl2 perm srt => ?_⟩
    refine q l2 ns2 _ (p7.free hl2) (p7.trans (z01 hl2 _)) z02 (z8u srt (perm.nodup_iff.mpr p1)) (fun x hx => p2 x (perm.mem_iff.mp hx)) ?_
    have := perm.length_eq
    omega
def z1T (ns : List Int) : List Int := (upI 1 60).filter fun x => decide (x ∉ ns) && decide (∃ y ∈ ns, x < y)
theorem z2Z {ns : List Int} {x : Int} : x ∈ z1T ns ↔ (1 ≤ x /\ x < 1 + 60) /\ x ∉ ns /\ ∃ y ∈ ns, x < y := by
 unfold z1T
 rw [List.mem_filter, z1C, Bool.and_eq_true, decide_eq_true_eq, decide_eq_true_eq]
 rfl
theorem z3c (ns : List Int) : (z1T ns).Pairwise (· < ·) := (z1Y 1 60).filter _
theorem z2X (ns : List Int) : (z1T ns).length ≤ 60 := by
 have h := List.length_filter_le (fun x => decide (x ∉ ns) && decide (∃ y ∈ ns, x < y)) (upI 1 60)
 rw [z0O] at h
 exact h
theorem z6O {ns ts : List Int} (h : ∀ x, x ∈ ts ↔ x ∈ ns) : z1T ts = z1T ns :=
 z29 (z3c _) (z3c _) fun x => by
  rw [z2Z, z2Z, h]
  constructor
  ·rintro ⟨a, b, y, hy, c⟩
   exact ⟨a, b, y, (h y).mp hy, c⟩
  ·rintro ⟨a, b, y, hy, c⟩
   exact ⟨a, b, y, (h y).mpr hy, c⟩
theorem y29 {ns : List Int} {m : Int} (hm : m ∈ ns) (hall : ∀ x ∈ ns, 1 ≤ x /\ x ≤ 60) (top : ∀ y ∈ ns, y ≤ m) : (upI 1 (m + 1 - 1).toNat).filter (fun x => !decide (x ∈ ns)) = z1T ns :=
 z29 ((z1Y _ _).filter _) (z3c _) fun x => by
  have hm' := hall m hm
  rw [List.mem_filter, z1C, z2Z, Bool.not_eq_true', decide_eq_false_iff_not]
  constructor
  ·rintro ⟨⟨a, b⟩, c⟩
   refine ⟨by omega, c, m, hm, ?_⟩
   have : x ≠ m := fun e => c (e ▸ hm)
   omega
  ·rintro ⟨a, b, y, hy, c⟩
   have := top y hy
   exact ⟨by omega, b⟩
theorem z6z : z1T [] = [] := by
 refine z29 (z3c _) .nil fun x => ?_
 rw [z2Z]
 constructor
 ·rintro ⟨_, _, y, hy, _⟩
  cases hy
 ·intro h
  cases h
theorem SqI.keep {K : PySem.W.Frag} {H H' : Hp} {a : Addr} {ns : List Int} (e : Same H H') (h : SqI K H a ns) : SqI K H' a ns := by
 rcases h with h | h
 ·exact .inl (e.seq h)
 ·rcases h with (h | ⟨o, h⟩) | h
  ·exact .inr (.inl (.inl (e _ _ h)))
  ·exact .inr (.inl (.inr ⟨o, e _ _ h⟩))
  ·exact .inr (.inr h)
theorem z6L {c : Int -> Bool} {t : Int} : ∀ {l : List Int}, l.Pairwise (· < ·) -> t ∈ l -> c t = true -> (∀ y ∈ l, c y = true -> t ≤ y) -> l.find? c = some t
 | [], _, h, _, _ => by cases h
 | x :: r, p, h, hc, hm => by
  rw [List.pairwise_cons] at p
  rw [List.find?_cons]
  rcases List.mem_cons.mp h with rfl | h
  ·rw [hc]
  ·cases e : c x with
   | true =>
    have h1 := p.1 t h
    have h2 := hm x List.mem_cons_self e
    omega
   | false => exact z6L p.2 h hc fun y hy => hm y (List.mem_cons_of_mem _ hy)
theorem y25 {c : Int -> Bool} {t : Int} : ∀ {l : List Int}, l.Pairwise (· < ·) -> l.find? c = some t -> t ∈ l /\ c t = true /\ ∀ y ∈ l, c y = true -> t ≤ y
 | [], _, h => by cases h
 | x :: r, p, h => by
  rw [List.pairwise_cons] at p
  rw [List.find?_cons] at h
  cases e : c x with
  | true =>
   rw [e] at h
   have h' : x = t := Option.some.inj h
   subst h'
   refine ⟨List.mem_cons_self, e, fun y hy _ => ?_⟩
   rcases List.mem_cons.mp hy with rfl | hy
   ·exact Int.le_refl _
   ·have := p.1 y hy
    omega
  | false =>
   rw [e] at h
   obtain ⟨h1, h2, h3⟩ := y25 p.2 h
   refine ⟨List.mem_cons_of_mem _ h1, h2, fun y hy hc => ?_⟩
   rcases List.mem_cons.mp hy with rfl | hy
   ·rw [e] at hc
    cases hc
   ·exact h3 y hy hc
def z8A (ns : List Int) (n r : Int) (y : Int) : Bool := decide (n < y) && decide (y - r ≤ n) && decide (y ∈ ns)
def z10 (ns : List Int) (n r : Int) : Int := ((upI 1 60).find? (z8A ns n r)).getD 0
theorem z3i {ns : List Int} {n r y : Int} : z8A ns n r y = true ↔ n < y /\ y - r ≤ n /\ y ∈ ns := by
 unfold z8A
 rw [Bool.and_eq_true, Bool.and_eq_true, decide_eq_true_eq, decide_eq_true_eq, decide_eq_true_eq, and_assoc]
theorem z6U {ns ts : List Int} (h : ∀ x, x ∈ ts ↔ x ∈ ns) (n r : Int) : z10 ts n r = z10 ns n r := by
 have e : z8A ts n r = z8A ns n r := by
  funext y
  rw [Bool.eq_iff_iff, z3i, z3i, h]
 unfold z10
 rw [e]
theorem z9y {ns : List Int} {n r t : Int} (hall : ∀ x ∈ ns, 1 ≤ x /\ x ≤ 60) (ht : t ∈ ns) (h1 : n < t) (h2 : t - r ≤ n) (hm : ∀ y ∈ ns, n < y -> y - r ≤ n -> t ≤ y) : z10 ns n r = t := by
 unfold z10
 rw [z6L (z1Y 1 60) (t := t) (z1C.mpr (by have := hall t ht; omega)) (z3i.mpr ⟨h1, h2, ht⟩) fun y _ hy => by
  obtain ⟨a, b, c⟩ := z3i.mp hy
  exact hm y c a b]
 rfl
theorem z52 {ns : List Int} {n r : Int} (h : ∀ y ∈ ns, n < y -> ¬ y - r ≤ n) : z10 ns n r = 0 := by
 unfold z10
 have e : (upI 1 60).find? (z8A ns n r) = none := List.find?_eq_none.mpr fun y _ hy => by
  obtain ⟨a, b, c⟩ := z3i.mp hy
  exact h y c a b
 rw [e]
 rfl
def z66 (K : PySem.W.Frag) : Sp := fun vs H Q _ => ∃ (p : Addr) (ns : List Int) (n r : Int), vs = [.ref p, .int n, .int r] /\ SqL K H p (ns.map V.int) /\ (∀ x ∈ ns, 1 ≤ x /\ x ≤ 60) /\ ns.length ≤ 900 /\ 0 ≤ r /\
 ∀ H', Same H H' -> Q (.int (z10 ns n r)) H'
theorem y0p (M : Bl mg) (F : Fun K "_law_teller" "_law_teller" z22 f fd) : FnOk P w K mg base CX0 1 f fd ["_law_had_here", "_law_number", "_law_reach"] (z66 K) := by
 have nd := z4E.nd
 refine F.ok z4E (fun vs H Q E h => ?_) (fun cdv A outer s H vs Q E hr h => ?_)
 ·obtain ⟨p, ns, n, r, rfl, _⟩ := h
  rfl
 obtain ⟨p, ns, n, r, rfl, hS, hall, hlen, r0, q⟩ := h
 refine ⟨_, (z04 (z4X (i := 3) ["_law_other"] ["_law_number"] [1] rfl nd rfl (Or.inl rfl) (z0y rfl (by decide +kernel) rfl (by decide +kernel) rfl rfl) (z1Z (pv 0)) (fun _ _ _ _ _ => (z0n (i := 0) (show ((["_law_other"] : List PySem.Str) ++ (["_law_number"] : List PySem.Str)).Nodup from by decide +kernel) rfl (Or.inl rfl))) (z0C (by decide)) z0e (fun _ _ _ _ _ => (z2W (z08 z2U (pv 0) (pv 1) (z0l _)))) (fun _ _ _ _ _ => (pv 0))) (z04 (z0R (PW.pt (z5S (z08 (y4K hr.units0) (pv 3) (z1V z03) (z0l _)) (z3D (z08 z2U (z0h z37 (z0f (z88 rfl) rfl M.min PyProof.Rows.boot_min (z00 (pv 3) z03)) (pv 1)) (pv 2) (z0l _))))) (z07 (z0o z06)) z0q) (z07 (z0o (z0f (z88 rfl) rfl M.min PyProof.Rows.boot_min (z00 (pv 3) z03)))))), ?_⟩
 refine ⟨_, rfl, p, rfl, ⟨_, hS⟩, ?_⟩
 refine z8v (ns := ns) (fun y => decide (n < y)) (fun y => .int y) hS (by omega) (fun y ys N hy hN => ?_) (fun D hD => ?_)
 ·refine ⟨_, rfl, _, rfl, _, _, rfl, rfl, _, rfl, ?_⟩
  refine ite2 (fun c => ?_) (fun c => ?_)
  ·rw [if_pos c] at hN
   exact ⟨_, rfl, hN⟩
  ·rw [if_neg c] at hN
   exact hN
 have eD : upd H D (.lst (z2z (fun y => decide (n < y)) (fun y => V.int y) ns)) D = some (.lst ((ns.filter fun y => decide (n < y)).map V.int)) := z02
 have sD := z01 hD (.lst (z2z (fun y => decide (n < y)) (fun y => V.int y) ns))
 generalize upd H D (.lst (z2z (fun y => decide (n < y)) (fun y => V.int y) ns)) = H1 at eD sD
 have mem : ∀ y, y ∈ ns.filter (fun y => decide (n < y)) ↔ y ∈ ns /\ n < y := fun y => by rw [List.mem_filter, decide_eq_true_eq]
 generalize ns.filter (fun y => decide (n < y)) = ab at eD mem
 refine ⟨_, rfl, (by show 0 ≤ sizeLine; decide), fun e0 he0 => ⟨D, e0, _, rfl, rfl, SqL.of (z01 he0 _ _ _ eD), SqL.of z02, _, rfl, ?_⟩⟩
 have s2 := sD.trans (z01 he0 (.lst []))
 cases ab with
 | nil =>
  refine iteT ?_
  have e : z10 ns n r = 0 := z52 fun y hy h1 _ => by
   have := (mem y).mpr ⟨hy, h1⟩
   cases this
  exact (by rw [<- e]; exact q _ s2)
 | cons y0 yr =>
  refine iteF ?_
  have eL := z01 he0 (.lst []) _ _ eD
  generalize upd H1 e0 (.lst []) = H2 at s2 eL
  refine ⟨_, rfl, D, _, rfl, .inl (SqL.of eL), by simp, fun m hm hl => ⟨_, rfl, _, _, rfl, rfl, _, rfl, _, _, rfl, rfl, _, rfl, ?_⟩⟩
  have hm' := (mem m).mp hm
  refine ite2 (fun c => ?_) (fun c => ?_)
  ·have c' : r < m - n := z0H c
   have e : z10 ns n r = 0 := z52 fun y hy h1 h2 => by
    have := hl y ((mem y).mpr ⟨hy, h1⟩)
    omega
   exact (by rw [<- e]; exact q _ s2)
  ·have c' : ¬ r < m - n := z3E c
   refine ⟨_, rfl, D, _, rfl, .inl (SqL.of eL), by simp, fun m2 hm2 hl2 => ?_⟩
   have h2 := (mem m2).mp hm2
   have e : z10 ns n r = m2 := z9y hall h2.1 h2.2 (by have := hl2 m hm; omega) fun y hy h1 _ => hl2 y ((mem y).mpr ⟨hy, h1⟩)
   exact (by rw [<- e]; exact q _ s2)
def y1a (K : PySem.W.Frag) : Sp := fun vs H Q _ => ∃ (r : Addr) (ns : List Int) (c : Int), vs = [.ref r, .int c] /\ SqL K H r (ns.map V.int) /\ ns.length ≤ 60 /\
 ∀ (l : Addr) (ts : List Int) (H' : Hp), H l = none -> Same H H' -> H' l = some (.lst (ts.map V.int)) -> (∀ x, x ∈ ts ↔ x ∈ ns) -> ts.length ≤ 120 -> Q (.ref l) H'
theorem y0Y (ts : List Int) (i : Nat) (x : Int) : (ts.map V.int).take i ++ V.int x :: (ts.map V.int).drop i = (ts.take i ++ x :: ts.drop i).map V.int := by
 rw [List.map_append, List.map_cons, List.map_take, List.map_drop]
theorem z9b {ts : List Int} {i : Nat} {x y : Int} : y ∈ ts.take i ++ x :: ts.drop i ↔ y = x \/ y ∈ ts := by
 rw [List.mem_append, List.mem_cons]
 constructor
 ·rintro (h | h | h)
  ·exact .inr (List.mem_of_mem_take h)
  ·exact .inl h
  ·exact .inr (List.mem_of_mem_drop h)
 ·rintro (h | h)
  ·exact .inr (.inl h)
  ·rw [<- List.take_append_drop i ts, List.mem_append] at h
   rcases h with h | h
   ·exact .inl h
   ·exact .inr (.inr h)
theorem y1b {ts : List Int} {i : Nat} {x : Int} (h : i ≤ ts.length) : (ts.take i ++ x :: ts.drop i).length = ts.length + 1 := by
 rw [List.length_append, List.length_cons, List.length_take, List.length_drop]
 omega
theorem y47 (M : Bl mg) (F : Fun K "_law_shuffled" "_law_shuffled" z1x f fd) (G_law_row : Cal P w K mg base 1 "_law_row" ["_law_cell", "_law_many", "_law_size"] y0t) : FnOk P w K mg base CX0 2 f fd ["_law_row_here", "_law_cell"] (y1a K) := by
 have nd := z3C.nd
 refine F.ok z3C (fun vs H Q E h => ?_) (fun cdv A outer s H vs Q E hr h => ?_)
 ·obtain ⟨r, ns, c, rfl, _⟩ := h
  rfl
 obtain ⟨r, ns, c, rfl, hS, hn, q⟩ := h
 refine ⟨_, (z04 (z0m (i := 2) nd rfl (Or.inl rfl) (z0r G_law_row (hr.mono (by omega)) rfl (z00 (pv 1) (z00 (z0f z0a rfl M.len PySem.boot_len (z00 (pv 0) z03)) (z00 z06 z03))))) (z04 (z0m (i := 3) nd rfl (Or.inl rfl) (z1V z03)) (z04 (z1p PassesOwn.never rfl (z18 rfl M.range (z00 (z0f z0a rfl M.len PySem.boot_len (z00 (pv 0) z03)) z03)) (z0n (i := 4) nd rfl (Or.inl rfl)) (z04 (z0A (z3a PySem.F.plainAttrs_list PySem.F.slot_list_insert PySem.F.type_list_insert z8j (pv 3) (z00 (z0h z0L (z0E z0U (pv 2) (pv 4) (fun _ _ => rfl)) (z0h z0Z (pv 4) z06)) (z00 (z0E z0U (pv 0) (pv 4) (fun _ _ => rfl)) z03)))) (z07 (z0R (z08 y3M (z0E z0U (pv 2) (pv 4) (fun _ _ => rfl)) z06 (z0l _)) (z07 (z0A (z3a PySem.F.plainAttrs_list PySem.F.slot_list_insert PySem.F.type_list_insert z8j (pv 3) (z00 (z0h z0L (z0E z0U (pv 2) (pv 4) (fun _ _ => rfl)) (z0h z0Z (pv 4) z06)) (z00 (z0E z0U (pv 0) (pv 4) (fun _ _ => rfl)) z03))))) z0q)))) (z07 (z0o (pv 3)))))), ?_⟩
 have hl0 : (ns.map V.int).length = ns.length := List.length_map _
 refine ⟨_, rfl, _, rfl, r, _, rfl, .inl hS, _, _, _, rfl, by omega, by omega, by decide, by decide, fun lf fs H1 nlf s1 e1 len1 all1 => ?_⟩
 have len1' : fs.length = ns.length := by rw [len1, hl0]; rfl
 refine ⟨(by show 0 ≤ sizeLine; decide), fun l hl => ?_⟩
 have nl : lf ≠ l := z0p e1 hl
 refine ⟨_, rfl, r, _, rfl, .inl ((s1.trans (z01 hl _)).seq hS), _, rfl, by omega, by omega, ?_⟩
 refine z1j (lo := 0) (n := (((ns.map V.int).length : Nat) : Int).toNat) (fun i σ H' => ∃ (ts : List Int) (o : Option V), (∀ x, x ∈ ts ↔ x ∈ ns.take i) /\ i ≤ ts.length /\ ts.length ≤ 2 * i /\ H' = upd H1 l (.lst (ts.map V.int)) /\
  σ = [some (.ref r), some (.int c), some (.ref lf), some (.ref l), o]) ⟨[], _, fun x => Iff.rfl, Nat.le_refl 0, Nat.le_refl 0, rfl, rfl⟩ (fun i σ H' hi hp => ?_) (fun σ H' hp => ?_)
 ·obtain ⟨ts, o, hm, hlo, hhi, rfl, rfl⟩ := hp
  have hi' : i < ns.length := by
   have : (((ns.map V.int).length : Nat) : Int).toNat = ns.length := by rw [hl0]; rfl
   omega
  have ei : (0 : Int) + (i : Int) = (i : Int) := Int.zero_add _
  have hif : (i : Int) < (fs.length : Int) := by omega
  have gs : ∀ o : HO, Same H1 (upd H1 l o) := fun o => z01 hl o
  have fget : ∀ {o : HO}, SqL K (upd H1 l o) lf (fs.map V.int) := fun {o} => SqL.of (gs o _ _ e1)
  have rget : ∀ {o : HO}, SqL K (upd H1 l o) r (ns.map V.int) := fun {o} => (s1.trans (gs o)).seq hS
  have atf : atI (fs.map V.int) ((0 : Int) + (i : Int)) = some (.int (fs.getD i 0)) := by
   rw [ei]
   exact z6b (ns := fs) (k := (i : Int)) (by omega) hif
  have atn : atI (ns.map V.int) ((0 : Int) + (i : Int)) = some (.int (ns.getD i 0)) := by
   rw [ei]
   exact z6b (ns := ns) (k := (i : Int)) (by omega) (by omega)
  have hget : ns[i]? = some (ns.getD i 0) := by
   rw [List.getD_eq_getElem?_getD, List.getElem?_eq_getElem hi']
   rfl
  have hmem : ∀ x, x ∈ ns.take (i + 1) ↔ x = ns.getD i 0 \/ x ∈ ns.take i := fun x => by
   rw [z0w hget, List.mem_append, List.mem_singleton]
   exact Or.comm
  have b1 : 0 ≤ fs.getD i 0 % ((0 : Int) + (i : Int) + 1) /\ fs.getD i 0 % ((0 : Int) + (i : Int) + 1) ≤ (i : Int) := by
   have := Int.emod_nonneg (fs.getD i 0) (show (0 : Int) + (i : Int) + 1 ≠ 0 by omega)
   have := Int.emod_lt_of_pos (fs.getD i 0) (show (0 : Int) < (0 : Int) + (i : Int) + 1 by omega)
   omega
  have b2 : 0 ≤ fs.getD i 0 % ((0 : Int) + (i : Int) + 2) /\ fs.getD i 0 % ((0 : Int) + (i : Int) + 2) ≤ (i : Int) + 1 := by
   have := Int.emod_nonneg (fs.getD i 0) (show (0 : Int) + (i : Int) + 2 ≠ 0 by omega)
   have := Int.emod_lt_of_pos (fs.getD i 0) (show (0 : Int) < (0 : Int) + (i : Int) + 2 by omega)
   omega
  have hlen : (ts.map V.int).length = ts.length := List.length_map _
  refine ⟨_, rfl, .inl ⟨rfl, _, SqL.of z02⟩, _, rfl, _, rfl, lf, _, _, _, rfl, rfl, fget, atf, _, rfl, _, _, rfl, rfl, _, _, rfl, rfl, (by omega), _, rfl, _, rfl, r, _, _, _, rfl, rfl, rget, atn, l, _, _, _, rfl, rfl, z02, b1.1, by omega, z0i (by omega), ?_⟩
  rw [z4f, y0Y]
  have hlen2 := y1b (ts := ts) (i := (fs.getD i 0 % ((0 : Int) + (i : Int) + 1)).toNat) (x := ns.getD i 0) (by omega)
  refine ⟨_, rfl, _, rfl, lf, _, _, _, rfl, rfl, fget, atf, _, _, rfl, rfl, _, rfl, ?_⟩
  refine ite2 (fun _ => ?_) (fun _ => ?_)
  ·refine ⟨_, rfl, .inl ⟨rfl, _, SqL.of z02⟩, _, rfl, _, rfl, lf, _, _, _, rfl, rfl, fget, atf, _, rfl, _, _, rfl, rfl, _, _, rfl, rfl, (by omega), _, rfl, _, rfl, r, _, _, _, rfl, rfl, rget, atn, l, _, _, _, rfl, rfl, z02, b2.1, ?_, ?_, ?_⟩
   ·rw [List.length_map, hlen2]
    omega
   ·rw [List.length_map, hlen2]
    exact z0i (by omega)
   ·rw [z4f, y0Y]
    have hlen3 := y1b (ts := ts.take (fs.getD i 0 % ((0 : Int) + (i : Int) + 1)).toNat ++ ns.getD i 0 :: ts.drop (fs.getD i 0 % ((0 : Int) + (i : Int) + 1)).toNat) (i := (fs.getD i 0 % ((0 : Int) + (i : Int) + 2)).toNat) (x := ns.getD i 0) (by rw [hlen2]; omega)
    refine ⟨_, _, fun x => ?_, ?_, ?_, rfl, rfl⟩
    ·rw [z9b, z9b, hmem, hm]
     constructor
     ·rintro (h | h | h)
      ·exact .inl h
      ·exact .inl h
      ·exact .inr h
     ·rintro (h | h)
      ·exact .inl h
      ·exact .inr (.inr h)
    ·rw [hlen3, hlen2]
     omega
    ·rw [hlen3, hlen2]
     omega
  ·refine ⟨_, _, fun x => ?_, ?_, ?_, rfl, rfl⟩
   ·rw [z9b, hmem, hm]
   ·rw [hlen2]
    omega
   ·rw [hlen2]
    omega
 ·obtain ⟨ts, o, hm, hlo, hhi, rfl, rfl⟩ := hp
  have e : (((ns.map V.int).length : Nat) : Int).toNat = ns.length := by rw [hl0]; rfl
  rw [e] at hm hhi
  rw [List.take_length] at hm
  exact ⟨_, rfl, q l ts _ (s1.free hl) (s1.trans (z01 hl _)) z02 hm (by omega)⟩
def sgL : List Nat := (("mM ~aA0.xX_9" : Str).cps.toList)
theorem z8Z : sgL.length = 12 := by decide +kernel
theorem y1U : sgL.Nodup := by decide +kernel
abbrev farS : Str := "a stranger of twenty"
abbrev z7G : Str := "a long stem of them"
structure Nms (nm : List Str) : Prop where
 nd : nm.Nodup
 lo : ∀ x ∈ nm, 1 ≤ x.length
 hi : ∀ x ∈ nm, x.length ≤ 20
 far : farS ∉ nm
theorem z8S (a b : Str) : (a ++ b).cps.toList = a.cps.toList ++ b.cps.toList := by
 show (a.cps ++ b.cps).toList = _
 simp
theorem y4e (c : Nat) : (⟨#[c]⟩ : Str).cps.toList = [c] := rfl
theorem z3J {α β : Type} {g : α -> β} : ∀ {l : List α}, l.Nodup -> (∀ x ∈ l, ∀ y ∈ l, g x = g y -> x = y) -> (l.map g).Nodup
 | [], _, _ => List.nodup_nil
 | x :: r, n, h => by
  rw [List.nodup_cons] at n
  rw [List.map_cons, List.nodup_cons]
  refine ⟨fun hm => ?_, z3J n.2 fun a ha b hb => h a (List.mem_cons_of_mem _ ha) b (List.mem_cons_of_mem _ hb)⟩
  obtain ⟨y, hy, e⟩ := List.mem_map.mp hm
  have := h x List.mem_cons_self y (List.mem_cons_of_mem _ hy) e.symm
  exact n.1 (this ▸ hy)
theorem z8g (lo : Int) (n : Nat) : (upI lo n).Nodup := (z1Y lo n).imp fun {a b} h => by omega
theorem z9J {t a b : Int} (ht : 0 ≤ t) (ht2 : t < 12) (a0 : 0 ≤ a) (a1 : a < 12) (b0 : 0 ≤ b) (b1 : b < 12) (h : (t + a) % 12 = (t + b) % 12) : a = b := by omega
def repN (c : Nat) (t k : Int) : Str := repS ⟨#[c]⟩ (1 + (t + k) % 12).toNat
theorem z4J (c : Nat) (t k : Int) : (repN c t k).length = (1 + (t + k) % 12).toNat := by
 unfold repN
 rw [<- z1G]
 show ((List.replicate _ [c]).flatten.toArray).toList.length = _
 simp
theorem y43 (c : Nat) {t : Int} (h0 : 0 ≤ t) (h1 : t < 12) {m : Nat} (hm : m ≤ 12) : Nms ((upI 0 m).map (repN c t)) where
 nd := z3J (z8g _ _) fun a ha b hb e => by
  have ha' := z1C.mp ha
  have hb' := z1C.mp hb
  have e2 := congrArg Str.length e
  rw [z4J, z4J] at e2
  exact z9J h0 h1 (by omega) (by omega) (by omega) (by omega) (by omega)
 lo := fun x hx => by
  obtain ⟨k, hk, rfl⟩ := List.mem_map.mp hx
  rw [z4J]
  omega
 hi := fun x hx => by
  obtain ⟨k, hk, rfl⟩ := List.mem_map.mp hx
  rw [z4J]
  omega
 far := fun hx => by
  obtain ⟨k, hk, e⟩ := List.mem_map.mp hx
  have e2 := congrArg Str.length e
  rw [z4J] at e2
  have e3 : farS.length = 20 := by decide +kernel
  omega
def z7z (st : Str) (sp : Int) (t k : Int) : Str := cutS st none (some sp) ++ ⟨#[sgL.getD ((t + k) % 12).toNat 0]⟩ ++ cutS st (some sp) none
theorem z9F {n d : Nat} {v : Int} (h0 : 0 ≤ v) (h1 : v ≤ n) : HT.sIx n d (some v) = v.toNat := by
 show (if v < 0 then (v + (n : Int)).toNat else min v.toNat n) = _
 rw [if_neg (by omega), Nat.min_eq_left (by omega)]
theorem y3c (st : Str) {sp : Int} (h0 : 0 ≤ sp) (h1 : sp ≤ st.length) : (cutS st none (some sp)).cps.toList = st.cps.toList.take sp.toNat := by
 show ((st.cps.toList.drop 0).take (HT.sIx st.length st.length (some sp) - 0)) = _
 rw [z9F h0 h1, List.drop_zero, Nat.sub_zero]
theorem y3e (st : Str) {sp : Int} (h0 : 0 ≤ sp) (h1 : sp ≤ st.length) : (cutS st (some sp) none).cps.toList = st.cps.toList.drop sp.toNat := by
 show ((st.cps.toList.drop (HT.sIx st.length 0 (some sp))).take (st.length - HT.sIx st.length 0 (some sp))) = _
 rw [z9F h0 h1, List.take_of_length_le]
 rw [List.length_drop, z1G]
 exact Nat.le_refl _
theorem z4t (st : Str) {sp : Int} (h0 : 0 ≤ sp) (h1 : sp ≤ st.length) (t k : Int) : (z7z st sp t k).cps.toList = st.cps.toList.take sp.toNat ++ sgL.getD ((t + k) % 12).toNat 0 :: st.cps.toList.drop sp.toNat := by
 unfold z7z
 rw [z8S, z8S, y3c st h0 h1, y3e st h0 h1, y4e, List.append_assoc]
 rfl
theorem z6f (st : Str) {sp : Int} (h0 : 0 ≤ sp) (h1 : sp ≤ st.length) (t k : Int) : (z7z st sp t k).length = st.length + 1 := by
 rw [<- z1G, z4t st h0 h1, List.length_append, List.length_cons, List.length_take, List.length_drop, z1G]
 omega
theorem y2m : ∀ s < 20, ∀ i < 12, z7G.cps.toList.take s ++ sgL.getD i 0 :: z7G.cps.toList.drop s ≠ farS.cps.toList := by decide +kernel
theorem y2y {st : Str} (hst : st = "" \/ st = "row" \/ st = z7G) {sp : Int} (h0 : 0 ≤ sp) (h1 : sp ≤ st.length) {t : Int} (t0 : 0 ≤ t) (t1 : t < 12) {m : Nat} (hm : m ≤ 12) : Nms ((upI 0 m).map (z7z st sp t)) where
 nd := z3J (z8g _ _) fun a ha b hb e => by
  have ha' := z1C.mp ha
  have hb' := z1C.mp hb
  have e2 : (z7z st sp t a).cps.toList = (z7z st sp t b).cps.toList := congrArg (fun z : Str => z.cps.toList) e
  rw [z4t st h0 h1, z4t st h0 h1] at e2
  have e3 := List.append_cancel_left e2
  have e4 : sgL.getD ((t + a) % 12).toNat 0 = sgL.getD ((t + b) % 12).toNat 0 := (List.cons.inj e3).1
  have l1 : ((t + a) % 12).toNat < sgL.length := by rw [z8Z]; omega
  have l2 : ((t + b) % 12).toNat < sgL.length := by rw [z8Z]; omega
  rw [List.getD_eq_getElem?_getD, List.getElem?_eq_getElem l1, List.getD_eq_getElem?_getD, List.getElem?_eq_getElem l2] at e4
  have e5 := (List.getElem_inj y1U).mp e4
  exact z9J t0 t1 (by omega) (by omega) (by omega) (by omega) (by omega)
 lo := fun x hx => by
  obtain ⟨k, hk, rfl⟩ := List.mem_map.mp hx
  rw [z6f st h0 h1]
  omega
 hi := fun x hx => by
  obtain ⟨k, hk, rfl⟩ := List.mem_map.mp hx
  rw [z6f st h0 h1]
  have l1 : ("" : Str).length = 0 := by decide +kernel
  have l2 : ("row" : Str).length = 3 := by decide +kernel
  have l3 : z7G.length = 19 := by decide +kernel
  rcases hst with rfl | rfl | rfl <;> omega
 far := fun hx => by
  obtain ⟨k, hk, e⟩ := List.mem_map.mp hx
  have l1 : ("" : Str).length = 0 := by decide +kernel
  have l2 : ("row" : Str).length = 3 := by decide +kernel
  have l3 : z7G.length = 19 := by decide +kernel
  have l4 : farS.length = 20 := by decide +kernel
  have e2 := congrArg Str.length e
  rw [z6f st h0 h1] at e2
  rcases hst with rfl | rfl | rfl
  ·omega
  ·omega
  ·have e3 : (z7z z7G sp t k).cps.toList = farS.cps.toList := congrArg (fun z : Str => z.cps.toList) e
   rw [z4t z7G h0 h1] at e3
   exact y2m sp.toNat (by omega) ((t + k) % 12).toNat (by omega) e3
def z8Y : Sp := fun vs H Q _ => ∃ c m : Int, vs = [.int c, .int m] /\ 0 ≤ m /\ m ≤ 12 /\
 ∀ (l : Addr) (nm : List Str) (H' : Hp), H l = none -> Same H H' -> H' l = some (.lst (nm.map V.str)) -> nm.length = m.toNat -> Nms nm -> Q (.ref l) H'
theorem z9P {f : Int -> V} (l : List Int) : z2z (fun _ => true) f l = l.map f := by
 unfold z2z
 rw [List.filter_eq_self.mpr fun _ _ => rfl]
theorem y2Y (M : Bl mg) (F : Fun K "_law_named" "_law_named" z2t f fd) : FnOk P w K mg base CX0 1 f fd ["_law_cell", "_law_many"] z8Y := by
 have nd := z5d.nd
 refine F.ok z5d (fun vs H Q E h => ?_) (fun cdv A outer s H vs Q E hr h => ?_)
 ·obtain ⟨c, m, rfl, _⟩ := h
  rfl
 obtain ⟨c, m, rfl, m0, m1, q⟩ := h
 refine ⟨_, (z04 (z0m (i := 2) nd rfl (Or.inr rfl) z2b) (z04 (z0m (i := 3) nd rfl (Or.inr rfl) (z0h z0L (z0h z13 (pv 0) z06) z06)) (z04 (z0R (z08 z2s (z0h z0L (pv 0) z06) z06 (z0l _)) (z07 (z0o (z1F ["_law_k"] ["_law_cell", "_law_turn"] [0, 3] rfl (z0y rfl (by decide +kernel) rfl (by decide +kernel) rfl rfl) (z18 rfl M.range (z00 (pv 1) z03)) (fun _ _ _ _ _ => (z0n (i := 0) (show ((["_law_k"] : List PySem.Str) ++ (["_law_cell", "_law_turn"] : List PySem.Str)).Nodup from by decide +kernel) rfl (Or.inl rfl))) (z0C (by decide)) z0e (fun _ _ _ _ _ => z2D) (fun _ _ _ _ _ => (z0h y0a (z0E y2e z2b (z0h z0L (z0h z13 (pv 1) z06) z06) (fun _ _ => rfl)) (z0h z0Z z06 (z0h z0L (z0h z0Z (pv 2) (pv 0)) z06))))))) z0q) (z04 (z0m (i := 4) nd rfl (Or.inr rfl) (z0E z0U (z1V (z00 z2b (z00 z2b (z00 z2b z03)))) (z0h z0L (pv 0) z06) (fun _ _ => rfl))) (z04 (z0m (i := 5) nd rfl (Or.inr rfl) (z0h z0L (z0h z13 (pv 0) z06) (z0h z0Z (z0f z8t rfl M.len PySem.boot_len (z00 (pv 4) z03)) z06))) (z07 (z0o (z1F ["_law_k"] ["_law_stem", "_law_signs", "_law_spot", "_law_turn"] [4, 2, 5, 3] rfl (z0y rfl (by decide +kernel) rfl (by decide +kernel) rfl rfl) (z18 rfl M.range (z00 (pv 1) z03)) (fun _ _ _ _ _ => (z0n (i := 0) (show ((["_law_k"] : List PySem.Str) ++ (["_law_stem", "_law_signs", "_law_spot", "_law_turn"] : List PySem.Str)).Nodup from by decide +kernel) rfl (Or.inl rfl))) (z0C (by decide)) z0e (fun _ _ _ _ _ => z2D) (fun _ _ _ _ _ => (z0h z6K (z0h z6K (z1X y3b (pv 1) z2B (z2A (pv 3))) (z0E y2e (pv 2) (z0h z0L (z0h z0Z (pv 4) (pv 0)) z06) (fun _ _ => rfl))) (z1X y3b (pv 1) (z2A (pv 3)) z2B))))))))))), ?_⟩
 have t0 : 0 ≤ c / 4 % 12 := Int.emod_nonneg _ (by decide)
 have t1 : c / 4 % 12 < 12 := Int.emod_lt_of_pos _ (by decide)
 refine ⟨_, rfl, _, _, rfl, rfl, ⟨by decide, by decide⟩, _, _, rfl, rfl, (by show (0 : Int) < 12; decide), ?_⟩
 refine ⟨_, rfl, _, _, rfl, rfl, (by show (0 : Int) < 4; decide), rfl, _, rfl, ?_⟩
 refine ite2 (fun _ => ?_) (fun cn => ?_)
 ·obtain ⟨sg, hsg⟩ : ∃ sg, atI (("a ~" : Str).cps.toList) (c / 48 % 3) = some sg := by
   have h0 : 0 ≤ c / 48 % 3 := Int.emod_nonneg _ (by decide)
   have h1 : c / 48 % 3 < 3 := Int.emod_lt_of_pos _ (by decide)
   have ek : c / 48 % 3 = (((c / 48 % 3).toNat : Nat) : Int) := by omega
   have hl : (("a ~" : Str).cps.toList).length = 3 := by decide +kernel
   rw [ek]
   exact ⟨_, z1k (List.getElem?_eq_getElem (by rw [hl]; omega))⟩
  refine ⟨_, rfl, _, rfl, by omega, by omega, ?_⟩
  refine z65 (lo := 0) (n := m.toNat) (fun _ => true) (fun k => .str (repN sg (c / 4 % 12) k)) (by omega) (fun k ys N k0 k1 hN => ?_) ?_
  ·refine ⟨_, rfl, _, _, rfl, rfl, ⟨by decide, by decide⟩, _, _, rfl, rfl, (by show (0 : Int) < 3; decide), _, _, sg, rfl, rfl, (by decide +kernel), hsg, ?_⟩
   refine ⟨_, rfl, _, rfl, _, _, rfl, rfl, _, _, rfl, rfl, (by show (0 : Int) < 12; decide), _, _, rfl, rfl, _, _, rfl, rfl, ?_, ?_, ?_, ?_⟩
   ·have := Int.emod_nonneg (c / 4 % 12 + k) (show (12 : Int) ≠ 0 by decide)
    omega
   ·have := Int.emod_lt_of_pos (c / 4 % 12 + k) (show (0 : Int) < 12 by decide)
    omega
   ·show 1 ≤ 1000
    decide
   ·exact hN
  ·intro D hD
   rw [z9P]
   refine q D ((upI 0 m.toNat).map (repN sg (c / 4 % 12))) _ hD (z01 hD _) ?_ (by rw [List.length_map, z0O]) (y43 sg t0 t1 (by omega))
   rw [z02, List.map_map]
   rfl
 ·have c4 : c % 4 = 0 \/ c % 4 = 1 \/ c % 4 = 2 := by
   have h1 := Int.emod_nonneg c (show (4 : Int) ≠ 0 by decide)
   have h2 := Int.emod_lt_of_pos c (show (0 : Int) < 4 by decide)
   have h3 : c % 4 ≠ 3 := fun e => cn (decide_eq_true (congrArg V.int e))
   omega
  obtain ⟨st, hat, hst⟩ : ∃ st : Str, atI [V.str "", V.str "row", V.str "a long stem of them"] (c % 4) = some (.str st) /\ (st = "" \/ st = "row" \/ st = z7G) := by
   rcases c4 with e | e | e <;> rw [e]
   ·exact ⟨_, rfl, .inl rfl⟩
   ·exact ⟨_, rfl, .inr (.inl rfl)⟩
   ·exact ⟨_, rfl, .inr (.inr rfl)⟩
  have stl : st.length ≤ 19 := by
   have l1 : ("" : Str).length = 0 := by decide +kernel
   have l2 : ("row" : Str).length = 3 := by decide +kernel
   have l3 : z7G.length = 19 := by decide +kernel
   rcases hst with rfl | rfl | rfl <;> omega
  refine ⟨(by show 3 ≤ sizeLine; decide), fun p hp => ⟨_, rfl, _, _, rfl, rfl, (by show (0 : Int) < 4; decide), p, _, _, _, rfl, rfl, SqL.of z02, hat, ?_⟩⟩
  refine ⟨_, rfl, _, _, rfl, rfl, ⟨by decide, by decide⟩, _, rfl, st, rfl, z7I (by omega), _, _, rfl, rfl, _, _, rfl, rfl, by omega, ?_⟩
  have s0 : 0 ≤ c / 48 % ((st.length : Int) + 1) := Int.emod_nonneg _ (by omega)
  have s1 : c / 48 % ((st.length : Int) + 1) ≤ (st.length : Int) := by
   have := Int.emod_lt_of_pos (c / 48) (show (0 : Int) < (st.length : Int) + 1 by omega)
   omega
  refine ⟨_, rfl, _, rfl, by omega, by omega, ?_⟩
  refine z65 (lo := 0) (n := m.toNat) (fun _ => true) (fun k => .str (z7z st (c / 48 % ((st.length : Int) + 1)) (c / 4 % 12) k)) (by omega) (fun k ys N k0 k1 hN => ?_) ?_
  ·have i0 := Int.emod_nonneg (c / 4 % 12 + k) (show (12 : Int) ≠ 0 by decide)
   have i1 := Int.emod_lt_of_pos (c / 4 % 12 + k) (show (0 : Int) < 12 by decide)
   have hsg : atI (("mM ~aA0.xX_9" : Str).cps.toList) ((c / 4 % 12 + k) % 12) = some (sgL.getD ((c / 4 % 12 + k) % 12).toNat 0) := by
    have ek : (c / 4 % 12 + k) % 12 = ((((c / 4 % 12 + k) % 12).toNat : Nat) : Int) := by omega
    have l1 : ((c / 4 % 12 + k) % 12).toNat < sgL.length := by rw [z8Z]; omega
    have q1 : atI sgL ((((c / 4 % 12 + k) % 12).toNat : Nat) : Int) = some (sgL.getD ((c / 4 % 12 + k) % 12).toNat 0) := z1k (by
     rw [List.getD_eq_getElem?_getD, List.getElem?_eq_getElem l1]
     rfl)
    rw [<- ek] at q1
    exact q1
   have la : (cutS st none (some (c / 48 % ((st.length : Int) + 1)))).length ≤ 19 := by
    rw [<- z1G, y3c st s0 s1, List.length_take, z1G]
    omega
   have lb : (cutS st (some (c / 48 % ((st.length : Int) + 1))) none).length ≤ 19 := by
    rw [<- z1G, y3e st s0 s1, List.length_drop, z1G]
    omega
   have lc : ∀ (x : Nat), (⟨#[x]⟩ : Str).length = 1 := fun _ => rfl
   have lab : ∀ (x : Nat), (cutS st none (some (c / 48 % ((st.length : Int) + 1))) ++ (⟨#[x]⟩ : Str)).length ≤ 20 := fun x => by
    rw [<- z1G, z8S, List.length_append, z1G, z1G, lc]
    omega
   refine ⟨_, rfl, _, rfl, _, rfl, st, rfl, z7I (by omega), ?_⟩
   refine ⟨_, rfl, _, rfl, _, rfl, _, _, rfl, rfl, _, _, rfl, rfl, (by show (0 : Int) < 12; decide), _, _, _, rfl, rfl, (by decide +kernel), hsg, ?_⟩
   refine ⟨_, _, rfl, rfl, z7I (by rw [lc]; omega), ?_⟩
   refine ⟨_, rfl, _, rfl, _, rfl, st, rfl, z7I (by omega), _, _, rfl, rfl, z7I (by have := lab (sgL.getD ((c / 4 % 12 + k) % 12).toNat 0); omega), ?_⟩
   exact hN
  ·intro D hD
   rw [z9P]
   refine q D ((upI 0 m.toNat).map (z7z st (c / 48 % ((st.length : Int) + 1)) (c / 4 % 12))) _ ((z01 hp _).free hD) ((z01 hp _).trans (z01 hD _)) ?_ (by rw [List.length_map, z0O]) (y2y hst s0 s1 t0 t1 (by omega))
   rw [z02, List.map_map]
   rfl
def z62 : Sp := fun vs H Q _ => ∃ t : Int, vs = [.int t] /\ 0 ≤ t /\ t < 1000000 /\ Q (.int (2 ^ t.toNat)) H
theorem y00 (M : Bl mg) (F : Fun K "_law_doubled" "_law_doubled" z1J f fd) : FnOk P w K mg base CX0 1 f fd ["_law_times"] z62 := by
 have nd := z46.nd
 refine F.ok z46 (fun vs H Q E h => ?_) (fun cdv A outer s H vs Q E hr h => ?_)
 ·obtain ⟨t, rfl, _⟩ := h
  rfl
 obtain ⟨t, rfl, t0, t1, q⟩ := h
 refine ⟨_, (z04 (z0m (i := 1) nd rfl (Or.inl rfl) z06) (z04 (z1p PassesOwn.never rfl (z18 rfl M.range (z00 (pv 0) z03)) (z0n (i := 2) nd rfl (Or.inl rfl)) (z07 (z0m (i := 1) nd rfl (Or.inl rfl) (z0h z44 (pv 1) z06)))) (z07 (z0o (pv 1))))), ?_⟩
 refine ⟨_, rfl, _, rfl, by omega, by omega, ?_⟩
 refine z1j (lo := 0) (n := t.toNat) (fun i σ H' => H' = H /\ ∃ o, σ = [some (.int t), some (.int (2 ^ i)), o]) ⟨rfl, _, rfl⟩ (fun i σ H' hi hp => ?_) (fun σ H' hp => ?_)
 ·obtain ⟨rfl, o, rfl⟩ := hp
  refine ⟨_, rfl, _, _, rfl, rfl, .inr ⟨by decide, by decide⟩, rfl, some (.int (0 + (i : Int))), ?_⟩
  rw [Int.pow_succ]
  rfl
 ·obtain ⟨rfl, o, rfl⟩ := hp
  exact ⟨_, rfl, q⟩
def z8i (H : Hp) (l : Addr) (v : V) (s : List Str) : Prop := ∃ a, v = .ref a /\ a ≠ l /\ H a = some (.lst (s.map V.str))
theorem z8i.keep {H H' : Hp} (g : Same H H') {l : Addr} {v : V} {s : List Str} (h : z8i H l v s) : z8i H' l v s := let ⟨a, e, n, q⟩ := h; ⟨a, e, n, g _ _ q⟩
theorem z8i.over {H : Hp} {l : Addr} {o : HO} {v : V} {s : List Str} (h : z8i H l v s) : z8i (upd H l o) l v s := let ⟨a, e, n, q⟩ := h; ⟨a, e, n, by rw [z0g n]; exact q⟩
abbrev z2e (H : Hp) (l : Addr) : List V -> List (List Str) -> Prop := Paired (z8i H l)
theorem z2e.keep {H H' : Hp} (g : Same H H') {l : Addr} : ∀ {xs : List V} {ss : List (List Str)}, z2e H l xs ss -> z2e H' l xs ss
 | _, _, .nil => .nil
 | _, _, .cons r t => .cons (r.keep g) (z2e.keep g t)
theorem z2e.over {H : Hp} {l : Addr} {o : HO} : ∀ {xs : List V} {ss : List (List Str)}, z2e H l xs ss -> z2e (upd H l o) l xs ss
 | _, _, .nil => .nil
 | _, _, .cons r t => .cons r.over (z2e.over t)
theorem z2e.len {H : Hp} {l : Addr} : ∀ {xs : List V} {ss : List (List Str)}, z2e H l xs ss -> xs.length = ss.length
 | _, _, .nil => rfl
 | _, _, .cons _ t => by rw [List.length_cons, List.length_cons, z2e.len t]
theorem z2e.get {H : Hp} {l : Addr} : ∀ {xs : List V} {ss : List (List Str)}, z2e H l xs ss -> ∀ (i : Nat) (s : List Str), ss[i]? = some s -> ∃ v, xs[i]? = some v /\ z8i H l v s
 | _, _, .nil, i, s, e => by simp at e
 | _, _, .cons r t, 0, s, e => by
  simp at e
  subst e
  exact ⟨_, rfl, r⟩
 | _, _, .cons r t, i + 1, s, e => by
  obtain ⟨v, h1, h2⟩ := z2e.get t i s (by simpa using e)
  exact ⟨v, by simpa using h1, h2⟩
theorem z4I (ns : List Str) : (ns.map V.str).all z20 = true := by
 rw [List.all_map, List.all_eq_true]
 intro x _
 rfl
theorem y3D {ns : List Str} {k : Int} (h0 : 0 ≤ k) (h : k < (ns.length : Int)) : ∃ x, ns[k.toNat]? = some x /\ atI (ns.map V.str) k = some (.str x) := by
 have hk : k.toNat < ns.length := by omega
 have ek : k = ((k.toNat : Nat) : Int) := by omega
 have q : atI (ns.map V.str) ((k.toNat : Nat) : Int) = some (.str ns[k.toNat]) := z1k (by rw [List.getElem?_map, List.getElem?_eq_getElem hk]; rfl)
 rw [<- ek] at q
 exact ⟨_, List.getElem?_eq_getElem hk, q⟩
def y0Q (K : PySem.W.Frag) : Sp := fun vs H Q _ => ∃ (ln : Addr) (nm : List Str) (c m : Int), vs = [.ref ln, .int c, .int m] /\ SqL K H ln (nm.map V.str) /\ 1 ≤ nm.length /\ nm.length ≤ 12 /\ 0 ≤ m /\ m ≤ 900 /\
 ∀ (l : Addr) (xs : List V) (ss : List (List Str)) (H' : Hp), H l = none -> Same H H' -> H' l = some (.lst xs) -> z2e H' l xs ss -> ss.length = m.toNat -> (∀ s ∈ ss, s.Sublist nm) -> Q (.ref l) H'
theorem two_pow_le {n : Nat} (h : n ≤ 12) : (1 : Int) ≤ 2 ^ n /\ (2 : Int) ^ n ≤ 4096 := by
 have : ∀ k ≤ 12, (1 : Int) ≤ 2 ^ k /\ (2 : Int) ^ k ≤ 4096 := by decide
 exact this n h
theorem y3U (M : Bl mg) (F : Fun K "_law_sets" "_law_sets" z2L f fd) (G_law_row : Cal P w K mg base 1 "_law_row" ["_law_cell", "_law_many", "_law_size"] y0t) (G_law_doubled : Cal P w K mg base 1 "_law_doubled" ["_law_times"] z62) :
  FnOk P w K mg base CX0 2 f fd ["_law_names_here", "_law_cell", "_law_many"] (y0Q K) := by
 have nd := z5N.nd
 refine F.ok z5N (fun vs H Q E h => ?_) (fun cdv A outer s H vs Q E hr h => ?_)
 ·obtain ⟨ln, nm, c, m, rfl, _⟩ := h
  rfl
 obtain ⟨ln, nm, c, m, rfl, hS, n1, n2, m0, m1, q⟩ := h
 refine ⟨_, (z04 (z0m (i := 3) nd rfl (Or.inl rfl) (z0r G_law_doubled (hr.mono (by omega)) rfl (z00 (z0f z0a rfl M.len PySem.boot_len (z00 (pv 0) z03)) z03))) (z04 (z0m (i := 4) nd rfl (Or.inl rfl) (z1V z03)) (z04 (z1p PassesOwn.never rfl (z1Z (z0r G_law_row (hr.mono (by omega)) rfl (z00 (pv 1) (z00 (pv 2) (z00 (z0h z44 z06 (pv 3)) z03))))) (z0n (i := 5) nd rfl (Or.inl rfl)) (z04 (z0m (i := 6) nd rfl (Or.inl rfl) (z0h z0L (pv 5) (pv 3))) (z04 (z0m (i := 7) nd rfl (Or.inl rfl) (z1V z03)) (z04 (z1p PassesOwn.never rfl (z1Z (pv 0)) (z0n (i := 8) nd rfl (Or.inl rfl)) (z04 (z0R (z08 z2s (z0h z0L (pv 6) z06) z06 (z0l _)) (z07 (z0A (z3a PySem.F.plainAttrs_list PySem.F.slot_list_append PySem.F.type_list_append z0M (pv 7) (z00 (pv 8) z03)))) z0q) (z07 (z0m (i := 6) nd rfl (Or.inl rfl) (z0h z13 (pv 6) z06))))) (z04 (z0R (z08 z2s (z0h z13 (pv 5) (pv 3)) z06 (z0l _)) (z07 (z0m (i := 7) nd rfl (Or.inl rfl) (z1V (z00 (z0E z0U (pv 0) (z0h z0L (pv 5) (z0f z0a rfl M.len PySem.boot_len (z00 (pv 0) z03))) (fun _ _ => rfl)) z03)))) z0q) (z04 (z0R (z08 z2s (z0h z13 (pv 5) (pv 3)) z06 (z0l _)) (z07 (z0m (i := 7) nd rfl (Or.inl rfl) (z1V z03))) z0q) (z04 (z0R (z08 z2s (z0h z13 (pv 5) (pv 3)) z06 (z0l _)) (z07 (z0m (i := 7) nd rfl (Or.inl rfl) (z0x z3P rfl M.list PyProof.Rows.boot_list (z00 (pv 0) z03)))) z0q) (z07 (z0A (z3a PySem.F.plainAttrs_list PySem.F.slot_list_append PySem.F.type_list_append z0M (pv 4) (z00 (pv 7) z03))))))))))) (z07 (z0o (pv 4)))))), ?_⟩
 have hl0 : (nm.map V.str).length = nm.length := List.length_map _
 refine ⟨_, rfl, ln, _, rfl, .inl hS, _, rfl, by omega, by omega, ?_⟩
 have pw := two_pow_le n2
 rw [hl0]
 have ez : (2 : Int) ^ (((nm.length : Nat) : Int).toNat) = 2 ^ nm.length := rfl
 rw [ez]
 generalize hz : (2 : Int) ^ nm.length = z at pw ⊢
 refine ⟨(by show 0 ≤ sizeLine; decide), fun l hl => ?_⟩
 refine ⟨_, rfl, _, rfl, _, rfl, _, _, rfl, rfl, .inl ⟨by decide, by decide⟩, c, m, 4 * z, rfl, m0, m1, by omega, by omega, fun lf fs H1 nlf s1 e1 len1 all1 => ?_⟩
 have sl := z01 (H := H) hl (.lst [])
 have nl : lf ≠ l := fun e => by rw [e, z02] at nlf; cases nlf
 have el1 : H1 l = some (.lst []) := s1 _ _ z02
 refine ⟨lf, rfl, ⟨_, SqL.of e1⟩, ?_⟩
 refine z2u (xs := fs.map V.int) (fun i σ H' => ∃ (xs : List V) (ss : List (List Str)) (o1 o2 o3 o4 : Option V), H' l = some (.lst xs) /\ z2e H' l xs ss /\ ss.length = i /\ (∀ s ∈ ss, s.Sublist nm) /\ H' lf = some (.lst (fs.map V.int)) /\ Same H H' /\
  σ = [some (.ref ln), some (.int c), some (.int m), some (.int z), some (.ref l), o1, o2, o3, o4]) ⟨[], [], _, _, _, _, el1, .nil, rfl, (fun _ h => nomatch h), e1, sl.trans s1, rfl⟩ (fun i σ H' hi hp => ?_) (fun i x σ H' hx hp => ?_) (fun σ H' hp => ?_)
 ·obtain ⟨xs, ss, o1, o2, o3, o4, _, _, _, _, h2, _⟩ := hp
  exact SqL.of h2
 ·obtain ⟨xs, ss, o1, o2, o3, o4, p1, p2, p3, p4, p5, p6, rfl⟩ := hp
  rw [List.getElem?_map] at hx
  cases ef : fs[i]? with
  | none => rw [ef] at hx; cases hx
  | some g =>
   rw [ef] at hx
   cases hx
   have hg := all1 g (List.mem_of_getElem? ef)
   have hi : i < fs.length := (List.getElem?_eq_some_iff.mp ef).1
   have lx := p2.len
   have cd : CDiv g z := ⟨by omega, by omega⟩
   refine ⟨_, rfl, _, rfl, _, _, rfl, rfl, (by omega), ?_⟩
   refine ⟨(by show 0 ≤ sizeLine; decide), fun a ha => ?_⟩
   have nal : a ≠ l := fun e => by rw [e, p1] at ha; cases ha
   have naf : a ≠ lf := fun e => by rw [e, p5] at ha; cases ha
   refine ⟨_, rfl, ln, rfl, ⟨_, (p6.trans (z01 ha _)).seq hS⟩, ?_⟩
   refine z2u (xs := nm.map V.str) (fun k σ H2 => ∃ (ch : List Str) (mk : Int) (o4 : Option V), ch.Sublist (nm.take k) /\ H2 = upd H' a (.lst (ch.map V.str)) /\
    σ = [some (.ref ln), some (.int c), some (.int m), some (.int z), some (.ref l), some (.int g), some (.int mk), some (.ref a), o4]) ⟨[], _, _, List.Sublist.refl _, rfl, rfl⟩ (fun k σ H2 hk hp => ?_) (fun k y σ H2 hy hp => ?_) (fun σ H2 hp => ?_)
   ·obtain ⟨ch, mk, o4, _, rfl, _⟩ := hp
    exact (p6.trans (z01 ha _)).seq hS
   ·obtain ⟨ch, mk, o4, hch, rfl, rfl⟩ := hp
    rw [List.getElem?_map] at hy
    cases en : nm[k]? with
    | none => rw [en] at hy; cases hy
    | some nk =>
     rw [en] at hy
     cases hy
     have tk := z0w en
     have hcl : ch.length ≤ 12 := by
      have := hch.length_le
      rw [List.length_take] at this
      omega
     refine ⟨_, rfl, _, _, rfl, rfl, (by show (0 : Int) < 2; decide), rfl, _, rfl, ?_⟩
     refine ite2 (fun _ => ?_) (fun _ => ?_)
     ·refine ⟨_, rfl, .inl ⟨rfl, _, SqL.of z02⟩, _, rfl, a, _, _, rfl, rfl, z02, z0i (by rw [List.length_map]; omega), ?_⟩
      refine ⟨_, rfl, _, _, rfl, rfl, ⟨by decide, by decide⟩, ch ++ [nk], _, some (.str nk), ?_, ?_, rfl⟩
      ·rw [tk]
       exact hch.append (List.Sublist.refl _)
      ·rw [z4f, List.map_append]
       rfl
     ·refine ⟨_, rfl, _, _, rfl, rfl, ⟨by decide, by decide⟩, ch, _, some (.str nk), ?_, rfl, rfl⟩
      rw [tk]
      exact hch.trans (List.sublist_append_left _ _)
   ·obtain ⟨ch, mk, o4, hch, rfl, rfl⟩ := hp
    rw [List.length_map, List.take_length] at hch
    -- what stands behind the three ifs: a list at some address, its names in order
    have fin : ∀ (b : Addr) (cs : List Str) (H3 : Hp) (o2 o4 : Option V), cs.Sublist nm -> b ≠ l -> H3 b = some (.lst (cs.map V.str)) -> Same (upd H' a (.lst (ch.map V.str))) H3 ->
      ∃ (xs' : List V) (ss' : List (List Str)) (o1' o2' o3' o4' : Option V), upd H3 l (.lst (xs ++ [.ref b])) l = some (.lst xs') /\ z2e (upd H3 l (.lst (xs ++ [.ref b]))) l xs' ss' /\ ss'.length = i + 1 /\ (∀ s ∈ ss', s.Sublist nm) /\
       upd H3 l (.lst (xs ++ [.ref b])) lf = some (.lst (fs.map V.int)) /\ Same H (upd H3 l (.lst (xs ++ [.ref b]))) /\
       ([some (.ref ln), some (.int c), some (.int m), some (.int z), some (.ref l), some (.int g), o2, some (.ref b), o4] : St) = [some (.ref ln), some (.int c), some (.int m), some (.int z), some (.ref l), o1', o2', o3', o4'] := by
     intro b cs H3 o2 o4 hcs hb hb3 g3
     have g4 : Same H' H3 := (z01 ha _).trans g3
     refine ⟨_, ss ++ [cs], _, _, _, _, z02, ?_, by rw [List.length_append, p3]; rfl, fun s' hs' => ?_, ?_, z2F (p6.trans g4) hl, rfl⟩
     ·exact Paired.snoc (p2.keep g4).over ⟨b, rfl, hb, by rw [z0g hb]; exact hb3⟩
     ·rcases List.mem_append.mp hs' with h | h
      ·exact p4 s' h
      ·rw [List.mem_singleton.mp h]
       exact hcs
     ·rw [z0g nl]
      exact g4 _ _ p5
    have el : ∀ {H3 : Hp}, Same (upd H' a (.lst (ch.map V.str))) H3 -> H3 l = some (.lst xs) := fun {H3} g3 => g3 _ _ ((z01 ha _) _ _ p1)
    have app : ∀ {H3 : Hp}, Same (upd H' a (.lst (ch.map V.str))) H3 -> xs.length < sizeLine := fun _ => z0i (by omega)
    -- first if
    refine ⟨_, rfl, _, rfl, _, _, rfl, rfl, cd, rfl, _, rfl, ?_⟩
    refine ite2 (fun d1 => ?_) (fun d1 => ?_)
    ·obtain ⟨x1, hx1, ax1⟩ := y3D (ns := nm) (k := g % (((nm.map V.str).length : Nat) : Int)) (Int.emod_nonneg _ (by omega)) (by rw [hl0]; exact Int.emod_lt_of_pos _ (by omega))
     have q1 : g / z = 1 := V.int.inj (z0H d1)
     refine ⟨_, rfl, _, rfl, _, rfl, ln, _, rfl, .inl ((p6.trans (z01 ha _)).seq hS), _, _, rfl, rfl, (by rw [hl0]; omega), ln, _, _, _, rfl, rfl, (p6.trans (z01 ha _)).seq hS, ax1, (by show 1 ≤ sizeLine; decide), fun b1 hb1 => ?_⟩
     have g1 := z01 hb1 (.lst [.str x1])
     have sub1 : [x1].Sublist nm := List.singleton_sublist.mpr (List.mem_of_getElem? hx1)
     refine ⟨_, rfl, _, rfl, _, _, rfl, rfl, cd, rfl, _, rfl, ?_⟩
     refine ite2 (fun d => absurd (show g / z = 2 from V.int.inj (z0H d)) (by omega)) (fun _ => ⟨_, rfl, _, rfl, _, _, rfl, rfl, cd, rfl, _, rfl, ?_⟩)
     refine ite2 (fun d => absurd (show g / z = 3 from V.int.inj (z0H d)) (by omega)) (fun _ => ?_)
     refine ⟨_, rfl, .inl ⟨rfl, _, SqL.of (el g1)⟩, _, rfl, l, _, _, rfl, rfl, el g1, app g1, ?_⟩
     exact fin b1 [x1] _ _ _ sub1 (fun e => by rw [e, (z01 ha (.lst (ch.map V.str))) _ _ p1] at hb1; cases hb1) z02 g1
    ·refine ⟨_, rfl, _, rfl, _, _, rfl, rfl, cd, rfl, _, rfl, ?_⟩
     refine ite2 (fun d2 => ?_) (fun d2 => ?_)
     ·have q2 : g / z = 2 := V.int.inj (z0H d2)
      refine ⟨(by show 0 ≤ sizeLine; decide), fun b1 hb1 => ?_⟩
      have g1 := z01 hb1 (.lst [])
      refine ⟨_, rfl, _, rfl, _, _, rfl, rfl, cd, rfl, _, rfl, ?_⟩
      refine ite2 (fun d => absurd (show g / z = 3 from V.int.inj (z0H d)) (by omega)) (fun _ => ?_)
      refine ⟨_, rfl, .inl ⟨rfl, _, SqL.of (el g1)⟩, _, rfl, l, _, _, rfl, rfl, el g1, app g1, ?_⟩
      exact fin b1 [] _ _ _ (List.nil_sublist _) (fun e => by rw [e, (z01 ha (.lst (ch.map V.str))) _ _ p1] at hb1; cases hb1) z02 g1
     ·refine ⟨_, rfl, _, rfl, _, _, rfl, rfl, cd, rfl, _, rfl, ?_⟩
      refine ite2 (fun d3 => ?_) (fun d3 => ?_)
      ·refine ⟨_, rfl, ln, _, rfl, .inl ((p6.trans (z01 ha _)).seq hS), fun b1 hb1 => ?_⟩
       have g1 := z01 hb1 (.lst (nm.map V.str))
       refine ⟨_, rfl, .inl ⟨rfl, _, SqL.of (el g1)⟩, _, rfl, l, _, _, rfl, rfl, el g1, app g1, ?_⟩
       exact fin b1 nm _ _ _ (List.Sublist.refl _) (fun e => by rw [e, (z01 ha (.lst (ch.map V.str))) _ _ p1] at hb1; cases hb1) z02 g1
      ·refine ⟨_, rfl, .inl ⟨rfl, _, SqL.of (el (Same.refl _))⟩, _, rfl, l, _, _, rfl, rfl, el (Same.refl _), app (Same.refl _), ?_⟩
       exact fin a ch _ _ _ hch nal z02 (Same.refl _)
 ·obtain ⟨xs, ss, o1, o2, o3, o4, p1, p2, p3, p4, p5, p6, rfl⟩ := hp
  rw [List.length_map] at p3
  exact ⟨_, rfl, q l xs ss _ hl p6 p1 p2 (by rw [p3, len1]) p4⟩
abbrev Row := List (Str × Int)
def z7R (p : Str × Int) : DV := .tup [.str p.1, .int p.2]
def rowD (r : Row) : DV := .tup (r.map z7R)
theorem y1F {H : Hp} {a : Addr} {x : Str} {z : Int} (h : H a = some (.tup [.str x, .int z])) : Tell H (z7R (x, z)) (.ref a) := z0D h (by show 2 ≤ 1000000; decide) (.cons (z3Y x) (.cons (z0F z) .nil))
theorem z8H {xs : List V} : ∀ ys, HO.lst xs ≠ .tup ys := fun _ e => by cases e
def z94 : Sp := fun vs H Q _ => ∃ g p : Int, vs = [.int g, .int p] /\ ∀ r, 0 ≤ r -> r ≤ 1000000 -> Q (.int r) H
theorem y2s (F : Fun K "_law_value" "_law_value" z2m f fd) : FnOk P w K mg base CX0 1 f fd ["_law_figure", "_law_place"] z94 := by
 have nd := z5m.nd
 refine F.ok z5m (fun vs H Q E h => ?_) (fun cdv A outer s H vs Q E hr h => ?_)
 ·obtain ⟨g, p, rfl, _⟩ := h
  rfl
 obtain ⟨g, p, rfl, q⟩ := h
 refine ⟨_, (z04 (z0R (z08 z2s (z0h z13 (pv 0) z06) z06 (z0l _)) (z07 (z0o (z0h z0L (z0h z0Z (pv 0) (z0h z44 z06 (pv 1))) z06))) z0q) (z04 (z0R (z08 z2s (z0h z13 (pv 0) z06) z06 (z0l _)) (z07 (z0o (z0h z44 z06 (z0h z0L (z0h z0Z (pv 0) (pv 1)) z06)))) z0q) (z07 (z0o (z0h z0L (z0h z0Z (pv 0) (pv 1)) z06))))), ?_⟩
 refine ⟨_, rfl, _, _, rfl, rfl, ⟨by decide, by decide⟩, rfl, _, rfl, ?_⟩
 refine ite2 (fun _ => ?_) (fun _ => ?_)
 ·refine ⟨_, rfl, _, rfl, _, _, rfl, rfl, .inl ⟨by decide, by decide⟩, _, _, rfl, rfl, _, _, rfl, rfl, (by show (0 : Int) < 1000001; decide), ?_⟩
  have h1 := Int.emod_nonneg (g + 7 * p) (show (1000001 : Int) ≠ 0 by decide)
  have h2 := Int.emod_lt_of_pos (g + 7 * p) (show (0 : Int) < 1000001 by decide)
  exact q _ h1 (by omega)
 ·refine ⟨_, rfl, _, _, rfl, rfl, ⟨by decide, by decide⟩, rfl, _, rfl, ?_⟩
  have h1 := Int.emod_nonneg (g + p) (show (2 : Int) ≠ 0 by decide)
  have h2 := Int.emod_lt_of_pos (g + p) (show (0 : Int) < 2 by decide)
  refine ite2 (fun _ => ?_) (fun _ => ?_)
  ·refine ⟨_, rfl, _, rfl, _, _, rfl, rfl, _, _, rfl, rfl, (by show (0 : Int) < 2; decide), _, _, rfl, rfl, .inl ⟨by decide, by decide⟩, ?_⟩
   exact q _ (by omega) (by omega)
  ·refine ⟨_, rfl, _, rfl, _, _, rfl, rfl, _, _, rfl, rfl, (by show (0 : Int) < 2; decide), ?_⟩
   exact q _ h1 (by omega)
structure Rws (nm : List Str) (rows : List Row) : Prop where
 sub : ∀ r ∈ rows, (r.map Prod.fst).Sublist nm
 val : ∀ r ∈ rows, ∀ p ∈ r, 0 ≤ p.2 /\ p.2 ≤ 1000000
def z7K : Sp := fun vs H Q _ => ∃ (l : Addr) (xs : List V) (ss : List (List Str)) (c : Int), vs = [.ref l, .int c] /\ H l = some (.lst xs) /\ z2e H l xs ss /\ ss.length ≤ 900 /\ (∀ s ∈ ss, s.length ≤ 12) /\
 ∀ (lr : Addr) (us : List V) (rows : List Row) (H' : Hp), H lr = none -> Same H H' -> H' lr = some (.lst us) -> z09 H' (rows.map rowD) us -> rows.map (fun r => r.map Prod.fst) = ss -> (∀ r ∈ rows, ∀ p ∈ r, 0 ≤ p.2 /\ p.2 ≤ 1000000) -> Q (.ref lr) H'
theorem y22 (M : Bl mg) (F : Fun K "_law_valued" "_law_valued" z23 f fd) (G_law_row : Cal P w K mg base 1 "_law_row" ["_law_cell", "_law_many", "_law_size"] y0t) (G_law_value : Cal P w K mg base 1 "_law_value" ["_law_figure", "_law_place"] z94) :
  FnOk P w K mg base CX0 2 f fd ["_law_sets_here", "_law_cell"] z7K := by
 have nd := z4v.nd
 refine F.ok z4v (fun vs H Q E h => ?_) (fun cdv A outer s H vs Q E hr h => ?_)
 ·obtain ⟨l, xs, ss, c, rfl, _⟩ := h
  rfl
 obtain ⟨l, xs, ss, c, rfl, hL, hSs, n0, n1, q⟩ := h
 refine ⟨_, (z04 (z0m (i := 2) nd rfl (Or.inl rfl) (z0r G_law_row (hr.mono (by omega)) rfl (z00 (pv 1) (z00 (z0f z0a rfl M.len PySem.boot_len (z00 (pv 0) z03)) (z00 z06 z03))))) (z04 (z0m (i := 3) nd rfl (Or.inl rfl) (z1V z03)) (z04 (z1p PassesOwn.never rfl (z18 rfl M.range (z00 (z0f z0a rfl M.len PySem.boot_len (z00 (pv 0) z03)) z03)) (z0n (i := 4) nd rfl (Or.inl rfl)) (z04 (z0m (i := 5) nd rfl (Or.inl rfl) (z1V z03)) (z04 (z1p PassesOwn.never rfl (z18 rfl M.range (z00 (z0f z0a rfl M.len PySem.boot_len (z00 (z0E z0U (pv 0) (pv 4) (fun _ _ => rfl)) z03)) z03)) (z0n (i := 6) nd rfl (Or.inl rfl)) (z07 (z0A (z3a PySem.F.plainAttrs_list PySem.F.slot_list_append PySem.F.type_list_append z0M (pv 5) (z00 (z11 (z00 (z0E z0U (z0E z0U (pv 0) (pv 4) (fun _ _ => rfl)) (pv 6) (fun _ _ => rfl)) (z00 (z0r G_law_value (hr.mono (by omega)) rfl (z00 (z0E z0U (pv 2) (pv 4) (fun _ _ => rfl)) (z00 (pv 6) z03))) z03))) z03))))) (z07 (z0A (z3a PySem.F.plainAttrs_list PySem.F.slot_list_append PySem.F.type_list_append z0M (pv 3) (z00 (z0x z0u rfl M.tuple PyProof.Rows.boot_tuple (z00 (pv 5) z03)) z03))))))) (z07 (z0o (pv 3)))))), ?_⟩
 have hl0 := hSs.len
 refine ⟨_, rfl, _, rfl, l, _, rfl, .inl (SqL.of hL), _, _, _, rfl, by omega, by omega, by decide, by decide, fun lf fs H1 nlf s1 e1 len1 all1 => ?_⟩
 have len1' : fs.length = ss.length := by rw [len1, hl0]; rfl
 refine ⟨(by show 0 ≤ sizeLine; decide), fun lr hlr => ?_⟩
 have nr : lf ≠ lr := z0p e1 hlr
 have nlr0 : H lr = none := s1.free hlr
 refine ⟨_, rfl, l, _, rfl, .inl (SqL.of ((s1.trans (z01 hlr _)) _ _ hL)), _, rfl, by omega, by omega, ?_⟩
 refine z1j (lo := 0) (n := ((xs.length : Nat) : Int).toNat) (fun i σ H' => ∃ (us : List V) (rows : List Row) (o1 o2 o3 : Option V), H' lr = some (.lst us) /\ z09 H' (rows.map rowD) us /\ rows.map (fun r => r.map Prod.fst) = ss.take i /\ (∀ r ∈ rows, ∀ p ∈ r, 0 ≤ p.2 /\ p.2 ≤ 1000000) /\ Same H1 H' /\
  σ = [some (.ref l), some (.int c), some (.ref lf), some (.ref lr), o1, o2, o3]) ⟨[], [], _, _, _, z02, .nil, rfl, (fun _ h => nomatch h), z01 hlr _, rfl⟩ (fun i σ H' hi hp => ?_) (fun σ H' hp => ?_)
 ·obtain ⟨us, rows, o1, o2, o3, p1, p2, p3, p4, p5, rfl⟩ := hp
  have hi' : i < ss.length := by
   have : ((xs.length : Nat) : Int).toNat = xs.length := rfl
   omega
  have ei : (0 : Int) + (i : Int) = (i : Int) := Int.zero_add _
  have es : ss[i]? = some ss[i] := List.getElem?_eq_getElem hi'
  generalize ss[i] = sI at es
  have hsI := n1 sI (List.mem_of_getElem? es)
  obtain ⟨v, hv, a, rfl, na, ha⟩ := hSs.get i sI es
  have lus := p2.length
  rw [List.length_map] at lus
  have lrows : rows.length = i := by
   have := congrArg List.length p3
   rw [List.length_map, List.length_take] at this
   omega
  have atv : atI xs ((0 : Int) + (i : Int)) = some (.ref a) := by rw [ei]; exact z1k hv
  have gl : ∀ {H2 : Hp}, Same H' H2 -> H2 l = some (.lst xs) /\ H2 a = some (.lst (sI.map V.str)) /\ H2 lf = some (.lst (fs.map V.int)) := fun {H2} g => ⟨(s1.trans (p5.trans g)) _ _ hL, (s1.trans (p5.trans g)) _ _ ha, (p5.trans g) _ _ e1⟩
  refine ⟨(by show 0 ≤ sizeLine; decide), fun lo hlo => ?_⟩
  have go := z01 (H := H') hlo (.lst [])
  refine ⟨_, rfl, _, rfl, l, _, _, _, rfl, rfl, SqL.of (gl go).1, atv, a, _, rfl, .inl (SqL.of (gl go).2.1), _, rfl, by omega, by rw [List.length_map]; omega, ?_⟩
  have hls : (sI.map V.str).length = sI.length := List.length_map _
  refine z1j (lo := 0) (n := (((sI.map V.str).length : Nat) : Int).toNat) (fun j σ H2 => ∃ (zs : List V) (row : Row) (o3 : Option V), H2 lo = some (.lst zs) /\ z09 H2 (row.map z7R) zs /\ row.map Prod.fst = sI.take j /\ (∀ p ∈ row, 0 ≤ p.2 /\ p.2 ≤ 1000000) /\ Same H' H2 /\
   σ = [some (.ref l), some (.int c), some (.ref lf), some (.ref lr), some (.int (0 + (i : Int))), some (.ref lo), o3]) ⟨[], [], _, z02, .nil, rfl, (fun _ h => nomatch h), go, rfl⟩ (fun j σ H2 hj hp => ?_) (fun σ H2 hp => ?_)
  ·obtain ⟨zs, row, o3, r1, r2, r3, r4, r5, rfl⟩ := hp
   have hj' : j < sI.length := by
    have : (((sI.map V.str).length : Nat) : Int).toNat = sI.length := by rw [hls]; rfl
    omega
   have ej : (0 : Int) + (j : Int) = (j : Int) := Int.zero_add _
   have ex : sI[j]? = some sI[j] := List.getElem?_eq_getElem hj'
   generalize sI[j] = x at ex
   have atx : atI (sI.map V.str) ((0 : Int) + (j : Int)) = some (.str x) := by
    rw [ej]
    exact z1k (by rw [List.getElem?_map, ex]; rfl)
   have atf : atI (fs.map V.int) ((0 : Int) + (i : Int)) = some (.int (fs.getD i 0)) := by
    rw [ei]
    exact z6b (ns := fs) (k := (i : Int)) (by omega) (by omega)
   have lrow : row.length = j := by
    have := congrArg List.length r3
    rw [List.length_map, List.length_take] at this
    omega
   have lz := r2.length
   rw [List.length_map] at lz
   refine ⟨_, rfl, .inl ⟨rfl, _, SqL.of r1⟩, _, rfl, _, rfl, l, _, _, _, rfl, rfl, SqL.of (gl r5).1, atv, _, rfl, a, _, _, _, rfl, rfl, SqL.of (gl r5).2.1, atx, ?_⟩
   refine ⟨_, rfl, _, rfl, lf, _, _, _, rfl, rfl, SqL.of (gl r5).2.2, atf, _, rfl, _, _, rfl, fun z z0 z1 => ⟨(by show 2 ≤ sizeLine; decide), fun t ht => ?_⟩⟩
   have gt := z01 (H := H2) ht (.tup [.str x, .int z])
   refine ⟨lo, zs, _, rfl, rfl, gt _ _ r1, z0i (by omega), ?_⟩
   refine ⟨_, row ++ [(x, z)], some (.int (0 + (j : Int))), z02, ?_, ?_, fun p hp => ?_, z2F (r5.trans gt) hlo, rfl⟩
   ·rw [List.map_append]
    exact z09.over (gt _ _ r1) z8H _ _ (z09.snoc (z09.keep gt _ _ r2) (y1F z02))
   ·rw [List.map_append, r3, z0w ex]
    rfl
   ·rcases List.mem_append.mp hp with h | h
    ·exact r4 p h
    ·rw [List.mem_singleton.mp h]
     exact ⟨z0, z1⟩
  ·obtain ⟨zs, row, o3, r1, r2, r3, r4, r5, rfl⟩ := hp
   have er : (((sI.map V.str).length : Nat) : Int).toNat = sI.length := by rw [hls]; rfl
   rw [er, List.take_length] at r3
   have lrow : row.length ≤ 12 := by
    have := congrArg List.length r3
    rw [List.length_map] at this
    omega
   refine ⟨_, rfl, .inl ⟨rfl, _, SqL.of (r5 _ _ p1)⟩, _, rfl, lo, _, rfl, .inl ⟨SqL.of r1, fun t ht => ?_⟩⟩
   have gt := z01 (H := H2) ht (.tup zs)
   have el := (r5.trans gt) _ _ p1
   refine ⟨lr, us, _, rfl, rfl, el, z0i (by omega), ?_⟩
   refine ⟨_, rows ++ [row], _, _, _, z02, ?_, ?_, fun r hr' => ?_, z2F (p5.trans (r5.trans gt)) hlr, rfl⟩
   ·rw [List.map_append]
    refine z09.over el z8H _ _ (z09.snoc (z09.keep (r5.trans gt) _ _ p2) (z0D z02 ?_ (z09.keep gt _ _ r2)))
    rw [List.length_map]
    omega
   ·rw [List.map_append, p3, z0w es]
    exact congrArg (ss.take i ++ ·) (congrArg (fun z => [z]) r3)
   ·rcases List.mem_append.mp hr' with h | h
    ·exact p4 r h
    ·rw [List.mem_singleton.mp h]
     exact r4
 ·obtain ⟨us, rows, o1, o2, o3, p1, p2, p3, p4, p5, rfl⟩ := hp
  have er : ((xs.length : Nat) : Int).toNat = ss.length := by rw [hl0]; rfl
  rw [er, List.take_length] at p3
  exact ⟨_, rfl, q lr us rows _ nlr0 (s1.trans p5) p1 p2 p3 p4⟩
def z99 (K : PySem.W.Frag) : Sp := fun vs H Q _ => ∃ (a : Addr) (ns : List Int), vs = [.ref a] /\ SqL K H a (ns.map V.int) /\
 ∀ (l : Addr) (nm : List Str) (H' : Hp), H l = none -> Same H H' -> H' l = some (.lst (nm.map V.str)) -> 1 ≤ nm.length -> nm.length ≤ 12 -> Nms nm -> Q (.ref l) H'
theorem y2u (F : Fun K "_law_names" "_law_names" z2i f fd) (G_law_at : Cal P w K mg base 1 "_law_at" ["_law_script", "_law_k"] (spAt K)) (G_law_pick : Cal P w K mg base 1 "_law_pick" ["_law_cell", "_law_size"] z8h)
  (G_law_named : Cal P w K mg base 1 "_law_named" ["_law_cell", "_law_many"] z8Y) : FnOk P w K mg base CX0 2 f fd ["_law_script"] (z99 K) := by
 have nd := z5f.nd
 refine F.ok z5f (fun vs H Q E h => ?_) (fun cdv A outer s H vs Q E hr h => ?_)
 ·obtain ⟨a, ns, rfl, _⟩ := h
  rfl
 obtain ⟨a, ns, rfl, hS, q⟩ := h
 refine ⟨_, (z07 (z0o (z0r G_law_named (hr.mono (by omega)) rfl (z00 (z0h z13 (z0r G_law_at (hr.mono (by omega)) rfl (z00 (pv 0) (z00 z06 z03))) z06) (z00 (z0h z0Z z06 (z0r G_law_pick (hr.mono (by omega)) rfl (z00 (z0h z0L (z0r G_law_at (hr.mono (by omega)) rfl (z00 (pv 0) (z00 z06 z03))) z06) (z00 z06 z03)))) z03))))), ?_⟩
 refine ⟨_, rfl, a, ns, 0, rfl, hS, Int.le_refl 0, _, _, rfl, rfl, ⟨by decide, by decide⟩, ?_⟩
 refine ⟨_, rfl, a, ns, 0, rfl, hS, Int.le_refl 0, _, _, rfl, rfl, (by show (0 : Int) < 24; decide), _, _, rfl, (by decide), fun r h0 h1 => ⟨_, _, rfl, rfl, ?_⟩⟩
 exact ⟨_, _, rfl, by omega, by omega, fun l nm H' nl g e len N => q l nm H' nl g e (by omega) (by omega) N⟩
def nmsD (s : List Str) : DV := .tup (s.map DV.str)
def dnI (hi : Int) (j : Nat) : List Int := (List.range j).map fun (k : Nat) => hi - (k : Int)
theorem y10 (hi : Int) (j : Nat) : (dnI hi j).length = j := by unfold dnI; rw [List.length_map, List.length_range]
theorem z7F {hi : Int} {j : Nat} {x : Int} : x ∈ dnI hi j ↔ hi - j < x /\ x ≤ hi := by
 unfold dnI
 rw [List.mem_map]
 constructor
 ·rintro ⟨k, hk, rfl⟩
  have := List.mem_range.mp hk
  omega
 ·rintro ⟨h1, h2⟩
  exact ⟨(hi - x).toNat, List.mem_range.mpr (by omega), by omega⟩
def z2V (r : Row) : List Str := r.map Prod.fst
def z1h (rows : List Row) (n : Int) : Row := rows.getD (n - 1).toNat []
def y0g (rows : List Row) (k : Int) : DV := .tup [.int k, nmsD (z2V (z1h rows k))]
def z4Z (n r : Int) : List Int := (dnI (n - 1) (n - 1).toNat).filter fun k => decide (n - k ≤ r)
def y2M (rows : List Row) (n r : Int) : DV := .tup ((z4Z n r).map (y0g rows))
def z1o (rows : List Row) (n r : Int) : DV := .tup [.int n, rowD (z1h rows n), y2M rows n r]
theorem z85 {H : Hp} {rows : List Row} {us : List V} (h : z09 H (rows.map rowD) us) {k : Int} (k0 : 1 ≤ k) (k1 : k ≤ rows.length) : ∃ v, us[(k - 1).toNat]? = some v /\ atI us (k - 1) = some v /\ Tell H (rowD (z1h rows k)) v := by
 have hk : (k - 1).toNat < rows.length := by omega
 obtain ⟨v, e, t⟩ := h.get (k - 1).toNat (rowD (z1h rows k)) (by
  unfold z1h
  rw [List.getElem?_map, List.getD_eq_getElem?_getD, List.getElem?_eq_getElem hk]
  rfl)
 have ek : k - 1 = (((k - 1).toNat : Nat) : Int) := by omega
 exact ⟨v, e, by rw [ek]; exact z1k e, t⟩
theorem z4i {H : Hp} : ∀ {r : Row} {xs : List V}, z09 H (r.map z7R) xs -> ∀ (i : Nat) (x : V), xs[i]? = some x -> ∃ (p : Str × Int) (a : Addr), r[i]? = some p /\ x = .ref a /\ H a = some (.tup [.str p.1, .int p.2]) := by
 intro r xs h i x e
 obtain ⟨d, e1, t⟩ := h.at i x e
 rw [List.getElem?_map] at e1
 cases er : r[i]? with
 | none => rw [er] at e1; cases e1
 | some p =>
  rw [er] at e1
  have e2 : z7R p = d := Option.some.inj e1
  subst e2
  obtain ⟨a, ys, rfl, h1, _, h2⟩ := z0s t
  obtain ⟨y1, r1, rfl, t1, h3⟩ := z0d h2
  obtain ⟨y2, r2, rfl, t2, h4⟩ := z0d h3
  have := z0Y h4
  subst this
  rw [z3O t1, z14 t2] at h1
  exact ⟨p, a, rfl, rfl, h1⟩
theorem y1t {rows : List Row} (h : ∀ w ∈ rows, w.length ≤ 12) (k : Int) : (z1h rows k).length ≤ 12 := by
 unfold z1h
 rw [List.getD_eq_getElem?_getD]
 cases e : rows[(k - 1).toNat]? with
 | none => exact Nat.zero_le _
 | some w => exact h w (List.mem_of_getElem? e)
structure GoodN (zs : List Str) : Prop where
 lo : 1 ≤ zs.length
 hi : zs.length ≤ 12
 nd : zs.Nodup
def SqN (K : PySem.W.Frag) (H : Hp) (p : Addr) (zs : List Str) : Prop := SqL K H p (zs.map V.str) \/ SqT K H p (zs.map V.str)
theorem SqN.keep {K : PySem.W.Frag} {H H' : Hp} {p : Addr} {zs : List Str} (h : Same H H') (x : SqN K H p zs) : SqN K H' p zs := x.imp (fun q => h.seq q) fun q => z5F h q
def z54 (K : PySem.W.Frag) : Sp := fun vs H Q _ => ∃ (p : Addr) (zs : List Str), vs = [.ref p] /\ SqN K H p zs /\ GoodN zs /\ ∀ H', Same H H' -> Q .non H'
theorem z93 (M : Bl mg) (F : Fun K "refuse_bad_names" "refuse_bad_names" z15 f fd) : FnOk P w K mg base CX0 1 f fd ["names"] (z54 K) := by
 have nd := z34.nd
 refine F.ok z34 (fun vs H Q E h => ?_) (fun cdv A outer s H vs Q E hr h => ?_)
 ·obtain ⟨p, zs, rfl, _⟩ := h
  rfl
 ·obtain ⟨p, zs, rfl, hp, g, k⟩ := h
  refine ⟨_, (z04 (z0R (z08 z6H (z0f z0a rfl M.len PySem.boot_len (z00 (pv 0) z03)) z06 (z0l _)) (z07 z1A) z0q) (z04 (z0R (z08 z2U (z0f z0a rfl M.len PySem.boot_len (z00 (pv 0) z03)) (z2R rfl M.MOST_NAMES) (z0l _)) (z07 z1A) z0q) (z07 (z0R (z08 z98 (z0f z4N rfl M.len PySem.boot_len (z00 (z0x (z47 rfl) rfl M.set PyProof.Rows.boot_set (z00 (pv 0) z03)) z03)) (z0f z0a rfl M.len PySem.boot_len (z00 (pv 0) z03)) (z0l _)) (z07 z1A) z0q)))), ?_⟩
  have := g.lo
  have := g.hi
  have el : (zs.map V.str).length = zs.length := List.length_map _
  refine ⟨_, rfl, p, _, rfl, hp, _, _, rfl, rfl, _, rfl, ite2 (fun q => absurd (z0H q) (by omega)) fun _ => ?_⟩
  refine ⟨_, rfl, p, _, rfl, hp, _, _, rfl, rfl, _, rfl, ite2 (fun q => absurd (z0H q) (by omega)) fun _ => ?_⟩
  refine ⟨_, rfl, p, zs, rfl, hp, by omega, fun l hl => ⟨l, zs, rfl, z02, by omega, _, rfl, p, zs.map V.str, rfl, SqN.keep (z01 hl _) hp, rfl, _, rfl, ?_⟩⟩
  refine y4D ?_ (k _ (z01 hl _))
  rw [y1Q g.nd, el]
def z58 : Sp := fun vs H Q _ => ∃ r : Int, vs = [.int r] /\ 0 ≤ r /\ r ≤ 10 /\ Q .non H
theorem z8R (M : Bl mg) (F : Fun K "refuse_bad_reach" "refuse_bad_reach" z17 f fd) : FnOk P w K mg base CX0 1 f fd ["reach"] z58 := by
 have nd := z35.nd
 refine F.ok z35 (fun vs H Q E h => ?_) (fun cdv A outer s H vs Q E hr h => ?_)
 ·obtain ⟨r, rfl, _⟩ := h
  rfl
 ·obtain ⟨r, rfl, r0, r1, k⟩ := h
  refine ⟨_, (z07 (z0R (PW.pt (z5S (z08 z6H (pv 0) z06 (z0l _)) (z3D (z08 z2U (pv 0) (z2R rfl M.MOST_REACH) (z0l _))))) (z07 z1A) z0q)), ?_⟩
  refine ⟨_, rfl, _, _, rfl, rfl, _, rfl, ite2 (fun q => absurd (z0H q) (by omega)) fun _ => ?_⟩
  exact ⟨_, rfl, _, _, rfl, rfl, _, rfl, ite2 (fun q => absurd (z0H q) (by omega)) fun _ => k⟩
def HdN (K : PySem.W.Frag) (H : Hp) (p : Addr) (zs : List Str) : Prop := SqL K H p (zs.map V.str) \/ H p = some (.tup (zs.map V.str))
theorem HdN.sq {K : PySem.W.Frag} {H : Hp} {p : Addr} {zs : List Str} (h : HdN K H p zs) : SqN K H p zs := h.imp id SqT.of
theorem HdN.keep {K : PySem.W.Frag} {H H' : Hp} {p : Addr} {zs : List Str} (s : Same H H') (h : HdN K H p zs) : HdN K H' p zs := h.imp (fun q => s.seq q) fun q => s _ _ q
def z3W (K : PySem.W.Frag) : Sp := fun vs H Q _ => ∃ (p : Addr) (zs : List Str) (r : Int), vs = [.ref p, .int r] /\ HdN K H p zs /\ GoodN zs /\ 0 ≤ r /\ r ≤ 10 /\ ∀ (l : Addr) (H' : Hp), Same H H' -> H' l = some (.tup (zs.map V.str)) -> Q (.ref l) H'
theorem z8W (M : Bl mg) (F : Fun K "bulletin_names" "bulletin_names" z1n f fd) (Grefuse_bad_names : Cal P w K mg base 1 "refuse_bad_names" ["names"] (z54 K)) (Grefuse_bad_reach : Cal P w K mg base 1 "refuse_bad_reach" ["reach"] z58) :
  FnOk P w K mg base CX0 2 f fd ["names", "reach"] (z3W K) := by
 have nd := z3x.nd
 refine F.ok z3x (fun vs H Q E h => ?_) (fun cdv A outer s H vs Q E hr h => ?_)
 ·obtain ⟨p, zs, r, rfl, _⟩ := h
  rfl
 ·obtain ⟨p, zs, r, rfl, hp, g, r0, r1, k⟩ := h
  refine ⟨_, (z04 (z0A (z0r Grefuse_bad_names (hr.mono (by omega)) rfl (z00 (pv 0) z03))) (z04 (z0A (z0r Grefuse_bad_reach (hr.mono (by omega)) rfl (z00 (pv 1) z03))) (z07 (z0o (z0x z0u rfl M.tuple PyProof.Rows.boot_tuple (z00 (pv 0) z03)))))), ?_⟩
  refine ⟨_, rfl, p, zs, rfl, hp.sq, g, fun H1 s1 => ⟨_, rfl, r, rfl, r0, r1, _, rfl, p, zs.map V.str, rfl, ?_⟩⟩
  rcases hp.keep s1 with hq | hq
  ·exact .inl ⟨hq, fun l hl => k l _ (s1.trans (z01 hl _)) z02⟩
  ·exact .inr ⟨SqT.of hq, k p _ s1 hq⟩
def z0v (fp : List Addr) (H H' : Hp) : Prop := ∀ b o, H b = some o -> b ∉ fp -> H' b = some o
theorem z0v.of {fp : List Addr} {H H' : Hp} (h : Same H H') : z0v fp H H' := fun b o e _ => h b o e
theorem z0v.then {fp : List Addr} {H H1 H2 : Hp} (h : z0v fp H H1) (g : Same H1 H2) : z0v fp H H2 := fun b o e n => g b o (h b o e n)
def z4m (H : Hp) (fp : List Addr) : Prop := ∀ b ∈ fp, ∀ xs, H b ≠ some (.tup xs)
mutual
theorem Tell.but {fp : List Addr} {H H' : Hp} (s : z0v fp H H') (n : z4m H fp) : ∀ (d : DV) (x : V), Tell H d x -> Tell H' d x
 | .non, _, h => by unfold Tell at h ⊢; exact h
 | .bl _, _, h => by unfold Tell at h ⊢; exact h
 | .int _, _, h => by unfold Tell at h ⊢; exact h
 | .str _, _, h => by unfold Tell at h ⊢; exact h
 | .tup ds, _, h => by
  unfold Tell at h ⊢
  obtain ⟨a, xs, e, h1, h2, h3⟩ := h
  exact ⟨a, xs, e, s _ _ h1 (fun m => n a m xs h1), h2, z09.but s n ds xs h3⟩
theorem z09.but {fp : List Addr} {H H' : Hp} (s : z0v fp H H') (n : z4m H fp) : ∀ (ds : List DV) (xs : List V), z09 H ds xs -> z09 H' ds xs
 | [], _, h => by unfold z09 at h ⊢; exact h
 | d :: ds, _, h => by
  unfold z09 at h ⊢
  obtain ⟨x, r, e, h1, h2⟩ := h
  exact ⟨x, r, e, Tell.but s n d x h1, z09.but s n ds r h2⟩
end
theorem z8y {H : Hp} {x dx b : Addr} {o u v : HO} (nx : H x = none) (ndx : H dx = none) (h : H b = some o) : upd (upd H dx u) x v b = some o := by
 rw [z0g (z0p h nx), z0g (z0p h ndx)]
 exact h
theorem z68 {H H1 : Hp} {C x dx : Addr} (s : Same H H1) (nx : H1 x = none) (ndx : H1 dx = none) : Same H (upd (upd H1 dx (.own x)) x (.ins C dx [])) := fun _ _ e => z8y nx ndx (s _ _ e)
theorem z5H {H H1 H2 : Hp} {x : Addr} (b : z0v [x] H1 H2) (m : Same H H1) (nx : H x = none) : Same H H2 := fun c o e => b c o (m c o e) (by
 rw [List.mem_singleton]
 exact z0p e nx)
theorem z4P {H H1 : Hp} {x dx b : Addr} (m : Same H H1) (nx : H x = none) (ndx : H dx = none) (h : b = x \/ b = dx \/ H1 b = none) : H b = none := by
 rcases h with rfl | rfl | h
 ·exact nx
 ·exact ndx
 ·exact m.free h
theorem z8Q {fp fp' fp2 : List Addr} {H7 H' GW : Hp} (bt : z0v fp H7 H') (ff : ∀ b ∈ fp', b ∈ fp \/ H7 b = none) (gW : Same H' GW) (hf2 : ∀ b ∈ fp2, b ∈ fp' \/ GW b = none) : ∀ b ∈ fp2, b ∈ fp \/ H7 b = none := fun b m => (hf2 b m).elim (ff b) fun z => by
 cases e : H7 b with
 | none => exact .inr rfl
 | some o =>
  by_cases nb : b ∈ fp
  ·exact .inl nb
  ·rw [gW _ _ (bt b o e nb)] at z
   cases z
def z0j (had : List Int) : List Int := (upI 1 60).filter fun x => decide (x ∈ had)
def topL (had : List Int) : Int := (z0j had).getLastD 0
def addN (had : List Int) (n : Int) : List Int := if n ∈ had then had else had ++ [n]
theorem z9D {had : List Int} {n x : Int} : x ∈ addN had n ↔ x ∈ had \/ x = n := by
 unfold addN
 by_cases h : n ∈ had
 ·rw [if_pos h]
  exact ⟨.inl, fun q => q.elim id fun e => e ▸ h⟩
 ·rw [if_neg h, List.mem_append, List.mem_singleton]
theorem z1E {had : List Int} {x : Int} : x ∈ z0j had ↔ (1 ≤ x /\ x < 1 + 60) /\ x ∈ had := by
 unfold z0j
 rw [List.mem_filter, z1C, decide_eq_true_eq]
 rfl
theorem z3n (had : List Int) : (z0j had).Pairwise (· < ·) := (z1Y 1 60).filter _
theorem z8o (had : List Int) : (z0j had).length ≤ 60 := by
 have h := List.length_filter_le (fun x => decide (x ∈ had)) (upI 1 60)
 rw [z0O] at h
 exact h
theorem y28 : z0j [] = [] := by
 refine z29 (z3n _) .nil fun x => ?_
 rw [z1E]
 exact ⟨fun h => h.2, fun h => by cases h⟩
theorem y0G {ns ms : List Int} (nd : ns.Nodup) (hall : ∀ x ∈ ns, 1 ≤ x /\ x ≤ 60) (hp : ms.Perm ns) (hs : ms.Pairwise (· ≤ ·)) : ms = z0j ns := by
 have n2 : ms.Nodup := hp.nodup_iff.mpr nd
 have lt : ms.Pairwise (· < ·) := by
  have := List.pairwise_and_iff.mpr ⟨hs, n2⟩
  exact this.imp fun h => by
   have := h.1
   have := h.2
   omega
 refine z29 lt (z3n _) fun x => ?_
 rw [z1E, hp.mem_iff]
 exact ⟨fun h => ⟨by have := hall x h; omega, h⟩, fun h => h.2⟩
abbrev ShP := Hp -> Addr -> List Addr -> List Str -> Int -> (Int -> DV) -> List Int -> Prop
structure ShOk (C : Addr) (ms : List Str) (Sh : ShP) : Prop where
 ins : ∀ {H p fp zs r iss had}, Sh H p fp zs r iss had -> ∃ dx fs, H p = some (.ins C dx fs) /\ ∀ m ∈ ms, fs.lookup m = none
 own : ∀ {H p fp zs r iss had}, Sh H p fp zs r iss had -> ∀ b ∈ fp, ∃ o, H b = some o /\ ∀ xs, o ≠ .tup xs
 keep : ∀ {H H' p fp gp zs r iss had}, Sh H p fp zs r iss had -> z0v gp H H' -> (∀ b ∈ gp, b ∉ fp) -> z4m H gp -> Sh H' p fp zs r iss had
theorem ShOk.same {C : Addr} {ms : List Str} {Sh : ShP} (O : ShOk C ms Sh) {H H' : Hp} {p : Addr} {fp : List Addr} {zs : List Str} {r : Int} {iss : Int -> DV} {had : List Int} (h : Sh H p fp zs r iss had) (s : Same H H') : Sh H' p fp zs r iss had :=
 O.keep (gp := []) h (.of s) (fun _ q => by cases q) fun _ q => by cases q
theorem ShOk.noTup {C : Addr} {ms : List Str} {Sh : ShP} (O : ShOk C ms Sh) {H : Hp} {p : Addr} {fp : List Addr} {zs : List Str} {r : Int} {iss : Int -> DV} {had : List Int} (h : Sh H p fp zs r iss had) : z4m H fp := fun b m xs e => by
 obtain ⟨o, e1, n⟩ := O.own h b m
 rw [e1] at e
 exact n xs (Option.some.inj e)
def z7t (K : PySem.W.Frag) (C : Addr) (Sh : ShP) : Sp := fun vs H Q _ => ∃ (x dx pn : Addr) (zs : List Str) (r : Int), vs = [.ref x, .ref pn, .int r] /\ H x = some (.ins C dx []) /\ dx ≠ x /\ H dx = some (.own x) /\ HdN K H pn zs /\ GoodN zs /\ 0 ≤ r /\ r ≤ 10 /\
 ∀ (fp : List Addr) (H' : Hp), (∀ b ∈ fp, b = x \/ b = dx \/ H b = none) -> z0v [x] H H' -> (∀ iss, Sh H' x fp zs r iss []) -> Q .non H'
def y3F (Sh : ShP) : Sp := fun vs H Q _ => ∃ (p : Addr) (v : V) (fp : List Addr) (zs : List Str) (r : Int) (iss : Int -> DV) (had : List Int) (n : Int) (ds : List DV), vs = [.ref p, v] /\ Sh H p fp zs r iss had /\ Tell H (iss n) v /\ iss n = .tup (.int n :: ds) /\ 1 ≤ n /\ n ≤ 60 /\
 ∀ (fp' : List Addr) (H' : Hp), (∀ b ∈ fp', b ∈ fp \/ H b = none) -> z0v fp H H' -> Sh H' p fp' zs r iss (addN had n) -> Q (.bl (decide (n ∉ had))) H'
def z51 (Sh : ShP) : Sp := fun vs H Q _ => ∃ (p : Addr) (fp : List Addr) (zs : List Str) (r : Int) (iss : Int -> DV) (had : List Int), vs = [.ref p] /\ Sh H p fp zs r iss had /\
 ∀ (l : Addr) (H' : Hp), Same H H' -> H' l = some (.tup ((z0j had).map V.int)) -> Q (.ref l) H'
def z6J (Sh : ShP) : Sp := fun vs H Q _ => ∃ (p : Addr) (fp : List Addr) (zs : List Str) (r : Int) (iss : Int -> DV) (had : List Int), vs = [.ref p] /\ Sh H p fp zs r iss had /\ ∀ H', Same H H' -> Q (.int (topL had)) H'
def ShD (K : PySem.W.Frag) (C : Addr) : ShP := fun H p fp zs r iss had => ∃ (dx pn pd : Addr) (fs : List (Str × V)) (kvs : List (Key × V)), fp = [p, dx, pd] /\ H p = some (.ins C dx fs) /\ H dx = some (.own p) /\ H pn = some (.tup (zs.map V.str)) /\ H pd = some (.dK kvs) /\
 fs.lookup ("names" : Str) = some (V.ref pn) /\ fs.lookup ("reach" : Str) = some (V.int r) /\ fs.lookup ("issues" : Str) = some (V.ref pd) /\ (∀ m ∈ (["put", "had", "latest", "rows_of", "tail_of"] : List Str), fs.lookup m = none) /\
 kvs.map (·.1) = had.map Sum.inl /\ had.Nodup /\ (∀ n ∈ had, 1 ≤ n /\ n ≤ 60) /\ (∀ n v, (Sum.inl n, v) ∈ kvs -> Tell H (iss n) v) /\ GoodN zs /\ 0 ≤ r /\ r ≤ 10
theorem ShD.ins {K : PySem.W.Frag} {C : Addr} {H : Hp} {p : Addr} {fp : List Addr} {zs : List Str} {r : Int} {iss : Int -> DV} {had : List Int} (h : ShD K C H p fp zs r iss had) : ∃ dx fs, H p = some (.ins C dx fs) /\ ∀ m ∈ (["put", "had", "latest", "rows_of", "tail_of"] : List Str), fs.lookup m = none := by
 obtain ⟨dx, pn, pd, fs, kvs, e, h1, h2, h3, h4, l1, l2, l3, lm, _⟩ := h
 exact ⟨dx, fs, h1, lm⟩
theorem shOk {K : PySem.W.Frag} {C : Addr} : ShOk C ["put", "had", "latest"] (ShD K C) := by
 refine ⟨fun h => ?_, fun h b hb => ?_, fun h s out nt => ?_⟩
 ·obtain ⟨dx, fs, h1, lm⟩ := ShD.ins h
  refine ⟨dx, fs, h1, fun m hm => lm m ?_⟩
  simp only [List.mem_cons, List.not_mem_nil, or_false] at hm ⊢
  rcases hm with h | h | h <;> simp [h]
 ·obtain ⟨dx, pn, pd, fs, kvs, rfl, h1, h2, h3, h4, _⟩ := h
  rcases List.mem_cons.mp hb with rfl | hb
  ·exact ⟨_, h1, fun xs z => by cases z⟩
  rcases List.mem_cons.mp hb with rfl | hb
  ·exact ⟨_, h2, fun xs z => by cases z⟩
  rw [List.mem_singleton.mp hb]
  exact ⟨_, h4, fun xs z => by cases z⟩
 ·obtain ⟨dx, pn, pd, fs, kvs, rfl, h1, h2, h3, h4, l1, l2, l3, lm, kk, nd, all, tl, g⟩ := h
  exact ⟨dx, pn, pd, fs, kvs, rfl, s _ _ h1 (fun m => out _ m (by simp)), s _ _ h2 (fun m => out _ m (by simp)), s _ _ h3 (fun m => nt _ m _ h3), s _ _ h4 (fun m => out _ m (by simp)), l1, l2, l3, lm, kk, nd, all, fun n v hv => Tell.but s nt _ _ (tl n v hv), g⟩
theorem y15 {CShelf : Addr} (M : Bl mg) (T : TxShelf K mg CShelf) (F : Fun K "__init__" "Shelf.__init__" z1l f fd) (Gbulletin_names : Cal P w K mg base 2 "bulletin_names" ["names", "reach"] (z3W K)) :
  FnOk P w K mg base CX0 3 f fd ["self", "names", "reach"] (z7t K CShelf (ShD K CShelf)) := by
 have nd := z3v.nd
 refine F.ok z3v (fun vs H Q E h => ?_) (fun cdv A outer s H vs Q E hr h => ?_)
 ·obtain ⟨x, dx, pn, zs, r, rfl, _⟩ := h
  rfl
 obtain ⟨x, dx, pn, zs, r, rfl, hx, ne, hdx, hn, g, r0, r1, k⟩ := h
 refine ⟨_, (z04 (z4G (pv 0) (z0r Gbulletin_names (hr.mono (by omega)) rfl (z00 (pv 1) (z00 (pv 2) z03))) rfl) (z04 (z4G (pv 0) (pv 2) rfl) (z07 (z4G (pv 0) y30 rfl)))), ?_⟩
 refine ⟨_, rfl, _, rfl, pn, zs, r, rfl, hn, g, r0, r1, fun l H1 s1 e1 => ?_⟩
 refine ⟨_, rfl, x, CShelf, dx, [], rfl, s1 _ _ hx, T.cl, T.n_names, by decide, ?_⟩
 have z1 := z1H "names" (.ref l) []
 have z2 := z1H "reach" (.int r) (putF "names" (.ref l) [])
 have z0 : ([] : List (Str × V)).length = 0 := rfl
 refine ⟨_, rfl, _, rfl, x, CShelf, dx, _, rfl, z02, T.cl, T.n_reach, (by omega), ?_⟩
 rw [z4f]
 intro pd hd
 have nx : x ≠ pd := z0p z02 hd
 have ndd : dx ≠ pd := z0p (show upd H1 x _ dx = some _ by rw [z0g ne]; exact s1 _ _ hdx) hd
 have nl : l ≠ x := z43 e1 (s1 _ _ hx) (fun z => by cases z)
 have nlp : l ≠ pd := z0p (show upd H1 x _ l = some _ by rw [z0g nl]; exact e1) hd
 have dfr : H1 pd = none := by rw [z0g (Ne.symm nx)] at hd; exact hd
 refine ⟨_, rfl, x, CShelf, dx, _, rfl, (by rw [z0g nx, z02]), T.cl, T.n_issues, (by omega), ?_⟩
 refine k [x, dx, pd] _ (fun b hb => ?_) (fun b o e nb => ?_) (fun iss => ⟨dx, l, pd, _, [], rfl, z02, ?_, ?_, ?_, ?_, ?_, ?_, ?_, rfl, .nil, fun _ q => (nomatch q), fun _ _ q => (nomatch q), g, r0, r1⟩)
 ·simp only [List.mem_cons, List.not_mem_nil, or_false] at hb
  rcases hb with rfl | rfl | rfl
  ·exact .inl rfl
  ·exact .inr (.inl rfl)
  ·exact .inr (.inr (s1.free dfr))
 ·rw [List.mem_singleton] at nb
  rw [z0g nb, z0g (z0p e (s1.free dfr)), z0g nb]
  exact s1 _ _ e
 ·rw [z0g ne, z0g ndd, z0g ne]
  exact s1 _ _ hdx
 ·rw [z0g nl, z0g nlp, z0g nl]
  exact e1
 ·rw [z0g (Ne.symm nx), z02]
 ·rw [z0k, if_neg (by decide +kernel), z0k, if_neg (by decide +kernel), z0k, if_pos rfl]
 ·rw [z0k, if_neg (by decide +kernel), z0k, if_pos rfl]
 ·rw [z0k, if_pos rfl]
 ·intro m hm
  simp only [List.mem_cons, List.not_mem_nil, or_false] at hm
  rcases hm with rfl | rfl | rfl | rfl | rfl <;> rw [z0k, if_neg (by decide +kernel), z0k, if_neg (by decide +kernel), z0k, if_neg (by decide +kernel)] <;> rfl
theorem y4C {α : Type} [DecidableEq α] : ∀ {l1 l2 : List α}, l1.Nodup -> (∀ x ∈ l1, x ∈ l2) -> l1.length ≤ l2.length
 | [], _, _, _ => Nat.zero_le _
 | x :: r, l2, nd, sub => by
  rw [List.nodup_cons] at nd
  have hx := sub x List.mem_cons_self
  have := y4C (l1 := r) (l2 := l2.erase x) nd.2 fun y hy => (List.mem_erase_of_ne (fun (e : y = x) => nd.1 (e ▸ hy))).mpr (sub y (List.mem_cons_of_mem _ hy))
  rw [List.length_erase_of_mem hx] at this
  have h0 := List.length_pos_of_mem hx
  rw [List.length_cons]
  omega
theorem z97 {had : List Int} (nd : had.Nodup) (all : ∀ n ∈ had, 1 ≤ n /\ n ≤ 60) : had.length ≤ 60 := by
 have h := y4C (l2 := upI 1 60) nd fun n hn => z1C.mpr (by have := all n hn; omega)
 rw [z0O] at h
 exact h
theorem z8N {kvs : List (Key × V)} {had : List Int} (kk : kvs.map (·.1) = had.map Sum.inl) (n : Int) : (valV kvs (Sum.inl n)).isSome = decide (n ∈ had) := by
 rw [<- z5E]
 have e : (kvs.any fun kv => decide (kv.1 = Sum.inl n)) = (kvs.map (·.1)).any fun k => decide (k = Sum.inl n) := by rw [List.any_map]; rfl
 rw [e, kk, List.any_map]
 by_cases h : n ∈ had
 ·rw [decide_eq_true h, List.any_eq_true]
  exact ⟨n, h, decide_eq_true rfl⟩
 ·rw [decide_eq_false h, List.any_eq_false]
  intro m hm z
  have e := of_decide_eq_true z
  cases e
  exact h hm
theorem y4Y {CShelf : Addr} (M : Bl mg) (T : TxShelf K mg CShelf) (F : Fun K "put" "Shelf.put" z2N f fd) : FnOk P w K mg base CX0 1 f fd ["self", "issue"] (y3F (ShD K CShelf)) := by
 have nd := z5Y.nd
 refine F.ok z5Y (fun vs H Q E h => ?_) (fun cdv A outer s H vs Q E hr h => ?_)
 ·obtain ⟨p, v, fp, zs, r, iss, had, n, ds, rfl, _⟩ := h
  rfl
 obtain ⟨p, v, fp, zs, r, iss, had, n, ds, rfl, sh, tv, en, n1, n2, k⟩ := h
 have hu := z8X hr
 refine ⟨_, (z04 (z0m (i := 2) nd rfl (Or.inl rfl) (z0E z0S (pv 1) z06 (fun _ _ => rfl))) (z04 (z0R (z9S (y1r hu (pv 2) (z0K (pv 0) rfl))) (z07 (z0o z80)) z0q) (z04 (y4k hu (z0K (pv 0) rfl) (pv 2) (pv 1) rfl) (z07 (z0o z80))))), ?_⟩
 obtain ⟨dx, pn, pd, fs, kvs, rfl, h1, h2, h3, h4, l1, l2, l3, lm, kk, ndh, all, tl, g, r0, r1⟩ := sh
 rw [en] at tv
 obtain ⟨a, us, rfl, ea, _, tu⟩ := z0s tv
 obtain ⟨x0, ur, rfl, t0, _⟩ := z0d tu
 cases z14 t0
 refine ⟨_, rfl, a, _, _, _, rfl, rfl, SqT.of ea, z1k rfl, ?_⟩
 refine ⟨_, rfl, _, rfl, p, CShelf, dx, fs, _, rfl, h1, T.cl, T.n_issues, l3, pd, _, rfl, DGet.k (k := Sum.inl n) h4, ?_⟩
 refine ⟨_, rfl, ?_⟩
 rw [z8N kk]
 have fr : ∀ b ∈ [p, dx, pd], ∃ o, H b = some o := fun b hb => by
  simp only [List.mem_cons, List.not_mem_nil, or_false] at hb
  rcases hb with rfl | rfl | rfl
  ·exact ⟨_, h1⟩
  ·exact ⟨_, h2⟩
  ·exact ⟨_, h4⟩
 refine ite2 (fun c => ?_) (fun c => ?_)
 ·have c' := z0H c
  have e := k [p, dx, pd] H (fun b hb => .inl hb) (fun b o e _ => e) ⟨dx, pn, pd, fs, kvs, rfl, h1, h2, h3, h4, l1, l2, l3, lm, by unfold addN; rw [if_pos c']; exact kk, by unfold addN; rw [if_pos c']; exact ndh, fun m hm => ?_, tl, g, r0, r1⟩
  ·rw [decide_eq_false (fun z => z c')] at e
   exact e
  ·unfold addN at hm
   rw [if_pos c'] at hm
   exact all m hm
 ·have c' := z3E c
  have lk : kvs.length ≤ 60 := by
   have e2 := congrArg List.length kk
   rw [List.length_map, List.length_map] at e2
   have := z97 ndh all
   omega
  have en' : valV kvs (Sum.inl n : Key) = none := by
   have := z8N kk n
   rw [decide_eq_false c'] at this
   cases e : valV kvs (Sum.inl n : Key) with
   | none => rfl
   | some v => rw [e] at this; cases this
  refine ⟨_, rfl, _, rfl, p, CShelf, dx, fs, _, rfl, h1, T.cl, T.n_issues, l3, _, rfl, pd, _, rfl, DPut.k (k := Sum.inl n) h4 (z0i (by omega)), ?_⟩
  rw [y2K _ en']
  have np : p ≠ pd := z43 h1 h4 (fun z => by cases z)
  have nx : dx ≠ pd := z43 h2 h4 (fun z => by cases z)
  have nn : pn ≠ pd := z43 h3 h4 (fun z => by cases z)
  have e := k [p, dx, pd] (upd H pd (.dK (kvs ++ [(Sum.inl n, .ref a)]))) (fun b hb => .inl hb) (fun b o e nb => by rw [z0g (fun z => nb (by rw [z]; simp))]; exact e)
   ⟨dx, pn, pd, fs, _, rfl, by rw [z0g np]; exact h1, by rw [z0g nx]; exact h2, by rw [z0g nn]; exact h3, z02, l1, l2, l3, lm, ?_, ?_, fun m hm => ?_, fun m v hv => ?_, g, r0, r1⟩
  ·rw [decide_eq_true c'] at e
   exact e
  ·unfold addN
   rw [if_neg c', List.map_append, List.map_append, kk]
   rfl
  ·unfold addN
   rw [if_neg c', List.nodup_append]
   exact ⟨ndh, by simp, fun x hx y hy z => by rw [List.mem_singleton] at hy; subst hy; subst z; exact c' hx⟩
  ·rcases z9D.mp hm with h | rfl
   ·exact all m h
   ·omega
  ·refine Tell.over h4 (fun _ z => by cases z) _ _ ?_
   rcases List.mem_append.mp hv with h | h
   ·exact tl m v h
   ·rw [List.mem_singleton] at h
    cases h
    rw [en]
    exact tv
theorem y2F {CShelf : Addr} (M : Bl mg) (T : TxShelf K mg CShelf) (F : Fun K "had" "Shelf.had" z2J f fd) : FnOk P w K mg base CX0 1 f fd ["self"] (z51 (ShD K CShelf)) := by
 have nd := z6u.nd
 refine F.ok z6u (fun vs H Q E h => ?_) (fun cdv A outer s H vs Q E hr h => ?_)
 ·obtain ⟨p, fp, zs, r, iss, had, rfl, _⟩ := h
  rfl
 obtain ⟨p, fp, zs, r, iss, had, rfl, sh, k⟩ := h
 refine ⟨_, (z07 (z0o (z0x z0u rfl M.tuple PyProof.Rows.boot_tuple (z00 (z0f (z5w rfl) rfl M.sorted PyProof.Rows.boot_sorted (z00 (z0K (pv 0) rfl) z03)) z03)))), ?_⟩
 obtain ⟨dx, pn, pd, fs, kvs, rfl, h1, h2, h3, h4, l1, l2, l3, lm, kk, ndh, all, tl, g, r0, r1⟩ := sh
 refine ⟨_, rfl, p, CShelf, dx, fs, _, rfl, h1, T.cl, T.n_issues, l3, pd, kvs, had, rfl, h4, kk, Nat.lt_of_le_of_lt (z97 ndh all) (by decide), fun l ms hl hp hs => ?_⟩
 rw [y0G ndh all hp hs]
 exact ⟨l, _, rfl, .inl ⟨SqL.of z02, fun t ht => k t _ ((z01 hl _).trans (z01 ht _)) z02⟩⟩
theorem y34 {had : List Int} {m : Int} (hm : m ∈ z0j had) (hb : ∀ y ∈ z0j had, y ≤ m) : m = topL had := by
 unfold topL
 have ne : z0j had ≠ [] := fun z => by rw [z] at hm; cases hm
 have e : (z0j had).getLastD 0 = (z0j had).getLast ne := by rw [List.getLastD_eq_getLast?, List.getLast?_eq_some_getLast ne] <;> rfl
 rw [e]
 have h1 := hb _ (List.getLast_mem ne)
 have d : z0j had = (z0j had).dropLast ++ [(z0j had).getLast ne] := (List.dropLast_concat_getLast ne).symm
 have rs := z3n had
 rw [d] at hm rs
 rcases List.mem_append.mp hm with h | h
 ·have := (List.pairwise_append.mp rs).2.2 m h _ (List.mem_singleton.mpr rfl)
  omega
 ·exact List.mem_singleton.mp h
theorem y1f {CShelf : Addr} (M : Bl mg) (T : TxShelf K mg CShelf) (F : Fun K "latest" "Shelf.latest" z1O f fd) (GShelf_had : MCal P w K mg base 1 CShelf "had" ["self"] (z51 (ShD K CShelf))) : FnOk P w K mg base CX0 2 f fd ["self"] (z6J (ShD K CShelf)) := by
 have nd := z4c.nd
 refine F.ok z4c (fun vs H Q E h => ?_) (fun cdv A outer s H vs Q E hr h => ?_)
 ·obtain ⟨p, fp, zs, r, iss, had, rfl, _⟩ := h
  rfl
 obtain ⟨p, fp, zs, r, iss, had, rfl, sh, k⟩ := h
 refine ⟨_, (z07 (z0o (y21 rfl rfl M.max (z00 (z2G GShelf_had (hr.mono (by omega)) (pv 0)) z03) (z7m z06 z9X)))), ?_⟩
 obtain ⟨dx, fs, h1, lm⟩ := shOk.ins sh
 refine ⟨_, rfl, p, dx, fs, rfl, h1, lm _ (by simp), p, fp, zs, r, iss, had, rfl, sh, fun l H1 s1 e1 => ?_⟩
 refine ⟨l, z0j had, _, rfl, rfl, .inr (SqT.of e1), fun z => ?_, fun m hm hb => ?_⟩
 ·have e : topL had = 0 := by unfold topL; rw [z]; rfl
  have := k H1 s1
  rw [e] at this
  exact this
 ·rw [y34 hm hb]
  exact k H1 s1
def gapD (ns : List Int) (rows : List Row) (r n : Int) : DV := .tup [.int n, .int (z10 ns n r), if z10 ns n r = 0 then .tup [] else nmsD (z2V (z1h rows n))]
def z7q (ns : List Int) (rows : List Row) (r : Int) : List DV := (z1T ns).map (gapD ns rows r)
theorem z8M {ns : List Int} {n r : Int} : 0 ≤ z10 ns n r := by
 unfold z10
 cases e : (upI 1 60).find? (z8A ns n r) with
 | none => exact Int.le_refl _
 | some y =>
  have := z1C.mp (List.mem_of_find?_eq_some e)
  show 0 ≤ y
  omega
theorem y19 {ns : List Int} {m : Int} (hm : m ∈ ns \/ (ns = [] /\ m = 0)) (hall : ∀ x ∈ ns, 1 ≤ x /\ x ≤ 60) (top : ∀ y ∈ ns, y ≤ m) : (upI 1 (m - 1).toNat).filter (fun x => !decide (x ∈ ns)) = z1T ns := by
 rcases hm with hm | ⟨rfl, rfl⟩
 ·refine z29 ((z1Y _ _).filter _) (z3c _) fun x => ?_
  have hm' := hall m hm
  rw [List.mem_filter, z1C, z2Z, Bool.not_eq_true', decide_eq_false_iff_not]
  constructor
  ·rintro ⟨⟨a, b⟩, c⟩
   exact ⟨by omega, c, m, hm, by omega⟩
  ·rintro ⟨a, b, y, hy, c⟩
   have := top y hy
   exact ⟨by omega, b⟩
 ·rw [z6z]
  rfl
theorem z6h {ns : List Int} (i : Nat) : (upI 1 (i + 1)).filter (fun x => !decide (x ∈ ns)) = (upI 1 i).filter (fun x => !decide (x ∈ ns)) ++ (if (1 : Int) + (i : Int) ∈ ns then [] else [1 + (i : Int)]) := by
 rw [z4o, List.filter_append, List.filter_cons]
 by_cases h : (1 : Int) + (i : Int) ∈ ns
 ·rw [if_pos h, decide_eq_true h]
  rfl
 ·rw [if_neg h, decide_eq_false h]
  rfl
def valL (w : Row) (z : Str) : Option Int := w.foldl (fun acc p => if p.1 = z then some p.2 else acc) none
theorem z83 (w : Row) (p : Str × Int) (z : Str) : valL (w ++ [p]) z = if p.1 = z then some p.2 else valL w z := by
 unfold valL
 rw [List.foldl_append]
 rfl
def z0T (ms : List Int) (rows : List Row) (z : Str) : Option (Int × Int) := ms.foldl (fun acc n => match valL (z1h rows n) z with | some v => some (n, v) | none => acc) none
theorem z77 (ms : List Int) (n : Int) (rows : List Row) (z : Str) : z0T (ms ++ [n]) rows z = match valL (z1h rows n) z with | some v => some (n, v) | none => z0T ms rows z := by
 unfold z0T
 rw [List.foldl_append]
 rfl
def y14 : Option (Int × Int) -> DV
 | some (n, v) => .tup [.int n, .int v]
 | none => .tup [.int 0, .non]
def z2c (o : Option (Int × Int)) : Int := (o.map Prod.fst).getD 0
def z9r : Option (Int × Int) -> DV
 | some (_, v) => .int v
 | none => .non
theorem z5A {H : Hp} {o : Option (Int × Int)} {v : V} (h : Tell H (y14 o) v) : ∃ (a : Addr) (y : V), v = .ref a /\ H a = some (.tup [.int (z2c o), y]) /\ Tell H (z9r o) y := by
 cases o with
 | none =>
  obtain ⟨a, xs, rfl, ha, _, ta⟩ := z0s (show Tell H (.tup [.int 0, .non]) v from h)
  obtain ⟨y1, r1, rfl, t1, h3⟩ := z0d ta
  obtain ⟨y2, r2, rfl, t2, h4⟩ := z0d h3
  have := z0Y h4
  subst this
  rw [z14 t1] at ha
  exact ⟨a, y2, rfl, ha, t2⟩
 | some p =>
  obtain ⟨n, x⟩ := p
  obtain ⟨a, xs, rfl, ha, _, ta⟩ := z0s (show Tell H (.tup [.int n, .int x]) v from h)
  obtain ⟨y1, r1, rfl, t1, h3⟩ := z0d ta
  obtain ⟨y2, r2, rfl, t2, h4⟩ := z0d h3
  have := z0Y h4
  subst this
  rw [z14 t1] at ha
  exact ⟨a, y2, rfl, ha, t2⟩
def z9u (K : PySem.W.Frag) : Sp := fun vs H Q _ => ∃ (p lr : Addr) (ns : List Int) (us : List V) (rows : List Row) (z : Str), vs = [.ref p, .ref lr, .str z] /\ SqL K H p (ns.map V.int) /\ ns.length < 64 /\ ns.Nodup /\ (∀ x ∈ ns, 1 ≤ x /\ x ≤ 60) /\ (∀ x ∈ ns, x ≤ rows.length) /\
 SqL K H lr us /\ z09 H (rows.map rowD) us /\ ∀ (v : V) (H' : Hp), Same H H' -> Tell H' (y14 (z0T (z0j ns) rows z)) v -> Q v H'
theorem y2o (M : Bl mg) (F : Fun K "_law_held" "_law_held" z2K f fd) : FnOk P w K mg base CX0 1 f fd ["_law_had_here", "_law_rows", "_law_name"] (z9u K) := by
 have nd := z6p.nd
 refine F.ok z6p (fun vs H Q E h => ?_) (fun cdv A outer s H vs Q E hr h => ?_)
 ·obtain ⟨p, lr, ns, us, rows, z, rfl, _⟩ := h
  rfl
 obtain ⟨p, lr, ns, us, rows, z, rfl, hP, h64, nds, hall, hup, hR, tl, q⟩ := h
 refine ⟨_, (z04 (z0m (i := 3) nd rfl (Or.inl rfl) (z11 (z00 z06 (z00 z9G z03)))) (z04 (z1p PassesOwn.never rfl (z1Z (z0f z6s rfl M.sorted PyProof.Rows.boot_sorted (z00 (pv 0) z03))) (z0n (i := 4) nd rfl (Or.inl rfl)) (z07 (z1p PassesOwn.never rfl (z4r (z0E z0U (pv 1) (z0h z37 (pv 4) z06) (fun _ _ => rfl))) (z0n (i := 5) nd rfl (Or.inl rfl)) (z07 (z0R (z08 z2s (z0E z0S (pv 5) z06 (fun _ _ => rfl)) (pv 2) (z0l _)) (z07 (z0m (i := 3) nd rfl (Or.inl rfl) (z11 (z00 (pv 4) (z00 (z0E z0S (pv 5) z06 (fun _ _ => rfl)) z03))))) z0q))))) (z07 (z0o (pv 3))))), ?_⟩
 refine ⟨(by show 2 ≤ sizeLine; decide), fun t0 ht0 => ?_⟩
 have s1 := z01 ht0 (.tup [V.int 0, V.non])
 have e1 : upd H t0 (.tup [V.int 0, V.non]) t0 = some (.tup [V.int 0, V.non]) := z02
 generalize upd H t0 (.tup [V.int 0, V.non]) = H1 at s1 e1
 refine ⟨_, rfl, p, ns, rfl, s1.seq hP, h64, fun ls ms nls hp hs => ?_⟩
 have er := y0G nds hall hp hs
 have s2 := s1.trans (z01 nls (.lst (ms.map V.int)))
 have e2 := z01 nls (.lst (ms.map V.int)) _ _ e1
 have els : upd H1 ls (.lst (ms.map V.int)) ls = some (.lst (ms.map V.int)) := z02
 generalize upd H1 ls (.lst (ms.map V.int)) = H2 at s2 e2 els
 refine ⟨ls, rfl, ⟨_, SqL.of els⟩, z2u (K := K) (a := ls) (xs := ms.map V.int) (fun i σ H' => ∃ (hv : V) (o1 o2 : Option V), Same H2 H' /\ Tell H' (y14 (z0T (ms.take i) rows z)) hv /\ σ = [some (.ref p), some (.ref lr), some (.str z), some hv, o1, o2])
  ⟨.ref t0, none, none, Same.refl _, z0D e2 (by show 2 ≤ 1000000; decide) (.cons (z0F 0) (.cons z7E .nil)), rfl⟩ (fun i σ H' _ ⟨_, _, _, g, _⟩ => SqL.of (g _ _ els)) ?_ ?_⟩
 ·rintro i x σ H' hi ⟨hv, o1, o2, g, th, rfl⟩
  obtain ⟨n, hn, rfl⟩ : ∃ n, ms[i]? = some n /\ x = V.int n := by
   rw [List.getElem?_map] at hi
   cases e : ms[i]? with
   | none => rw [e] at hi; cases hi
   | some n => rw [e] at hi; exact ⟨n, rfl, (Option.some.inj hi).symm⟩
  have nin : n ∈ ns := hp.mem_iff.mp (List.mem_of_getElem? hn)
  have hn1 := hall n nin
  have hn2 := hup n nin
  obtain ⟨v, _, av, tv⟩ := z85 (z09.keep (s2.trans g) _ _ tl) (k := n) hn1.1 hn2
  obtain ⟨ar, xs, rfl, er', _, tp⟩ := z0s tv
  have lw : xs.length = (z1h rows n).length := by rw [tp.length, List.length_map]
  refine ⟨_, rfl, _, rfl, _, _, rfl, rfl, lr, us, _, _, rfl, rfl, (s2.trans g).seq hR, av, ar, rfl, ⟨_, SqT.of er'⟩, ?_⟩
  refine y1u (K := K) (a := ar) (xs := xs) (fun j σ H2' => ∃ (hv : V) (o2 : Option V), Same H' H2' /\ Tell H2' (y14 (match valL ((z1h rows n).take j) z with | some v => some (n, v) | none => z0T (ms.take i) rows z)) hv /\
    σ = [some (.ref p), some (.ref lr), some (.str z), some hv, some (.int n), o2]) ⟨hv, o2, Same.refl _, th, rfl⟩ (fun j σ H2' _ ⟨_, _, g2, _⟩ => SqT.of (g2 _ _ er')) ?_ ?_
  ·rintro j y σ H2' hy ⟨hv2, o3, g2, th2, rfl⟩
   obtain ⟨pq, b, e1', rfl, e2'⟩ := z4i tp j y hy
   have sb : SqT K H2' b [V.str pq.1, V.int pq.2] := SqT.of (g2 _ _ e2')
   refine ⟨_, rfl, b, _, 0, _, rfl, rfl, sb, rfl, _, rfl, rfl, _, rfl, ?_⟩
   have tk : (z1h rows n).take (j + 1) = (z1h rows n).take j ++ [pq] := z0w e1'
   refine ite2 (fun c => ?_) (fun c => ?_)
   ·have c' : pq.1 = z := by
     have := z0H c
     injection this
    refine ⟨_, rfl, _, rfl, b, _, 1, _, rfl, rfl, sb, rfl, (by show 2 ≤ sizeLine; decide), fun t ht => ?_⟩
    refine ⟨.ref t, _, g2.trans (z01 ht _), ?_, rfl⟩
    rw [tk, z83, if_pos c']
    exact z0D z02 (by show 2 ≤ 1000000; decide) (.cons (z0F _) (.cons (z0F _) .nil))
   ·have c' : ¬ pq.1 = z := fun e => z3E c (by rw [e])
    refine ⟨hv2, _, g2, ?_, rfl⟩
    rw [tk, z83, if_neg c']
    exact th2
  ·rintro σ H2' ⟨hv2, o3, g2, th2, rfl⟩
   rw [lw, List.take_length] at th2
   refine ⟨hv2, _, _, g.trans g2, ?_, rfl⟩
   rw [z0w hn, z77]
   exact th2
 ·rintro σ H' ⟨hv, o1, o2, g, th, rfl⟩
  rw [List.length_map, List.take_length, er] at th
  exact ⟨_, rfl, q hv H' (s2.trans g) th⟩
def y1o (K : PySem.W.Frag) : Sp := fun vs H Q _ => ∃ (p lr : Addr) (ns : List Int) (us : List V) (rows : List Row) (r : Int), vs = [.ref p, .ref lr, .int r] /\ H p = some (.lst (ns.map V.int)) /\ (∀ x ∈ ns, 1 ≤ x /\ x ≤ 60) /\ ns.length ≤ 900 /\ (∀ x ∈ ns, x ≤ rows.length) /\
 SqL K H lr us /\ z09 H (rows.map rowD) us /\ (∀ w ∈ rows, w.length ≤ 12) /\ 0 ≤ r /\ ∀ (l : Addr) (zs : List V) (H' : Hp), H l = none -> Same H H' -> H' l = some (.lst zs) -> z09 H' (z7q ns rows r) zs -> Q (.ref l) H'
theorem y3A (M : Bl mg) (F : Fun K "_law_gaps" "_law_gaps" z2H f fd) (G_law_teller : Cal P w K mg base 1 "_law_teller" ["_law_had_here", "_law_number", "_law_reach"] (z66 K)) : FnOk P w K mg base CX0 2 f fd ["_law_had_here", "_law_rows", "_law_reach"] (y1o K) := by
 have nd := z6g.nd
 refine F.ok z6g (fun vs H Q E h => ?_) (fun cdv A outer s H vs Q E hr h => ?_)
 ·obtain ⟨p, lr, ns, us, rows, r, rfl, _⟩ := h
  rfl
 obtain ⟨p, lr, ns, us, rows, r, rfl, hP, hall, hlen, hup, hR, tl, h12, r0, q⟩ := h
 refine ⟨_, (z04 (z0m (i := 3) nd rfl (Or.inl rfl) (z1V z03)) (z04 (z1p PassesOwn.never rfl (z4s rfl M.range (z00 z06 (z00 (z0f (y1H rfl) rfl M.max PyProof.Rows.boot_max (z00 (z0h y3h (pv 0) (z1V (z00 z06 z03))) z03)) z03))) (z0n (i := 4) nd rfl (Or.inl rfl)) (z04 (z0m (i := 5) nd rfl (Or.inl rfl) (z0r G_law_teller (hr.mono (by omega)) rfl (z00 (pv 0) (z00 (pv 4) (z00 (pv 2) z03))))) (z04 (z0R (PW.pt (z3F (z08 z21 (pv 4) (pv 0) (by with_unfolding_all rfl)) (z38 (z08 z2s (pv 5) z06 (z0l _))))) (z07 (z0A (z3a PySem.F.plainAttrs_list PySem.F.slot_list_append PySem.F.type_list_append z0M (pv 3) (z00 (z11 (z00 (pv 4) (z00 z06 (z00 (z11 z03) z03)))) z03)))) z0q) (z07 (z0R (PW.pt (z3F (z08 z21 (pv 4) (pv 0) (by with_unfolding_all rfl)) (z38 (z08 z2U (pv 5) z06 (z0l _))))) (z07 (z0A (z3a PySem.F.plainAttrs_list PySem.F.slot_list_append PySem.F.type_list_append z0M (pv 3) (z00 (z11 (z00 (pv 4) (z00 (pv 5) (z00 (z0x z0u rfl M.tuple PyProof.Rows.boot_tuple (z00 (z1F ["_law_row_here"] [] [] rfl (z0y rfl (by decide +kernel) rfl (by decide +kernel) rfl rfl) (z4r (z0E z0U (pv 1) (z0h z37 (pv 4) z06) (fun _ _ => rfl))) (fun _ _ _ _ _ => (z0n (i := 0) (show ((["_law_row_here"] : List PySem.Str) ++ ([] : List PySem.Str)).Nodup from by decide +kernel) rfl (Or.inl rfl))) (z0C (by decide)) z0e (fun _ _ _ _ _ => z2D) (fun _ _ _ _ _ => (z0E (r := rIxT K) z0S (pv 0) z06 (fun _ _ => rfl)))) z03)) z03)))) z03)))) z0q))))) (z07 (z0o (pv 3))))), ?_⟩
 refine ⟨(by show 0 ≤ sizeLine; decide), fun lg hlg => ?_⟩
 have s1 := z01 hlg (.lst [])
 refine ⟨_, rfl, (by show 1 ≤ sizeLine; decide), fun l0 hl0 => ⟨p, l0, _, _, rfl, rfl, z01 hl0 _ _ _ (s1 _ _ hP), z02, ?_, fun lc hlc => ?_⟩⟩
 ·rw [List.length_map]
  exact Nat.le_of_lt (z0i (by show ns.length + 1 ≤ 1000; omega))
 have s2 := s1.trans ((z01 hl0 (.lst [V.int 0])).trans (z01 hlc (.lst (ns.map V.int ++ [V.int 0]))))
 have eg : upd (upd (upd H lg (.lst [])) l0 (.lst [V.int 0])) lc (.lst (ns.map V.int ++ [V.int 0])) lg = some (.lst []) := (z01 hl0 _).trans (z01 hlc _) _ _ z02
 have ec : upd (upd (upd H lg (.lst [])) l0 (.lst [V.int 0])) lc (.lst (ns.map V.int ++ [V.int 0])) lc = some (.lst ((ns ++ [0]).map V.int)) := by
  rw [z02, List.map_append]
  rfl
 generalize upd (upd (upd H lg (.lst [])) l0 (.lst [V.int 0])) lc (.lst (ns.map V.int ++ [V.int 0])) = H2 at s2 eg ec
 refine ⟨lc, ns ++ [0], rfl, .inl (SqL.of ec), by simp, fun m hm top => ?_⟩
 have hm' : m ∈ ns \/ (ns = [] /\ m = 0) := by
  rcases List.mem_append.mp hm with h | h
  ·exact .inl h
  ·rw [List.mem_singleton] at h
   subst h
   cases ns with
   | nil => exact .inr ⟨rfl, rfl⟩
   | cons x xs =>
    have h1 := top x (by simp)
    have h2 := hall x List.mem_cons_self
    omega
 have m60 : 0 ≤ m /\ m ≤ 60 := by
  rcases hm' with h | ⟨_, h⟩
  ·have := hall m h
   omega
  ·omega
 have topn : ∀ y ∈ ns, y ≤ m := fun y hy => top y (List.mem_append_left _ hy)
 refine ⟨1, m, rfl, ⟨by decide, by decide, by omega, by omega⟩, ?_⟩
 refine z1j (lo := 1) (n := (m - 1).toNat) (fun i σ H' => ∃ (zs : List V) (o1 o2 : Option V), (∀ b u, H b = some u -> H' b = some u) /\ H' lg = some (.lst zs) /\ z09 H' (((upI 1 i).filter fun x => !decide (x ∈ ns)).map (gapD ns rows r)) zs /\
   σ = [some (.ref p), some (.ref lr), some (.int r), some (.ref lg), o1, o2]) ⟨[], none, none, s2, eg, .nil, rfl⟩ (fun i σ H' hi hp => ?_) (fun σ H' hp => ?_)
 ·obtain ⟨zs, o1, o2, g, eG, tG, rfl⟩ := hp
  have g' : Same H H' := g
  have hn : (1 : Int) + (i : Int) ≤ rows.length := by
   rcases hm' with h | ⟨_, h⟩
   ·have := hup m h
    omega
   ·omega
  have lz : zs.length ≤ i := by
   rw [tG.length, List.length_map]
   have := List.length_filter_le (fun x => !decide (x ∈ ns)) (upI 1 i)
   rw [z0O] at this
   exact this
  refine ⟨_, rfl, _, rfl, _, rfl, p, ns, 1 + (i : Int), r, rfl, SqL.of (g _ _ hP), hall, hlen, r0, fun H3 s3 => ?_⟩
  have t0 := z8M (ns := ns) (n := 1 + (i : Int)) (r := r)
  have g3 : Same H H3 := g'.trans s3
  have eG3 := s3 _ _ eG
  have tG3 := z09.keep s3 _ _ tG
  refine ⟨_, rfl, _, rfl, p, _, rfl, .inl (SqL.of (g3 _ _ hP)), rfl, z2Y ns, _, rfl, ?_⟩
  rw [if_pos rfl, z3t]
  by_cases hin : (1 : Int) + (i : Int) ∈ ns
  ·rw [decide_eq_true hin]
   refine iteF (iteF ?_)
   refine ⟨_, rfl, _, rfl, p, _, rfl, .inl (SqL.of (g3 _ _ hP)), rfl, z2Y ns, _, rfl, ?_⟩
   rw [if_pos rfl, z3t, decide_eq_true hin]
   refine iteF (iteF ⟨zs, _, _, g3, eG3, ?_, rfl⟩)
   rw [z6h, if_pos hin, List.append_nil]
   exact tG3
  ·rw [decide_eq_false hin]
   refine iteT ⟨_, rfl, rfl, _, rfl, ?_⟩
   refine ite2 (fun c => ?_) (fun c => ?_)
   ·have c0 : z10 ns (1 + (i : Int)) r = 0 := by
     have := z0H c
     injection this
    refine ⟨_, rfl, .inl ⟨rfl, _, SqL.of eG3⟩, _, rfl, (by show 0 ≤ sizeLine; decide), fun t0 ht0 => ⟨(by show 3 ≤ sizeLine; decide), fun t ht => ?_⟩⟩
    have s4 := (z01 ht0 (.tup [])).trans (z01 ht (.tup [V.int (1 + (i : Int)), V.int 0, V.ref t0]))
    have et : upd (upd H3 t0 (.tup [])) t (.tup [V.int (1 + (i : Int)), V.int 0, V.ref t0]) t = some (.tup [V.int (1 + (i : Int)), V.int 0, V.ref t0]) := z02
    have et0 : upd (upd H3 t0 (.tup [])) t (.tup [V.int (1 + (i : Int)), V.int 0, V.ref t0]) t0 = some (.tup []) := z01 ht _ _ _ z02
    generalize upd (upd H3 t0 (.tup [])) t (.tup [V.int (1 + (i : Int)), V.int 0, V.ref t0]) = H4 at s4 et et0
    refine ⟨lg, _, _, rfl, rfl, s4 _ _ eG3, z0i (by omega), ?_⟩
    have g5 : ∀ b u, H b = some u -> upd H4 lg (.lst (zs ++ [V.ref t])) b = some u := fun b u e => by
     rw [z0g (z0p e hlg)]
     exact s4 _ _ (g3 _ _ e)
    have tg : Tell H4 (gapD ns rows r (1 + (i : Int))) (.ref t) := by
     unfold gapD
     rw [if_pos c0, c0]
     exact z0D et (by show 3 ≤ 1000000; decide) (.cons (z0F _) (.cons (z0F _) (.cons (z0D et0 (by show 0 ≤ 1000000; decide) .nil) .nil)))
    have t5 : z09 (upd H4 lg (.lst (zs ++ [V.ref t]))) (((upI 1 (i + 1)).filter fun x => !decide (x ∈ ns)).map (gapD ns rows r)) (zs ++ [V.ref t]) := by
     rw [z6h, if_neg hin, List.map_append]
     exact z09.over (s4 _ _ eG3) (fun _ e => by cases e) _ _ (z09.snoc (z09.keep s4 _ _ tG3) tg)
    refine ⟨_, rfl, _, rfl, p, _, rfl, .inl (SqL.of (g5 _ _ hP)), rfl, z2Y ns, _, rfl, ?_⟩
    rw [if_pos rfl, z3t, decide_eq_false hin]
    refine iteT ⟨_, rfl, _, _, rfl, rfl, _, rfl, ?_⟩
    rw [c0]
    exact iteF ⟨_, _, _, g5, z02, t5, rfl⟩
   ·have c0 : z10 ns (1 + (i : Int)) r ≠ 0 := fun e => z3E c (by rw [e])
    refine ⟨_, rfl, _, rfl, p, _, rfl, .inl (SqL.of (g3 _ _ hP)), rfl, z2Y ns, _, rfl, ?_⟩
    rw [if_pos rfl, z3t, decide_eq_false hin]
    refine iteT ⟨_, rfl, _, _, rfl, rfl, _, rfl, ?_⟩
    rw [decide_eq_true (show (0 : Int) < z10 ns (1 + (i : Int)) r by omega)]
    refine iteT ?_
    obtain ⟨v, _, av, tv⟩ := z85 (z09.keep g3 _ _ tl) (k := 1 + (i : Int)) (by omega) hn
    obtain ⟨ar, xs, rfl, er, _, tp⟩ := z0s tv
    have lw : xs.length = (z1h rows (1 + (i : Int))).length := by rw [tp.length, List.length_map]
    have w12 := y1t h12 (1 + (i : Int))
    refine ⟨_, rfl, .inl ⟨rfl, _, SqL.of eG3⟩, _, rfl, _, rfl, _, rfl, _, rfl, _, _, rfl, rfl, lr, us, _, _, rfl, rfl, g3.seq hR, av, ar, rfl, ⟨_, SqT.of er⟩, ?_⟩
    refine z33 (xs := xs) (fun j ys H2 => H2 = H3 /\ ys = ((z2V (z1h rows (1 + (i : Int)))).take j).map V.str) ⟨rfl, rfl⟩ (fun j ys H2 hj hp => ?_) (fun j y ys H2 hy hp => ?_) (fun ys H2 hp => ?_)
    ·obtain ⟨rfl, rfl⟩ := hp
     refine ⟨SqT.of er, z0i ?_⟩
     rw [List.length_map, List.length_take]
     omega
    ·obtain ⟨rfl, rfl⟩ := hp
     obtain ⟨pq, b, e1, rfl, e2⟩ := z4i tp j y hy
     refine ⟨_, rfl, b, _, 0, _, rfl, rfl, SqT.of e2, rfl, rfl, ?_⟩
     have e3 : (z2V (z1h rows (1 + (i : Int))))[j]? = some pq.1 := by
      unfold z2V
      rw [List.getElem?_map, e1]
      rfl
     rw [z0w e3, List.map_append]
     rfl
    obtain ⟨rfl, rfl⟩ := hp
    have ll : (z2V (z1h rows (1 + (i : Int)))).take xs.length = z2V (z1h rows (1 + (i : Int))) := List.take_of_length_le (by unfold z2V; rw [List.length_map]; omega)
    rw [ll]
    intro D hD
    refine ⟨D, _, rfl, .inl ⟨SqL.of z02, fun t0 ht0 => ⟨(by show 3 ≤ sizeLine; decide), fun t ht => ?_⟩⟩⟩
    generalize hN : (z2V (z1h rows (1 + (i : Int)))).map V.str = nv at hD ht0 ht
    have s4 := (z01 hD (.lst nv)).trans ((z01 ht0 (.tup nv)).trans (z01 ht (.tup [V.int (1 + (i : Int)), V.int (z10 ns (1 + (i : Int)) r), V.ref t0])))
    have et : upd (upd (upd H2 D (.lst nv)) t0 (.tup nv)) t (.tup [V.int (1 + (i : Int)), V.int (z10 ns (1 + (i : Int)) r), V.ref t0]) t = some (.tup [V.int (1 + (i : Int)), V.int (z10 ns (1 + (i : Int)) r), V.ref t0]) := z02
    have et0 : upd (upd (upd H2 D (.lst nv)) t0 (.tup nv)) t (.tup [V.int (1 + (i : Int)), V.int (z10 ns (1 + (i : Int)) r), V.ref t0]) t0 = some (.tup nv) := z01 ht _ _ _ z02
    generalize upd (upd (upd H2 D (.lst nv)) t0 (.tup nv)) t (.tup [V.int (1 + (i : Int)), V.int (z10 ns (1 + (i : Int)) r), V.ref t0]) = H4 at s4 et et0
    refine ⟨lg, _, _, rfl, rfl, s4 _ _ eG3, z0i (by omega), ?_⟩
    have g5 : ∀ b u, H b = some u -> upd H4 lg (.lst (zs ++ [V.ref t])) b = some u := fun b u e => by
     rw [z0g (z0p e hlg)]
     exact s4 _ _ (g3 _ _ e)
    have tg : Tell H4 (gapD ns rows r (1 + (i : Int))) (.ref t) := by
     unfold gapD
     rw [if_neg c0]
     refine z0D et (by show 3 ≤ 1000000; decide) (.cons (z0F _) (.cons (z0F _) (.cons (z0D et0 ?_ ?_) .nil)))
     ·rw [List.length_map]
      unfold z2V
      rw [List.length_map]
      omega
     ·rw [<- hN]
      exact z55 _
    refine ⟨_, _, _, g5, z02, ?_, rfl⟩
    rw [z6h, if_neg hin, List.map_append]
    exact z09.over (s4 _ _ eG3) (fun _ e => by cases e) _ _ (z09.snoc (z09.keep s4 _ _ tG3) tg)
 ·obtain ⟨zs, o1, o2, g, eG, tG, rfl⟩ := hp
  rw [y19 hm' hall topn] at tG
  exact ⟨_, rfl, q lg zs H' hlg g eG tG⟩
theorem y2p (x : Str) (ns : List Str) : inV (.str x) (ns.map V.str) = decide (x ∈ ns) := by
 unfold inV
 rw [Bool.eq_iff_iff, List.any_map, List.any_eq_true, decide_eq_true_eq]
 constructor
 ·rintro ⟨y, hy, e⟩
  have : y = x := by simpa [eqV] using e
  exact this ▸ hy
 ·intro h
  exact ⟨x, h, by simp [eqV]⟩
def z2y (ns : List Int) (rows : List Row) (r n : Int) : List Str := if z10 ns n r = 0 then [] else z2V (z1h rows n)
theorem y46 (ns : List Int) (rows : List Row) (r n : Int) : gapD ns rows r n = .tup [.int n, .int (z10 ns n r), nmsD (z2y ns rows r n)] := by
 unfold gapD z2y
 by_cases h : z10 ns n r = 0
 ·rw [if_pos h, if_pos h]
  rfl
 ·rw [if_neg h, if_neg h]
def z32 (ns : List Int) (rows : List Row) (r num : Int) (z : Str) : List Int := (z1T ns).filter fun n => decide (num < n) && decide (z ∈ z2y ns rows r n)
def y3g (ns : List Int) (rows : List Row) (r num : Int) (z : Str) : DV := .tup ((z32 ns rows r num z).map fun n => .tup [.int n, .int (z10 ns n r)])
theorem z6M (ns : List Int) (rows : List Row) (r num : Int) (z : Str) : (z32 ns rows r num z).length ≤ 60 := Nat.le_trans (List.length_filter_le _ _) (z2X ns)
theorem z6w {H : Hp} {ns : List Int} {rows : List Row} {r : Int} {zs : List V} (h : z09 H (z7q ns rows r) zs) {i : Nat} {x : V} (e : zs[i]? = some x) :
  ∃ (n : Int) (a b : Addr), (z1T ns)[i]? = some n /\ x = .ref a /\ H a = some (.tup [.int n, .int (z10 ns n r), .ref b]) /\ H b = some (.tup ((z2y ns rows r n).map V.str)) := by
 obtain ⟨d, e1, t⟩ := h.at i x e
 unfold z7q at e1
 rw [List.getElem?_map] at e1
 cases er : (z1T ns)[i]? with
 | none => rw [er] at e1; cases e1
 | some n =>
  rw [er] at e1
  have e2 : gapD ns rows r n = d := Option.some.inj e1
  rw [y46] at e2
  subst e2
  obtain ⟨a, ys, rfl, h1, _, h2⟩ := z0s t
  obtain ⟨y1, r1, rfl, t1, h3⟩ := z0d h2
  obtain ⟨y2, r2, rfl, t2, h4⟩ := z0d h3
  obtain ⟨y3, r3, rfl, t3, h5⟩ := z0d h4
  have := z0Y h5
  subst this
  obtain ⟨b, ws, rfl, hb, _, tb⟩ := z0s t3
  rw [z14 t1, z14 t2] at h1
  rw [z45 tb] at hb
  exact ⟨n, a, b, rfl, rfl, h1, hb⟩
theorem z6n {H : Hp} {ns : List Int} {rows : List Row} {r : Int} {zs : List V} (h : z09 H (z7q ns rows r) zs) : zs.length = (z1T ns).length := by
 rw [h.length]
 unfold z7q
 rw [List.length_map]
def z9t (K : PySem.W.Frag) : Sp := fun vs H Q _ => ∃ (lg : Addr) (zs : List V) (ns : List Int) (rows : List Row) (r num : Int) (z : Str), vs = [.ref lg, .int num, .str z] /\ SqL K H lg zs /\ z09 H (z7q ns rows r) zs /\
 ∀ (v : V) (H' : Hp), Same H H' -> Tell H' (y3g ns rows r num z) v -> Q v H'
theorem y2r (M : Bl mg) (F : Fun K "_law_again" "_law_again" z2f f fd) : FnOk P w K mg base CX0 1 f fd ["_law_gaps_here", "_law_number", "_law_name"] (z9t K) := by
 have nd := z5b.nd
 refine F.ok z5b (fun vs H Q E h => ?_) (fun cdv A outer s H vs Q E hr h => ?_)
 ·obtain ⟨lg, zs, ns, rows, r, num, z, rfl, _⟩ := h
  rfl
 obtain ⟨lg, zs, ns, rows, r, num, z, rfl, hG, tG, q⟩ := h
 refine ⟨_, (z07 (z0o (z0x z0u rfl M.tuple PyProof.Rows.boot_tuple (z00 (z1F ["_law_gap"] ["_law_number", "_law_name"] [1, 2] rfl (z0y rfl (by decide +kernel) rfl (by decide +kernel) rfl rfl) (z1Z (pv 0)) (fun _ _ _ _ _ => (z0n (i := 0) (show ((["_law_gap"] : List PySem.Str) ++ (["_law_number", "_law_name"] : List PySem.Str)).Nodup from by decide +kernel) rfl (Or.inl rfl))) (z0C (by decide)) z0e (fun _ _ _ _ _ => (z2W (PW.pt (z3F (z08 z2U (z0E (r := rIxT K) z0S (pv 0) z06 (fun _ _ => rfl)) (pv 1) (z0l _)) (z38 (z08 (r := rIn K false) z8x (pv 2) (z0E (r := rIxT K) z0S (pv 0) z06 (fun _ _ => rfl)) (by with_unfolding_all rfl))))))) (fun _ _ _ _ _ => (z11 (z00 (z0E (r := rIxT K) z0S (pv 0) z06 (fun _ _ => rfl)) (z00 (z0E (r := rIxT K) z0S (pv 0) z06 (fun _ _ => rfl)) z03))))) z03)))), ?_⟩
 have lz := z6n tG
 have l60 := z2X ns
 refine ⟨_, rfl, lg, rfl, ⟨_, hG⟩, ?_⟩
 refine z3l (xs := zs) (fun i ys H' => Same H H' /\ z09 H' ((((z1T ns).take i).filter fun n => decide (num < n) && decide (z ∈ z2y ns rows r n)).map fun n => .tup [.int n, .int (z10 ns n r)]) ys) ⟨Same.refl _, by rw [List.take_zero]; exact .nil⟩
  (fun i ys H' hi hp => ?_) (fun i x ys H' hx hp => ?_) (fun ys H' hp => ?_)
 ·obtain ⟨g, t⟩ := hp
  refine ⟨g.seq hG, z0i ?_⟩
  have := List.length_filter_le (fun n => decide (num < n) && decide (z ∈ z2y ns rows r n)) ((z1T ns).take i)
  rw [List.length_take] at this
  rw [t.length, List.length_map]
  omega
 ·obtain ⟨g, t⟩ := hp
  obtain ⟨n, a, b, en, rfl, ha, hb⟩ := z6w tG hx
  have sa : SqT K H' a [V.int n, V.int (z10 ns n r), V.ref b] := SqT.of (g _ _ ha)
  have tks := z0w en
  refine ⟨_, rfl, a, _, 0, _, rfl, rfl, sa, rfl, _, rfl, _, _, rfl, rfl, _, rfl, ?_⟩
  rw [tks, List.filter_append, List.filter_cons]
  refine ite2 (fun c => ?_) (fun c => ?_)
  ·refine ⟨_, rfl, _, rfl, a, _, 2, _, rfl, rfl, sa, rfl, b, _, rfl, .inr (SqT.of (g _ _ hb)), rfl, z4I _, _, rfl, ?_⟩
   rw [if_neg Bool.false_ne_true, y2p, c, Bool.true_and]
   refine ite2 (fun c2 => ?_) (fun c2 => ?_)
   ·rw [if_pos c2, List.map_append]
    refine ⟨_, rfl, a, _, 0, _, rfl, rfl, sa, rfl, _, rfl, a, _, 1, _, rfl, rfl, sa, rfl, (by show 2 ≤ sizeLine; decide), fun u hu => ⟨g.trans (z01 hu _), ?_⟩⟩
    exact z09.snoc (z09.keep (z01 hu _) _ _ t) (z0D z02 (by show 2 ≤ 1000000; decide) (.cons (z0F _) (.cons (z0F _) .nil)))
   ·rw [if_neg c2, List.filter_nil, List.append_nil]
    exact ⟨g, t⟩
  ·rw [Bool.eq_false_iff.mpr c, Bool.false_and]
   refine iteF ?_
   rw [if_neg Bool.false_ne_true, List.filter_nil, List.append_nil]
   exact ⟨g, t⟩
 ·obtain ⟨g, t⟩ := hp
  rw [lz, List.take_length] at t
  intro D hD
  refine ⟨D, _, rfl, .inl ⟨SqL.of z02, fun l hl => ?_⟩⟩
  have s2 := (z01 hD (.lst ys)).trans (z01 hl (.tup ys))
  refine q _ _ (g.trans s2) (z0D z02 ?_ (z09.keep s2 _ _ t))
  have := z6M ns rows r num z
  rw [List.length_map]
  omega
def z26 (ns : List Int) (r num : Int) : List Int := (z1T ns).filter fun n => decide (num < n) && decide (z10 ns n r = 0)
def z1d (ns : List Int) (rows : List Row) (r num : Int) (z : Str) : Str := if 0 < (z32 ns rows r num z).length then "stale" else if z26 ns r num = [] then "sure" else "open"
def z9m (K : PySem.W.Frag) : Sp := fun vs H Q _ => ∃ (lg : Addr) (zs : List V) (ns : List Int) (rows : List Row) (r num : Int) (z : Str), vs = [.ref lg, .int num, .str z] /\ SqL K H lg zs /\ z09 H (z7q ns rows r) zs /\
 ∀ H', Same H H' -> Q (.str (z1d ns rows r num z)) H'
theorem y1v (M : Bl mg) (F : Fun K "_law_state" "_law_state" z2q f fd) (G_law_again : Cal P w K mg base 1 "_law_again" ["_law_gaps_here", "_law_number", "_law_name"] (z9t K)) : FnOk P w K mg base CX0 2 f fd ["_law_gaps_here", "_law_number", "_law_name"] (z9m K) := by
 have nd := z5p.nd
 refine F.ok z5p (fun vs H Q E h => ?_) (fun cdv A outer s H vs Q E hr h => ?_)
 ·obtain ⟨lg, zs, ns, rows, r, num, z, rfl, _⟩ := h
  rfl
 obtain ⟨lg, zs, ns, rows, r, num, z, rfl, hG, tG, q⟩ := h
 refine ⟨_, (z04 (z0R (z08 z2U (z0f z0a rfl M.len PySem.boot_len (z00 (z0r G_law_again (hr.mono (by omega)) rfl (z00 (pv 0) (z00 (pv 1) (z00 (pv 2) z03)))) z03)) z06 (z0l _)) (z07 (z0o z2b)) z0q) (z04 (z0R (z08 (y4O hr.units0) (z1F ["_law_gap"] ["_law_number"] [1] rfl (z0y rfl (by decide +kernel) rfl (by decide +kernel) rfl rfl) (z1Z (pv 0)) (fun _ _ _ _ _ => (z0n (i := 0) (show ((["_law_gap"] : List PySem.Str) ++ (["_law_number"] : List PySem.Str)).Nodup from by decide +kernel) rfl (Or.inl rfl))) (z0C (by decide)) z0e (fun _ _ _ _ _ => (z2W (PW.pt (z3F (z08 z2U (z0E (r := rIxT K) z0S (pv 0) z06 (fun _ _ => rfl)) (pv 1) (z0l _)) (z38 (z08 z2s (z0E (r := rIxT K) z0S (pv 0) z06 (fun _ _ => rfl)) z06 (z0l _))))))) (fun _ _ _ _ _ => (z0E (r := rIxT K) z0S (pv 0) z06 (fun _ _ => rfl)))) (z1V z03) (z0l _)) (z07 (z0o z2b)) z0q) (z07 (z0o z2b)))), ?_⟩
 have lz := z6n tG
 have l60 := z2X ns
 refine ⟨_, rfl, _, rfl, _, rfl, lg, zs, ns, rows, r, num, z, rfl, hG, tG, fun v H1 s1 t1 => ?_⟩
 obtain ⟨a, xs, rfl, ha, _, ta⟩ := z0s t1
 have lx : xs.length = (z32 ns rows r num z).length := by rw [ta.length, List.length_map]
 refine ⟨a, xs, rfl, .inr (SqT.of ha), _, _, rfl, rfl, _, rfl, ?_⟩
 rw [lx]
 refine ite2 (fun c => ?_) (fun c => ?_)
 ·have c' : (0 : Int) < ((z32 ns rows r num z).length : Int) := z0H c
  have e : z1d ns rows r num z = "stale" := by
   unfold z1d
   rw [if_pos (by omega)]
  exact (by rw [<- e]; exact q _ s1)
 have c' : ¬ (0 : Int) < ((z32 ns rows r num z).length : Int) := z3E c
 have nx : ¬ 0 < (z32 ns rows r num z).length := by omega
 refine ⟨_, rfl, lg, rfl, ⟨_, s1.seq hG⟩, ?_⟩
 refine z3l (xs := zs) (fun i ys H' => H' = H1 /\ ys = (((z1T ns).take i).filter fun n => decide (num < n) && decide (z10 ns n r = 0)).map V.int) ⟨rfl, rfl⟩ (fun i ys H' hi hp => ?_) (fun i x ys H' hx hp => ?_) (fun ys H' hp => ?_)
 ·obtain ⟨rfl, rfl⟩ := hp
  refine ⟨s1.seq hG, z0i ?_⟩
  have := List.length_filter_le (fun n => decide (num < n) && decide (z10 ns n r = 0)) ((z1T ns).take i)
  rw [List.length_take] at this
  rw [List.length_map]
  omega
 ·obtain ⟨rfl, rfl⟩ := hp
  obtain ⟨n, a2, b2, en, rfl, ha2, hb2⟩ := z6w (z09.keep s1 _ _ tG) hx
  have sa : SqT K H' a2 [V.int n, V.int (z10 ns n r), V.ref b2] := SqT.of ha2
  have tks := z0w en
  refine ⟨_, rfl, a2, _, 0, _, rfl, rfl, sa, rfl, _, rfl, _, _, rfl, rfl, _, rfl, ?_⟩
  rw [tks, List.filter_append, List.filter_cons]
  refine ite2 (fun c => ?_) (fun c => ?_)
  ·refine ⟨_, rfl, a2, _, 1, _, rfl, rfl, sa, rfl, rfl, _, rfl, ?_⟩
   rw [c, Bool.true_and]
   refine ite2 (fun c2 => ?_) (fun c2 => ?_)
   ·have c3 : z10 ns n r = 0 := by
     have := z0H c2
     injection this
    rw [decide_eq_true c3, if_pos rfl, List.map_append]
    exact ⟨_, rfl, a2, _, 0, _, rfl, rfl, sa, rfl, rfl, rfl⟩
   ·have c3 : ¬ z10 ns n r = 0 := fun e => z3E c2 (by rw [e])
    rw [decide_eq_false c3, if_neg Bool.false_ne_true, List.filter_nil, List.append_nil]
    exact ⟨rfl, rfl⟩
  ·rw [Bool.eq_false_iff.mpr c, Bool.false_and]
   refine iteF ?_
   rw [if_neg Bool.false_ne_true, List.filter_nil, List.append_nil]
   exact ⟨rfl, rfl⟩
 ·obtain ⟨rfl, rfl⟩ := hp
  rw [lz, List.take_length]
  have ed : ((z1T ns).filter fun n => decide (num < n) && decide (z10 ns n r = 0)) = z26 ns r num := rfl
  rw [ed]
  intro D hD
  refine ⟨(by show 0 ≤ sizeLine; decide), fun e0 he0 => ⟨D, e0, _, rfl, rfl, SqL.of (z01 he0 _ _ _ z02), SqL.of z02, _, rfl, ?_⟩⟩
  have s2 := s1.trans ((z01 hD (.lst ((z26 ns r num).map V.int))).trans (z01 he0 (.lst [])))
  cases e : z26 ns r num with
  | nil =>
   rw [e] at s2
   refine iteF ?_
   have es : z1d ns rows r num z = "sure" := by
    unfold z1d
    rw [if_neg nx, if_pos e]
   exact (by rw [<- es]; exact q _ s2)
  | cons y ys =>
   rw [e] at s2
   refine iteT ?_
   have es : z1d ns rows r num z = "open" := by
    unfold z1d
    rw [if_neg nx, if_neg (by rw [e]; simp)]
   exact (by rw [<- es]; exact q _ s2)
def tabD (ns : List Int) (rows : List Row) (r : Int) (z : Str) : DV := .tup [.str z, .str (z1d ns rows r (z2c (z0T (z0j ns) rows z)) z), .int (z2c (z0T (z0j ns) rows z)), z9r (z0T (z0j ns) rows z)]
theorem y32 {ds : List DV} {n : Nat} (h : ∀ d ∈ ds, d.deep ≤ n) : DV.deeps ds ≤ n := by
 induction ds with
 | nil => unfold DV.deeps; exact Nat.zero_le _
 | cons d r ih =>
  unfold DV.deeps
  exact Nat.max_le.mpr ⟨h d List.mem_cons_self, ih fun x hx => h x (List.mem_cons_of_mem _ hx)⟩
theorem z9R {ds : List DV} {n : Nat} (h : ∀ d ∈ ds, d.deep ≤ n) : (DV.tup ds).deep ≤ n + 1 := by
 unfold DV.deep
 exact Nat.succ_le_succ (y32 h)
theorem z7L (i : Int) (n : Nat) : (DV.int i).deep ≤ n := by unfold DV.deep; exact Nat.zero_le _
theorem y2Q (i : Str) (n : Nat) : (DV.str i).deep ≤ n := by unfold DV.deep; exact Nat.zero_le _
theorem z3T {rows : List Row} {j : Nat} {k : Int} (h0 : 1 ≤ k) (h : k ≤ j) : z1h (rows.take j) k = z1h rows k := by
 unfold z1h
 have hk : (k - 1).toNat < j := by omega
 rw [List.getD_eq_getElem?_getD, List.getD_eq_getElem?_getD, List.getElem?_take, if_pos hk]
theorem z9a {rows : List Row} {j : Nat} {n r : Int} (h0 : 1 ≤ n) (h : n ≤ j) : z1o (rows.take j) n r = z1o rows n r := by
 unfold z1o y2M
 rw [z3T h0 h]
 have e : (z4Z n r).map (y0g (rows.take j)) = (z4Z n r).map (y0g rows) := List.map_congr_left fun k hk => by
  unfold z4Z at hk
  rw [List.mem_filter, z7F] at hk
  unfold y0g
  rw [z3T (by omega) (by omega)]
 rw [e]
abbrev OfP := Hp -> Addr -> List Addr -> List Str -> Int -> List Row -> Prop
structure OfOk (C : Addr) (ms : List Str) (Of : OfP) : Prop where
 ins : ∀ {H p fp zs r rows}, Of H p fp zs r rows -> ∃ dx fs, H p = some (.ins C dx fs) /\ ∀ m ∈ ms, fs.lookup m = none
 own : ∀ {H p fp zs r rows}, Of H p fp zs r rows -> ∀ b ∈ fp, ∃ o, H b = some o /\ ∀ xs, o ≠ .tup xs
 keep : ∀ {H H' p fp gp zs r rows}, Of H p fp zs r rows -> z0v gp H H' -> (∀ b ∈ gp, b ∉ fp) -> z4m H gp -> Of H' p fp zs r rows
theorem OfOk.same {C : Addr} {ms : List Str} {Of : OfP} (O : OfOk C ms Of) {H H' : Hp} {p : Addr} {fp : List Addr} {zs : List Str} {r : Int} {rows : List Row} (h : Of H p fp zs r rows) (s : Same H H') : Of H' p fp zs r rows :=
 O.keep (gp := []) h (.of s) (fun _ q => by cases q) fun _ q => by cases q
theorem OfOk.noTup {C : Addr} {ms : List Str} {Of : OfP} (O : OfOk C ms Of) {H : Hp} {p : Addr} {fp : List Addr} {zs : List Str} {r : Int} {rows : List Row} (h : Of H p fp zs r rows) : z4m H fp := fun b m xs e => by
 obtain ⟨o, e1, n⟩ := O.own h b m
 rw [e1] at e
 exact n xs (Option.some.inj e)
def z7d (K : PySem.W.Frag) (H : Hp) (fp : List Addr) (u : V) (p : Str × Int) : Prop := ∃ a, u = .ref a /\ (SqL K H a [.str p.1, .int p.2] \/ SqT K H a [.str p.1, .int p.2]) /\ a ∉ fp
def y1M (K : PySem.W.Frag) (H : Hp) (fp : List Addr) (v : V) (pr : Row) : Prop := ∃ a us, v = .ref a /\ SqP K H a us /\ a ∉ fp /\ Paired (z7d K H fp) us pr
def z1f (zs : List Str) (pr : Row) : Row := zs.filterMap fun z => pr.find? fun p => decide (p.1 = z)
structure GoodR (zs : List Str) (pr : Row) : Prop where
 nd : (pr.map Prod.fst).Nodup
 sub : ∀ p ∈ pr, p.1 ∈ zs
 val : ∀ p ∈ pr, 0 ≤ p.2 /\ p.2 ≤ 1000000
def z7W (K : PySem.W.Frag) (C : Addr) (Of : OfP) : Sp := fun vs H Q _ => ∃ (x dx pn : Addr) (zs : List Str) (r : Int), vs = [.ref x, .ref pn, .int r] /\ H x = some (.ins C dx []) /\ dx ≠ x /\ H dx = some (.own x) /\ HdN K H pn zs /\ GoodN zs /\ 0 ≤ r /\ r ≤ 10 /\
 ∀ (fp : List Addr) (H' : Hp), (∀ b ∈ fp, b = x \/ b = dx \/ H b = none) -> z0v [x] H H' -> Of H' x fp zs r [] -> Q .non H'
def z6e (K : PySem.W.Frag) (Of : OfP) : Sp := fun vs H Q _ => ∃ (p : Addr) (v : V) (fp : List Addr) (zs : List Str) (r : Int) (rows : List Row) (pr : Row), vs = [.ref p, v] /\ Of H p fp zs r rows /\ y1M K H fp v pr /\ GoodR zs pr /\ pr.length ≤ 12 /\ rows.length < 60 /\
 ∀ (fp' : List Addr) (H' : Hp), (∀ b ∈ fp', b ∈ fp \/ H b = none) -> z0v fp H H' -> Of H' p fp' zs r (rows ++ [z1f zs pr]) -> Q (.int (rows.length + 1)) H'
def z56 (Of : OfP) : Sp := fun vs H Q _ => ∃ (p : Addr) (fp : List Addr) (zs : List Str) (r : Int) (rows : List Row), vs = [.ref p] /\ Of H p fp zs r rows /\ ∀ H', Same H H' -> Q (.int rows.length) H'
def z3A (Of : OfP) : Sp := fun vs H Q _ => ∃ (p : Addr) (fp : List Addr) (zs : List Str) (r : Int) (rows : List Row) (n : Int), vs = [.ref p, .int n] /\ Of H p fp zs r rows /\ 1 ≤ n /\ n ≤ rows.length /\
 ∀ (v : V) (H' : Hp), Same H H' -> Tell H' (z1o rows n r) v -> Q v H'
theorem z30 {z : Str} {zs : List Str} {pr : Row} : z1f (z :: zs) pr = (match pr.find? fun p => decide (p.1 = z) with | some p => p :: z1f zs pr | none => z1f zs pr) := by
 unfold z1f
 rw [List.filterMap_cons]
 cases pr.find? fun p => decide (p.1 = z) <;> rfl
theorem z5o {p : Str × Int} {w : Row} : ∀ {zs : List Str}, p.1 ∉ zs -> z1f zs (p :: w) = z1f zs w
 | [], _ => rfl
 | y :: ys, h => by
  rw [List.mem_cons, not_or] at h
  rw [z30, z30, List.find?_cons, decide_eq_false h.1, z5o h.2]
theorem z4j : ∀ {zs : List Str} {w : Row}, zs.Nodup -> (w.map Prod.fst).Sublist zs -> z1f zs w = w
 | [], w, _, h => by
  have : w.map Prod.fst = [] := List.sublist_nil.mp h
  rw [List.map_eq_nil_iff] at this
  rw [this]
  rfl
 | z :: zs, w, nd, h => by
  rw [List.nodup_cons] at nd
  generalize e : w.map Prod.fst = l at h
  cases h with
  | cons _ h =>
   subst e
   have no : w.find? (fun p => decide (p.1 = z)) = none := List.find?_eq_none.mpr fun p hp => by
    have : p.1 ∈ zs := h.subset (List.mem_map_of_mem hp)
    intro e
    exact nd.1 (of_decide_eq_true e ▸ this)
   rw [z30, no]
   exact z4j nd.2 h
  | cons_cons _ h =>
   cases w with
   | nil => cases e
   | cons p w =>
    rw [List.map_cons] at e
    injection e with e1 e2
    subst e2
    rw [z30, List.find?_cons, decide_eq_true e1, z5o (by rw [e1]; exact nd.1), z4j nd.2 h]
def tsN (n : Int) (j : Nat) : List Int := (dnI n j).filter fun k => decide (1 ≤ k)
def tsP (ss : List (List Str)) (k : Int) : DV := .tup [.int k, nmsD (ss.getD (k - 1).toNat [])]
def tsD (ss : List (List Str)) (r : Int) : DV := .tup ((tsN ss.length r.toNat).map (tsP ss))
theorem y3T (n : Int) (j : Nat) : (tsN n j).length ≤ j := by
 have h := List.length_filter_le (fun k => decide (1 ≤ k)) (dnI n j)
 rw [y10] at h
 exact h
def y0B (K : PySem.W.Frag) : Sp := fun vs H Q _ => ∃ (p : Addr) (xs : List V) (ss : List (List Str)) (r : Int), vs = [.ref p, .int r] /\ (SqL K H p xs \/ SqT K H p xs) /\ z09 H (ss.map nmsD) xs /\ ss.length ≤ 59 /\ (∀ s ∈ ss, s.length ≤ 12) /\ 0 ≤ r /\ r ≤ 10 /\
 ∀ (v : V) (H' : Hp), Same H H' -> Tell H' (tsD ss r) v -> Q v H'
def z5U : Sp := fun vs H Q _ => ∃ n r : Int, vs = [.int n, .int r] /\ 1 ≤ n /\ n ≤ 60 /\ 0 ≤ r /\ r ≤ 10 /\
 ∀ (l : Addr) (H' : Hp), Same H H' -> H' l = some (.tup (((upI 1 60).filter fun x => decide (x ≤ n) && decide (n - x ≤ r)).map V.int)) -> Q (.ref l) H'
theorem y0r {n r : Int} (h1 : 1 ≤ n) (h2 : n ≤ 60) (h3 : 0 ≤ r) (h4 : r ≤ 10) :
  rngV (if n - r > 1 then n - r else 1) (n + 1 - (if n - r > 1 then n - r else 1)).toNat = ((upI 1 60).filter fun x => decide (x ≤ n) && decide (n - x ≤ r)).map V.int := by
 rw [y41]
 refine congrArg (List.map V.int) (z29 (z1Y _ _) ((z1Y _ _).filter _) fun x => ?_)
 rw [List.mem_filter, z1C, z1C, Bool.and_eq_true, decide_eq_true_eq, decide_eq_true_eq]
 split <;> omega
theorem y0l (M : Bl mg) (F : Fun K "reached_by" "reached_by" z2j f fd) : FnOk P w K mg base CX0 1 f fd ["number", "reach"] z5U := by
 have nd := z5r.nd
 refine F.ok z5r (fun vs H Q E h => ?_) (fun cdv A outer s H vs Q E hr h => ?_)
 ·obtain ⟨n, r, rfl, _⟩ := h
  rfl
 obtain ⟨n, r, rfl, h1, h2, h3, h4, q⟩ := h
 refine ⟨_, (z07 (z0o (z0x (z6F rfl) rfl M.tuple PyProof.Rows.boot_tuple (z00 (z0x y0S rfl M.range PyProof.Rows.boot_range (z00 (z0f (z8K rfl) rfl M.max PyProof.Rows.boot_max (z00 z06 (z00 (z0h z37 (pv 0) (pv 1)) z03))) (z00 (z0h z0Z (pv 0) z06) z03))) z03)))), ?_⟩
 refine ⟨_, rfl, _, rfl, _, _, rfl, rfl, _, _, rfl, _, rfl, _, _, rfl, rfl, _, _, rfl, fun p hp => ?_⟩
 refine ⟨p, _, _, rfl, z02, ⟨?_, ?_, ?_, ?_⟩, ?_, fun l hl => ?_⟩
 ·split <;> omega
 ·split <;> omega
 ·omega
 ·omega
 ·split <;> omega
 ·refine q l _ ((z01 hp _).trans (z01 hl _)) ?_
  rw [z02, y0r h1 h2 h3 h4]
theorem z5Z (hi : Int) (j : Nat) : (dnI hi j).Pairwise (· > ·) := by
 unfold dnI
 rw [List.pairwise_map]
 exact List.pairwise_lt_range.imp fun h => by omega
theorem z5K {n : Int} {j : Nat} {x : Int} : x ∈ tsN n j ↔ 1 ≤ x /\ n - j < x /\ x ≤ n := by
 unfold tsN
 rw [List.mem_filter, z7F, decide_eq_true_eq]
 omega
theorem y3z (n : Int) (j : Nat) : (tsN n j).reverse.Pairwise (· < ·) := by
 rw [List.pairwise_reverse]
 exact ((z5Z n j).filter _).imp fun h => h
theorem y0z {n r : Int} (h0 : 0 ≤ n) (h1 : n ≤ 59) (r0 : 0 ≤ r) (r1 : r ≤ 10) : ((upI 1 60).filter fun x => decide (x ≤ n + 1) && decide (n + 1 - x ≤ r)) = (tsN n r.toNat).reverse ++ [n + 1] := by
 refine z29 ((z1Y _ _).filter _) (List.pairwise_append.mpr ⟨y3z _ _, List.pairwise_singleton _ _, fun x hx y hy => ?_⟩) fun x => ?_
 ·rw [List.mem_reverse, z5K] at hx
  rw [List.mem_singleton] at hy
  omega
 ·rw [List.mem_filter, z1C, Bool.and_eq_true, decide_eq_true_eq, decide_eq_true_eq, List.mem_append, List.mem_reverse, z5K, List.mem_singleton]
  omega
theorem y3v (M : Bl mg) (F : Fun K "tail_for" "tail_for" z3g f fd) (Greached_by : Cal P w K mg base 1 "reached_by" ["number", "reach"] z5U) : FnOk P w K mg base CX0 2 f fd ["sets", "reach"] (y0B K) := by
 have nd := z6P.nd
 refine F.ok z6P (fun vs H Q E h => ?_) (fun cdv A outer s H vs Q E hr h => ?_)
 ·obtain ⟨p, xs, ss, r, rfl, _⟩ := h
  rfl
 obtain ⟨p, xs, ss, r, rfl, hS, tS, l60, l12, r0, r1, k⟩ := h
 refine ⟨_, (z04 (z0m (i := 2) nd rfl (Or.inl rfl) (z0h z0Z (z0f z0a rfl M.len PySem.boot_len (z00 (pv 0) z03)) z06)) (z04 (z0m (i := 3) nd rfl (Or.inl rfl) (z1X y23 (z0r Greached_by (hr.mono (by omega)) rfl (z00 (pv 2) (z00 (pv 1) z03))) z2B (z2A (y4B y3l z06)))) (z07 (z0o (z0x z0u rfl M.tuple PyProof.Rows.boot_tuple (z00 (z1F ["earlier"] ["sets"] [0] rfl (z0y rfl (by decide +kernel) rfl (by decide +kernel) rfl rfl) (y3f rfl M.reversed (z00 (pv 3) z03)) (fun _ _ _ _ _ => (z0n (i := 0) (show ((["earlier"] : List PySem.Str) ++ (["sets"] : List PySem.Str)).Nodup from by decide +kernel) rfl (Or.inl rfl))) (z0C (by decide)) z0e (fun _ _ _ _ _ => z2D) (fun _ _ _ _ _ => (z11 (z00 (pv 0) (z00 (z0x (z6B (K := K) rfl) rfl M.tuple PyProof.Rows.boot_tuple (z00 (z0E (r := rIx K) y4A (pv 1) (z0h z37 (pv 0) z06) (fun _ _ => rfl)) z03)) z03))))) z03)))))), ?_⟩
 have lx : xs.length = ss.length := by rw [tS.length, List.length_map]
 have lx' : (xs.length : Int) = ss.length := by omega
 refine ⟨_, rfl, p, xs, rfl, hS, _, _, rfl, rfl, ?_⟩
 refine ⟨_, rfl, _, rfl, (xs.length : Int) + 1, r, rfl, by omega, by omega, r0, r1, fun l H1 s1 e1 => ?_⟩
 rw [lx', y0z (by omega) (by omega) r0 r1] at e1
 have eL : (((tsN ss.length r.toNat).reverse ++ [(ss.length : Int) + 1]).map V.int).length = (tsN ss.length r.toNat).length + 1 := by
  rw [List.length_map, List.length_append, List.length_reverse]
  rfl
 have sx : HT.sIx (((tsN ss.length r.toNat).reverse ++ [(ss.length : Int) + 1]).map V.int).length (((tsN ss.length r.toNat).reverse ++ [(ss.length : Int) + 1]).map V.int).length (some (-1)) = (tsN ss.length r.toNat).length := by
  rw [eL]
  show (if (-1 : Int) < 0 then (-1 + (((tsN ss.length r.toNat).length + 1 : Nat) : Int)).toNat else min (-1 : Int).toNat ((tsN ss.length r.toNat).length + 1)) = _
  rw [if_pos (by decide)]
  omega
 have cut : cutV (((tsN ss.length r.toNat).reverse ++ [(ss.length : Int) + 1]).map V.int) none (some (-1)) = (tsN ss.length r.toNat).reverse.map V.int := by
  unfold cutV
  rw [sx]
  show List.take ((tsN ss.length r.toNat).length - 0) (List.drop 0 _) = _
  rw [List.drop_zero, Nat.sub_zero, List.map_append, List.take_left' (by rw [List.length_map, List.length_reverse])]
 refine ⟨_, rfl, -1, rfl, l, _, rfl, SqT.of e1, ?_, fun a ha => ?_⟩
 ·rintro ⟨_, z⟩
  rw [sx, eL] at z
  omega
 rw [cut]
 have s2 := s1.trans (z01 ha (.tup ((tsN ss.length r.toNat).reverse.map V.int)))
 have e2 : upd H1 a (.tup ((tsN ss.length r.toNat).reverse.map V.int)) a = some (.tup ((tsN ss.length r.toNat).reverse.map V.int)) := z02
 generalize upd H1 a (.tup ((tsN ss.length r.toNat).reverse.map V.int)) = H2 at s2 e2
 have le := y3T ss.length r.toNat
 have lr : ((tsN ss.length r.toNat).reverse.map V.int).length = (tsN ss.length r.toNat).length := by rw [List.length_map, List.length_reverse]
 refine ⟨_, rfl, a, _, rfl, SqT.of e2, ?_⟩
 refine y2O (fun i ys H' => Same H2 H' /\ z09 H' (((tsN ss.length r.toNat).take i).map (tsP ss)) ys) ⟨Same.refl _, by rw [List.take_zero]; exact .nil⟩ (fun i ys H' hi hp => ?_) (fun i x ys H' hx hp => ?_) (fun ys H' hp => ?_)
 ·obtain ⟨g, t⟩ := hp
  refine ⟨SqT.of (g _ _ e2), z0i ?_⟩
  rw [t.length, List.length_map, List.length_take]
  omega
 ·obtain ⟨g, t⟩ := hp
  rw [<- List.map_reverse, List.reverse_reverse, List.getElem?_map] at hx
  obtain ⟨m, hm, rfl⟩ := Option.map_eq_some_iff.mp hx
  have hb := z5K.mp (List.mem_of_getElem? hm)
  have hk : (m - 1).toNat < ss.length := by omega
  have t2 := z09.keep (s2.trans g) _ _ tS
  obtain ⟨v, ev, tv⟩ := t2.get (m - 1).toNat (nmsD (ss.getD (m - 1).toNat [])) (by
   rw [List.getElem?_map, List.getD_eq_getElem?_getD, List.getElem?_eq_getElem hk]
   rfl)
  have av : atI xs (m - 1) = some v := by
   have e : m - 1 = (((m - 1).toNat : Nat) : Int) := by omega
   rw [e]
   exact z1k ev
  obtain ⟨b, us, rfl, eb, _, _⟩ := z0s tv
  refine ⟨_, rfl, _, rfl, _, rfl, _, _, rfl, rfl, ?_⟩
  have go : ∀ (z : Tell H' (nmsD (ss.getD (m - 1).toNat [])) (.ref b)), y3j K [.ref b] H' fun x H3 => [V.int m, x].length ≤ sizeLine /\ ∀ q, H3 q = none -> Same H2 (upd H3 q (.tup [.int m, x])) /\ z09 (upd H3 q (.tup [.int m, x])) (((tsN ss.length r.toNat).take (i + 1)).map (tsP ss)) (ys ++ [.ref q]) := fun z =>
   ⟨b, us, rfl, .inr ⟨SqT.of eb, by show 2 ≤ sizeLine; decide, fun q hq => ⟨g.trans (z01 hq _), by
    rw [List.take_add_one, hm, List.map_append]
    exact z09.snoc (z09.keep (z01 hq _) _ _ t) (z0D z02 (by show 2 ≤ 1000000; decide) (.cons (z0F _) (.cons (Tell.keep (z01 hq _) _ _ z) .nil)))⟩⟩⟩
  rcases hS with hS | hS
  ·exact .inl ⟨p, xs, _, .ref b, rfl, rfl, (s2.trans g).seq hS, av, go tv⟩
  ·exact .inr (.inl ⟨p, xs, _, .ref b, rfl, rfl, z5F (s2.trans g) hS, av, go tv⟩)
 ·obtain ⟨g, t⟩ := hp
  rw [lr, List.take_length] at t
  intro D hD
  refine ⟨D, ys, rfl, .inl ⟨SqL.of z02, fun q hq => k _ _ (s2.trans (g.trans ((z01 hD _).trans (z01 hq _)))) (z0D z02 ?_ (z09.keep ((z01 hD _).trans (z01 hq _)) _ _ t))⟩⟩
  rw [List.length_map]
  omega
def kvR (p : Str × Int) : Key × V := (Sum.inr p.1, .int p.2)
def y2D (K : PySem.W.Frag) : Sp := fun vs H Q _ => ∃ (p : Addr) (zs : List Str) (z : Str), vs = [.ref p, .str z] /\ SqN K H p zs /\ z ∈ zs /\ Q .non H
theorem z8C (x : Str) (ns : List Str) : inV (.str x) (ns.map V.str) = decide (x ∈ ns) := by
 unfold inV
 rw [Bool.eq_iff_iff, List.any_map, List.any_eq_true, decide_eq_true_eq]
 constructor
 ·rintro ⟨y, hy, e⟩
  have : y = x := by simpa [eqV] using e
  exact this ▸ hy
 ·intro h
  exact ⟨x, h, by simp [eqV]⟩
theorem y4n (M : Bl mg) (F : Fun K "refuse_unknown_name" "refuse_unknown_name" z0N f fd) : FnOk P w K mg base CX0 1 f fd ["names", "name"] (y2D K) := by
 have nd := z2v.nd
 refine F.ok z2v (fun vs H Q E h => ?_) (fun cdv A outer s H vs Q E hr h => ?_)
 ·obtain ⟨p, zs, z, rfl, _⟩ := h
  rfl
 obtain ⟨p, zs, z, rfl, hp, hz, k⟩ := h
 refine ⟨_, (z07 (z0R (z08 z21 (pv 1) (pv 0) (by with_unfolding_all rfl)) (z07 z1A) z0q)), ?_⟩
 refine ⟨_, rfl, _, rfl, p, _, rfl, hp, rfl, z4I zs, _, rfl, ?_⟩
 rw [if_pos rfl, z8C, decide_eq_true hz]
 exact ite2 (fun c => absurd c (by decide)) fun _ => k
def z7c : Sp := fun vs H Q _ => ∃ v : Int, vs = [.int v] /\ 0 ≤ v /\ v ≤ 1000000 /\ Q .non H
theorem y1V (M : Bl mg) (F : Fun K "refuse_bad_value" "refuse_bad_value" z16 f fd) : FnOk P w K mg base CX0 1 f fd ["value"] z7c := by
 have nd := z31.nd
 refine F.ok z31 (fun vs H Q E h => ?_) (fun cdv A outer s H vs Q E hr h => ?_)
 ·obtain ⟨r, rfl, _⟩ := h
  rfl
 obtain ⟨r, rfl, r0, r1, k⟩ := h
 refine ⟨_, (z07 (z0R (PW.pt (z5S (z08 z6H (pv 0) z06 (z0l _)) (z3D (z08 z2U (pv 0) (z2R rfl M.MOST_VALUE) (z0l _))))) (z07 z1A) z0q)), ?_⟩
 refine ⟨_, rfl, _, _, rfl, rfl, _, rfl, ite2 (fun q => absurd (z0H q) (by omega)) fun _ => ?_⟩
 exact ⟨_, rfl, _, _, rfl, rfl, _, rfl, ite2 (fun q => absurd (z0H q) (by omega)) fun _ => k⟩
def z2C (K : PySem.W.Frag) (H : Hp) (u : V) (p : Str × Int) : Prop := ∃ a, u = .ref a /\ (SqL K H a [.str p.1, .int p.2] \/ SqT K H a [.str p.1, .int p.2])
theorem z2C.keep {K : PySem.W.Frag} {H H' : Hp} (s : Same H H') : ∀ {us : List V} {pr : Row}, Paired (z2C K H) us pr -> Paired (z2C K H') us pr
 | _, _, .nil => .nil
 | _, _, .cons ⟨a, e, h⟩ t => .cons ⟨a, e, h.imp (fun q => s.seq q) fun q => z5F s q⟩ (z2C.keep s t)
theorem z2C.at {K : PySem.W.Frag} {H : Hp} : ∀ {us : List V} {pr : Row}, Paired (z2C K H) us pr -> ∀ (i : Nat) (x : V), us[i]? = some x -> ∃ p, pr[i]? = some p /\ z2C K H x p
 | _, _, .nil, i, x, e => by simp at e
 | _, _, .cons r t, 0, x, e => by
  simp at e
  subst e
  exact ⟨_, rfl, r⟩
 | _, _, .cons r t, i + 1, x, e => by
  obtain ⟨y, h1, h2⟩ := z2C.at t i x (by simpa using e)
  exact ⟨y, by simpa using h1, h2⟩
theorem z2C.pairs {K : PySem.W.Frag} {H : Hp} : ∀ {us : List V} {pr : Row}, Paired (z2C K H) us pr -> Paired (y1K K H) us (pr.map kvR)
 | _, _, .nil => .nil
 | _, _, .cons ⟨a, e, h⟩ t => .cons ⟨a, e, h⟩ (z2C.pairs t)
theorem z2C.of {K : PySem.W.Frag} {H : Hp} {fp : List Addr} : ∀ {us : List V} {pr : Row}, Paired (z7d K H fp) us pr -> Paired (z2C K H) us pr
 | _, _, .nil => .nil
 | _, _, .cons ⟨a, e, h, _⟩ t => .cons ⟨a, e, h⟩ (z2C.of t)
theorem SqP.or {K : PySem.W.Frag} {H : Hp} {a : Addr} {us : List V} (h : SqP K H a us) : SqL K H a us \/ SqT K H a us := h.imp id SqT.of
theorem SqP.keep {K : PySem.W.Frag} {H H' : Hp} {a : Addr} {us : List V} (s : Same H H') (h : SqP K H a us) : SqP K H' a us := h.imp (fun q => s.seq q) fun q => s _ _ q
def z5G (K : PySem.W.Frag) : Sp := fun vs H Q _ => ∃ (pn a : Addr) (zs : List Str) (us : List V) (pr : Row), vs = [.ref pn, .ref a] /\ SqN K H pn zs /\ SqP K H a us /\ Paired (z2C K H) us pr /\ GoodR zs pr /\ pr.length ≤ 12 /\ ∀ H', Same H H' -> Q .non H'
theorem y0u (M : Bl mg) (F : Fun K "refuse_bad_rows" "refuse_bad_rows" z1b f fd) (Grefuse_unknown_name : Cal P w K mg base 1 "refuse_unknown_name" ["names", "name"] (y2D K))
  (Grefuse_bad_value : Cal P w K mg base 1 "refuse_bad_value" ["value"] z7c) : FnOk P w K mg base CX0 2 f fd ["names", "rows"] (z5G K) := by
 have nd := z3f.nd
 refine F.ok z3f (fun vs H Q E h => ?_) (fun cdv A outer s H vs Q E hr h => ?_)
 ·obtain ⟨pn, a, zs, us, pr, rfl, _⟩ := h
  rfl
 obtain ⟨pn, a, zs, us, pr, rfl, hn, ha, hp, g, l12, k⟩ := h
 refine ⟨_, (z04 (z4X (i := 2) ["name", "value"] [] [] rfl nd rfl (Or.inl rfl) (z0y rfl (by decide +kernel) rfl (by decide +kernel) rfl rfl) (y1E (pv 1)) (fun _ _ _ _ _ => (y0M (K := K) (n := 2) rfl rfl (z1M (z0n (i := 0) (show ((["name", "value"] : List PySem.Str) ++ ([] : List PySem.Str)).Nodup from by decide +kernel) rfl (Or.inl rfl)) (z1M (z0n (i := 1) (show ((["name", "value"] : List PySem.Str) ++ ([] : List PySem.Str)).Nodup from by decide +kernel) rfl (Or.inl rfl)) z4U)))) (y48 (z27 (z0C (by decide)) z0e (z27 (z0C (by decide)) z0e z5X z1i) (z0W z0e z1i))) (y2v (z0W z0e (z0W z0e z1i))) (fun _ _ _ _ _ => z2D) (fun _ _ _ _ _ => (pv 0))) (z04 (z1p PassesOwn.never rfl (z1Z (pv 2)) (z0n (i := 3) nd rfl (Or.inl rfl)) (z07 (z0A (z0r Grefuse_unknown_name (hr.mono (by omega)) rfl (z00 (pv 0) (z00 (pv 3) z03)))))) (z04 (z0R (z08 z98 (z0f z4N rfl M.len PySem.boot_len (z00 (z0x (z47 rfl) rfl M.set PyProof.Rows.boot_set (z00 (pv 2) z03)) z03)) (z0f z0a rfl M.len PySem.boot_len (z00 (pv 2) z03)) (z0l _)) (z07 z1A) z0q) (z07 (z1p PassesOwn.never rfl (y1E (pv 1)) (y0M (K := K) (n := 2) rfl rfl (z1M (z0n (i := 3) nd rfl (Or.inl rfl)) (z1M (z0n (i := 4) nd rfl (Or.inl rfl)) z4U))) (z07 (z0A (z0r Grefuse_bad_value (hr.mono (by omega)) rfl (z00 (pv 4) z03))))))))), ?_⟩
 obtain ⟨t, ht⟩ := SqS.of (SqP.or ha)
 have lu : us.length = pr.length := hp.length
 refine ⟨_, rfl, a, t, rfl, ⟨_, ht⟩, ?_⟩
 refine z9U (xs := us) (fun i ys H' => H' = H /\ ys = ((pr.take i).map Prod.fst).map V.str) ⟨rfl, rfl⟩ (fun i ys H' hi hq => ?_) (fun i x ys H' hx hq => ?_) (fun ys H' hq => ?_)
 ·obtain ⟨rfl, rfl⟩ := hq
  refine ⟨ht, z0i ?_⟩
  rw [List.length_map, List.length_map, List.length_take]
  omega
 ·obtain ⟨rfl, rfl⟩ := hq
  obtain ⟨p, ep, b, rfl, hb⟩ := z2C.at hp i x hx
  refine ⟨b, _, rfl, hb, rfl, _, _, rfl, _, _, rfl, rfl, ?_⟩
  refine ⟨_, rfl, rfl, ?_⟩
  rw [z0w ep, List.map_append, List.map_append]
  rfl
 obtain ⟨rfl, rfl⟩ := hq
 rw [lu, List.take_length]
 intro D hD
 have s1 := z01 hD (.lst ((pr.map Prod.fst).map V.str))
 have e1 : upd H' D (.lst ((pr.map Prod.fst).map V.str)) D = some (.lst ((pr.map Prod.fst).map V.str)) := z02
 generalize upd H' D (.lst ((pr.map Prod.fst).map V.str)) = H1 at s1 e1
 have hn1 := SqN.keep s1 hn
 have ht1 := SqS.keep s1 ht
 have hp1 := z2C.keep s1 hp
 refine ⟨_, rfl, D, rfl, ⟨_, SqL.of e1⟩, z2u (K := K) (a := D) (xs := (pr.map Prod.fst).map V.str) (fun i σ H2 => ∃ o : Option V, H2 = H1 /\ σ = [some (.ref pn), some (.ref a), some (.ref D), o, none]) ⟨none, rfl, rfl⟩ (fun i σ H2 _ ⟨_, e, _⟩ => e ▸ SqL.of e1) (fun i x σ H2 hx hq => ?_) (fun σ H2 hq => ?_)⟩
 ·obtain ⟨o, rfl, rfl⟩ := hq
  rw [List.getElem?_map] at hx
  obtain ⟨z, ez, rfl⟩ := Option.map_eq_some_iff.mp hx
  have hz : z ∈ zs := by
   obtain ⟨p, hpm, rfl⟩ := List.mem_map.mp (List.mem_of_getElem? ez)
   exact g.sub p hpm
  exact ⟨_, rfl, _, rfl, pn, zs, z, rfl, hn1, hz, _, rfl, rfl⟩
 obtain ⟨o, rfl, rfl⟩ := hq
 have lf : (pr.map Prod.fst).length = pr.length := List.length_map _
 refine ⟨_, rfl, D, pr.map Prod.fst, rfl, .inl (SqL.of e1), by omega, fun l hl => ⟨l, pr.map Prod.fst, rfl, z02, by omega, _, rfl, D, _, rfl, .inl (SqL.of (z01 hl _ _ _ e1)), rfl, _, rfl, ?_⟩⟩
 refine y4D (by rw [y1Q g.nd, List.length_map (f := V.str)]) ?_
 have s2 := s1.trans (z01 hl (SetT P w l (pr.map Prod.fst)))
 have ht2 := SqS.keep (z01 hl (SetT P w l (pr.map Prod.fst))) ht1
 have hp2 := z2C.keep (z01 hl (SetT P w l (pr.map Prod.fst))) hp1
 refine ⟨_, rfl, a, t, rfl, ⟨_, ht2⟩, ?_⟩
 refine y42 (xs := us) (fun i σ H3 => ∃ o1 o2 : Option V, H3 = upd H2 l (SetT P w l (pr.map Prod.fst)) /\ σ = [some (.ref pn), some (.ref a), some (.ref D), o1, o2]) ⟨_, _, rfl, rfl⟩ (fun i σ H3 _ ⟨_, _, e, _⟩ => e ▸ ht2) (fun i x σ H3 hx hq => ?_) (fun σ H3 hq => ?_)
 ·obtain ⟨o1, o2, rfl, rfl⟩ := hq
  obtain ⟨p, ep, b, rfl, hb⟩ := z2C.at hp2 i x hx
  have hv := g.val p (List.mem_of_getElem? ep)
  refine ⟨b, _, rfl, hb, rfl, _, _, rfl, _, _, rfl, rfl, ?_⟩
  exact ⟨_, rfl, p.2, rfl, hv.1, hv.2, _, _, rfl, rfl⟩
 ·obtain ⟨o1, o2, rfl, rfl⟩ := hq
  exact k _ s2
def z6t (K : PySem.W.Frag) : Sp := fun vs H Q _ => ∃ (pn a : Addr) (zs : List Str) (us : List V) (pr : Row), vs = [.ref pn, .ref a] /\ SqN K H pn zs /\ zs.length ≤ 12 /\ SqP K H a us /\ Paired (z2C K H) us pr /\ (pr.map Prod.fst).Nodup /\ pr.length ≤ 12 /\ ∀ (v : V) (H' : Hp), Same H H' -> Tell H' (rowD (z1f zs pr)) v -> Q v H'
theorem z7o {z : Str} : ∀ {pr : Row}, valV (pr.map kvR) (Sum.inr z : Key) = (pr.find? fun p => decide (p.1 = z)).map fun p => V.int p.2
 | [] => rfl
 | p :: w => by
  rw [List.map_cons, List.find?_cons]
  by_cases e : p.1 = z
  ·rw [z4O (show (kvR p).1 = Sum.inr z by unfold kvR; rw [e]), decide_eq_true e]
   rfl
  ·rw [z4x (show ¬ (kvR p).1 = Sum.inr z from fun q => e (Sum.inr.inj q)), decide_eq_false e]
   exact z7o
theorem z8q (zs : List Str) (z : Str) (pr : Row) : z1f (zs ++ [z]) pr = z1f zs pr ++ (match pr.find? fun p => decide (p.1 = z) with | some p => [p] | none => []) := by
 unfold z1f
 rw [List.filterMap_append, List.filterMap_cons]
 cases pr.find? fun p => decide (p.1 = z) <;> rfl
theorem z4k (zs : List Str) (pr : Row) : (z1f zs pr).length ≤ zs.length := List.length_filterMap_le _ _
theorem y0k (M : Bl mg) (F : Fun K "rows_in_order" "rows_in_order" z1q f fd) : FnOk P w K mg base CX0 1 f fd ["names", "rows"] (z6t K) := by
 have nd := z3H.nd
 refine F.ok z3H (fun vs H Q E h => ?_) (fun cdv A outer s H vs Q E hr h => ?_)
 ·obtain ⟨pn, a, zs, us, pr, rfl, _⟩ := h
  rfl
 obtain ⟨pn, a, zs, us, pr, rfl, hn, z12, ha, hp, ndr, l12, k⟩ := h
 have hu := z8X hr
 refine ⟨_, (z04 (z0m (i := 2) nd rfl (Or.inr rfl) (z0x (z3K (K := K) rfl rfl) rfl M.dict PyProof.Rows.boot_dict (z00 (pv 1) z03))) (z07 (z0o (z0x z0u rfl M.tuple PyProof.Rows.boot_tuple (z00 (z1F ["name"] ["values"] [2] rfl (z0y rfl (by decide +kernel) rfl (by decide +kernel) rfl rfl) (y1E (pv 0)) (fun _ _ _ _ _ => (z0n (i := 0) (show ((["name"] : List PySem.Str) ++ (["values"] : List PySem.Str)).Nodup from by decide +kernel) rfl (Or.inl rfl))) (z0C (by decide)) z0e (fun _ _ _ _ _ => (z2W (z9S (y1r hu (pv 0) (pv 1))))) (fun _ _ _ _ _ => (z11 (z00 (pv 0) (z00 (z6d hu (pv 1) (pv 0) (fun _ _ => rfl)) z03))))) z03))))), ?_⟩
 have lu : us.length = pr.length := hp.length
 refine ⟨_, rfl, a, us, pr.map kvR, rfl, ha, z2C.pairs hp, by omega, ?_, fun d hd => ?_⟩
 ·have e : (pr.map kvR).map (·.1) = (pr.map Prod.fst).map Sum.inr := by rw [List.map_map, List.map_map]; rfl
  rw [e, List.nodup_iff_pairwise_ne, List.pairwise_map]
  exact (List.nodup_iff_pairwise_ne.mp ndr).imp fun h e => h (Sum.inr.inj e)
 have s1 := z01 hd (.dK (pr.map kvR))
 have e1 : upd H d (.dK (pr.map kvR)) d = some (.dK (pr.map kvR)) := z02
 generalize upd H d (.dK (pr.map kvR)) = H1 at s1 e1
 obtain ⟨t, ht⟩ := SqS.of (SqN.keep s1 hn)
 refine ⟨_, rfl, pn, t, rfl, ⟨_, ht⟩, ?_⟩
 refine z9U (xs := zs.map V.str) (fun i ys H' => Same H1 H' /\ z09 H' ((z1f (zs.take i) pr).map z7R) ys) ⟨Same.refl _, by rw [List.take_zero]; exact .nil⟩ (fun i ys H' hi hq => ?_) (fun i x ys H' hx hq => ?_) (fun ys H' hq => ?_)
 ·obtain ⟨g, t'⟩ := hq
  refine ⟨SqS.keep g ht, z0i ?_⟩
  have := z4k (zs.take i) pr
  rw [List.length_take] at this
  rw [t'.length, List.length_map]
  omega
 ·obtain ⟨g, t'⟩ := hq
  rw [List.getElem?_map] at hx
  obtain ⟨z, ez, rfl⟩ := Option.map_eq_some_iff.mp hx
  refine ⟨_, rfl, _, rfl, d, _, rfl, DGet.k (k := Sum.inr z) (g _ _ e1), _, rfl, ?_⟩
  rw [z7o, z0w ez, z8q]
  cases ev : pr.find? fun p => decide (p.1 = z) with
  | none =>
   refine iteF ⟨g, ?_⟩
   rw [List.append_nil]
   exact t'
  | some p =>
   have ep : p.1 = z := by
    have := List.find?_some ev
    exact of_decide_eq_true this
   refine iteT ⟨_, rfl, _, rfl, _, rfl, d, _, rfl, (show DGet _ d (kV (Sum.inr z)) (some (V.int p.2)) by rw [<- show valV (pr.map kvR) (Sum.inr z : Key) = some (V.int p.2) by rw [z7o, ev]; rfl]; exact DGet.k (g _ _ e1)), (by show 2 ≤ sizeLine; decide), fun q hq => ⟨g.trans (z01 hq _), ?_⟩⟩
   rw [List.map_append]
   refine z09.snoc (z09.keep (z01 hq _) _ _ t') ?_
   rw [<- ep]
   exact z0D z02 (by show 2 ≤ 1000000; decide) (.cons (z3Y _) (.cons (z0F _) .nil))
 ·obtain ⟨g, t'⟩ := hq
  rw [List.length_map, List.take_length] at t'
  intro D hD
  refine ⟨D, ys, rfl, .inl ⟨SqL.of z02, fun q hq => k _ _ (s1.trans (g.trans ((z01 hD _).trans (z01 hq _)))) (z0D z02 ?_ (z09.keep ((z01 hD _).trans (z01 hq _)) _ _ t'))⟩⟩
  have := z4k zs pr
  rw [List.length_map]
  omega
def z8O : Sp := fun vs H Q _ => ∃ (a : Addr) (xs : List V) (w : Row), vs = [.ref a] /\ H a = some (.tup xs) /\ z09 H (w.map z7R) xs /\ w.length ≤ 12 /\ ∀ (l : Addr) (H' : Hp), Same H H' -> H' l = some (.tup ((z2V w).map V.str)) -> Q (.ref l) H'
theorem y31 (M : Bl mg) (F : Fun K "names_of_rows" "names_of_rows" z1r f fd) : FnOk P w K mg base CX0 1 f fd ["rows"] z8O := by
 have nd := z3N.nd
 refine F.ok z3N (fun vs H Q E h => ?_) (fun cdv A outer s H vs Q E hr h => ?_)
 ·obtain ⟨a, xs, w, rfl, _⟩ := h
  rfl
 obtain ⟨a, xs, w, rfl, ha, tw, l12, k⟩ := h
 refine ⟨_, (z07 (z0o (z0x z0u rfl M.tuple PyProof.Rows.boot_tuple (z00 (z1F ["name", "value"] [] [] rfl (z0y rfl (by decide +kernel) rfl (by decide +kernel) rfl rfl) (z4r (pv 0)) (fun _ _ _ _ _ => (z7O (K := K) (n := 2) rfl rfl (z1M (z0n (i := 0) (show ((["name", "value"] : List PySem.Str) ++ ([] : List PySem.Str)).Nodup from by decide +kernel) rfl (Or.inl rfl)) (z1M (z0n (i := 1) (show ((["name", "value"] : List PySem.Str) ++ ([] : List PySem.Str)).Nodup from by decide +kernel) rfl (Or.inl rfl)) z4U)))) (z7y (z27 (z0C (by decide)) z0e (z27 (z0C (by decide)) z0e z5X z1i) (z0W z0e z1i))) (z5C (z0W z0e (z0W z0e z1i))) (fun _ _ _ _ _ => z2D) (fun _ _ _ _ _ => (pv 0))) z03)))), ?_⟩
 have lx : xs.length = w.length := by rw [tw.length, List.length_map]
 refine ⟨_, rfl, a, rfl, ⟨_, SqT.of ha⟩, ?_⟩
 refine z33 (xs := xs) (fun i ys H' => H' = H /\ ys = (z2V (w.take i)).map V.str) ⟨rfl, rfl⟩ (fun i ys H' hi hq => ?_) (fun i x ys H' hx hq => ?_) (fun ys H' hq => ?_)
 ·obtain ⟨rfl, rfl⟩ := hq
  refine ⟨SqT.of ha, z0i ?_⟩
  unfold z2V
  rw [List.length_map, List.length_map, List.length_take]
  omega
 ·obtain ⟨rfl, rfl⟩ := hq
  obtain ⟨p, b, ep, rfl, hb⟩ := z4i tw i x hx
  refine ⟨b, _, rfl, SqT.of hb, rfl, _, _, rfl, _, _, rfl, rfl, ?_⟩
  refine ⟨_, rfl, rfl, ?_⟩
  unfold z2V
  rw [z0w ep, List.map_append, List.map_append]
  rfl
 ·obtain ⟨rfl, rfl⟩ := hq
  rw [lx, List.take_length]
  intro D hD
  exact ⟨D, _, rfl, .inl ⟨SqL.of z02, fun q hq => k q _ ((z01 hD _).trans (z01 hq _)) z02⟩⟩
def OfD (K : PySem.W.Frag) (C : Addr) : OfP := fun H p fp zs r rows => ∃ (dx pn pl : Addr) (fs : List (Str × V)) (xs : List V), fp = [p, dx, pl] /\ H p = some (.ins C dx fs) /\ H dx = some (.own p) /\ H pn = some (.tup (zs.map V.str)) /\ H pl = some (.lst xs) /\
 fs.lookup ("names" : Str) = some (V.ref pn) /\ fs.lookup ("reach" : Str) = some (V.int r) /\ fs.lookup ("written" : Str) = some (V.ref pl) /\ (∀ m ∈ (["refuse_writing", "write", "latest", "issue"] : List Str), fs.lookup m = none) /\
 z09 H ((upI 1 rows.length).map fun n => z1o rows n r) xs /\ rows.length ≤ 60 /\ (∀ w ∈ rows, w.length ≤ 12) /\ GoodN zs /\ 0 ≤ r /\ r ≤ 10
theorem ofOk {K : PySem.W.Frag} {C : Addr} : OfOk C ["write", "latest", "issue"] (OfD K C) := by
 refine ⟨fun h => ?_, fun h b hb => ?_, fun h s out nt => ?_⟩
 ·obtain ⟨dx, pn, pl, fs, xs, e, h1, h2, h3, h4, l1, l2, l3, lm, _⟩ := h
  refine ⟨dx, fs, h1, fun m hm => lm m ?_⟩
  simp only [List.mem_cons, List.not_mem_nil, or_false] at hm ⊢
  rcases hm with h | h | h <;> simp [h]
 ·obtain ⟨dx, pn, pl, fs, xs, rfl, h1, h2, h3, h4, _⟩ := h
  rcases List.mem_cons.mp hb with rfl | hb
  ·exact ⟨_, h1, fun xs z => by cases z⟩
  rcases List.mem_cons.mp hb with rfl | hb
  ·exact ⟨_, h2, fun xs z => by cases z⟩
  rw [List.mem_singleton.mp hb]
  exact ⟨_, h4, fun xs z => by cases z⟩
 ·obtain ⟨dx, pn, pl, fs, xs, rfl, h1, h2, h3, h4, l1, l2, l3, lm, tl, g⟩ := h
  exact ⟨dx, pn, pl, fs, xs, rfl, s _ _ h1 (fun m => out _ m (by simp)), s _ _ h2 (fun m => out _ m (by simp)), s _ _ h3 (fun m => nt _ m _ h3), s _ _ h4 (fun m => out _ m (by simp)), l1, l2, l3, lm, z09.but s nt _ _ tl, g⟩
theorem y0N {COffice : Addr} (M : Bl mg) (T : TxOffice K mg COffice) (F : Fun K "__init__" "Office.__init__" z1c f fd) (Gbulletin_names : Cal P w K mg base 2 "bulletin_names" ["names", "reach"] (z3W K)) :
  FnOk P w K mg base CX0 3 f fd ["self", "names", "reach"] (z7W K COffice (OfD K COffice)) := by
 have nd := z3d.nd
 refine F.ok z3d (fun vs H Q E h => ?_) (fun cdv A outer s H vs Q E hr h => ?_)
 ·obtain ⟨x, dx, pn, zs, r, rfl, _⟩ := h
  rfl
 obtain ⟨x, dx, pn, zs, r, rfl, hx, ne, hdx, hn, g, r0, r1, k⟩ := h
 refine ⟨_, (z04 (z4G (pv 0) (z0r Gbulletin_names (hr.mono (by omega)) rfl (z00 (pv 1) (z00 (pv 2) z03))) rfl) (z04 (z4G (pv 0) (pv 2) rfl) (z07 (z4G (pv 0) (z1V z03) rfl)))), ?_⟩
 refine ⟨_, rfl, _, rfl, pn, zs, r, rfl, hn, g, r0, r1, fun l H1 s1 e1 => ?_⟩
 refine ⟨_, rfl, x, COffice, dx, [], rfl, s1 _ _ hx, T.cl, T.n_names, by decide, ?_⟩
 have z1 := z1H "names" (.ref l) []
 have z2 := z1H "reach" (.int r) (putF "names" (.ref l) [])
 have z0 : ([] : List (Str × V)).length = 0 := rfl
 refine ⟨_, rfl, _, rfl, x, COffice, dx, _, rfl, z02, T.cl, T.n_reach, (by omega), ?_⟩
 rw [z4f]
 refine ⟨(by show 0 ≤ sizeLine; decide), fun pd hd => ?_⟩
 have nx : x ≠ pd := z0p z02 hd
 have ndd : dx ≠ pd := z0p (show upd H1 x _ dx = some _ by rw [z0g ne]; exact s1 _ _ hdx) hd
 have nl : l ≠ x := z43 e1 (s1 _ _ hx) (fun z => by cases z)
 have nlp : l ≠ pd := z0p (show upd H1 x _ l = some _ by rw [z0g nl]; exact e1) hd
 have dfr : H1 pd = none := by rw [z0g (Ne.symm nx)] at hd; exact hd
 refine ⟨_, rfl, x, COffice, dx, _, rfl, (by rw [z0g nx, z02]), T.cl, T.n_written, (by omega), ?_⟩
 refine k [x, dx, pd] _ (fun b hb => ?_) (fun b o e nb => ?_) ⟨dx, l, pd, _, [], rfl, z02, ?_, ?_, ?_, ?_, ?_, ?_, ?_, .nil, by decide, fun _ q => (nomatch q), g, r0, r1⟩
 ·simp only [List.mem_cons, List.not_mem_nil, or_false] at hb
  rcases hb with rfl | rfl | rfl
  ·exact .inl rfl
  ·exact .inr (.inl rfl)
  ·exact .inr (.inr (s1.free dfr))
 ·rw [List.mem_singleton] at nb
  rw [z0g nb, z0g (z0p e (s1.free dfr)), z0g nb]
  exact s1 _ _ e
 ·rw [z0g ne, z0g ndd, z0g ne]
  exact s1 _ _ hdx
 ·rw [z0g nl, z0g nlp, z0g nl]
  exact e1
 ·rw [z0g (Ne.symm nx), z02]
 ·rw [z0k, if_neg (by decide +kernel), z0k, if_neg (by decide +kernel), z0k, if_pos rfl]
 ·rw [z0k, if_neg (by decide +kernel), z0k, if_pos rfl]
 ·rw [z0k, if_pos rfl]
 ·intro m hm
  simp only [List.mem_cons, List.not_mem_nil, or_false] at hm
  rcases hm with rfl | rfl | rfl | rfl <;> rw [z0k, if_neg (by decide +kernel), z0k, if_neg (by decide +kernel), z0k, if_neg (by decide +kernel)] <;> rfl
theorem z90 {COffice : Addr} (M : Bl mg) (T : TxOffice K mg COffice) (F : Fun K "latest" "Office.latest" z1t f fd) : FnOk P w K mg base CX0 1 f fd ["self"] (z56 (OfD K COffice)) := by
 have nd := z3M.nd
 refine F.ok z3M (fun vs H Q E h => ?_) (fun cdv A outer s H vs Q E hr h => ?_)
 ·obtain ⟨p, fp, zs, r, rows, rfl, _⟩ := h
  rfl
 obtain ⟨p, fp, zs, r, rows, rfl, of, k⟩ := h
 refine ⟨_, (z07 (z0o (z0f z0a rfl M.len PySem.boot_len (z00 (z0K (pv 0) rfl) z03)))), ?_⟩
 obtain ⟨dx, pn, pl, fs, xs, rfl, h1, h2, h3, h4, l1, l2, l3, lm, tl, r60, w12, g, r0, r1⟩ := of
 have lx : xs.length = rows.length := by rw [tl.length, List.length_map, z0O]
 refine ⟨_, rfl, p, COffice, dx, fs, _, rfl, h1, T.cl, T.n_written, l3, pl, xs, rfl, .inl (SqL.of h4), ?_⟩
 rw [lx]
 exact k H (Same.refl _)
theorem y0b {COffice : Addr} (M : Bl mg) (T : TxOffice K mg COffice) (F : Fun K "issue" "Office.issue" z1N f fd) : FnOk P w K mg base CX0 1 f fd ["self", "number"] (z3A (OfD K COffice)) := by
 have nd := z48.nd
 refine F.ok z48 (fun vs H Q E h => ?_) (fun cdv A outer s H vs Q E hr h => ?_)
 ·obtain ⟨p, fp, zs, r, rows, n, rfl, _⟩ := h
  rfl
 obtain ⟨p, fp, zs, r, rows, n, rfl, of, n1, n2, k⟩ := h
 refine ⟨_, (z04 (z0R (PW.pt (z5S (z08 z6H (pv 1) z06 (z0l _)) (z3D (z08 z2U (pv 1) (z0f z0a rfl M.len PySem.boot_len (z00 (z0K (pv 0) rfl) z03)) (z0l _))))) (z07 z1A) z0q) (z07 (z0o (z0E z0U (z0K (pv 0) rfl) (z0h z37 (pv 1) z06) (fun _ _ => rfl))))), ?_⟩
 obtain ⟨dx, pn, pl, fs, xs, rfl, h1, h2, h3, h4, l1, l2, l3, lm, tl, r60, w12, g, r0, r1⟩ := of
 have lx : xs.length = rows.length := by rw [tl.length, List.length_map, z0O]
 refine ⟨_, rfl, _, _, rfl, rfl, _, rfl, ite2 (fun q => absurd (z0H q) (by omega)) fun _ => ?_⟩
 refine ⟨_, rfl, _, rfl, p, COffice, dx, fs, _, rfl, h1, T.cl, T.n_written, l3, pl, xs, rfl, .inl (SqL.of h4), _, _, rfl, rfl, _, rfl, ite2 (fun q => absurd (z0H q) (by omega)) fun _ => ?_⟩
 have hk : (n - 1).toNat < rows.length := by omega
 obtain ⟨v, ev, tv⟩ := tl.get (n - 1).toNat (z1o rows n r) (by
  unfold upI
  rw [List.getElem?_map, List.getElem?_map, List.getElem?_range hk]
  show some (z1o rows (1 + ((n - 1).toNat : Int)) r) = _
  rw [show (1 : Int) + ((n - 1).toNat : Int) = n by omega])
 have av : atI xs (n - 1) = some v := by
  rw [show n - 1 = (((n - 1).toNat : Nat) : Int) by omega]
  exact z1k ev
 exact ⟨_, rfl, p, COffice, dx, fs, _, rfl, h1, T.cl, T.n_written, l3, _, rfl, _, _, rfl, rfl, pl, xs, _, v, rfl, rfl, SqL.of h4, av, k v H (Same.refl _) tv⟩
def z4p (K : PySem.W.Frag) (Of : OfP) : Sp := fun vs H Q _ => ∃ (p a : Addr) (fp : List Addr) (zs : List Str) (r : Int) (rows : List Row) (us : List V) (pr : Row), vs = [.ref p, .ref a] /\ Of H p fp zs r rows /\ SqP K H a us /\ Paired (z2C K H) us pr /\ GoodR zs pr /\ pr.length ≤ 12 /\ rows.length < 60 /\ ∀ H', Same H H' -> Q .non H'
theorem y01 {COffice : Addr} (M : Bl mg) (T : TxOffice K mg COffice) (F : Fun K "refuse_writing" "Office.refuse_writing" z0G f fd) (Grefuse_bad_rows : Cal P w K mg base 2 "refuse_bad_rows" ["names", "rows"] (z5G K)) :
  FnOk P w K mg base CX0 3 f fd ["self", "rows"] (z4p K (OfD K COffice)) := by
 have nd := z25.nd
 refine F.ok z25 (fun vs H Q E h => ?_) (fun cdv A outer s H vs Q E hr h => ?_)
 ·obtain ⟨p, a, fp, zs, r, rows, us, pr, rfl, _⟩ := h
  rfl
 obtain ⟨p, a, fp, zs, r, rows, us, pr, rfl, of, ha, hp, g', l12, l60, k⟩ := h
 refine ⟨_, (z04 (z0R (z08 y3M (z0f z0a rfl M.len PySem.boot_len (z00 (z0K (pv 0) rfl) z03)) (z2R rfl M.MOST_NUMBERS) (z0l _)) (z07 z1A) z0q) (z07 (z0A (z0r Grefuse_bad_rows (hr.mono (by omega)) rfl (z00 (z0K (pv 0) rfl) (z00 (pv 1) z03)))))), ?_⟩
 obtain ⟨dx, pn, pl, fs, xs, rfl, h1, h2, h3, h4, l1, l2, l3, lm, tl, r60, w12, g, r0, r1⟩ := of
 have lx : xs.length = rows.length := by rw [tl.length, List.length_map, z0O]
 refine ⟨_, rfl, p, COffice, dx, fs, _, rfl, h1, T.cl, T.n_written, l3, pl, xs, rfl, .inl (SqL.of h4), _, _, rfl, rfl, _, rfl, ite2 (fun q => absurd (z0H q) (by omega)) fun _ => ?_⟩
 exact ⟨_, rfl, p, COffice, dx, fs, _, rfl, h1, T.cl, T.n_names, l1, _, rfl, pn, a, zs, us, pr, rfl, .inr (SqT.of h3), ha, hp, g', l12, fun H' s => k H' s⟩
theorem z92 (rows : List Row) (x : Row) {n r : Int} (n1 : 1 ≤ n) (n2 : n ≤ rows.length) : z1o (rows ++ [x]) n r = z1o rows n r := by
 have e := z9a (rows := rows ++ [x]) (j := rows.length) (r := r) n1 n2
 rw [List.take_left] at e
 exact e.symm
theorem y1N (m : Nat) (r : Int) (r0 : 0 ≤ r) : z4Z ((m : Int) + 1) r = tsN m r.toNat := by
 have falls : ∀ {l1 l2 : List Int}, l1.Pairwise (· > ·) -> l2.Pairwise (· > ·) -> (∀ x, x ∈ l1 ↔ x ∈ l2) -> l1 = l2 := fun {l1 l2} p1 p2 h => by
  have e := z29 (l1 := l1.reverse) (l2 := l2.reverse) (List.pairwise_reverse.mpr p1) (List.pairwise_reverse.mpr p2) fun x => by rw [List.mem_reverse, List.mem_reverse]; exact h x
  have e2 := congrArg List.reverse e
  rw [List.reverse_reverse, List.reverse_reverse] at e2
  exact e2
 refine falls ((z5Z _ _).filter _) ((z5Z _ _).filter _) fun x => ?_
 rw [z5K]
 unfold z4Z
 rw [List.mem_filter, z7F, decide_eq_true_eq]
 omega
theorem y26 (rows : List Row) (x : Row) (r : Int) (r0 : 0 ≤ r) : y2M (rows ++ [x]) ((rows.length : Int) + 1) r = tsD (rows.map z2V) r := by
 unfold y2M tsD
 rw [y1N _ _ r0, List.length_map]
 congr 1
 refine List.map_congr_left fun k hk => ?_
 have hk := z5K.mp hk
 unfold y0g tsP z1h
 have h1 : (k - 1).toNat < rows.length := by omega
 rw [List.getD_eq_getElem?_getD, List.getD_eq_getElem?_getD, List.getElem?_append_left h1, List.getElem?_map, List.getElem?_eq_getElem h1]
 rfl
theorem y09 {COffice : Addr} (M : Bl mg) (T : TxOffice K mg COffice) (F : Fun K "write" "Office.write" z1P f fd) (GOffice_refuse_writing : MCal P w K mg base 3 COffice "refuse_writing" ["self", "rows"] (z4p K (OfD K COffice)))
  (Gnames_of_rows : Cal P w K mg base 1 "names_of_rows" ["rows"] z8O) (Grows_in_order : Cal P w K mg base 1 "rows_in_order" ["names", "rows"] (z6t K)) (Gtail_for : Cal P w K mg base 2 "tail_for" ["sets", "reach"] (y0B K)) :
  FnOk P w K mg base CX0 4 f fd ["self", "rows"] (z6e K (OfD K COffice)) := by
 have nd := z4a.nd
 refine F.ok z4a (fun vs H Q E h => ?_) (fun cdv A outer s H vs Q E hr h => ?_)
 ·obtain ⟨p, v, fp, zs, r, rows, pr, rfl, _⟩ := h
  rfl
 obtain ⟨p, v, fp, zs, r, rows, pr, rfl, of, ⟨a, us, rfl, ha, na, hp⟩, gr, l12, l60, k⟩ := h
 refine ⟨_, (z04 (z0A (z1S GOffice_refuse_writing (hr.mono (by omega)) (pv 0) (z00 (pv 1) z03))) (z04 (z0m (i := 2) nd rfl (Or.inl rfl) (z0h z0Z (z0f z0a rfl M.len PySem.boot_len (z00 (z0K (pv 0) rfl) z03)) z06)) (z04 (z4X (i := 3) ["issue"] [] [] rfl nd rfl (Or.inl rfl) (z0y rfl (by decide +kernel) rfl (by decide +kernel) rfl rfl) (z1Z (z0K (pv 0) rfl)) (fun _ _ _ _ _ => (z0n (i := 0) (show ((["issue"] : List PySem.Str) ++ ([] : List PySem.Str)).Nodup from by decide +kernel) rfl (Or.inl rfl))) (z0C (by decide)) z0e (fun _ _ _ _ _ => z2D) (fun _ _ _ _ _ => (z0r Gnames_of_rows (hr.mono (by omega)) rfl (z00 (z0E (r := rIxT K) z0S (pv 0) z06 (fun _ _ => rfl)) z03)))) (z04 (z0A (z3a PySem.F.plainAttrs_list PySem.F.slot_list_append PySem.F.type_list_append z0M (z0K (pv 0) rfl) (z00 (z11 (z00 (pv 2) (z00 (z0r Grows_in_order (hr.mono (by omega)) rfl (z00 (z0K (pv 0) rfl) (z00 (pv 1) z03))) (z00 (z0r Gtail_for (hr.mono (by omega)) rfl (z00 (pv 3) (z00 (z0K (pv 0) rfl) z03))) z03)))) z03))) (z07 (z0o (pv 2))))))), ?_⟩
 have hp' := z2C.of hp
 obtain ⟨dx, pn, pl, fs, xs, rfl, h1, h2, h3, h4, l1, l2, l3, lm, tl, r60, w12, g, r0, r1⟩ := id of
 have lx : xs.length = rows.length := by rw [tl.length, List.length_map, z0O]
 refine ⟨_, rfl, p, dx, fs, rfl, h1, lm _ (by simp), _, rfl, p, a, _, zs, r, rows, us, pr, rfl, of, ha, hp', gr, l12, l60, fun H1 s1 => ?_⟩
 refine ⟨_, rfl, p, COffice, dx, fs, _, rfl, s1 _ _ h1, T.cl, T.n_written, l3, pl, xs, rfl, .inl (SqL.of (s1 _ _ h4)), _, _, rfl, rfl, ?_⟩
 -- sets
 refine ⟨_, rfl, p, COffice, dx, fs, _, rfl, s1 _ _ h1, T.cl, T.n_written, l3, pl, rfl, ⟨_, SqL.of (s1 _ _ h4)⟩, ?_⟩
 refine z3l (xs := xs) (fun i ys H' => Same H1 H' /\ z09 H' (((rows.take i).map z2V).map nmsD) ys) ⟨Same.refl _, by rw [List.take_zero]; exact .nil⟩ (fun i ys H' hi hq => ?_) (fun i x ys H' hx hq => ?_) (fun ys H' hq => ?_)
 ·obtain ⟨gg, t⟩ := hq
  refine ⟨SqL.of (gg _ _ (s1 _ _ h4)), z0i ?_⟩
  rw [t.length, List.length_map, List.length_map, List.length_take]
  omega
 ·obtain ⟨gg, t⟩ := hq
  have hi : i < rows.length := by
   have := (List.getElem?_eq_some_iff.mp hx).1
   omega
  obtain ⟨d, ed, td⟩ := tl.at i x hx
  unfold upI at ed
  rw [List.getElem?_map, List.getElem?_map, List.getElem?_range hi] at ed
  have ed' : z1o rows (1 + (i : Int)) r = d := Option.some.inj ed
  subst ed'
  have ew : z1h rows (1 + (i : Int)) = rows[i] := by
   unfold z1h
   rw [show (1 + (i : Int) - 1).toNat = i by omega, List.getD_eq_getElem?_getD, List.getElem?_eq_getElem hi]
   rfl
  obtain ⟨b, bs, rfl, eb, _, tb⟩ := z0s td
  obtain ⟨x0, ur, rfl, t0, tb⟩ := z0d tb
  obtain ⟨x1, ur, rfl, t1, tb⟩ := z0d tb
  rw [ew] at t1
  obtain ⟨c, cs, rfl, ec, _, tc⟩ := z0s t1
  refine ⟨_, rfl, b, _, _, _, rfl, rfl, SqT.of (gg _ _ (s1 _ _ eb)), z1k rfl, c, cs, rows[i], rfl, gg _ _ (s1 _ _ ec), z09.keep (s1.trans gg) _ _ tc, w12 _ (List.getElem_mem hi), fun l H2 s2 e2 => ⟨gg.trans s2, ?_⟩⟩
  rw [z0w (List.getElem?_eq_getElem hi), List.map_append, List.map_append]
  refine z09.snoc (z09.keep s2 _ _ t) (z0D e2 ?_ (z55 _))
  have := w12 _ (List.getElem_mem hi)
  unfold z2V
  rw [List.length_map, List.length_map]
  omega
 obtain ⟨gg, t⟩ := hq
 rw [lx, List.take_length] at t
 intro D hD
 have s2 := s1.trans (gg.trans (z01 hD (.lst ys)))
 have eD : upd H' D (.lst ys) D = some (.lst ys) := z02
 have t2 := z09.keep (z01 hD (.lst ys)) _ _ t
 generalize upd H' D (.lst ys) = H2 at s2 eD t2
 have l60' : ((rows.map z2V)).length ≤ 59 := by rw [List.length_map]; omega
 refine ⟨_, rfl, p, COffice, dx, fs, _, rfl, s2 _ _ h1, T.cl, T.n_written, l3, .inl ⟨rfl, _, SqL.of (s2 _ _ h4)⟩, ?_⟩
 refine ⟨_, rfl, _, rfl, p, COffice, dx, fs, _, rfl, s2 _ _ h1, T.cl, T.n_names, l1, _, rfl, pn, a, zs, us, pr, rfl, .inr (SqT.of (s2 _ _ h3)), g.hi, SqP.keep s2 ha, z2C.keep s2 hp', gr.nd, l12, fun v1 H3 s3 tv1 => ?_⟩
 have s23 := s2.trans s3
 refine ⟨_, rfl, _, rfl, p, COffice, dx, fs, _, rfl, s23 _ _ h1, T.cl, T.n_reach, l2, D, ys, rows.map z2V, r, rfl, .inl (SqL.of (s3 _ _ eD)), z09.keep s3 _ _ t2, l60', ?_, r0, r1, fun v2 H4 s4 tv2 => ?_⟩
 ·intro w' hw'
  obtain ⟨w0, hw0, rfl⟩ := List.mem_map.mp hw'
  have := w12 w0 hw0
  unfold z2V
  rw [List.length_map]
  exact this
 refine ⟨(by show 3 ≤ sizeLine; decide), fun q hq => ?_⟩
 have s24 := s23.trans (s4.trans (z01 hq (.tup [V.int ((xs.length : Int) + 1), v1, v2])))
 have eq' : upd H4 q (.tup [V.int ((xs.length : Int) + 1), v1, v2]) q = some (.tup [V.int ((xs.length : Int) + 1), v1, v2]) := z02
 have tv1' := Tell.keep (s4.trans (z01 hq (.tup [V.int ((xs.length : Int) + 1), v1, v2]))) _ _ tv1
 have tv2' := Tell.keep (z01 hq (.tup [V.int ((xs.length : Int) + 1), v1, v2])) _ _ tv2
 generalize upd H4 q (.tup [V.int ((xs.length : Int) + 1), v1, v2]) = H5 at s24 eq' tv1' tv2'
 refine ⟨pl, xs, .ref q, rfl, rfl, s24 _ _ h4, z0i (by omega), ?_⟩
 refine ⟨_, rfl, ?_⟩
 have np : p ≠ pl := z43 h1 h4 (fun z => by cases z)
 have nx : dx ≠ pl := z43 h2 h4 (fun z => by cases z)
 have nn : pn ≠ pl := z43 h3 h4 (fun z => by cases z)
 have h5 := s24 _ _ h4
 have e := k [p, dx, pl] (upd H5 pl (.lst (xs ++ [.ref q]))) (fun b hb => .inl hb) (fun b o e nb => by rw [z0g (fun z => nb (by rw [z]; simp))]; exact s24 _ _ e)
  ⟨dx, pn, pl, fs, _, rfl, by rw [z0g np]; exact s24 _ _ h1, by rw [z0g nx]; exact s24 _ _ h2, by rw [z0g nn]; exact s24 _ _ h3, z02, l1, l2, l3, lm, ?_, ?_, ?_, g, r0, r1⟩
 ·rw [<- lx] at e
  exact e
 ·refine z09.over h5 (fun _ z => by cases z) _ _ ?_
  rw [List.length_append, List.length_singleton, z4o, List.map_append]
  have e1 : (upI 1 rows.length).map (fun n => z1o (rows ++ [z1f zs pr]) n r) = (upI 1 rows.length).map fun n => z1o rows n r := List.map_congr_left fun n hn => by
   have := z1C.mp hn
   exact z92 rows _ (by omega) (by omega)
  rw [e1]
  refine z09.snoc (z09.keep s24 _ _ tl) ?_
  have en : (1 : Int) + (rows.length : Int) = (rows.length : Int) + 1 := by omega
  have er : z1h (rows ++ [z1f zs pr]) ((rows.length : Int) + 1) = z1f zs pr := by
   unfold z1h
   rw [show ((rows.length : Int) + 1 - 1).toNat = rows.length by omega, List.getD_eq_getElem?_getD, List.getElem?_concat_length]
   rfl
  show Tell H5 (z1o (rows ++ [z1f zs pr]) (1 + (rows.length : Int)) r) (.ref q)
  unfold z1o
  rw [en, er, y26 rows _ r r0]
  rw [lx] at eq'
  exact z0D eq' (by show 3 ≤ 1000000; decide) (.cons (z0F _) (.cons tv1' (.cons tv2' .nil)))
 ·rw [List.length_append, List.length_singleton]
  omega
 ·intro w' hw'
  rcases List.mem_append.mp hw' with hw' | hw'
  ·exact w12 w' hw'
  ·rw [List.mem_singleton] at hw'
   rw [hw']
   exact Nat.le_trans (z4k zs pr) g.hi
abbrev Deed := Option Int × Int
def z28 : Deed -> List V
 | (none, n) => [.str "write", .int n]
 | (some r, n) => [.str "deliver", .int r, .int n]
def z0V (H : Hp) (u : V) (d : Deed) : Prop := ∃ b, u = .ref b /\ H b = some (.tup (z28 d))
theorem z0I {H : Hp} {us : List V} {log : List Deed} (h : Paired (z0V H) us log) : us.length = log.length := by
 induction h with
 | nil => rfl
 | cons _ _ ih => rw [List.length_cons, List.length_cons, ih]
def gotL (log : List Deed) (rd : Int) : List Int := log.foldl (fun acc d => if d.1 = some rd then addN acc d.2 else acc) []
theorem z8w (log : List Deed) (d : Deed) (rd : Int) : gotL (log ++ [d]) rd = if d.1 = some rd then addN (gotL log rd) d.2 else gotL log rd := by
 unfold gotL
 rw [List.foldl_append]
 rfl
theorem z7U {log : List Deed} {rd n : Int} : n ∈ gotL log rd ↔ ((some rd, n) : Deed) ∈ log := by
 have go : ∀ (log : List Deed) (acc : List Int), n ∈ log.foldl (fun acc d => if d.1 = some rd then addN acc d.2 else acc) acc ↔ n ∈ acc \/ ((some rd, n) : Deed) ∈ log := by
  intro log
  induction log with
  | nil => intro acc; exact ⟨.inl, fun h => h.elim id fun q => (nomatch q)⟩
  | cons d log ih =>
   intro acc
   rw [List.foldl_cons, ih, List.mem_cons]
   obtain ⟨a, m⟩ := d
   by_cases c : a = some rd
   ·subst c
    rw [if_pos rfl, z9D, or_assoc]
    exact or_congr Iff.rfl (or_congr ⟨fun e => by rw [e], fun e => congrArg Prod.snd e⟩ Iff.rfl)
   ·rw [if_neg c]
    exact or_congr Iff.rfl ⟨.inr, fun h => h.elim (fun e => absurd (congrArg Prod.fst e).symm c) id⟩
 unfold gotL
 rw [go]
 exact ⟨fun h => h.elim (fun q => (nomatch q)) id, .inr⟩
abbrev BkP := Hp -> Addr -> List Addr -> List Str -> Int -> Int -> List Row -> List Deed -> Prop
structure BkOk (C : Addr) (ms : List Str) (Bk : BkP) : Prop where
 ins : ∀ {H p fp zs r k rows log}, Bk H p fp zs r k rows log -> ∃ dx fs, H p = some (.ins C dx fs) /\ ∀ m ∈ ms, fs.lookup m = none
 own : ∀ {H p fp zs r k rows log}, Bk H p fp zs r k rows log -> ∀ b ∈ fp, ∃ o, H b = some o /\ ∀ xs, o ≠ .tup xs
 keep : ∀ {H H' p fp gp zs r k rows log}, Bk H p fp zs r k rows log -> z0v gp H H' -> (∀ b ∈ gp, b ∉ fp) -> z4m H gp -> Bk H' p fp zs r k rows log
theorem BkOk.same {C : Addr} {ms : List Str} {Bk : BkP} (O : BkOk C ms Bk) {H H' : Hp} {p : Addr} {fp : List Addr} {zs : List Str} {r k : Int} {rows : List Row} {log : List Deed} (h : Bk H p fp zs r k rows log) (s : Same H H') : Bk H' p fp zs r k rows log :=
 O.keep (gp := []) h (.of s) (fun _ q => by cases q) fun _ q => by cases q
theorem BkOk.noTup {C : Addr} {ms : List Str} {Bk : BkP} (O : BkOk C ms Bk) {H : Hp} {p : Addr} {fp : List Addr} {zs : List Str} {r k : Int} {rows : List Row} {log : List Deed} (h : Bk H p fp zs r k rows log) : z4m H fp := fun b m xs e => by
 obtain ⟨o, e1, n⟩ := O.own h b m
 rw [e1] at e
 exact n xs (Option.some.inj e)
def z7g (K : PySem.W.Frag) (C : Addr) (Bk : BkP) : Sp := fun vs H Q _ => ∃ (x dx pn : Addr) (zs : List Str) (r k : Int), vs = [.ref x, .ref pn, .int r, .int k] /\ H x = some (.ins C dx []) /\ dx ≠ x /\ H dx = some (.own x) /\ HdN K H pn zs /\ GoodN zs /\ 0 ≤ r /\ r ≤ 10 /\ 1 ≤ k /\ k ≤ 10 /\
 ∀ (fp : List Addr) (H' : Hp), (∀ b ∈ fp, b = x \/ b = dx \/ H b = none) -> z0v [x] H H' -> Bk H' x fp zs r k [] [] -> Q .non H'
def z61 (K : PySem.W.Frag) (Bk : BkP) : Sp := fun vs H Q _ => ∃ (p : Addr) (v : V) (fp : List Addr) (zs : List Str) (r k : Int) (rows : List Row) (log : List Deed) (pr : Row), vs = [.ref p, v] /\ Bk H p fp zs r k rows log /\ y1M K H fp v pr /\ GoodR zs pr /\ pr.length ≤ 12 /\ rows.length < 60 /\ log.length < 400 /\
 ∀ (fp' : List Addr) (H' : Hp), (∀ b ∈ fp', b ∈ fp \/ H b = none) -> z0v fp H H' -> Bk H' p fp' zs r k (rows ++ [z1f zs pr]) (log ++ [(none, (rows.length : Int) + 1)]) -> Q (.int (rows.length + 1)) H'
def z4g (Bk : BkP) : Sp := fun vs H Q _ => ∃ (p : Addr) (fp : List Addr) (zs : List Str) (r k : Int) (rows : List Row) (log : List Deed) (rd n : Int), vs = [.ref p, .int rd, .int n] /\ Bk H p fp zs r k rows log /\ 1 ≤ rd /\ rd ≤ k /\ 1 ≤ n /\ n ≤ rows.length /\ log.length < 400 /\
 ∀ (H' : Hp), z0v fp H H' -> Bk H' p fp zs r k rows (log ++ [(some rd, n)]) -> Q (.bl (decide (((some rd, n) : Deed) ∉ log))) H'
def z4K (Bk : BkP) : Sp := fun vs H Q _ => ∃ (p : Addr) (fp : List Addr) (zs : List Str) (r k : Int) (rows : List Row) (log : List Deed), vs = [.ref p] /\ Bk H p fp zs r k rows log /\ Q (.int log.length) H
def dedV : Option Nat -> V
 | none => .non
 | some d => .int d
def z4n (Bk : BkP) (Sh : ShP) : Sp := fun vs H Q _ => ∃ (p : Addr) (fp : List Addr) (zs : List Str) (r k : Int) (rows : List Row) (log : List Deed) (rd : Int) (o : Option Nat), vs = [.ref p, .int rd, dedV o] /\ Bk H p fp zs r k rows log /\ 1 ≤ rd /\ rd ≤ k /\ (∀ d, o = some d -> d ≤ log.length) /\
 ∀ (x : Addr) (fq : List Addr) (H' : Hp), (∀ b ∈ fq, H b = none) -> Same H H' -> Sh H' x fq zs r (fun n => z1o rows n r) (gotL (log.take (o.getD log.length)) rd) -> Q (.ref x) H'
theorem DeedsAt.but {fp : List Addr} {H H' : Hp} {us : List V} {log : List Deed} (s : z0v fp H H') (n : z4m H fp) (h : Paired (z0V H) us log) : Paired (z0V H') us log :=
 L2.Paired.mapP h fun u d ⟨b, e, q⟩ => ⟨b, e, s _ _ q fun m => n b m _ q⟩
structure BkIn (K : PySem.W.Frag) (CB CO : Addr) (H : Hp) (p dx po pd : Addr) (fs : List (Str × V)) (fo : List Addr) (us : List V) (zs : List Str) (r k : Int) (rows : List Row) (log : List Deed) : Prop where
 hp : H p = some (.ins CB dx fs)
 hdx : H dx = some (.own p)
 of : OfD K CO H po fo zs r rows
 hd : H pd = some (.lst us)
 ds : Paired (z0V H) us log
 npo : p ∉ fo
 ndo : dx ∉ fo
 ndn : pd ∉ fo
 lo : fs.lookup ("office" : Str) = some (V.ref po)
 lr : fs.lookup ("readers" : Str) = some (V.int k)
 ld : fs.lookup ("done" : Str) = some (V.ref pd)
 lm : ∀ m ∈ (["refuse_unknown_reader", "refuse_further_deed", "write", "deliver", "latest", "issue", "deeds", "deed", "shelf"] : List Str), fs.lookup m = none
 l4 : log.length ≤ 400
 in1 : ∀ d ∈ log, 1 ≤ d.2 /\ d.2 ≤ rows.length
 k1 : 1 ≤ k
 k10 : k ≤ 10
def BkD (K : PySem.W.Frag) (CB CO : Addr) : BkP := fun H p fp zs r k rows log => ∃ (dx po pd : Addr) (fs : List (Str × V)) (fo : List Addr) (us : List V), fp = p :: dx :: pd :: fo /\ BkIn K CB CO H p dx po pd fs fo us zs r k rows log
theorem bkOk {K : PySem.W.Frag} {CB CO : Addr} : BkOk CB ["write", "deliver", "latest", "issue", "deeds", "deed", "shelf"] (BkD K CB CO) := by
 refine ⟨fun h => ?_, fun h b hb => ?_, fun h s out nt => ?_⟩
 ·obtain ⟨dx, po, pd, fs, fo, us, rfl, B⟩ := h
  refine ⟨dx, fs, B.hp, fun m hm => B.lm m ?_⟩
  exact List.mem_cons_of_mem _ (List.mem_cons_of_mem _ hm)
 ·obtain ⟨dx, po, pd, fs, fo, us, rfl, B⟩ := h
  rcases List.mem_cons.mp hb with rfl | hb
  ·exact ⟨_, B.hp, fun xs z => by cases z⟩
  rcases List.mem_cons.mp hb with rfl | hb
  ·exact ⟨_, B.hdx, fun xs z => by cases z⟩
  rcases List.mem_cons.mp hb with rfl | hb
  ·exact ⟨_, B.hd, fun xs z => by cases z⟩
  exact ofOk.own B.of b hb
 ·obtain ⟨dx, po, pd, fs, fo, us, rfl, B⟩ := h
  exact ⟨dx, po, pd, fs, fo, us, rfl, { B with
   hp := s _ _ B.hp fun m => out _ m (by simp)
   hdx := s _ _ B.hdx fun m => out _ m (by simp)
   of := ofOk.keep B.of s (fun b m z => out b m (by simp [z])) nt
   hd := s _ _ B.hd fun m => out _ m (by simp)
   ds := DeedsAt.but s nt B.ds }⟩
def z3R : Sp := fun vs H Q _ => ∃ k : Int, vs = [.int k] /\ 1 ≤ k /\ k ≤ 10 /\ Q .non H
theorem z7Q (M : Bl mg) (F : Fun K "refuse_bad_readers" "refuse_bad_readers" z0X f fd) : FnOk P w K mg base CX0 1 f fd ["readers"] z3R := by
 have nd := z2E.nd
 refine F.ok z2E (fun vs H Q E h => ?_) (fun cdv A outer s H vs Q E hr h => ?_)
 ·obtain ⟨r, rfl, _⟩ := h
  rfl
 ·obtain ⟨r, rfl, r0, r1, k⟩ := h
  refine ⟨_, (z07 (z0R (PW.pt (z5S (z08 z6H (pv 0) z06 (z0l _)) (z3D (z08 z2U (pv 0) (z2R rfl M.MOST_READERS) (z0l _))))) (z07 z1A) z0q)), ?_⟩
  refine ⟨_, rfl, _, _, rfl, rfl, _, rfl, ite2 (fun q => absurd (z0H q) (by omega)) fun _ => ?_⟩
  exact ⟨_, rfl, _, _, rfl, rfl, _, rfl, ite2 (fun q => absurd (z0H q) (by omega)) fun _ => k⟩
def z3s (Bk : BkP) : Sp := fun vs H Q _ => ∃ (p : Addr) (fp : List Addr) (zs : List Str) (r k : Int) (rows : List Row) (log : List Deed) (rd : Int), vs = [.ref p, .int rd] /\ Bk H p fp zs r k rows log /\ 1 ≤ rd /\ rd ≤ k /\ Q .non H
theorem z7Z {CBook COffice : Addr} (M : Bl mg) (T : TxBook K mg CBook) (F : Fun K "refuse_unknown_reader" "Book.refuse_unknown_reader" z0z f fd) : FnOk P w K mg base CX0 1 f fd ["self", "reader"] (z3s (BkD K CBook COffice)) := by
 have nd := z1z.nd
 refine F.ok z1z (fun vs H Q E h => ?_) (fun cdv A outer s H vs Q E hr h => ?_)
 ·obtain ⟨p, fp, zs, r, k, rows, log, rd, rfl, _⟩ := h
  rfl
 obtain ⟨p, fp, zs, r, k, rows, log, rd, rfl, ⟨dx, po, pd, fs, fo, us, rfl, B⟩, r1, r2, q⟩ := h
 refine ⟨_, (z07 (z0R (PW.pt (z5S (z08 z6H (pv 1) z06 (z0l _)) (z3D (z08 z2U (pv 1) (z0K (pv 0) rfl) (z0l _))))) (z07 z1A) z0q)), ?_⟩
 refine ⟨_, rfl, _, _, rfl, rfl, _, rfl, ite2 (fun q => absurd (z0H q) (by omega)) fun _ => ?_⟩
 exact ⟨_, rfl, _, rfl, p, CBook, dx, fs, _, rfl, B.hp, T.cl, T.n_readers, B.lr, _, _, rfl, rfl, _, rfl, ite2 (fun q => absurd (z0H q) (by omega)) fun _ => q⟩
def z4L (Bk : BkP) : Sp := fun vs H Q _ => ∃ (p : Addr) (fp : List Addr) (zs : List Str) (r k : Int) (rows : List Row) (log : List Deed), vs = [.ref p] /\ Bk H p fp zs r k rows log /\ log.length < 400 /\ Q .non H
theorem y0i {CBook COffice : Addr} (M : Bl mg) (T : TxBook K mg CBook) (F : Fun K "refuse_further_deed" "Book.refuse_further_deed" z0B f fd) : FnOk P w K mg base CX0 1 f fd ["self"] (z4L (BkD K CBook COffice)) := by
 have nd := z1Q.nd
 refine F.ok z1Q (fun vs H Q E h => ?_) (fun cdv A outer s H vs Q E hr h => ?_)
 ·obtain ⟨p, fp, zs, r, k, rows, log, rfl, _⟩ := h
  rfl
 obtain ⟨p, fp, zs, r, k, rows, log, rfl, ⟨dx, po, pd, fs, fo, us, rfl, B⟩, l4, q⟩ := h
 refine ⟨_, (z07 (z0R (z08 y3M (z0f z0a rfl M.len PySem.boot_len (z00 (z0K (pv 0) rfl) z03)) (z2R rfl M.MOST_DEEDS) (z0l _)) (z07 z1A) z0q)), ?_⟩
 have lu := z0I B.ds
 exact ⟨_, rfl, p, CBook, dx, fs, _, rfl, B.hp, T.cl, T.n_done, B.ld, pd, us, rfl, .inl (SqL.of B.hd), _, _, rfl, rfl, _, rfl, ite2 (fun q => absurd (z0H q) (by omega)) fun _ => q⟩
theorem y0d {CBook COffice : Addr} (M : Bl mg) (T : TxBook K mg CBook) (F : Fun K "deeds" "Book.deeds" z2k f fd) : FnOk P w K mg base CX0 1 f fd ["self"] (z4K (BkD K CBook COffice)) := by
 have nd := z5j.nd
 refine F.ok z5j (fun vs H Q E h => ?_) (fun cdv A outer s H vs Q E hr h => ?_)
 ·obtain ⟨p, fp, zs, r, k, rows, log, rfl, _⟩ := h
  rfl
 obtain ⟨p, fp, zs, r, k, rows, log, rfl, ⟨dx, po, pd, fs, fo, us, rfl, B⟩, q⟩ := h
 refine ⟨_, (z07 (z0o (z0f z0a rfl M.len PySem.boot_len (z00 (z0K (pv 0) rfl) z03)))), ?_⟩
 have lu := z0I B.ds
 refine ⟨_, rfl, p, CBook, dx, fs, _, rfl, B.hp, T.cl, T.n_done, B.ld, pd, us, rfl, .inl (SqL.of B.hd), ?_⟩
 rw [lu]
 exact q
theorem y1W {CBook COffice : Addr} (M : Bl mg) (T : TxBook K mg CBook) (F : Fun K "__init__" "Book.__init__" z1v f fd) (GOffice : Mkr P w K mg base 3 COffice "Office" ["self", "names", "reach"] (z7W K COffice (OfD K COffice)))
  (Grefuse_bad_readers : Cal P w K mg base 1 "refuse_bad_readers" ["readers"] z3R) : FnOk P w K mg base CX0 6 f fd ["self", "names", "reach", "readers"] (z7g K CBook (BkD K CBook COffice)) := by
 have nd := z3L.nd
 refine F.ok z3L (fun vs H Q E h => ?_) (fun cdv A outer s H vs Q E hr h => ?_)
 ·obtain ⟨x, dx, pn, zs, r, k, rfl, _⟩ := h
  rfl
 obtain ⟨x, dx, pn, zs, r, k, rfl, hx, ne, hdx, hn, g, r0, r1, k1, k10, q⟩ := h
 refine ⟨_, (z04 (z4G (pv 0) (y0T GOffice (hr.mono (by omega)) rfl (z00 (pv 1) (z00 (pv 2) z03))) rfl) (z04 (z0A (z0r Grefuse_bad_readers (hr.mono (by omega)) rfl (z00 (pv 3) z03))) (z04 (z4G (pv 0) (pv 3) rfl) (z07 (z4G (pv 0) (z1V z03) rfl))))), ?_⟩
 refine ⟨_, rfl, _, rfl, fun po dxo nx ndx neo => ?_⟩
 have m1 := z68 (C := COffice) (Same.refl H) nx ndx
 refine ⟨po, dxo, pn, zs, r, rfl, z02, neo, by rw [z0g neo, z02], HdN.keep m1 hn, g, r0, r1, fun fo H1 ff sb of => ⟨rfl, ?_⟩⟩
 have s1 : Same H H1 := z5H sb m1 nx
 have f1 : ∀ b ∈ fo, H b = none := fun b hb => z4P m1 nx ndx (ff b hb)
 refine ⟨_, rfl, x, CBook, dx, [], rfl, s1 _ _ hx, T.cl, T.n_office, by decide, ?_⟩
 have z1 := z1H "office" (.ref po) []
 have z2 := z1H "readers" (.int k) (putF "office" (.ref po) [])
 have z0 : ([] : List (Str × V)).length = 0 := rfl
 refine ⟨_, rfl, k, rfl, k1, k10, ?_⟩
 refine ⟨_, rfl, _, rfl, x, CBook, dx, _, rfl, z02, T.cl, T.n_readers, (by omega), ?_⟩
 rw [z4f]
 refine ⟨(by show 0 ≤ sizeLine; decide), fun pd hd => ?_⟩
 have nxp : x ≠ pd := z0p z02 hd
 have dfr : H1 pd = none := by rw [z0g (Ne.symm nxp)] at hd; exact hd
 have ndd : dx ≠ pd := z0p (s1 _ _ hdx) dfr
 have out : ∀ {b : Addr} {o : HO}, H b = some o -> b ∉ fo := fun e m => by rw [f1 _ m] at e; cases e
 refine ⟨_, rfl, x, CBook, dx, _, rfl, (by rw [z0g nxp, z02]), T.cl, T.n_done, (by omega), ?_⟩
 have sx : z0v [x] H1 (upd (upd (upd H1 x (.ins CBook dx (putF "readers" (.int k) (putF "office" (.ref po) [])))) pd (.lst [])) x (.ins CBook dx (putF "done" (.ref pd) (putF "readers" (.int k) (putF "office" (.ref po) []))))) := fun b o e nb => by
  rw [List.mem_singleton] at nb
  rw [z0g nb, z0g (z0p e dfr), z0g nb]
  exact e
 refine q (x :: dx :: pd :: fo) _ (fun b hb => ?_) (fun b o e nb => sx b o (s1 _ _ e) nb) ⟨dx, po, pd, _, fo, [], rfl, ⟨z02, ?_, ?_, ?_, .nil, out hx, out hdx, ?_, ?_, ?_, ?_, ?_, by decide, fun _ q => (nomatch q), k1, k10⟩⟩
 ·rcases List.mem_cons.mp hb with rfl | hb
  ·exact .inl rfl
  rcases List.mem_cons.mp hb with rfl | hb
  ·exact .inr (.inl rfl)
  rcases List.mem_cons.mp hb with rfl | hb
  ·exact .inr (.inr (s1.free dfr))
  ·exact .inr (.inr (f1 b hb))
 ·exact sx _ _ (s1 _ _ hdx) (by rw [List.mem_singleton]; exact ne)
 ·refine ofOk.keep of sx (fun b m => ?_) fun b m xs e => ?_
  ·rw [List.mem_singleton.mp m]
   exact out hx
  ·rw [List.mem_singleton.mp m, s1 _ _ hx] at e
   cases e
 ·rw [z0g (Ne.symm nxp), z02]
 ·intro m
  obtain ⟨o, e, _⟩ := ofOk.own of pd m
  rw [dfr] at e
  cases e
 ·rw [z0k, if_neg (by decide +kernel), z0k, if_neg (by decide +kernel), z0k, if_pos rfl]
 ·rw [z0k, if_neg (by decide +kernel), z0k, if_pos rfl]
 ·rw [z0k, if_pos rfl]
 ·intro m hm
  simp only [List.mem_cons, List.not_mem_nil, or_false] at hm
  rcases hm with rfl | rfl | rfl | rfl | rfl | rfl | rfl | rfl | rfl <;> rw [z0k, if_neg (by decide +kernel), z0k, if_neg (by decide +kernel), z0k, if_neg (by decide +kernel)] <;> rfl
theorem y3p {K : PySem.W.Frag} {CB CO : Addr} {H H1 : Hp} {p dx po pd t : Addr} {fs : List (Str × V)} {fo fo' : List Addr} {us : List V} {zs : List Str} {r k : Int} {rows rows' : List Row} {log : List Deed} {d : Deed} (B : BkIn K CB CO H p dx po pd fs fo us zs r k rows log)
  (sb : z0v fo H H1) (of : OfD K CO H1 po fo' zs r rows') (ff : ∀ b ∈ fo', b ∈ fo \/ H b = none) (ht : H1 t = some (.tup (z28 d))) (hl : rows.length ≤ rows'.length) (hd1 : 1 ≤ d.2 /\ d.2 ≤ rows'.length) (l4 : log.length < 400) :
  z0v (p :: dx :: pd :: fo) H (upd H1 pd (.lst (us ++ [.ref t]))) /\ BkD K CB CO (upd H1 pd (.lst (us ++ [.ref t]))) p (p :: dx :: pd :: fo') zs r k rows' (log ++ [d]) := by
 have ntf : z4m H fo := ofOk.noTup B.of
 have hd' := sb _ _ B.hd B.ndn
 have out : ∀ {b : Addr} {o : HO}, H b = some o -> b ∉ fo -> b ∉ fo' := fun e n m => (ff _ m).elim n fun z => by rw [z] at e; cases e
 have s2 : z0v [pd] H1 (upd H1 pd (.lst (us ++ [.ref t]))) := fun b o e nb => by
  rw [List.mem_singleton] at nb
  rw [z0g nb]
  exact e
 have nt2 : z4m H1 [pd] := fun b m xs e => by
  rw [List.mem_singleton.mp m, hd'] at e
  cases e
 have npd : p ≠ pd := z43 B.hp B.hd (fun z => by cases z)
 have ndd : dx ≠ pd := z43 B.hdx B.hd (fun z => by cases z)
 refine ⟨fun b o e nb => ?_, dx, po, pd, fs, fo', us ++ [.ref t], rfl, { B with
  hp := by rw [z0g npd]; exact sb _ _ B.hp B.npo
  hdx := by rw [z0g ndd]; exact sb _ _ B.hdx B.ndo
  of := ofOk.keep of s2 (fun b m => by rw [List.mem_singleton.mp m]; exact out B.hd B.ndn) nt2
  hd := z02
  ds := ?_
  npo := out B.hp B.npo
  ndo := out B.hdx B.ndo
  ndn := out B.hd B.ndn
  l4 := by rw [List.length_append]; exact l4
  in1 := fun x hx => ?_ }⟩
 ·rw [List.mem_cons, List.mem_cons, List.mem_cons, not_or, not_or, not_or] at nb
  rw [z0g nb.2.2.1]
  exact sb _ _ e nb.2.2.2
 ·exact Paired.snoc (DeedsAt.but s2 nt2 (DeedsAt.but sb ntf B.ds)) ⟨t, rfl, s2 _ _ ht fun m => nt2 t m _ ht⟩
 ·rcases List.mem_append.mp hx with hx | hx
  ·have := B.in1 x hx
   omega
  ·rw [List.mem_singleton.mp hx]
   exact hd1
theorem z9Z {CBook COffice : Addr} (M : Bl mg) (T : TxBook K mg CBook) (F : Fun K "write" "Book.write" z2h f fd) (GOffice_refuse_writing : MCal P w K mg base 3 COffice "refuse_writing" ["self", "rows"] (z4p K (OfD K COffice)))
  (GOffice_write : MCal P w K mg base 4 COffice "write" ["self", "rows"] (z6e K (OfD K COffice))) (GBook_refuse_further_deed : MCal P w K mg base 1 CBook "refuse_further_deed" ["self"] (z4L (BkD K CBook COffice))) :
  FnOk P w K mg base CX0 5 f fd ["self", "rows"] (z61 K (BkD K CBook COffice)) := by
 have nd := z5c.nd
 refine F.ok z5c (fun vs H Q E h => ?_) (fun cdv A outer s H vs Q E hr h => ?_)
 ·obtain ⟨p, v, fp, zs, r, k, rows, log, pr, rfl, _⟩ := h
  rfl
 obtain ⟨p, v, fp, zs, r, k, rows, log, pr, rfl, bk, ⟨a, vs, rfl, ha, na, hpr⟩, gr, l12, l60, l4, q⟩ := h
 refine ⟨_, (z04 (z0A (z1S GOffice_refuse_writing (hr.mono (by omega)) (z0K (pv 0) rfl) (z00 (pv 1) z03))) (z04 (z0A (z2G GBook_refuse_further_deed (hr.mono (by omega)) (pv 0))) (z04 (z0m (i := 2) nd rfl (Or.inl rfl) (z1S GOffice_write (hr.mono (by omega)) (z0K (pv 0) rfl) (z00 (pv 1) z03))) (z04 (z0A (z3a PySem.F.plainAttrs_list PySem.F.slot_list_append PySem.F.type_list_append z0M (z0K (pv 0) rfl) (z00 (z11 (z00 (z2P rfl M.WRITE) (z00 (pv 2) z03))) z03))) (z07 (z0o (pv 2))))))), ?_⟩
 obtain ⟨dx, po, pd, fs, fo, us, rfl, B⟩ := id bk
 have no : ∀ {b : Addr}, b ∉ p :: dx :: pd :: fo -> b ∉ fo := fun n m => n (by simp [m])
 have hand : Paired (z7d K H fo) vs pr := L2.Paired.mapP hpr fun u x ⟨b, e, q, n⟩ => ⟨b, e, q, no n⟩
 obtain ⟨dxo, pno, plo, fso, xso, efo, h1, h2, h3, h4, l1, l2, l3, lmo, _⟩ := id B.of
 refine ⟨_, rfl, p, CBook, dx, fs, _, rfl, B.hp, T.cl, T.n_office, B.lo, po, dxo, fso, rfl, h1, lmo _ (by simp), _, rfl, po, a, fo, zs, r, rows, vs, pr, rfl, B.of, ha, z2C.of hand, gr, l12, l60, fun H1 s1 => ?_⟩
 refine ⟨_, rfl, p, dx, fs, rfl, s1 _ _ B.hp, B.lm _ (by simp), p, _, zs, r, k, rows, log, rfl, bkOk.same bk s1, l4, ?_⟩
 have ha1 : y1M K H1 fo (.ref a) pr := ⟨a, vs, rfl, SqP.keep s1 ha, no na, L2.Paired.mapP hand fun u x ⟨b, e, q, n⟩ => ⟨b, e, q.imp (fun z => s1.seq z) fun z => z5F s1 z, n⟩⟩
 refine ⟨_, rfl, p, CBook, dx, fs, _, rfl, s1 _ _ B.hp, T.cl, T.n_office, B.lo, po, dxo, fso, rfl, s1 _ _ h1, lmo _ (by simp), _, rfl, po, .ref a, fo, zs, r, rows, pr, rfl, ofOk.same B.of s1, ha1, gr, l12, l60, fun fo' H2 ff sb of2 => ?_⟩
 have sb2 : z0v fo H H2 := fun b o e n => sb _ _ (s1 _ _ e) n
 have lu := z0I B.ds
 refine ⟨_, rfl, p, CBook, dx, fs, _, rfl, sb2 _ _ B.hp B.npo, T.cl, T.n_done, B.ld, .inl ⟨rfl, _, SqL.of (sb2 _ _ B.hd B.ndn)⟩, ?_⟩
 refine ⟨_, rfl, (by show 2 ≤ sizeLine; decide), fun t ht => ⟨pd, us, _, rfl, rfl, z01 ht _ _ _ (sb2 _ _ B.hd B.ndn), z0i (by omega), ?_⟩⟩
 have s3 := z01 ht (.tup [V.str "write", V.int ((rows.length : Int) + 1)])
 have et : upd H2 t (.tup [V.str "write", V.int ((rows.length : Int) + 1)]) t = some (.tup (z28 (none, (rows.length : Int) + 1))) := z02
 have sb3 : z0v fo H (upd H2 t (.tup [V.str "write", V.int ((rows.length : Int) + 1)])) := fun b o e n => s3 _ _ (sb2 _ _ e n)
 have of3 := ofOk.same of2 s3
 obtain ⟨g1, g2⟩ := y3p B sb3 of3 (fun b m => (ff b m).imp id fun z => s1.free z) et (by rw [List.length_append]; omega) ⟨by show (1 : Int) ≤ rows.length + 1; omega, by show ((rows.length : Int) + 1) ≤ _; rw [List.length_append]; exact Int.le_refl _⟩ l4
 refine ⟨_, rfl, q (p :: dx :: pd :: fo') _ (fun b hb => ?_) g1 g2⟩
 rcases List.mem_cons.mp hb with rfl | hb
 ·exact .inl (by simp)
 rcases List.mem_cons.mp hb with rfl | hb
 ·exact .inl (by simp)
 rcases List.mem_cons.mp hb with rfl | hb
 ·exact .inl (by simp)
 exact (ff b hb).imp (fun z => by simp [z]) fun z => s1.free z
theorem y1Y (d : Deed) (rd n : Int) : z1W (z28 d) (z28 (some rd, n)) = decide (d = (some rd, n)) := by
 obtain ⟨a, m⟩ := d
 cases a with
 | none =>
  rw [decide_eq_false (fun e => by cases e)]
  rfl
 | some r =>
  show (eqV (.str "deliver") (.str "deliver") && (eqV (.int r) (.int rd) && (eqV (.int m) (.int n) && true))) = _
  rw [z7P rfl, Bool.true_and, Bool.and_true, Bool.eq_iff_iff, Bool.and_eq_true, decide_eq_true_eq]
  show (r == rd) = true /\ (m == n) = true ↔ _
  rw [beq_iff_eq, beq_iff_eq]
  exact ⟨fun h => by rw [h.1, h.2], fun h => by cases h; exact ⟨rfl, rfl⟩⟩
theorem y36 (log : List Deed) (rd n : Int) : (!(log.map z28).any fun ys => z1W ys (z28 (some rd, n))) = decide (((some rd, n) : Deed) ∉ log) := by
 rw [List.any_map, Bool.eq_iff_iff, Bool.not_eq_true', decide_eq_true_eq, List.any_eq_false]
 refine ⟨fun h m => h _ m ?_, fun h d hd e => h ?_⟩
 ·show z1W _ _ = true
  rw [y1Y]
  exact decide_eq_true rfl
 ·have e' : z1W (z28 d) (z28 (some rd, n)) = true := e
  rw [y1Y] at e'
  rw [<- of_decide_eq_true e']
  exact hd
theorem z87 (d : Deed) : (z28 d).all z20 = true := by
 obtain ⟨a, m⟩ := d
 cases a <;> rfl
theorem z8m {CBook COffice : Addr} (M : Bl mg) (T : TxBook K mg CBook) (F : Fun K "deliver" "Book.deliver" z1L f fd) (GOffice_issue : MCal P w K mg base 1 COffice "issue" ["self", "number"] (z3A (OfD K COffice)))
  (GBook_refuse_unknown_reader : MCal P w K mg base 1 CBook "refuse_unknown_reader" ["self", "reader"] (z3s (BkD K CBook COffice))) (GBook_refuse_further_deed : MCal P w K mg base 1 CBook "refuse_further_deed" ["self"] (z4L (BkD K CBook COffice))) :
  FnOk P w K mg base CX0 5 f fd ["self", "reader", "number"] (z4g (BkD K CBook COffice)) := by
 have nd := z49.nd
 refine F.ok z49 (fun vs H Q E h => ?_) (fun cdv A outer s H vs Q E hr h => ?_)
 ·obtain ⟨p, fp, zs, r, k, rows, log, rd, n, rfl, _⟩ := h
  rfl
 obtain ⟨p, fp, zs, r, k, rows, log, rd, n, rfl, bk, r1, r2, n1, n2, l4, q⟩ := h
 have hu := z8X hr
 refine ⟨_, (z04 (z0A (z1S GOffice_issue (hr.mono (by omega)) (z0K (pv 0) rfl) (z00 (pv 2) z03))) (z04 (z0A (z1S GBook_refuse_unknown_reader (hr.mono (by omega)) (pv 0) (z00 (pv 1) z03))) (z04 (z0A (z2G GBook_refuse_further_deed (hr.mono (by omega)) (pv 0))) (z04 (z0m (i := 3) nd rfl (Or.inl rfl) (z11 (z00 (z2P rfl M.DELIVER) (z00 (pv 1) (z00 (pv 2) z03))))) (z04 (z0m (i := 4) nd rfl (Or.inl rfl) (y1I (y0A hu) (pv 3) (z0K (pv 0) rfl) (by with_unfolding_all rfl))) (z04 (z0A (z3a PySem.F.plainAttrs_list PySem.F.slot_list_append PySem.F.type_list_append z0M (z0K (pv 0) rfl) (z00 (pv 3) z03))) (z07 (z0o (pv 4))))))))), ?_⟩
 obtain ⟨dx, po, pd, fs, fo, us, rfl, B⟩ := id bk
 obtain ⟨dxo, pno, plo, fso, xso, efo, h1, h2, h3, h4, l1, l2, l3, lmo, _⟩ := id B.of
 refine ⟨_, rfl, p, CBook, dx, fs, _, rfl, B.hp, T.cl, T.n_office, B.lo, po, dxo, fso, rfl, h1, lmo _ (by simp), _, rfl, po, fo, zs, r, rows, n, rfl, B.of, n1, n2, fun v H1 s1 _ => ?_⟩
 have bk1 := bkOk.same bk s1
 refine ⟨_, rfl, p, dx, fs, rfl, s1 _ _ B.hp, B.lm _ (by simp), _, rfl, p, _, zs, r, k, rows, log, rd, rfl, bk1, r1, r2, ?_⟩
 refine ⟨_, rfl, p, dx, fs, rfl, s1 _ _ B.hp, B.lm _ (by simp), p, _, zs, r, k, rows, log, rfl, bk1, l4, ?_⟩
 refine ⟨_, rfl, _, rfl, (by show 3 ≤ sizeLine; decide), fun t ht => ?_⟩
 have s2 := s1.trans (z01 ht (.tup [V.str "deliver", V.int rd, V.int n]))
 have et : upd H1 t (.tup [V.str "deliver", V.int rd, V.int n]) t = some (.tup (z28 (some rd, n))) := z02
 generalize upd H1 t (.tup [V.str "deliver", V.int rd, V.int n]) = H2 at s2 et
 have lu := z0I B.ds
 have prs : Paired (fun u ys => ∃ b, u = .ref b /\ SqT K H2 b ys /\ ys.all z20 = true) us (log.map z28) := by
  have go : ∀ {us : List V} {log : List Deed}, Paired (z0V H) us log -> Paired (fun u ys => ∃ b, u = .ref b /\ SqT K H2 b ys /\ ys.all z20 = true) us (log.map z28) := by
   intro us log h
   induction h with
   | nil => exact .nil
   | cons h t ih =>
    obtain ⟨b, e, q⟩ := h
    exact .cons ⟨b, e, SqT.of (s2 _ _ q), z87 _⟩ ih
  exact go B.ds
 refine ⟨_, rfl, _, rfl, p, CBook, dx, fs, _, rfl, s2 _ _ B.hp, T.cl, T.n_done, B.ld, t, pd, _, us, _, rfl, rfl, SqT.of et, z87 _, SqL.of (s2 _ _ B.hd), prs, ?_⟩
 rw [y36]
 refine ⟨_, rfl, p, CBook, dx, fs, _, rfl, s2 _ _ B.hp, T.cl, T.n_done, B.ld, .inl ⟨rfl, _, SqL.of (s2 _ _ B.hd)⟩, _, rfl, pd, us, _, rfl, rfl, s2 _ _ B.hd, z0i (by omega), ?_⟩
 obtain ⟨g1, g2⟩ := y3p B (.of s2) (ofOk.same B.of s2) (fun b m => .inl m) et (Nat.le_refl _) ⟨n1, n2⟩ l4
 exact ⟨_, rfl, q _ g1 g2⟩
theorem y3k {xs : List V} {k : Nat} (h : k ≤ xs.length) : cutV xs none (some (k : Int)) = xs.take k := by
 unfold cutV
 have e1 : HT.sIx xs.length 0 none = 0 := rfl
 have e2 : HT.sIx xs.length xs.length (some (k : Int)) = k := by
  rw [HT.z5W, Nat.min_eq_left h]
 rw [e1, e2, List.drop_zero, Nat.sub_zero]
theorem z9Y {H : Hp} : ∀ {us : List V} {log : List Deed}, Paired (z0V H) us log -> ∀ (c i : Nat) (u : V), (us.take c)[i]? = some u -> ∃ d, (log.take c)[i]? = some d /\ z0V H u d := by
 intro us log h
 induction h with
 | nil => intro c i u e; rw [List.take_nil] at e; simp at e
 | cons h t ih =>
  intro c i u e
  cases c with
  | zero => simp at e
  | succ c =>
   rw [List.take_succ_cons] at e ⊢
   cases i with
   | zero =>
    simp at e
    subst e
    exact ⟨_, rfl, h⟩
   | succ i =>
    obtain ⟨d, q1, q2⟩ := ih c i u (by simpa using e)
    exact ⟨d, by simpa using q1, q2⟩
theorem y2V (d : Deed) (rd : Int) : z1W ((z28 d).take 2) [.str "deliver", .int rd] = decide (d.1 = some rd) := by
 obtain ⟨a, m⟩ := d
 cases a with
 | none =>
  rw [decide_eq_false (fun e => by cases e)]
  rfl
 | some r =>
  show (eqV (.str "deliver") (.str "deliver") && (eqV (.int r) (.int rd) && true)) = _
  rw [z7P rfl, Bool.true_and, Bool.and_true, Bool.eq_iff_iff, decide_eq_true_eq]
  show (r == rd) = true ↔ _
  rw [beq_iff_eq]
  exact ⟨fun h => by rw [h], fun h => Option.some.inj h⟩
theorem z6X {CBook COffice CShelf T0 : Addr} {items : Array Value} (M : Bl mg) (T : TxBook K mg CBook) (TO : TxOffice K mg COffice) (F : FunD K "shelf" "Book.shelf" z2g f fd T0 items) (GOffice_issue : MCal P w K mg base 1 COffice "issue" ["self", "number"] (z3A (OfD K COffice)))
  (GBook_refuse_unknown_reader : MCal P w K mg base 1 CBook "refuse_unknown_reader" ["self", "reader"] (z3s (BkD K CBook COffice))) (GShelf : Mkr P w K mg base 3 CShelf "Shelf" ["self", "names", "reach"] (z7t K CShelf (ShD K CShelf)))
  (GShelf_put : MCal P w K mg base 1 CShelf "put" ["self", "issue"] (y3F (ShD K CShelf))) : FnOk P w K mg base CX0 6 f fd ["self", "reader", "deed"] (z4n (BkD K CBook COffice) (ShD K CShelf)) := by
 have nd := z5u.nd
 refine F.ok z5u (fun vs H Q E h => ?_) (fun cdv A outer s H vs Q E hr h => ?_)
 ·obtain ⟨p, fp, zs, r, k, rows, log, rd, o, rfl, _⟩ := h
  rfl
 obtain ⟨p, fp, zs, r, k, rows, log, rd, o, rfl, bk, r1, r2, od, q⟩ := h
 refine ⟨_, (z04 (z0m (i := 3) nd rfl (Or.inl rfl) (z9C (z9S (y1i (pv 2))) (z0f z0a rfl M.len PySem.boot_len (z00 (z0K (pv 0) rfl) z03)) (pv 2))) (z04 (z0R (PW.pt (z5S (z08 z6H (pv 3) z06 (z0l _)) (z3D (z08 z2U (pv 3) (z0f z0a rfl M.len PySem.boot_len (z00 (z0K (pv 0) rfl) z03)) (z0l _))))) (z07 z1A) z0q) (z04 (z0A (z1S GBook_refuse_unknown_reader (hr.mono (by omega)) (pv 0) (z00 (pv 1) z03))) (z04 (z0m (i := 4) nd rfl (Or.inl rfl) (y0T GShelf (hr.mono (by omega)) rfl (z00 (z0K (z0K (pv 0) rfl) rfl) (z00 (z0K (z0K (pv 0) rfl) rfl) z03)))) (z04 (z1p PassesOwn.never rfl (z1Z (z1X z4l (z0K (pv 0) rfl) z2B (z2A (pv 3)))) (z0n (i := 5) nd rfl (Or.inl rfl)) (z07 (z0R (z08 (y4U hr.units0) (z1X y4l (pv 5) z2B (z2A z06)) (z11 (z00 (z2P rfl M.DELIVER) (z00 (pv 1) z03))) (z0l _)) (z07 (z0A (z1S GShelf_put (hr.mono (by omega)) (pv 4) (z00 (z1S GOffice_issue (hr.mono (by omega)) (z0K (pv 0) rfl) (z00 (z0E z0S (pv 5) z06 (fun _ _ => rfl)) z03)) z03)))) z0q))) (z07 (z0o (pv 4)))))))), ?_⟩
 obtain ⟨dx, po, pd, fs, fo, us, rfl, B⟩ := id bk
 obtain ⟨dxo, pno, plo, fso, xso, efo, h1, h2, h3, h4, l1, l2, l3, lmo, _, _, _, g, r0, r10⟩ := id B.of
 have lu := z0I B.ds
 have cle : o.getD log.length ≤ log.length := by
  cases o with
  | none => exact Nat.le_refl _
  | some d => exact od d rfl
 have beh : ∀ (Qk : VK), Qk (.int (o.getD log.length : Nat)) H -> tIf (tB (tIsN (tVar 2))) (tCB (fun xs H_1 Q => ∃ p ys, xs = [V.ref p] /\ (SqL K H_1 p ys \/ SqT K H_1 p ys) /\ Q (V.int ys.length) H_1) (y4j (tFld K (tVar 0) "done") tNil)) (tVar 2) (z4Q ["self", "reader", "deed", "behind", "told", "past"] [.ref p, .int rd, dedV o]) H Qk := fun Qk hq => by
  cases o with
  | none =>
   refine ⟨_, rfl, _, rfl, iteT ⟨_, rfl, p, CBook, dx, fs, _, rfl, B.hp, T.cl, T.n_done, B.ld, pd, us, rfl, .inl (SqL.of B.hd), ?_⟩⟩
   rw [lu]
   exact hq
  | some d => exact ⟨_, rfl, _, rfl, iteF ⟨_, rfl, hq⟩⟩
 refine beh _ ?_
 generalize o.getD log.length = c at cle q
 clear beh
 refine ⟨_, rfl, _, _, rfl, rfl, _, rfl, ite2 (fun q => absurd (z0H q) (by omega)) fun _ => ⟨_, rfl, _, rfl, p, CBook, dx, fs, _, rfl, B.hp, T.cl, T.n_done, B.ld, pd, us, rfl, .inl (SqL.of B.hd), _, _, rfl, rfl, _, rfl, ite2 (fun q => absurd (z0H q) (by omega)) fun _ => ?_⟩⟩
 refine ⟨_, rfl, p, dx, fs, rfl, B.hp, B.lm _ (by simp), _, rfl, p, _, zs, r, k, rows, log, rd, rfl, bk, r1, r2, ?_⟩
 refine ⟨_, rfl, p, CBook, dx, fs, _, rfl, B.hp, T.cl, T.n_office, B.lo, po, COffice, dxo, fso, _, rfl, h1, TO.cl, TO.n_names, l1, _, rfl, p, CBook, dx, fs, _, rfl, B.hp, T.cl, T.n_office, B.lo, po, COffice, dxo, fso, _, rfl, h1, TO.cl, TO.n_reach, l2, fun x dxs nx ndx ne => ?_⟩
 have m1 := z68 (C := CShelf) (Same.refl H) nx ndx
 refine ⟨x, dxs, pno, zs, r, rfl, z02, ne, by rw [z0g ne, z02], .inr (m1 _ _ h3), g, r0, r10, fun fq H1 ff sb sh => ⟨rfl, ?_⟩⟩
 have s1 : Same H H1 := z5H sb m1 nx
 have f1 : ∀ b ∈ fq, H b = none := fun b hb => z4P m1 nx ndx (ff b hb)
 have sh1 : ShD K CShelf H1 x fq zs r (fun n => z1o rows n r) [] := sh _
 refine ⟨_, rfl, p, CBook, dx, fs, _, rfl, s1 _ _ B.hp, T.cl, T.n_done, B.ld, _, rfl, _, rfl, pd, _, rfl, SqL.of (s1 _ _ B.hd), fun lq hlq => ?_⟩
 rw [y3k (by omega)]
 have s2 := s1.trans (z01 hlq (.lst (us.take c)))
 have e2 : upd H1 lq (.lst (us.take c)) lq = some (.lst (us.take c)) := z02
 have sh2 := shOk.same sh1 (z01 hlq (.lst (us.take c)))
 have f2 : lq ∉ fq := fun m => by
  obtain ⟨o, e, _⟩ := shOk.own sh1 lq m
  rw [hlq] at e
  cases e
 generalize upd H1 lq (.lst (us.take c)) = H2 at s2 e2 sh2
 have nt2 : z4m H2 fq := shOk.noTup sh2
 have out : ∀ {b : Addr} {o : HO}, H b = some o -> b ∉ fq := fun e m => by rw [f1 _ m] at e; cases e
 have lt : (us.take c).length = c := by rw [List.length_take]; omega
 refine ⟨lq, rfl, ⟨_, SqL.of e2⟩, z2u (K := K) (a := lq) (xs := us.take c) (fun i σ H' => ∃ (fq' : List Addr) (o5 : Option V), z0v fq H2 H' /\ ShD K CShelf H' x fq' zs r (fun n => z1o rows n r) (gotL ((log.take c).take i) rd) /\ (∀ b ∈ fq', b ∈ fq \/ H2 b = none) /\
   σ = [some (.ref p), some (.int rd), some (dedV o), some (.int c), some (.ref x), o5]) ⟨fq, none, .of (Same.refl _), sh2, fun b m => .inl m, rfl⟩ (fun i σ H' _ ⟨_, _, bt, _⟩ => SqL.of (bt _ _ e2 f2)) ?_ ?_⟩
 ·rintro i u σ H' hi ⟨fq', o5, bt, shx, ffx, rfl⟩
  obtain ⟨d, ed, b, rfl, hb⟩ := z9Y B.ds c i u hi
  have sk : ∀ {b : Addr} {o : HO}, H b = some o -> H' b = some o := fun e => bt _ _ (s2 _ _ e) (out e)
  have hin := B.in1 d (List.mem_of_mem_take (List.mem_of_getElem? ed))
  have l2d : 2 ≤ (z28 d).length := by
   obtain ⟨a, m⟩ := d
   cases a
   ·show 2 ≤ 2; decide
   ·show 2 ≤ 3; decide
  have cut : ∀ (Qk : VK), (∀ (t1 : Addr) (G : Hp), Same H' G -> G t1 = some (.tup ((z28 d).take 2)) -> Qk (.ref t1) G) -> rSlA K (.ref b) none (some 2) H' Qk := fun Qk hq => by
   refine ⟨b, _, rfl, SqT.of (sk hb), fun hw => hq b H' (Same.refl _) ?_, fun _ t1 ht1 => hq t1 _ (z01 ht1 _) ?_⟩
   ·rw [sk hb, List.take_of_length_le]
    have := hw.2
    have e : HT.sIx (z28 d).length (z28 d).length (some (2 : Int)) = min 2 (z28 d).length := HT.z5W _ _ 2
    omega
   ·rw [z02]
    exact congrArg (fun z => some (HO.tup z)) (y3k (k := 2) l2d)
  refine ⟨_, rfl, _, rfl, cut _ fun t1 G sG e1' => ⟨_, rfl, (by show 2 ≤ sizeLine; decide), fun t2 ht2 => ?_⟩⟩
  have s3 := sG.trans (z01 ht2 (.tup [V.str "deliver", V.int rd]))
  have e3 : upd G t2 (.tup [V.str "deliver", V.int rd]) t1 = some (.tup ((z28 d).take 2)) := z01 ht2 _ _ _ e1'
  have e4 : upd G t2 (.tup [V.str "deliver", V.int rd]) t2 = some (.tup [V.str "deliver", V.int rd]) := z02
  generalize upd G t2 (.tup [V.str "deliver", V.int rd]) = H3 at s3 e3 e4
  have fl : ((z28 d).take 2).all z20 = true := by
   obtain ⟨a, m⟩ := d
   cases a <;> rfl
  refine ⟨t1, t2, _, _, rfl, rfl, SqT.of e3, SqT.of e4, fl, rfl, _, rfl, ?_⟩
  rw [y2V, z0w ed, z8w]
  have sh3 := shOk.same shx s3
  refine ite2 (fun cc => ?_) (fun cc => ?_)
  ·have c' := z0H cc
   rw [if_pos c']
   obtain ⟨a, n⟩ := d
   have ea : a = some rd := c'
   subst ea
   obtain ⟨d1, g1, z1, w1⟩ := shOk.ins sh3
   refine ⟨_, rfl, x, d1, g1, rfl, z1, w1 _ (by simp), _, rfl, p, CBook, dx, fs, _, rfl, s3 _ _ (sk B.hp), T.cl, T.n_office, B.lo, po, dxo, fso, rfl, s3 _ _ (sk h1), lmo _ (by simp), _, rfl, b, _, 2, _, rfl, rfl, SqT.of (s3 _ _ (sk hb)), rfl, po, fo, zs, r, rows, n, rfl, ?_, hin.1, hin.2, fun v H4 s4 tv => ?_⟩
   ·exact ofOk.same (ofOk.keep (ofOk.same B.of s2) bt (fun b m z => by
     obtain ⟨o, e, _⟩ := ofOk.own B.of b z
     exact out e m) nt2) s3
   have n60 : rows.length ≤ 60 := by
    obtain ⟨_, _, _, _, _, _, _, _, _, _, _, _, _, _, _, n60, _⟩ := B.of
    exact n60
   refine ⟨x, v, fq', zs, r, _, _, n, _, rfl, shOk.same sh3 s4, tv, rfl, hin.1, by have := hin.2; have : n ≤ rows.length := this; omega, fun fq2 H5 ff5 sb5 sh5 => ?_⟩
   have g4 := s3.trans s4
   exact ⟨fq2, _, (fun b o e nb => sb5 b o (g4 _ _ (bt b o e nb)) fun m => (ffx b m).elim nb fun z => by rw [e] at z; cases z), sh5, z8Q bt ffx g4 ff5, rfl⟩
  ·have c' := z3E cc
   rw [if_neg c']
   exact ⟨fq', _, fun b o e nb => s3 _ _ (bt b o e nb), sh3, ffx, rfl⟩
 ·rintro σ H' ⟨fq', o5, bt, shx, ffx, rfl⟩
  rw [lt, List.take_take, Nat.min_self] at shx
  exact ⟨_, rfl, q x fq' H' (fun b m => (ffx b m).elim (f1 b) fun z => s2.free z) (fun b o e => bt _ _ (s2 _ _ e) (out e)) shx⟩
def y4z : Deed -> DV
 | (none, n) => .tup [.str "write", .int n]
 | (some r, n) => .tup [.str "deliver", .int r, .int n]
theorem y0R {H : Hp} {u : V} {d : Deed} (h : z0V H u d) : Tell H (y4z d) u := by
 obtain ⟨b, rfl, e⟩ := h
 obtain ⟨a, n⟩ := d
 cases a with
 | none => exact z0D e (by show 2 ≤ 1000000; decide) (.cons (z3Y _) (.cons (z0F _) .nil))
 | some r => exact z0D e (by show 3 ≤ 1000000; decide) (.cons (z3Y _) (.cons (z0F _) (.cons (z0F _) .nil)))
theorem z7Y {H : Hp} : ∀ {us : List V} {log : List Deed}, Paired (z0V H) us log -> ∀ (i : Nat) (d : Deed), log[i]? = some d -> ∃ u, us[i]? = some u /\ z0V H u d := by
 intro us log h
 induction h with
 | nil => intro i d e; simp at e
 | cons h t ih =>
  intro i d e
  cases i with
  | zero =>
   simp at e
   subst e
   exact ⟨_, rfl, h⟩
  | succ i =>
   obtain ⟨u, q1, q2⟩ := ih i d (by simpa using e)
   exact ⟨u, by simpa using q1, q2⟩
def z6N (Bk : BkP) : Sp := fun vs H Q _ => ∃ (p : Addr) (fp : List Addr) (zs : List Str) (r k : Int) (rows : List Row) (log : List Deed), vs = [.ref p] /\ Bk H p fp zs r k rows log /\ ∀ H', Same H H' -> Q (.int rows.length) H'
def z82 (Bk : BkP) : Sp := fun vs H Q _ => ∃ (p : Addr) (fp : List Addr) (zs : List Str) (r k : Int) (rows : List Row) (log : List Deed) (n : Int), vs = [.ref p, .int n] /\ Bk H p fp zs r k rows log /\ 1 ≤ n /\ n ≤ rows.length /\
 ∀ (v : V) (H' : Hp), Same H H' -> Tell H' (z1o rows n r) v -> Q v H'
def z9W (Bk : BkP) : Sp := fun vs H Q _ => ∃ (p : Addr) (fp : List Addr) (zs : List Str) (r k : Int) (rows : List Row) (log : List Deed) (i : Nat) (d : Deed), vs = [.ref p, .int ((i : Int) + 1)] /\ Bk H p fp zs r k rows log /\ log[i]? = some d /\
 ∀ v, Tell H (y4z d) v -> Q v H
theorem z9k {CBook COffice : Addr} (M : Bl mg) (T : TxBook K mg CBook) (F : Fun K "latest" "Book.latest" z24 f fd) (GOffice_latest : MCal P w K mg base 1 COffice "latest" ["self"] (z56 (OfD K COffice))) : FnOk P w K mg base CX0 2 f fd ["self"] (z6N (BkD K CBook COffice)) := by
 have nd := z4A.nd
 refine F.ok z4A (fun vs H Q E h => ?_) (fun cdv A outer s H vs Q E hr h => ?_)
 ·obtain ⟨p, fp, zs, r, k, rows, log, rfl, _⟩ := h
  rfl
 obtain ⟨p, fp, zs, r, k, rows, log, rfl, ⟨dx, po, pd, fs, fo, us, rfl, B⟩, q⟩ := h
 refine ⟨_, (z07 (z0o (z2G GOffice_latest (hr.mono (by omega)) (z0K (pv 0) rfl)))), ?_⟩
 obtain ⟨dxo, pno, plo, fso, xso, efo, h1, h2, h3, h4, l1, l2, l3, lmo, _⟩ := id B.of
 exact ⟨_, rfl, p, CBook, dx, fs, _, rfl, B.hp, T.cl, T.n_office, B.lo, po, dxo, fso, rfl, h1, lmo _ (by simp), po, fo, zs, r, rows, rfl, B.of, q⟩
theorem y0c {CBook COffice : Addr} (M : Bl mg) (T : TxBook K mg CBook) (F : Fun K "issue" "Book.issue" z2o f fd) (GOffice_issue : MCal P w K mg base 1 COffice "issue" ["self", "number"] (z3A (OfD K COffice))) : FnOk P w K mg base CX0 2 f fd ["self", "number"] (z82 (BkD K CBook COffice)) := by
 have nd := z5t.nd
 refine F.ok z5t (fun vs H Q E h => ?_) (fun cdv A outer s H vs Q E hr h => ?_)
 ·obtain ⟨p, fp, zs, r, k, rows, log, n, rfl, _⟩ := h
  rfl
 obtain ⟨p, fp, zs, r, k, rows, log, n, rfl, ⟨dx, po, pd, fs, fo, us, rfl, B⟩, n1, n2, q⟩ := h
 refine ⟨_, (z07 (z0o (z1S GOffice_issue (hr.mono (by omega)) (z0K (pv 0) rfl) (z00 (pv 1) z03)))), ?_⟩
 obtain ⟨dxo, pno, plo, fso, xso, efo, h1, h2, h3, h4, l1, l2, l3, lmo, _⟩ := id B.of
 exact ⟨_, rfl, p, CBook, dx, fs, _, rfl, B.hp, T.cl, T.n_office, B.lo, po, dxo, fso, rfl, h1, lmo _ (by simp), _, rfl, po, fo, zs, r, rows, n, rfl, B.of, n1, n2, q⟩
theorem y1l {CBook COffice : Addr} (M : Bl mg) (T : TxBook K mg CBook) (F : Fun K "deed" "Book.deed" z2I f fd) : FnOk P w K mg base CX0 1 f fd ["self", "which"] (z9W (BkD K CBook COffice)) := by
 have nd := z5V.nd
 refine F.ok z5V (fun vs H Q E h => ?_) (fun cdv A outer s H vs Q E hr h => ?_)
 ·obtain ⟨p, fp, zs, r, k, rows, log, i, d, rfl, _⟩ := h
  rfl
 obtain ⟨p, fp, zs, r, k, rows, log, i, d, rfl, ⟨dx, po, pd, fs, fo, us, rfl, B⟩, ed, q⟩ := h
 refine ⟨_, (z04 (z0R (PW.pt (z5S (z08 z6H (pv 1) z06 (z0l _)) (z3D (z08 z2U (pv 1) (z0f z0a rfl M.len PySem.boot_len (z00 (z0K (pv 0) rfl) z03)) (z0l _))))) (z07 z1A) z0q) (z07 (z0o (z0E z0U (z0K (pv 0) rfl) (z0h z37 (pv 1) z06) (fun _ _ => rfl))))), ?_⟩
 have lu := z0I B.ds
 have hi := (List.getElem?_eq_some_iff.mp ed).1
 obtain ⟨u, eu, du⟩ := z7Y B.ds i d ed
 have av : atI us ((i : Int) + 1 - 1) = some u := by
  rw [Int.add_sub_cancel]
  exact z1k eu
 refine ⟨_, rfl, _, _, rfl, rfl, _, rfl, ite2 (fun q => absurd (z0H q) (by omega)) fun _ => ?_⟩
 refine ⟨_, rfl, _, rfl, p, CBook, dx, fs, _, rfl, B.hp, T.cl, T.n_done, B.ld, pd, us, rfl, .inl (SqL.of B.hd), _, _, rfl, rfl, _, rfl, ite2 (fun q => absurd (z0H q) (by omega)) fun _ => ?_⟩
 exact ⟨_, rfl, p, CBook, dx, fs, _, rfl, B.hp, T.cl, T.n_done, B.ld, _, rfl, _, _, rfl, rfl, pd, us, _, u, rfl, rfl, SqL.of B.hd, av, q u (y0R du)⟩
def wrN (log : List Deed) : Nat := (log.filter fun d => d.1.isNone).length
theorem z2a (log : List Deed) (d : Deed) : wrN (log ++ [d]) = wrN log + (if d.1.isNone then 1 else 0) := by
 unfold wrN
 rw [List.filter_append, List.length_append, List.filter_cons]
 split <;> rfl
theorem y3n (log : List Deed) : wrN log ≤ log.length := List.length_filter_le _ _
def y38 (k : Int) (log : List Deed) (d : Deed) : Prop := match d with
 | (none, n) => n = (wrN log : Int) + 1 /\ wrN log < 60
 | (some rd, n) => 1 ≤ rd /\ rd ≤ k /\ 1 ≤ n /\ n ≤ (wrN log : Int)
def z39 (k : Int) (log : List Deed) : Prop := ∀ i d, log[i]? = some d -> y38 k (log.take i) d
theorem z39.nil (k : Int) : z39 k [] := fun i d e => by simp at e
theorem z39.snoc {k : Int} {log : List Deed} {d : Deed} (h : z39 k log) (n : y38 k log d) : z39 k (log ++ [d]) := fun i e he => by
 rcases Nat.lt_or_ge i log.length with q | q
 ·rw [List.getElem?_append_left q] at he
  rw [List.take_append_of_le_length (Nat.le_of_lt q)]
  exact h i e he
 ·rw [List.getElem?_append_right q] at he
  have hi : i - log.length = 0 := by
   have := (List.getElem?_eq_some_iff.mp he).1
   rw [List.length_singleton] at this
   omega
  rw [hi] at he
  cases he
  have : i = log.length := by omega
  rw [this, List.take_left]
  exact n
theorem z4y {H H' : Hp} {l t : Addr} {us : List V} {log : List Deed} (d : Deed) (s : Same H H') (nl : H l = none) (el : H' l = some (.lst us)) (pr : Paired (z0V H') us log) (ht : H' t = none) :
  Same H (upd (upd H' t (.tup (z28 d))) l (.lst (us ++ [.ref t]))) /\ upd (upd H' t (.tup (z28 d))) l (.lst (us ++ [.ref t])) l = some (.lst (us ++ [.ref t])) /\ Paired (z0V (upd (upd H' t (.tup (z28 d))) l (.lst (us ++ [.ref t])))) (us ++ [.ref t]) (log ++ [d]) := by
 have s1 := z01 ht (.tup (z28 d))
 have e1 := s1 _ _ el
 have k1 : ∀ {b : Addr} {xs : List V}, upd H' t (.tup (z28 d)) b = some (.tup xs) -> upd (upd H' t (.tup (z28 d))) l (.lst (us ++ [.ref t])) b = some (.tup xs) := fun q => by
  rw [z0g (z43 q e1 (fun z => by cases z))]
  exact q
 refine ⟨z2F (s.trans s1) nl, z02, Paired.snoc (L2.Paired.mapP pr fun u d' ⟨b, e, q⟩ => ⟨b, e, k1 (s1 _ _ q)⟩) ⟨t, rfl, k1 z02⟩⟩
theorem DeedsAt.keep {H H' : Hp} {us : List V} {log : List Deed} (s : Same H H') (h : Paired (z0V H) us log) : Paired (z0V H') us log :=
 L2.Paired.mapP h fun u d ⟨b, e, q⟩ => ⟨b, e, s _ _ q⟩
theorem wr60 {k : Int} {log : List Deed} (h : z39 k log) : ∀ i, wrN (log.take i) ≤ 60
 | 0 => Nat.zero_le _
 | i + 1 => by
  have ih := wr60 h i
  cases e : log[i]? with
  | none =>
   rw [List.take_add_one, e]
   simpa using ih
  | some d =>
   have ok := h i d e
   rw [z0w e, z2a]
   obtain ⟨a, n⟩ := d
   cases a with
   | none =>
    have : wrN (log.take i) < 60 := ok.2
    show wrN (log.take i) + 1 ≤ 60
    omega
   | some rd => exact ih
def HT (H : Hp) (u : V) (p : Str × Int) : Prop := ∃ b, u = .ref b /\ H b = some (.tup [.str p.1, .int p.2])
theorem HT.keep {H H' : Hp} (g : Same H H') : ∀ {us : List V} {pr : Row}, Paired (HT H) us pr -> Paired (HT H') us pr
 | _, _, .nil => .nil
 | _, _, .cons ⟨b, e, h⟩ t => .cons ⟨b, e, g _ _ h⟩ (HT.keep g t)
theorem HT.hand {K : PySem.W.Frag} {H : Hp} {fp : List Addr} (no : z4m H fp) : ∀ {us : List V} {pr : Row}, Paired (HT H) us pr -> Paired (z7d K H fp) us pr
 | _, _, .nil => .nil
 | _, _, .cons ⟨b, e, h⟩ t => .cons ⟨b, e, .inr (SqT.of h), fun m => no b m _ h⟩ (HT.hand no t)
theorem z91 {ns ms : List Int} (h : ∀ x, x ∈ ns ↔ x ∈ ms) (rows : List Row) (r n : Int) : z2y ns rows r n = z2y ms rows r n := by
 unfold z2y
 rw [z6U h]
theorem z8V {ns ms : List Int} (h : ∀ x, x ∈ ns ↔ x ∈ ms) (rows : List Row) (r num : Int) (z : Str) : z1d ns rows r num z = z1d ms rows r num z := by
 have e1 : z32 ns rows r num z = z32 ms rows r num z := by
  unfold z32
  rw [z6O h]
  congr 1
  funext n
  rw [z91 h]
 have e2 : z26 ns r num = z26 ms r num := by
  unfold z26
  rw [z6O h]
  congr 1
  funext n
  rw [z6U h]
 unfold z1d
 rw [e1, e2]
def dlog (hs : List Int) : List Deed := hs.map fun n => (some 1, n)
theorem y0X (hs : List Int) (n : Int) : dlog (hs ++ [n]) = dlog hs ++ [(some 1, n)] := by
 unfold dlog
 rw [List.map_append]
 rfl
theorem z7a {H : Hp} : ∀ {w : Row} {xs : List V}, z09 H (w.map z7R) xs -> Paired (HT H) xs w
 | [], xs, h => by
  rw [z0Y h]
  exact .nil
 | p :: w, xs, h => by
  obtain ⟨x, r, rfl, t, h'⟩ := z0d h
  obtain ⟨a, us, rfl, ea, _, tu⟩ := z0s (show Tell H (.tup [.str p.1, .int p.2]) x from t)
  obtain ⟨y1, r1, rfl, t1, h3⟩ := z0d tu
  obtain ⟨y2, r2, rfl, t2, h4⟩ := z0d h3
  have := z0Y h4
  subst this
  rw [z3O t1, z14 t2] at ea
  exact .cons ⟨a, rfl, ea⟩ (z7a h')
def z7n (Sh : ShP) : Sp := fun vs H Q _ => ∃ (x : Addr) (fp : List Addr) (nm : List Str) (r : Int) (rows : List Row) (had : List Int), vs = [.ref x] /\ Sh H x fp nm r (fun n => z1o rows n r) had /\ GoodN nm /\ Rws nm rows /\ rows.length ≤ 60 /\ (∀ n ∈ had, 1 ≤ n /\ n ≤ rows.length) /\ 0 ≤ r /\ r ≤ 10 /\
 ∀ (v : V) (H' : Hp), Same H H' -> Tell H' (.tup (z7q (z0j had) rows r)) v -> Q v H'
def y0P (K : PySem.W.Frag) : Sp := fun vs H Q _ => ∃ (p : Addr) (ns : List Int), vs = [.ref p] /\ SqI K H p ns /\ (∀ x ∈ ns, 1 ≤ x /\ x ≤ 60) /\
 ∀ (l : Addr) (H' : Hp), H l = none -> Same H H' -> H' l = some (.tup ((z1T ns).map V.int)) -> Q (.ref l) H'
theorem y3P (M : Bl mg) (F : Fun K "lacking_numbers" "lacking_numbers" z1a f fd) : FnOk P w K mg base CX0 1 f fd ["had"] (y0P K) := by
 have nd := z3m.nd
 refine F.ok z3m (fun vs H Q E h => ?_) (fun cdv A outer s H vs Q E hr h => ?_)
 ·obtain ⟨p, ns, rfl, _⟩ := h
  rfl
 obtain ⟨p, ns, rfl, hS, hall, q⟩ := h
 refine ⟨_, (z04 (z0m (i := 1) nd rfl (Or.inl rfl) (y21 rfl rfl M.max (z00 (pv 0) z03) (z7m z06 z9X))) (z07 (z0o (z0x z0u rfl M.tuple PyProof.Rows.boot_tuple (z00 (z1F ["number"] ["had"] [0] rfl (z0y rfl (by decide +kernel) rfl (by decide +kernel) rfl rfl) (z4s rfl M.range (z00 z06 (z00 (z0h z0Z (pv 1) z06) z03))) (fun _ _ _ _ _ => (z0n (i := 0) (show ((["number"] : List PySem.Str) ++ (["had"] : List PySem.Str)).Nodup from by decide +kernel) rfl (Or.inl rfl))) (z0C (by decide)) z0e (fun _ _ _ _ _ => (z2W (z08 (r := rIn K true) z21 (pv 0) (pv 1) (by with_unfolding_all rfl)))) (fun _ _ _ _ _ => (pv 0))) z03))))), ?_⟩
 refine ⟨_, rfl, p, ns, .int 0, rfl, rfl, hS, fun hnil => ?_, fun m hm top => ?_⟩
 ·subst hnil
  refine ⟨_, rfl, _, _, rfl, rfl, _, _, rfl, ⟨by decide, by decide, by decide, by decide⟩, ?_⟩
  refine z65 (lo := 1) (n := 0) (fun _ => true) (fun k => .int k) (by decide) (fun k ys N k0 k1 hN => by omega) ?_
  intro D hD
  refine ⟨D, _, rfl, .inl ⟨SqL.of z02, fun l hl => ?_⟩⟩
  have h1 : H l = none := (z01 hD _).free hl
  refine q l _ h1 ((z01 hD _).trans (z01 hl _)) ?_
  rw [z02, z6z]
  rfl
 ·have hm' := hall m hm
  refine ⟨_, rfl, _, _, rfl, rfl, _, _, rfl, ⟨by decide, by decide, by omega, by omega⟩, ?_⟩
  refine z65 (lo := 1) (n := (m + 1 - 1).toNat) (fun k => !decide (k ∈ ns)) (fun k => .int k) (by omega) (fun k ys N k0 k1 hN => ?_) ?_
  ·refine ⟨_, rfl, _, rfl, p, _, rfl, hS, rfl, z2Y ns, _, rfl, ?_⟩
   rw [if_pos rfl, z3t]
   refine ite2 (fun c => ?_) (fun c => ?_)
   ·rw [if_pos c] at hN
    exact ⟨_, rfl, hN⟩
   ·rw [if_neg c] at hN
    exact hN
  ·intro D hD
   refine ⟨D, _, rfl, .inl ⟨SqL.of z02, fun l hl => ?_⟩⟩
   have h1 : H l = none := (z01 hD _).free hl
   refine q l _ h1 ((z01 hD _).trans (z01 hl _)) ?_
   rw [z02]
   have e : z2z (fun k => !decide (k ∈ ns)) (fun k => V.int k) (upI 1 (m + 1 - 1).toNat) = (z1T ns).map V.int := by
    unfold z2z
    rw [y29 hm hall top]
   rw [e]
def z7H (K : PySem.W.Frag) : Sp := fun vs H Q _ => ∃ (p : Addr) (ns : List Int) (n r : Int), vs = [.ref p, .int n, .int r] /\ SqI K H p ns /\ (∀ x ∈ ns, 1 ≤ x /\ x ≤ 60) /\ ns.length ≤ 900 /\
 ∀ H', Same H H' -> Q (.int (z10 ns n r)) H'
theorem y1X (M : Bl mg) (F : Fun K "teller_of" "teller_of" z2Q f fd) : FnOk P w K mg base CX0 1 f fd ["had", "number", "reach"] (z7H K) := by
 have nd := z5P.nd
 refine F.ok z5P (fun vs H Q E h => ?_) (fun cdv A outer s H vs Q E hr h => ?_)
 ·obtain ⟨p, ns, n, r, rfl, _⟩ := h
  rfl
 obtain ⟨p, ns, n, r, rfl, hS, hall, hlen, q⟩ := h
 have fin : ∀ D, H D = none -> (z2z (fun y => decide (n < y) && decide (y - r ≤ n)) (fun y => V.int y) ns = (ns.filter fun y => decide (n < y) && decide (y - r ≤ n)).map V.int) := fun _ _ => rfl
 have none' : (ns.filter fun y => decide (n < y) && decide (y - r ≤ n)) = [] -> z10 ns n r = 0 := fun e => z52 fun y hy h1 h2 => by
  have : y ∈ ns.filter fun y => decide (n < y) && decide (y - r ≤ n) := List.mem_filter.mpr ⟨hy, by rw [decide_eq_true h1, decide_eq_true h2]; rfl⟩
  rw [e] at this
  cases this
 have some' : ∀ m, m ∈ (ns.filter fun y => decide (n < y) && decide (y - r ≤ n)) -> (∀ y ∈ (ns.filter fun y => decide (n < y) && decide (y - r ≤ n)), m ≤ y) -> z10 ns n r = m := fun m hm hl => by
  rw [List.mem_filter, Bool.and_eq_true, decide_eq_true_eq, decide_eq_true_eq] at hm
  exact z9y hall hm.1 hm.2.1 hm.2.2 fun y hy h1 h2 => hl y (List.mem_filter.mpr ⟨hy, by rw [decide_eq_true h1, decide_eq_true h2]; rfl⟩)
 rcases hS with hS | hS
 ·refine ⟨_, (z04 (z4X (i := 3) ["above"] ["number", "reach"] [1, 2] rfl nd rfl (Or.inl rfl) (z0y rfl (by decide +kernel) rfl (by decide +kernel) rfl rfl) (z1Z (pv 0)) (fun _ _ _ _ _ => (z0n (i := 0) (show ((["above"] : List PySem.Str) ++ (["number", "reach"] : List PySem.Str)).Nodup from by decide +kernel) rfl (Or.inl rfl))) (z0C (by decide)) z0e (fun _ _ _ _ _ => (z2W (PW.pt (z3F (z08 z2U (pv 0) (pv 1) (z0l _)) (z38 (z08 y4i (z0h z37 (pv 0) (pv 2)) (pv 1) (z0l _))))))) (fun _ _ _ _ _ => (pv 0))) (z07 (z0o (y1y rfl rfl M.min (z00 (pv 3) z03) (z7m z06 z9X))))), ?_⟩
  refine ⟨_, rfl, p, rfl, ⟨_, hS⟩, ?_⟩
  refine z8v (ns := ns) (fun y => decide (n < y) && decide (y - r ≤ n)) (fun y => .int y) hS (by omega) (fun y ys N hy hN => ?_) (fun D hD => ?_)
  ·refine ⟨_, rfl, _, rfl, _, _, rfl, rfl, _, rfl, ?_⟩
   refine ite2 (fun c => ?_) (fun c => ?_)
   ·refine ⟨_, rfl, _, rfl, _, _, rfl, rfl, _, rfl, _, _, rfl, rfl, _, rfl, ?_⟩
    rw [c, Bool.true_and] at hN
    refine ite2 (fun c2 => ?_) (fun c2 => ?_)
    ·rw [if_pos c2] at hN
     exact ⟨_, rfl, hN⟩
    ·rw [if_neg c2] at hN
     exact hN
   ·rw [Bool.eq_false_iff.mpr c, Bool.false_and] at hN
    exact iteF hN
  ·refine ⟨_, rfl, D, _, .int 0, rfl, rfl, .inl (SqL.of z02), fun e => ?_, fun m hm hl => ?_⟩
   ·have := q _ (z01 hD (.lst (z2z (fun y => decide (n < y) && decide (y - r ≤ n)) (fun y => V.int y) ns)))
    rw [none' e] at this
    exact this
   ·have := q _ (z01 hD (.lst (z2z (fun y => decide (n < y) && decide (y - r ≤ n)) (fun y => V.int y) ns)))
    rw [some' m hm hl] at this
    exact this
 ·refine ⟨_, (z04 (z4X (i := 3) ["above"] ["number", "reach"] [1, 2] rfl nd rfl (Or.inl rfl) (z0y rfl (by decide +kernel) rfl (by decide +kernel) rfl rfl) (z4r (pv 0)) (fun _ _ _ _ _ => (z0n (i := 0) (show ((["above"] : List PySem.Str) ++ (["number", "reach"] : List PySem.Str)).Nodup from by decide +kernel) rfl (Or.inl rfl))) (z0C (by decide)) z0e (fun _ _ _ _ _ => (z2W (PW.pt (z3F (z08 z2U (pv 0) (pv 1) (z0l _)) (z38 (z08 y4i (z0h z37 (pv 0) (pv 2)) (pv 1) (z0l _))))))) (fun _ _ _ _ _ => (pv 0))) (z07 (z0o (y1y rfl rfl M.min (z00 (pv 3) z03) (z7m z06 z9X))))), ?_⟩
  refine ⟨_, rfl, p, rfl, ⟨_, hS⟩, ?_⟩
  refine z72 (ns := ns) (fun y => decide (n < y) && decide (y - r ≤ n)) (fun y => .int y) hS (by omega) (fun y ys N hy hN => ?_) (fun D hD => ?_)
  ·refine ⟨_, rfl, _, rfl, _, _, rfl, rfl, _, rfl, ?_⟩
   refine ite2 (fun c => ?_) (fun c => ?_)
   ·refine ⟨_, rfl, _, rfl, _, _, rfl, rfl, _, rfl, _, _, rfl, rfl, _, rfl, ?_⟩
    rw [c, Bool.true_and] at hN
    refine ite2 (fun c2 => ?_) (fun c2 => ?_)
    ·rw [if_pos c2] at hN
     exact ⟨_, rfl, hN⟩
    ·rw [if_neg c2] at hN
     exact hN
   ·rw [Bool.eq_false_iff.mpr c, Bool.false_and] at hN
    exact iteF hN
  ·refine ⟨_, rfl, D, _, .int 0, rfl, rfl, .inl (SqL.of z02), fun e => ?_, fun m hm hl => ?_⟩
   ·have := q _ (z01 hD (.lst (z2z (fun y => decide (n < y) && decide (y - r ≤ n)) (fun y => V.int y) ns)))
    rw [none' e] at this
    exact this
   ·have := q _ (z01 hD (.lst (z2z (fun y => decide (n < y) && decide (y - r ≤ n)) (fun y => V.int y) ns)))
    rw [some' m hm hl] at this
    exact this
def Pr (H : Hp) (u : V) (p : Int × Int) : Prop := ∃ a, u = .ref a /\ H a = some (.tup [.int p.1, .int p.2])
theorem Pr.keep {H H' : Hp} (s : Same H H') {u : V} {p : Int × Int} (h : Pr H u p) : Pr H' u p := let ⟨a, e, q⟩ := h; ⟨a, e, s _ _ q⟩
abbrev Prs (H : Hp) : List V -> List (Int × Int) -> Prop := Paired (Pr H)
theorem Prs.keep {H H' : Hp} (s : Same H H') : ∀ {xs : List V} {ps : List (Int × Int)}, Prs H xs ps -> Prs H' xs ps
 | _, _, .nil => .nil
 | _, _, .cons r t => .cons (r.keep s) (Prs.keep s t)
theorem Prs.get {H : Hp} : ∀ {xs : List V} {ps : List (Int × Int)}, Prs H xs ps -> ∀ (i : Nat) (u : V), xs[i]? = some u -> ∃ p, ps[i]? = some p /\ Pr H u p
 | _, _, .nil, i, u, e => by simp at e
 | _, _, .cons r t, 0, u, e => by
  simp at e
  subst e
  exact ⟨_, rfl, r⟩
 | _, _, .cons r t, i + 1, u, e => by
  obtain ⟨p, h1, h2⟩ := Prs.get t i u (by simpa using e)
  exact ⟨p, by simpa using h1, h2⟩
theorem Prs.snoc {H : Hp} {xs : List V} {ps : List (Int × Int)} {u : V} {p : Int × Int} (h : Prs H xs ps) (q : Pr H u p) : Prs H (xs ++ [u]) (ps ++ [p]) := Paired.snoc h q
theorem Prs.len {H : Hp} : ∀ {xs : List V} {ps : List (Int × Int)}, Prs H xs ps -> xs.length = ps.length
 | _, _, .nil => rfl
 | _, _, .cons _ t => by rw [List.length_cons, List.length_cons, Prs.len t]
def lwtL (ns : List Int) (r : Int) : List (Int × Int) := (z1T ns).map fun n => (n, z10 ns n r)
def z7p (ns : List Int) (r : Int) : List Int := ((lwtL ns r).filter fun q => decide (q.2 = 0)).map Prod.fst
def y2f (K : PySem.W.Frag) : Sp := fun vs H Q _ => ∃ (p : Addr) (ns : List Int) (r : Int), vs = [.ref p, .int r] /\ SqI K H p ns /\ (∀ x ∈ ns, 1 ≤ x /\ x ≤ 60) /\ ns.length ≤ 900 /\
 ∀ (l : Addr) (xs : List V) (H' : Hp), Same H H' -> H' l = some (.tup xs) -> Prs H' xs (lwtL ns r) -> Q (.ref l) H'
theorem y4V (M : Bl mg) (F : Fun K "lacking_with_tellers" "lacking_with_tellers" z0J f fd) (Glacking_numbers : Cal P w K mg base 1 "lacking_numbers" ["had"] (y0P K))
  (Gteller_of : Cal P w K mg base 1 "teller_of" ["had", "number", "reach"] (z7H K)) : FnOk P w K mg base CX0 2 f fd ["had", "reach"] (y2f K) := by
 have nd := z2d.nd
 refine F.ok z2d (fun vs H Q E h => ?_) (fun cdv A outer s H vs Q E hr h => ?_)
 ·obtain ⟨p, ns, r, rfl, _⟩ := h
  rfl
 obtain ⟨p, ns, r, rfl, hS, hall, hlen, q⟩ := h
 refine ⟨_, (z07 (z0o (z0x z0u rfl M.tuple PyProof.Rows.boot_tuple (z00 (z1F ["number"] ["had", "reach"] [0, 1] rfl (z0y rfl (by decide +kernel) rfl (by decide +kernel) rfl rfl) (z4r (z0r Glacking_numbers (hr.mono (by omega)) rfl (z00 (pv 0) z03))) (fun _ _ _ _ _ => (z0n (i := 0) (show ((["number"] : List PySem.Str) ++ (["had", "reach"] : List PySem.Str)).Nodup from by decide +kernel) rfl (Or.inl rfl))) (z0C (by decide)) z0e (fun _ _ _ _ _ => z2D) (fun _ _ _ _ _ => (z11 (z00 (pv 0) (z00 (z0r Gteller_of (hr.mono (by omega)) rfl (z00 (pv 1) (z00 (pv 0) (z00 (pv 2) z03)))) z03))))) z03)))), ?_⟩
 refine ⟨_, rfl, p, ns, rfl, hS, hall, fun lt H1 nlt s1 e1 => ⟨lt, rfl, ⟨_, SqT.of e1⟩, ?_⟩⟩
 have ll := z2X ns
 refine z33 (xs := (z1T ns).map V.int) (fun i ys H' => Same H1 H' /\ Prs H' ys (((z1T ns).take i).map fun n => (n, z10 ns n r))) ⟨Same.refl _, .nil⟩ (fun i ys H' hi hp => ?_) (fun i x ys H' hx hp => ?_) (fun ys H' hp => ?_)
 ·obtain ⟨g, pr⟩ := hp
  refine ⟨SqT.of (g _ _ e1), z0i ?_⟩
  rw [pr.len, List.length_map, List.length_take]
  omega
 ·obtain ⟨g, pr⟩ := hp
  rw [List.getElem?_map] at hx
  cases e : (z1T ns)[i]? with
  | none => rw [e] at hx; cases hx
  | some n =>
   rw [e] at hx
   cases hx
   refine ⟨_, rfl, _, rfl, _, rfl, _, rfl, p, ns, n, r, rfl, SqI.keep (s1.trans g) hS, hall, hlen, fun H2 g2 => ⟨(by show 2 ≤ sizeLine; decide), fun t ht => ?_⟩⟩
   refine ⟨g.trans (g2.trans (z01 ht _)), ?_⟩
   rw [z0w e, List.map_append]
   exact Prs.snoc (pr.keep (g2.trans (z01 ht _))) ⟨t, rfl, z02⟩
 ·obtain ⟨g, pr⟩ := hp
  rw [List.length_map, List.take_length] at pr
  intro D hD
  refine ⟨D, _, rfl, .inl ⟨SqL.of z02, fun l hl => ?_⟩⟩
  exact q l ys _ (s1.trans (g.trans ((z01 hD _).trans (z01 hl _)))) z02 (pr.keep ((z01 hD _).trans (z01 hl _)))
def y0V (K : PySem.W.Frag) : Sp := fun vs H Q _ => ∃ (p : Addr) (ns : List Int) (r : Int), vs = [.ref p, .int r] /\ SqI K H p ns /\ (∀ x ∈ ns, 1 ≤ x /\ x ≤ 60) /\ ns.length ≤ 900 /\
 ∀ (l : Addr) (H' : Hp), Same H H' -> H' l = some (.tup ((z7p ns r).map V.int)) -> Q (.ref l) H'
theorem y0W (ns : List Int) (r : Int) : (lwtL ns r).length ≤ 60 := by
 unfold lwtL
 rw [List.length_map]
 exact z2X ns
theorem y3S (M : Bl mg) (F : Fun K "dark_numbers" "dark_numbers" z1K f fd) (Glacking_with_tellers : Cal P w K mg base 2 "lacking_with_tellers" ["had", "reach"] (y2f K)) : FnOk P w K mg base CX0 3 f fd ["had", "reach"] (y0V K) := by
 have nd := z4d.nd
 refine F.ok z4d (fun vs H Q E h => ?_) (fun cdv A outer s H vs Q E hr h => ?_)
 ·obtain ⟨p, ns, r, rfl, _⟩ := h
  rfl
 obtain ⟨p, ns, r, rfl, hS, hall, hlen, q⟩ := h
 refine ⟨_, (z07 (z0o (z0x z0u rfl M.tuple PyProof.Rows.boot_tuple (z00 (z1F ["number", "teller"] [] [] rfl (z0y rfl (by decide +kernel) rfl (by decide +kernel) rfl rfl) (z4r (z0r Glacking_with_tellers (hr.mono (by omega)) rfl (z00 (pv 0) (z00 (pv 1) z03)))) (fun _ _ _ _ _ => (z7O (K := K) (n := 2) rfl rfl (z1M (z0n (i := 0) (show ((["number", "teller"] : List PySem.Str) ++ ([] : List PySem.Str)).Nodup from by decide +kernel) rfl (Or.inl rfl)) (z1M (z0n (i := 1) (show ((["number", "teller"] : List PySem.Str) ++ ([] : List PySem.Str)).Nodup from by decide +kernel) rfl (Or.inl rfl)) z4U)))) (z7y (z27 (z0C (by decide)) z0e (z27 (z0C (by decide)) z0e z5X z1i) (z0W z0e z1i))) (z5C (z0W z0e (z0W z0e z1i))) (fun _ _ _ _ _ => (z2W (z08 z2s (pv 1) z06 (z0l _)))) (fun _ _ _ _ _ => (pv 0))) z03)))), ?_⟩
 refine ⟨_, rfl, _, rfl, p, ns, r, rfl, hS, hall, hlen, fun lt xs H1 s1 e1 pr1 => ⟨lt, rfl, ⟨_, SqT.of e1⟩, ?_⟩⟩
 have ll := y0W ns r
 have lx := pr1.len
 refine z33 (xs := xs) (fun i ys H' => H' = H1 /\ ys = (((lwtL ns r).take i).filter fun q => decide (q.2 = 0)).map fun q => V.int q.1) ⟨rfl, rfl⟩ (fun i ys H' hi hp => ?_) (fun i x ys H' hx hp => ?_) (fun ys H' hp => ?_)
 ·obtain ⟨rfl, rfl⟩ := hp
  refine ⟨SqT.of e1, z0i ?_⟩
  have h1 := List.length_filter_le (fun q : Int × Int => decide (q.2 = 0)) ((lwtL ns r).take i)
  rw [List.length_map]
  rw [List.length_take] at h1
  omega
 ·obtain ⟨rfl, rfl⟩ := hp
  obtain ⟨⟨n, t⟩, e, a, rfl, ha⟩ := pr1.get i x hx
  refine ⟨a, _, rfl, SqT.of ha, rfl, _, _, rfl, _, _, rfl, rfl, ?_⟩
  refine ⟨_, rfl, rfl, _, rfl, ?_⟩
  rw [z0w e, List.filter_append, List.filter_cons, List.map_append]
  refine ite2 (fun c => ?_) (fun c => ?_)
  ·have c' : decide (t = 0) = true := decide_eq_true (V.int.inj (z0H c))
   refine ⟨_, rfl, rfl, ?_⟩
   rw [if_pos c']
   rfl
  ·have c' : ¬ decide (t = 0) = true := fun z => c (decide_eq_true (congrArg V.int (z0H z)))
   refine ⟨rfl, ?_⟩
   rw [if_neg c']
   simp
 ·obtain ⟨rfl, rfl⟩ := hp
  rw [lx, List.take_length]
  intro D hD
  refine ⟨D, _, rfl, .inl ⟨SqL.of z02, fun l hl => ?_⟩⟩
  refine q l _ (s1.trans ((z01 hD _).trans (z01 hl _))) ?_
  rw [z02]
  unfold z7p
  rw [List.map_map]
  rfl
theorem y18 (ns : List Int) (r : Int) : (z7p ns r).length ≤ 60 := by
 have h := List.length_filter_le (fun q : Int × Int => decide (q.2 = 0)) (lwtL ns r)
 have := y0W ns r
 unfold z7p
 rw [List.length_map]
 omega
def z96 (ns : List Int) (r b : Int) : List Int := (z7p ns r).filter fun y => decide (b < y)
def z7D (K : PySem.W.Frag) : Sp := fun vs H Q _ => ∃ (p : Addr) (ns : List Int) (r b : Int), vs = [.ref p, .int r, .int b] /\ SqI K H p ns /\ (∀ x ∈ ns, 1 ≤ x /\ x ≤ 60) /\ ns.length ≤ 900 /\
 ∀ (l : Addr) (H' : Hp), Same H H' -> H' l = some (.tup ((z96 ns r b).map V.int)) -> Q (.ref l) H'
theorem y1m (M : Bl mg) (F : Fun K "dark_numbers_behind" "dark_numbers_behind" z0P f fd) (Gdark_numbers : Cal P w K mg base 3 "dark_numbers" ["had", "reach"] (y0V K)) : FnOk P w K mg base CX0 4 f fd ["had", "reach", "behind"] (z7D K) := by
 have nd := z2x.nd
 refine F.ok z2x (fun vs H Q E h => ?_) (fun cdv A outer s H vs Q E hr h => ?_)
 ·obtain ⟨p, ns, r, b, rfl, _⟩ := h
  rfl
 obtain ⟨p, ns, r, b, rfl, hS, hall, hlen, q⟩ := h
 refine ⟨_, (z07 (z0o (z0x z0u rfl M.tuple PyProof.Rows.boot_tuple (z00 (z1F ["number"] ["behind"] [2] rfl (z0y rfl (by decide +kernel) rfl (by decide +kernel) rfl rfl) (z4r (z0r Gdark_numbers (hr.mono (by omega)) rfl (z00 (pv 0) (z00 (pv 1) z03)))) (fun _ _ _ _ _ => (z0n (i := 0) (show ((["number"] : List PySem.Str) ++ (["behind"] : List PySem.Str)).Nodup from by decide +kernel) rfl (Or.inl rfl))) (z0C (by decide)) z0e (fun _ _ _ _ _ => (z2W (z08 z2U (pv 0) (pv 1) (z0l _)))) (fun _ _ _ _ _ => (pv 0))) z03)))), ?_⟩
 refine ⟨_, rfl, _, rfl, p, ns, r, rfl, hS, hall, hlen, fun lt H1 s1 e1 => ⟨lt, rfl, ⟨_, SqT.of e1⟩, ?_⟩⟩
 have ll := y18 ns r
 refine z72 (ns := z7p ns r) (fun y => decide (b < y)) (fun y => .int y) (SqT.of e1) (by omega) (fun y ys N hy hN => ?_) (fun D hD => ?_)
 ·refine ⟨_, rfl, _, rfl, _, _, rfl, rfl, _, rfl, ?_⟩
  refine ite2 (fun c => ?_) (fun c => ?_)
  ·rw [if_pos c] at hN
   exact ⟨_, rfl, hN⟩
  ·rw [if_neg c] at hN
   exact hN
 ·exact ⟨D, _, rfl, .inl ⟨SqL.of z02, fun l hl => q l _ (s1.trans ((z01 hD _).trans (z01 hl _))) z02⟩⟩
def z7e (Sh : ShP) : Sp := fun vs H Q _ => ∃ (p : Addr) (fp : List Addr) (zs : List Str) (r : Int) (iss : Int -> DV) (had : List Int) (n : Int) (d0 d1 d2 : DV), vs = [.ref p, .int n] /\ Sh H p fp zs r iss had /\ n ∈ had /\ iss n = .tup [d0, d1, d2] /\ ∀ v, Tell H d2 v -> Q v H
theorem z7A {kvs : List (Key × V)} {had : List Int} (kk : kvs.map (·.1) = had.map Sum.inl) {n : Int} (h : n ∈ had) : ∃ v, valV kvs (Sum.inl n : Key) = some v /\ ((Sum.inl n : Key), v) ∈ kvs := by
 have e := z8N kk n
 rw [decide_eq_true h] at e
 cases ev : valV kvs (Sum.inl n : Key) with
 | none => rw [ev] at e; cases e
 | some v =>
  refine ⟨v, rfl, ?_⟩
  unfold valV at ev
  obtain ⟨⟨k, u⟩, hf, rfl⟩ := Option.map_eq_some_iff.mp ev
  have h1 := List.mem_of_find?_eq_some hf
  have h2 := List.find?_some hf
  simp only [decide_eq_true_eq] at h2
  rw [h2] at h1
  exact h1
theorem y2a {CShelf : Addr} (M : Bl mg) (T : TxShelf K mg CShelf) (F : Fun K "tail_of" "Shelf.tail_of" z1s f fd) : FnOk P w K mg base CX0 1 f fd ["self", "number"] (z7e (ShD K CShelf)) := by
 have nd := z3B.nd
 refine F.ok z3B (fun vs H Q E h => ?_) (fun cdv A outer s H vs Q E hr h => ?_)
 ·obtain ⟨p, fp, zs, r, iss, had, n, d0, d1, d2, rfl, _⟩ := h
  rfl
 obtain ⟨p, fp, zs, r, iss, had, n, d0, d1, d2, rfl, sh, hn, en, k⟩ := h
 have hu := z8X hr
 refine ⟨_, (z07 (z0o (z0E z0S (z6d hu (z0K (pv 0) rfl) (pv 1) (fun _ _ => rfl)) z06 (fun _ _ => rfl)))), ?_⟩
 obtain ⟨dx, pn, pd, fs, kvs, rfl, h1, h2, h3, h4, l1, l2, l3, lm, kk, ndh, all, tl, g, r0, r1⟩ := sh
 obtain ⟨v, ev, mv⟩ := z7A kk hn
 have tv := tl n v mv
 rw [en] at tv
 obtain ⟨a, us, rfl, ea, _, tu⟩ := z0s tv
 obtain ⟨x0, ur, rfl, t0, tu⟩ := z0d tu
 obtain ⟨x1, ur, rfl, t1, tu⟩ := z0d tu
 obtain ⟨x2, ur, rfl, t2, tu⟩ := z0d tu
 refine ⟨_, rfl, p, CShelf, dx, fs, _, rfl, h1, T.cl, T.n_issues, l3, _, rfl, pd, _, rfl, (by rw [<- ev]; exact DGet.k (k := Sum.inl n) h4), ?_⟩
 exact ⟨a, _, _, x2, rfl, rfl, SqT.of ea, z1k rfl, k x2 t2⟩
theorem y2l (n r : Int) : (z4Z n r).Nodup := by
 have h : (dnI (n - 1) (n - 1).toNat).Nodup := by
  unfold dnI
  rw [List.nodup_iff_pairwise_ne, List.pairwise_map]
  exact List.pairwise_lt_range.imp fun h => by omega
 exact h.filter _
theorem y1e {n r k : Int} : k ∈ z4Z n r ↔ 1 ≤ k /\ k < n /\ n - k ≤ r := by
 unfold z4Z
 rw [List.mem_filter, z7F, decide_eq_true_eq]
 omega
theorem z6Y {K : PySem.W.Frag} {H : Hp} {rows : List Row} : ∀ {ks : List Int} {xs : List V}, z09 H (ks.map (y0g rows)) xs -> ∃ kvs : List (Key × V), Paired (y1K K H) xs kvs /\ kvs.map (·.1) = ks.map Sum.inl /\ ∀ k v, ((Sum.inl k : Key), v) ∈ kvs -> Tell H (nmsD (z2V (z1h rows k))) v
 | [], xs, h => by
  rw [z0Y h]
  exact ⟨[], .nil, rfl, fun _ _ q => (nomatch q)⟩
 | k :: ks, xs, h => by
  obtain ⟨x, r, rfl, t, h⟩ := z0d h
  obtain ⟨kvs, p1, p2, p3⟩ := z6Y h
  obtain ⟨a, us, rfl, ea, _, tu⟩ := z0s t
  obtain ⟨x0, ur, rfl, t0, tu⟩ := z0d tu
  obtain ⟨x1, ur, rfl, t1, tu⟩ := z0d tu
  have := z0Y tu
  subst this
  cases z14 t0
  refine ⟨(Sum.inl k, x1) :: kvs, .cons ⟨a, rfl, .inr (SqT.of ea)⟩ p1, by rw [List.map_cons, List.map_cons, p2], fun m v hv => ?_⟩
  rcases List.mem_cons.mp hv with e | hv
  ·cases e
   exact t1
  ·exact p3 m v hv
def y3t (rows : List Row) (n t : Int) : DV := if t = 0 then .tup [] else nmsD (z2V (z1h rows n))
def y27 (Sh : ShP) : Sp := fun vs H Q _ => ∃ (x : Addr) (n t : Int) (fp : List Addr) (nm : List Str) (r : Int) (rows : List Row) (had : List Int), vs = [.ref x, .int n, .int t] /\ Sh H x fp nm r (fun n => z1o rows n r) had /\ (t ≠ 0 -> t ∈ had /\ t ≤ 60 /\ n ∈ z4Z t r) /\
 ∀ (v : V) (H' : Hp), Same H H' -> Tell H' (y3t rows n t) v -> Q v H'
theorem y3O {CShelf : Addr} (M : Bl mg) (T : TxShelf K mg CShelf) (F : Fun K "names_told_of" "names_told_of" z1w f fd) (GShelf_tail_of : MCal P w K mg base 1 CShelf "tail_of" ["self", "number"] (z7e (ShD K CShelf))) :
  FnOk P w K mg base CX0 2 f fd ["shelf", "number", "teller"] (y27 (ShD K CShelf)) := by
 have nd := z3G.nd
 refine F.ok z3G (fun vs H Q E h => ?_) (fun cdv A outer s H vs Q E hr h => ?_)
 ·obtain ⟨x, n, t, fp, nm, r, rows, had, rfl, _⟩ := h
  rfl
 obtain ⟨x, n, t, fp, nm, r, rows, had, rfl, sh, ht, k⟩ := h
 have hu := z8X hr
 refine ⟨_, (z04 (z0R (z08 z2s (pv 2) z06 (z0l _)) (z07 (z0o (z11 z03))) z0q) (z07 (z0o (z6d hu (z0x (z3K (K := K) rfl rfl) rfl M.dict PyProof.Rows.boot_dict (z00 (z1S GShelf_tail_of (hr.mono (by omega)) (pv 0) (z00 (pv 2) z03)) z03)) (pv 1) (fun _ _ => rfl))))), ?_⟩
 refine ⟨_, rfl, rfl, _, rfl, ite2 (fun c => ?_) (fun c => ?_)⟩
 ·have c' : t = 0 := V.int.inj (z0H c)
  refine ⟨(by show 0 ≤ sizeLine; decide), fun l hl => k _ _ (z01 hl _) ?_⟩
  unfold y3t
  rw [if_pos c']
  exact z0D z02 (by show 0 ≤ 1000000; decide) .nil
 ·have c' : t ≠ 0 := fun z => c (decide_eq_true (congrArg V.int z))
  obtain ⟨th, t60, tn⟩ := ht c'
  obtain ⟨dx, fs, h1, lm⟩ : ∃ dx fs, H x = some (.ins CShelf dx fs) /\ fs.lookup ("tail_of" : Str) = none := by
   obtain ⟨dx, pn, pd, fs, kvs, _, h1, _, _, _, _, _, _, lm, _⟩ := sh
   exact ⟨dx, fs, h1, lm _ (by simp)⟩
  refine ⟨_, rfl, x, dx, fs, rfl, h1, lm, _, rfl, x, fp, nm, r, _, had, t, _, _, _, rfl, sh, th, rfl, fun v tv => ?_⟩
  obtain ⟨a, us, rfl, ea, _, tu⟩ := z0s tv
  obtain ⟨kvs, p1, p2, p3⟩ := z6Y (K := K) tu
  have lu : us.length ≤ 1000 := by
   rw [tu.length, List.length_map]
   unfold z4Z
   have := List.length_filter_le (fun k => decide (t - k ≤ r)) (dnI (t - 1) (t - 1).toNat)
   rw [y10] at this
   omega
  refine ⟨a, us, kvs, rfl, .inr ea, p1, lu, ?_, fun l hl => ?_⟩
  ·rw [p2]
   rw [List.nodup_iff_pairwise_ne, List.pairwise_map]
   exact (List.nodup_iff_pairwise_ne.mp (y2l t r)).imp fun h e => h (Sum.inl.inj e)
  ·obtain ⟨v, ev, mv⟩ := z7A p2 tn
   refine ⟨_, rfl, l, _, rfl, (by rw [<- ev]; exact DGet.k (k := Sum.inl n) z02), ?_⟩
   refine k v _ (z01 hl _) ?_
   unfold y3t
   rw [if_neg c']
   exact Tell.keep (z01 hl _) _ _ (p3 n v mv)
theorem y2q {had : List Int} {r n : Int} (h60 : ∀ n ∈ had, 1 ≤ n /\ n ≤ 60) (hn : n ∈ z1T (z0j had)) (h : z10 (z0j had) n r ≠ 0) : z10 (z0j had) n r ∈ had /\ z10 (z0j had) n r ≤ 60 /\ n ∈ z4Z (z10 (z0j had) n r) r := by
 unfold z10 at h ⊢
 cases e : (upI 1 60).find? (z8A (z0j had) n r) with
 | none => rw [e] at h; exact absurd rfl h
 | some y =>
  obtain ⟨_, hc, _⟩ := y25 (z1Y 1 60) e
  obtain ⟨a, b, c⟩ := z3i.mp hc
  have hy := (z1E.mp c).2
  have := h60 y hy
  have := (z2Z.mp hn).1
  show y ∈ had /\ y ≤ 60 /\ n ∈ z4Z y r
  exact ⟨hy, by omega, y1e.mpr (by omega)⟩
theorem y2d {CShelf : Addr} (M : Bl mg) (T : TxShelf K mg CShelf) (F : Fun K "gaps_of" "gaps_of" z3Z f fd) (GShelf_had : MCal P w K mg base 1 CShelf "had" ["self"] (z51 (ShD K CShelf)))
  (Glacking_with_tellers : Cal P w K mg base 2 "lacking_with_tellers" ["had", "reach"] (y2f K)) (Gnames_told_of : Cal P w K mg base 2 "names_told_of" ["shelf", "number", "teller"] (y27 (ShD K CShelf))) :
  FnOk P w K mg base CX0 3 f fd ["shelf"] (z7n (ShD K CShelf)) := by
 have nd := z8r.nd
 refine F.ok z8r (fun vs H Q E h => ?_) (fun cdv A outer s H vs Q E hr h => ?_)
 ·obtain ⟨x, fp, nm, r, rows, had, rfl, _⟩ := h
  rfl
 obtain ⟨x, fp, nm, r, rows, had, rfl, sh, gn, rw', l60, hh, r0, r1, k⟩ := h
 refine ⟨_, (z04 (z0m (i := 1) nd rfl (Or.inl rfl) (z0r Glacking_with_tellers (hr.mono (by omega)) rfl (z00 (z2G GShelf_had (hr.mono (by omega)) (pv 0)) (z00 (z0K (pv 0) rfl) z03)))) (z07 (z0o (z0x z0u rfl M.tuple PyProof.Rows.boot_tuple (z00 (z1F ["number", "teller"] ["shelf"] [0] rfl (z0y rfl (by decide +kernel) rfl (by decide +kernel) rfl rfl) (z4r (pv 1)) (fun _ _ _ _ _ => (z7O (K := K) (n := 2) rfl rfl (z1M (z0n (i := 0) (show ((["number", "teller"] : List PySem.Str) ++ (["shelf"] : List PySem.Str)).Nodup from by decide +kernel) rfl (Or.inl rfl)) (z1M (z0n (i := 1) (show ((["number", "teller"] : List PySem.Str) ++ (["shelf"] : List PySem.Str)).Nodup from by decide +kernel) rfl (Or.inl rfl)) z4U)))) (z7y (z27 (z0C (by decide)) z0e (z27 (z0C (by decide)) z0e z5X z1i) (z0W z0e z1i))) (z5C (z0W z0e (z0W z0e z1i))) (fun _ _ _ _ _ => z2D) (fun _ _ _ _ _ => (z11 (z00 (pv 0) (z00 (pv 1) (z00 (z0r Gnames_told_of (hr.mono (by omega)) rfl (z00 (pv 2) (z00 (pv 0) (z00 (pv 1) z03)))) z03)))))) z03))))), ?_⟩
 have h60 : ∀ n ∈ had, 1 ≤ n /\ n ≤ 60 := fun n hn => by have := hh n hn; omega
 obtain ⟨dx, fs, h1, lm, lr⟩ : ∃ dx fs, H x = some (.ins CShelf dx fs) /\ fs.lookup ("had" : Str) = none /\ fs.lookup ("reach" : Str) = some (V.int r) := by
  obtain ⟨dx, pn, pd, fs, kvs, _, h1, _, _, _, _, lr, _, lm, _⟩ := sh
  exact ⟨dx, fs, h1, lm _ (by simp), lr⟩
 refine ⟨_, rfl, x, dx, fs, rfl, h1, lm, x, fp, nm, r, _, had, rfl, sh, fun l H1 s1 e1 => ?_⟩
 refine ⟨_, rfl, x, CShelf, dx, fs, _, rfl, s1 _ _ h1, T.cl, T.n_reach, lr, l, z0j had, r, rfl, .inr (SqT.of e1), fun n hn => h60 n (z1E.mp hn).2, Nat.le_trans (z8o had) (by decide), fun lt xs H2 s2 e2 pr2 => ?_⟩
 have sh2 : ShD K CShelf H2 x fp nm r (fun n => z1o rows n r) had := shOk.same sh (s1.trans s2)
 have lx : xs.length = (z1T (z0j had)).length := by rw [pr2.len]; unfold lwtL; rw [List.length_map]
 have ll := z2X (z0j had)
 refine ⟨_, rfl, lt, rfl, ⟨_, SqT.of e2⟩, ?_⟩
 refine z33 (xs := xs) (fun i ys H' => Same H2 H' /\ z09 H' (((z1T (z0j had)).take i).map (gapD (z0j had) rows r)) ys) ⟨Same.refl _, by rw [List.take_zero]; exact .nil⟩ (fun i ys H' hi hp => ?_) (fun i y ys H' hy hp => ?_) (fun ys H' hp => ?_)
 ·obtain ⟨g, t⟩ := hp
  refine ⟨SqT.of (g _ _ e2), z0i ?_⟩
  rw [t.length, List.length_map, List.length_take]
  omega
 ·obtain ⟨g, t⟩ := hp
  obtain ⟨⟨n, tl⟩, e, a, rfl, ha⟩ := pr2.get i y hy
  unfold lwtL at e
  rw [List.getElem?_map] at e
  obtain ⟨m, em, e3⟩ := Option.map_eq_some_iff.mp e
  cases e3
  refine ⟨a, _, rfl, SqT.of (g _ _ ha), rfl, _, _, rfl, _, _, rfl, rfl, ?_⟩
  refine ⟨_, rfl, _, rfl, _, rfl, _, rfl, _, rfl, x, n, _, fp, nm, r, rows, had, rfl, shOk.same sh2 g, y2q h60 (List.mem_of_getElem? em), fun v H3 s3 tv => ?_⟩
  refine ⟨(by show 3 ≤ sizeLine; decide), fun q hq => ⟨g.trans (s3.trans (z01 hq _)), ?_⟩⟩
  rw [List.take_add_one, em, List.map_append]
  exact z09.snoc (z09.keep (s3.trans (z01 hq _)) _ _ t) (z0D z02 (by show 3 ≤ 1000000; decide) (.cons (z0F _) (.cons (z0F _) (.cons (Tell.keep (z01 hq _) _ _ tv) .nil))))
 ·obtain ⟨g, t⟩ := hp
  rw [lx, List.take_length] at t
  intro D hD
  refine ⟨D, ys, rfl, .inl ⟨SqL.of z02, fun q hq => k _ _ (s1.trans (s2.trans (g.trans ((z01 hD _).trans (z01 hq _))))) (z0D z02 ?_ (z09.keep ((z01 hD _).trans (z01 hq _)) _ _ t))⟩⟩
  unfold z7q
  rw [List.length_map]
  omega
def z7b (Sh : ShP) : Sp := fun vs H Q _ => ∃ (p : Addr) (fp : List Addr) (zs : List Str) (r : Int) (iss : Int -> DV) (had : List Int) (n : Int) (d0 d1 d2 : DV), vs = [.ref p, .int n] /\ Sh H p fp zs r iss had /\ n ∈ had /\ iss n = .tup [d0, d1, d2] /\ ∀ v, Tell H d1 v -> Q v H
theorem y1c {CShelf : Addr} (M : Bl mg) (T : TxShelf K mg CShelf) (F : Fun K "rows_of" "Shelf.rows_of" z1u f fd) : FnOk P w K mg base CX0 1 f fd ["self", "number"] (z7b (ShD K CShelf)) := by
 have nd := z3z.nd
 refine F.ok z3z (fun vs H Q E h => ?_) (fun cdv A outer s H vs Q E hr h => ?_)
 ·obtain ⟨p, fp, zs, r, iss, had, n, d0, d1, d2, rfl, _⟩ := h
  rfl
 obtain ⟨p, fp, zs, r, iss, had, n, d0, d1, d2, rfl, sh, hn, en, k⟩ := h
 have hu := z8X hr
 refine ⟨_, (z07 (z0o (z0E z0S (z6d hu (z0K (pv 0) rfl) (pv 1) (fun _ _ => rfl)) z06 (fun _ _ => rfl)))), ?_⟩
 obtain ⟨dx, pn, pd, fs, kvs, rfl, h1, h2, h3, h4, l1, l2, l3, lm, kk, ndh, all, tl, g, r0, r1⟩ := sh
 obtain ⟨v, ev, mv⟩ := z7A kk hn
 have tv := tl n v mv
 rw [en] at tv
 obtain ⟨a, us, rfl, ea, _, tu⟩ := z0s tv
 obtain ⟨x0, ur, rfl, t0, tu⟩ := z0d tu
 obtain ⟨x1, ur, rfl, t1, tu⟩ := z0d tu
 refine ⟨_, rfl, p, CShelf, dx, fs, _, rfl, h1, T.cl, T.n_issues, l3, _, rfl, pd, _, rfl, (by rw [<- ev]; exact DGet.k (k := Sum.inl n) h4), ?_⟩
 exact ⟨a, _, _, x1, rfl, rfl, SqT.of ea, z1k rfl, k x1 t1⟩
theorem z8D {K : PySem.W.Frag} {H : Hp} : ∀ {w : Row} {xs : List V}, z09 H (w.map z7R) xs -> Paired (y1K K H) xs (w.map kvR)
 | [], xs, h => by
  rw [z0Y h]
  exact .nil
 | p :: w, xs, h => by
  obtain ⟨x, r, rfl, t, h'⟩ := z0d h
  obtain ⟨a, us, rfl, ea, _, tu⟩ := z0s t
  obtain ⟨x0, ur, rfl, t0, tu⟩ := z0d tu
  obtain ⟨x1, ur, rfl, t1, tu⟩ := z0d tu
  have := z0Y tu
  subst this
  rw [z3O t0, z14 t1] at ea
  exact .cons ⟨a, rfl, .inr (SqT.of ea)⟩ (z8D h')
theorem foldV (w : Row) (z : Str) : ∀ acc : Option Int, w.foldl (fun acc p => if p.1 = z then some p.2 else acc) acc = match valL w z with | some v => some v | none => acc := by
 unfold valL
 induction w with
 | nil => intro acc; rfl
 | cons p w ih =>
  intro acc
  rw [List.foldl_cons, List.foldl_cons, ih, ih (if p.1 = z then some p.2 else none)]
  cases w.foldl (fun acc p => if p.1 = z then some p.2 else acc) none with
  | some v => rfl
  | none =>
   by_cases h : p.1 = z
   ·rw [if_pos h, if_pos h]
   ·rw [if_neg h, if_neg h]
theorem z8s (p : Str × Int) (w : Row) (z : Str) : valL (p :: w) z = match valL w z with | some v => some v | none => if p.1 = z then some p.2 else none := by
 conv => lhs; unfold valL
 rw [List.foldl_cons, foldV]
theorem y0K {w : Row} {z : Str} (h : z ∉ w.map Prod.fst) : valL w z = none := by
 induction w with
 | nil => rfl
 | cons p w ih =>
  rw [List.map_cons, List.mem_cons, not_or] at h
  rw [z8s, ih h.2, if_neg (fun e => h.1 e.symm)]
theorem z9p {z : Str} : ∀ {w : Row}, (w.map Prod.fst).Nodup -> valV (w.map kvR) (Sum.inr z : Key) = (valL w z).map V.int
 | [], _ => rfl
 | p :: w, h => by
  rw [List.map_cons, List.nodup_cons] at h
  rw [List.map_cons, z8s]
  by_cases e : p.1 = z
  ·rw [z4O (show (kvR p).1 = Sum.inr z by unfold kvR; rw [e]), y0K (e ▸ h.1), if_pos e]
   rfl
  ·rw [z4x (show ¬ (kvR p).1 = Sum.inr z from fun q => e (Sum.inr.inj q)), z9p h.2, if_neg e]
   cases valL w z <;> rfl
theorem y4E {nm : List Str} {rows : List Row} (g : GoodN nm) (R : Rws nm rows) (n : Int) : ((z1h rows n).map Prod.fst).Nodup := by
 unfold z1h
 rw [List.getD_eq_getElem?_getD]
 cases e : rows[(n - 1).toNat]? with
 | none => exact .nil
 | some w => exact (R.sub w (List.mem_of_getElem? e)).nodup g.nd
theorem y3B {nm : List Str} {rows : List Row} (g : GoodN nm) (R : Rws nm rows) (n : Int) : (z1h rows n).length ≤ 12 := by
 unfold z1h
 rw [List.getD_eq_getElem?_getD]
 cases e : rows[(n - 1).toNat]? with
 | none => exact Nat.zero_le _
 | some w =>
  have h := (R.sub w (List.mem_of_getElem? e)).length_le
  rw [List.length_map] at h
  exact Nat.le_trans h g.hi
def z3I (Sh : ShP) : Sp := fun vs H Q _ => ∃ (x : Addr) (z : Str) (fp : List Addr) (nm : List Str) (r : Int) (rows : List Row) (had : List Int), vs = [.ref x, .str z] /\ Sh H x fp nm r (fun n => z1o rows n r) had /\ z ∈ nm /\ GoodN nm /\ Rws nm rows /\
 ∀ (v : V) (H' : Hp), Same H H' -> Tell H' (y14 (z0T (z0j had) rows z)) v -> Q v H'
theorem y0s {CShelf : Addr} (M : Bl mg) (T : TxShelf K mg CShelf) (F : Fun K "held_for" "held_for" z3e f fd) (Grefuse_unknown_name : Cal P w K mg base 1 "refuse_unknown_name" ["names", "name"] (y2D K))
  (GShelf_had : MCal P w K mg base 1 CShelf "had" ["self"] (z51 (ShD K CShelf))) (GShelf_rows_of : MCal P w K mg base 1 CShelf "rows_of" ["self", "number"] (z7b (ShD K CShelf))) :
  FnOk P w K mg base CX0 2 f fd ["shelf", "name"] (z3I (ShD K CShelf)) := by
 have nd := z6W.nd
 refine F.ok z6W (fun vs H Q E h => ?_) (fun cdv A outer s H vs Q E hr h => ?_)
 ·obtain ⟨x, z, fp, nm, r, rows, had, rfl, _⟩ := h
  rfl
 obtain ⟨x, z, fp, nm, r, rows, had, rfl, sh, hz, gn, R, k⟩ := h
 have hu := z8X hr
 refine ⟨_, (z04 (z0A (z0r Grefuse_unknown_name (hr.mono (by omega)) rfl (z00 (z0K (pv 0) rfl) (z00 (pv 1) z03)))) (z04 (z1p PassesOwn.never rfl (y3f rfl M.reversed (z00 (z2G GShelf_had (hr.mono (by omega)) (pv 0)) z03)) (z0n (i := 2) nd rfl (Or.inl rfl)) (z04 (z0m (i := 3) nd rfl (Or.inl rfl) (z0x (z3K (K := K) rfl rfl) rfl M.dict PyProof.Rows.boot_dict (z00 (z1S GShelf_rows_of (hr.mono (by omega)) (pv 0) (z00 (pv 2) z03)) z03))) (z07 (z0R (z9S (y1r hu (pv 1) (pv 3))) (z07 (z0o (z11 (z00 (pv 2) (z00 (z6d hu (pv 3) (pv 1) (fun _ _ => rfl)) z03))))) z0q)))) (z07 (z0o (z11 (z00 z06 (z00 z9G z03))))))), ?_⟩
 obtain ⟨dx, pn, fs, h1, h3, ln, lh, lo⟩ : ∃ dx pn fs, H x = some (.ins CShelf dx fs) /\ H pn = some (.tup (nm.map V.str)) /\ fs.lookup ("names" : Str) = some (V.ref pn) /\ fs.lookup ("had" : Str) = none /\ fs.lookup ("rows_of" : Str) = none := by
  obtain ⟨dx, pn, pd, fs, kvs, _, h1, _, h3, _, l1, _, _, lm, _⟩ := sh
  exact ⟨dx, pn, fs, h1, h3, l1, lm _ (by simp), lm _ (by simp)⟩
 refine ⟨_, rfl, x, CShelf, dx, fs, _, rfl, h1, T.cl, T.n_names, ln, _, rfl, pn, nm, z, rfl, .inr (SqT.of h3), hz, ?_⟩
 refine ⟨_, rfl, x, dx, fs, rfl, h1, lh, x, fp, nm, r, _, had, rfl, sh, fun l H1 s1 e1 => ?_⟩
 refine ⟨l, _, rfl, SqT.of e1, ?_⟩
 have sh1 : ShD K CShelf H1 x fp nm r (fun n => z1o rows n r) had := shOk.same sh s1
 have L1 : ((z0j had).map V.int).length = (z0j had).length := List.length_map _
 refine y3G (fun i σ H' => ∃ (o1 o2 : Option V), Same H1 H' /\ z0T (z0j had) rows z = z0T ((z0j had).take ((z0j had).length - i)) rows z /\ σ = [some (.ref x), some (.str z), o1, o2])
  ⟨none, none, Same.refl _, by rw [Nat.sub_zero, List.take_length], rfl⟩ (fun i σ H' _ ⟨_, _, g, _⟩ => SqT.of (g _ _ e1)) (fun i y σ H' hy hp => ?_) (fun σ H' hp => ?_)
 ·obtain ⟨o1, o2, g, eh, rfl⟩ := hp
  rw [<- List.map_reverse, List.getElem?_map] at hy
  obtain ⟨n, hn, rfl⟩ := Option.map_eq_some_iff.mp hy
  have hi : i < (z0j had).length := by
   have := (List.getElem?_eq_some_iff.mp hn).1
   rw [List.length_reverse] at this
   exact this
  rw [List.getElem?_reverse hi] at hn
  have et : (z0j had).take ((z0j had).length - i) = (z0j had).take ((z0j had).length - (i + 1)) ++ [n] := by
   have e : (z0j had).length - i = ((z0j had).length - (i + 1)) + 1 := by omega
   rw [e]
   refine z0w ?_
   rw [show (z0j had).length - (i + 1) = (z0j had).length - 1 - i by omega]
   exact hn
  have nh : n ∈ had := (z1E.mp (List.mem_of_getElem? hn)).2
  refine ⟨_, rfl, x, dx, fs, rfl, g _ _ (s1 _ _ h1), lo, _, rfl, x, fp, nm, r, _, had, n, _, _, _, rfl, shOk.same sh1 g, nh, rfl, fun v tv => ?_⟩
  obtain ⟨a, us, rfl, ea, _, tu⟩ := z0s tv
  have ndw := y4E gn R n
  refine ⟨a, us, (z1h rows n).map kvR, rfl, .inr ea, z8D tu, ?_, ?_, fun d hd => ?_⟩
  ·rw [tu.length, List.length_map]
   have := y3B gn R n
   omega
  ·have e : ((z1h rows n).map kvR).map (·.1) = ((z1h rows n).map Prod.fst).map Sum.inr := by rw [List.map_map, List.map_map]; rfl
   rw [e, List.nodup_iff_pairwise_ne, List.pairwise_map]
   exact (List.nodup_iff_pairwise_ne.mp ndw).imp fun h e => h (Sum.inr.inj e)
  refine ⟨_, rfl, _, rfl, d, _, rfl, DGet.k (k := Sum.inr z) z02, _, rfl, ?_⟩
  rw [z9p ndw]
  rw [et, z77] at eh
  cases ev : valL (z1h rows n) z with
  | none =>
   rw [ev] at eh
   exact iteF ⟨_, _, g.trans (z01 hd _), eh, rfl⟩
  | some v =>
   rw [ev] at eh
   refine iteT ⟨_, rfl, _, rfl, _, rfl, d, _, rfl, (show DGet _ d (kV (Sum.inr z)) (some (V.int v)) by rw [<- show valV ((z1h rows n).map kvR) (Sum.inr z : Key) = some (V.int v) by rw [z9p ndw, ev]; rfl]; exact DGet.k z02), (by show 2 ≤ sizeLine; decide), fun q hq => k _ _ (s1.trans (g.trans ((z01 hd _).trans (z01 hq _)))) ?_⟩
   rw [eh]
   exact z0D z02 (by show 2 ≤ 1000000; decide) (.cons (z0F _) (.cons (z0F _) .nil))
 ·obtain ⟨o1, o2, g, eh, rfl⟩ := hp
  rw [L1, Nat.sub_self, List.take_zero] at eh
  refine ⟨(by show 2 ≤ sizeLine; decide), fun q hq => k _ _ (s1.trans (g.trans (z01 hq _))) ?_⟩
  rw [eh]
  exact z0D z02 (by show 2 ≤ 1000000; decide) (.cons (z0F _) (.cons z7E .nil))
def z4T (Sh : ShP) : Sp := fun vs H Q _ => ∃ (x : Addr) (z : Str) (fp : List Addr) (nm : List Str) (r : Int) (rows : List Row) (had : List Int), vs = [.ref x, .str z] /\ Sh H x fp nm r (fun n => z1o rows n r) had /\ z ∈ nm /\ GoodN nm /\ Rws nm rows /\ rows.length ≤ 60 /\ (∀ n ∈ had, 1 ≤ n /\ n ≤ rows.length) /\ 0 ≤ r /\ r ≤ 10 /\
 ∀ (v : V) (H' : Hp), Same H H' -> Tell H' (y3g (z0j had) rows r (z2c (z0T (z0j had) rows z)) z) v -> Q v H'
theorem z9c {CShelf : Addr} (M : Bl mg) (T : TxShelf K mg CShelf) (F : Fun K "set_again" "set_again" z2S f fd) (Gheld_for : Cal P w K mg base 2 "held_for" ["shelf", "name"] (z3I (ShD K CShelf)))
  (Ggaps_of : Cal P w K mg base 3 "gaps_of" ["shelf"] (z7n (ShD K CShelf))) : FnOk P w K mg base CX0 4 f fd ["shelf", "name"] (z4T (ShD K CShelf)) := by
 have nd := z69.nd
 refine F.ok z69 (fun vs H Q E h => ?_) (fun cdv A outer s H vs Q E hr h => ?_)
 ·obtain ⟨x, z, fp, nm, r, rows, had, rfl, _⟩ := h
  rfl
 obtain ⟨x, z, fp, nm, r, rows, had, rfl, sh, hz, gn, R, l60, hh, r0, r1, k⟩ := h
 refine ⟨_, (z04 (z0m (i := 2) nd rfl (Or.inr rfl) (z0E z0S (z0r Gheld_for (hr.mono (by omega)) rfl (z00 (pv 0) (z00 (pv 1) z03))) z06 (fun _ _ => rfl))) (z07 (z0o (z0x z0u rfl M.tuple PyProof.Rows.boot_tuple (z00 (z1F ["number", "teller", "names"] ["held_from", "name"] [2, 1] rfl (z0y rfl (by decide +kernel) rfl (by decide +kernel) rfl rfl) (z4r (z0r Ggaps_of (hr.mono (by omega)) rfl (z00 (pv 0) z03))) (fun _ _ _ _ _ => (z7O (K := K) (n := 3) rfl rfl (z1M (z0n (i := 0) (show ((["number", "teller", "names"] : List PySem.Str) ++ (["held_from", "name"] : List PySem.Str)).Nodup from by decide +kernel) rfl (Or.inl rfl)) (z1M (z0n (i := 1) (show ((["number", "teller", "names"] : List PySem.Str) ++ (["held_from", "name"] : List PySem.Str)).Nodup from by decide +kernel) rfl (Or.inl rfl)) (z1M (z0n (i := 2) (show ((["number", "teller", "names"] : List PySem.Str) ++ (["held_from", "name"] : List PySem.Str)).Nodup from by decide +kernel) rfl (Or.inl rfl)) z4U))))) (z7y (z27 (z0C (by decide)) z0e (z27 (z0C (by decide)) z0e (z27 (z0C (by decide)) z0e z5X z1i) (z0W z0e z1i)) (z0W z0e (z0W z0e z1i)))) (z5C (z0W z0e (z0W z0e (z0W z0e z1i)))) (fun _ _ _ _ _ => (z2W (PW.pt (z3F (z08 z2U (pv 0) (pv 3) (z0l _)) (z38 (z08 (r := rIn K false) z8x (pv 4) (pv 2) (by with_unfolding_all rfl))))))) (fun _ _ _ _ _ => (z11 (z00 (pv 0) (z00 (pv 1) z03))))) z03))))), ?_⟩
 refine ⟨_, rfl, _, rfl, x, z, fp, nm, r, rows, had, rfl, sh, hz, gn, R, fun v H1 s1 tv => ?_⟩
 obtain ⟨a, y, rfl, ea, _⟩ := z5A tv
 refine ⟨a, _, _, _, rfl, rfl, SqT.of ea, z1k rfl, ?_⟩
 have sh1 := shOk.same sh s1
 refine ⟨_, rfl, x, fp, nm, r, rows, had, rfl, sh1, gn, R, l60, hh, r0, r1, fun u H2 s2 tu => ?_⟩
 obtain ⟨b, xs, rfl, eb, _, tb⟩ := z0s tu
 have lx := z6n tb
 have ll := z2X (z0j had)
 generalize z2c (z0T (z0j had) rows z) = num at *
 refine ⟨b, rfl, ⟨_, SqT.of eb⟩, ?_⟩
 refine z33 (xs := xs) (fun i ys H' => Same H2 H' /\ z09 H' ((((z1T (z0j had)).take i).filter fun n => decide (num < n) && decide (z ∈ z2y (z0j had) rows r n)).map fun n => .tup [.int n, .int (z10 (z0j had) n r)]) ys) ⟨Same.refl _, .nil⟩ (fun i ys H' hi hp => ?_) (fun i y ys H' hy hp => ?_) (fun ys H' hp => ?_)
 ·obtain ⟨g, t⟩ := hp
  refine ⟨SqT.of (g _ _ eb), z0i ?_⟩
  rw [t.length, List.length_map]
  have := List.length_filter_le (fun n => decide (num < n) && decide (z ∈ z2y (z0j had) rows r n)) ((z1T (z0j had)).take i)
  rw [List.length_take] at this
  omega
 ·obtain ⟨g, t⟩ := hp
  obtain ⟨n, c, d, en, rfl, ec, ed⟩ := z6w tb hy
  refine ⟨c, _, rfl, SqT.of (g _ _ ec), rfl, _, _, rfl, _, _, rfl, _, _, rfl, rfl, ?_⟩
  rw [z0w en, List.filter_append, List.filter_cons]
  refine ⟨_, rfl, _, rfl, _, _, rfl, rfl, _, rfl, ?_⟩
  have skip : ¬ (decide (num < n) && decide (z ∈ z2y (z0j had) rows r n)) = true -> Same H2 H' /\ z09 H' (((((z1T (z0j had)).take i).filter fun n => decide (num < n) && decide (z ∈ z2y (z0j had) rows r n)) ++ (if (decide (num < n) && decide (z ∈ z2y (z0j had) rows r n)) = true then n :: List.filter (fun n => decide (num < n) && decide (z ∈ z2y (z0j had) rows r n)) [] else List.filter (fun n => decide (num < n) && decide (z ∈ z2y (z0j had) rows r n)) [])).map fun n => .tup [.int n, .int (z10 (z0j had) n r)]) ys := fun c => by
   rw [if_neg c, List.filter_nil, List.append_nil]
   exact ⟨g, t⟩
  refine ite2 (fun c => ?_) (fun c => ?_)
  ·refine ⟨_, rfl, _, rfl, d, _, rfl, .inr (SqT.of (g _ _ ed)), rfl, z4I _, _, rfl, ?_⟩
   rw [if_neg Bool.false_ne_true, z8C]
   refine ite2 (fun c2 => ?_) (fun c2 => ?_)
   ·refine ⟨_, rfl, _, rfl, (by show 2 ≤ sizeLine; decide), fun q hq => ⟨g.trans (z01 hq _), ?_⟩⟩
    rw [if_pos (by rw [Bool.and_eq_true]; exact ⟨c, c2⟩), List.filter_nil, List.map_append]
    exact z09.snoc (z09.keep (z01 hq _) _ _ t) (z0D z02 (by show 2 ≤ 1000000; decide) (.cons (z0F _) (.cons (z0F _) .nil)))
   ·exact skip (by rw [Bool.and_eq_true]; exact fun z => c2 z.2)
  ·exact skip (by rw [Bool.and_eq_true]; exact fun z => c z.1)
 ·obtain ⟨g, t⟩ := hp
  rw [lx, List.take_length] at t
  intro D hD
  refine ⟨D, ys, rfl, .inl ⟨SqL.of z02, fun q hq => k _ _ (s1.trans (s2.trans (g.trans ((z01 hD _).trans (z01 hq _))))) (z0D z02 ?_ (z09.keep ((z01 hD _).trans (z01 hq _)) _ _ t))⟩⟩
  rw [List.length_map]
  exact Nat.le_trans (z6M (z0j had) rows r num z) (by decide)
theorem z8z {ns : List Int} {r n : Int} : n ∈ z7p ns r ↔ n ∈ z1T ns /\ z10 ns n r = 0 := by
 unfold z7p lwtL
 rw [List.mem_map]
 constructor
 ·rintro ⟨⟨a, b⟩, h, rfl⟩
  rw [List.mem_filter, List.mem_map, decide_eq_true_eq] at h
  obtain ⟨⟨m, hm, e⟩, h2⟩ := h
  cases e
  exact ⟨hm, h2⟩
 ·rintro ⟨h1, h2⟩
  refine ⟨(n, z10 ns n r), ?_, rfl⟩
  rw [List.mem_filter, List.mem_map, decide_eq_true_eq]
  exact ⟨⟨n, h1, rfl⟩, h2⟩
theorem z8b {ns : List Int} {r num : Int} : z26 ns r num = [] ↔ ∀ n ∈ z7p ns r, n ≤ num := by
 unfold z26
 rw [List.filter_eq_nil_iff]
 constructor
 ·intro h n hn
  obtain ⟨h1, h2⟩ := z8z.mp hn
  have := h n h1
  rw [Bool.and_eq_true, decide_eq_true_eq, decide_eq_true_eq] at this
  rcases Int.lt_or_le num n with q | q
  ·exact absurd ⟨q, h2⟩ this
  ·exact q
 ·intro h n hn
  rw [Bool.and_eq_true, decide_eq_true_eq, decide_eq_true_eq]
  rintro ⟨h1, h2⟩
  have := h n (z8z.mpr ⟨hn, h2⟩)
  omega
theorem z6i {ns : List Int} {r num : Int} : z96 ns r num = [] ↔ z26 ns r num = [] := by
 rw [z8b]
 unfold z96
 rw [List.filter_eq_nil_iff]
 exact ⟨fun h n hn => Int.not_lt.mp fun z => h n hn (decide_eq_true z), fun h n hn z => by have := h n hn; have := of_decide_eq_true z; omega⟩
def z63 (Sh : ShP) : Sp := fun vs H Q _ => ∃ (x : Addr) (z : Str) (fp : List Addr) (nm : List Str) (r : Int) (rows : List Row) (had : List Int), vs = [.ref x, .str z] /\ Sh H x fp nm r (fun n => z1o rows n r) had /\ z ∈ nm /\ GoodN nm /\ Rws nm rows /\ rows.length ≤ 60 /\ (∀ n ∈ had, 1 ≤ n /\ n ≤ rows.length) /\ 0 ≤ r /\ r ≤ 10 /\
 ∀ (H' : Hp), Same H H' -> Q (.str (z1d (z0j had) rows r (z2c (z0T (z0j had) rows z)) z)) H'
theorem y0e {CShelf : Addr} (M : Bl mg) (T : TxShelf K mg CShelf) (F : Fun K "state_of" "state_of" z3k f fd) (Gheld_for : Cal P w K mg base 2 "held_for" ["shelf", "name"] (z3I (ShD K CShelf)))
  (Gset_again : Cal P w K mg base 4 "set_again" ["shelf", "name"] (z4T (ShD K CShelf))) (GShelf_had : MCal P w K mg base 1 CShelf "had" ["self"] (z51 (ShD K CShelf)))
  (Gdark_numbers_behind : Cal P w K mg base 4 "dark_numbers_behind" ["had", "reach", "behind"] (z7D K)) : FnOk P w K mg base CX0 5 f fd ["shelf", "name"] (z63 (ShD K CShelf)) := by
 have nd := z6Q.nd
 refine F.ok z6Q (fun vs H Q E h => ?_) (fun cdv A outer s H vs Q E hr h => ?_)
 ·obtain ⟨x, z, fp, nm, r, rows, had, rfl, _⟩ := h
  rfl
 obtain ⟨x, z, fp, nm, r, rows, had, rfl, sh, hz, gn, R, l60, hh, r0, r1, k⟩ := h
 refine ⟨_, (z04 (z0R (z08 z2U (z0f z0a rfl M.len PySem.boot_len (z00 (z0r Gset_again (hr.mono (by omega)) rfl (z00 (pv 0) (z00 (pv 1) z03))) z03)) z06 (z0l _)) (z07 (z0o (z2P rfl M.STALE))) z0q) (z04 (z0m (i := 2) nd rfl (Or.inl rfl) (z0E z0S (z0r Gheld_for (hr.mono (by omega)) rfl (z00 (pv 0) (z00 (pv 1) z03))) z06 (fun _ _ => rfl))) (z04 (z0m (i := 3) nd rfl (Or.inl rfl) (z0r Gdark_numbers_behind (hr.mono (by omega)) rfl (z00 (z2G GShelf_had (hr.mono (by omega)) (pv 0)) (z00 (z0K (pv 0) rfl) (z00 (pv 2) z03))))) (z07 (z0o (z9C (z08 z2U (z0f z0a rfl M.len PySem.boot_len (z00 (pv 3) z03)) z06 (z0l _)) (z2P rfl M.OPEN) (z2P rfl M.SURE))))))), ?_⟩
 refine ⟨_, rfl, _, rfl, x, z, fp, nm, r, rows, had, rfl, sh, hz, gn, R, l60, hh, r0, r1, fun v H1 s1 tv => ?_⟩
 obtain ⟨a, xs, rfl, ea, _, ta⟩ := z0s tv
 have lx := ta.length
 rw [List.length_map] at lx
 refine ⟨a, xs, rfl, .inr (SqT.of ea), _, _, rfl, rfl, _, rfl, ite2 (fun c => ?_) (fun c => ?_)⟩
 ·have c' := z0H c
  have e := k H1 s1
  unfold z1d at e
  rw [if_pos (by omega)] at e
  exact e
 ·have c' := z3E c
  have sh1 := shOk.same sh s1
  refine ⟨_, rfl, _, rfl, x, z, fp, nm, r, rows, had, rfl, sh1, hz, gn, R, fun v H2 s2 tv => ?_⟩
  obtain ⟨b, y, rfl, eb, _⟩ := z5A tv
  refine ⟨b, _, _, _, rfl, rfl, SqT.of eb, z1k rfl, ?_⟩
  have sh2 := shOk.same sh1 s2
  obtain ⟨dx, fs, h1, lm, lr⟩ : ∃ dx fs, H2 x = some (.ins CShelf dx fs) /\ fs.lookup ("had" : Str) = none /\ fs.lookup ("reach" : Str) = some (V.int r) := by
   obtain ⟨dx, pn, pd, fs, kvs, _, h1, _, _, _, _, lr, _, lm, _⟩ := sh2
   exact ⟨dx, fs, h1, lm _ (by simp), lr⟩
  have h60 : ∀ n ∈ z0j had, 1 ≤ n /\ n ≤ 60 := fun n hn => by have := hh n (z1E.mp hn).2; omega
  refine ⟨_, rfl, x, dx, fs, rfl, h1, lm, x, fp, nm, r, _, had, rfl, sh2, fun l H3 s3 e3 => ?_⟩
  refine ⟨_, rfl, x, CShelf, dx, fs, _, rfl, s3 _ _ h1, T.cl, T.n_reach, lr, _, rfl, l, z0j had, r, _, rfl, .inr (SqT.of e3), h60, Nat.le_trans (z8o had) (by decide), fun d H4 s4 e4 => ?_⟩
  have e := k H4 (s1.trans (s2.trans (s3.trans s4)))
  unfold z1d at e
  rw [if_neg (by omega)] at e
  refine ⟨_, rfl, d, _, rfl, .inr (SqT.of e4), _, _, rfl, rfl, _, rfl, ?_⟩
  rw [List.length_map]
  refine ite2 (fun c => ?_) (fun c => ?_)
  ·have c2 := z0H c
   rw [if_neg (fun z => by rw [z6i.mpr z] at c2; exact absurd c2 (by decide))] at e
   exact e
  ·have c2 := z3E c
   rw [if_pos (z6i.mp (List.length_eq_zero_iff.mp (by omega)))] at e
   exact e
theorem y0o (had : List Int) : z0j (z0j had) = z0j had := z29 (z3n _) (z3n _) fun x => by
 rw [z1E, z1E]
 exact ⟨fun h => h.2, fun h => ⟨h.1, h⟩⟩
def z4h (Sh : ShP) : Sp := fun vs H Q _ => ∃ (x : Addr) (z : Str) (fp : List Addr) (nm : List Str) (r : Int) (rows : List Row) (had : List Int), vs = [.ref x, .str z] /\ Sh H x fp nm r (fun n => z1o rows n r) had /\ z ∈ nm /\ GoodN nm /\ Rws nm rows /\ rows.length ≤ 60 /\ (∀ n ∈ had, 1 ≤ n /\ n ≤ rows.length) /\ 0 ≤ r /\ r ≤ 10 /\
 ∀ (q : Addr) (y : V) (H' : Hp), Same H H' -> H' q = some (.tup [.str (z1d (z0j had) rows r (z2c (z0T (z0j had) rows z)) z), .int (z2c (z0T (z0j had) rows z)), y]) -> Tell H' (z9r (z0T (z0j had) rows z)) y -> Q (.ref q) H'
theorem z8E {CShelf : Addr} (M : Bl mg) (F : Fun K "state_and_held" "state_and_held" z1m f fd) (Gheld_for : Cal P w K mg base 2 "held_for" ["shelf", "name"] (z3I (ShD K CShelf)))
  (Gstate_of : Cal P w K mg base 5 "state_of" ["shelf", "name"] (z63 (ShD K CShelf))) : FnOk P w K mg base CX0 6 f fd ["shelf", "name"] (z4h (ShD K CShelf)) := by
 have nd := z3u.nd
 refine F.ok z3u (fun vs H Q E h => ?_) (fun cdv A outer s H vs Q E hr h => ?_)
 ·obtain ⟨x, z, fp, nm, r, rows, had, rfl, _⟩ := h
  rfl
 obtain ⟨x, z, fp, nm, r, rows, had, rfl, sh, hz, gn, R, l60, hh, r0, r1, k⟩ := h
 refine ⟨_, (z07 (z0o (z0h (z7S (K := K) rfl) (z11 (z00 (z0r Gstate_of (hr.mono (by omega)) rfl (z00 (pv 0) (z00 (pv 1) z03))) z03)) (z0r Gheld_for (hr.mono (by omega)) rfl (z00 (pv 0) (z00 (pv 1) z03)))))), ?_⟩
 refine ⟨_, rfl, _, rfl, x, z, fp, nm, r, rows, had, rfl, sh, hz, gn, R, l60, hh, r0, r1, fun H1 s1 => ?_⟩
 refine ⟨(by show 1 ≤ sizeLine; decide), fun a ha => ?_⟩
 have g2 := s1.trans (z01 ha (.tup [.str (z1d (z0j had) rows r (z2c (z0T (z0j had) rows z)) z)]))
 have e2 : upd H1 a (.tup [.str (z1d (z0j had) rows r (z2c (z0T (z0j had) rows z)) z)]) a = some (.tup [.str (z1d (z0j had) rows r (z2c (z0T (z0j had) rows z)) z)]) := z02
 generalize upd H1 a (.tup [.str (z1d (z0j had) rows r (z2c (z0T (z0j had) rows z)) z)]) = H2 at g2 e2
 refine ⟨_, rfl, _, rfl, x, z, fp, nm, r, rows, had, rfl, shOk.same sh g2, hz, gn, R, fun v H3 s3 tv => ?_⟩
 obtain ⟨b, y, rfl, eb, tb⟩ := z5A tv
 exact ⟨a, b, _, _, rfl, rfl, SqT.of (s3 _ _ e2), SqT.of eb, by simp, (by show 3 ≤ sizeLine; decide), fun z => (nomatch z), fun _ q hq => k q y _ (g2.trans (s3.trans (z01 hq _))) z02 (Tell.keep (z01 hq _) _ _ tb)⟩
theorem z74 {rows : List Row} {z : Str} {m : Nat} : ∀ (ns : List Int), (∀ n ∈ ns, 1 ≤ n /\ n ≤ (m : Int)) -> z0T ns (rows.take m) z = z0T ns rows z := by
 intro ns
 have go : ∀ (ns : List Int) (acc : Option (Int × Int)), (∀ n ∈ ns, 1 ≤ n /\ n ≤ (m : Int)) -> ns.foldl (fun acc n => match valL (z1h (rows.take m) n) z with | some v => some (n, v) | none => acc) acc = ns.foldl (fun acc n => match valL (z1h rows n) z with | some v => some (n, v) | none => acc) acc := by
  intro ns
  induction ns with
  | nil => intro _ _; rfl
  | cons n r ih =>
   intro acc h
   rw [List.foldl_cons, List.foldl_cons, z3T (h n List.mem_cons_self).1 (h n List.mem_cons_self).2]
   exact ih _ fun x hx => h x (List.mem_cons_of_mem _ hx)
 exact go ns none
theorem y2T {ns : List Int} {rows : List Row} {r : Int} {w : Nat} (h : ∀ n ∈ ns, 1 ≤ n /\ n ≤ (w : Int)) (z : Str) : tabD ns (rows.take w) r z = tabD ns rows r z := by
 have e1 : z0T (z0j ns) (rows.take w) z = z0T (z0j ns) rows z := z74 _ fun n hn => h n (z1E.mp hn).2
 have e2 : ∀ num, z32 ns (rows.take w) r num z = z32 ns rows r num z := fun num => by
  unfold z32
  refine List.filter_congr fun n hn => ?_
  obtain ⟨⟨n1, _⟩, _, y, hy, n4⟩ := z2Z.mp hn
  have := (h y hy).2
  unfold z2y
  rw [z3T n1 (by omega)]
 unfold tabD z1d
 rw [e1, e2]
theorem z9B {k : Int} {log : List Deed} (h : z39 k log) : ∀ x ∈ log, 1 ≤ x.2 /\ x.2 ≤ (wrN log : Int) := by
 intro x hx
 obtain ⟨i, hi, e⟩ := List.getElem_of_mem hx
 have ok := h i x (by rw [List.getElem?_eq_getElem hi, e])
 have mono : ∀ j, wrN (log.take j) ≤ wrN log := fun j => by
  unfold wrN
  exact ((List.take_sublist j log).filter _).length_le
 obtain ⟨a, n⟩ := x
 cases a with
 | none =>
  have e1 : n = (wrN (log.take i) : Int) + 1 := ok.1
  have := mono (i + 1)
  rw [z0w (show log[i]? = some ((none, n) : Deed) by rw [List.getElem?_eq_getElem hi, e]), z2a] at this
  have t : wrN (log.take i) + 1 ≤ wrN log := this
  show 1 ≤ n /\ n ≤ _
  omega
 | some rd =>
  obtain ⟨_, _, h3, h4⟩ := ok
  have := mono i
  show 1 ≤ n /\ n ≤ _
  have h4' : n ≤ (wrN (log.take i) : Int) := h4
  omega
theorem z7J {xs : List V} {k : Nat} (h : k ≤ xs.length) : cutV xs none (some (k : Int)) = xs.take k := by
 unfold cutV
 have e1 : HT.sIx xs.length 0 none = 0 := rfl
 have e2 : HT.sIx xs.length xs.length (some (k : Int)) = k := by
  rw [HT.z5W, Nat.min_eq_left h]
 rw [e1, e2, List.drop_zero, Nat.sub_zero]
theorem z7V {xs : List V} {k : Nat} (h : k ≤ xs.length) : cutV xs (some (k : Int)) none = xs.drop k := by
 unfold cutV
 have e1 : HT.sIx xs.length xs.length none = xs.length := rfl
 have e2 : HT.sIx xs.length 0 (some (k : Int)) = k := by
  rw [HT.z5W, Nat.min_eq_left h]
 rw [e1, e2, List.take_of_length_le]
 rw [List.length_drop]
 exact Nat.le_refl _
def z42 (n : Nat) : List Deed := (upI 1 n).map fun k => (none, k)
theorem z57 (i : Nat) : z42 (i + 1) = z42 i ++ [(none, 1 + (i : Int))] := by
 unfold z42
 rw [z4o, List.map_append]
 rfl
theorem z7i (k : Int) : ∀ i, i ≤ 60 -> z39 k (z42 i) /\ wrN (z42 i) = i
 | 0, _ => ⟨z39.nil k, rfl⟩
 | i + 1, h => by
  obtain ⟨h1, h2⟩ := z7i k i (by omega)
  rw [z57]
  refine ⟨h1.snoc ⟨by rw [h2]; exact Int.add_comm _ _, by rw [h2]; omega⟩, ?_⟩
  rw [z2a, h2]
  rfl
theorem z6S {num jp mx : Int} (hj : 1 ≤ jp) (hm : num - 5 * jp ≤ mx) : stepN (num - jp) mx (0 - jp) ≤ 4 := by
 refine Classical.byContradiction fun h => ?_
 have := z9h (a := num - jp) (b := mx) (c := 0 - jp) (i := 4) (by omega) (by omega)
 have e : ((4 : Nat) : Int) * (0 - jp) = -(4 * jp) := by omega
 rw [e] at this
 omega
def z9j (K : PySem.W.Frag) : Sp := fun vs H Q _ => ∃ (lc : Addr) (cs : List Int) (first rds : Int), vs = [.ref lc, .int 60, .int first, .int rds] /\ SqL K H lc (cs.map V.int) /\ 0 ≤ first /\ first ≤ 30 /\ 1 ≤ rds /\ rds ≤ 10 /\
 ∀ (l : Addr) (us : List V) (log : List Deed) (H' : Hp), H l = none -> Same H H' -> H' l = some (.lst us) -> Paired (z0V H') us log -> z39 rds log -> log.length ≤ 246 -> Q (.ref l) H'
theorem y0D (M : Bl mg) (F : Fun K "_law_deeds" "_law_deeds" z2p f fd) (G_law_pick : Cal P w K mg base 1 "_law_pick" ["_law_cell", "_law_size"] z8h) : FnOk P w K mg base CX0 2 f fd ["_law_cells", "_law_many", "_law_first", "_law_readers"] (z9j K) := by
 have nd := z5k.nd
 refine F.ok z5k (fun vs H Q E h => ?_) (fun cdv A outer s H vs Q E hr h => ?_)
 ·obtain ⟨lc, cs, first, rds, rfl, _⟩ := h
  rfl
 obtain ⟨lc, cs, first, rds, rfl, hC, f0, f30, d1, d10, q⟩ := h
 refine ⟨_, (z04 (z4X (i := 4) ["_law_k"] [] [] rfl nd rfl (Or.inl rfl) (z0y rfl (by decide +kernel) rfl (by decide +kernel) rfl rfl) (z18 rfl M.range (z00 (pv 2) z03)) (fun _ _ _ _ _ => (z0n (i := 0) (show ((["_law_k"] : List PySem.Str) ++ ([] : List PySem.Str)).Nodup from by decide +kernel) rfl (Or.inl rfl))) (z0C (by decide)) z0e (fun _ _ _ _ _ => z2D) (fun _ _ _ _ _ => (z11 (z00 z2b (z00 (z0h z0Z (pv 0) z06) z03))))) (z04 (z0m (i := 5) nd rfl (Or.inl rfl) (pv 2)) (z04 (z1p PassesOwn.never rfl (z1Z (pv 0)) (z0n (i := 6) nd rfl (Or.inl rfl)) (z04 (z0m (i := 7) nd rfl (Or.inl rfl) (z0r G_law_pick (hr.mono (by omega)) rfl (z00 (z0h z13 (pv 6) z06) (z00 (z0h y4q z06 z06) z03)))) (z04 (z0R (z08 z2U (z0f z0a rfl M.len PySem.boot_len (z00 (pv 4) z03)) z06 (z0l _)) (z07 y2G) z0q) (z07 (z0R (z08 z2s (z0h z0L (pv 6) z06) z06 (z0l _)) (z07 (z1p PassesOwn.never rfl (z18 rfl M.range (z00 (z0h z0Z z06 (z0h z0L (pv 7) z06)) z03)) (z0n (i := 8) nd rfl (Or.inl rfl)) (z07 (z0R (z08 z6H (pv 5) (pv 1) (z0l _)) (z04 (z0m (i := 5) nd rfl (Or.inl rfl) (z0h z0Z (pv 5) z06)) (z07 (z0A (z3a PySem.F.plainAttrs_list PySem.F.slot_list_append PySem.F.type_list_append z0M (pv 4) (z00 (z11 (z00 z2b (z00 (pv 5) z03))) z03))))) z0q)))) (z07 (z0R (z08 z2U (pv 5) z06 (z0l _)) (z04 (z0m (i := 9) nd rfl (Or.inl rfl) (z0h z0Z z06 (z0h z0L (pv 7) (pv 3)))) (z04 (z0m (i := 10) nd rfl (Or.inl rfl) (z0h z0Z z06 (z0h z0L (z0h z13 (pv 7) (pv 3)) (pv 5)))) (z04 (z0R (z08 z2s (z0h z0L (pv 6) z06) z06 (z0l _)) (z07 (z0m (i := 10) nd rfl (Or.inl rfl) (pv 5))) z0q) (z04 (z0A (z3a PySem.F.plainAttrs_list PySem.F.slot_list_append PySem.F.type_list_append z0M (pv 4) (z00 (z11 (z00 z2b (z00 (pv 9) (z00 (pv 10) z03)))) z03))) (z07 (z0R (z08 z2s (z0h z0L (pv 6) z06) z06 (z0l _)) (z04 (z0m (i := 11) nd rfl (Or.inl rfl) (z0h z0Z z06 (z0h z0L (z0h z13 (z0h z13 (pv 7) (pv 3)) (pv 5)) z06))) (z07 (z1p PassesOwn.never rfl (y20 rfl M.range (z00 (z0h z37 (pv 10) (pv 11)) (z00 (z0f (z8K rfl) rfl M.max PyProof.Rows.boot_max (z00 z06 (z00 (z0h z37 (pv 10) (z0h z44 z06 (pv 11))) z03))) (z00 (z0h z37 z06 (pv 11)) z03)))) (z0n (i := 12) nd rfl (Or.inl rfl)) (z07 (z0A (z3a PySem.F.plainAttrs_list PySem.F.slot_list_append PySem.F.type_list_append z0M (pv 4) (z00 (z11 (z00 z2b (z00 (pv 9) (z00 (pv 12) z03)))) z03))))))) z0q)))))) z0q))))))) (z07 (z0o (pv 4)))))), ?_⟩
 refine ⟨_, rfl, _, rfl, by omega, by omega, ?_⟩
 refine z50 (lo := 0) (n := first.toNat) (fun i ys H' => Same H H' /\ Paired (z0V H') ys (z42 i)) ⟨Same.refl _, .nil⟩ (fun i ys H' hi hp => ?_) (fun i ys H' hi hp => ?_) (fun ys H' hp => ?_)
 ·obtain ⟨g, p⟩ := hp
  have := z0I p
  unfold z42 at this
  rw [List.length_map, z0O] at this
  exact z0i (by omega)
 ·obtain ⟨g, p⟩ := hp
  refine ⟨_, rfl, _, _, rfl, rfl, (by show 2 ≤ sizeLine; decide), fun t ht => ⟨g.trans (z01 ht _), ?_⟩⟩
  rw [z57]
  refine Paired.snoc (DeedsAt.keep (z01 ht _) p) ⟨t, rfl, ?_⟩
  rw [z02]
  show some (HO.tup [V.str "write", V.int (0 + (i : Int) + 1)]) = some (HO.tup [V.str "write", V.int (1 + (i : Int))])
  rw [Int.zero_add, Int.add_comm]
 obtain ⟨g, p⟩ := hp
 intro l hl
 have nl : H l = none := g.free hl
 have s1 := g.trans (z01 hl (.lst ys))
 have e1 : upd H' l (.lst ys) l = some (.lst ys) := z02
 have p1 := DeedsAt.keep (z01 hl (.lst ys)) p
 generalize upd H' l (.lst ys) = H1 at s1 e1 p1
 obtain ⟨lk0, wn0⟩ := z7i rds first.toNat (by omega)
 have ln0 : (z42 first.toNat).length = first.toNat := by
  unfold z42
  rw [List.length_map, z0O]
 have wf : ((wrN (z42 first.toNat) : Nat) : Int) = first := by rw [wn0]; omega
 refine ⟨_, rfl, _, rfl, lc, rfl, ⟨_, s1.seq hC⟩, z2u (K := K) (a := lc) (xs := cs.map V.int) (fun _ σ G => ∃ (us : List V) (log : List Deed) (o6 o7 o8 o9 o10 o11 o12 : Option V), Same H G /\ G l = some (.lst us) /\ Paired (z0V G) us log /\ z39 rds log /\ log.length ≤ 246 /\
   σ = [some (.ref lc), some (.int 60), some (.int first), some (.int rds), some (.ref l), some (.int (wrN log)), o6, o7, o8, o9, o10, o11, o12]) ⟨ys, z42 first.toNat, none, none, none, none, none, none, none, s1, e1, p1, lk0, by omega, by rw [wf]; rfl⟩ (fun i σ G _ ⟨_, _, _, _, _, _, _, _, _, g, _⟩ => g.seq hC) ?_ ?_⟩
 ·rintro i u σ G hi ⟨us, log, o6, o7, o8, o9, o10, o11, o12, sG, eG, pG, lk, l246, rfl⟩
  rw [List.getElem?_map] at hi
  obtain ⟨c, _, rfl⟩ := Option.map_eq_some_iff.mp hi
  have lu := z0I pG
  refine ⟨_, rfl, _, _, rfl, rfl, ⟨by decide, by decide⟩, _, _, rfl, rfl, ⟨by decide, by decide, by decide⟩, _, _, rfl, (by decide), fun rest x0 x1 => ?_⟩
  refine ⟨_, rfl, l, us, rfl, .inl (SqL.of eG), _, _, rfl, rfl, _, rfl, ite2 (fun c1 => ?_) (fun c1 => ?_)⟩
  ·exact ⟨_, rfl, q l us log G nl sG eG pG lk l246⟩
  have c1' := z3E c1
  have l240 : log.length ≤ 240 := by omega
  refine ⟨_, rfl, _, _, rfl, rfl, (by show (0 : Int) < 5; decide), rfl, _, rfl, ite2 (fun c2 => ?_) (fun c2 => ?_)⟩
  ·refine ⟨_, rfl, _, _, rfl, rfl, (by show (0 : Int) < 6; decide), _, _, rfl, rfl, _, rfl, by have := Int.emod_nonneg rest (show (6 : Int) ≠ 0 by decide); omega, by have := Int.emod_lt_of_pos rest (show (0 : Int) < 6 by decide); omega, ?_⟩
   have r6 : (1 + rest % 6).toNat ≤ 6 := by have := Int.emod_lt_of_pos rest (show (0 : Int) < 6 by decide); omega
   refine z1j (lo := 0) (n := (1 + rest % 6).toNat) (fun j σ G2 => ∃ (us2 : List V) (log2 : List Deed) (o8 : Option V), Same H G2 /\ G2 l = some (.lst us2) /\ Paired (z0V G2) us2 log2 /\ z39 rds log2 /\ log2.length ≤ 240 + j /\
    σ = [some (.ref lc), some (.int 60), some (.int first), some (.int rds), some (.ref l), some (.int (wrN log2)), some (.int c), some (.int rest), o8, o9, o10, o11, o12]) ⟨us, log, _, sG, eG, pG, lk, l240, rfl⟩ (fun j σ G2 hj hp => ?_) (fun σ G2 hp => ?_)
   ·obtain ⟨us2, log2, o8', sG2, eG2, pG2, lk2, l2, rfl⟩ := hp
    have lu2 := z0I pG2
    refine ⟨_, rfl, _, rfl, _, _, rfl, rfl, _, rfl, ite2 (fun c3 => ?_) (fun c3 => ?_)⟩
    ·have c3' := z0H c3
     have eN : ((wrN (log2 ++ [(none, (wrN log2 : Int) + 1)]) : Nat) : Int) = (wrN log2 : Int) + 1 := by
      rw [z2a]
      rfl
     refine ⟨_, rfl, _, _, rfl, rfl, _, rfl, .inl ⟨rfl, _, SqL.of eG2⟩, _, rfl, (by show 2 ≤ sizeLine; decide), fun t ht => ⟨l, us2, _, rfl, rfl, z01 ht _ _ _ eG2, z0i (by omega), ?_⟩⟩
     obtain ⟨a1, a2, a3⟩ := z4y (none, (wrN log2 : Int) + 1) sG2 nl eG2 pG2 ht
     exact ⟨_, log2 ++ [(none, (wrN log2 : Int) + 1)], _, a1, a2, a3, lk2.snoc ⟨rfl, by omega⟩, by rw [List.length_append]; exact Nat.succ_le_succ l2, by rw [eN]; rfl⟩
    ·exact ⟨us2, log2, _, sG2, eG2, pG2, lk2, by omega, rfl⟩
   ·obtain ⟨us2, log2, o8', sG2, eG2, pG2, lk2, l2, rfl⟩ := hp
    exact ⟨us2, log2, _, _, _, _, _, _, _, sG2, eG2, pG2, lk2, by omega, rfl⟩
  ·refine ⟨_, rfl, _, _, rfl, rfl, _, rfl, ite2 (fun c3 => ?_) (fun c3 => ?_)⟩
   ·have c3' : (0 : Int) < (wrN log : Int) := z0H c3
    have w60 : wrN log ≤ 246 := Nat.le_trans (y3n log) l246
    have hrd : 1 ≤ 1 + rest % rds /\ 1 + rest % rds ≤ rds := by
     have := Int.emod_nonneg rest (show rds ≠ 0 by omega)
     have := Int.emod_lt_of_pos rest (show (0 : Int) < rds by omega)
     omega
    have hnm : 1 ≤ 1 + rest / rds % (wrN log : Int) /\ 1 + rest / rds % (wrN log : Int) ≤ (wrN log : Int) := by
     have := Int.emod_nonneg (rest / rds) (show (wrN log : Int) ≠ 0 by omega)
     have := Int.emod_lt_of_pos (rest / rds) c3'
     omega
    refine ⟨_, rfl, _, rfl, _, _, rfl, rfl, by omega, _, _, rfl, rfl, ?_⟩
    refine ⟨_, rfl, _, rfl, _, _, rfl, rfl, ⟨by omega, by omega⟩, _, rfl, _, _, rfl, rfl, c3', _, _, rfl, rfl, ?_⟩
    refine ⟨_, rfl, _, _, rfl, rfl, (by show (0 : Int) < 5; decide), rfl, _, rfl, ite2 (fun c4 => ⟨_, rfl, ?_⟩) (fun c4 => ?_)⟩
    ·have hN : 1 ≤ (wrN log : Int) /\ (wrN log : Int) ≤ (wrN log : Int) := ⟨by omega, Int.le_refl _⟩
     refine ⟨_, rfl, .inl ⟨rfl, _, SqL.of eG⟩, _, rfl, _, rfl, (by show 3 ≤ sizeLine; decide), fun t ht => ⟨l, us, _, rfl, rfl, z01 ht _ _ _ eG, z0i (by omega), ?_⟩⟩
     obtain ⟨a1, a2, a3⟩ := z4y (some (1 + rest % rds), (wrN log : Int)) sG nl eG pG ht
     have lk1 := lk.snoc (d := (some (1 + rest % rds), (wrN log : Int))) ⟨hrd.1, hrd.2, hN.1, hN.2⟩
     have wn1 : wrN (log ++ [((some (1 + rest % rds), (wrN log : Int)) : Deed)]) = wrN log := by rw [z2a]; rfl
     have ln1 : (log ++ [((some (1 + rest % rds), (wrN log : Int)) : Deed)]).length = log.length + 1 := by rw [List.length_append]; rfl
     generalize hG1 : upd (upd G t (.tup (z28 (some (1 + rest % rds), (wrN log : Int))))) l (.lst (us ++ [.ref t])) = G1 at a1 a2 a3
     have hG1' : upd (upd G t (.tup [V.str "deliver", V.int (1 + rest % rds), V.int (wrN log : Int)])) l (.lst (us ++ [.ref t])) = G1 := hG1
     rw [hG1']
     clear hG1 hG1'
     refine ⟨_, rfl, _, _, rfl, rfl, (by show (0 : Int) < 5; decide), rfl, _, rfl, ite2 (fun c5 => ?_) (fun c5 => ?_)⟩
     ·have hj : 1 ≤ 1 + rest / rds / (wrN log : Int) % 9 /\ 1 + rest / rds / (wrN log : Int) % 9 ≤ 9 := by
       have := Int.emod_nonneg (rest / rds / (wrN log : Int)) (show (9 : Int) ≠ 0 by decide)
       have := Int.emod_lt_of_pos (rest / rds / (wrN log : Int)) (show (0 : Int) < 9 by decide)
       omega
      refine ⟨_, rfl, _, rfl, _, _, rfl, rfl, ⟨by omega, by omega⟩, _, rfl, _, _, rfl, rfl, ⟨c3', by omega⟩, _, _, rfl, rfl, (by show (0 : Int) < 9; decide), _, _, rfl, rfl, ?_⟩
      refine ⟨_, rfl, _, rfl, _, _, rfl, rfl, _, rfl, _, rfl, _, _, rfl, rfl, .inl ⟨by decide, by decide⟩, _, _, rfl, rfl, _, _, rfl, _, rfl, _, _, rfl, rfl, _, _, _, rfl, ?_, ?_⟩
      ·refine ⟨by omega, by omega, by split <;> omega, by split <;> omega, by omega, by omega⟩
      ·have mx0 : 0 ≤ (if (wrN log : Int) - 5 * (1 + rest / rds / (wrN log : Int) % 9) > 0 then (wrN log : Int) - 5 * (1 + rest / rds / (wrN log : Int) % 9) else 0) := by split <;> omega
       have mx5 : (wrN log : Int) - 5 * (1 + rest / rds / (wrN log : Int) % 9) ≤ (if (wrN log : Int) - 5 * (1 + rest / rds / (wrN log : Int) % 9) > 0 then (wrN log : Int) - 5 * (1 + rest / rds / (wrN log : Int) % 9) else 0) := by split <;> omega
       have n4 := z6S hj.1 mx5
       refine z9I (hi := (wrN log : Int) - (1 + rest / rds / (wrN log : Int) % 9)) (c := 0 - (1 + rest / rds / (wrN log : Int) % 9)) (n := stepN ((wrN log : Int) - (1 + rest / rds / (wrN log : Int) % 9)) (if (wrN log : Int) - 5 * (1 + rest / rds / (wrN log : Int) % 9) > 0 then (wrN log : Int) - 5 * (1 + rest / rds / (wrN log : Int) % 9) else 0) (0 - (1 + rest / rds / (wrN log : Int) % 9))) (fun j σ G2 => ∃ (us2 : List V) (log2 : List Deed) (p12 : Option V), Same H G2 /\ G2 l = some (.lst us2) /\ Paired (z0V G2) us2 log2 /\ z39 rds log2 /\ wrN log2 = wrN log /\ log2.length = log.length + 1 + j /\
        σ = [some (.ref lc), some (.int 60), some (.int first), some (.int rds), some (.ref l), some (.int (wrN log)), some (.int c), some (.int rest), o8, some (.int (1 + rest % rds)), some (.int (wrN log : Int)), some (.int (1 + rest / rds / (wrN log : Int) % 9)), p12]) ⟨_, _, _, a1, a2, a3, lk1, wn1, ln1, rfl⟩ (fun j σ G2 hj2 hp => ?_) (fun σ G2 hp => ?_)
       ·obtain ⟨us2, log2, p12, sG2, eG2, pG2, lk2, w2, l2, rfl⟩ := hp
        have lu2 := z0I pG2
        have st := z9h (by omega) hj2
        refine ⟨_, rfl, .inl ⟨rfl, _, SqL.of eG2⟩, _, rfl, _, rfl, (by show 3 ≤ sizeLine; decide), fun t2 ht2 => ⟨l, us2, _, rfl, rfl, z01 ht2 _ _ _ eG2, z0i (by omega), ?_⟩⟩
        obtain ⟨b1, b2, b3⟩ := z4y (some (1 + rest % rds), (wrN log : Int) - (1 + rest / rds / (wrN log : Int) % 9) + j * (0 - (1 + rest / rds / (wrN log : Int) % 9))) sG2 nl eG2 pG2 ht2
        exact ⟨_, _, _, b1, b2, b3, lk2.snoc ⟨hrd.1, hrd.2, by omega, by rw [w2]; omega⟩, by rw [z2a, w2] <;> rfl, by rw [List.length_append, l2] <;> rfl, rfl⟩
       ·obtain ⟨us2, log2, p12, sG2, eG2, pG2, lk2, w2, l2, rfl⟩ := hp
        exact ⟨us2, log2, _, _, _, _, _, _, _, sG2, eG2, pG2, lk2, by omega, by rw [w2] <;> rfl⟩
     ·exact ⟨_, _, _, _, _, _, _, _, _, a1, a2, a3, lk1, by omega, by rw [wn1]; rfl⟩
    ·have hN : 1 ≤ (1 + rest / rds % (wrN log : Int)) /\ (1 + rest / rds % (wrN log : Int)) ≤ (wrN log : Int) := hnm
     refine ⟨_, rfl, .inl ⟨rfl, _, SqL.of eG⟩, _, rfl, _, rfl, (by show 3 ≤ sizeLine; decide), fun t ht => ⟨l, us, _, rfl, rfl, z01 ht _ _ _ eG, z0i (by omega), ?_⟩⟩
     obtain ⟨a1, a2, a3⟩ := z4y (some (1 + rest % rds), (1 + rest / rds % (wrN log : Int))) sG nl eG pG ht
     have lk1 := lk.snoc (d := (some (1 + rest % rds), (1 + rest / rds % (wrN log : Int)))) ⟨hrd.1, hrd.2, hN.1, hN.2⟩
     have wn1 : wrN (log ++ [((some (1 + rest % rds), (1 + rest / rds % (wrN log : Int))) : Deed)]) = wrN log := by rw [z2a]; rfl
     have ln1 : (log ++ [((some (1 + rest % rds), (1 + rest / rds % (wrN log : Int))) : Deed)]).length = log.length + 1 := by rw [List.length_append]; rfl
     generalize hG1 : upd (upd G t (.tup (z28 (some (1 + rest % rds), (1 + rest / rds % (wrN log : Int)))))) l (.lst (us ++ [.ref t])) = G1 at a1 a2 a3
     have hG1' : upd (upd G t (.tup [V.str "deliver", V.int (1 + rest % rds), V.int (1 + rest / rds % (wrN log : Int))])) l (.lst (us ++ [.ref t])) = G1 := hG1
     rw [hG1']
     clear hG1 hG1'
     refine ⟨_, rfl, _, _, rfl, rfl, (by show (0 : Int) < 5; decide), rfl, _, rfl, ite2 (fun c5 => ?_) (fun c5 => ?_)⟩
     ·have hj : 1 ≤ 1 + rest / rds / (wrN log : Int) % 9 /\ 1 + rest / rds / (wrN log : Int) % 9 ≤ 9 := by
       have := Int.emod_nonneg (rest / rds / (wrN log : Int)) (show (9 : Int) ≠ 0 by decide)
       have := Int.emod_lt_of_pos (rest / rds / (wrN log : Int)) (show (0 : Int) < 9 by decide)
       omega
      refine ⟨_, rfl, _, rfl, _, _, rfl, rfl, ⟨by omega, by omega⟩, _, rfl, _, _, rfl, rfl, ⟨c3', by omega⟩, _, _, rfl, rfl, (by show (0 : Int) < 9; decide), _, _, rfl, rfl, ?_⟩
      refine ⟨_, rfl, _, rfl, _, _, rfl, rfl, _, rfl, _, rfl, _, _, rfl, rfl, .inl ⟨by decide, by decide⟩, _, _, rfl, rfl, _, _, rfl, _, rfl, _, _, rfl, rfl, _, _, _, rfl, ?_, ?_⟩
      ·refine ⟨by omega, by omega, by split <;> omega, by split <;> omega, by omega, by omega⟩
      ·have mx0 : 0 ≤ (if (1 + rest / rds % (wrN log : Int)) - 5 * (1 + rest / rds / (wrN log : Int) % 9) > 0 then (1 + rest / rds % (wrN log : Int)) - 5 * (1 + rest / rds / (wrN log : Int) % 9) else 0) := by split <;> omega
       have mx5 : (1 + rest / rds % (wrN log : Int)) - 5 * (1 + rest / rds / (wrN log : Int) % 9) ≤ (if (1 + rest / rds % (wrN log : Int)) - 5 * (1 + rest / rds / (wrN log : Int) % 9) > 0 then (1 + rest / rds % (wrN log : Int)) - 5 * (1 + rest / rds / (wrN log : Int) % 9) else 0) := by split <;> omega
       have n4 := z6S hj.1 mx5
       refine z9I (hi := (1 + rest / rds % (wrN log : Int)) - (1 + rest / rds / (wrN log : Int) % 9)) (c := 0 - (1 + rest / rds / (wrN log : Int) % 9)) (n := stepN ((1 + rest / rds % (wrN log : Int)) - (1 + rest / rds / (wrN log : Int) % 9)) (if (1 + rest / rds % (wrN log : Int)) - 5 * (1 + rest / rds / (wrN log : Int) % 9) > 0 then (1 + rest / rds % (wrN log : Int)) - 5 * (1 + rest / rds / (wrN log : Int) % 9) else 0) (0 - (1 + rest / rds / (wrN log : Int) % 9))) (fun j σ G2 => ∃ (us2 : List V) (log2 : List Deed) (p12 : Option V), Same H G2 /\ G2 l = some (.lst us2) /\ Paired (z0V G2) us2 log2 /\ z39 rds log2 /\ wrN log2 = wrN log /\ log2.length = log.length + 1 + j /\
        σ = [some (.ref lc), some (.int 60), some (.int first), some (.int rds), some (.ref l), some (.int (wrN log)), some (.int c), some (.int rest), o8, some (.int (1 + rest % rds)), some (.int (1 + rest / rds % (wrN log : Int))), some (.int (1 + rest / rds / (wrN log : Int) % 9)), p12]) ⟨_, _, _, a1, a2, a3, lk1, wn1, ln1, rfl⟩ (fun j σ G2 hj2 hp => ?_) (fun σ G2 hp => ?_)
       ·obtain ⟨us2, log2, p12, sG2, eG2, pG2, lk2, w2, l2, rfl⟩ := hp
        have lu2 := z0I pG2
        have st := z9h (by omega) hj2
        refine ⟨_, rfl, .inl ⟨rfl, _, SqL.of eG2⟩, _, rfl, _, rfl, (by show 3 ≤ sizeLine; decide), fun t2 ht2 => ⟨l, us2, _, rfl, rfl, z01 ht2 _ _ _ eG2, z0i (by omega), ?_⟩⟩
        obtain ⟨b1, b2, b3⟩ := z4y (some (1 + rest % rds), (1 + rest / rds % (wrN log : Int)) - (1 + rest / rds / (wrN log : Int) % 9) + j * (0 - (1 + rest / rds / (wrN log : Int) % 9))) sG2 nl eG2 pG2 ht2
        exact ⟨_, _, _, b1, b2, b3, lk2.snoc ⟨hrd.1, hrd.2, by omega, by rw [w2]; omega⟩, by rw [z2a, w2] <;> rfl, by rw [List.length_append, l2] <;> rfl, rfl⟩
       ·obtain ⟨us2, log2, p12, sG2, eG2, pG2, lk2, w2, l2, rfl⟩ := hp
        exact ⟨us2, log2, _, _, _, _, _, _, _, sG2, eG2, pG2, lk2, by omega, by rw [w2] <;> rfl⟩
     ·exact ⟨_, _, _, _, _, _, _, _, _, a1, a2, a3, lk1, by omega, by rw [wn1]; rfl⟩
   ·exact ⟨us, log, _, _, _, _, _, _, _, sG, eG, pG, lk, l246, rfl⟩
 ·rintro σ G ⟨us, log, o6, o7, o8, o9, o10, o11, o12, sG, eG, pG, lk, l246, rfl⟩
  exact ⟨_, rfl, q l us log G nl sG eG pG lk l246⟩
theorem z70 (rd : Int) : ∀ log : List Deed, (gotL log rd).Nodup := by
 intro log
 have go : ∀ (log : List Deed) (acc : List Int), acc.Nodup -> (log.foldl (fun acc d => if d.1 = some rd then addN acc d.2 else acc) acc).Nodup := by
  intro log
  induction log with
  | nil => intro acc h; exact h
  | cons d log ih =>
   intro acc h
   rw [List.foldl_cons]
   refine ih _ ?_
   split
   ·unfold addN
    split
    ·exact h
    ·rename_i hn
     exact List.nodup_append.mpr ⟨h, by simp, fun a ha b hb e => hn (by rw [<- List.mem_singleton.mp hb, <- e]; exact ha)⟩
   ·exact h
 exact go log [] .nil
def z9d (K : PySem.W.Frag) (Bk : BkP) : Sp := fun vs H Q _ => ∃ (x l lr : Addr) (fp : List Addr) (nm : List Str) (r k : Int) (us ws : List V) (log0 log : List Deed) (rows : List Row), vs = [.ref x, .ref l, .ref lr] /\ Bk H x fp nm r k (rows.take (wrN log0)) log0 /\ H l = some (.lst us) /\ l ∉ fp /\ Paired (z0V H) us log /\ z39 k (log0 ++ log) /\ (log0 ++ log).length ≤ 400 /\
 H lr = some (.lst ws) /\ lr ∉ fp /\ z09 H (rows.map rowD) ws /\ rows.length = 60 /\ Rws nm rows /\ nm.Nodup /\ nm.length ≤ 12 /\
 ∀ (fp' : List Addr) (H' : Hp), (∀ b ∈ fp', b ∈ fp \/ H b = none) -> z0v fp H H' -> Bk H' x fp' nm r k (rows.take (wrN (log0 ++ log))) (log0 ++ log) -> Q (.ref x) H'
theorem y2P (M : Bl mg) (F : Fun K "_law_play" "_law_play" z2M f fd) {CBook : Addr} {Bk : BkP} (O : BkOk CBook ["write", "deliver", "latest", "issue", "deeds", "deed", "shelf"] Bk) (GBook_write : MCal P w K mg base 8 CBook "write" ["self", "rows"] (z61 K Bk)) (GBook_deliver : MCal P w K mg base 8 CBook "deliver" ["self", "reader", "number"] (z4g Bk)) :
  FnOk P w K mg base CX0 9 f fd ["_law_book", "_law_log", "_law_rows"] (z9d K Bk) := by
 have nd := z60.nd
 refine F.ok z60 (fun vs H Q E h => ?_) (fun cdv A outer s H vs Q E hr h => ?_)
 ·obtain ⟨x, l, lr, fp, nm, r, k, us, ws, log0, log, rows, rfl, _⟩ := h
  rfl
 obtain ⟨x, l, lr, fp, nm, r, k, us, ws, log0, log, rows, rfl, bk0, el, nl, pr, lk, l400, er, nr, tl, r60, R, ndn, n12, q⟩ := h
 refine ⟨_, (z04 (z1p PassesOwn.never rfl (z1Z (pv 1)) (z0n (i := 3) nd rfl (Or.inl rfl)) (z07 (z0R (PW.pt (z3F (z08 z2s (z0E z0S (pv 3) z06 (fun _ _ => rfl)) z2b (z0l _)) (z38 (z08 z2s (z0h z0L (z0E z0S (pv 3) z06 (fun _ _ => rfl)) z06) z06 (z0l _))))) (z07 (z0A (z1S GBook_write (hr.mono (by omega)) (pv 0) (z00 (z0x z3P rfl M.list PyProof.Rows.boot_list (z00 (z0E z0U (pv 2) (z0h z37 (z0E z0S (pv 3) z06 (fun _ _ => rfl)) z06) (fun _ _ => rfl)) z03)) z03)))) (z07 (z0R (z08 z2s (z0E z0S (pv 3) z06 (fun _ _ => rfl)) z2b (z0l _)) (z07 (z0A (z1S GBook_write (hr.mono (by omega)) (pv 0) (z00 (z0x z0u rfl M.tuple PyProof.Rows.boot_tuple (z00 (z0E z0U (pv 2) (z0h z37 (z0E z0S (pv 3) z06 (fun _ _ => rfl)) z06) (fun _ _ => rfl)) z03)) z03)))) (z07 (z0A (z1S GBook_deliver (hr.mono (by omega)) (pv 0) (z00 (z0E z0S (pv 3) z06 (fun _ _ => rfl)) (z00 (z0E z0S (pv 3) z06 (fun _ _ => rfl)) z03)))))))))) (z07 (z0o (pv 0)))), ?_⟩
 have ntp : z4m H fp := O.noTup bk0
 have lw : ws.length = 60 := by rw [tl.length, List.length_map, r60]
 have lu := z0I pr
 have e0 : (log0 ++ log).take (log0.length + 0) = log0 := List.take_left
 refine ⟨_, rfl, l, rfl, ⟨_, SqL.of el⟩, z2u (K := K) (a := l) (xs := us) (fun i σ H' => ∃ (fp' : List Addr) (o : Option V), z0v fp H H' /\ Bk H' x fp' nm r k (rows.take (wrN ((log0 ++ log).take (log0.length + i)))) ((log0 ++ log).take (log0.length + i)) /\ (∀ b ∈ fp', b ∈ fp \/ H b = none) /\ σ = [some (.ref x), some (.ref l), some (.ref lr), o])
  ⟨fp, none, .of (Same.refl _), by rw [e0]; exact bk0, fun b m => .inl m, rfl⟩ (fun i σ H' _ ⟨_, _, bt, _⟩ => SqL.of (bt _ _ el nl)) ?_ ?_⟩
 ·rintro i u σ H' hi ⟨fp', o, bt, bk, ff, rfl⟩
  have hi' : us.take us.length = us := List.take_length
  obtain ⟨d, ed, b, rfl, hb⟩ : ∃ d, (log0 ++ log)[log0.length + i]? = some d /\ z0V H u d := by
   obtain ⟨d, e1, e2⟩ := z9Y pr us.length i u (by rw [List.take_length]; exact hi)
   rw [lu, List.take_length] at e1
   exact ⟨d, by rw [List.getElem?_append_right (by omega), Nat.add_sub_cancel_left]; exact e1, e2⟩
  have ok := lk (log0.length + i) d ed
  have hb' := bt _ _ hb (fun m => ntp b m _ hb)
  have ltk : ((log0 ++ log).take (log0.length + i)).length < 400 := by
   have := (List.getElem?_eq_some_iff.mp ed).1
   rw [List.length_take]
   omega
  obtain ⟨d2, g2, z2, w2⟩ := O.ins bk
  have wle : wrN ((log0 ++ log).take (log0.length + i)) ≤ ((log0 ++ log).take (log0.length + i)).length := y3n _
  obtain ⟨a, n⟩ := d
  cases a with
  | some rd =>
   obtain ⟨o1, o2, o3, o4⟩ := ok
   have hbd : H' b = some (.tup [V.str "deliver", V.int rd, V.int n]) := hb'
   refine ⟨_, rfl, b, _, 0, _, rfl, rfl, SqT.of hbd, rfl, rfl, _, rfl, iteF (iteF ?_)⟩
   refine ⟨_, rfl, b, _, 0, _, rfl, rfl, SqT.of hbd, rfl, rfl, _, rfl, iteF ?_⟩
   have l60 : wrN ((log0 ++ log).take (log0.length + i)) ≤ 60 \/ 60 < wrN ((log0 ++ log).take (log0.length + i)) := by omega
   have rl : ((rows.take (wrN ((log0 ++ log).take (log0.length + i)))).length : Int) = min (wrN ((log0 ++ log).take (log0.length + i))) 60 := by rw [List.length_take, r60] <;> omega
   have n60 : n ≤ ((rows.take (wrN ((log0 ++ log).take (log0.length + i)))).length : Int) := by
    rw [rl]
    have : wrN ((log0 ++ log).take (log0.length + i)) ≤ 60 := wr60 lk (log0.length + i)
    omega
   refine ⟨_, rfl, x, d2, g2, rfl, z2, w2 _ (by simp), _, rfl, b, _, 1, _, rfl, rfl, SqT.of hbd, rfl, _, rfl, b, _, 2, _, rfl, rfl, SqT.of hbd, rfl, x, fp', nm, r, k, _, _, rd, n, rfl, bk, o1, o2, o3, n60, ltk, fun H7 b7 bk7 => ?_⟩
   have ew : wrN ((log0 ++ log).take (log0.length + i + 1)) = wrN ((log0 ++ log).take (log0.length + i)) := by rw [z0w ed, z2a] <;> rfl
   exact ⟨fp', _, (fun b o e nb => b7 b o (bt b o e nb) fun m => (ff b m).elim nb fun z => by rw [e] at z; cases z), (by rw [z0w ed] at ew; show Bk _ _ _ _ _ _ (rows.take (wrN ((log0 ++ log).take (log0.length + i + 1)))) ((log0 ++ log).take (log0.length + i + 1)); rw [z0w ed, ew]; exact bk7), ff, rfl⟩
  | none =>
   obtain ⟨en, n60⟩ := ok
   have en' : n = (wrN ((log0 ++ log).take (log0.length + i)) : Int) + 1 := en
   have n60' : wrN ((log0 ++ log).take (log0.length + i)) < 60 := n60
   have hbd : H' b = some (.tup [V.str "write", V.int n]) := hb'
   have ew : wrN ((log0 ++ log).take (log0.length + i + 1)) = wrN ((log0 ++ log).take (log0.length + i)) + 1 := by rw [z0w ed, z2a] <;> rfl
   have hlt : wrN ((log0 ++ log).take (log0.length + i)) < rows.length := by omega
   obtain ⟨v, ev, tv⟩ := (z09.but bt ntp _ _ tl).get (wrN ((log0 ++ log).take (log0.length + i))) (rowD rows[wrN ((log0 ++ log).take (log0.length + i))]) (by rw [List.getElem?_map, List.getElem?_eq_getElem hlt] <;> rfl)
   have av : atI ws (n - 1) = some v := by
    rw [en', Int.add_sub_cancel]
    exact z1k ev
   have erow : rows[wrN ((log0 ++ log).take (log0.length + i))]? = some rows[wrN ((log0 ++ log).take (log0.length + i))] := List.getElem?_eq_getElem hlt
   generalize rows[wrN ((log0 ++ log).take (log0.length + i))] = wr at tv erow
   have hw := List.mem_of_getElem? erow
   obtain ⟨ar, xs, rfl, era, _, tp⟩ := z0s tv
   have sb := R.sub wr hw
   have good : GoodR nm wr := ⟨sb.nodup ndn, fun p hp => sb.subset (List.mem_map_of_mem hp), fun p hp => R.val wr hw p hp⟩
   have ino : z1f nm wr = wr := z4j ndn sb
   have w12 : wr.length ≤ 12 := by
    have := sb.length_le
    rw [List.length_map] at this
    omega
   have lti : (rows.take (wrN ((log0 ++ log).take (log0.length + i)))).length = wrN ((log0 ++ log).take (log0.length + i)) := by rw [List.length_take]; omega
   have er' := bt _ _ er nr
   have fin : ∀ {G : Hp} (fp2 : List Addr) (H6 : Hp), Same H' G -> (∀ b ∈ fp2, b ∈ fp' \/ G b = none) -> z0v fp' G H6 -> Bk H6 x fp2 nm r k (rows.take (wrN ((log0 ++ log).take (log0.length + i))) ++ [z1f nm wr]) ((log0 ++ log).take (log0.length + i) ++ [(none, ((rows.take (wrN ((log0 ++ log).take (log0.length + i)))).length : Int) + 1)]) ->
     ∃ (fp' : List Addr) (o : Option V), z0v fp H H6 /\ Bk H6 x fp' nm r k (rows.take (wrN ((log0 ++ log).take (log0.length + i + 1)))) ((log0 ++ log).take (log0.length + i + 1)) /\ (∀ b ∈ fp', b ∈ fp \/ H b = none) /\ [some (V.ref x), some (V.ref l), some (V.ref lr), some (V.ref b)] = [some (V.ref x), some (V.ref l), some (V.ref lr), o] := fun {G} fp2 H6 sl hf2 b6 bk6 => by
    rw [ino, lti, <- z0w erow, <- en', <- z0w ed, <- ew] at bk6
    exact ⟨fp2, _, (fun b o e nb => b6 b o (sl _ _ (bt b o e nb)) fun m => (ff b m).elim nb fun z => by rw [e] at z; cases z), bk6, z8Q bt ff sl hf2, rfl⟩
   refine ⟨_, rfl, b, _, 0, _, rfl, rfl, SqT.of hbd, rfl, rfl, _, rfl, iteT ?_⟩
   refine ⟨_, rfl, b, _, 1, _, rfl, rfl, SqT.of hbd, rfl, _, _, rfl, rfl, (by show (0 : Int) < 2; decide), rfl, _, rfl, ite2 (fun c => ?_) (fun c => ?_)⟩
   ·refine ⟨_, rfl, x, d2, g2, rfl, z2, w2 _ (by simp), _, rfl, _, rfl, b, _, 1, _, rfl, rfl, SqT.of hbd, rfl, _, _, rfl, rfl, lr, ws, _, _, rfl, rfl, SqL.of er', av, ar, xs, rfl, .inr (SqT.of era), fun l2 hl2 => ?_⟩
    have sl := z01 hl2 (.lst xs)
    have el2 : upd H' l2 (.lst xs) l2 = some (.lst xs) := z02
    have nl2 : l2 ∉ fp' := fun m => by
     obtain ⟨o, e, _⟩ := O.own bk l2 m
     rw [hl2] at e
     cases e
    have bk' := O.same bk sl
    have hts := z7a (z09.keep sl _ _ tp)
    generalize upd H' l2 (.lst xs) = G at sl el2 bk' hts
    exact ⟨x, .ref l2, fp', nm, r, k, _, _, wr, rfl, bk', ⟨l2, xs, rfl, .inl (SqL.of el2), nl2, HT.hand (O.noTup bk') hts⟩, good, w12, by omega, ltk, fun fp2 H6 hf2 b6 bk6 => fin fp2 H6 sl hf2 b6 bk6⟩
   ·refine ⟨_, rfl, b, _, 0, _, rfl, rfl, SqT.of hbd, rfl, rfl, _, rfl, iteT ?_⟩
    refine ⟨_, rfl, x, d2, g2, rfl, z2, w2 _ (by simp), _, rfl, _, rfl, b, _, 1, _, rfl, rfl, SqT.of hbd, rfl, _, _, rfl, rfl, lr, ws, _, _, rfl, rfl, SqL.of er', av, ar, xs, rfl, .inr ⟨SqT.of era, ?_⟩⟩
    exact ⟨x, .ref ar, fp', nm, r, k, _, _, wr, rfl, bk, ⟨ar, xs, rfl, .inr era, fun m => O.noTup bk ar m _ era, HT.hand (O.noTup bk) (z7a tp)⟩, good, w12, by omega, ltk, fun fp2 H6 hf2 b6 bk6 => fin fp2 H6 (Same.refl _) hf2 b6 bk6⟩
 ·rintro σ H' ⟨fp', o, bt, bk, ff, rfl⟩
  rw [lu, <- List.length_append, List.take_length] at bk
  exact ⟨_, rfl, q fp' H' ff bt bk⟩
def hvV : Option (Int × Int) -> V
 | none => .non
 | some p => .int p.2
def z0Q (had : List Int) (rows : List Row) (r : Int) (z : Str) : List V := [.str (z1d (z0j had) rows r (z2c (z0T (z0j had) rows z)) z), .int (z2c (z0T (z0j had) rows z)), hvV (z0T (z0j had) rows z)]
def z6G (j : Nat) (had : List Int) (rows : List Row) (r : Int) (z : Str) : DV := .tup [.int j, .str (z1d (z0j had) rows r (z2c (z0T (z0j had) rows z)) z), .int (z2c (z0T (z0j had) rows z)), z9r (z0T (z0j had) rows z)]
def z1R (t : Nat -> List Int) (rows : List Row) (r : Int) (z : Str) : Nat -> List DV
 | 0 => [z6G 0 (t 0) rows r z]
 | j + 1 => z1R t rows r z j ++ (if z1W (z0Q (t (j + 1)) rows r z) (z0Q (t j) rows r z) then [] else [z6G (j + 1) (t (j + 1)) rows r z])
theorem z3j (t : Nat -> List Int) (rows : List Row) (r : Int) (z : Str) : ∀ j, (z1R t rows r z j).length ≤ j + 1
 | 0 => Nat.le_refl _
 | j + 1 => by
  have := z3j t rows r z j
  unfold z1R
  rw [List.length_append]
  split
  ·rw [List.length_nil]
   omega
  ·rw [List.length_singleton]
   omega
theorem z2l (had : List Int) (rows : List Row) (r : Int) (z : Str) : (z0Q had rows r z).all z20 = true := by
 unfold z0Q
 cases z0T (z0j had) rows z <;> rfl
theorem y1h {a b : List Int} {rows : List Row} {r : Int} {z : Str} (h : z1W (z0Q a rows r z) (z0Q b rows r z) = true) : z0Q a rows r z = z0Q b rows r z := by
 unfold z0Q at h ⊢
 unfold z1W at h
 rw [Bool.and_eq_true] at h
 obtain ⟨h1, h2⟩ := h
 unfold z1W at h2
 rw [Bool.and_eq_true] at h2
 obtain ⟨h2, h3⟩ := h2
 unfold z1W at h3
 rw [Bool.and_eq_true] at h3
 have e1 := eq_of_beq (show (z1d (z0j a) rows r (z2c (z0T (z0j a) rows z)) z == z1d (z0j b) rows r (z2c (z0T (z0j b) rows z)) z) = true from h1)
 have e2 := eq_of_beq (show (z2c (z0T (z0j a) rows z) == z2c (z0T (z0j b) rows z)) = true from h2)
 have e3 : hvV (z0T (z0j a) rows z) = hvV (z0T (z0j b) rows z) := by
  have h4 := h3.1
  cases c1 : z0T (z0j a) rows z <;> cases c2 : z0T (z0j b) rows z <;> rw [c1, c2] at h4
  ·exact absurd (show false = true from h4) Bool.false_ne_true
  ·exact absurd (show false = true from h4) Bool.false_ne_true
  ·rename_i p q
   exact congrArg V.int (eq_of_beq (show (p.2 == q.2) = true from h4))
 rw [e1, e2, e3]
theorem z4C {H : Hp} {b : Addr} {j : Nat} {had : List Int} {rows : List Row} {r : Int} {z : Str} (h : H b = some (.tup (.int j :: z0Q had rows r z))) : Tell H (z6G j had rows r z) (.ref b) := by
 refine z0D h (by show 4 ≤ 1000000; decide) (.cons (z0F _) (.cons (z3Y _) (.cons (z0F _) (.cons ?_ .nil))))
 cases z0T (z0j had) rows z with
 | none => exact z7E
 | some p => exact z0F _
theorem y06 (t : Nat -> List Int) (rows : List Row) (r : Int) (z : Str) (n : Nat) : (DV.tup (z1R t rows r z n)).deep ≤ 2 := by
 have one : ∀ j had, (z6G j had rows r z).deep ≤ 1 := fun j had => by
  unfold z6G
  refine z9R fun d hd => ?_
  rcases List.mem_cons.mp hd with rfl | hd
  ·exact z7L _ _
  rcases List.mem_cons.mp hd with rfl | hd
  ·exact y2Q _ _
  rcases List.mem_cons.mp hd with rfl | hd
  ·exact z7L _ _
  rw [List.mem_singleton.mp hd]
  cases z0T (z0j had) rows z with
  | none => unfold z9r DV.deep; exact Nat.zero_le _
  | some p => exact z7L _ _
 have go : ∀ n, ∀ d ∈ z1R t rows r z n, d.deep ≤ 1 := by
  intro n
  induction n with
  | zero =>
   intro d hd
   rw [List.mem_singleton.mp hd]
   exact one _ _
  | succ n ih =>
   intro d hd
   unfold z1R at hd
   rcases List.mem_append.mp hd with hd | hd
   ·exact ih d hd
   ·split at hd
    ·cases hd
    ·rw [List.mem_singleton.mp hd]
     exact one _ _
 exact z9R (go n)
def y0E (Bk : BkP) : Sp := fun vs H Q _ => ∃ (x : Addr) (z : Str) (rd : Int) (fp : List Addr) (nm : List Str) (r k : Int) (rows : List Row) (log : List Deed), vs = [.ref x, .int rd, .str z] /\ Bk H x fp nm r k rows log /\ 1 ≤ rd /\ rd ≤ k /\ z ∈ nm /\ GoodN nm /\ Rws nm rows /\ rows.length ≤ 60 /\ (∀ y ∈ log, 1 ≤ y.2 /\ y.2 ≤ (rows.length : Int)) /\ log.length ≤ 400 /\ 0 ≤ r /\ r ≤ 10 /\
 ∀ (v : V) (H' : Hp), Same H H' -> Tell H' (.tup (z1R (fun j => gotL (log.take j) rd) rows r z log.length)) v -> Q v H'
theorem z8T {H : Hp} {o : Option (Int × Int)} {y : V} (h : Tell H (z9r o) y) : y = hvV o := by
 cases o with
 | none =>
  unfold z9r Tell at h
  exact h
 | some p => exact z14 h
theorem y04 {CBook COffice CShelf : Addr} (M : Bl mg) (F : Fun K "history" "history" z3V f fd) (Gstate_and_held : Cal P w K mg base 6 "state_and_held" ["shelf", "name"] (z4h (ShD K CShelf)))
  (GBook_shelf : MCal P w K mg base 7 CBook "shelf" ["self", "reader", "deed"] (z4n (BkD K CBook COffice) (ShD K CShelf))) (GBook_deeds : MCal P w K mg base 7 CBook "deeds" ["self"] (z4K (BkD K CBook COffice))) : FnOk P w K mg base CX0 8 f fd ["book", "reader", "name"] (y0E (BkD K CBook COffice)) := by
 have nd := z8d.nd
 refine F.ok z8d (fun vs H Q E h => ?_) (fun cdv A outer s H vs Q E hr h => ?_)
 ·obtain ⟨x, z, rd, fp, nm, r, k, rows, log, rfl, _⟩ := h
  rfl
 obtain ⟨x, z, rd, fp, nm, r, k, rows, log, rfl, bk, d1, d2, hz, gn, R, l60, hin, l400, r0, r10, q⟩ := h
 refine ⟨_, (z04 (z0m (i := 3) nd rfl (Or.inl rfl) (z1V (z00 (z0h (z7S (K := K) rfl) (z11 (z00 z06 z03)) (z0r Gstate_and_held (hr.mono (by omega)) rfl (z00 (z1S GBook_shelf (hr.mono (by omega)) (pv 0) (z00 (pv 1) (z00 z06 z03))) (z00 (pv 2) z03)))) z03))) (z04 (z1p PassesOwn.never rfl (z4s rfl M.range (z00 z06 (z00 (z0h z0Z (z2G GBook_deeds (hr.mono (by omega)) (pv 0)) z06) z03))) (z0n (i := 4) nd rfl (Or.inl rfl)) (z04 (z0m (i := 5) nd rfl (Or.inl rfl) (z0r Gstate_and_held (hr.mono (by omega)) rfl (z00 (z1S GBook_shelf (hr.mono (by omega)) (pv 0) (z00 (pv 1) (z00 (pv 4) z03))) (z00 (pv 2) z03)))) (z07 (z0R (z08 (y3d hr.units0) (pv 5) (z1X y23 (z0E z0U (pv 3) (y4B y3l z06) (fun _ _ => rfl)) (z2A z06) z2B) (z0l _)) (z07 (z0A (z3a PySem.F.plainAttrs_list PySem.F.slot_list_append PySem.F.type_list_append z0M (pv 3) (z00 (z0h (z7S (K := K) rfl) (z11 (z00 (pv 4) z03)) (pv 5)) z03)))) z0q)))) (z07 (z0o (z0x z0u rfl M.tuple PyProof.Rows.boot_tuple (z00 (pv 3) z03)))))), ?_⟩
 have hgot : ∀ j, ∀ n ∈ gotL (log.take j) rd, 1 ≤ n /\ n ≤ (rows.length : Int) := fun j n hn => hin _ (List.mem_of_mem_take (z7U.mp hn))
 -- behind deed 0
 refine ⟨(by show 1 ≤ sizeLine; decide), fun t0 ht0 => ?_⟩
 have s0 := z01 ht0 (.tup [V.int 0])
 have e0 : upd H t0 (.tup [V.int 0]) t0 = some (.tup [V.int 0]) := z02
 generalize upd H t0 (.tup [V.int 0]) = H0 at s0 e0
 have bk0 := bkOk.same bk s0
 obtain ⟨dx, g, zz, ww⟩ := bkOk.ins bk0
 refine ⟨_, rfl, x, dx, g, rfl, zz, ww _ (by simp), _, rfl, x, fp, nm, r, k, rows, log, rd, some 0, rfl, bk0, d1, d2, (fun d h => by cases h; exact Nat.zero_le _), fun x1 f1 H1 fn1 s1 sh1 => ?_⟩
 refine ⟨_, rfl, x1, z, f1, nm, r, rows, _, rfl, sh1, hz, gn, R, l60, hgot 0, r0, r10, fun b y H2 s2 eb ty => ?_⟩
 have ey := z8T ty
 subst ey
 have eb' : H2 b = some (.tup (z0Q (gotL (log.take 0) rd) rows r z)) := eb
 refine ⟨t0, b, _, _, rfl, rfl, SqT.of ((s1.trans s2) _ _ e0), SqT.of eb', by simp, (by show 4 ≤ sizeLine; decide), fun z => (nomatch z), fun _ c hc => ?_⟩
 have s3 := z01 hc (.tup ([V.int 0] ++ z0Q (gotL (log.take 0) rd) rows r z))
 have e3 : upd H2 c (.tup ([V.int 0] ++ z0Q (gotL (log.take 0) rd) rows r z)) c = some (.tup (.int (0 : Nat) :: z0Q (gotL (log.take 0) rd) rows r z)) := z02
 refine ⟨(by show 1 ≤ sizeLine; decide), fun l hl => ?_⟩
 have s4 := s3.trans (z01 hl (.lst [V.ref c]))
 have e4 := z01 hl (.lst [V.ref c]) _ _ e3
 have el : upd (upd H2 c (.tup ([V.int 0] ++ z0Q (gotL (log.take 0) rd) rows r z))) l (.lst [V.ref c]) l = some (.lst [V.ref c]) := z02
 have nl : H l = none := (s0.trans (s1.trans (s2.trans s3))).free hl
 generalize upd (upd H2 c (.tup ([V.int 0] ++ z0Q (gotL (log.take 0) rd) rows r z))) l (.lst [V.ref c]) = H4 at s4 e4 el
 have c4 : Same H H4 := s0.trans (s1.trans (s2.trans s4))
 clear sh1 bk0 zz ww eb eb' s3 e3 ty s4
 have bk4 := bkOk.same bk c4
 obtain ⟨dx4, g4, zz4, ww4⟩ := bkOk.ins bk4
 refine ⟨_, rfl, x, dx4, g4, rfl, zz4, ww4 _ (by simp), x, fp, nm, r, k, rows, log, rfl, bk4, _, _, rfl, rfl, 1, _, rfl, ⟨by decide, by decide, by omega, by omega⟩, ?_⟩
 refine z1j (lo := 1) (n := ((log.length : Int) + 1 - 1).toNat) (fun i σ G => ∃ (us : List V) (b : Addr) (m : Int) (o4 o5 : Option V), Same H G /\ G l = some (.lst (us ++ [V.ref b])) /\ G b = some (.tup (.int m :: z0Q (gotL (log.take i) rd) rows r z)) /\ z09 G (z1R (fun j => gotL (log.take j) rd) rows r z i) (us ++ [V.ref b]) /\
   σ = [some (.ref x), some (.int rd), some (.str z), some (.ref l), o4, o5]) ⟨[], c, 0, _, _, c4, el, e4, .cons (z4C e4) .nil, rfl⟩ (fun i σ G hi hp => ?_) (fun σ G hp => ?_)
 ·obtain ⟨us, b, m, o4, o5, sG, elG, ebG, tG, rfl⟩ := hp
  have hil : i < log.length := by omega
  have ei : 1 + (i : Int) = ((i + 1 : Nat) : Int) := by omega
  have lus := tG.length
  have lst := z3j (fun j => gotL (log.take j) rd) rows r z i
  have bkG := bkOk.same bk sG
  obtain ⟨dxG, gG, zG, wG⟩ := bkOk.ins bkG
  refine ⟨_, rfl, x, dxG, gG, rfl, zG, wG _ (by simp), _, rfl, _, rfl, x, fp, nm, r, k, rows, log, rd, some (i + 1), by rw [ei]; rfl, bkG, d1, d2, (fun d h => by cases h; exact hil), fun x1 f1 G1 fn1 s1 sh1 => ?_⟩
  refine ⟨_, rfl, x1, z, f1, nm, r, rows, _, rfl, sh1, hz, gn, R, l60, hgot (i + 1), r0, r10, fun b2 y G2 s2 eb2 ty => ?_⟩
  have ey := z8T ty
  subst ey
  have eb' : G2 b2 = some (.tup (z0Q (gotL (log.take (i + 1)) rd) rows r z)) := eb2
  have s12 := s1.trans s2
  refine ⟨_, rfl, _, rfl, _, rfl, l, _, _, _, rfl, rfl, SqL.of (s12 _ _ elG), y2x _ _, _, rfl, b, _, rfl, SqT.of (s12 _ _ ebG), ?_, fun c2 hc2 => ?_⟩
  ·intro h
   exact absurd (show HT.sIx 4 0 (some 1) = 0 from h.1) (by decide)
  have ecut : cutV (V.int m :: z0Q (gotL (log.take i) rd) rows r z) (some 1) none = z0Q (gotL (log.take i) rd) rows r z := z7V (k := 1) (by show 1 ≤ 4; decide)
  rw [ecut]
  have s3 := s12.trans (z01 hc2 (.tup (z0Q (gotL (log.take i) rd) rows r z)))
  refine ⟨b2, c2, _, _, rfl, rfl, SqT.of (z01 hc2 _ _ _ eb'), SqT.of z02, z2l _ _ _ _, z2l _ _ _ _, _, rfl, ?_⟩
  have eb3 := z01 hc2 (.tup (z0Q (gotL (log.take i) rd) rows r z)) _ _ eb'
  generalize upd G2 c2 (.tup (z0Q (gotL (log.take i) rd) rows r z)) = G3 at s3 eb3
  by_cases c : z1W (z0Q (gotL (log.take (i + 1)) rd) rows r z) (z0Q (gotL (log.take i) rd) rows r z) = true
  ·rw [c]
   refine iteF ⟨us, b, m, _, _, sG.trans s3, s3 _ _ elG, ?_, ?_, rfl⟩
   ·rw [y1h c]
    exact s3 _ _ ebG
   ·unfold z1R
    rw [if_pos c, List.append_nil]
    exact z09.keep s3 _ _ tG
  ·rw [Bool.eq_false_iff.mpr c]
   refine iteT ⟨_, rfl, .inl ⟨rfl, _, SqL.of (s3 _ _ elG)⟩, _, rfl, (by show 1 ≤ sizeLine; decide), fun t5 ht5 => ?_⟩
   have s5 := z01 ht5 (.tup [V.int (1 + (i : Int))])
   refine ⟨_, rfl, t5, b2, _, _, rfl, rfl, SqT.of z02, SqT.of (s5 _ _ eb3), by simp, (by show 4 ≤ sizeLine; decide), fun z => (nomatch z), fun _ c6 hc6 => ?_⟩
   have s6 := s3.trans (s5.trans (z01 hc6 (.tup ([V.int (1 + (i : Int))] ++ z0Q (gotL (log.take (i + 1)) rd) rows r z))))
   have e6 : upd (upd G3 t5 (.tup [V.int (1 + (i : Int))])) c6 (.tup ([V.int (1 + (i : Int))] ++ z0Q (gotL (log.take (i + 1)) rd) rows r z)) c6 = some (.tup (.int (i + 1 : Nat) :: z0Q (gotL (log.take (i + 1)) rd) rows r z)) := by
    rw [z02, <- ei]
    rfl
   generalize upd (upd G3 t5 (.tup [V.int (1 + (i : Int))])) c6 (.tup ([V.int (1 + (i : Int))] ++ z0Q (gotL (log.take (i + 1)) rd) rows r z)) = G6 at s6 e6
   refine ⟨l, _, _, rfl, rfl, s6 _ _ elG, z0i (by omega), ?_⟩
   have ne6 : c6 ≠ l := z43 e6 (s6 _ _ elG) (by intro z; cases z)
   refine ⟨us ++ [V.ref b], c6, _, _, _, z2F (sG.trans s6) nl, z02, by rw [z0g ne6]; exact e6, ?_, rfl⟩
   unfold z1R
   rw [if_neg c]
   exact z09.over (s6 _ _ elG) z8H _ _ (z09.snoc (z09.keep s6 _ _ tG) (z4C e6))
 ·obtain ⟨us, b, m, o4, o5, sG, elG, ebG, tG, rfl⟩ := hp
  have en : ((log.length : Int) + 1 - 1).toNat = log.length := by omega
  rw [en] at tG
  have lst := z3j (fun j => gotL (log.take j) rd) rows r z log.length
  refine ⟨_, rfl, l, _, rfl, .inl ⟨SqL.of elG, fun t ht => q _ _ (sG.trans (z01 ht _)) (z0D z02 (by omega) (z09.keep (z01 ht _) _ _ tG))⟩⟩
theorem z3U {t : Nat -> List Int} {rows : List Row} {r : Int} {z : Str} {j : Nat} (h : z1W (z0Q (t (j + 1)) rows r z) (z0Q (t j) rows r z) = true) : z1R t rows r z (j + 1) = z1R t rows r z j := by
 show z1R t rows r z j ++ (if z1W (z0Q (t (j + 1)) rows r z) (z0Q (t j) rows r z) then [] else _) = _
 rw [if_pos h, List.append_nil]
theorem y08 {t : Nat -> List Int} {rows : List Row} {r : Int} {z : Str} {j : Nat} (h : ¬ z1W (z0Q (t (j + 1)) rows r z) (z0Q (t j) rows r z) = true) : z1R t rows r z (j + 1) = z1R t rows r z j ++ [z6G (j + 1) (t (j + 1)) rows r z] := by
 show z1R t rows r z j ++ (if z1W (z0Q (t (j + 1)) rows r z) (z0Q (t j) rows r z) then [] else _) = _
 rw [if_neg h]
theorem z9L (rows : List Row) (r : Int) (z : Str) : z0Q [] rows r z = [.str "sure", .int 0, .non] := by
 unfold z0Q
 rw [y28]
 unfold z1d z32 z26
 rw [z6z]
 rfl
theorem z7l {hs : List Int} (h60 : ∀ x ∈ hs, 1 ≤ x /\ x ≤ 60) (rows : List Row) (r : Int) (z : Str) : [V.str (z1d hs rows r (z2c (z0T (z0j hs) rows z)) z), .int (z2c (z0T (z0j hs) rows z)), hvV (z0T (z0j hs) rows z)] = z0Q hs rows r z := by
 unfold z0Q
 rw [z8V (ns := hs) (ms := z0j hs) (fun x => by rw [z1E]; exact ⟨fun h => ⟨by have := h60 x h; omega, h⟩, fun h => h.2⟩)]
def z9o (K : PySem.W.Frag) : Sp := fun vs H Q _ => ∃ (z : Str) (l lr : Addr) (rd r : Int) (us ws : List V) (log : List Deed) (rows : List Row), vs = [.str z, .ref l, .int rd, .ref lr, .int r] /\ H l = some (.lst us) /\ Paired (z0V H) us log /\ (∀ y ∈ log, 1 ≤ y.2 /\ y.2 ≤ 60) /\ log.length ≤ 400 /\ SqL K H lr ws /\ z09 H (rows.map rowD) ws /\ rows.length = 60 /\ (∀ w ∈ rows, w.length ≤ 12) /\ 0 ≤ r /\
 ∀ (v : V) (H' : Hp), Same H H' -> Tell H' (.tup (z1R (fun j => gotL (log.take j) rd) rows r z log.length)) v -> Q v H'
theorem y2E (M : Bl mg) (F : Fun K "_law_story" "_law_story" z2r f fd) (G_law_held : Cal P w K mg base 1 "_law_held" ["_law_had_here", "_law_rows", "_law_name"] (z9u K)) (G_law_gaps : Cal P w K mg base 2 "_law_gaps" ["_law_had_here", "_law_rows", "_law_reach"] (y1o K)) (G_law_state : Cal P w K mg base 2 "_law_state" ["_law_gaps_here", "_law_number", "_law_name"] (z9m K)) :
  FnOk P w K mg base CX0 3 f fd ["_law_name", "_law_log", "_law_reader", "_law_rows", "_law_reach"] (z9o K) := by
 have nd := z5e.nd
 refine F.ok z5e (fun vs H Q E h => ?_) (fun cdv A outer s H vs Q E hr h => ?_)
 ·obtain ⟨z, l, lr, rd, r, us, ws, log, rows, rfl, _⟩ := h
  rfl
 obtain ⟨z, l, lr, rd, r, us, ws, log, rows, rfl, el, pr, hin, l400, hR, tl, r60, r12, r0, q⟩ := h
 refine ⟨_, (z04 (z0m (i := 5) nd rfl (Or.inl rfl) (z1V z03)) (z04 (z0m (i := 6) nd rfl (Or.inl rfl) (z11 (z00 z2b (z00 z06 (z00 z9G z03))))) (z04 (z0m (i := 7) nd rfl (Or.inl rfl) (z1V (z00 (z11 (z00 z06 (z00 z2b (z00 z06 (z00 z9G z03))))) z03))) (z04 (z1p PassesOwn.never rfl (z18 rfl M.range (z00 (z0f z0a rfl M.len PySem.boot_len (z00 (pv 1) z03)) z03)) (z0n (i := 8) nd rfl (Or.inl rfl)) (z07 (z0R (PW.pt (z3F (z08 z2s (z0E z0S (z0E z0U (pv 1) (pv 8) (fun _ _ => rfl)) z06 (fun _ _ => rfl)) z2b (z0l _)) (z3F (z08 z2s (z0E z0S (z0E z0U (pv 1) (pv 8) (fun _ _ => rfl)) z06 (fun _ _ => rfl)) (pv 2) (z0l _)) (z38 (z08 z21 (z0E z0S (z0E z0U (pv 1) (pv 8) (fun _ _ => rfl)) z06 (fun _ _ => rfl)) (pv 5) (by with_unfolding_all rfl)))))) (z04 (z0A (z3a PySem.F.plainAttrs_list PySem.F.slot_list_append PySem.F.type_list_append z0M (pv 5) (z00 (z0E z0S (z0E z0U (pv 1) (pv 8) (fun _ _ => rfl)) z06 (fun _ _ => rfl)) z03))) (z04 (z0m (i := 9) nd rfl (Or.inl rfl) (z0r G_law_held (hr.mono (by omega)) rfl (z00 (pv 5) (z00 (pv 3) (z00 (pv 0) z03))))) (z04 (z0m (i := 10) nd rfl (Or.inl rfl) (z0r G_law_state (hr.mono (by omega)) rfl (z00 (z0r G_law_gaps (hr.mono (by omega)) rfl (z00 (pv 5) (z00 (pv 3) (z00 (pv 4) z03)))) (z00 (z0E z0S (pv 9) z06 (fun _ _ => rfl)) (z00 (pv 0) z03))))) (z07 (z0R (z08 (y3d hr.units0) (z11 (z00 (pv 10) (z00 (z0E z0S (pv 9) z06 (fun _ _ => rfl)) (z00 (z0E z0S (pv 9) z06 (fun _ _ => rfl)) z03)))) (pv 6) (z0l _)) (z04 (z0m (i := 6) nd rfl (Or.inl rfl) (z11 (z00 (pv 10) (z00 (z0E z0S (pv 9) z06 (fun _ _ => rfl)) (z00 (z0E z0S (pv 9) z06 (fun _ _ => rfl)) z03))))) (z07 (z0A (z3a PySem.F.plainAttrs_list PySem.F.slot_list_append PySem.F.type_list_append z0M (pv 7) (z00 (z11 (z00 (z0h z0Z (pv 8) z06) (z00 (pv 10) (z00 (z0E z0S (pv 9) z06 (fun _ _ => rfl)) (z00 (z0E z0S (pv 9) z06 (fun _ _ => rfl)) z03))))) z03))))) z0q))))) z0q))) (z07 (z0o (z0x z0u rfl M.tuple PyProof.Rows.boot_tuple (z00 (pv 7) z03)))))))), ?_⟩
 have lu := z0I pr
 refine ⟨(by show 0 ≤ sizeLine; decide), fun lh hlh => ?_⟩
 have s1 := z01 hlh (.lst [])
 refine ⟨(by show 3 ≤ sizeLine; decide), fun t0 ht0 => ?_⟩
 have s2 := s1.trans (z01 ht0 (.tup [V.str "sure", .int 0, .non]))
 refine ⟨(by show 4 ≤ sizeLine; decide), fun t1 ht1 => ?_⟩
 have s3 := s2.trans (z01 ht1 (.tup [V.int 0, .str "sure", .int 0, .non]))
 refine ⟨(by show 1 ≤ sizeLine; decide), fun ls hls => ?_⟩
 have s4 := s3.trans (z01 hls (.lst [V.ref t1]))
 have nls : H ls = none := s3.free hls
 have e1 : upd (upd (upd (upd H lh (.lst [])) t0 (.tup [V.str "sure", .int 0, .non])) t1 (.tup [V.int 0, .str "sure", .int 0, .non])) ls (.lst [V.ref t1]) lh = some (.lst []) := z01 hls _ _ _ (z01 ht1 _ _ _ (z01 ht0 _ _ _ z02))
 have e2 : upd (upd (upd (upd H lh (.lst [])) t0 (.tup [V.str "sure", .int 0, .non])) t1 (.tup [V.int 0, .str "sure", .int 0, .non])) ls (.lst [V.ref t1]) t0 = some (.tup [V.str "sure", .int 0, .non]) := z01 hls _ _ _ (z01 ht1 _ _ _ z02)
 have e3 : upd (upd (upd (upd H lh (.lst [])) t0 (.tup [V.str "sure", .int 0, .non])) t1 (.tup [V.int 0, .str "sure", .int 0, .non])) ls (.lst [V.ref t1]) t1 = some (.tup [V.int 0, .str "sure", .int 0, .non]) := z01 hls _ _ _ z02
 have e4 : upd (upd (upd (upd H lh (.lst [])) t0 (.tup [V.str "sure", .int 0, .non])) t1 (.tup [V.int 0, .str "sure", .int 0, .non])) ls (.lst [V.ref t1]) ls = some (.lst [V.ref t1]) := z02
 have nhs : lh ≠ ls := z0p (z01 ht1 _ _ _ (z01 ht0 _ _ _ z02)) hls
 generalize upd (upd (upd (upd H lh (.lst [])) t0 (.tup [V.str "sure", .int 0, .non])) t1 (.tup [V.int 0, .str "sure", .int 0, .non])) ls (.lst [V.ref t1]) = H4 at s4 e1 e2 e3 e4
 rw [<- z9L rows r z] at e2
 have e3' : H4 t1 = some (.tup (.int (0 : Nat) :: z0Q (gotL (log.take 0) rd) rows r z)) := by
  rw [show gotL (log.take 0) rd = [] from rfl, z9L]
  exact e3
 refine ⟨_, rfl, l, us, rfl, .inl (SqL.of (s4 _ _ el)), _, rfl, by omega, by omega, ?_⟩
 refine z1j (lo := 0) (n := ((us.length : Nat) : Int).toNat) (fun i σ G => ∃ (ys : List V) (t : Addr) (o8 o9 o10 : Option V), Same H G /\ G lh = some (.lst ((gotL (log.take i) rd).map V.int)) /\ G t = some (.tup (z0Q (gotL (log.take i) rd) rows r z)) /\ G ls = some (.lst ys) /\ z09 G (z1R (fun j => gotL (log.take j) rd) rows r z i) ys /\
   σ = [some (.str z), some (.ref l), some (.int rd), some (.ref lr), some (.int r), some (.ref lh), some (.ref t), some (.ref ls), o8, o9, o10]) ⟨_, _, _, _, _, s4, e1, e2, e4, .cons (z4C e3') .nil, rfl⟩ (fun i σ G hi hp => ?_) (fun σ G hp => ?_)
 ·obtain ⟨ys, t, o8, o9, o10, sG, eh, et, es, ts, rfl⟩ := hp
  have hi' : i < log.length := by omega
  have ei : (0 : Int) + (i : Int) = (i : Int) := Int.zero_add _
  have ei1 : (0 : Int) + (i : Int) + 1 = ((i + 1 : Nat) : Int) := by omega
  obtain ⟨u, eu, b, rfl, hb⟩ := z7Y pr i log[i] (List.getElem?_eq_getElem hi')
  have ex : log[i]? = some log[i] := List.getElem?_eq_getElem hi'
  have hx := hin log[i] (List.getElem_mem hi')
  generalize log[i] = dd at ex hb hx
  have ato : atI us ((0 : Int) + (i : Int)) = some (.ref b) := by
   rw [ei]
   exact z1k eu
  have lG : SqL K G l us := SqL.of (sG _ _ el)
  have hb' := sG _ _ hb
  have g60 : ∀ j, ∀ n ∈ gotL (log.take j) rd, 1 ≤ n /\ n ≤ 60 := fun j n hn => hin _ (List.mem_of_mem_take (z7U.mp hn))
  have gl : ∀ j, (gotL (log.take j) rd).length ≤ 60 := fun j => z97 (z70 rd (log.take j)) (g60 j)
  have eg : gotL (log.take (i + 1)) rd = if dd.1 = some rd then addN (gotL (log.take i) rd) dd.2 else gotL (log.take i) rd := by rw [z0w ex, z8w]
  obtain ⟨a, n⟩ := dd
  cases a with
  | none =>
   have hbd : G b = some (.tup [V.str "write", V.int n]) := hb'
   rw [if_neg (fun e => by cases e)] at eg
   refine ⟨_, rfl, _, rfl, l, _, _, _, rfl, rfl, lG, ato, b, _, 0, _, rfl, rfl, SqT.of hbd, rfl, rfl, _, rfl, iteF (iteF ?_)⟩
   exact ⟨ys, t, _, _, _, sG, by rw [eg]; exact eh, by rw [eg]; exact et, es, by rw [z3U (by rw [eg]; exact z3b (z2l _ _ _ _))]; exact ts, rfl⟩
  | some rd' =>
   have hbd : G b = some (.tup [V.str "deliver", V.int rd', V.int n]) := hb'
   refine ⟨_, rfl, _, rfl, l, _, _, _, rfl, rfl, lG, ato, b, _, 0, _, rfl, rfl, SqT.of hbd, rfl, rfl, _, rfl, iteT ?_⟩
   refine ⟨_, rfl, _, rfl, l, _, _, _, rfl, rfl, lG, ato, b, _, 1, _, rfl, rfl, SqT.of hbd, rfl, _, rfl, rfl, _, rfl, ?_⟩
   by_cases c : rd' = rd
   ·rw [if_pos (show (some rd', n).1 = some rd by rw [c])] at eg
    rw [decide_eq_true (congrArg V.int c)]
    refine iteT ⟨_, rfl, _, rfl, l, _, _, _, rfl, rfl, lG, ato, b, _, 2, _, rfl, rfl, SqT.of hbd, rfl, _, rfl, lh, _, rfl, .inl (SqL.of eh), rfl, z2Y _, _, rfl, ?_⟩
    rw [if_pos rfl, z3t]
    unfold addN at eg
    by_cases c2 : n ∈ gotL (log.take i) rd
    ·rw [if_pos c2] at eg
     rw [decide_eq_true c2]
     exact iteF ⟨ys, t, _, _, _, sG, by rw [eg]; exact eh, by rw [eg]; exact et, es, by rw [z3U (by rw [eg]; exact z3b (z2l _ _ _ _))]; exact ts, rfl⟩
    ·rw [if_neg c2] at eg
     rw [decide_eq_false c2]
     have g1 := gl (i + 1)
     have g2 := g60 (i + 1)
     have g3 := z70 rd (log.take (i + 1))
     refine iteT ⟨_, rfl, .inl ⟨rfl, _, SqL.of eh⟩, _, rfl, _, rfl, l, _, _, _, rfl, rfl, lG, ato, b, _, 2, _, rfl, rfl, SqT.of hbd, rfl, lh, _, _, rfl, rfl, eh, z0i (by have := gl i; rw [List.length_map]; omega), ?_⟩
     have sU : Same H (upd G lh (.lst ((gotL (log.take i) rd).map V.int ++ [V.int n]))) := z2F sG hlh
     have eU : upd G lh (.lst ((gotL (log.take i) rd).map V.int ++ [V.int n])) lh = some (.lst ((gotL (log.take (i + 1)) rd).map V.int)) := by
      rw [z02, eg, List.map_append]
      rfl
     have tU : upd G lh (.lst ((gotL (log.take i) rd).map V.int ++ [V.int n])) t = some (.tup (z0Q (gotL (log.take i) rd) rows r z)) := by
      rw [z0g (z43 et eh (by intro z; cases z))]
      exact et
     have lU : upd G lh (.lst ((gotL (log.take i) rd).map V.int ++ [V.int n])) ls = some (.lst ys) := by
      rw [z0g (Ne.symm nhs)]
      exact es
     have tsU := z09.over (o' := .lst ((gotL (log.take i) rd).map V.int ++ [V.int n])) eh z8H _ _ ts
     generalize upd G lh (.lst ((gotL (log.take i) rd).map V.int ++ [V.int n])) = G1 at sU eU tU lU tsU
     clear eh et es ts hbd hb' lG
     generalize hhs : gotL (log.take (i + 1)) rd = hs at *
     have lys := tsU.length
     have lst := z3j (fun j => gotL (log.take j) rd) rows r z i
     refine ⟨_, rfl, _, rfl, _, rfl, lh, lr, hs, ws, rows, z, rfl, SqL.of eU, by omega, g3, g2, (fun x hx => by have := g2 x hx; omega), sU.seq hR, z09.keep sU _ _ tl, fun v G2 s2' tv => ?_⟩
     obtain ⟨ah, yh, rfl, eah, th⟩ := z5A tv
     have ey := z8T th
     subst ey
     have c12 := sU.trans s2'
     refine ⟨_, rfl, _, rfl, _, rfl, lh, lr, hs, ws, rows, r, rfl, s2' _ _ eU, g2, by omega, (fun x hx => by have := g2 x hx; omega), c12.seq hR, z09.keep c12 _ _ tl, r12, r0, fun lg zs G3 nlg s3' eg3 tg => ?_⟩
     refine ⟨_, rfl, ah, _, 0, _, rfl, rfl, SqT.of (s3' _ _ eah), rfl, _, rfl, lg, zs, hs, rows, r, _, z, rfl, SqL.of eg3, tg, fun G4 s4' => ?_⟩
     have c14 := s2'.trans (s3'.trans s4')
     have eah4 := s4' _ _ (s3' _ _ eah)
     refine ⟨_, rfl, _, rfl, ah, _, 0, _, rfl, rfl, SqT.of eah4, rfl, _, rfl, ah, _, 1, _, rfl, rfl, SqT.of eah4, rfl, (by show 3 ≤ sizeLine; decide), fun t5 ht5 => ?_⟩
     rw [z7l g2]
     have c15 := c14.trans (z01 ht5 (.tup (z0Q hs rows r z)))
     refine ⟨_, rfl, t5, t, _, _, rfl, rfl, SqT.of z02, SqT.of (c15 _ _ tU), z2l _ _ _ _, z2l _ _ _ _, _, rfl, ?_⟩
     have eah5 := z01 ht5 (.tup (z0Q hs rows r z)) _ _ eah4
     generalize upd G4 t5 (.tup (z0Q hs rows r z)) = G5 at c15 eah5
     by_cases cc : z1W (z0Q hs rows r z) (z0Q (gotL (log.take i) rd) rows r z) = true
     ·rw [cc]
      refine iteF ⟨ys, t, _, _, _, sU.trans c15, c15 _ _ eU, by rw [y1h cc]; exact c15 _ _ tU, c15 _ _ lU, ?_, rfl⟩
      rw [z3U (t := fun j => gotL (log.take j) rd) (by rw [hhs]; exact cc)]
      exact z09.keep c15 _ _ tsU
     ·rw [Bool.eq_false_iff.mpr cc]
      refine iteT ⟨_, rfl, _, rfl, ah, _, 0, _, rfl, rfl, SqT.of eah5, rfl, _, rfl, ah, _, 1, _, rfl, rfl, SqT.of eah5, rfl, (by show 3 ≤ sizeLine; decide), fun t6 ht6 => ?_⟩
      rw [z7l g2]
      have c16 := c15.trans (z01 ht6 (.tup (z0Q hs rows r z)))
      have e6 : upd G5 t6 (.tup (z0Q hs rows r z)) t6 = some (.tup (z0Q hs rows r z)) := z02
      have eah6 := z01 ht6 (.tup (z0Q hs rows r z)) _ _ eah5
      generalize upd G5 t6 (.tup (z0Q hs rows r z)) = G6 at c16 e6 eah6
      refine ⟨_, rfl, .inl ⟨rfl, _, SqL.of (c16 _ _ lU)⟩, _, rfl, _, _, rfl, rfl, _, rfl, _, rfl, ah, _, 0, _, rfl, rfl, SqT.of eah6, rfl, _, rfl, ah, _, 1, _, rfl, rfl, SqT.of eah6, rfl, (by show 4 ≤ sizeLine; decide), fun t7 ht7 => ?_⟩
      have e7 : upd G6 t7 (.tup [V.int (0 + (i : Int) + 1), V.str (z1d hs rows r (z2c (z0T (z0j hs) rows z)) z), .int (z2c (z0T (z0j hs) rows z)), hvV (z0T (z0j hs) rows z)]) t7 = some (.tup (.int (i + 1 : Nat) :: z0Q hs rows r z)) := by
       rw [z02, ei1, <- z7l g2]
      have c17 := c16.trans (z01 ht7 (.tup [V.int (0 + (i : Int) + 1), V.str (z1d hs rows r (z2c (z0T (z0j hs) rows z)) z), .int (z2c (z0T (z0j hs) rows z)), hvV (z0T (z0j hs) rows z)]))
      have e67 := z01 ht7 (.tup [V.int (0 + (i : Int) + 1), V.str (z1d hs rows r (z2c (z0T (z0j hs) rows z)) z), .int (z2c (z0T (z0j hs) rows z)), hvV (z0T (z0j hs) rows z)]) _ _ e6
      refine ⟨ls, ys, _, rfl, rfl, c17 _ _ lU, z0i (by omega), ?_⟩
      have nls6 : t6 ≠ ls := z43 e67 (c17 _ _ lU) (by intro z; cases z)
      refine ⟨_, t6, _, _, _, z2F (sU.trans c17) nls, by rw [z0g nhs]; exact c17 _ _ eU, by rw [z0g nls6]; exact e67, z02, ?_, rfl⟩
      rw [y08 (t := fun j => gotL (log.take j) rd) (by rw [hhs]; exact cc)]
      refine z09.over (c17 _ _ lU) z8H _ _ (z09.snoc (z09.keep c17 _ _ tsU) ?_)
      show Tell _ (z6G (i + 1) (gotL (log.take (i + 1)) rd) rows r z) _
      rw [hhs]
      exact z4C e7
   ·rw [if_neg (fun e => c (Option.some.inj e))] at eg
    rw [decide_eq_false (fun e => c (V.int.inj e))]
    exact iteF (iteF ⟨ys, t, _, _, _, sG, by rw [eg]; exact eh, by rw [eg]; exact et, es, by rw [z3U (by rw [eg]; exact z3b (z2l _ _ _ _))]; exact ts, rfl⟩)
 ·obtain ⟨ys, t, o8, o9, o10, sG, eh, et, es, ts, rfl⟩ := hp
  have en : ((us.length : Nat) : Int).toNat = log.length := by omega
  rw [en] at ts
  have lst := z3j (fun j => gotL (log.take j) rd) rows r z log.length
  refine ⟨_, rfl, ls, _, rfl, .inl ⟨SqL.of es, fun t ht => q _ _ (sG.trans (z01 ht _)) (z0D z02 (by omega) (z09.keep (z01 ht _) _ _ ts))⟩⟩
def y2z (K : PySem.W.Frag) : Sp := fun vs H Q _ => ∃ (a : Addr) (ns : List Int), vs = [.ref a] /\ SqL K H a (ns.map V.int) /\ ns.length ≤ 63 /\ ∀ H', Q (.bl true) H'
theorem z53 {H : Hp} {us : List V} {log : List Deed} (h : Paired (z0V H) us log) (i : Nat) : Paired (z0V H) (us.take i) (log.take i) := by
 induction h generalizing i with
 | nil => rw [List.take_nil, List.take_nil]; exact .nil
 | cons h t ih =>
  cases i with
  | zero => exact .nil
  | succ i => exact .cons h (ih i)
theorem y0w {H : Hp} {us : List V} {log : List Deed} (h : Paired (z0V H) us log) (i : Nat) : Paired (z0V H) (us.drop i) (log.drop i) := by
 induction h generalizing i with
 | nil => rw [List.drop_nil, List.drop_nil]; exact .nil
 | cons h t ih =>
  cases i with
  | zero => exact .cons h t
  | succ i => exact ih i
theorem z5a {k : Int} {log : List Deed} (lk : z39 k log) (m : Nat) : z39 k (log.take m) := fun i d e => by
 by_cases c : i < m
 ·rw [List.getElem?_take_of_lt c] at e
  rw [List.take_take, Nat.min_eq_left (by omega)]
  exact lk i d e
 ·rw [List.getElem?_take_eq_none (by omega)] at e
  cases e
theorem z6T {k : Int} (k1 : 1 ≤ k) : ∀ (qs : List Int) {log : List Deed}, z39 k log -> (∀ n ∈ qs, 1 ≤ n /\ n ≤ (wrN log : Int)) -> z39 k (log ++ dlog qs)
 | [], log, h, _ => by
  show z39 k (log ++ [])
  rw [List.append_nil]
  exact h
 | n :: qs, log, h, hq => by
  have hn := hq n List.mem_cons_self
  have e : log ++ dlog (n :: qs) = (log ++ [(some 1, n)]) ++ dlog qs := by
   rw [List.append_assoc]
   rfl
  have ew : wrN (log ++ [((some 1, n) : Deed)]) = wrN log := by
   rw [z2a]
   rfl
  rw [e]
  exact z6T k1 qs (h.snoc ⟨Int.le_refl 1, k1, hn.1, hn.2⟩) fun m hm => by rw [ew]; exact hq m (List.mem_cons_of_mem _ hm)
theorem z7T {H : Hp} : ∀ {us vs : List V} {a b : List Deed}, Paired (z0V H) us a -> Paired (z0V H) vs b -> Paired (z0V H) (us ++ vs) (a ++ b) := by
 intro us vs a b h1 h2
 induction h1 with
 | nil => exact h2
 | cons h t ih => exact .cons h ih
theorem y4h (xs : List V) (k : Nat) : cutV xs none (some (k : Int)) = xs.take k := by
 by_cases h : k ≤ xs.length
 ·exact z7J h
 ·unfold cutV
  have e1 : HT.sIx xs.length 0 none = 0 := rfl
  have e2 : HT.sIx xs.length xs.length (some (k : Int)) = xs.length := by rw [HT.z5W, Nat.min_eq_right (by omega)]
  rw [e1, e2, List.drop_zero, Nat.sub_zero, List.take_length, List.take_of_length_le (by omega)]
theorem z4M {had : List Int} {rows : List Row} {r : Int} {w : Nat} (h : ∀ n ∈ had, 1 ≤ n /\ n ≤ (w : Int)) (z : Str) : z0Q had (rows.take w) r z = z0Q had rows r z /\ ∀ j, z6G j had (rows.take w) r z = z6G j had rows r z := by
 have hr : ∀ n ∈ z0j had, 1 ≤ n /\ n ≤ (w : Int) := fun n hn => h n (z1E.mp hn).2
 have e1 : z0T (z0j had) (rows.take w) z = z0T (z0j had) rows z := z74 _ hr
 have e2 := y2T (rows := rows) (r := r) hr z
 unfold tabD at e2
 rw [y0o] at e2
 injection e2 with e2
 injection e2 with _ e2
 injection e2 with e2 _
 injection e2 with e2
 unfold z0Q z6G
 exact ⟨by rw [e2, e1], fun j => by rw [e2, e1]⟩
theorem z71 {t : Nat -> List Int} {rows : List Row} {r : Int} {w : Nat} (h : ∀ j, ∀ n ∈ t j, 1 ≤ n /\ n ≤ (w : Int)) (z : Str) : ∀ j, z1R t (rows.take w) r z j = z1R t rows r z j
 | 0 => by
  unfold z1R
  rw [(z4M (h 0) z).2]
 | j + 1 => by
  unfold z1R
  rw [z71 h z j, (z4M (h (j + 1)) z).1, (z4M (h j) z).1, (z4M (h (j + 1)) z).2]
def cutN (half n : Nat) : Nat -> Nat
 | 0 => 0
 | 1 => half
 | _ => n
theorem y4r {nm : List Str} {rows : List Row} (R : Rws nm rows) (h : nm.length ≤ 12) : ∀ w ∈ rows, w.length ≤ 12 := fun w hw => by
 have := (R.sub w hw).length_le
 rw [List.length_map] at this
 omega
theorem y4T (M : Bl mg) (F : Fun K "law" "law" slaw f fd) {CBook : Addr} {Bk : BkP} (O : BkOk CBook ["write", "deliver", "latest", "issue", "deeds", "deed", "shelf"] Bk)
  (G_law_at : Cal P w K mg base 1 "_law_at" ["_law_script", "_law_k"] (spAt K)) (G_law_pick : Cal P w K mg base 1 "_law_pick" ["_law_cell", "_law_size"] z8h) (G_law_had : Cal P w K mg base 2 "_law_had" ["_law_cell", "_law_many"] y4a) (G_law_shuffled : Cal P w K mg base 2 "_law_shuffled" ["_law_row_here", "_law_cell"] (y1a K))
  (G_law_names : Cal P w K mg base 2 "_law_names" ["_law_script"] (z99 K)) (G_law_sets : Cal P w K mg base 2 "_law_sets" ["_law_names_here", "_law_cell", "_law_many"] (y0Q K)) (G_law_valued : Cal P w K mg base 2 "_law_valued" ["_law_sets_here", "_law_cell"] z7K)
  (G_law_same : Cal P w K mg base 5 "_law_same" ["_law_found", "_law_due"] (z8G 5)) (G_law_story : Cal P w K mg base 3 "_law_story" ["_law_name", "_law_log", "_law_reader", "_law_rows", "_law_reach"] (z9o K)) (Ghistory : Cal P w K mg base 8 "history" ["book", "reader", "name"] (y0E Bk))
  (G_law_deeds : Cal P w K mg base 2 "_law_deeds" ["_law_cells", "_law_many", "_law_first", "_law_readers"] (z9j K)) (G_law_play : Cal P w K mg base 9 "_law_play" ["_law_book", "_law_log", "_law_rows"] (z9d K Bk))
  (GBook : Mkr P w K mg base 8 CBook "Book" ["self", "names", "reach", "readers"] (z7g K CBook Bk)) (GBook_deeds : MCal P w K mg base 8 CBook "deeds" ["self"] (z4K Bk)) : FnOk P w K mg base CX0 14 f fd ["_law_script"] (y2z K) := by
 have nd := y4G.nd
 refine F.ok y4G (fun vs H Q E h => ?_) (fun cdv A outer s H vs Q E hr h => ?_)
 ·obtain ⟨a, ns, rfl, _⟩ := h
  rfl
 obtain ⟨a, ns, rfl, hS, h63, q⟩ := h
 refine ⟨_, (z04 (z0m (i := 1) nd rfl (Or.inl rfl) (z0r G_law_names (hr.mono (by omega)) rfl (z00 (pv 0) z03))) (z04 (z0m (i := 2) nd rfl (Or.inl rfl) (z0r G_law_valued (hr.mono (by omega)) rfl (z00 (z0r G_law_sets (hr.mono (by omega)) rfl (z00 (pv 1) (z00 (z0r G_law_at (hr.mono (by omega)) rfl (z00 (pv 0) (z00 z06 z03))) (z00 z06 z03)))) (z00 (z0r G_law_at (hr.mono (by omega)) rfl (z00 (pv 0) (z00 z06 z03))) z03)))) (z04 (z0m (i := 3) nd rfl (Or.inl rfl) (z0r G_law_pick (hr.mono (by omega)) rfl (z00 (z0r G_law_at (hr.mono (by omega)) rfl (z00 (pv 0) (z00 z06 z03))) (z00 z06 z03)))) (z04 (z0m (i := 4) nd rfl (Or.inl rfl) (z0h z0Z z06 (z0r G_law_pick (hr.mono (by omega)) rfl (z00 (z0r G_law_at (hr.mono (by omega)) rfl (z00 (pv 0) (z00 z06 z03))) (z00 z06 z03))))) (z04 (z0m (i := 5) nd rfl (Or.inl rfl) (z0r G_law_deeds (hr.mono (by omega)) rfl (z00 (z1X z4l (pv 0) (z2A z06) z2B) (z00 z06 (z00 (z0r G_law_pick (hr.mono (by omega)) rfl (z00 (z0r G_law_at (hr.mono (by omega)) rfl (z00 (pv 0) (z00 z06 z03))) (z00 z06 z03))) (z00 (pv 4) z03)))))) (y3w (z0R (z08 z2s (z0h z0L (z0r G_law_at (hr.mono (by omega)) rfl (z00 (pv 0) (z00 z06 z03))) z06) z06 (z0l _)) (z04 (z0m (i := 6) nd rfl (Or.inl rfl) (z0r G_law_had (hr.mono (by omega)) rfl (z00 (z0r G_law_at (hr.mono (by omega)) rfl (z00 (pv 0) (z00 z06 z03))) (z00 z06 z03)))) (z04 (z0m (i := 7) nd rfl (Or.inl rfl) (z0E z0U (z1V (z00 (pv 6) (z00 (z0r G_law_shuffled (hr.mono (by omega)) rfl (z00 (pv 6) (z00 (z0r G_law_at (hr.mono (by omega)) rfl (z00 (pv 0) (z00 z06 z03))) z03))) z03))) (z0h z0L (z0h z13 (z0r G_law_at (hr.mono (by omega)) rfl (z00 (pv 0) (z00 z06 z03))) z06) z06) (fun _ _ => rfl))) (z07 (z0m (i := 5) nd rfl (Or.inl rfl) (z0h y3h (z1F ["_law_k"] [] [] rfl (z0y rfl (by decide +kernel) rfl (by decide +kernel) rfl rfl) (z18 rfl M.range (z00 z06 z03)) (fun _ _ _ _ _ => (z0n (i := 0) (show ((["_law_k"] : List PySem.Str) ++ ([] : List PySem.Str)).Nodup from by decide +kernel) rfl (Or.inl rfl))) (z0C (by decide)) z0e (fun _ _ _ _ _ => z2D) (fun _ _ _ _ _ => (z11 (z00 z2b (z00 (z0h z0Z (pv 0) z06) z03))))) (z1F ["_law_number"] [] [] rfl (z0y rfl (by decide +kernel) rfl (by decide +kernel) rfl rfl) (z1Z (pv 7)) (fun _ _ _ _ _ => (z0n (i := 0) (show ((["_law_number"] : List PySem.Str) ++ ([] : List PySem.Str)).Nodup from by decide +kernel) rfl (Or.inl rfl))) (z0C (by decide)) z0e (fun _ _ _ _ _ => z2D) (fun _ _ _ _ _ => (z11 (z00 z2b (z00 z06 (z00 (pv 0) z03))))))))))) z0q) (z04 (z0m (i := 5) nd rfl (Or.inl rfl) (z1X z4l (pv 5) z2B (z2A z06))) (z04 (z0m (i := 8) nd rfl (Or.inl rfl) (y0T GBook (hr.mono (by omega)) rfl (z00 (z0x z3P rfl M.list PyProof.Rows.boot_list (z00 (pv 1) z03)) (z00 (pv 3) (z00 (pv 4) z03))))) (z04 (z0m (i := 9) nd rfl (Or.inl rfl) (z0h z13 (z0f z0a rfl M.len PySem.boot_len (z00 (pv 5) z03)) z06)) (z04 (z1p PassesOwn.never rfl (z18 rfl M.range (z00 z06 z03)) (z0n (i := 10) nd rfl (Or.inl rfl)) (z04 (z0A (z0r G_law_play (hr.mono (by omega)) rfl (z00 (pv 8) (z00 (z0E z0U (z1V (z00 (z1X z4l (pv 5) z2B (z2A (pv 9))) (z00 (z1X z4l (pv 5) (z2A (pv 9)) z2B) z03))) (pv 10) (fun _ _ => rfl)) (z00 (pv 2) z03))))) (z07 (z1p PassesOwn.never rfl (z4s rfl M.range (z00 z06 (z00 (z0h z0Z (pv 4) z06) z03))) (z0n (i := 11) nd rfl (Or.inl rfl)) (z07 (z1p PassesOwn.never rfl (z18 rfl M.range (z00 (z0f (y1x rfl) rfl M.min PyProof.Rows.boot_min (z00 z06 (z00 (z0f z0a rfl M.len PySem.boot_len (z00 (pv 1) z03)) z03))) z03)) (z0n (i := 12) nd rfl (Or.inl rfl)) (z04 (z0m (i := 13) nd rfl (Or.inl rfl) (z0E z0U (pv 1) (z0h z0L (z0h z0Z (pv 12) (z0r G_law_at (hr.mono (by omega)) rfl (z00 (pv 0) (z00 z06 z03)))) (z0f z0a rfl M.len PySem.boot_len (z00 (pv 1) z03))) (fun _ _ => rfl))) (z04 (z0m (i := 14) nd rfl (Or.inl rfl) (z0r G_law_story (hr.mono (by omega)) rfl (z00 (pv 13) (z00 (z1X z4l (pv 5) z2B (z2A (z0h z0Z (pv 9) (z0h z44 (z0f z0a rfl M.len PySem.boot_len (z00 (z1X z4l (pv 5) (z2A (pv 9)) z2B) z03)) (pv 10))))) (z00 (pv 11) (z00 (pv 2) (z00 (pv 3) z03))))))) (z07 (z0R (y0C (z9v (z0r G_law_same (hr.mono (by omega)) rfl (z00 (z0r Ghistory (hr.mono (by omega)) rfl (z00 (pv 8) (z00 (pv 11) (z00 (pv 13) z03)))) (z00 (pv 14) z03))))) (z07 (z0o z80)) z0q)))))))))) (z07 (z0o (z0r G_law_same (hr.mono (by omega)) rfl (z00 (z2G GBook_deeds (hr.mono (by omega)) (pv 8)) (z00 (z0f z0a rfl M.len PySem.boot_len (z00 (pv 5) z03)) z03))))))))))))))), ?_⟩
 refine ⟨_, rfl, a, ns, rfl, hS, fun ln nm H1 nln s1 eN n1 n12 N => ?_⟩
 refine ⟨_, rfl, _, rfl, a, ns, 2, rfl, s1.seq hS, by decide, ln, nm, _, 60, rfl, SqL.of eN, n1, n12, by decide, by decide, fun l0 xs0 ss H2 nl0 s2 e2 st len0 sub0 => ?_⟩
 have s12 := s1.trans s2
 refine ⟨_, rfl, a, ns, 3, rfl, s12.seq hS, by decide, l0, xs0, ss, _, rfl, e2, st, by rw [len0]; decide, fun s hs => Nat.le_trans (sub0 s hs).length_le n12, fun lr us rows H3 nlr s3 eR tl hm hv => ?_⟩
 have r60 : rows.length = 60 := by
  have := congrArg List.length hm
  rw [List.length_map, len0] at this
  exact this
 have R : Rws nm rows := ⟨fun r hr' => sub0 _ (by rw [<- hm]; exact List.mem_map_of_mem hr'), hv⟩
 have s13 := s12.trans s3
 have eN3 := s3 _ _ (s2 _ _ eN)
 clear st hm hv e2
 refine ⟨_, rfl, a, ns, 4, rfl, s13.seq hS, by decide, _, _, rfl, (by decide), fun r r0 r1 => ?_⟩
 refine ⟨_, rfl, a, ns, 5, rfl, s13.seq hS, by decide, _, _, rfl, (by decide), fun rd0 rd1 rd2 => ⟨_, _, rfl, rfl, ?_⟩⟩
 refine ⟨_, rfl, _, rfl, a, _, rfl, s13.seq hS, fun lsl hlsl => ?_⟩
 have ecut : cutV (ns.map V.int) (some (6 : Int)) none = ((ns.drop (HT.sIx (ns.map V.int).length 0 (some 6))).take (HT.sIx (ns.map V.int).length (ns.map V.int).length none - HT.sIx (ns.map V.int).length 0 (some 6))).map V.int := by
  unfold cutV
  rw [List.map_take, List.map_drop]
 rw [ecut]
 generalize (ns.drop (HT.sIx (ns.map V.int).length 0 (some 6))).take (HT.sIx (ns.map V.int).length (ns.map V.int).length none - HT.sIx (ns.map V.int).length 0 (some 6)) = cs
 have s34 := z01 hlsl (.lst (cs.map V.int))
 have eC : upd H3 lsl (.lst (cs.map V.int)) lsl = some (.lst (cs.map V.int)) := z02
 generalize upd H3 lsl (.lst (cs.map V.int)) = H4 at s34 eC
 have s4 := s13.trans s34
 refine ⟨_, rfl, a, ns, 1, rfl, s4.seq hS, by decide, _, _, rfl, (by decide), fun fst f0 f1 => ⟨_, rfl, lsl, cs, fst, 1 + rd0, rfl, SqL.of eC, f0, by omega, by omega, by omega, fun l us' log H5 nl s5 el pl lk l246 => ?_⟩⟩
 have eN5 := s5 _ _ (s34 _ _ eN3)
 have eR5 := s5 _ _ (s34 _ _ eR)
 have tl5 := z09.keep (s34.trans s5) _ _ tl
 have hS5 := (s4.trans s5).seq hS
 have gn : GoodN nm := ⟨n1, n12, N.nd⟩
 have k1 : (1 : Int) ≤ 1 + rd0 /\ 1 + rd0 ≤ 10 := by omega
 clear s34 s4 s13 s12 s1 s2 s3 eC eN3 eN eR tl
 -- another log, or this one
 refine ⟨fun σ' G => ∃ (l2 : Addr) (us2 : List V) (log2 : List Deed) (o6 o7 : Option V), Same H5 G /\ G l2 = some (.lst us2) /\ Paired (z0V G) us2 log2 /\ z39 (1 + rd0) log2 /\ log2.length ≤ 246 /\
  σ' = [some (.ref a), some (.ref ln), some (.ref lr), some (.int r), some (.int (1 + rd0)), some (.ref l2), o6, o7, none, none, none, none, none, none, none], ?_, ?_⟩
 ·refine ⟨_, rfl, a, ns, 8, rfl, hS5, by decide, _, _, rfl, rfl, (by show (0 : Int) < 2; decide), rfl, _, rfl, ite2 (fun c2 => ?_) (fun c2 => ⟨l, us', log, _, _, Same.refl _, el, pl, lk, l246, rfl⟩)⟩
  refine ⟨_, rfl, a, ns, 9, rfl, hS5, by decide, _, 30, rfl, by decide, by decide, fun lh hs H6 nlh s6 e6 rise6 all6 len6 => ?_⟩
  refine ⟨_, rfl, _, rfl, _, rfl, a, ns, 10, rfl, s6.seq hS5, by decide, lh, hs, _, rfl, SqL.of e6, len6, fun lo ts H7 nlo s7 e7 mem7 len7 => ?_⟩
  have s57 := s6.trans s7
  refine ⟨(by show 2 ≤ sizeLine; decide), fun lz hlz => ?_⟩
  have s8 := z01 hlz (.lst [V.ref lh, V.ref lo])
  have e8 : upd H7 lz (.lst [V.ref lh, V.ref lo]) lz = some (.lst [V.ref lh, V.ref lo]) := z02
  generalize upd H7 lz (.lst [V.ref lh, V.ref lo]) = H8 at s8 e8
  have s58 := s57.trans s8
  obtain ⟨lq, qs, atq, eq, memq, lenq⟩ : ∃ (lq : Addr) (qs : List Int), atI [V.ref lh, V.ref lo] (ns.getD (8 : Int).toNat 0 / 2 % 2) = some (V.ref lq) /\ H8 lq = some (.lst (qs.map V.int)) /\ (∀ n ∈ qs, 1 ≤ n /\ n ≤ 30) /\ qs.length ≤ 120 := by
   have h0 := Int.emod_nonneg (ns.getD (8 : Int).toNat 0 / 2) (show (2 : Int) ≠ 0 by decide)
   have h1 := Int.emod_lt_of_pos (ns.getD (8 : Int).toNat 0 / 2) (show (0 : Int) < 2 by decide)
   rcases (show ns.getD (8 : Int).toNat 0 / 2 % 2 = 0 \/ ns.getD (8 : Int).toNat 0 / 2 % 2 = 1 by omega) with e | e
   ·rw [e]
    exact ⟨lh, hs, rfl, s8 _ _ (s7 _ _ e6), all6, by omega⟩
   ·rw [e]
    exact ⟨lo, ts, rfl, s8 _ _ e7, fun n hn => all6 n ((mem7 n).mp hn), len7⟩
  refine ⟨_, rfl, a, ns, 8, rfl, s58.seq hS5, by decide, _, _, rfl, rfl, ⟨by decide, by decide⟩, _, _, rfl, rfl, (by show (0 : Int) < 2; decide), lz, _, _, _, rfl, rfl, SqL.of e8, atq, ?_⟩
  -- the writings, then the gettings
  refine ⟨30, rfl, by decide, by decide, ?_⟩
  refine z50 (lo := 0) (n := (30 : Int).toNat) (fun i ys H' => Same H8 H' /\ Paired (z0V H') ys (z42 i)) ⟨Same.refl _, .nil⟩ (fun i ys H' hi hp => ?_) (fun i ys H' hi hp => ?_) (fun ys H' hp => ?_)
  ·obtain ⟨g, p⟩ := hp
   have := z0I p
   unfold z42 at this
   rw [List.length_map, z0O] at this
   exact z0i (by have : (30 : Int).toNat = 30 := rfl; omega)
  ·obtain ⟨g, p⟩ := hp
   refine ⟨_, rfl, _, _, rfl, rfl, (by show 2 ≤ sizeLine; decide), fun t ht => ⟨g.trans (z01 ht _), ?_⟩⟩
   rw [z57]
   refine Paired.snoc (DeedsAt.keep (z01 ht _) p) ⟨t, rfl, ?_⟩
   rw [z02]
   show some (HO.tup [V.str "write", V.int (0 + (i : Int) + 1)]) = some (HO.tup [V.str "write", V.int (1 + (i : Int))])
   rw [Int.zero_add, Int.add_comm]
  obtain ⟨g, p⟩ := hp
  intro la hla
  have sA := g.trans (z01 hla (.lst ys))
  have eA : upd H' la (.lst ys) la = some (.lst ys) := z02
  have pA := DeedsAt.keep (z01 hla (.lst ys)) p
  generalize upd H' la (.lst ys) = HA at sA eA pA
  have lys : ys.length = 30 := by
   have := z0I p
   unfold z42 at this
   rw [List.length_map, z0O] at this
   exact this
  refine ⟨_, rfl, lq, rfl, ⟨_, SqL.of (sA _ _ eq)⟩, ?_⟩
  refine z3l (xs := qs.map V.int) (fun i zs H' => Same HA H' /\ Paired (z0V H') zs (dlog (qs.take i))) ⟨Same.refl _, .nil⟩ (fun i zs H' hi hp => ?_) (fun i y zs H' hy hp => ?_) (fun zs H' hp => ?_)
  ·obtain ⟨g, p⟩ := hp
   have := z0I p
   unfold dlog at this
   rw [List.length_map, List.length_take] at this
   exact ⟨SqL.of (g _ _ (sA _ _ eq)), z0i (by omega)⟩
  ·obtain ⟨g, p⟩ := hp
   rw [List.getElem?_map] at hy
   obtain ⟨n, en, rfl⟩ := Option.map_eq_some_iff.mp hy
   refine ⟨_, rfl, (by show 3 ≤ sizeLine; decide), fun t ht => ⟨g.trans (z01 ht _), ?_⟩⟩
   rw [z0w en, y0X]
   exact Paired.snoc (DeedsAt.keep (z01 ht _) p) ⟨t, rfl, z02⟩
  obtain ⟨g2, p2⟩ := hp
  rw [List.length_map, List.take_length] at p2
  intro lb hlb
  have lzs : zs.length ≤ 120 := by
   have := z0I p2
   unfold dlog at this
   rw [List.length_map] at this
   omega
  refine ⟨la, lb, _, _, rfl, rfl, z01 hlb _ _ _ (g2 _ _ eA), z02, Nat.le_of_lt (z0i (by omega)), fun lc hlc => ?_⟩
  have sB := (z01 hlb (.lst zs)).trans (z01 hlc (.lst (ys ++ zs)))
  refine ⟨lc, ys ++ zs, z42 (30 : Int).toNat ++ dlog qs, _, _, s58.trans (sA.trans (g2.trans sB)), z02, z7T (DeedsAt.keep (g2.trans sB) pA) (DeedsAt.keep sB p2), ?_, ?_, rfl⟩
  ·obtain ⟨w1, w2⟩ := z7i (1 + rd0) 30 (by decide)
   exact z6T k1.1 qs w1 fun n hn => by show 1 ≤ n /\ n ≤ ((wrN (z42 30) : Nat) : Int); rw [w2]; exact memq n hn
  ·have h1 := z0I pA
   have h2 := z0I p2
   rw [List.length_append, <- h1, <- h2]
   omega
 rintro σ' H6 ⟨l2, us2, log2, o6, o7, s6, e6, p6, lk6, l246', rfl⟩
 have eN6 := s6 _ _ eN5
 have eR6 := s6 _ _ eR5
 have tl6 := z09.keep s6 _ _ tl5
 have hS6 := s6.seq hS5
 clear eN5 eR5 tl5 hS5 s6 s5 el pl lk l246
 -- at most 80 deeds
 refine ⟨_, rfl, _, rfl, l2, _, rfl, SqL.of e6, fun l hl => ?_⟩
 rw [show cutV us2 none (some (80 : Int)) = us2.take 80 from y4h us2 80]
 have s7 := z01 hl (.lst (us2.take 80))
 have el : upd H6 l (.lst (us2.take 80)) l = some (.lst (us2.take 80)) := z02
 generalize upd H6 l (.lst (us2.take 80)) = H7 at s7 el
 have pl : Paired (z0V H7) (us2.take 80) (log2.take 80) := DeedsAt.keep s7 (z53 p6 80)
 have lk := z5a lk6 80
 have l80 : (log2.take 80).length ≤ 80 := by rw [List.length_take]; omega
 generalize us2.take 80 = us' at el pl
 generalize log2.take 80 = log at pl lk l80
 have eN7 := s7 _ _ eN6
 have eR7 := s7 _ _ eR6
 have tl7 := z09.keep s7 _ _ tl6
 have hS7 := s7.seq hS6
 have lu := z0I pl
 clear eN6 eR6 tl6 hS6 e6 p6 lk6 l246' s7
 -- the book
 refine ⟨_, rfl, ln, nm.map V.str, rfl, .inl (SqL.of eN7), fun l1 hl1 => ⟨_, rfl, _, rfl, fun x dx nx ndx ne => ?_⟩⟩
 have mm1 := z68 (C := CBook) (z01 hl1 (.lst (nm.map V.str))) nx ndx
 refine ⟨x, dx, l1, nm, r, 1 + rd0, rfl, z02, ne, by rw [z0g ne, z02], .inl (SqL.of (z8y nx ndx z02)), gn, r0, by omega, k1.1, k1.2, fun fp H8 hfp b8 bk8 => ⟨rfl, ?_⟩⟩
 have s8 : Same H7 H8 := z5H b8 mm1 ((z01 hl1 _).free nx)
 have f8 : ∀ b ∈ fp, H7 b = none := fun b hb => z4P mm1 ((z01 hl1 _).free nx) ((z01 hl1 _).free ndx) (hfp b hb)
 have outf : ∀ {b : Addr} {o : HO}, H7 b = some o -> b ∉ fp := fun e m => by rw [f8 _ m] at e; cases e
 have nt8 : z4m H8 fp := O.noTup bk8
 have el8 := s8 _ _ el
 have eN8 := s8 _ _ eN7
 have eR8 := s8 _ _ eR7
 have tl8 := z09.keep s8 _ _ tl7
 have pl8 := DeedsAt.keep s8 pl
 have knl := outf el
 have knN := outf eN7
 have knR := outf eR7
 have kS : ∀ {G : Hp}, z0v fp H8 G -> SqL K G a (ns.map V.int) := fun {G} bt => by
  rcases hS7 with (h | ⟨o, h⟩) | h
  ·exact .inl (.inl (bt _ _ (s8 _ _ h) (outf h)))
  ·exact .inl (.inr ⟨o, bt _ _ (s8 _ _ h) (outf h)⟩)
  ·exact .inr h
 refine ⟨_, rfl, l, us', rfl, .inl (SqL.of el8), _, _, rfl, rfl, ⟨by decide, by decide⟩, ?_⟩
 obtain ⟨half, eh, hh⟩ : ∃ half : Nat, (us'.length : Int) / 2 = (half : Int) /\ half ≤ us'.length := ⟨us'.length / 2, by omega, by omega⟩
 show y07 9 (V.int ((us'.length : Int) / 2)) _ _ _
 rw [eh]
 clear eh mm1 hfp b8 f8 eN7 eR7 tl7 el pl
 have w60 : ∀ m, wrN (log.take m) ≤ 60 := fun m => wr60 lk m
 have in60 : ∀ y ∈ log, 1 ≤ y.2 /\ y.2 ≤ 60 := fun y hy => by
  have h1 := z9B lk y hy
  have h2 := w60 log.length
  rw [List.take_length] at h2
  omega
 have r12 := y4r R n12
 have R2 : ∀ m, Rws nm (rows.take m) := fun m => ⟨fun w hw => R.sub w (List.mem_of_mem_take hw), fun w hw => R.val w (List.mem_of_mem_take hw)⟩
 have ltk : ∀ m, m ≤ 60 -> (rows.take m).length = m := fun m h => by rw [List.length_take]; omega
 have lnm : (nm.map V.str).length = nm.length := List.length_map _
 refine ⟨2, rfl, by decide, by decide, ?_⟩
 refine z1j (lo := 0) (n := (2 : Int).toNat) (fun i σ G => ∃ (fp' : List Addr) (p10 p11 p12 p13 p14 : Option V), z0v fp H8 G /\ Bk G x fp' nm r (1 + rd0) (rows.take (wrN (log.take (cutN half log.length i)))) (log.take (cutN half log.length i)) /\ (∀ b ∈ fp', b ∈ fp \/ H8 b = none) /\
  σ = [some (.ref a), some (.ref ln), some (.ref lr), some (.int r), some (.int (1 + rd0)), some (.ref l), o6, o7, some (.ref x), some (.int half), p10, p11, p12, p13, p14]) ⟨fp, none, none, none, none, none, .of (Same.refl _), bk8, fun b m => .inl m, rfl⟩ (fun i σ G hi hp => ?_) (fun σ G hp => ?_)
 ·obtain ⟨fp1, p10, p11, p12, p13, p14, bt, bk, ff, rfl⟩ := hp
  have i2 : i < 2 := hi
  have elG := bt _ _ el8 knl
  have eRG := bt _ _ eR8 knR
  have plG : Paired (z0V G) us' log := L2.Paired.mapP pl8 fun u d ⟨b, e, qq⟩ => ⟨b, e, bt _ _ qq fun m => nt8 b m _ qq⟩
  -- the part that comes
  refine ⟨_, rfl, _, rfl, _, rfl, _, rfl, l, _, rfl, SqL.of elG, fun la hla => ?_⟩
  rw [z7J hh]
  have sa := z01 hla (.lst (us'.take half))
  refine ⟨_, rfl, _, rfl, _, rfl, l, _, rfl, SqL.of (sa _ _ elG), fun lb hlb => ?_⟩
  rw [z7V hh]
  have sb := z01 hlb (.lst (us'.drop half))
  refine ⟨(by show 2 ≤ sizeLine; decide), fun lz hlz => ?_⟩
  have sz := z01 hlz (.lst [V.ref la, V.ref lb])
  have ea := sz _ _ (sb _ _ (show upd G la (.lst (us'.take half)) la = _ from z02))
  have eb := sz _ _ (show upd (upd G la (.lst (us'.take half))) lb (.lst (us'.drop half)) lb = _ from z02)
  have ez : upd (upd (upd G la (.lst (us'.take half))) lb (.lst (us'.drop half))) lz (.lst [V.ref la, V.ref lb]) lz = some (.lst [V.ref la, V.ref lb]) := z02
  have sG := sa.trans (sb.trans sz)
  have nla : G la = none := hla
  have nlb : G lb = none := sa.free hlb
  generalize upd (upd (upd G la (.lst (us'.take half))) lb (.lst (us'.drop half))) lz (.lst [V.ref la, V.ref lb]) = G1 at sG ea eb ez sz sb
  obtain ⟨lq, uq, logq, atq, eq, pq, eapp, nq⟩ : ∃ (lq : Addr) (uq : List V) (logq : List Deed), atI [V.ref la, V.ref lb] ((0 : Int) + (i : Int)) = some (V.ref lq) /\ G1 lq = some (.lst uq) /\ Paired (z0V G1) uq logq /\ log.take (cutN half log.length i) ++ logq = log.take (cutN half log.length (i + 1)) /\ G lq = none := by
   match i, i2 with
   | 0, _ => exact ⟨la, _, log.take half, rfl, ea, DeedsAt.keep sG (z53 plG half), rfl, nla⟩
   | 1, _ =>
    refine ⟨lb, _, log.drop half, rfl, eb, DeedsAt.keep sG (y0w plG half), ?_, nlb⟩
    show log.take half ++ log.drop half = log.take log.length
    rw [List.take_append_drop, List.take_length]
  have nqf : lq ∉ fp1 := fun m => by obtain ⟨o, e, _⟩ := O.own bk _ m; rw [nq] at e; cases e
  have nRf : lr ∉ fp1 := fun m => (ff _ m).elim knR fun z => by rw [eR8] at z; cases z
  refine ⟨_, rfl, lz, _, _, _, rfl, rfl, SqL.of ez, atq, _, rfl, x, lq, lr, fp1, nm, r, 1 + rd0, uq, us, _, logq, rows, rfl, O.same bk sG, eq, nqf, pq, by rw [eapp]; exact z5a lk _, by rw [eapp, List.length_take]; omega, sG _ _ eRG, nRf, z09.keep sG _ _ (z09.but bt nt8 _ _ tl8), r60, R, N.nd, n12, fun fp2 G2 ff2 b2 bk2 => ?_⟩
  rw [eapp] at bk2
  have bt2 : z0v fp H8 G2 := fun b o e nb => b2 b o (sG _ _ (bt b o e nb)) fun m => (ff b m).elim nb fun z => by rw [e] at z; cases z
  have ff2' := z8Q bt ff sG ff2
  have elG2 := bt2 _ _ el8 knl
  have eRG2 := bt2 _ _ eR8 knR
  have eNG2 := bt2 _ _ eN8 knN
  have plG2 : Paired (z0V G2) us' log := L2.Paired.mapP pl8 fun u d ⟨b, e, qq⟩ => ⟨b, e, bt2 _ _ qq fun m => nt8 b m _ qq⟩
  have tlG2 : z09 G2 (rows.map rowD) us := z09.but bt2 nt8 _ _ tl8
  have hSG2 := kS bt2
  have ec : (half : Int) + (((us'.drop half).length : Nat) : Int) * (0 + (i : Int)) = ((cutN half log.length (i + 1) : Nat) : Int) := by
   rw [List.length_drop]
   match i, i2 with
   | 0, _ =>
    show (half : Int) + ((us'.length - half : Nat) : Int) * (0 + 0) = (half : Int)
    rw [Int.zero_add, Int.mul_zero, Int.add_zero]
   | 1, _ =>
    show (half : Int) + ((us'.length - half : Nat) : Int) * (0 + 1) = (log.length : Int)
    rw [Int.zero_add, Int.mul_one]
    omega
  have cle : cutN half log.length (i + 1) ≤ us'.length := by
   match i, i2 with
   | 0, _ => exact hh
   | 1, _ =>
    show log.length ≤ _
    omega
  generalize cutN half log.length (i + 1) = cn at bk2 ec cle
  clear atq eq pq nqf nRf nq ea eb ez sa sb sz hla hlb hlz nla nlb bk bt ff plG elG eRG b2 ff2 eapp
  have rwl : (rows.take (wrN (log.take cn))).length = wrN (log.take cn) := ltk _ (w60 cn)
  have ing : ∀ y ∈ log.take cn, 1 ≤ y.2 /\ y.2 ≤ (((rows.take (wrN (log.take cn))).length : Nat) : Int) := fun y hy => by
   rw [rwl]
   exact z9B (z5a lk cn) y hy
  refine ⟨_, rfl, _, _, rfl, rfl, 1, 1 + rd0 + 1, rfl, ⟨by decide, by decide, by omega, by omega⟩, ?_⟩
  refine z1j (lo := 1) (n := (1 + rd0 + 1 - 1).toNat) (fun _ σ G => ∃ (p11 p12 p13 p14 : Option V), Same G2 G /\ σ = [some (.ref a), some (.ref ln), some (.ref lr), some (.int r), some (.int (1 + rd0)), some (.ref l), o6, o7, some (.ref x), some (.int half), some (.int (0 + (i : Int))), p11, p12, p13, p14]) ⟨_, _, _, _, Same.refl _, rfl⟩ (fun j σ G hj hp => ?_) (fun σ G hp => ?_)
  ·obtain ⟨p11, p12, p13, p14, g3, rfl⟩ := hp
   have rdr : 1 ≤ 1 + (j : Int) /\ 1 + (j : Int) ≤ 1 + rd0 := by omega
   generalize 1 + (j : Int) = rd at rdr
   refine ⟨_, rfl, ln, _, rfl, .inl (SqL.of (g3 _ _ eNG2)), _, _, rfl, ?_⟩
   have mn : ∃ mm : Int, (if (((nm.map V.str).length : Nat) : Int) < 3 then (((nm.map V.str).length : Nat) : Int) else 3) = mm /\ 0 ≤ mm /\ mm ≤ 3 := ⟨_, rfl, by split <;> omega, by split <;> omega⟩
   obtain ⟨mm, em, m0, m3⟩ := mn
   rw [em]
   refine ⟨mm, rfl, by omega, by omega, ?_⟩
   refine z1j (lo := 0) (n := mm.toNat) (fun _ σ G => ∃ (p12 p13 p14 : Option V), Same G2 G /\ σ = [some (.ref a), some (.ref ln), some (.ref lr), some (.int r), some (.int (1 + rd0)), some (.ref l), o6, o7, some (.ref x), some (.int half), some (.int (0 + (i : Int))), some (.int rd), p12, p13, p14]) ⟨_, _, _, g3, rfl⟩ (fun k' σ G hk hp => ?_) (fun σ G hp => ?_)
   ·obtain ⟨p12, p13, p14, g4, rfl⟩ := hp
    have md := Int.emod_nonneg ((0 : Int) + (k' : Int) + ns.getD (7 : Int).toNat 0) (show (((nm.map V.str).length : Nat) : Int) ≠ 0 by omega)
    have md2 := Int.emod_lt_of_pos ((0 : Int) + (k' : Int) + ns.getD (7 : Int).toNat 0) (show (0 : Int) < (((nm.map V.str).length : Nat) : Int) by omega)
    obtain ⟨jz, ej, hjz⟩ : ∃ jz : Nat, ((0 : Int) + (k' : Int) + ns.getD (7 : Int).toNat 0) % (((nm.map V.str).length : Nat) : Int) = (jz : Int) /\ jz < nm.length := ⟨(((0 : Int) + (k' : Int) + ns.getD (7 : Int).toNat 0) % (((nm.map V.str).length : Nat) : Int)).toNat, by omega, by omega⟩
    have atz : atI (nm.map V.str) (((0 : Int) + (k' : Int) + ns.getD (7 : Int).toNat 0) % (((nm.map V.str).length : Nat) : Int)) = some (.str nm[jz]) := by
     rw [ej]
     exact z1k (by rw [List.getElem?_map, List.getElem?_eq_getElem hjz]; rfl)
    refine ⟨_, rfl, _, rfl, _, rfl, a, ns, 7, rfl, g4.seq hSG2, by decide, _, _, rfl, rfl, _, rfl, ln, _, rfl, .inl (SqL.of (g4 _ _ eNG2)), _, _, rfl, rfl, (by omega), ln, _, _, _, rfl, rfl, SqL.of (g4 _ _ eNG2), atz, ?_⟩
    have hz : nm[jz] ∈ nm := List.getElem_mem hjz
    generalize nm[jz] = z at hz
    -- the story due
    refine ⟨_, rfl, _, rfl, _, rfl, _, rfl, _, rfl, _, rfl, l, _, rfl, SqL.of (g4 _ _ elG2), fun lb hlb => ?_⟩
    rw [z7V hh]
    have sb := g4.trans (z01 hlb (.lst (us'.drop half)))
    refine ⟨lb, _, rfl, .inl (SqL.of z02), _, rfl, _, _, rfl, rfl, .inl ⟨by omega, by rw [List.length_drop]; omega⟩, _, _, rfl, rfl, _, rfl, l, _, rfl, SqL.of (sb _ _ elG2), fun lq hlq => ?_⟩
    rw [ec, z7J cle]
    have sq := sb.trans (z01 hlq (.lst (us'.take cn)))
    refine ⟨_, rfl, _, rfl, _, rfl, z, lq, lr, rd, r, us'.take cn, us, log.take cn, rows, rfl, z02, DeedsAt.keep sq (z53 plG2 cn), (fun y hy => in60 y (List.mem_of_mem_take hy)), by rw [List.length_take]; omega, SqL.of (sq _ _ eRG2), z09.keep sq _ _ tlG2, r60, r12, r0, fun v G5 s5 tv => ?_⟩
    have g5 := sq.trans s5
    refine ⟨_, rfl, _, rfl, _, rfl, x, z, rd, fp2, nm, r, 1 + rd0, _, _, rfl, O.same bk2 g5, rdr.1, rdr.2, hz, gn, R2 _, by rw [rwl]; exact w60 cn, ing, by rw [List.length_take]; omega, r0, by omega, fun v2 G6 s6 tv2 => ?_⟩
    rw [z71 (fun j n hn => by
     have := ing _ (List.mem_of_mem_take (z7U.mp hn))
     rw [rwl] at this
     exact this)] at tv2
    exact ⟨_, rfl, v2, v, rfl, (z6I _ _ _ tv2 (Tell.keep s6 _ _ tv)).mono (Nat.le_trans (y06 _ _ _ _ _) (by decide)), fun G7 s7 => ⟨_, rfl, iteF ⟨_, _, _, g5.trans (s6.trans s7), rfl⟩⟩⟩
   ·obtain ⟨p12, p13, p14, g4, rfl⟩ := hp
    exact ⟨_, _, _, _, g4, rfl⟩
  ·obtain ⟨p11, p12, p13, p14, g3, rfl⟩ := hp
   exact ⟨fp2, _, _, _, _, _, bt2.then g3, O.same bk2 g3, ff2', rfl⟩
 ·obtain ⟨fp1, p10, p11, p12, p13, p14, bt, bk, ff, rfl⟩ := hp
  have bk' : Bk G x fp1 nm r (1 + rd0) (rows.take (wrN log)) log := by
   have e : log.take (cutN half log.length (2 : Int).toNat) = log := List.take_length
   rw [e] at bk
   exact bk
  obtain ⟨d6, g6, z6, w6⟩ := O.ins bk'
  exact ⟨_, rfl, x, d6, g6, rfl, z6, w6 _ (by simp), x, fp1, nm, r, 1 + rd0, _, _, rfl, bk', _, rfl, l, us', rfl, .inl (SqL.of (bt _ _ el8 knl)), _, _, rfl, .inl ⟨by rw [lu], rfl⟩, fun G7 s7 => q _⟩

end
theorem y4Z {l : PySem.W.OpenLaw} {w : World} {K : PySem.W.Frag} {h : Heap} {mg : Str -> Option Value} {fa : Addr} (X : K.In h) (G : h.Ns mainGlobals mg) (hfa : mg "law" = some (.ref fa))
  {f0 f1 f2 f3 f4 f5 f6 f7 f8 f9 f10 f11 f12 f13 f14 f15 f16 f17 f18 f19 f20 f21 f22 f23 f24 f25 f26 f27 f28 f29 f30 f31 f32 f33 f34 f35 f36 f37 f38 f39 f40 f41 f42 f43 f44 f45 f46 f47 f48 f49 f50 f51 f52 f53 f54 f55 f56 f57 f58 f59 f60 f61 f62 f63 f64 COffice CShelf CBook : Addr} {od0 od1 od2 od3 od4 od5 od6 od7 od8 od9 od10 od11 od12 od13 od14 od15 od16 od17 od18 od19 od20 od21 od22 od23 od24 od25 od26 od27 od28 od29 od30 od31 od32 od33 od34 od35 od36 od37 od38 od39 od40 od41 od42 od43 od44 od45 od46 od47 od48 od49 od50 od51 od52 od53 od54 od55 od56 od57 od58 od59 od60 od61 od62 od63 od64 an0 an1 an2 an3 an4 an5 an6 an7 an8 an9 an10 an11 an12 an13 an14 an15 an16 an17 an18 an19 an20 an21 an22 an23 an24 an25 an26 an27 an28 an29 an30 an31 an32 an33 an34 an35 an36 an37 an38 an39 an40 an41 an42 an43 an44 an45 an46 an47 an48 an49 an50 an51 an52 an53 an54 an55 an56 an57 an58 an59 an60 an61 an62 an63 an64 : Option Addr} {sl0 sl1 sl2 sl3 sl4 sl5 sl6 sl7 sl8 sl9 sl10 sl11 sl12 sl13 sl14 sl15 sl16 sl17 sl18 sl19 sl20 sl21 sl22 sl23 sl24 sl25 sl26 sl27 sl28 sl29 sl30 sl31 sl32 sl33 sl34 sl35 sl36 sl37 sl38 sl39 sl40 sl41 sl42 sl43 sl44 sl45 sl46 sl47 sl48 sl49 sl50 sl51 sl52 sl53 sl54 sl55 sl56 sl57 sl58 sl59 sl60 sl61 sl62 sl63 sl64 : Array (Option Value)} {oc0 oc1 oc2 oc3 oc4 oc5 oc6 oc7 oc8 oc9 oc10 oc11 oc12 oc13 oc14 oc15 oc16 oc17 oc18 oc19 oc20 oc21 oc22 oc23 oc24 oc25 oc26 oc27 oc28 oc29 oc30 oc31 oc32 oc33 oc34 oc35 oc36 oc37 oc38 oc39 oc40 oc41 oc42 oc43 oc44 oc45 oc46 oc47 oc48 oc49 oc50 oc51 oc52 oc53 oc54 oc55 oc56 oc57 oc58 oc59 oc60 oc61 oc62 oc63 oc64 kV0 kV1 kV2 kV3 kV4 kV5 kV6 kV7 kV8 kV9 kV10 kV11 kV12 kV13 kV14 kV15 kV16 kV17 kV18 kV19 kV20 kV21 kV22 kV23 kV24 kV25 kV26 kV27 kV28 kV29 kV30 kV31 kV32 kV33 kV34 kV35 kV36 kV37 kV38 kV39 kV40 kV41 kV42 kV43 kV44 kV45 kV46 kV47 kV48 kV49 kV50 kV51 kV52 kV53 kV54 kV55 kV56 kV57 kV58 kV59 kV60 kV61 kV62 kV63 kV64 dc0 dc1 dc2 dc3 dc4 dc5 dc6 dc7 dc8 dc9 dc10 dc11 dc12 dc13 dc14 dc15 dc16 dc17 dc18 dc19 dc20 dc21 dc22 dc23 dc24 dc25 dc26 dc27 dc28 dc29 dc30 dc31 dc32 dc33 dc34 dc35 dc36 dc37 dc38 dc39 dc40 dc41 dc42 dc43 dc44 dc45 dc46 dc47 dc48 dc49 dc50 dc51 dc52 dc53 dc54 dc55 dc56 dc57 dc58 dc59 dc60 dc61 dc62 dc63 dc64 pm0 pm1 pm2 pm3 pm4 pm5 pm6 pm7 pm8 pm9 pm10 pm11 pm12 pm13 pm14 pm15 pm16 pm17 pm18 pm19 pm20 pm21 pm22 pm23 pm24 pm25 pm26 pm27 pm28 pm29 pm30 pm31 pm32 pm33 pm34 pm35 pm36 pm37 pm38 pm39 pm40 pm41 pm42 pm43 pm44 pm45 pm46 pm47 pm48 pm49 pm50 pm51 pm52 pm53 pm54 pm55 pm56 pm57 pm58 pm59 pm60 pm61 pm62 pm63 pm64 cd0 cd1 cd2 cd3 cd4 cd5 cd6 cd7 cd8 cd9 cd10 cd11 cd12 cd13 cd14 cd15 cd16 cd17 cd18 cd19 cd20 cd21 cd22 cd23 cd24 cd25 cd26 cd27 cd28 cd29 cd30 cd31 cd32 cd33 cd34 cd35 cd36 cd37 cd38 cd39 cd40 cd41 cd42 cd43 cd44 cd45 cd46 cd47 cd48 cd49 cd50 cd51 cd52 cd53 cd54 cd55 cd56 cd57 cd58 cd59 cd60 cd61 cd62 cd63 cd64 ct0 ct1 ct2 ct3 ct4 ct5 ct6 ct7 ct8 ct9 ct10 ct11 ct12 ct13 ct14 ct15 ct16 ct17 ct18 ct19 ct20 ct21 ct22 ct23 ct24 ct25 ct26 ct27 ct28 ct29 ct30 ct31 ct32 ct33 ct34 ct35 ct36 ct37 ct38 ct39 ct40 ct41 ct42 ct43 ct44 ct45 ct46 ct47 ct48 ct49 ct50 ct51 ct52 ct53 ct54 ct55 ct56 ct57 ct58 ct59 ct60 ct61 ct62 ct63 ct64 : Value} {T43 : Addr} {oct43 : Value} {odt43 : Option Addr} {slt43 : Array (Option Value)} {nt43 : Nat} {tMOST_NAMES tMOST_REACH tMOST_NUMBERS tMOST_VALUE tMOST_READERS tMOST_DEEDS tSURE tSTALE tOPEN tWRITE tDELIVER : Tok}
  (aCOffice : PySem.W.nsIn K mainGlobals "Office" = some (some (.ref COffice))) (pgOffice : PySem.W.plainGet K COffice Str.empty = true) (hdOffice : PySem.W.hasDictIn K COffice = true) (poOffice : PySem.W.plainOver K COffice = true) (saOffice : PySem.W.findIn K (.ref COffice) "__setattr__" = some (some (.builtin "object.__setattr__"))) (mkOffice : PySem.W.makesIn K COffice = true) (kcOffice : PySem.W.keepIn K (.ref COffice) = true)
  (nOffice_names : PySem.W.findIn K (.ref COffice) "names" = some none) (nOffice_reach : PySem.W.findIn K (.ref COffice) "reach" = some none) (nOffice_written : PySem.W.findIn K (.ref COffice) "written" = some none)
  (aCShelf : PySem.W.nsIn K mainGlobals "Shelf" = some (some (.ref CShelf))) (pgShelf : PySem.W.plainGet K CShelf Str.empty = true) (hdShelf : PySem.W.hasDictIn K CShelf = true) (poShelf : PySem.W.plainOver K CShelf = true) (saShelf : PySem.W.findIn K (.ref CShelf) "__setattr__" = some (some (.builtin "object.__setattr__"))) (mkShelf : PySem.W.makesIn K CShelf = true) (kcShelf : PySem.W.keepIn K (.ref CShelf) = true)
  (nShelf_names : PySem.W.findIn K (.ref CShelf) "names" = some none) (nShelf_reach : PySem.W.findIn K (.ref CShelf) "reach" = some none) (nShelf_issues : PySem.W.findIn K (.ref CShelf) "issues" = some none)
  (aCBook : PySem.W.nsIn K mainGlobals "Book" = some (some (.ref CBook))) (pgBook : PySem.W.plainGet K CBook Str.empty = true) (hdBook : PySem.W.hasDictIn K CBook = true) (poBook : PySem.W.plainOver K CBook = true) (saBook : PySem.W.findIn K (.ref CBook) "__setattr__" = some (some (.builtin "object.__setattr__"))) (mkBook : PySem.W.makesIn K CBook = true) (kcBook : PySem.W.keepIn K (.ref CBook) = true)
  (nBook_office : PySem.W.findIn K (.ref CBook) "office" = some none) (nBook_readers : PySem.W.findIn K (.ref CBook) "readers" = some none) (nBook_done : PySem.W.findIn K (.ref CBook) "done" = some none)
  (a0 : PySem.W.nsIn K mainGlobals "lacking_numbers" = some (some (.ref f0)))
  (l0 : K.lookup f0 = some ⟨oc0, od0, .func (PySem.W.fnOf "lacking_numbers" "lacking_numbers" (z0c z1a) (z0b z1a) (z05 z1a) .none kV0 dc0 pm0 an0 cd0 ct0), sl0⟩) (c0 : PySem.W.codeIn K cd0 "lacking_numbers" = true) (k0 : PySem.W.keepIn K (.ref f0) = true)
  (a1 : PySem.W.nsIn K mainGlobals "reached_by" = some (some (.ref f1)))
  (l1 : K.lookup f1 = some ⟨oc1, od1, .func (PySem.W.fnOf "reached_by" "reached_by" (z0c z2j) (z0b z2j) (z05 z2j) .none kV1 dc1 pm1 an1 cd1 ct1), sl1⟩) (c1 : PySem.W.codeIn K cd1 "reached_by" = true) (k1 : PySem.W.keepIn K (.ref f1) = true)
  (a2 : PySem.W.nsIn K mainGlobals "teller_of" = some (some (.ref f2)))
  (l2 : K.lookup f2 = some ⟨oc2, od2, .func (PySem.W.fnOf "teller_of" "teller_of" (z0c z2Q) (z0b z2Q) (z05 z2Q) .none kV2 dc2 pm2 an2 cd2 ct2), sl2⟩) (c2 : PySem.W.codeIn K cd2 "teller_of" = true) (k2 : PySem.W.keepIn K (.ref f2) = true)
  (a3 : PySem.W.nsIn K mainGlobals "lacking_with_tellers" = some (some (.ref f3)))
  (l3 : K.lookup f3 = some ⟨oc3, od3, .func (PySem.W.fnOf "lacking_with_tellers" "lacking_with_tellers" (z0c z0J) (z0b z0J) (z05 z0J) .none kV3 dc3 pm3 an3 cd3 ct3), sl3⟩) (c3 : PySem.W.codeIn K cd3 "lacking_with_tellers" = true) (k3 : PySem.W.keepIn K (.ref f3) = true)
  (a4 : PySem.W.nsIn K mainGlobals "dark_numbers" = some (some (.ref f4)))
  (l4 : K.lookup f4 = some ⟨oc4, od4, .func (PySem.W.fnOf "dark_numbers" "dark_numbers" (z0c z1K) (z0b z1K) (z05 z1K) .none kV4 dc4 pm4 an4 cd4 ct4), sl4⟩) (c4 : PySem.W.codeIn K cd4 "dark_numbers" = true) (k4 : PySem.W.keepIn K (.ref f4) = true)
  (a5 : PySem.W.nsIn K mainGlobals "dark_numbers_behind" = some (some (.ref f5)))
  (l5 : K.lookup f5 = some ⟨oc5, od5, .func (PySem.W.fnOf "dark_numbers_behind" "dark_numbers_behind" (z0c z0P) (z0b z0P) (z05 z0P) .none kV5 dc5 pm5 an5 cd5 ct5), sl5⟩) (c5 : PySem.W.codeIn K cd5 "dark_numbers_behind" = true) (k5 : PySem.W.keepIn K (.ref f5) = true)
  (a6 : PySem.W.nsIn K mainGlobals "refuse_bad_names" = some (some (.ref f6)))
  (l6 : K.lookup f6 = some ⟨oc6, od6, .func (PySem.W.fnOf "refuse_bad_names" "refuse_bad_names" (z0c z15) (z0b z15) (z05 z15) .none kV6 dc6 pm6 an6 cd6 ct6), sl6⟩) (c6 : PySem.W.codeIn K cd6 "refuse_bad_names" = true) (k6 : PySem.W.keepIn K (.ref f6) = true)
  (a7 : PySem.W.nsIn K mainGlobals "refuse_bad_reach" = some (some (.ref f7)))
  (l7 : K.lookup f7 = some ⟨oc7, od7, .func (PySem.W.fnOf "refuse_bad_reach" "refuse_bad_reach" (z0c z17) (z0b z17) (z05 z17) .none kV7 dc7 pm7 an7 cd7 ct7), sl7⟩) (c7 : PySem.W.codeIn K cd7 "refuse_bad_reach" = true) (k7 : PySem.W.keepIn K (.ref f7) = true)
  (a8 : PySem.W.nsIn K mainGlobals "bulletin_names" = some (some (.ref f8)))
  (l8 : K.lookup f8 = some ⟨oc8, od8, .func (PySem.W.fnOf "bulletin_names" "bulletin_names" (z0c z1n) (z0b z1n) (z05 z1n) .none kV8 dc8 pm8 an8 cd8 ct8), sl8⟩) (c8 : PySem.W.codeIn K cd8 "bulletin_names" = true) (k8 : PySem.W.keepIn K (.ref f8) = true)
  (a9 : PySem.W.nsIn K mainGlobals "refuse_unknown_name" = some (some (.ref f9)))
  (l9 : K.lookup f9 = some ⟨oc9, od9, .func (PySem.W.fnOf "refuse_unknown_name" "refuse_unknown_name" (z0c z0N) (z0b z0N) (z05 z0N) .none kV9 dc9 pm9 an9 cd9 ct9), sl9⟩) (c9 : PySem.W.codeIn K cd9 "refuse_unknown_name" = true) (k9 : PySem.W.keepIn K (.ref f9) = true)
  (a10 : PySem.W.nsIn K mainGlobals "held_for" = some (some (.ref f10)))
  (l10 : K.lookup f10 = some ⟨oc10, od10, .func (PySem.W.fnOf "held_for" "held_for" (z0c z3e) (z0b z3e) (z05 z3e) .none kV10 dc10 pm10 an10 cd10 ct10), sl10⟩) (c10 : PySem.W.codeIn K cd10 "held_for" = true) (k10 : PySem.W.keepIn K (.ref f10) = true)
  (a11 : PySem.W.nsIn K mainGlobals "names_told_of" = some (some (.ref f11)))
  (l11 : K.lookup f11 = some ⟨oc11, od11, .func (PySem.W.fnOf "names_told_of" "names_told_of" (z0c z1w) (z0b z1w) (z05 z1w) .none kV11 dc11 pm11 an11 cd11 ct11), sl11⟩) (c11 : PySem.W.codeIn K cd11 "names_told_of" = true) (k11 : PySem.W.keepIn K (.ref f11) = true)
  (a12 : PySem.W.nsIn K mainGlobals "gaps_of" = some (some (.ref f12)))
  (l12 : K.lookup f12 = some ⟨oc12, od12, .func (PySem.W.fnOf "gaps_of" "gaps_of" (z0c z3Z) (z0b z3Z) (z05 z3Z) .none kV12 dc12 pm12 an12 cd12 ct12), sl12⟩) (c12 : PySem.W.codeIn K cd12 "gaps_of" = true) (k12 : PySem.W.keepIn K (.ref f12) = true)
  (a13 : PySem.W.nsIn K mainGlobals "set_again" = some (some (.ref f13)))
  (l13 : K.lookup f13 = some ⟨oc13, od13, .func (PySem.W.fnOf "set_again" "set_again" (z0c z2S) (z0b z2S) (z05 z2S) .none kV13 dc13 pm13 an13 cd13 ct13), sl13⟩) (c13 : PySem.W.codeIn K cd13 "set_again" = true) (k13 : PySem.W.keepIn K (.ref f13) = true)
  (a14 : PySem.W.nsIn K mainGlobals "state_of" = some (some (.ref f14)))
  (l14 : K.lookup f14 = some ⟨oc14, od14, .func (PySem.W.fnOf "state_of" "state_of" (z0c z3k) (z0b z3k) (z05 z3k) .none kV14 dc14 pm14 an14 cd14 ct14), sl14⟩) (c14 : PySem.W.codeIn K cd14 "state_of" = true) (k14 : PySem.W.keepIn K (.ref f14) = true)
  (a15 : PySem.W.nsIn K mainGlobals "state_and_held" = some (some (.ref f15)))
  (l15 : K.lookup f15 = some ⟨oc15, od15, .func (PySem.W.fnOf "state_and_held" "state_and_held" (z0c z1m) (z0b z1m) (z05 z1m) .none kV15 dc15 pm15 an15 cd15 ct15), sl15⟩) (c15 : PySem.W.codeIn K cd15 "state_and_held" = true) (k15 : PySem.W.keepIn K (.ref f15) = true)
  (a16 : PySem.W.nsIn K mainGlobals "history" = some (some (.ref f16)))
  (l16 : K.lookup f16 = some ⟨oc16, od16, .func (PySem.W.fnOf "history" "history" (z0c z3V) (z0b z3V) (z05 z3V) .none kV16 dc16 pm16 an16 cd16 ct16), sl16⟩) (c16 : PySem.W.codeIn K cd16 "history" = true) (k16 : PySem.W.keepIn K (.ref f16) = true)
  (a17 : PySem.W.nsIn K mainGlobals "tail_for" = some (some (.ref f17)))
  (l17 : K.lookup f17 = some ⟨oc17, od17, .func (PySem.W.fnOf "tail_for" "tail_for" (z0c z3g) (z0b z3g) (z05 z3g) .none kV17 dc17 pm17 an17 cd17 ct17), sl17⟩) (c17 : PySem.W.codeIn K cd17 "tail_for" = true) (k17 : PySem.W.keepIn K (.ref f17) = true)
  (a18 : PySem.W.nsIn K mainGlobals "refuse_bad_value" = some (some (.ref f18)))
  (l18 : K.lookup f18 = some ⟨oc18, od18, .func (PySem.W.fnOf "refuse_bad_value" "refuse_bad_value" (z0c z16) (z0b z16) (z05 z16) .none kV18 dc18 pm18 an18 cd18 ct18), sl18⟩) (c18 : PySem.W.codeIn K cd18 "refuse_bad_value" = true) (k18 : PySem.W.keepIn K (.ref f18) = true)
  (a19 : PySem.W.nsIn K mainGlobals "refuse_bad_rows" = some (some (.ref f19)))
  (l19 : K.lookup f19 = some ⟨oc19, od19, .func (PySem.W.fnOf "refuse_bad_rows" "refuse_bad_rows" (z0c z1b) (z0b z1b) (z05 z1b) .none kV19 dc19 pm19 an19 cd19 ct19), sl19⟩) (c19 : PySem.W.codeIn K cd19 "refuse_bad_rows" = true) (k19 : PySem.W.keepIn K (.ref f19) = true)
  (a20 : PySem.W.nsIn K mainGlobals "rows_in_order" = some (some (.ref f20)))
  (l20 : K.lookup f20 = some ⟨oc20, od20, .func (PySem.W.fnOf "rows_in_order" "rows_in_order" (z0c z1q) (z0b z1q) (z05 z1q) .none kV20 dc20 pm20 an20 cd20 ct20), sl20⟩) (c20 : PySem.W.codeIn K cd20 "rows_in_order" = true) (k20 : PySem.W.keepIn K (.ref f20) = true)
  (a21 : PySem.W.nsIn K mainGlobals "names_of_rows" = some (some (.ref f21)))
  (l21 : K.lookup f21 = some ⟨oc21, od21, .func (PySem.W.fnOf "names_of_rows" "names_of_rows" (z0c z1r) (z0b z1r) (z05 z1r) .none kV21 dc21 pm21 an21 cd21 ct21), sl21⟩) (c21 : PySem.W.codeIn K cd21 "names_of_rows" = true) (k21 : PySem.W.keepIn K (.ref f21) = true)
  (a22 : PySem.W.findIn K (.ref COffice) "__init__" = some (some (.ref f22))) (i22 : PySem.W.isFn K (.ref f22) = true)
  (l22 : K.lookup f22 = some ⟨oc22, od22, .func (PySem.W.fnOf "__init__" "Office.__init__" (z0c z1c) (z0b z1c) (z05 z1c) .none kV22 dc22 pm22 an22 cd22 ct22), sl22⟩) (c22 : PySem.W.codeIn K cd22 "Office.__init__" = true) (k22 : PySem.W.keepIn K (.ref f22) = true)
  (a23 : PySem.W.findIn K (.ref COffice) "refuse_writing" = some (some (.ref f23))) (i23 : PySem.W.isFn K (.ref f23) = true)
  (l23 : K.lookup f23 = some ⟨oc23, od23, .func (PySem.W.fnOf "refuse_writing" "Office.refuse_writing" (z0c z0G) (z0b z0G) (z05 z0G) .none kV23 dc23 pm23 an23 cd23 ct23), sl23⟩) (c23 : PySem.W.codeIn K cd23 "Office.refuse_writing" = true) (k23 : PySem.W.keepIn K (.ref f23) = true)
  (a24 : PySem.W.findIn K (.ref COffice) "write" = some (some (.ref f24))) (i24 : PySem.W.isFn K (.ref f24) = true)
  (l24 : K.lookup f24 = some ⟨oc24, od24, .func (PySem.W.fnOf "write" "Office.write" (z0c z1P) (z0b z1P) (z05 z1P) .none kV24 dc24 pm24 an24 cd24 ct24), sl24⟩) (c24 : PySem.W.codeIn K cd24 "Office.write" = true) (k24 : PySem.W.keepIn K (.ref f24) = true)
  (a25 : PySem.W.findIn K (.ref COffice) "latest" = some (some (.ref f25))) (i25 : PySem.W.isFn K (.ref f25) = true)
  (l25 : K.lookup f25 = some ⟨oc25, od25, .func (PySem.W.fnOf "latest" "Office.latest" (z0c z1t) (z0b z1t) (z05 z1t) .none kV25 dc25 pm25 an25 cd25 ct25), sl25⟩) (c25 : PySem.W.codeIn K cd25 "Office.latest" = true) (k25 : PySem.W.keepIn K (.ref f25) = true)
  (a26 : PySem.W.findIn K (.ref COffice) "issue" = some (some (.ref f26))) (i26 : PySem.W.isFn K (.ref f26) = true)
  (l26 : K.lookup f26 = some ⟨oc26, od26, .func (PySem.W.fnOf "issue" "Office.issue" (z0c z1N) (z0b z1N) (z05 z1N) .none kV26 dc26 pm26 an26 cd26 ct26), sl26⟩) (c26 : PySem.W.codeIn K cd26 "Office.issue" = true) (k26 : PySem.W.keepIn K (.ref f26) = true)
  (a27 : PySem.W.findIn K (.ref CShelf) "__init__" = some (some (.ref f27))) (i27 : PySem.W.isFn K (.ref f27) = true)
  (l27 : K.lookup f27 = some ⟨oc27, od27, .func (PySem.W.fnOf "__init__" "Shelf.__init__" (z0c z1l) (z0b z1l) (z05 z1l) .none kV27 dc27 pm27 an27 cd27 ct27), sl27⟩) (c27 : PySem.W.codeIn K cd27 "Shelf.__init__" = true) (k27 : PySem.W.keepIn K (.ref f27) = true)
  (a28 : PySem.W.findIn K (.ref CShelf) "put" = some (some (.ref f28))) (i28 : PySem.W.isFn K (.ref f28) = true)
  (l28 : K.lookup f28 = some ⟨oc28, od28, .func (PySem.W.fnOf "put" "Shelf.put" (z0c z2N) (z0b z2N) (z05 z2N) .none kV28 dc28 pm28 an28 cd28 ct28), sl28⟩) (c28 : PySem.W.codeIn K cd28 "Shelf.put" = true) (k28 : PySem.W.keepIn K (.ref f28) = true)
  (a29 : PySem.W.findIn K (.ref CShelf) "had" = some (some (.ref f29))) (i29 : PySem.W.isFn K (.ref f29) = true)
  (l29 : K.lookup f29 = some ⟨oc29, od29, .func (PySem.W.fnOf "had" "Shelf.had" (z0c z2J) (z0b z2J) (z05 z2J) .none kV29 dc29 pm29 an29 cd29 ct29), sl29⟩) (c29 : PySem.W.codeIn K cd29 "Shelf.had" = true) (k29 : PySem.W.keepIn K (.ref f29) = true)
  (a30 : PySem.W.findIn K (.ref CShelf) "latest" = some (some (.ref f30))) (i30 : PySem.W.isFn K (.ref f30) = true)
  (l30 : K.lookup f30 = some ⟨oc30, od30, .func (PySem.W.fnOf "latest" "Shelf.latest" (z0c z1O) (z0b z1O) (z05 z1O) .none kV30 dc30 pm30 an30 cd30 ct30), sl30⟩) (c30 : PySem.W.codeIn K cd30 "Shelf.latest" = true) (k30 : PySem.W.keepIn K (.ref f30) = true)
  (a31 : PySem.W.findIn K (.ref CShelf) "rows_of" = some (some (.ref f31))) (i31 : PySem.W.isFn K (.ref f31) = true)
  (l31 : K.lookup f31 = some ⟨oc31, od31, .func (PySem.W.fnOf "rows_of" "Shelf.rows_of" (z0c z1u) (z0b z1u) (z05 z1u) .none kV31 dc31 pm31 an31 cd31 ct31), sl31⟩) (c31 : PySem.W.codeIn K cd31 "Shelf.rows_of" = true) (k31 : PySem.W.keepIn K (.ref f31) = true)
  (a32 : PySem.W.findIn K (.ref CShelf) "tail_of" = some (some (.ref f32))) (i32 : PySem.W.isFn K (.ref f32) = true)
  (l32 : K.lookup f32 = some ⟨oc32, od32, .func (PySem.W.fnOf "tail_of" "Shelf.tail_of" (z0c z1s) (z0b z1s) (z05 z1s) .none kV32 dc32 pm32 an32 cd32 ct32), sl32⟩) (c32 : PySem.W.codeIn K cd32 "Shelf.tail_of" = true) (k32 : PySem.W.keepIn K (.ref f32) = true)
  (a33 : PySem.W.nsIn K mainGlobals "refuse_bad_readers" = some (some (.ref f33)))
  (l33 : K.lookup f33 = some ⟨oc33, od33, .func (PySem.W.fnOf "refuse_bad_readers" "refuse_bad_readers" (z0c z0X) (z0b z0X) (z05 z0X) .none kV33 dc33 pm33 an33 cd33 ct33), sl33⟩) (c33 : PySem.W.codeIn K cd33 "refuse_bad_readers" = true) (k33 : PySem.W.keepIn K (.ref f33) = true)
  (a34 : PySem.W.findIn K (.ref CBook) "__init__" = some (some (.ref f34))) (i34 : PySem.W.isFn K (.ref f34) = true)
  (l34 : K.lookup f34 = some ⟨oc34, od34, .func (PySem.W.fnOf "__init__" "Book.__init__" (z0c z1v) (z0b z1v) (z05 z1v) .none kV34 dc34 pm34 an34 cd34 ct34), sl34⟩) (c34 : PySem.W.codeIn K cd34 "Book.__init__" = true) (k34 : PySem.W.keepIn K (.ref f34) = true)
  (a35 : PySem.W.findIn K (.ref CBook) "refuse_unknown_reader" = some (some (.ref f35))) (i35 : PySem.W.isFn K (.ref f35) = true)
  (l35 : K.lookup f35 = some ⟨oc35, od35, .func (PySem.W.fnOf "refuse_unknown_reader" "Book.refuse_unknown_reader" (z0c z0z) (z0b z0z) (z05 z0z) .none kV35 dc35 pm35 an35 cd35 ct35), sl35⟩) (c35 : PySem.W.codeIn K cd35 "Book.refuse_unknown_reader" = true) (k35 : PySem.W.keepIn K (.ref f35) = true)
  (a36 : PySem.W.findIn K (.ref CBook) "refuse_further_deed" = some (some (.ref f36))) (i36 : PySem.W.isFn K (.ref f36) = true)
  (l36 : K.lookup f36 = some ⟨oc36, od36, .func (PySem.W.fnOf "refuse_further_deed" "Book.refuse_further_deed" (z0c z0B) (z0b z0B) (z05 z0B) .none kV36 dc36 pm36 an36 cd36 ct36), sl36⟩) (c36 : PySem.W.codeIn K cd36 "Book.refuse_further_deed" = true) (k36 : PySem.W.keepIn K (.ref f36) = true)
  (a37 : PySem.W.findIn K (.ref CBook) "write" = some (some (.ref f37))) (i37 : PySem.W.isFn K (.ref f37) = true)
  (l37 : K.lookup f37 = some ⟨oc37, od37, .func (PySem.W.fnOf "write" "Book.write" (z0c z2h) (z0b z2h) (z05 z2h) .none kV37 dc37 pm37 an37 cd37 ct37), sl37⟩) (c37 : PySem.W.codeIn K cd37 "Book.write" = true) (k37 : PySem.W.keepIn K (.ref f37) = true)
  (a38 : PySem.W.findIn K (.ref CBook) "deliver" = some (some (.ref f38))) (i38 : PySem.W.isFn K (.ref f38) = true)
  (l38 : K.lookup f38 = some ⟨oc38, od38, .func (PySem.W.fnOf "deliver" "Book.deliver" (z0c z1L) (z0b z1L) (z05 z1L) .none kV38 dc38 pm38 an38 cd38 ct38), sl38⟩) (c38 : PySem.W.codeIn K cd38 "Book.deliver" = true) (k38 : PySem.W.keepIn K (.ref f38) = true)
  (a39 : PySem.W.findIn K (.ref CBook) "latest" = some (some (.ref f39))) (i39 : PySem.W.isFn K (.ref f39) = true)
  (l39 : K.lookup f39 = some ⟨oc39, od39, .func (PySem.W.fnOf "latest" "Book.latest" (z0c z24) (z0b z24) (z05 z24) .none kV39 dc39 pm39 an39 cd39 ct39), sl39⟩) (c39 : PySem.W.codeIn K cd39 "Book.latest" = true) (k39 : PySem.W.keepIn K (.ref f39) = true)
  (a40 : PySem.W.findIn K (.ref CBook) "issue" = some (some (.ref f40))) (i40 : PySem.W.isFn K (.ref f40) = true)
  (l40 : K.lookup f40 = some ⟨oc40, od40, .func (PySem.W.fnOf "issue" "Book.issue" (z0c z2o) (z0b z2o) (z05 z2o) .none kV40 dc40 pm40 an40 cd40 ct40), sl40⟩) (c40 : PySem.W.codeIn K cd40 "Book.issue" = true) (k40 : PySem.W.keepIn K (.ref f40) = true)
  (a41 : PySem.W.findIn K (.ref CBook) "deeds" = some (some (.ref f41))) (i41 : PySem.W.isFn K (.ref f41) = true)
  (l41 : K.lookup f41 = some ⟨oc41, od41, .func (PySem.W.fnOf "deeds" "Book.deeds" (z0c z2k) (z0b z2k) (z05 z2k) .none kV41 dc41 pm41 an41 cd41 ct41), sl41⟩) (c41 : PySem.W.codeIn K cd41 "Book.deeds" = true) (k41 : PySem.W.keepIn K (.ref f41) = true)
  (a42 : PySem.W.findIn K (.ref CBook) "deed" = some (some (.ref f42))) (i42 : PySem.W.isFn K (.ref f42) = true)
  (l42 : K.lookup f42 = some ⟨oc42, od42, .func (PySem.W.fnOf "deed" "Book.deed" (z0c z2I) (z0b z2I) (z05 z2I) .none kV42 dc42 pm42 an42 cd42 ct42), sl42⟩) (c42 : PySem.W.codeIn K cd42 "Book.deed" = true) (k42 : PySem.W.keepIn K (.ref f42) = true)
  (a43 : PySem.W.findIn K (.ref CBook) "shelf" = some (some (.ref f43))) (i43 : PySem.W.isFn K (.ref f43) = true)
  (l43 : K.lookup f43 = some ⟨oc43, od43, .func (PySem.W.fnOf "shelf" "Book.shelf" (z0c z2g) (z0b z2g) (z05 z2g) (.ref T43) kV43 dc43 pm43 an43 cd43 ct43), sl43⟩) (c43 : PySem.W.codeIn K cd43 "Book.shelf" = true) (k43 : PySem.W.keepIn K (.ref f43) = true)
  (a44 : PySem.W.nsIn K mainGlobals "_law_at" = some (some (.ref f44)))
  (l44 : K.lookup f44 = some ⟨oc44, od44, .func (PySem.W.fnOf "_law_at" "_law_at" (z0c z3X) (z0b z3X) (z05 z3X) .none kV44 dc44 pm44 an44 cd44 ct44), sl44⟩) (c44 : PySem.W.codeIn K cd44 "_law_at" = true) (k44 : PySem.W.keepIn K (.ref f44) = true)
  (a45 : PySem.W.nsIn K mainGlobals "_law_pick" = some (some (.ref f45)))
  (l45 : K.lookup f45 = some ⟨oc45, od45, .func (PySem.W.fnOf "_law_pick" "_law_pick" (z0c z2O) (z0b z2O) (z05 z2O) .none kV45 dc45 pm45 an45 cd45 ct45), sl45⟩) (c45 : PySem.W.codeIn K cd45 "_law_pick" = true) (k45 : PySem.W.keepIn K (.ref f45) = true)
  (a46 : PySem.W.nsIn K mainGlobals "_law_row" = some (some (.ref f46)))
  (l46 : K.lookup f46 = some ⟨oc46, od46, .func (PySem.W.fnOf "_law_row" "_law_row" (z0c z3o) (z0b z3o) (z05 z3o) .none kV46 dc46 pm46 an46 cd46 ct46), sl46⟩) (c46 : PySem.W.codeIn K cd46 "_law_row" = true) (k46 : PySem.W.keepIn K (.ref f46) = true)
  (a47 : PySem.W.nsIn K mainGlobals "_law_same" = some (some (.ref f47)))
  (l47 : K.lookup f47 = some ⟨oc47, od47, .func (PySem.W.fnOf "_law_same" "_law_same" (z0c z2n) (z0b z2n) (z05 z2n) .none kV47 dc47 pm47 an47 cd47 ct47), sl47⟩) (c47 : PySem.W.codeIn K cd47 "_law_same" = true) (k47 : PySem.W.keepIn K (.ref f47) = true)
  (a48 : PySem.W.nsIn K mainGlobals "_law_named" = some (some (.ref f48)))
  (l48 : K.lookup f48 = some ⟨oc48, od48, .func (PySem.W.fnOf "_law_named" "_law_named" (z0c z2t) (z0b z2t) (z05 z2t) .none kV48 dc48 pm48 an48 cd48 ct48), sl48⟩) (c48 : PySem.W.codeIn K cd48 "_law_named" = true) (k48 : PySem.W.keepIn K (.ref f48) = true)
  (a49 : PySem.W.nsIn K mainGlobals "_law_doubled" = some (some (.ref f49)))
  (l49 : K.lookup f49 = some ⟨oc49, od49, .func (PySem.W.fnOf "_law_doubled" "_law_doubled" (z0c z1J) (z0b z1J) (z05 z1J) .none kV49 dc49 pm49 an49 cd49 ct49), sl49⟩) (c49 : PySem.W.codeIn K cd49 "_law_doubled" = true) (k49 : PySem.W.keepIn K (.ref f49) = true)
  (a50 : PySem.W.nsIn K mainGlobals "_law_sets" = some (some (.ref f50)))
  (l50 : K.lookup f50 = some ⟨oc50, od50, .func (PySem.W.fnOf "_law_sets" "_law_sets" (z0c z2L) (z0b z2L) (z05 z2L) .none kV50 dc50 pm50 an50 cd50 ct50), sl50⟩) (c50 : PySem.W.codeIn K cd50 "_law_sets" = true) (k50 : PySem.W.keepIn K (.ref f50) = true)
  (a51 : PySem.W.nsIn K mainGlobals "_law_value" = some (some (.ref f51)))
  (l51 : K.lookup f51 = some ⟨oc51, od51, .func (PySem.W.fnOf "_law_value" "_law_value" (z0c z2m) (z0b z2m) (z05 z2m) .none kV51 dc51 pm51 an51 cd51 ct51), sl51⟩) (c51 : PySem.W.codeIn K cd51 "_law_value" = true) (k51 : PySem.W.keepIn K (.ref f51) = true)
  (a52 : PySem.W.nsIn K mainGlobals "_law_valued" = some (some (.ref f52)))
  (l52 : K.lookup f52 = some ⟨oc52, od52, .func (PySem.W.fnOf "_law_valued" "_law_valued" (z0c z23) (z0b z23) (z05 z23) .none kV52 dc52 pm52 an52 cd52 ct52), sl52⟩) (c52 : PySem.W.codeIn K cd52 "_law_valued" = true) (k52 : PySem.W.keepIn K (.ref f52) = true)
  (a53 : PySem.W.nsIn K mainGlobals "_law_had" = some (some (.ref f53)))
  (l53 : K.lookup f53 = some ⟨oc53, od53, .func (PySem.W.fnOf "_law_had" "_law_had" (z0c z3h) (z0b z3h) (z05 z3h) .none kV53 dc53 pm53 an53 cd53 ct53), sl53⟩) (c53 : PySem.W.codeIn K cd53 "_law_had" = true) (k53 : PySem.W.keepIn K (.ref f53) = true)
  (a54 : PySem.W.nsIn K mainGlobals "_law_shuffled" = some (some (.ref f54)))
  (l54 : K.lookup f54 = some ⟨oc54, od54, .func (PySem.W.fnOf "_law_shuffled" "_law_shuffled" (z0c z1x) (z0b z1x) (z05 z1x) .none kV54 dc54 pm54 an54 cd54 ct54), sl54⟩) (c54 : PySem.W.codeIn K cd54 "_law_shuffled" = true) (k54 : PySem.W.keepIn K (.ref f54) = true)
  (a55 : PySem.W.nsIn K mainGlobals "_law_teller" = some (some (.ref f55)))
  (l55 : K.lookup f55 = some ⟨oc55, od55, .func (PySem.W.fnOf "_law_teller" "_law_teller" (z0c z22) (z0b z22) (z05 z22) .none kV55 dc55 pm55 an55 cd55 ct55), sl55⟩) (c55 : PySem.W.codeIn K cd55 "_law_teller" = true) (k55 : PySem.W.keepIn K (.ref f55) = true)
  (a56 : PySem.W.nsIn K mainGlobals "_law_gaps" = some (some (.ref f56)))
  (l56 : K.lookup f56 = some ⟨oc56, od56, .func (PySem.W.fnOf "_law_gaps" "_law_gaps" (z0c z2H) (z0b z2H) (z05 z2H) .none kV56 dc56 pm56 an56 cd56 ct56), sl56⟩) (c56 : PySem.W.codeIn K cd56 "_law_gaps" = true) (k56 : PySem.W.keepIn K (.ref f56) = true)
  (a57 : PySem.W.nsIn K mainGlobals "_law_held" = some (some (.ref f57)))
  (l57 : K.lookup f57 = some ⟨oc57, od57, .func (PySem.W.fnOf "_law_held" "_law_held" (z0c z2K) (z0b z2K) (z05 z2K) .none kV57 dc57 pm57 an57 cd57 ct57), sl57⟩) (c57 : PySem.W.codeIn K cd57 "_law_held" = true) (k57 : PySem.W.keepIn K (.ref f57) = true)
  (a58 : PySem.W.nsIn K mainGlobals "_law_again" = some (some (.ref f58)))
  (l58 : K.lookup f58 = some ⟨oc58, od58, .func (PySem.W.fnOf "_law_again" "_law_again" (z0c z2f) (z0b z2f) (z05 z2f) .none kV58 dc58 pm58 an58 cd58 ct58), sl58⟩) (c58 : PySem.W.codeIn K cd58 "_law_again" = true) (k58 : PySem.W.keepIn K (.ref f58) = true)
  (a59 : PySem.W.nsIn K mainGlobals "_law_state" = some (some (.ref f59)))
  (l59 : K.lookup f59 = some ⟨oc59, od59, .func (PySem.W.fnOf "_law_state" "_law_state" (z0c z2q) (z0b z2q) (z05 z2q) .none kV59 dc59 pm59 an59 cd59 ct59), sl59⟩) (c59 : PySem.W.codeIn K cd59 "_law_state" = true) (k59 : PySem.W.keepIn K (.ref f59) = true)
  (a60 : PySem.W.nsIn K mainGlobals "_law_names" = some (some (.ref f60)))
  (l60 : K.lookup f60 = some ⟨oc60, od60, .func (PySem.W.fnOf "_law_names" "_law_names" (z0c z2i) (z0b z2i) (z05 z2i) .none kV60 dc60 pm60 an60 cd60 ct60), sl60⟩) (c60 : PySem.W.codeIn K cd60 "_law_names" = true) (k60 : PySem.W.keepIn K (.ref f60) = true)
  (a61 : PySem.W.nsIn K mainGlobals "_law_deeds" = some (some (.ref f61)))
  (l61 : K.lookup f61 = some ⟨oc61, od61, .func (PySem.W.fnOf "_law_deeds" "_law_deeds" (z0c z2p) (z0b z2p) (z05 z2p) .none kV61 dc61 pm61 an61 cd61 ct61), sl61⟩) (c61 : PySem.W.codeIn K cd61 "_law_deeds" = true) (k61 : PySem.W.keepIn K (.ref f61) = true)
  (a62 : PySem.W.nsIn K mainGlobals "_law_play" = some (some (.ref f62)))
  (l62 : K.lookup f62 = some ⟨oc62, od62, .func (PySem.W.fnOf "_law_play" "_law_play" (z0c z2M) (z0b z2M) (z05 z2M) .none kV62 dc62 pm62 an62 cd62 ct62), sl62⟩) (c62 : PySem.W.codeIn K cd62 "_law_play" = true) (k62 : PySem.W.keepIn K (.ref f62) = true)
  (a63 : PySem.W.nsIn K mainGlobals "_law_story" = some (some (.ref f63)))
  (l63 : K.lookup f63 = some ⟨oc63, od63, .func (PySem.W.fnOf "_law_story" "_law_story" (z0c z2r) (z0b z2r) (z05 z2r) .none kV63 dc63 pm63 an63 cd63 ct63), sl63⟩) (c63 : PySem.W.codeIn K cd63 "_law_story" = true) (k63 : PySem.W.keepIn K (.ref f63) = true)
  (a64 : PySem.W.nsIn K mainGlobals "law" = some (some (.ref f64)))
  (l64 : K.lookup f64 = some ⟨oc64, od64, .func (PySem.W.fnOf "law" "law" (z0c slaw) (z0b slaw) (z05 slaw) .none kV64 dc64 pm64 an64 cd64 ct64), sl64⟩) (c64 : PySem.W.codeIn K cd64 "law" = true) (k64 : PySem.W.keepIn K (.ref f64) = true)
  (d43 : K.lookup T43 = some ⟨oct43, odt43, .seq #[Value.none] nt43, slt43⟩)
  (zlen : PySem.W.nsIn K mainGlobals "len" = some none) (zrange : PySem.W.nsIn K mainGlobals "range" = some none) (ztuple : PySem.W.nsIn K mainGlobals "tuple" = some none) (zlist : PySem.W.nsIn K mainGlobals "list" = some none) (zmax : PySem.W.nsIn K mainGlobals "max" = some none) (zmin : PySem.W.nsIn K mainGlobals "min" = some none) (zsorted : PySem.W.nsIn K mainGlobals "sorted" = some none) (zisinstance : PySem.W.nsIn K mainGlobals "isinstance" = some none) (zbool : PySem.W.nsIn K mainGlobals "bool" = some none) (zint : PySem.W.nsIn K mainGlobals "int" = some none) (zstr : PySem.W.nsIn K mainGlobals "str" = some none) (zset : PySem.W.nsIn K mainGlobals "set" = some none) (zreversed : PySem.W.nsIn K mainGlobals "reversed" = some none) (zdict : PySem.W.nsIn K mainGlobals "dict" = some none) (vMOST_NAMES : PySem.W.nsIn K mainGlobals "MOST_NAMES" = some (some (.int 12 tMOST_NAMES))) (vMOST_REACH : PySem.W.nsIn K mainGlobals "MOST_REACH" = some (some (.int 10 tMOST_REACH))) (vMOST_NUMBERS : PySem.W.nsIn K mainGlobals "MOST_NUMBERS" = some (some (.int 60 tMOST_NUMBERS))) (vMOST_VALUE : PySem.W.nsIn K mainGlobals "MOST_VALUE" = some (some (.int 1000000 tMOST_VALUE))) (vMOST_READERS : PySem.W.nsIn K mainGlobals "MOST_READERS" = some (some (.int 10 tMOST_READERS))) (vMOST_DEEDS : PySem.W.nsIn K mainGlobals "MOST_DEEDS" = some (some (.int 400 tMOST_DEEDS))) (vSURE : PySem.W.nsIn K mainGlobals "SURE" = some (some (.str "sure" tSURE))) (vSTALE : PySem.W.nsIn K mainGlobals "STALE" = some (some (.str "stale" tSTALE))) (vOPEN : PySem.W.nsIn K mainGlobals "OPEN" = some (some (.str "open" tOPEN))) (vWRITE : PySem.W.nsIn K mainGlobals "WRITE" = some (some (.str "write" tWRITE))) (vDELIVER : PySem.W.nsIn K mainGlobals "DELIVER" = some (some (.str "deliver" tDELIVER))) :
  ∃ fd : FuncData, (∀ (s : Shared) (v : Value), BindsTo s fd ⟨[v], []⟩ [("_law_script", v)]) /\ ∀ base : Heap, K.In base -> base.Ns mainGlobals mg -> FnOk l.prog w K mg base CX0 14 fa fd ["_law_script"] (y2z K) := by
 have M : Bl mg := ⟨PySem.W.mg_none_of X G zlen, PySem.W.mg_none_of X G zrange, PySem.W.mg_none_of X G ztuple, PySem.W.mg_none_of X G zlist, PySem.W.mg_none_of X G zmax, PySem.W.mg_none_of X G zmin, PySem.W.mg_none_of X G zsorted, PySem.W.mg_none_of X G zisinstance, PySem.W.mg_none_of X G zbool, PySem.W.mg_none_of X G zint, PySem.W.mg_none_of X G zstr, PySem.W.mg_none_of X G zset, PySem.W.mg_none_of X G zreversed, PySem.W.mg_none_of X G zdict, ⟨_, PySem.W.mg_of X G vMOST_NAMES⟩, ⟨_, PySem.W.mg_of X G vMOST_REACH⟩, ⟨_, PySem.W.mg_of X G vMOST_NUMBERS⟩, ⟨_, PySem.W.mg_of X G vMOST_VALUE⟩, ⟨_, PySem.W.mg_of X G vMOST_READERS⟩, ⟨_, PySem.W.mg_of X G vMOST_DEEDS⟩, ⟨_, PySem.W.mg_of X G vSURE⟩, ⟨_, PySem.W.mg_of X G vSTALE⟩, ⟨_, PySem.W.mg_of X G vOPEN⟩, ⟨_, PySem.W.mg_of X G vWRITE⟩, ⟨_, PySem.W.mg_of X G vDELIVER⟩⟩
 have TOffice : TxOffice K mg COffice := ⟨⟨pgOffice, hdOffice, poOffice, saOffice⟩, PySem.W.mg_of X G aCOffice, nOffice_names, nOffice_reach, nOffice_written⟩
 have TShelf : TxShelf K mg CShelf := ⟨⟨pgShelf, hdShelf, poShelf, saShelf⟩, PySem.W.mg_of X G aCShelf, nShelf_names, nShelf_reach, nShelf_issues⟩
 have TBook : TxBook K mg CBook := ⟨⟨pgBook, hdBook, poBook, saBook⟩, PySem.W.mg_of X G aCBook, nBook_office, nBook_readers, nBook_done⟩
 have Flacking_numbers := z0t (st := z1a) l0 c0 k0
 have Blacking_numbers := Flacking_numbers.binds (ps := ["had"]) fun _ _ _ _ _ _ us hl => len1 (p := fun us => bindArgs _ ⟨us, []⟩ = pure (List.zip _ us)) hl fun _ => rfl
 have Nlacking_numbers := PySem.W.mg_of X G a0
 have Freached_by := z0t (st := z2j) l1 c1 k1
 have Breached_by := Freached_by.binds (ps := ["number", "reach"]) fun _ _ _ _ _ _ us hl => len2 (p := fun us => bindArgs _ ⟨us, []⟩ = pure (List.zip _ us)) hl fun _ _ => rfl
 have Nreached_by := PySem.W.mg_of X G a1
 have Fteller_of := z0t (st := z2Q) l2 c2 k2
 have Bteller_of := Fteller_of.binds (ps := ["had", "number", "reach"]) fun _ _ _ _ _ _ us hl => len3 (p := fun us => bindArgs _ ⟨us, []⟩ = pure (List.zip _ us)) hl fun _ _ _ => rfl
 have Nteller_of := PySem.W.mg_of X G a2
 have Flacking_with_tellers := z0t (st := z0J) l3 c3 k3
 have Blacking_with_tellers := Flacking_with_tellers.binds (ps := ["had", "reach"]) fun _ _ _ _ _ _ us hl => len2 (p := fun us => bindArgs _ ⟨us, []⟩ = pure (List.zip _ us)) hl fun _ _ => rfl
 have Nlacking_with_tellers := PySem.W.mg_of X G a3
 have Fdark_numbers := z0t (st := z1K) l4 c4 k4
 have Bdark_numbers := Fdark_numbers.binds (ps := ["had", "reach"]) fun _ _ _ _ _ _ us hl => len2 (p := fun us => bindArgs _ ⟨us, []⟩ = pure (List.zip _ us)) hl fun _ _ => rfl
 have Ndark_numbers := PySem.W.mg_of X G a4
 have Fdark_numbers_behind := z0t (st := z0P) l5 c5 k5
 have Bdark_numbers_behind := Fdark_numbers_behind.binds (ps := ["had", "reach", "behind"]) fun _ _ _ _ _ _ us hl => len3 (p := fun us => bindArgs _ ⟨us, []⟩ = pure (List.zip _ us)) hl fun _ _ _ => rfl
 have Ndark_numbers_behind := PySem.W.mg_of X G a5
 have Frefuse_bad_names := z0t (st := z15) l6 c6 k6
 have Brefuse_bad_names := Frefuse_bad_names.binds (ps := ["names"]) fun _ _ _ _ _ _ us hl => len1 (p := fun us => bindArgs _ ⟨us, []⟩ = pure (List.zip _ us)) hl fun _ => rfl
 have Nrefuse_bad_names := PySem.W.mg_of X G a6
 have Frefuse_bad_reach := z0t (st := z17) l7 c7 k7
 have Brefuse_bad_reach := Frefuse_bad_reach.binds (ps := ["reach"]) fun _ _ _ _ _ _ us hl => len1 (p := fun us => bindArgs _ ⟨us, []⟩ = pure (List.zip _ us)) hl fun _ => rfl
 have Nrefuse_bad_reach := PySem.W.mg_of X G a7
 have Fbulletin_names := z0t (st := z1n) l8 c8 k8
 have Bbulletin_names := Fbulletin_names.binds (ps := ["names", "reach"]) fun _ _ _ _ _ _ us hl => len2 (p := fun us => bindArgs _ ⟨us, []⟩ = pure (List.zip _ us)) hl fun _ _ => rfl
 have Nbulletin_names := PySem.W.mg_of X G a8
 have Frefuse_unknown_name := z0t (st := z0N) l9 c9 k9
 have Brefuse_unknown_name := Frefuse_unknown_name.binds (ps := ["names", "name"]) fun _ _ _ _ _ _ us hl => len2 (p := fun us => bindArgs _ ⟨us, []⟩ = pure (List.zip _ us)) hl fun _ _ => rfl
 have Nrefuse_unknown_name := PySem.W.mg_of X G a9
 have Fheld_for := z0t (st := z3e) l10 c10 k10
 have Bheld_for := Fheld_for.binds (ps := ["shelf", "name"]) fun _ _ _ _ _ _ us hl => len2 (p := fun us => bindArgs _ ⟨us, []⟩ = pure (List.zip _ us)) hl fun _ _ => rfl
 have Nheld_for := PySem.W.mg_of X G a10
 have Fnames_told_of := z0t (st := z1w) l11 c11 k11
 have Bnames_told_of := Fnames_told_of.binds (ps := ["shelf", "number", "teller"]) fun _ _ _ _ _ _ us hl => len3 (p := fun us => bindArgs _ ⟨us, []⟩ = pure (List.zip _ us)) hl fun _ _ _ => rfl
 have Nnames_told_of := PySem.W.mg_of X G a11
 have Fgaps_of := z0t (st := z3Z) l12 c12 k12
 have Bgaps_of := Fgaps_of.binds (ps := ["shelf"]) fun _ _ _ _ _ _ us hl => len1 (p := fun us => bindArgs _ ⟨us, []⟩ = pure (List.zip _ us)) hl fun _ => rfl
 have Ngaps_of := PySem.W.mg_of X G a12
 have Fset_again := z0t (st := z2S) l13 c13 k13
 have Bset_again := Fset_again.binds (ps := ["shelf", "name"]) fun _ _ _ _ _ _ us hl => len2 (p := fun us => bindArgs _ ⟨us, []⟩ = pure (List.zip _ us)) hl fun _ _ => rfl
 have Nset_again := PySem.W.mg_of X G a13
 have Fstate_of := z0t (st := z3k) l14 c14 k14
 have Bstate_of := Fstate_of.binds (ps := ["shelf", "name"]) fun _ _ _ _ _ _ us hl => len2 (p := fun us => bindArgs _ ⟨us, []⟩ = pure (List.zip _ us)) hl fun _ _ => rfl
 have Nstate_of := PySem.W.mg_of X G a14
 have Fstate_and_held := z0t (st := z1m) l15 c15 k15
 have Bstate_and_held := Fstate_and_held.binds (ps := ["shelf", "name"]) fun _ _ _ _ _ _ us hl => len2 (p := fun us => bindArgs _ ⟨us, []⟩ = pure (List.zip _ us)) hl fun _ _ => rfl
 have Nstate_and_held := PySem.W.mg_of X G a15
 have Fhistory := z0t (st := z3V) l16 c16 k16
 have Bhistory := Fhistory.binds (ps := ["book", "reader", "name"]) fun _ _ _ _ _ _ us hl => len3 (p := fun us => bindArgs _ ⟨us, []⟩ = pure (List.zip _ us)) hl fun _ _ _ => rfl
 have Nhistory := PySem.W.mg_of X G a16
 have Ftail_for := z0t (st := z3g) l17 c17 k17
 have Btail_for := Ftail_for.binds (ps := ["sets", "reach"]) fun _ _ _ _ _ _ us hl => len2 (p := fun us => bindArgs _ ⟨us, []⟩ = pure (List.zip _ us)) hl fun _ _ => rfl
 have Ntail_for := PySem.W.mg_of X G a17
 have Frefuse_bad_value := z0t (st := z16) l18 c18 k18
 have Brefuse_bad_value := Frefuse_bad_value.binds (ps := ["value"]) fun _ _ _ _ _ _ us hl => len1 (p := fun us => bindArgs _ ⟨us, []⟩ = pure (List.zip _ us)) hl fun _ => rfl
 have Nrefuse_bad_value := PySem.W.mg_of X G a18
 have Frefuse_bad_rows := z0t (st := z1b) l19 c19 k19
 have Brefuse_bad_rows := Frefuse_bad_rows.binds (ps := ["names", "rows"]) fun _ _ _ _ _ _ us hl => len2 (p := fun us => bindArgs _ ⟨us, []⟩ = pure (List.zip _ us)) hl fun _ _ => rfl
 have Nrefuse_bad_rows := PySem.W.mg_of X G a19
 have Frows_in_order := z0t (st := z1q) l20 c20 k20
 have Brows_in_order := Frows_in_order.binds (ps := ["names", "rows"]) fun _ _ _ _ _ _ us hl => len2 (p := fun us => bindArgs _ ⟨us, []⟩ = pure (List.zip _ us)) hl fun _ _ => rfl
 have Nrows_in_order := PySem.W.mg_of X G a20
 have Fnames_of_rows := z0t (st := z1r) l21 c21 k21
 have Bnames_of_rows := Fnames_of_rows.binds (ps := ["rows"]) fun _ _ _ _ _ _ us hl => len1 (p := fun us => bindArgs _ ⟨us, []⟩ = pure (List.zip _ us)) hl fun _ => rfl
 have Nnames_of_rows := PySem.W.mg_of X G a21
 have FOffice___init__ := z0t (st := z1c) l22 c22 k22
 have BOffice___init__ := FOffice___init__.binds (ps := ["self", "names", "reach"]) fun _ _ _ _ _ _ us hl => len3 (p := fun us => bindArgs _ ⟨us, []⟩ = pure (List.zip _ us)) hl fun _ _ _ => rfl
 have MOffice___init__ : Mk K COffice f22 := ⟨mkOffice, a22, i22, kcOffice⟩
 have FOffice_refuse_writing := z0t (st := z0G) l23 c23 k23
 have BOffice_refuse_writing := FOffice_refuse_writing.binds (ps := ["self", "rows"]) fun _ _ _ _ _ _ us hl => len2 (p := fun us => bindArgs _ ⟨us, []⟩ = pure (List.zip _ us)) hl fun _ _ => rfl
 have MOffice_refuse_writing : Meth K COffice "refuse_writing" f23 := ⟨a23, i23, k23⟩
 have FOffice_write := z0t (st := z1P) l24 c24 k24
 have BOffice_write := FOffice_write.binds (ps := ["self", "rows"]) fun _ _ _ _ _ _ us hl => len2 (p := fun us => bindArgs _ ⟨us, []⟩ = pure (List.zip _ us)) hl fun _ _ => rfl
 have MOffice_write : Meth K COffice "write" f24 := ⟨a24, i24, k24⟩
 have FOffice_latest := z0t (st := z1t) l25 c25 k25
 have BOffice_latest := FOffice_latest.binds (ps := ["self"]) fun _ _ _ _ _ _ us hl => len1 (p := fun us => bindArgs _ ⟨us, []⟩ = pure (List.zip _ us)) hl fun _ => rfl
 have MOffice_latest : Meth K COffice "latest" f25 := ⟨a25, i25, k25⟩
 have FOffice_issue := z0t (st := z1N) l26 c26 k26
 have BOffice_issue := FOffice_issue.binds (ps := ["self", "number"]) fun _ _ _ _ _ _ us hl => len2 (p := fun us => bindArgs _ ⟨us, []⟩ = pure (List.zip _ us)) hl fun _ _ => rfl
 have MOffice_issue : Meth K COffice "issue" f26 := ⟨a26, i26, k26⟩
 have FShelf___init__ := z0t (st := z1l) l27 c27 k27
 have BShelf___init__ := FShelf___init__.binds (ps := ["self", "names", "reach"]) fun _ _ _ _ _ _ us hl => len3 (p := fun us => bindArgs _ ⟨us, []⟩ = pure (List.zip _ us)) hl fun _ _ _ => rfl
 have MShelf___init__ : Mk K CShelf f27 := ⟨mkShelf, a27, i27, kcShelf⟩
 have FShelf_put := z0t (st := z2N) l28 c28 k28
 have BShelf_put := FShelf_put.binds (ps := ["self", "issue"]) fun _ _ _ _ _ _ us hl => len2 (p := fun us => bindArgs _ ⟨us, []⟩ = pure (List.zip _ us)) hl fun _ _ => rfl
 have MShelf_put : Meth K CShelf "put" f28 := ⟨a28, i28, k28⟩
 have FShelf_had := z0t (st := z2J) l29 c29 k29
 have BShelf_had := FShelf_had.binds (ps := ["self"]) fun _ _ _ _ _ _ us hl => len1 (p := fun us => bindArgs _ ⟨us, []⟩ = pure (List.zip _ us)) hl fun _ => rfl
 have MShelf_had : Meth K CShelf "had" f29 := ⟨a29, i29, k29⟩
 have FShelf_latest := z0t (st := z1O) l30 c30 k30
 have BShelf_latest := FShelf_latest.binds (ps := ["self"]) fun _ _ _ _ _ _ us hl => len1 (p := fun us => bindArgs _ ⟨us, []⟩ = pure (List.zip _ us)) hl fun _ => rfl
 have MShelf_latest : Meth K CShelf "latest" f30 := ⟨a30, i30, k30⟩
 have FShelf_rows_of := z0t (st := z1u) l31 c31 k31
 have BShelf_rows_of := FShelf_rows_of.binds (ps := ["self", "number"]) fun _ _ _ _ _ _ us hl => len2 (p := fun us => bindArgs _ ⟨us, []⟩ = pure (List.zip _ us)) hl fun _ _ => rfl
 have MShelf_rows_of : Meth K CShelf "rows_of" f31 := ⟨a31, i31, k31⟩
 have FShelf_tail_of := z0t (st := z1s) l32 c32 k32
 have BShelf_tail_of := FShelf_tail_of.binds (ps := ["self", "number"]) fun _ _ _ _ _ _ us hl => len2 (p := fun us => bindArgs _ ⟨us, []⟩ = pure (List.zip _ us)) hl fun _ _ => rfl
 have MShelf_tail_of : Meth K CShelf "tail_of" f32 := ⟨a32, i32, k32⟩
 have Frefuse_bad_readers := z0t (st := z0X) l33 c33 k33
 have Brefuse_bad_readers := Frefuse_bad_readers.binds (ps := ["readers"]) fun _ _ _ _ _ _ us hl => len1 (p := fun us => bindArgs _ ⟨us, []⟩ = pure (List.zip _ us)) hl fun _ => rfl
 have Nrefuse_bad_readers := PySem.W.mg_of X G a33
 have FBook___init__ := z0t (st := z1v) l34 c34 k34
 have BBook___init__ := FBook___init__.binds (ps := ["self", "names", "reach", "readers"]) fun _ _ _ _ _ _ us hl => len4 (p := fun us => bindArgs _ ⟨us, []⟩ = pure (List.zip _ us)) hl fun _ _ _ _ => rfl
 have MBook___init__ : Mk K CBook f34 := ⟨mkBook, a34, i34, kcBook⟩
 have FBook_refuse_unknown_reader := z0t (st := z0z) l35 c35 k35
 have BBook_refuse_unknown_reader := FBook_refuse_unknown_reader.binds (ps := ["self", "reader"]) fun _ _ _ _ _ _ us hl => len2 (p := fun us => bindArgs _ ⟨us, []⟩ = pure (List.zip _ us)) hl fun _ _ => rfl
 have MBook_refuse_unknown_reader : Meth K CBook "refuse_unknown_reader" f35 := ⟨a35, i35, k35⟩
 have FBook_refuse_further_deed := z0t (st := z0B) l36 c36 k36
 have BBook_refuse_further_deed := FBook_refuse_further_deed.binds (ps := ["self"]) fun _ _ _ _ _ _ us hl => len1 (p := fun us => bindArgs _ ⟨us, []⟩ = pure (List.zip _ us)) hl fun _ => rfl
 have MBook_refuse_further_deed : Meth K CBook "refuse_further_deed" f36 := ⟨a36, i36, k36⟩
 have FBook_write := z0t (st := z2h) l37 c37 k37
 have BBook_write := FBook_write.binds (ps := ["self", "rows"]) fun _ _ _ _ _ _ us hl => len2 (p := fun us => bindArgs _ ⟨us, []⟩ = pure (List.zip _ us)) hl fun _ _ => rfl
 have MBook_write : Meth K CBook "write" f37 := ⟨a37, i37, k37⟩
 have FBook_deliver := z0t (st := z1L) l38 c38 k38
 have BBook_deliver := FBook_deliver.binds (ps := ["self", "reader", "number"]) fun _ _ _ _ _ _ us hl => len3 (p := fun us => bindArgs _ ⟨us, []⟩ = pure (List.zip _ us)) hl fun _ _ _ => rfl
 have MBook_deliver : Meth K CBook "deliver" f38 := ⟨a38, i38, k38⟩
 have FBook_latest := z0t (st := z24) l39 c39 k39
 have BBook_latest := FBook_latest.binds (ps := ["self"]) fun _ _ _ _ _ _ us hl => len1 (p := fun us => bindArgs _ ⟨us, []⟩ = pure (List.zip _ us)) hl fun _ => rfl
 have MBook_latest : Meth K CBook "latest" f39 := ⟨a39, i39, k39⟩
 have FBook_issue := z0t (st := z2o) l40 c40 k40
 have BBook_issue := FBook_issue.binds (ps := ["self", "number"]) fun _ _ _ _ _ _ us hl => len2 (p := fun us => bindArgs _ ⟨us, []⟩ = pure (List.zip _ us)) hl fun _ _ => rfl
 have MBook_issue : Meth K CBook "issue" f40 := ⟨a40, i40, k40⟩
 have FBook_deeds := z0t (st := z2k) l41 c41 k41
 have BBook_deeds := FBook_deeds.binds (ps := ["self"]) fun _ _ _ _ _ _ us hl => len1 (p := fun us => bindArgs _ ⟨us, []⟩ = pure (List.zip _ us)) hl fun _ => rfl
 have MBook_deeds : Meth K CBook "deeds" f41 := ⟨a41, i41, k41⟩
 have FBook_deed := z0t (st := z2I) l42 c42 k42
 have BBook_deed := FBook_deed.binds (ps := ["self", "which"]) fun _ _ _ _ _ _ us hl => len2 (p := fun us => bindArgs _ ⟨us, []⟩ = pure (List.zip _ us)) hl fun _ _ => rfl
 have MBook_deed : Meth K CBook "deed" f42 := ⟨a42, i42, k42⟩
 have FBook_shelf := y3C (st := z2g) l43 d43 c43 k43
 have BBook_shelf := FBook_shelf.binds (ps := ["self", "reader", "deed"]) (ds := []) fun _ _ _ _ _ _ us hl => len3 (p := fun us => ∃ k, bindArgs _ ⟨us, []⟩ = seqItems? _ >>= k /\ k (some _) = pure (List.zip _ (us ++ []))) hl fun _ _ _ => ⟨_, rfl, rfl⟩
 have BBook_shelfD := FBook_shelf.binds (ps := ["self", "reader", "deed"]) (ds := [Value.none]) fun _ _ _ _ _ _ us hl => len2 (p := fun us => ∃ k, bindArgs _ ⟨us, []⟩ = seqItems? _ >>= k /\ k (some _) = pure (List.zip _ (us ++ [Value.none]))) (Nat.succ.inj (hl)) fun _ _ => ⟨_, rfl, rfl⟩
 have MBook_shelf : Meth K CBook "shelf" f43 := ⟨a43, i43, k43⟩
 have F_law_at := z0t (st := z3X) l44 c44 k44
 have B_law_at := F_law_at.binds (ps := ["_law_script", "_law_k"]) fun _ _ _ _ _ _ us hl => len2 (p := fun us => bindArgs _ ⟨us, []⟩ = pure (List.zip _ us)) hl fun _ _ => rfl
 have N_law_at := PySem.W.mg_of X G a44
 have F_law_pick := z0t (st := z2O) l45 c45 k45
 have B_law_pick := F_law_pick.binds (ps := ["_law_cell", "_law_size"]) fun _ _ _ _ _ _ us hl => len2 (p := fun us => bindArgs _ ⟨us, []⟩ = pure (List.zip _ us)) hl fun _ _ => rfl
 have N_law_pick := PySem.W.mg_of X G a45
 have F_law_row := z0t (st := z3o) l46 c46 k46
 have B_law_row := F_law_row.binds (ps := ["_law_cell", "_law_many", "_law_size"]) fun _ _ _ _ _ _ us hl => len3 (p := fun us => bindArgs _ ⟨us, []⟩ = pure (List.zip _ us)) hl fun _ _ _ => rfl
 have N_law_row := PySem.W.mg_of X G a46
 have F_law_same := z0t (st := z2n) l47 c47 k47
 have B_law_same := F_law_same.binds (ps := ["_law_found", "_law_due"]) fun _ _ _ _ _ _ us hl => len2 (p := fun us => bindArgs _ ⟨us, []⟩ = pure (List.zip _ us)) hl fun _ _ => rfl
 have N_law_same := PySem.W.mg_of X G a47
 have F_law_named := z0t (st := z2t) l48 c48 k48
 have B_law_named := F_law_named.binds (ps := ["_law_cell", "_law_many"]) fun _ _ _ _ _ _ us hl => len2 (p := fun us => bindArgs _ ⟨us, []⟩ = pure (List.zip _ us)) hl fun _ _ => rfl
 have N_law_named := PySem.W.mg_of X G a48
 have F_law_doubled := z0t (st := z1J) l49 c49 k49
 have B_law_doubled := F_law_doubled.binds (ps := ["_law_times"]) fun _ _ _ _ _ _ us hl => len1 (p := fun us => bindArgs _ ⟨us, []⟩ = pure (List.zip _ us)) hl fun _ => rfl
 have N_law_doubled := PySem.W.mg_of X G a49
 have F_law_sets := z0t (st := z2L) l50 c50 k50
 have B_law_sets := F_law_sets.binds (ps := ["_law_names_here", "_law_cell", "_law_many"]) fun _ _ _ _ _ _ us hl => len3 (p := fun us => bindArgs _ ⟨us, []⟩ = pure (List.zip _ us)) hl fun _ _ _ => rfl
 have N_law_sets := PySem.W.mg_of X G a50
 have F_law_value := z0t (st := z2m) l51 c51 k51
 have B_law_value := F_law_value.binds (ps := ["_law_figure", "_law_place"]) fun _ _ _ _ _ _ us hl => len2 (p := fun us => bindArgs _ ⟨us, []⟩ = pure (List.zip _ us)) hl fun _ _ => rfl
 have N_law_value := PySem.W.mg_of X G a51
 have F_law_valued := z0t (st := z23) l52 c52 k52
 have B_law_valued := F_law_valued.binds (ps := ["_law_sets_here", "_law_cell"]) fun _ _ _ _ _ _ us hl => len2 (p := fun us => bindArgs _ ⟨us, []⟩ = pure (List.zip _ us)) hl fun _ _ => rfl
 have N_law_valued := PySem.W.mg_of X G a52
 have F_law_had := z0t (st := z3h) l53 c53 k53
 have B_law_had := F_law_had.binds (ps := ["_law_cell", "_law_many"]) fun _ _ _ _ _ _ us hl => len2 (p := fun us => bindArgs _ ⟨us, []⟩ = pure (List.zip _ us)) hl fun _ _ => rfl
 have N_law_had := PySem.W.mg_of X G a53
 have F_law_shuffled := z0t (st := z1x) l54 c54 k54
 have B_law_shuffled := F_law_shuffled.binds (ps := ["_law_row_here", "_law_cell"]) fun _ _ _ _ _ _ us hl => len2 (p := fun us => bindArgs _ ⟨us, []⟩ = pure (List.zip _ us)) hl fun _ _ => rfl
 have N_law_shuffled := PySem.W.mg_of X G a54
 have F_law_teller := z0t (st := z22) l55 c55 k55
 have B_law_teller := F_law_teller.binds (ps := ["_law_had_here", "_law_number", "_law_reach"]) fun _ _ _ _ _ _ us hl => len3 (p := fun us => bindArgs _ ⟨us, []⟩ = pure (List.zip _ us)) hl fun _ _ _ => rfl
 have N_law_teller := PySem.W.mg_of X G a55
 have F_law_gaps := z0t (st := z2H) l56 c56 k56
 have B_law_gaps := F_law_gaps.binds (ps := ["_law_had_here", "_law_rows", "_law_reach"]) fun _ _ _ _ _ _ us hl => len3 (p := fun us => bindArgs _ ⟨us, []⟩ = pure (List.zip _ us)) hl fun _ _ _ => rfl
 have N_law_gaps := PySem.W.mg_of X G a56
 have F_law_held := z0t (st := z2K) l57 c57 k57
 have B_law_held := F_law_held.binds (ps := ["_law_had_here", "_law_rows", "_law_name"]) fun _ _ _ _ _ _ us hl => len3 (p := fun us => bindArgs _ ⟨us, []⟩ = pure (List.zip _ us)) hl fun _ _ _ => rfl
 have N_law_held := PySem.W.mg_of X G a57
 have F_law_again := z0t (st := z2f) l58 c58 k58
 have B_law_again := F_law_again.binds (ps := ["_law_gaps_here", "_law_number", "_law_name"]) fun _ _ _ _ _ _ us hl => len3 (p := fun us => bindArgs _ ⟨us, []⟩ = pure (List.zip _ us)) hl fun _ _ _ => rfl
 have N_law_again := PySem.W.mg_of X G a58
 have F_law_state := z0t (st := z2q) l59 c59 k59
 have B_law_state := F_law_state.binds (ps := ["_law_gaps_here", "_law_number", "_law_name"]) fun _ _ _ _ _ _ us hl => len3 (p := fun us => bindArgs _ ⟨us, []⟩ = pure (List.zip _ us)) hl fun _ _ _ => rfl
 have N_law_state := PySem.W.mg_of X G a59
 have F_law_names := z0t (st := z2i) l60 c60 k60
 have B_law_names := F_law_names.binds (ps := ["_law_script"]) fun _ _ _ _ _ _ us hl => len1 (p := fun us => bindArgs _ ⟨us, []⟩ = pure (List.zip _ us)) hl fun _ => rfl
 have N_law_names := PySem.W.mg_of X G a60
 have F_law_deeds := z0t (st := z2p) l61 c61 k61
 have B_law_deeds := F_law_deeds.binds (ps := ["_law_cells", "_law_many", "_law_first", "_law_readers"]) fun _ _ _ _ _ _ us hl => len4 (p := fun us => bindArgs _ ⟨us, []⟩ = pure (List.zip _ us)) hl fun _ _ _ _ => rfl
 have N_law_deeds := PySem.W.mg_of X G a61
 have F_law_play := z0t (st := z2M) l62 c62 k62
 have B_law_play := F_law_play.binds (ps := ["_law_book", "_law_log", "_law_rows"]) fun _ _ _ _ _ _ us hl => len3 (p := fun us => bindArgs _ ⟨us, []⟩ = pure (List.zip _ us)) hl fun _ _ _ => rfl
 have N_law_play := PySem.W.mg_of X G a62
 have F_law_story := z0t (st := z2r) l63 c63 k63
 have B_law_story := F_law_story.binds (ps := ["_law_name", "_law_log", "_law_reader", "_law_rows", "_law_reach"]) fun _ _ _ _ _ _ us hl => len5 (p := fun us => bindArgs _ ⟨us, []⟩ = pure (List.zip _ us)) hl fun _ _ _ _ _ => rfl
 have N_law_story := PySem.W.mg_of X G a63
 have Flaw := z0t (st := slaw) l64 c64 k64
 have Blaw := Flaw.binds (ps := ["_law_script"]) fun _ _ _ _ _ _ us hl => len1 (p := fun us => bindArgs _ ⟨us, []⟩ = pure (List.zip _ us)) hl fun _ => rfl
 have Nlaw := PySem.W.mg_of X G a64
 have e := hfa.symm.trans Nlaw
 cases e
 refine ⟨PySem.W.fnOf "law" "law" (z0c slaw) (z0b slaw) (z05 slaw) .none kV64 dc64 pm64 an64 cd64 ct64, fun s v => .of_eq rfl, fun base _ _ => ?_⟩
 have C_same := z9E (P := l.prog) (w := w) (base := base) M F_law_same B_law_same N_law_same
 have G_law_at : Cal l.prog w K mg base 1 "_law_at" ["_law_script", "_law_k"] (spAt K) := .mk' (ok_at M F_law_at) B_law_at F_law_at.kp N_law_at
 have G_law_pick : Cal l.prog w K mg base 1 "_law_pick" ["_law_cell", "_law_size"] z8h := .mk' (y3V F_law_pick) B_law_pick F_law_pick.kp N_law_pick
 have G_law_row : Cal l.prog w K mg base 1 "_law_row" ["_law_cell", "_law_many", "_law_size"] y0t := .mk' (y4X M F_law_row) B_law_row F_law_row.kp N_law_row
 have G_law_teller : Cal l.prog w K mg base 1 "_law_teller" ["_law_had_here", "_law_number", "_law_reach"] (z66 K) := .mk' (y0p M F_law_teller) B_law_teller F_law_teller.kp N_law_teller
 have G_law_named : Cal l.prog w K mg base 1 "_law_named" ["_law_cell", "_law_many"] z8Y := .mk' (y2Y M F_law_named) B_law_named F_law_named.kp N_law_named
 have G_law_doubled : Cal l.prog w K mg base 1 "_law_doubled" ["_law_times"] z62 := .mk' (y00 M F_law_doubled) B_law_doubled F_law_doubled.kp N_law_doubled
 have G_law_value : Cal l.prog w K mg base 1 "_law_value" ["_law_figure", "_law_place"] z94 := .mk' (y2s F_law_value) B_law_value F_law_value.kp N_law_value
 have Grefuse_bad_names : Cal l.prog w K mg base 1 "refuse_bad_names" ["names"] (z54 K) := .mk' (z93 M Frefuse_bad_names) Brefuse_bad_names Frefuse_bad_names.kp Nrefuse_bad_names
 have Grefuse_bad_reach : Cal l.prog w K mg base 1 "refuse_bad_reach" ["reach"] z58 := .mk' (z8R M Frefuse_bad_reach) Brefuse_bad_reach Frefuse_bad_reach.kp Nrefuse_bad_reach
 have GShelf_put : MCal l.prog w K mg base 1 CShelf "put" ["self", "issue"] (y3F (ShD K CShelf)) := .mk' TShelf.cl (y4Y M TShelf FShelf_put) BShelf_put MShelf_put
 have GShelf_had : MCal l.prog w K mg base 1 CShelf "had" ["self"] (z51 (ShD K CShelf)) := .mk' TShelf.cl (y2F M TShelf FShelf_had) BShelf_had MShelf_had
 have G_law_held : Cal l.prog w K mg base 1 "_law_held" ["_law_had_here", "_law_rows", "_law_name"] (z9u K) := .mk' (y2o M F_law_held) B_law_held F_law_held.kp N_law_held
 have G_law_again : Cal l.prog w K mg base 1 "_law_again" ["_law_gaps_here", "_law_number", "_law_name"] (z9t K) := .mk' (y2r M F_law_again) B_law_again F_law_again.kp N_law_again
 have Greached_by : Cal l.prog w K mg base 1 "reached_by" ["number", "reach"] z5U := .mk' (y0l M Freached_by) Breached_by Freached_by.kp Nreached_by
 have Grefuse_unknown_name : Cal l.prog w K mg base 1 "refuse_unknown_name" ["names", "name"] (y2D K) := .mk' (y4n M Frefuse_unknown_name) Brefuse_unknown_name Frefuse_unknown_name.kp Nrefuse_unknown_name
 have Grefuse_bad_value : Cal l.prog w K mg base 1 "refuse_bad_value" ["value"] z7c := .mk' (y1V M Frefuse_bad_value) Brefuse_bad_value Frefuse_bad_value.kp Nrefuse_bad_value
 have Grows_in_order : Cal l.prog w K mg base 1 "rows_in_order" ["names", "rows"] (z6t K) := .mk' (y0k M Frows_in_order) Brows_in_order Frows_in_order.kp Nrows_in_order
 have Gnames_of_rows : Cal l.prog w K mg base 1 "names_of_rows" ["rows"] z8O := .mk' (y31 M Fnames_of_rows) Bnames_of_rows Fnames_of_rows.kp Nnames_of_rows
 have GOffice_latest : MCal l.prog w K mg base 1 COffice "latest" ["self"] (z56 (OfD K COffice)) := .mk' TOffice.cl (z90 M TOffice FOffice_latest) BOffice_latest MOffice_latest
 have GOffice_issue : MCal l.prog w K mg base 1 COffice "issue" ["self", "number"] (z3A (OfD K COffice)) := .mk' TOffice.cl (y0b M TOffice FOffice_issue) BOffice_issue MOffice_issue
 have Grefuse_bad_readers : Cal l.prog w K mg base 1 "refuse_bad_readers" ["readers"] z3R := .mk' (z7Q M Frefuse_bad_readers) Brefuse_bad_readers Frefuse_bad_readers.kp Nrefuse_bad_readers
 have GBook_refuse_unknown_reader : MCal l.prog w K mg base 1 CBook "refuse_unknown_reader" ["self", "reader"] (z3s (BkD K CBook COffice)) := .mk' TBook.cl (z7Z M TBook FBook_refuse_unknown_reader) BBook_refuse_unknown_reader MBook_refuse_unknown_reader
 have GBook_refuse_further_deed : MCal l.prog w K mg base 1 CBook "refuse_further_deed" ["self"] (z4L (BkD K CBook COffice)) := .mk' TBook.cl (y0i M TBook FBook_refuse_further_deed) BBook_refuse_further_deed MBook_refuse_further_deed
 have GBook_deeds : MCal l.prog w K mg base 1 CBook "deeds" ["self"] (z4K (BkD K CBook COffice)) := .mk' TBook.cl (y0d M TBook FBook_deeds) BBook_deeds MBook_deeds
 have GBook_deed : MCal l.prog w K mg base 1 CBook "deed" ["self", "which"] (z9W (BkD K CBook COffice)) := .mk' TBook.cl (y1l M TBook FBook_deed) BBook_deed MBook_deed
 have Glacking_numbers : Cal l.prog w K mg base 1 "lacking_numbers" ["had"] (y0P K) := .mk' (y3P M Flacking_numbers) Blacking_numbers Flacking_numbers.kp Nlacking_numbers
 have Gteller_of : Cal l.prog w K mg base 1 "teller_of" ["had", "number", "reach"] (z7H K) := .mk' (y1X M Fteller_of) Bteller_of Fteller_of.kp Nteller_of
 have GShelf_tail_of : MCal l.prog w K mg base 1 CShelf "tail_of" ["self", "number"] (z7e (ShD K CShelf)) := .mk' TShelf.cl (y2a M TShelf FShelf_tail_of) BShelf_tail_of MShelf_tail_of
 have GShelf_rows_of : MCal l.prog w K mg base 1 CShelf "rows_of" ["self", "number"] (z7b (ShD K CShelf)) := .mk' TShelf.cl (y1c M TShelf FShelf_rows_of) BShelf_rows_of MShelf_rows_of
 have G_law_had : Cal l.prog w K mg base 2 "_law_had" ["_law_cell", "_law_many"] y4a := .mk' (y4v M F_law_had (G_law_row.mono (by decide))) B_law_had F_law_had.kp N_law_had
 have G_law_shuffled : Cal l.prog w K mg base 2 "_law_shuffled" ["_law_row_here", "_law_cell"] (y1a K) := .mk' (y47 M F_law_shuffled (G_law_row.mono (by decide))) B_law_shuffled F_law_shuffled.kp N_law_shuffled
 have G_law_sets : Cal l.prog w K mg base 2 "_law_sets" ["_law_names_here", "_law_cell", "_law_many"] (y0Q K) := .mk' (y3U M F_law_sets (G_law_row.mono (by decide)) (G_law_doubled.mono (by decide))) B_law_sets F_law_sets.kp N_law_sets
 have G_law_valued : Cal l.prog w K mg base 2 "_law_valued" ["_law_sets_here", "_law_cell"] z7K := .mk' (y22 M F_law_valued (G_law_row.mono (by decide)) (G_law_value.mono (by decide))) B_law_valued F_law_valued.kp N_law_valued
 have G_law_names : Cal l.prog w K mg base 2 "_law_names" ["_law_script"] (z99 K) := .mk' (y2u F_law_names (G_law_at.mono (by decide)) (G_law_pick.mono (by decide)) (G_law_named.mono (by decide))) B_law_names F_law_names.kp N_law_names
 have Gbulletin_names : Cal l.prog w K mg base 2 "bulletin_names" ["names", "reach"] (z3W K) := .mk' (z8W M Fbulletin_names (Grefuse_bad_names.mono (by decide)) (Grefuse_bad_reach.mono (by decide))) Bbulletin_names Fbulletin_names.kp Nbulletin_names
 have GShelf_latest : MCal l.prog w K mg base 2 CShelf "latest" ["self"] (z6J (ShD K CShelf)) := .mk' TShelf.cl (y1f M TShelf FShelf_latest (GShelf_had.mono (by decide))) BShelf_latest MShelf_latest
 have G_law_gaps : Cal l.prog w K mg base 2 "_law_gaps" ["_law_had_here", "_law_rows", "_law_reach"] (y1o K) := .mk' (y3A M F_law_gaps (G_law_teller.mono (by decide))) B_law_gaps F_law_gaps.kp N_law_gaps
 have G_law_state : Cal l.prog w K mg base 2 "_law_state" ["_law_gaps_here", "_law_number", "_law_name"] (z9m K) := .mk' (y1v M F_law_state (G_law_again.mono (by decide))) B_law_state F_law_state.kp N_law_state
 have Gtail_for : Cal l.prog w K mg base 2 "tail_for" ["sets", "reach"] (y0B K) := .mk' (y3v M Ftail_for (Greached_by.mono (by decide))) Btail_for Ftail_for.kp Ntail_for
 have Grefuse_bad_rows : Cal l.prog w K mg base 2 "refuse_bad_rows" ["names", "rows"] (z5G K) := .mk' (y0u M Frefuse_bad_rows (Grefuse_unknown_name.mono (by decide)) (Grefuse_bad_value.mono (by decide))) Brefuse_bad_rows Frefuse_bad_rows.kp Nrefuse_bad_rows
 have GBook_deliver : MCal l.prog w K mg base 5 CBook "deliver" ["self", "reader", "number"] (z4g (BkD K CBook COffice)) := .mk' TBook.cl (z8m M TBook FBook_deliver (GOffice_issue.mono (by decide)) (GBook_refuse_unknown_reader.mono (by decide)) (GBook_refuse_further_deed.mono (by decide))) BBook_deliver MBook_deliver
 have GBook_latest : MCal l.prog w K mg base 2 CBook "latest" ["self"] (z6N (BkD K CBook COffice)) := .mk' TBook.cl (z9k M TBook FBook_latest (GOffice_latest.mono (by decide))) BBook_latest MBook_latest
 have GBook_issue : MCal l.prog w K mg base 2 CBook "issue" ["self", "number"] (z82 (BkD K CBook COffice)) := .mk' TBook.cl (y0c M TBook FBook_issue (GOffice_issue.mono (by decide))) BBook_issue MBook_issue
 have Glacking_with_tellers : Cal l.prog w K mg base 2 "lacking_with_tellers" ["had", "reach"] (y2f K) := .mk' (y4V M Flacking_with_tellers (Glacking_numbers.mono (by decide)) (Gteller_of.mono (by decide))) Blacking_with_tellers Flacking_with_tellers.kp Nlacking_with_tellers
 have Gnames_told_of : Cal l.prog w K mg base 2 "names_told_of" ["shelf", "number", "teller"] (y27 (ShD K CShelf)) := .mk' (y3O M TShelf Fnames_told_of (GShelf_tail_of.mono (by decide))) Bnames_told_of Fnames_told_of.kp Nnames_told_of
 have Gheld_for : Cal l.prog w K mg base 2 "held_for" ["shelf", "name"] (z3I (ShD K CShelf)) := .mk' (y0s M TShelf Fheld_for (Grefuse_unknown_name.mono (by decide)) (GShelf_had.mono (by decide)) (GShelf_rows_of.mono (by decide))) Bheld_for Fheld_for.kp Nheld_for
 have G_law_deeds : Cal l.prog w K mg base 2 "_law_deeds" ["_law_cells", "_law_many", "_law_first", "_law_readers"] (z9j K) := .mk' (y0D M F_law_deeds (G_law_pick.mono (by decide))) B_law_deeds F_law_deeds.kp N_law_deeds
 have GShelf : Mkr l.prog w K mg base 3 CShelf "Shelf" ["self", "names", "reach"] (z7t K CShelf (ShD K CShelf)) := .mk' (y15 M TShelf FShelf___init__ (Gbulletin_names.mono (by decide))) BShelf___init__ MShelf___init__ TShelf.mgC
 have GOffice : Mkr l.prog w K mg base 3 COffice "Office" ["self", "names", "reach"] (z7W K COffice (OfD K COffice)) := .mk' (y0N M TOffice FOffice___init__ (Gbulletin_names.mono (by decide))) BOffice___init__ MOffice___init__ TOffice.mgC
 have GOffice_refuse_writing : MCal l.prog w K mg base 3 COffice "refuse_writing" ["self", "rows"] (z4p K (OfD K COffice)) := .mk' TOffice.cl (y01 M TOffice FOffice_refuse_writing (Grefuse_bad_rows.mono (by decide))) BOffice_refuse_writing MOffice_refuse_writing
 have Gdark_numbers : Cal l.prog w K mg base 3 "dark_numbers" ["had", "reach"] (y0V K) := .mk' (y3S M Fdark_numbers (Glacking_with_tellers.mono (by decide))) Bdark_numbers Fdark_numbers.kp Ndark_numbers
 have Ggaps_of : Cal l.prog w K mg base 3 "gaps_of" ["shelf"] (z7n (ShD K CShelf)) := .mk' (y2d M TShelf Fgaps_of (GShelf_had.mono (by decide)) (Glacking_with_tellers.mono (by decide)) (Gnames_told_of.mono (by decide))) Bgaps_of Fgaps_of.kp Ngaps_of
 have G_law_story : Cal l.prog w K mg base 3 "_law_story" ["_law_name", "_law_log", "_law_reader", "_law_rows", "_law_reach"] (z9o K) := .mk' (y2E M F_law_story (G_law_held.mono (by decide)) (G_law_gaps.mono (by decide)) (G_law_state.mono (by decide))) B_law_story F_law_story.kp N_law_story
 have GOffice_write : MCal l.prog w K mg base 4 COffice "write" ["self", "rows"] (z6e K (OfD K COffice)) := .mk' TOffice.cl (y09 M TOffice FOffice_write (GOffice_refuse_writing.mono (by decide)) (Gnames_of_rows.mono (by decide)) (Grows_in_order.mono (by decide)) (Gtail_for.mono (by decide))) BOffice_write MOffice_write
 have GBook : Mkr l.prog w K mg base 6 CBook "Book" ["self", "names", "reach", "readers"] (z7g K CBook (BkD K CBook COffice)) := .mk' (y1W M TBook FBook___init__ (GOffice.mono (by decide)) (Grefuse_bad_readers.mono (by decide))) BBook___init__ MBook___init__ TBook.mgC
 have GBook_shelf : MCal l.prog w K mg base 6 CBook "shelf" ["self", "reader", "deed"] (z4n (BkD K CBook COffice) (ShD K CShelf)) := .mk' TBook.cl (z6X M TBook TOffice FBook_shelf (GOffice_issue.mono (by decide)) (GBook_refuse_unknown_reader.mono (by decide)) (GShelf.mono (by decide)) (GShelf_put.mono (by decide))) BBook_shelf MBook_shelf
 have GBook_shelfD : MCalD l.prog w K mg base 6 CBook "shelf" ["self", "reader", "deed"] (z4n (BkD K CBook COffice) (ShD K CShelf)) [V.non] := .mk' (.cons rfl .nil) TBook.cl (z6X M TBook TOffice FBook_shelf (GOffice_issue.mono (by decide)) (GBook_refuse_unknown_reader.mono (by decide)) (GShelf.mono (by decide)) (GShelf_put.mono (by decide))) BBook_shelfD MBook_shelf
 have Gdark_numbers_behind : Cal l.prog w K mg base 4 "dark_numbers_behind" ["had", "reach", "behind"] (z7D K) := .mk' (y1m M Fdark_numbers_behind (Gdark_numbers.mono (by decide))) Bdark_numbers_behind Fdark_numbers_behind.kp Ndark_numbers_behind
 have Gset_again : Cal l.prog w K mg base 4 "set_again" ["shelf", "name"] (z4T (ShD K CShelf)) := .mk' (z9c M TShelf Fset_again (Gheld_for.mono (by decide)) (Ggaps_of.mono (by decide))) Bset_again Fset_again.kp Nset_again
 have GBook_write : MCal l.prog w K mg base 5 CBook "write" ["self", "rows"] (z61 K (BkD K CBook COffice)) := .mk' TBook.cl (z9Z M TBook FBook_write (GOffice_refuse_writing.mono (by decide)) (GOffice_write.mono (by decide)) (GBook_refuse_further_deed.mono (by decide))) BBook_write MBook_write
 have Gstate_of : Cal l.prog w K mg base 5 "state_of" ["shelf", "name"] (z63 (ShD K CShelf)) := .mk' (y0e M TShelf Fstate_of (Gheld_for.mono (by decide)) (Gset_again.mono (by decide)) (GShelf_had.mono (by decide)) (Gdark_numbers_behind.mono (by decide))) Bstate_of Fstate_of.kp Nstate_of
 have Gstate_and_held : Cal l.prog w K mg base 6 "state_and_held" ["shelf", "name"] (z4h (ShD K CShelf)) := .mk' (z8E M Fstate_and_held (Gheld_for.mono (by decide)) (Gstate_of.mono (by decide))) Bstate_and_held Fstate_and_held.kp Nstate_and_held
 have G_law_play : Cal l.prog w K mg base 9 "_law_play" ["_law_book", "_law_log", "_law_rows"] (z9d K (BkD K CBook COffice)) := .mk' (y2P M F_law_play bkOk (GBook_write.mono (by decide)) (GBook_deliver.mono (by decide))) B_law_play F_law_play.kp N_law_play
 have Ghistory : Cal l.prog w K mg base 8 "history" ["book", "reader", "name"] (y0E (BkD K CBook COffice)) := .mk' (y04 M Fhistory (Gstate_and_held.mono (by decide)) (GBook_shelf.mono (by decide)) (GBook_deeds.mono (by decide))) Bhistory Fhistory.kp Nhistory
 exact y4T M Flaw bkOk (G_law_at.mono (by decide)) (G_law_pick.mono (by decide)) (G_law_had.mono (by decide)) (G_law_shuffled.mono (by decide)) (G_law_names.mono (by decide)) (G_law_sets.mono (by decide)) (G_law_valued.mono (by decide)) (C_same 5) (G_law_story.mono (by decide)) (Ghistory.mono (by decide)) (G_law_deeds.mono (by decide)) (G_law_play.mono (by decide)) (GBook.mono (by decide)) (GBook_deeds.mono (by decide))
theorem walk {l : PySem.W.OpenLaw} {q : Program} {loose : List Str} {XP : (Str -> Option Value) -> Heap -> Prop} {YP : World -> Heap -> Prop} {d : DefRec} {K : Params -> PySem.W.Frag} (hn : l.most = some 63) (hdf : d.params.defaults = [])
  (hY : ∀ (w : World) (h : Heap), YP w h -> (K w.params).In h)
  (F : ∀ (w : World) (mg : Str -> Option Value) (fa : Addr) (h : Heap), (K w.params).In h -> h.Ns mainGlobals mg -> mg d.name = some (.ref fa) ->
   ∃ fd : FuncData, (∀ (s : Shared) (u : Value), BindsTo s fd ⟨[u], []⟩ [("_law_script", u)]) /\ ∀ base : Heap, (K w.params).In base -> base.Ns mainGlobals mg -> FnOk l.prog w (K w.params) mg base CX0 14 fa fd ["_law_script"] (y2z (K w.params))) :
  PySem.W.WalkO q loose XP YP l.row.toRowW d [] (fun f vs => PySem.call f vs) :=
 L2.y3R (n := 63) (k := 14) (x := "_law_script") (CX := fun _ => CX0) (sp := fun w => y2z (K w.params)) hn (by decide) hdf ⟨rfl, by decide, by decide⟩ hY F (fun _ _ a ns hl _ hS => ⟨a, ns, rfl, hS, hl, fun _ => rfl⟩) fun _ _ _ _ _ z => z
theorem walkX {q : Program} {loose : List Str} {XP : (Str -> Option Value) -> Heap -> Prop} {r : PySem.W.RowW} {d : DefRec} {kwd : List (Str × Expr)} {run : Value -> List Value -> Sem Value} {K : Params -> PySem.W.Frag} {ks : List Addr} {n t : Nat} (e : ∀ P, ks = (K P).map (·.1))
  (W : PySem.W.WalkO q loose XP (fun w h => (K w.params).In h) r d kwd run) : PySem.W.WalkX q loose XP (PySem.W.X.obsZ ks) (PySem.W.X.valZ K n t) r d kwd run :=
 fun w s₀ s₁ mg mb G y a o pm cd doc dV kV h1 h2 h3 h4 h5 h6 args vals as L g1 g2 g3 g4 g5 => W w s₀ s₁ mg mb G (PySem.W.InK.keeps w s₀.heap s₁.heap (PySem.W.X.z_facts e y).2.1 L.keeps) a o pm cd doc dV kV h1 h2 h3 h4 h5 h6 args vals as g1 g2 g3 g4 g5
end My
def PySem.W.Fast.tw5803307332941186309 : Unit := ()
def PySem.W.Fast.tw6179002556052705685 : Unit := ()
def PySem.W.Fast.tw12703130939919956401 : Unit := ()
def PySem.W.Fast.tw7849374311742728842 : Unit := ()
def PySem.W.Fast.tw8066819929387023101 : Unit := ()
def PySem.W.Fast.tw17675169320477564690 : Unit := ()
def PySem.W.Fast.tw9998983247580575962 : Unit := ()
def PySem.W.Fast.tw3829876200880759276 : Unit := ()
def PySem.W.Fast.tw8310862982654812321 : Unit := ()
def PySem.W.Fast.tw965206553424397988 : Unit := ()
def PySem.W.Fast.tw16334366457464936596 : Unit := ()
def PySem.W.Fast.tw11978114819824803110 : Unit := ()
def PySem.W.Fast.tw12091894992088687937 : Unit := ()
def PySem.W.Fast.tw14914473403063074793 : Unit := ()
def PySem.W.Fast.tw6395155287781699940 : Unit := ()
def PySem.W.Fast.tw10718758602489391587 : Unit := ()
def PySem.W.Fast.tw4540802091340152975 : Unit := ()
def PySem.W.Fast.tw8215432622369049132 : Unit := ()
def PySem.W.Fast.tw1216775451496499847 : Unit := ()
def PySem.W.Fast.tw1132427432565489316 : Unit := ()
def PySem.W.Fast.tw17567375964335287188 : Unit := ()
def PySem.W.Fast.tw8334266761458646156 : Unit := ()
def PySem.W.Fast.tw6813277631463413402 : Unit := ()
def PySem.W.Fast.tw5048003331723548736 : Unit := ()
def PySem.W.Fast.tw12712694376359664006 : Unit := ()
def PySem.W.Fast.tw16212702629266068774 : Unit := ()
def PySem.W.Fast.tw7244721945583707142 : Unit := ()
def PySem.W.Fast.tw8975188903701699368 : Unit := ()
def PySem.W.Fast.tw15185327435624183802 : Unit := ()
def PySem.W.Fast.tw7838048274366373115 : Unit := ()
def PySem.W.Fast.tw7059763106040203812 : Unit := ()
def PySem.W.Fast.tw12684809200856676032 : Unit := ()
def PySem.W.Fast.tw3206629816536908869 : Unit := ()
def PySem.W.Fast.tw3511988108680177853 : Unit := ()
def PySem.W.Fast.tw3126833574848747199 : Unit := ()
def PySem.W.Fast.tw16523292675704781660 : Unit := ()
def PySem.W.Fast.tw8762260530377525079 : Unit := ()
def PySem.W.Fast.tw5392856469779369320 : Unit := ()
def PySem.W.Fast.tw15357407672079795808 : Unit := ()
def PySem.W.Fast.tw6046777341977808453 : Unit := ()
def PySem.W.Fast.tw4406740814551343689 : Unit := ()
def PySem.W.Fast.tw10737825845747480074 : Unit := ()
def PySem.W.Fast.tw1470466795462823666 : Unit := ()
def PySem.W.Fast.tw7749052625443554911 : Unit := ()
def PySem.W.Fast.tw5352011969170114575 : Unit := ()
def PySem.W.Fast.tw10752465414920837629 : Unit := ()
def PySem.W.Fast.tw12226677249285432031 : Unit := ()
def PySem.W.Fast.tw17626162055601935819 : Unit := ()
def PySem.W.Fast.tw2006350706022492278 : Unit := ()
def PySem.W.Fast.tw14168806451938862698 : Unit := ()
def PySem.W.Fast.tw15522136551203451574 : Unit := ()
def PySem.W.Fast.tw8620381066039298286 : Unit := ()
def PySem.W.Fast.tw16609657086439848078 : Unit := ()
def PySem.W.Fast.tw4473644963334102137 : Unit := ()
def PySem.W.Fast.tw12166329759411128119 : Unit := ()
def PySem.W.Fast.tw9863814645124203815 : Unit := ()
def PySem.W.Fast.tw10296641962688609957 : Unit := ()
def PySem.W.Fast.tw2474552371564078481 : Unit := ()
def PySem.W.Fast.tw4868582995519103574 : Unit := ()
def PySem.W.Fast.tw5964153538496085985 : Unit := ()
def PySem.W.Fast.tw16060586877993108890 : Unit := ()
def PySem.W.Fast.tw17653724419564131699 : Unit := ()
def PySem.W.Fast.tw6033180385243325873 : Unit := ()
def PySem.W.Fast.tw3630465347115289766 : Unit := ()
def PySem.W.Fast.tw12772119988939077009 : Unit := ()
def PySem.W.Fast.tw12771074573740106940 : Unit := ()
def PySem.W.Fast.tw8396452474831211887 : Unit := ()
def PySem.W.Fast.tw4700083633932405081 : Unit := ()
def PySem.W.Fast.tw11560879055006052457 : Unit := ()
def PySem.W.Fast.tw11529469391345452128 : Unit := ()
def PySem.W.Fast.tw2944098685956496256 : Unit := ()
def PySem.W.Fast.tw13600216953158059108 : Unit := ()
def PySem.W.Fast.tw5999343499024904532 : Unit := ()
def PySem.W.Fast.tw3369644806881752196 : Unit := ()
def PySem.W.Fast.tw759741722796082527 : Unit := ()
def PySem.W.Fast.tw11428963222153636703 : Unit := ()
def PySem.W.Fast.tw10430713905465417736 : Unit := ()
def PySem.W.Fast.tw443096608602932862 : Unit := ()
def PySem.W.Fast.tw11175941266853883195 : Unit := ()
def PySem.W.Fast.tw14295592847941957999 : Unit := ()
def PySem.W.Fast.tw8410211741376524998 : Unit := ()
def PySem.W.Fast.tw16337460483677621514 : Unit := ()
def PySem.W.Fast.tw6489480610570656387 : Unit := ()
def PySem.W.Fast.tw14385100712166458743 : Unit := ()
open PySem PySem.W PyProof.Rows
set_option maxRecDepth 100000 in
set_option maxHeartbeats 0 in
theorem PySem.Challenge.cw_backissues_k30_history_holds : PySem.Challenge.rw_backissues_k30_history.Holds := by
 w_on; o_law; z_head; (case hw => w_witness2)
 k_fill
 refine My.walkX (fun _ => by kernel_rfl) ?_
 refine My.walk (l := PySem.Challenge.rw_backissues_k30_history) rfl rfl (fun w h Y => Y) ?F
 case F =>
  intro w mg fa h KX G hmg
  refine' My.y4Z KX G hmg ?aCOffice ?pgOffice ?hdOffice ?poOffice ?saOffice ?mkOffice ?kcOffice ?nOffice_names ?nOffice_reach ?nOffice_written ?aCShelf ?pgShelf ?hdShelf ?poShelf ?saShelf ?mkShelf ?kcShelf ?nShelf_names ?nShelf_reach ?nShelf_issues ?aCBook ?pgBook ?hdBook ?poBook ?saBook ?mkBook ?kcBook ?nBook_office ?nBook_readers ?nBook_done ?a0 ?l0 ?c0 ?k0 ?a1 ?l1 ?c1 ?k1 ?a2 ?l2 ?c2 ?k2 ?a3 ?l3 ?c3 ?k3 ?a4 ?l4 ?c4 ?k4 ?a5 ?l5 ?c5 ?k5 ?a6 ?l6 ?c6 ?k6 ?a7 ?l7 ?c7 ?k7 ?a8 ?l8 ?c8 ?k8 ?a9 ?l9 ?c9 ?k9 ?a10 ?l10 ?c10 ?k10 ?a11 ?l11 ?c11 ?k11 ?a12 ?l12 ?c12 ?k12 ?a13 ?l13 ?c13 ?k13 ?a14 ?l14 ?c14 ?k14 ?a15 ?l15 ?c15 ?k15 ?a16 ?l16 ?c16 ?k16 ?a17 ?l17 ?c17 ?k17 ?a18 ?l18 ?c18 ?k18 ?a19 ?l19 ?c19 ?k19 ?a20 ?l20 ?c20 ?k20 ?a21 ?l21 ?c21 ?k21 ?a22 ?i22 ?l22 ?c22 ?k22 ?a23 ?i23 ?l23 ?c23 ?k23 ?a24 ?i24 ?l24 ?c24 ?k24 ?a25 ?i25 ?l25 ?c25 ?k25 ?a26 ?i26 ?l26 ?c26 ?k26 ?a27 ?i27 ?l27 ?c27 ?k27 ?a28 ?i28 ?l28 ?c28 ?k28 ?a29 ?i29 ?l29 ?c29 ?k29 ?a30 ?i30 ?l30 ?c30 ?k30 ?a31 ?i31 ?l31 ?c31 ?k31 ?a32 ?i32 ?l32 ?c32 ?k32 ?a33 ?l33 ?c33 ?k33 ?a34 ?i34 ?l34 ?c34 ?k34 ?a35 ?i35 ?l35 ?c35 ?k35 ?a36 ?i36 ?l36 ?c36 ?k36 ?a37 ?i37 ?l37 ?c37 ?k37 ?a38 ?i38 ?l38 ?c38 ?k38 ?a39 ?i39 ?l39 ?c39 ?k39 ?a40 ?i40 ?l40 ?c40 ?k40 ?a41 ?i41 ?l41 ?c41 ?k41 ?a42 ?i42 ?l42 ?c42 ?k42 ?a43 ?i43 ?l43 ?c43 ?k43 ?a44 ?l44 ?c44 ?k44 ?a45 ?l45 ?c45 ?k45 ?a46 ?l46 ?c46 ?k46 ?a47 ?l47 ?c47 ?k47 ?a48 ?l48 ?c48 ?k48 ?a49 ?l49 ?c49 ?k49 ?a50 ?l50 ?c50 ?k50 ?a51 ?l51 ?c51 ?k51 ?a52 ?l52 ?c52 ?k52 ?a53 ?l53 ?c53 ?k53 ?a54 ?l54 ?c54 ?k54 ?a55 ?l55 ?c55 ?k55 ?a56 ?l56 ?c56 ?k56 ?a57 ?l57 ?c57 ?k57 ?a58 ?l58 ?c58 ?k58 ?a59 ?l59 ?c59 ?k59 ?a60 ?l60 ?c60 ?k60 ?a61 ?l61 ?c61 ?k61 ?a62 ?l62 ?c62 ?k62 ?a63 ?l63 ?c63 ?k63 ?a64 ?l64 ?c64 ?k64 ?d43 ?zlen ?zrange ?ztuple ?zlist ?zmax ?zmin ?zsorted ?zisinstance ?zbool ?zint ?zstr ?zset ?zreversed ?zdict ?vMOST_NAMES ?vMOST_REACH ?vMOST_NUMBERS ?vMOST_VALUE ?vMOST_READERS ?vMOST_DEEDS ?vSURE ?vSTALE ?vOPEN ?vWRITE ?vDELIVER
  (case aCOffice => k_is)
  (case pgOffice => k_is)
  (case hdOffice => k_is)
  (case poOffice => k_is)
  (case saOffice => k_is)
  (case mkOffice => k_is)
  (case kcOffice => k_is)
  (case nOffice_names => k_is)
  (case nOffice_reach => k_is)
  (case nOffice_written => k_is)
  (case aCShelf => k_is)
  (case pgShelf => k_is)
  (case hdShelf => k_is)
  (case poShelf => k_is)
  (case saShelf => k_is)
  (case mkShelf => k_is)
  (case kcShelf => k_is)
  (case nShelf_names => k_is)
  (case nShelf_reach => k_is)
  (case nShelf_issues => k_is)
  (case aCBook => k_is)
  (case pgBook => k_is)
  (case hdBook => k_is)
  (case poBook => k_is)
  (case saBook => k_is)
  (case mkBook => k_is)
  (case kcBook => k_is)
  (case nBook_office => k_is)
  (case nBook_readers => k_is)
  (case nBook_done => k_is)
  (case a0 => k_is)
  (case l0 => k_is)
  (case c0 => k_is)
  (case k0 => k_is)
  (case a1 => k_is)
  (case l1 => k_is)
  (case c1 => k_is)
  (case k1 => k_is)
  (case a2 => k_is)
  (case l2 => k_is)
  (case c2 => k_is)
  (case k2 => k_is)
  (case a3 => k_is)
  (case l3 => k_is)
  (case c3 => k_is)
  (case k3 => k_is)
  (case a4 => k_is)
  (case l4 => k_is)
  (case c4 => k_is)
  (case k4 => k_is)
  (case a5 => k_is)
  (case l5 => k_is)
  (case c5 => k_is)
  (case k5 => k_is)
  (case a6 => k_is)
  (case l6 => k_is)
  (case c6 => k_is)
  (case k6 => k_is)
  (case a7 => k_is)
  (case l7 => k_is)
  (case c7 => k_is)
  (case k7 => k_is)
  (case a8 => k_is)
  (case l8 => k_is)
  (case c8 => k_is)
  (case k8 => k_is)
  (case a9 => k_is)
  (case l9 => k_is)
  (case c9 => k_is)
  (case k9 => k_is)
  (case a10 => k_is)
  (case l10 => k_is)
  (case c10 => k_is)
  (case k10 => k_is)
  (case a11 => k_is)
  (case l11 => k_is)
  (case c11 => k_is)
  (case k11 => k_is)
  (case a12 => k_is)
  (case l12 => k_is)
  (case c12 => k_is)
  (case k12 => k_is)
  (case a13 => k_is)
  (case l13 => k_is)
  (case c13 => k_is)
  (case k13 => k_is)
  (case a14 => k_is)
  (case l14 => k_is)
  (case c14 => k_is)
  (case k14 => k_is)
  (case a15 => k_is)
  (case l15 => k_is)
  (case c15 => k_is)
  (case k15 => k_is)
  (case a16 => k_is)
  (case l16 => k_is)
  (case c16 => k_is)
  (case k16 => k_is)
  (case a17 => k_is)
  (case l17 => k_is)
  (case c17 => k_is)
  (case k17 => k_is)
  (case a18 => k_is)
  (case l18 => k_is)
  (case c18 => k_is)
  (case k18 => k_is)
  (case a19 => k_is)
  (case l19 => k_is)
  (case c19 => k_is)
  (case k19 => k_is)
  (case a20 => k_is)
  (case l20 => k_is)
  (case c20 => k_is)
  (case k20 => k_is)
  (case a21 => k_is)
  (case l21 => k_is)
  (case c21 => k_is)
  (case k21 => k_is)
  (case a22 => k_is)
  (case i22 => k_is)
  (case l22 => k_is)
  (case c22 => k_is)
  (case k22 => k_is)
  (case a23 => k_is)
  (case i23 => k_is)
  (case l23 => k_is)
  (case c23 => k_is)
  (case k23 => k_is)
  (case a24 => k_is)
  (case i24 => k_is)
  (case l24 => k_is)
  (case c24 => k_is)
  (case k24 => k_is)
  (case a25 => k_is)
  (case i25 => k_is)
  (case l25 => k_is)
  (case c25 => k_is)
  (case k25 => k_is)
  (case a26 => k_is)
  (case i26 => k_is)
  (case l26 => k_is)
  (case c26 => k_is)
  (case k26 => k_is)
  (case a27 => k_is)
  (case i27 => k_is)
  (case l27 => k_is)
  (case c27 => k_is)
  (case k27 => k_is)
  (case a28 => k_is)
  (case i28 => k_is)
  (case l28 => k_is)
  (case c28 => k_is)
  (case k28 => k_is)
  (case a29 => k_is)
  (case i29 => k_is)
  (case l29 => k_is)
  (case c29 => k_is)
  (case k29 => k_is)
  (case a30 => k_is)
  (case i30 => k_is)
  (case l30 => k_is)
  (case c30 => k_is)
  (case k30 => k_is)
  (case a31 => k_is)
  (case i31 => k_is)
  (case l31 => k_is)
  (case c31 => k_is)
  (case k31 => k_is)
  (case a32 => k_is)
  (case i32 => k_is)
  (case l32 => k_is)
  (case c32 => k_is)
  (case k32 => k_is)
  (case a33 => k_is)
  (case l33 => k_is)
  (case c33 => k_is)
  (case k33 => k_is)
  (case a34 => k_is)
  (case i34 => k_is)
  (case l34 => k_is)
  (case c34 => k_is)
  (case k34 => k_is)
  (case a35 => k_is)
  (case i35 => k_is)
  (case l35 => k_is)
  (case c35 => k_is)
  (case k35 => k_is)
  (case a36 => k_is)
  (case i36 => k_is)
  (case l36 => k_is)
  (case c36 => k_is)
  (case k36 => k_is)
  (case a37 => k_is)
  (case i37 => k_is)
  (case l37 => k_is)
  (case c37 => k_is)
  (case k37 => k_is)
  (case a38 => k_is)
  (case i38 => k_is)
  (case l38 => k_is)
  (case c38 => k_is)
  (case k38 => k_is)
  (case a39 => k_is)
  (case i39 => k_is)
  (case l39 => k_is)
  (case c39 => k_is)
  (case k39 => k_is)
  (case a40 => k_is)
  (case i40 => k_is)
  (case l40 => k_is)
  (case c40 => k_is)
  (case k40 => k_is)
  (case a41 => k_is)
  (case i41 => k_is)
  (case l41 => k_is)
  (case c41 => k_is)
  (case k41 => k_is)
  (case a42 => k_is)
  (case i42 => k_is)
  (case l42 => k_is)
  (case c42 => k_is)
  (case k42 => k_is)
  (case a43 => k_is)
  (case i43 => k_is)
  (case l43 => k_is)
  (case c43 => k_is)
  (case k43 => k_is)
  (case a44 => k_is)
  (case l44 => k_is)
  (case c44 => k_is)
  (case k44 => k_is)
  (case a45 => k_is)
  (case l45 => k_is)
  (case c45 => k_is)
  (case k45 => k_is)
  (case a46 => k_is)
  (case l46 => k_is)
  (case c46 => k_is)
  (case k46 => k_is)
  (case a47 => k_is)
  (case l47 => k_is)
  (case c47 => k_is)
  (case k47 => k_is)
  (case a48 => k_is)
  (case l48 => k_is)
  (case c48 => k_is)
  (case k48 => k_is)
  (case a49 => k_is)
  (case l49 => k_is)
  (case c49 => k_is)
  (case k49 => k_is)
  (case a50 => k_is)
  (case l50 => k_is)
  (case c50 => k_is)
  (case k50 => k_is)
  (case a51 => k_is)
  (case l51 => k_is)
  (case c51 => k_is)
  (case k51 => k_is)
  (case a52 => k_is)
  (case l52 => k_is)
  (case c52 => k_is)
  (case k52 => k_is)
  (case a53 => k_is)
  (case l53 => k_is)
  (case c53 => k_is)
  (case k53 => k_is)
  (case a54 => k_is)
  (case l54 => k_is)
  (case c54 => k_is)
  (case k54 => k_is)
  (case a55 => k_is)
  (case l55 => k_is)
  (case c55 => k_is)
  (case k55 => k_is)
  (case a56 => k_is)
  (case l56 => k_is)
  (case c56 => k_is)
  (case k56 => k_is)
  (case a57 => k_is)
  (case l57 => k_is)
  (case c57 => k_is)
  (case k57 => k_is)
  (case a58 => k_is)
  (case l58 => k_is)
  (case c58 => k_is)
  (case k58 => k_is)
  (case a59 => k_is)
  (case l59 => k_is)
  (case c59 => k_is)
  (case k59 => k_is)
  (case a60 => k_is)
  (case l60 => k_is)
  (case c60 => k_is)
  (case k60 => k_is)
  (case a61 => k_is)
  (case l61 => k_is)
  (case c61 => k_is)
  (case k61 => k_is)
  (case a62 => k_is)
  (case l62 => k_is)
  (case c62 => k_is)
  (case k62 => k_is)
  (case a63 => k_is)
  (case l63 => k_is)
  (case c63 => k_is)
  (case k63 => k_is)
  (case a64 => k_is)
  (case l64 => k_is)
  (case c64 => k_is)
  (case k64 => k_is)
  (case d43 => k_is)
  (case zlen => k_is)
  (case zrange => k_is)
  (case ztuple => k_is)
  (case zlist => k_is)
  (case zmax => k_is)
  (case zmin => k_is)
  (case zsorted => k_is)
  (case zisinstance => k_is)
  (case zbool => k_is)
  (case zint => k_is)
  (case zstr => k_is)
  (case zset => k_is)
  (case zreversed => k_is)
  (case zdict => k_is)
  (case vMOST_NAMES => k_is)
  (case vMOST_REACH => k_is)
  (case vMOST_NUMBERS => k_is)
  (case vMOST_VALUE => k_is)
  (case vMOST_READERS => k_is)
  (case vMOST_DEEDS => k_is)
  (case vSURE => k_is)
  (case vSTALE => k_is)
  (case vOPEN => k_is)
  (case vWRITE => k_is)
  (case vDELIVER => k_is)

