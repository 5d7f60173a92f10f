import PyProof.Rows.All
import Wide.All
import OpenK.AllK
import Wide.FinOn
import Lean
import PyProof.EqAt
import PyProof.EqKinds
import PyProof.TupleCall
import PyProof.WalksMore
import PyProof.ListRange
import PyProof.NeKinds
import PyProof.SliceStr2
import PyProof.StrOps2
import PyProof.Rows.SetFrom
import PyProof.MinMaxWalk
import KE.KRevIter
import KE.KDictList
import PyProof.AttrMiss
import PyProof.IsiH_list
import PyProof.IsiH_tuple
import KE.KDictOf
import PyProof.ZipIter
import PyProof.TupleIter
import PySem.Challenge.RW_backissues_k41_whole_full_reader
set_option Elab.async false
set_option linter.all false
set_option maxHeartbeats 4000000
set_option maxRecDepth 100000
namespace L2
open PySem PySem.Spec PyProof.Rows
abbrev Key := Sum Int Str
def y02 : Key -> Value -> Bool
 | .inl k, v => Value.isInt k v
 | .inr x, v => Value.isStrOf x v
def keyH (w : World) : Key -> Int
 | .inl k => hashInt k
 | .inr x => hashStr w x
theorem z10 : ∀ {k : Key} {v : Value}, y02 k v = true -> (∃ i t, k = Sum.inl i /\ v = Value.int i t) \/ (∃ x t, k = Sum.inr x /\ v = Value.str x t)
 | .inl i, v, h => by
  obtain ⟨t, e⟩ := Value.isInt_shape (k := i) (v := v) h
  exact .inl ⟨i, t, rfl, e⟩
 | .inr x, v, h => by
  obtain ⟨t, e⟩ := Value.isStrOf_shape (x := x) (v := v) h
  exact .inr ⟨x, t, rfl, e⟩
theorem y2J (i : Int) (t : Tok) : y02 (.inl i) (.int i t) = true := by simp [y02, Value.isInt]
theorem y2V (x : Str) (t : Tok) : y02 (.inr x) (.str x t) = true := by simp [y02, Value.isStrOf]
theorem y6v (a b : Int) : decide ((Sum.inl a : Key) = Sum.inl b) = (a == b) := by
 by_cases e : a = b
 ·subst e; simp
 ·have h : ¬ (Sum.inl a : Key) = Sum.inl b := fun q => e (Sum.inl.inj q)
  rw [decide_eq_false h]
  exact (beq_eq_false_iff_ne.mpr e).symm
theorem y6N (a b : Str) : decide ((Sum.inr a : Key) = Sum.inr b) = decide (a = b) := by
 by_cases e : a = b
 ·subst e; simp
 ·have h : ¬ (Sum.inr a : Key) = Sum.inr b := fun q => e (Sum.inr.inj q)
  rw [decide_eq_false h, decide_eq_false e]
theorem y6t (a : Int) (b : Str) : decide ((Sum.inl a : Key) = Sum.inr b) = false := decide_eq_false (fun q => nomatch q)
theorem y6T (a : Str) (b : Int) : decide ((Sum.inr a : Key) = Sum.inl b) = false := decide_eq_false (fun q => nomatch q)
def z1o (prog : Program) (w : World) : PySem.KeyKind prog w Key where
 is := y02
 hash := keyH w
 inj := fun v a b ha hb => by
  rcases z10 ha with ⟨i, t, rfl, rfl⟩ | ⟨x, t, rfl, rfl⟩
  ·rcases z10 hb with ⟨j, u, rfl, e⟩ | ⟨y, u, rfl, e⟩
   ·injection e with e1 _; rw [e1]
   ·exact nomatch e
  ·rcases z10 hb with ⟨j, u, rfl, e⟩ | ⟨y, u, rfl, e⟩
   ·exact nomatch e
   ·injection e with e1 _; rw [e1]
 byValue := fun k v h => by
  rcases z10 h with ⟨i, t, rfl, rfl⟩ | ⟨x, t, rfl, rfl⟩ <;> rfl
 pyHash := fun hv h => by
  rcases z10 hv with ⟨i, t, rfl, rfl⟩ | ⟨x, t, rfl, rfl⟩
  ·exact wpAny_pyHash_int h
  ·exact wpAny_pyHash_str h
 eqBool := fun hu hv h => by
  rcases z10 hu with ⟨i, t, rfl, rfl⟩ | ⟨x, t, rfl, rfl⟩
  ·rcases z10 hv with ⟨j, u, rfl, rfl⟩ | ⟨y, u, rfl, rfl⟩
   ·rw [y6v] at h; exact wpAny_eqBool_int h
   ·rw [y6t] at h; exact SeqAt.EqAt.int_str i t y u _ _ _ _ h
  ·rcases z10 hv with ⟨j, u, rfl, rfl⟩ | ⟨y, u, rfl, rfl⟩
   ·rw [y6T] at h; exact SeqAt.EqAt.str_int x t j u _ _ _ _ h
   ·rw [y6N] at h; exact wpAny_eqBool_str h
 «strs» := fun k x t v h => by
  rcases z10 h with ⟨i, u, rfl, e⟩ | ⟨y, u, rfl, e⟩
  ·exact nomatch e
  ·injection e with e1 _
   subst e1
   cases v <;> rfl
theorem y0b (prog : Program) (w : World) (i : Int) (t : Tok) : (z1o prog w).is (.inl i) (.int i t) = true := y2J i t
theorem y07 (prog : Program) (w : World) (x : Str) (t : Tok) : (z1o prog w).is (.inr x) (.str x t) = true := y2V x t
inductive V where
 | non | bl (b : Bool) | int (i : Int) | str (x : Str) | byt (b : Array UInt8) | flt (b : UInt64) | ref (a : Addr) | ty (n : String)
 deriving DecidableEq
def RelV : V -> Value -> Prop
 | .non, u => u = Value.none
 | .bl b, u => u = Value.bool b
 | .int i, u => ∃ t, u = Value.int i t
 | .str x, u => ∃ t, u = Value.str x t
 | .byt b, u => ∃ t, u = Value.bytes b t
 | .flt b, u => ∃ t, u = Value.float b t
 | .ref a, u => u = Value.ref a
 | .ty n, u => u = Value.type n
abbrev Vals : List V -> List Value -> Prop := Paired RelV
theorem Vals.length {xs : List V} {us : List Value} (r : Vals xs us) : xs.length = us.length := Paired.length r
theorem Vals.get : ∀ {xs : List V} {us : List Value} {i : Nat} {x : V}, Vals xs us -> xs[i]? = some x -> ∃ u, us[i]? = some u /\ RelV x u
 | _, _, _, _, .nil, e => by simp at e
 | _, _, 0, _, .cons r _, e => by simp at e; subst e; exact ⟨_, rfl, r⟩
 | _, _, i + 1, x, .cons _ t, e => by
  obtain ⟨u, h1, h2⟩ := Vals.get (i := i) (x := x) t (by simpa using e)
  exact ⟨u, by simpa using h1, h2⟩
theorem Vals.append : ∀ {xs ys : List V} {us ws : List Value}, Vals xs us -> Vals ys ws -> Vals (xs ++ ys) (us ++ ws)
 | _, _, _, _, .nil, s => s
 | _, _, _, _, .cons r t, s => .cons r (Vals.append t s)
theorem Vals.take : ∀ {xs : List V} {us : List Value} (n : Nat), Vals xs us -> Vals (xs.take n) (us.take n)
 | _, _, 0, _ => .nil
 | _, _, _ + 1, .nil => .nil
 | _, _, n + 1, .cons r t => .cons r (Vals.take n t)
theorem Vals.drop : ∀ {xs : List V} {us : List Value} (n : Nat), Vals xs us -> Vals (xs.drop n) (us.drop n)
 | _, _, 0, r => r
 | _, _, _ + 1, .nil => .nil
 | _, _, n + 1, .cons _ t => Vals.drop n t
def RelO : Option V -> Option Value -> Prop
 | some v, some u => RelV v u
 | none, none => True
 | _, _ => False
def KV {κ : Type} : List (κ × V) -> List (κ × Value) -> Prop := Paired fun (p : κ × V) (q : κ × Value) => p.1 = q.1 /\ RelV p.2 q.2
def kV : Key -> V
 | .inl i => .int i
 | .inr x => .str x
inductive HO where
 /-- a list -/
 | lst (xs : List V)
 /-- a tuple (never changes) -/
 | tup (xs : List V)
 /-- a dict whose keys are ints and texts; one whose keys are tuples of ints and texts (the empty one is both) -/
 | dK (kvs : List (Key × V)) | dT (kvs : List (List Key × V))
 /-- a set of ints: its members, its size -/
 | set (S : Int -> Bool) (n : Nat)
 /-- an instance of the class at C, its dict at dx, its attributes -/
 | ins (C dx : Addr) (fs : List (Str × V))
 /-- the dict of the instance at x -/
 | own (x : Addr)
 /-- the dict of an exception -/
 | xd (fs : List (Str × V))
 /-- a bound method, f of x -/
 | met (f x : Addr)
 /-- a range object lo, lo + 1, .. below hi -/
 | rng (lo hi : Int)
 /-- a thing that is known to the object (the script; a dict while a loop walks it): read, never written while it is so -/
 | frz (o : Obj) (u : HO)
 /-- a code object's table -/
 | tbl (ps : Array Value)
 /-- any other thing, by what is true of its one object (a def of one's own: SetO a S n := HO.ext fun h => ..) -/
 | ext (φ : Heap -> Prop)
abbrev Hp := Addr -> Option HO
def upd (H : Hp) (a : Addr) (o : HO) : Hp := fun b => if b = a then some o else H b
def PlT (h : Heap) (a : Addr) (items : Array Value) : Prop := ∃ o, h.get? a = some o /\ o.cls = .type "tuple" /\ (∃ n, o.data = .seq items n) /\ o.dict = none
theorem PlT.tup {h : Heap} {a : Addr} {items : Array Value} (p : PlT h a items) : IsTup h a items := let ⟨o, e, c, d, _⟩ := p; ⟨o, e, c, d⟩
theorem PlT.new (h : Heap) (items : Array Value) : PlT (h.push { cls := .type "tuple", data := .seq items }) h.objs.size items := ⟨_, Heap.get?_push_size _ rfl, rfl, ⟨_, rfl⟩, rfl⟩
theorem z02 {H : Hp} {a : Addr} {o : HO} : upd H a o a = some o := by unfold upd; rw [if_pos rfl]
theorem z0d {H : Hp} {a b : Addr} {o : HO} (h : b ≠ a) : upd H a o b = H b := by unfold upd; rw [if_neg h]
theorem z4U {H : Hp} {a : Addr} {o u : HO} : upd (upd H a o) a u = upd H a u := by
 funext b; unfold upd; split <;> rfl
theorem z4t {H : Hp} {a b : Addr} {o u : HO} (h : H a = some o) (h' : H b = some u) (d : o ≠ u) : a ≠ b := by
 intro e; subst e; rw [h] at h'; exact d (Option.some.inj h')
theorem z0i {H : Hp} {a b : Addr} {o : HO} (h : H a = some o) (h' : H b = none) : a ≠ b := by
 intro e; subst e; rw [h] at h'; cases h'
section
variable (P : Program) (w : World)
def z1f (H : Hp) (h : Heap) (a : Addr) : HO -> Prop
 | .lst xs => xs.length ≤ sizeLine /\ ∃ (its : List Value) (n : Nat), Vals xs its /\ h.get? a = some { cls := .type "list", data := .seq its.toArray n }
 | .tup xs => xs.length ≤ sizeLine /\ ∃ its : List Value, Vals xs its /\ PlT h a its.toArray
 | .dK kvs => kvs.length ≤ sizeLine /\ (a == sysModules) = false /\ ∃ vs, KV kvs vs /\ h.DictOf (z1o P w) a vs
 | .dT kvs => kvs.length ≤ sizeLine /\ (a == sysModules) = false /\ ∃ xs : List (List Key × Addr × Value),
   Paired (fun (p : List Key × V) (q : List Key × Addr × Value) => p.1 = q.1 /\ H q.2.1 = some (.tup (p.1.map kV)) /\ RelV p.2 q.2.2) kvs xs /\
   ∃ o es ep, h.get? a = some o /\ o.ExactDict /\ o.data = .dict es ep /\ es.toList = xs.map (entryOfKey (tupleKind (z1o P w))) /\ (xs.map (·.1)).Nodup
 | .set S n => h.SetOf (intKind P w) a S n
 | .ins C dx fs => H dx = some (.own a) /\ fs.length ≤ 1000 /\ dx ≠ a /\ h.get? a = some (PySem.W.instObj C dx) /\
   ∃ mA, h.Ns1 dx mA /\ (∀ f, RelO (fs.lookup f) (mA f)) /\ PySem.Within mA (fs.map (·.1))
 | .own _ => ∃ o, h.get? a = some o
 | .xd fs => ∃ mA, h.Ns1 a mA /\ ∀ f, RelO (fs.lookup f) (mA f)
 | .rng lo hi => ∃ t u v, h.get? a = some { cls := .type "range", data := .fields #[.int lo t, .int hi u, .int 1 v] }
 | .frz o u => h.get? a = some o /\ z1f H h a u
 | .tbl ps => h.get? a = some { cls := .none, data := .fields ps }
 | .met f x => h.get? a = some (PySem.W.methodObj (.ref f) (.ref x))
 | .ext φ => φ h /\ (∃ o, h.get? a = some o) /\ ∀ h1 h2 : Heap, φ h1 -> (∀ o, h1.get? a = some o -> h2.get? a = some o) -> φ h2
def HOk (H : Hp) (h : Heap) : Prop := ∀ a o, H a = some o -> z1f P w H h a o
end
section
variable {P : Program} {w : World} {H H' : Hp} {h h' : Heap} {a : Addr} {o : HO}
theorem z1f.lt (x : z1f P w H h a o) : a < h.objs.size := by
 cases o with
 | lst xs => obtain ⟨_, _, _, _, e⟩ := x; exact Heap.lt_size e
 | tup xs => obtain ⟨_, _, _, o, e, _⟩ := x; exact Heap.lt_size e
 | dK kvs => obtain ⟨_, _, _, _, o, _, _, e, _⟩ := x; exact Heap.lt_size e
 | dT kvs => obtain ⟨_, _, _, _, o, _, _, e, _⟩ := x; exact Heap.lt_size e
 | set S n => obtain ⟨o, _, _, _, e, _⟩ := x; exact Heap.lt_size e
 | ins C dx fs => obtain ⟨_, _, _, e, _⟩ := x; exact Heap.lt_size e
 | own y => obtain ⟨_, e⟩ := x; exact Heap.lt_size e
 | xd fs => obtain ⟨_, ⟨_, _, _, e, _⟩, _⟩ := x; exact Heap.lt_size e
 | rng lo hi => obtain ⟨_, _, _, e⟩ := x; exact Heap.lt_size e
 | frz ob u => obtain ⟨e, _⟩ := x; exact Heap.lt_size e
 | tbl ps => exact Heap.lt_size (show h.get? a = some _ from x)
 | met f y => exact Heap.lt_size (show h.get? a = some _ from x)
 | ext φ => obtain ⟨_, ⟨_, e⟩, _⟩ := x; exact Heap.lt_size e
theorem Paired.mapP {α β : Type} {F G : α -> β -> Prop} : ∀ {l₁ : List α} {l₂ : List β}, Paired F l₁ l₂ -> (∀ a b, F a b -> G a b) -> Paired G l₁ l₂
 | _, _, .nil, _ => .nil
 | _, _, .cons r t, f => .cons (f _ _ r) (Paired.mapP t f)
theorem z1f.stay (x : z1f P w H h a o) (k : ∀ b u, (b = a \/ H b = some (.own a)) -> h.get? b = some u -> h'.get? b = some u)
  (ho : ∀ b, H b = some (.own a) -> H' b = some (.own a)) (ht : ∀ b xs, H b = some (.tup xs) -> H' b = some (.tup xs)) : z1f P w H' h' a o := by
 induction o with
 | lst xs => obtain ⟨z, its, n, r, e⟩ := x; exact ⟨z, its, n, r, k _ _ (.inl rfl) e⟩
 | tup xs => obtain ⟨z, its, r, ob, e, c⟩ := x; exact ⟨z, its, r, ob, k _ _ (.inl rfl) e, c⟩
 | dK kvs => obtain ⟨z, y, vs, r, ob, es, ep, e, c⟩ := x; exact ⟨z, y, vs, r, ob, es, ep, k _ _ (.inl rfl) e, c⟩
 | dT kvs =>
  obtain ⟨z, y, xs, r, ob, es, ep, e, c⟩ := x
  exact ⟨z, y, xs, Paired.mapP r fun p q z => ⟨z.1, ht _ _ z.2.1, z.2.2⟩, ob, es, ep, k _ _ (.inl rfl) e, c⟩
 | set S n => obtain ⟨ob, es, ep, t, e, c⟩ := x; exact ⟨ob, es, ep, t, k _ _ (.inl rfl) e, c⟩
 | ins C dx fs =>
  obtain ⟨d, z, ne, e, mA, ⟨od, es, ep, e2, c⟩, r⟩ := x
  exact ⟨ho _ d, z, ne, k _ _ (.inl rfl) e, mA, ⟨od, es, ep, k _ _ (.inr d) e2, c⟩, r⟩
 | own y => obtain ⟨ob, e⟩ := x; exact ⟨ob, k _ _ (.inl rfl) e⟩
 | xd fs => obtain ⟨mA, ⟨od, es, ep, e, c⟩, r⟩ := x; exact ⟨mA, ⟨od, es, ep, k _ _ (.inl rfl) e, c⟩, r⟩
 | rng lo hi => obtain ⟨t, u, v, e⟩ := x; exact ⟨t, u, v, k _ _ (.inl rfl) e⟩
 | frz ob u ih => obtain ⟨e, q⟩ := x; exact ⟨k _ _ (.inl rfl) e, ih q⟩
 | tbl ps =>
  have e : h.get? a = some { cls := .none, data := .fields ps } := x
  show h'.get? a = some { cls := .none, data := .fields ps }
  exact k a _ (.inl rfl) e
 | met f y =>
  have e : h.get? a = some (PySem.W.methodObj (.ref f) (.ref y)) := x
  show h'.get? a = some (PySem.W.methodObj (.ref f) (.ref y))
  exact k a _ (.inl rfl) e
 | ext φ => obtain ⟨p, ⟨o, e⟩, st⟩ := x; exact ⟨st _ _ p fun o q => k _ _ (.inl rfl) q, ⟨o, k _ _ (.inl rfl) e⟩, st⟩
theorem HOk.lt (x : HOk P w H h) (e : H a = some o) : a < h.objs.size := (x a o e).lt
theorem HOk.fresh (x : HOk P w H h) (e : h.objs.size ≤ a) : H a = none := by
 cases q : H a with
 | none => rfl
 | some u => exact absurd (Nat.lt_of_lt_of_le (x.lt q) e) (Nat.lt_irrefl _)
theorem HOk.kept (x : HOk P w H h) (k : ∀ b u, h.get? b = some u -> h'.get? b = some u) : HOk P w H h' := fun a o e =>
 (x a o e).stay (fun b u _ q => k b u q) (fun _ q => q) fun _ _ q => q
theorem HOk.laid (x : HOk P w H h) (k : ∀ b u, h.get? b = some u -> h'.get? b = some u) (hp : h.objs.size ≤ a) (new : z1f P w (upd H a o) h' a o) : HOk P w (upd H a o) h' := fun b u e => by
 have hn := x.fresh hp
 by_cases hb : b = a
 ·subst hb; rw [z02] at e; cases e; exact new
 ·rw [z0d hb] at e
  exact (x b u e).stay (fun c v _ q => k c v q) (fun c q => by rw [z0d (z0i q hn)]; exact q) fun c xs q => by rw [z0d (z0i q hn)]; exact q
end
def Rd (H : Hp) (a : Addr) (u : HO) : Prop := H a = some u \/ ∃ o, H a = some (.frz o u)
theorem Rd.ok {P : Program} {w : World} {H : Hp} {h : Heap} {a : Addr} {u : HO} (r : Rd H a u) (x : HOk P w H h) : z1f P w H h a u := by
 rcases r with r | ⟨o, r⟩
 ·exact x a u r
 ·obtain ⟨_, q⟩ := x a _ r
  exact q
def Mut : Option HO -> Prop
 | some (.lst _) => True
 | some (.dK _) => True
 | some (.dT _) => True
 | some (.set _ _) => True
 | some (.ins _ _ _) => True
 | some (.ext _) => True
 | _ => False
section
variable {P : Program} {w : World} {H : Hp} {h h' : Heap} {x e : Addr} {o' : HO}
theorem HOk.write (ok : HOk P w H h) (mu : Mut (H x)) (he : e = x \/ H e = some (.own x)) (k : ∀ b u, b ≠ e -> h.get? b = some u -> h'.get? b = some u) (heo : ∃ u, h'.get? e = some u)
  (new : z1f P w (upd H x o') h' x o') : HOk P w (upd H x o') h' := fun b u q => by
 have nown : ∀ c y, H c = some (.own y) -> c ≠ x := fun c y r z => by subst z; rw [r] at mu; exact mu
 have ntup : ∀ c xs, H c = some (.tup xs) -> c ≠ x := fun c xs r z => by subst z; rw [r] at mu; exact mu
 by_cases hb : b = x
 ·subst hb; rw [z02] at q; cases q; exact new
 ·rw [z0d hb] at q
  by_cases hbe : b = e
  ·have q' : H b = some (.own x) := by
    rcases he with z | z
    ·exact absurd (hbe.trans z) hb
    ·rw [hbe]; exact z
   rw [q] at q'; cases q'
   obtain ⟨v, hv⟩ := heo
   exact ⟨v, by rw [hbe]; exact hv⟩
  ·refine (ok b u q).stay (fun c v hc r => k c v ?_ r) (fun c r => by rw [z0d (nown c b r)]; exact r) fun c xs r => by rw [z0d (ntup c xs r)]; exact r
   rcases hc with rfl | hc
   ·exact hbe
   ·rintro rfl
    rcases he with z | z
    ·exact nown c b hc z
    ·rw [hc] at z; cases z; exact hb rfl
end
structure Un (fs ex : List Addr) (H H' : Hp) (h h' : Heap) : Prop where
 keep : ∀ b o, h.get? b = some o -> H b = none -> b ∉ fs -> b ∉ ex -> h'.get? b = some o
 slot : ∀ b o, h.get? b = some o -> H b = none -> b ∈ fs -> b ∉ ex -> ∃ sl, h'.get? b = some { o with slots := sl }
 free : ∀ b o, h.get? b = some o -> H b = none -> b ∉ ex -> H' b = none
 there : ∀ b o, h.get? b = some o -> b ∉ ex -> ∃ o', h'.get? b = some o'
 tups : ∀ b xs, H b = some (.tup xs) -> H' b = some (.tup xs)
 frzs : ∀ b o u, H b = some (.frz o u) -> H' b = some (.frz o u)
 tbls : ∀ b ps, H b = some (.tbl ps) -> ∃ more, H' b = some (.tbl (ps ++ more))
section
variable {fs fs' ex ex' : List Addr} {H H1 H2 : Hp} {h h1 h2 h' : Heap} {a x e : Addr} {o : HO}
theorem Un.any (u : Un fs ex H H1 h h1) {b : Addr} {ob : Obj} (q : h.get? b = some ob) (n : H b = none) (hx : b ∉ ex) : ∃ sl, h1.get? b = some { ob with slots := sl } := by
 by_cases hb : b ∈ fs
 ·exact u.slot b ob q n hb hx
 ·exact ⟨ob.slots, u.keep b ob q n hb hx⟩
theorem Un.kept (k : ∀ b u, h.get? b = some u -> h'.get? b = some u) : Un fs ex H H h h' :=
 ⟨fun b ob q _ _ _ => k b ob q, fun b ob q _ _ _ => ⟨ob.slots, k b ob q⟩, fun _ _ _ n _ => n, fun b ob q _ => ⟨ob, k b ob q⟩, fun _ _ q => q, fun _ _ _ q => q, fun _ ps q => ⟨#[], by rw [q]; simp⟩⟩
theorem Un.refl : Un fs ex H H h h := Un.kept fun _ _ q => q
theorem Un.laid (k : ∀ b u, h.get? b = some u -> h'.get? b = some u) (hp : h.objs.size ≤ a) (hn : H a = none) : Un fs ex H (upd H a o) h h' where
 keep := fun b u q _ _ _ => k b u q
 slot := fun b u q _ _ _ => ⟨u.slots, k b u q⟩
 free := fun b u q n _ => by rw [z0d (Nat.ne_of_lt (Nat.lt_of_lt_of_le (Heap.lt_size q) hp))]; exact n
 there := fun b u q _ => ⟨u, k b u q⟩
 tups := fun b xs q => by rw [z0d (z0i q hn)]; exact q
 frzs := fun b u xs q => by rw [z0d (z0i q hn)]; exact q
 tbls := fun b ps q => ⟨#[], by rw [z0d (z0i q hn), q]; simp⟩
theorem Un.write (mu : Mut (H x)) (he : e = x \/ H e = some (.own x)) (k : ∀ b u, b ≠ e -> h.get? b = some u -> h'.get? b = some u) (heo : ∃ u, h'.get? e = some u) : Un fs ex H (upd H x o) h h' := by
 have hx : ∀ b, H b = none -> b ≠ x := fun b n z => by subst z; rw [n] at mu; exact mu
 have hb : ∀ b, H b = none -> b ≠ e := fun b n z => by
  subst z
  rcases he with r | r
  ·exact hx b n r
  ·rw [n] at r; cases r
 have hm : ∀ b u, H b = some u -> ¬ Mut (some u) -> b ≠ x := fun b u q nm z => by subst z; rw [q] at mu; exact nm mu
 refine ⟨fun b u q n _ _ => k b u (hb b n) q, fun b u q n _ _ => ⟨u.slots, k b u (hb b n) q⟩, fun b u q n _ => by rw [z0d (hx b n)]; exact n, fun b u q _ => ?_,
  fun b xs q => by rw [z0d (hm b _ q fun z => z)]; exact q, fun b u xs q => by rw [z0d (hm b _ q fun z => z)]; exact q, fun b ps q => ⟨#[], by rw [z0d (hm b _ q fun z => z), q]; simp⟩⟩
 by_cases hbe : b = e
 ·subst hbe; exact heo
 ·exact ⟨u, k b u hbe q⟩
end
def trk (h : Heap) (H : Hp) : List Addr := (List.range h.objs.size).filter fun a => (H a).isSome
def hidT (h : Heap) (H : Hp) : Heap := PySem.W.hideAll h (trk h H)
theorem y2B (h : Heap) (H : Hp) : (hidT h H).objs.size = h.objs.size := PySem.W.hideAll_size _ _
theorem y3U {h : Heap} {H : Hp} {b : Addr} {o : Obj} (e : h.get? b = some o) (n : H b = none) : (hidT h H).get? b = some o :=
 PySem.W.hideAll_get _ e fun hm => by
  have q : (H b).isSome = true := (List.mem_filter.mp hm).2
  rw [n] at q; simp at q
theorem y5B {h : Heap} {H : Hp} {b : Addr} {o : Obj} (e : (hidT h H).get? b = some o) : h.get? b = some o /\ H b = none := by
 have e' : h.get? b = some o := PySem.W.of_hideAll (trk h H) e
 refine ⟨e', ?_⟩
 cases q : H b with
 | none => rfl
 | some x =>
  have hm : b ∈ trk h H := List.mem_filter.mpr ⟨List.mem_range.mpr (Heap.lt_size e'), by simp [q]⟩
  have z : (hidT h H).get? b = none := PySem.W.hideAll_none (trk h H) hm
  rw [z] at e; cases e
def y5K (g h : Heap) (L : Addr) : List (Addr × Obj) := (List.range h.objs.size).filterMap fun a => if a = L \/ (g.get? a).isSome = true then none else (h.get? a).map fun o => (a, o)
def rest (g h : Heap) (L d : Addr) : List (Addr × Obj) := (y5K g h L).filter fun p => decide (p.1 ≠ d)
structure Mod (K : PySem.W.Frag) (mg : Str -> Option Value) (base : Heap) : Prop where
 kin : K.In base
 glob : base.Ns mainGlobals mg
 blt : ∃ mb, base.Ns builtinsNs mb /\ ∀ x : Str, x ≠ "__name__" -> mb x = bootBuiltins x
 nolimit : base.NoLimit
structure Cx where
 prog : Program
 w : World
 K : PySem.W.Frag
 mg : Str -> Option Value
 base : Heap
 A : Around
 N : List Str
 s₀ : Shared
 H₀ : Hp
 env : Env
 outer : List Env
 stack : List Env
 ex : List Addr
 fn : Str -> Bool
 calm : Bool
 pn : List (Addr × Obj)
 xe : Value -> Shared -> Prop
def frs (l : List Env) : List Addr := l.filterMap (·.frame)
abbrev Cx.fs (X : Cx) : List Addr := frs X.outer
def Vis (sc : Scope) (x : Str) : Prop := sc.names.lookup x = some .local \/ sc.names.lookup x = some .cell \/ sc.names.lookup x = some .free
def Loc (sc : Scope) (x : Str) : Prop := sc.names.lookup x = some .local \/ sc.names.lookup x = some .cell
def Look (env : Env) (h : Heap) (m : Str -> Option Value) (x : Str) (u : Value) : Prop :=
 (env.kindOf x = some .local /\ m x = some u) \/ ((env.kindOf x = some .cell \/ env.kindOf x = some .free) /\ ∃ c, env.cells.lookup x = some c /\ h.IsCell c (some u))
structure Cx.Ok (X : Cx) : Prop where
 mod : Mod X.K X.mg X.base
 kind : X.env.scope.kind = .function
 glob : X.env.globals = mainGlobals
 blt : X.env.builtins = builtinsNs
 above : X.s₀.heap.objs.size ≤ X.env.locals
 inj : ∀ x y c, X.env.cells.lookup x = some c -> X.env.cells.lookup y = some c -> x = y
 has : ∀ x, (X.env.kindOf x = some .cell \/ X.env.kindOf x = some .free) -> ∃ c, X.env.cells.lookup x = some c
 cab : ∀ x c, X.fn x = true -> X.env.cells.lookup x = some c -> X.s₀.heap.objs.size ≤ c
 hd : X.calm = true -> X.A.handled = none
 frames : X.A.frames = some X.stack
 stk : X.stack = X.outer \/ (X.stack = X.env :: X.outer /\ X.env.frame = some X.env.locals)
 exf : ∀ b ∈ X.ex, b ≠ X.env.locals /\ ∀ x c, X.env.cells.lookup x = some c -> c ≠ b
 bs : ∀ b o, X.base.get? b = some o -> X.s₀.heap.get? b = some o /\ X.H₀ b = none
 bsz : X.base.objs.size ≤ X.s₀.heap.objs.size
 noex : ∀ b o, X.base.get? b = some o -> b ∉ X.ex
 exfs : ∀ b ∈ X.ex, b ∉ X.fs
 funs : X.s₀.heap.FunFrames X.base X.outer
 frf : ∀ b ∈ X.fs, X.H₀ b = none
structure Inv (X : Cx) (pins : List (Addr × Obj)) (σ : List (Option V)) (H : Hp) (s : Shared) : Prop where
 ok : X.Ok
 os : s.os = X.s₀.os
 bare : AllBare s.gens
 base : Un X.fs X.ex X.H₀ H X.s₀.heap s.heap
 loc : ∃ m, s.heap.Ns X.env.locals m /\ ∀ (i : Nat) (x : Str) (v : V), X.N[i]? = some x -> σ[i]? = some (some v) -> Vis X.env.scope x -> ∃ u, RelV v u /\ Look X.env s.heap m x u
 cell : ∀ x c, X.env.cells.lookup x = some c -> ∃ v, s.heap.IsCell c v
 free : H X.env.locals = none
 freeC : ∀ x c, X.env.cells.lookup x = some c -> H c = none
 pin : ∀ p ∈ X.pn ++ pins, s.heap.get? p.1 = some p.2 /\ H p.1 = none /\ p.1 ≠ X.env.locals /\ p.1 ∉ X.fs /\ ∀ v, p.2.data ≠ .cell v
 hok : HOk X.prog X.w H s.heap
 len : σ.length = X.N.length
section
variable {X : Cx} {pins : List (Addr × Obj)} {σ : List (Option V)} {H H' : Hp} {s : Shared} {h' : Heap}
theorem Cx.Ok.nofr (ok : X.Ok) {b : Addr} {o : Obj} (e : X.base.get? b = some o) : b ∉ X.fs := fun hb => by
 have := (ok.funs.mem hb).1
 rw [e] at this; cases this
theorem Inv.bs (I : Inv X pins σ H s) : ∀ b o, X.base.get? b = some o -> s.heap.get? b = some o /\ H b = none := fun b o e =>
 ⟨I.base.keep b o (I.ok.bs b o e).1 (I.ok.bs b o e).2 (I.ok.nofr e) (I.ok.noex b o e), I.base.free b o (I.ok.bs b o e).1 (I.ok.bs b o e).2 (I.ok.noex b o e)⟩
theorem Inv.bk (I : Inv X pins σ H s) : ∀ b o, X.base.get? b = some o -> s.heap.get? b = some o := fun b o e => (I.bs b o e).1
theorem Inv.mod (I : Inv X pins σ H s) : Mod X.K X.mg X.base := I.ok.mod
theorem Inv.kIn (I : Inv X pins σ H s) : X.K.In s.heap := I.ok.mod.kin.keeps I.bk
theorem Inv.fr (I : Inv X pins σ H s) : ∃ m, Fr X.base X.env.locals s.heap m :=
 let ⟨m, hn, _⟩ := I.loc
 ⟨m, hn, I.bk, Nat.le_trans I.ok.bsz I.ok.above⟩
theorem Inv.lt (I : Inv X pins σ H s) : X.env.locals < s.heap.objs.size := let ⟨_, hn, _⟩ := I.loc; hn.lt
theorem Inv.sz (I : Inv X pins σ H s) : X.s₀.heap.objs.size ≤ s.heap.objs.size := Nat.le_trans I.ok.above (Nat.le_of_lt I.lt)
theorem Inv.nofs (I : Inv X pins σ H s) {a : Addr} (h : s.heap.objs.size ≤ a) : a ∉ X.fs := fun hb => by
 obtain ⟨_, o, ho, _⟩ := I.ok.funs.mem hb
 exact absurd (Nat.lt_of_lt_of_le (Heap.lt_size ho) (Nat.le_trans I.sz h)) (Nat.lt_irrefl _)
theorem Inv.cne (I : Inv X pins σ H s) : ∀ x c, X.env.cells.lookup x = some c -> c ≠ X.env.locals := fun x c e z => by
 obtain ⟨v, o, ho, hd⟩ := I.cell x c e
 obtain ⟨m, ⟨o', es, ep, ho', hd', _⟩, _⟩ := I.loc
 rw [z, ho'] at ho; cases ho; rw [hd'] at hd; cases hd
theorem Inv.funs (I : Inv X pins σ H s) : s.heap.FunFrames X.base X.outer := by
 have all : ∀ (l : List Env), (∀ b ∈ frs l, b ∈ X.fs) -> X.s₀.heap.FunFrames X.base l -> s.heap.FunFrames X.base l := by
  intro l
  induction l with
  | nil => intro _ _; trivial
  | cons env r ih =>
   intro hs hl
   obtain ⟨hk, ⟨L, o, hf, hn, ho, hd⟩, hr⟩ := hl
   have hL : L ∈ X.fs := hs L (by unfold frs; rw [List.filterMap_cons, hf]; exact List.mem_cons_self)
   obtain ⟨sl, e⟩ := I.base.slot L o ho (I.ok.frf L hL) hL fun z => I.ok.exfs L z hL
   exact ⟨hk, ⟨L, _, hf, hn, e, hd⟩, ih (fun b hb => hs b (by unfold frs; rw [List.filterMap_cons, hf]; exact List.mem_cons_of_mem _ hb)) hr⟩
 exact all X.outer (fun _ hb => hb) I.ok.funs
theorem Inv.stack (I : Inv X pins σ H s) : s.heap.FunFrames X.base X.stack := by
 rcases I.ok.stk with e | ⟨e, hf⟩
 ·rw [e]; exact I.funs
 ·rw [e]
  obtain ⟨m, hn, _⟩ := I.loc
  refine .cons (by rw [I.ok.kind]; decide) hf hn ?_ I.funs
  exact Heap.get?_none_of_le (Nat.le_trans I.ok.bsz I.ok.above)
theorem Inv.stkSub (I : Inv X pins σ H s) : ∀ b ∈ frs X.stack, b ∈ X.env.locals :: X.fs := fun b hb => by
 rcases I.ok.stk with e | ⟨e, hf⟩
 ·rw [e] at hb; exact List.mem_cons_of_mem _ hb
 ·rw [e] at hb
  unfold frs at hb
  rw [List.filterMap_cons, hf] at hb
  exact hb
theorem Inv.stkFree (I : Inv X pins σ H s) : ∀ b ∈ frs X.stack, H b = none := fun b hb => by
 rcases List.mem_cons.mp (I.stkSub b hb) with e | hb
 ·rw [e]; exact I.free
 ·obtain ⟨_, o, ho, _⟩ := I.ok.funs.mem hb
  exact I.base.free b o ho (I.ok.frf b hb) fun z => I.ok.exfs b z hb
theorem Inv.step {g' : Array GenState} {t' : Nat} {d' : Drawn} {ch : List Addr} (I : Inv X pins σ H s)
  (hch : ∀ b ∈ ch, (b ∈ X.ex \/ X.s₀.heap.objs.size ≤ b) /\ b ≠ X.env.locals /\ (∀ x c, X.env.cells.lookup x = some c -> c ≠ b) /\ ∀ p ∈ X.pn ++ pins, p.1 ≠ b)
  (keep : ∀ b o, b ≠ X.env.locals -> b ∉ X.fs -> b ∉ ch -> s.heap.get? b = some o -> H b = none -> h'.get? b = some o)
  (slot : ∀ b o, b ≠ X.env.locals -> b ∈ X.fs -> b ∉ ch -> s.heap.get? b = some o -> H b = none -> ∃ sl, h'.get? b = some { o with slots := sl }) (free : ∀ b o, b ∉ ch -> s.heap.get? b = some o -> H b = none -> H' b = none)
  (there : ∀ b o, b ∉ ch -> s.heap.get? b = some o -> ∃ o', h'.get? b = some o')
  (tups : ∀ b xs, H b = some (.tup xs) -> H' b = some (.tup xs)) (frzs : ∀ b o u, H b = some (.frz o u) -> H' b = some (.frz o u)) (tbls : ∀ b ps, H b = some (.tbl ps) -> ∃ more, H' b = some (.tbl (ps ++ more)))
  (ns : ∀ m, s.heap.Ns X.env.locals m -> h'.Ns X.env.locals m) (hok : HOk X.prog X.w H' h') (hg : AllBare g') :
  Inv X pins σ H' { s with heap := h', gens := g', drawn := d', toks := t' } := by
 have neL : ∀ b o, X.s₀.heap.get? b = some o -> b ≠ X.env.locals := fun b o e => Nat.ne_of_lt (Nat.lt_of_lt_of_le (Heap.lt_size e) I.ok.above)
 have neC : ∀ b o, X.s₀.heap.get? b = some o -> b ∉ X.ex -> b ∉ ch := fun b o e hx hb => by
  rcases (hch b hb).1 with z | z
  ·exact hx z
  ·exact absurd (Nat.lt_of_lt_of_le (Heap.lt_size e) z) (Nat.lt_irrefl _)
 have cellK : ∀ x c, X.env.cells.lookup x = some c -> ∀ v, s.heap.IsCell c v -> h'.IsCell c v := fun x c e v ⟨o, ho, hd⟩ => by
  have nch : c ∉ ch := fun z => (hch c z).2.2.1 x c e rfl
  by_cases hc : c ∈ X.fs
  ·obtain ⟨sl, q⟩ := slot c o (I.cne x c e) hc nch ho (I.freeC x c e)
   exact ⟨_, q, hd⟩
  ·exact ⟨o, keep c o (I.cne x c e) hc nch ho (I.freeC x c e), hd⟩
 refine ⟨I.ok, I.os, hg, ⟨fun b o e n hb hx => ?_, fun b o e n hb hx => ?_, fun b o e n hx => ?_, fun b o e hx => ?_, fun b xs e => tups b xs (I.base.tups b xs e), fun b o xs e => frzs b o xs (I.base.frzs b o xs e), fun b ps e => ?_⟩, ?_, fun x c e => ?_, ?_, fun x c e => ?_, fun p hp => ?_, hok, I.len⟩
 ·exact keep b o (neL b o e) hb (neC b o e hx) (I.base.keep b o e n hb hx) (I.base.free b o e n hx)
 ·obtain ⟨sl, e1⟩ := I.base.slot b o e n hb hx
  obtain ⟨sl', e2⟩ := slot b _ (neL b o e) hb (neC b o e hx) e1 (I.base.free b o e n hx)
  exact ⟨sl', e2⟩
 ·obtain ⟨o', e1⟩ := I.base.there b o e hx
  exact free b o' (neC b o e hx) e1 (I.base.free b o e n hx)
 ·obtain ⟨o', e1⟩ := I.base.there b o e hx
  exact there b o' (neC b o e hx) e1
 ·obtain ⟨m1, e1⟩ := I.base.tbls b ps e
  obtain ⟨m2, e2⟩ := tbls b _ e1
  exact ⟨m1 ++ m2, by rw [e2, Array.append_assoc]⟩
 ·obtain ⟨m, hn, hl⟩ := I.loc
  refine ⟨m, ns m hn, fun i x v e1 e2 e3 => ?_⟩
  obtain ⟨u, r, l⟩ := hl i x v e1 e2 e3
  refine ⟨u, r, ?_⟩
  rcases l with l | ⟨k, c, e, z⟩
  ·exact .inl l
  ·exact .inr ⟨k, c, e, cellK x c e _ z⟩
 ·obtain ⟨v, z⟩ := I.cell x c e
  exact ⟨v, cellK x c e v z⟩
 ·obtain ⟨m, ⟨o, _, _, ho, _⟩, _⟩ := I.loc
  exact free _ o (fun z => (hch _ z).2.1 rfl) ho I.free
 ·obtain ⟨v, o, ho, hd⟩ := I.cell x c e
  exact free c o (fun z => (hch c z).2.2.1 x c e rfl) ho (I.freeC x c e)
 ·obtain ⟨e, n, ne, nf, d⟩ := I.pin p hp
  have nch : p.1 ∉ ch := fun z => (hch p.1 z).2.2.2 p hp rfl
  exact ⟨keep p.1 p.2 ne nf nch e n, free p.1 p.2 nch e n, ne, nf, d⟩
theorem Inv.un {t' : Nat} (I : Inv X pins σ H s) (u : Un X.fs [] H H' s.heap h') (hok : HOk X.prog X.w H' h') : Inv X pins σ H' { s with heap := h', toks := t' } := by
 obtain ⟨m, ⟨o, es, ep, ho, r⟩, _⟩ := id I.loc
 obtain ⟨sl, hL⟩ := u.any ho I.free (by simp)
 exact I.step (g' := s.gens) (d' := s.drawn) (ch := []) (fun _ z => nomatch z) (fun b o _ hb _ e n => u.keep b o e n hb (by simp)) (fun b o _ hb _ e n => u.slot b o e n hb (by simp)) (fun b o _ e n => u.free b o e n (by simp)) (fun b o _ e => u.there b o e (by simp)) u.tups u.frzs u.tbls (fun m' hm => by
  obtain ⟨o', es', ep', ho', r'⟩ := hm
  rw [ho] at ho'; cases ho'
  exact ⟨_, es', ep', hL, r'⟩) hok I.bare
theorem Inv.call {g' : Array GenState} {t' : Nat} {d' : Drawn} {ch : List Addr} (I : Inv X pins σ H s) (u : Un (frs X.stack) ch H H' s.heap h') (hok : HOk X.prog X.w H' h') (hg : AllBare g')
  (hch : ∀ b ∈ ch, (b ∈ X.ex \/ X.s₀.heap.objs.size ≤ b) /\ b ≠ X.env.locals /\ (∀ x c, X.env.cells.lookup x = some c -> c ≠ b) /\ ∀ p ∈ X.pn ++ pins, p.1 ≠ b) :
  Inv X pins σ H' { s with heap := h', gens := g', drawn := d', toks := t' } := by
 obtain ⟨m, ⟨o, es, ep, ho, r⟩, _⟩ := id I.loc
 obtain ⟨sl, hL⟩ := u.any ho I.free fun z => (hch _ z).2.1 rfl
 exact I.step (ch := ch) hch (fun b o hL hb hc e n => u.keep b o e n (fun z => (List.mem_cons.mp (I.stkSub b z)).elim hL hb) hc) (fun b o _ _ hc e n => u.any e n hc) (fun b o hc e n => u.free b o e n hc) (fun b o hc e => u.there b o e hc) u.tups u.frzs u.tbls (fun m' hm => by
  obtain ⟨o', es', ep', ho', r'⟩ := hm
  rw [ho] at ho'; cases ho'
  exact ⟨_, es', ep', hL, r'⟩) hok hg
theorem Inv.turned {t' : Nat} {it : Addr} (I : Inv X pins σ H s) (k : ∀ b o, b ≠ it -> s.heap.get? b = some o -> h'.get? b = some o) (hn : H it = none) (hL : it ≠ X.env.locals)
  (h1 : it ∈ X.ex \/ X.s₀.heap.objs.size ≤ it) (h2 : ∀ x c, X.env.cells.lookup x = some c -> c ≠ it) (h3 : ∀ p ∈ X.pn ++ pins, p.1 ≠ it) : Inv X pins σ H { s with heap := h', toks := t' } := by
 have nit : ∀ b u, H b = some u -> b ≠ it := fun b u e z => by rw [z, hn] at e; cases e
 refine I.step (g' := s.gens) (d' := s.drawn) (ch := [it]) (fun b hb => ?_) (fun b o _ _ hc e _ => k b o (fun z => hc (by simp [z])) e) (fun b o _ _ hc e _ => ⟨o.slots, k b o (fun z => hc (by simp [z])) e⟩) (fun _ _ _ _ n => n)
  (fun b o hc e => ⟨o, k b o (fun z => hc (by simp [z])) e⟩) (fun _ _ e => e) (fun _ _ _ e => e) (fun b ps e => ⟨#[], by rw [e]; simp⟩) (fun m hm => ?_) (fun b u e => ?_) I.bare
 ·have e : b = it := by simpa using hb
  subst e
  exact ⟨h1, hL, h2, h3⟩
 ·obtain ⟨o, es, ep, ho, r⟩ := hm
  exact ⟨o, es, ep, k _ o (Ne.symm hL) ho, r⟩
 ·refine (I.hok b u e).stay (fun c v hc q => k c v ?_ q) (fun _ q => q) fun _ _ q => q
  rcases hc with z | z
  ·rw [z]; exact nit b u e
  ·exact nit c _ z
theorem Inv.tok (I : Inv X pins σ H s) (t : Nat) : Inv X pins σ H { s with toks := t } := I.un (h' := s.heap) (t' := t) Un.refl I.hok
theorem Inv.kept {t' : Nat} (I : Inv X pins σ H s) (k : ∀ b u, s.heap.get? b = some u -> h'.get? b = some u) : Inv X pins σ H { s with heap := h', toks := t' } := I.un (Un.kept k) (I.hok.kept k)
theorem Inv.laid {a : Addr} {o : HO} {t' : Nat} (I : Inv X pins σ H s) (k : ∀ b u, s.heap.get? b = some u -> h'.get? b = some u) (hp : s.heap.objs.size ≤ a) (new : z1f X.prog X.w (upd H a o) h' a o) :
  Inv X pins σ (upd H a o) { s with heap := h', toks := t' } := I.un (Un.laid k hp (I.hok.fresh hp)) (I.hok.laid k hp new)
theorem Inv.write {x e : Addr} {o : HO} {t' : Nat} (I : Inv X pins σ H s) (mu : Mut (H x)) (he : e = x \/ H e = some (.own x)) (k : ∀ b u, b ≠ e -> s.heap.get? b = some u -> h'.get? b = some u) (heo : ∃ u, h'.get? e = some u)
  (new : z1f X.prog X.w (upd H x o) h' x o) : Inv X pins σ (upd H x o) { s with heap := h', toks := t' } := I.un (Un.write mu he k heo) (I.hok.write mu he k heo new)
theorem Inv.weak {σ' : List (Option V)} (I : Inv X pins σ H s) (hl : σ'.length = σ.length) (w : ∀ (i : Nat) v, σ'[i]? = some (some v) -> σ[i]? = some (some v)) : Inv X pins σ' H s :=
 ⟨I.ok, I.os, I.bare, I.base, let ⟨m, hn, hl'⟩ := I.loc; ⟨m, hn, fun i x v e1 e2 e3 => hl' i x v e1 (w i v e2) e3⟩, I.cell, I.free, I.freeC, I.pin, I.hok, hl.trans I.len⟩
theorem Inv.pins_of {pins' : List (Addr × Obj)} (I : Inv X pins σ H s) (h : ∀ p ∈ pins', s.heap.get? p.1 = some p.2 /\ H p.1 = none /\ p.1 ≠ X.env.locals /\ p.1 ∉ X.fs /\ ∀ v, p.2.data ≠ .cell v) : Inv X pins' σ H s :=
 ⟨I.ok, I.os, I.bare, I.base, I.loc, I.cell, I.free, I.freeC, fun p hp => (List.mem_append.mp hp).elim (fun z => I.pin p (List.mem_append_left _ z)) (h p), I.hok, I.len⟩
theorem y0Z {N : List Str} (hN : N.Nodup) {i j : Nat} {x : Str} (a : N[i]? = some x) (b : N[j]? = some x) : i = j := by
 obtain ⟨h1, e1⟩ := List.getElem?_eq_some_iff.mp a
 obtain ⟨h2, e2⟩ := List.getElem?_eq_some_iff.mp b
 exact (List.getElem_inj hN).mp (e1.trans e2.symm)
theorem y3o {M : Model} {A : Around} {E : Value -> Shared -> Prop} {i : Nat} {x : Str} {v : V} {u : Value} {Q : Unit -> Shared -> Prop} (I : Inv X pins σ H s) (hN : X.N.Nodup) (hi : X.N[i]? = some x) (hx : Loc X.env.scope x) (r : RelV v u)
  (h : ∀ s', Inv X pins (σ.set i (some v)) H s' -> (∃ a, Heap.SameBut a s.heap s'.heap /\ (a = X.env.locals \/ X.env.cells.lookup x = some a)) -> Q () s') (hf : X.fn x = true \/ X.env.scope.names.lookup x = some .local := by first | exact .inl rfl | exact .inr rfl | assumption) : wpAny M A (storeName X.env x u) Q E s := by
 obtain ⟨m, hn, hl⟩ := id I.loc
 have hcls : (X.env.scope.kind == .class || (X.env.scope.kind == .module && X.env.locals != X.env.globals)) = false := by rw [I.ok.kind]; rfl
 have hiσ : i < σ.length := by rw [I.len]; exact (List.getElem?_eq_some_iff.mp hi).1
 have cne := I.cne
 have tracked : ∀ {a : Addr} {h' : Heap}, (∃ o, s.heap.get? a = some o /\ H a = none) -> Heap.SameBut a s.heap h' -> HOk X.prog X.w H h' := fun {a h'} ha hs b ob e => by
  obtain ⟨_, _, hfree⟩ := ha
  refine (I.hok b ob e).stay (fun c w' hc q => (hs.2 c ?_).trans q) (fun _ q => q) fun _ _ q => q
  rintro rfl
  rcases hc with rfl | hc
  ·rw [hfree] at e; cases e
  ·rw [hfree] at hc; cases hc
 rcases hx with hk | hk
 ·refine wpAny_storeName_local hk hn (fun h' hn' hs => ?_) hcls
  obtain ⟨oL, _, _, hoL, _⟩ := id hn
  refine h _ ⟨I.ok, I.os, I.bare, ⟨fun b o e n hb hx => ?_, fun b o e n hb hx => ?_, I.base.free, fun b o e hx => ?_, I.base.tups, I.base.frzs, I.base.tbls⟩, ⟨_, hn', fun j y v' e1 e2 e3 => ?_⟩, fun y c e => ?_, I.free, I.freeC, fun p hp => ?_, tracked ⟨oL, hoL, I.free⟩ hs, by simpa using I.len⟩ ⟨_, hs, .inl rfl⟩
  ·exact (hs.2 b (Nat.ne_of_lt (Nat.lt_of_lt_of_le (Heap.lt_size e) I.ok.above))).trans (I.base.keep b o e n hb hx)
  ·obtain ⟨sl, e1⟩ := I.base.slot b o e n hb hx
   exact ⟨sl, (hs.2 b (Nat.ne_of_lt (Nat.lt_of_lt_of_le (Heap.lt_size e) I.ok.above))).trans e1⟩
  ·obtain ⟨o', e1⟩ := I.base.there b o e hx
   exact ⟨o', (hs.2 b (Nat.ne_of_lt (Nat.lt_of_lt_of_le (Heap.lt_size e) I.ok.above))).trans e1⟩
  ·by_cases hj : j = i
   ·subst hj
    rw [hi] at e1; cases e1
    rw [List.getElem?_set_self hiσ] at e2
    cases e2
    exact ⟨u, r, .inl ⟨hk, by simp⟩⟩
   ·rw [List.getElem?_set_ne (Ne.symm hj)] at e2
    obtain ⟨u', r', q⟩ := hl j y v' e1 e2 e3
    refine ⟨u', r', ?_⟩
    rcases q with ⟨k, e⟩ | ⟨k, c, e, z⟩
    ·refine .inl ⟨k, ?_⟩
     have : y ≠ x := fun e => hj (y0Z hN e1 (e ▸ hi))
     simp [this, e]
    ·exact .inr ⟨k, c, e, z.sameBut hs (cne y c e)⟩
  ·obtain ⟨w', z⟩ := I.cell y c e
   exact ⟨w', z.sameBut hs (cne y c e)⟩
  ·obtain ⟨e, n, ne, nf, d⟩ := I.pin p hp
   exact ⟨(hs.2 p.1 ne).trans e, n, ne, nf, d⟩
 ·have hfn : X.fn x = true := by
   rcases hf with z | z
   ·exact z
   ·rw [z] at hk; cases hk
  obtain ⟨c, hc⟩ := I.ok.has x (.inl hk)
  obtain ⟨w', z⟩ := I.cell x c hc
  refine wpAny_storeName_cell I.ok.kind hk hc z (fun h' hc' hs => ?_)
  obtain ⟨oc, hoc, hocd⟩ := id z
  refine h { s with heap := h' } ⟨I.ok, I.os, I.bare, ⟨fun b o e n hb hx => ?_, fun b o e n hb hx => ?_, I.base.free, fun b o e hx => ?_, I.base.tups, I.base.frzs, I.base.tbls⟩, ⟨m, hn.sameBut hs (Ne.symm (cne x c hc)), fun j y v' e1 e2 e3 => ?_⟩, fun y c' e => ?_, I.free, I.freeC, fun p hp => ?_, tracked ⟨oc, hoc, I.freeC x c hc⟩ hs, by simpa using I.len⟩ ⟨c, hs, .inr hc⟩
  ·exact (hs.2 b (Nat.ne_of_lt (Nat.lt_of_lt_of_le (Heap.lt_size e) (I.ok.cab x c hfn hc)))).trans (I.base.keep b o e n hb hx)
  ·obtain ⟨sl, e1⟩ := I.base.slot b o e n hb hx
   exact ⟨sl, (hs.2 b (Nat.ne_of_lt (Nat.lt_of_lt_of_le (Heap.lt_size e) (I.ok.cab x c hfn hc)))).trans e1⟩
  ·obtain ⟨o', e1⟩ := I.base.there b o e hx
   exact ⟨o', (hs.2 b (Nat.ne_of_lt (Nat.lt_of_lt_of_le (Heap.lt_size e) (I.ok.cab x c hfn hc)))).trans e1⟩
  ·by_cases hj : j = i
   ·subst hj
    rw [hi] at e1; cases e1
    rw [List.getElem?_set_self hiσ] at e2
    cases e2
    exact ⟨u, r, .inr ⟨.inl hk, c, hc, hc'⟩⟩
   ·rw [List.getElem?_set_ne (Ne.symm hj)] at e2
    obtain ⟨u', r', q⟩ := hl j y v' e1 e2 e3
    refine ⟨u', r', ?_⟩
    rcases q with q | ⟨k, c', e, z'⟩
    ·exact .inl q
    ·refine .inr ⟨k, c', e, z'.sameBut hs ?_⟩
     rintro rfl
     exact hj (y0Z hN e1 (I.ok.inj _ _ _ e hc ▸ hi))
  ·by_cases hcc : c' = c
   ·subst hcc; exact ⟨_, hc'⟩
   ·obtain ⟨w2, z2⟩ := I.cell y c' e
    exact ⟨w2, z2.sameBut hs hcc⟩
  ·obtain ⟨e, n, ne, nf, d⟩ := I.pin p hp
   refine ⟨(hs.2 p.1 ?_).trans e, n, ne, nf, d⟩
   intro q
   rw [q, hoc] at e
   have q' : oc = p.2 := Option.some.inj e
   exact d w' (by rw [<- q']; exact hocd)
theorem y0G {M : Model} {A : Around} {E : Value -> Shared -> Prop} {i : Nat} {x : Str} {v : V} {u : Value} {Q : Unit -> Shared -> Prop} (I : Inv X pins σ H s) (hN : X.N.Nodup) (hi : X.N[i]? = some x) (hx : Loc X.env.scope x) (r : RelV v u)
  (h : ∀ s', Inv X pins (σ.set i (some v)) H s' -> Q () s') (hf : X.fn x = true \/ X.env.scope.names.lookup x = some .local := by first | exact .inl rfl | exact .inr rfl | assumption) : wpAny M A (storeName X.env x u) Q E s :=
 y3o I hN hi hx r (fun s' I' _ => h s' I') hf
theorem Inv.call' {s' : Shared} {ch : List Addr} (I : Inv X pins σ H s) (ho : s'.os = s.os) (u : Un (frs X.stack) ch H H' s.heap s'.heap) (hok : HOk X.prog X.w H' s'.heap) (hg : AllBare s'.gens)
  (hch : ∀ b ∈ ch, (b ∈ X.ex \/ X.s₀.heap.objs.size ≤ b) /\ b ≠ X.env.locals /\ (∀ x c, X.env.cells.lookup x = some c -> c ≠ b) /\ ∀ p ∈ X.pn ++ pins, p.1 ≠ b) : Inv X pins σ H' s' := by
 obtain ⟨h', g', d', t', o'⟩ := s'
 have e : o' = s.os := ho
 subst e
 exact I.call (g' := g') (t' := t') (d' := d') u hok hg hch
end
abbrev XK := Value -> Option Addr -> Hp -> Prop
abbrev St := List (Option V)
abbrev VK := V -> Hp -> Prop
abbrev TE := St -> Hp -> VK -> Prop
abbrev TT := St -> Hp -> (Bool -> Hp -> Prop) -> Prop
abbrev TA := St -> Hp -> (List V -> Hp -> Prop) -> Prop
structure Ends where
 nx : St -> Hp -> Prop
 rt : VK
 bk : St -> Hp -> Prop := fun _ _ => False
 ct : St -> Hp -> Prop := fun _ _ => False
abbrev TS := Ends -> St -> Hp -> Prop
def EP (X : Cx) (pins : List (Addr × Obj)) (σ : St) (Q : VK) (u : Value) (s' : Shared) : Prop := ∃ v H', Inv X pins σ H' s' /\ RelV v u /\ Q v H'
def TP (X : Cx) (pins : List (Addr × Obj)) (σ : St) (Q : Bool -> Hp -> Prop) (b : Bool) (s' : Shared) : Prop := ∃ H', Inv X pins σ H' s' /\ Q b H'
def AP (X : Cx) (pins : List (Addr × Obj)) (σ : St) (Q : List V -> Hp -> Prop) (us : List Value) (s' : Shared) : Prop := ∃ vs H', Inv X pins σ H' s' /\ Vals vs us /\ Q vs H'
def SP (X : Cx) (pins : List (Addr × Obj)) (D : Ends) (f : Flow) (s' : Shared) : Prop :=
 match f with
 | .next => ∃ σ' H', Inv X pins σ' H' s' /\ D.nx σ' H'
 | .brk => ∃ σ' H', Inv X pins σ' H' s' /\ D.bk σ' H'
 | .cont => ∃ σ' H', Inv X pins σ' H' s' /\ D.ct σ' H'
 | .ret u => ∃ v σ' H', Inv X pins σ' H' s' /\ RelV v u /\ D.rt v H'
def PE (X : Cx) (e : Expr) (t : TE) : Prop :=
 ∀ (pins : List (Addr × Obj)) (s : Shared) (σ : St) (H : Hp) (Q : VK), Inv X pins σ H s -> t σ H Q -> wpAny (model X.prog X.w) X.A (eval e X.env) (EP X pins σ Q) X.xe s
def PT (X : Cx) (e : Expr) (t : TT) : Prop :=
 ∀ (pins : List (Addr × Obj)) (s : Shared) (σ : St) (H : Hp) (Q : Bool -> Hp -> Prop), Inv X pins σ H s -> t σ H Q -> wpAny (model X.prog X.w) X.A (isTrue e X.env (eval e X.env)) (TP X pins σ Q) X.xe s
def PW (X : Cx) (e : Expr) (t : TT) : Prop :=
 ∀ (whole : Sem Value) (pins : List (Addr × Obj)) (s : Shared) (σ : St) (H : Hp) (Q : Bool -> Hp -> Prop), Inv X pins σ H s -> t σ H Q -> wpAny (model X.prog X.w) X.A (isTrue e X.env whole) (TP X pins σ Q) X.xe s
theorem PW.pt {X : Cx} {e : Expr} {t : TT} (h : PW X e t) : PT X e t := h _
def PA (X : Cx) (es : List Expr) (t : TA) : Prop :=
 ∀ (pos : Pos) (pins : List (Addr × Obj)) (s : Shared) (σ : St) (H : Hp) (Q : List V -> Hp -> Prop), Inv X pins σ H s -> t σ H Q -> wpAny (model X.prog X.w) X.A (spliced (backTo pos (starEach es X.env))) (AP X pins σ Q) X.xe s
def PS (X : Cx) (st : Stmt) (t : TS) : Prop :=
 ∀ (pins : List (Addr × Obj)) (s : Shared) (σ : St) (H : Hp) (D : Ends), Inv X pins σ H s -> t D σ H -> wpAny (model X.prog X.w) X.A (exec st X.env) (SP X pins D) X.xe s
def PSs (X : Cx) (st : List Stmt) (t : TS) : Prop :=
 ∀ (pins : List (Addr × Obj)) (s : Shared) (σ : St) (H : Hp) (D : Ends), Inv X pins σ H s -> t D σ H -> wpAny (model X.prog X.w) X.A (execs st X.env) (SP X pins D) X.xe s
theorem thn {α : Type} {t : Sem α} {Q Q' : α -> Shared -> Prop} {M : Model} {A : Around} {E : Value -> Shared -> Prop} {s : Shared} (h : wpAny M A t Q E s) (hQ : ∀ a s, Q a s -> Q' a s) : wpAny M A t Q' E s := wpAny_mono h hQ fun _ _ x => x
section
variable {X : Cx}
def tVar (i : Nat) : TE := fun σ H Q => ∃ v, σ[i]? = some (some v) /\ Q v H
def tC (v : V) : TE := fun _ H Q => Q v H
theorem y6F {i : Nat} {x : Str} {pos : Pos} (hN : X.N[i]? = some x) (hv : Vis X.env.scope x) (hd : (x == ("__debug__" : Str)) = false := by decide) (hcd : (x == ("__classdict__" : Str)) = false := by decide) : PE X (.Name x pos) (tVar i) := by
 intro pins s σ H Q I h
 obtain ⟨v, e, h⟩ := h
 obtain ⟨m, hn, hl⟩ := I.loc
 obtain ⟨u, r, l⟩ := hl i x v hN e hv
 have fin : EP X pins σ Q u s := ⟨v, H, I, r, h⟩
 rcases l with ⟨hk, hm⟩ | ⟨hk, c, hc, hcell⟩
 ·exact wpAny_Name (wpAny_loadName_local I.ok.kind hk hn hm fin) hd
 ·rcases hk with hk | hk
  ·exact wpAny_Name (wpAny_loadName_cell I.ok.kind hk hc hcell fin) hd
  ·exact wpAny_Name (wpAny_loadName_free I.ok.kind hk hc hcell fin hcd) hd
theorem z08 {i j pos} : PE X (.Constant (.int i) j pos) (tC (.int i)) := fun _ _ _ H _ I h => wpAny_Constant_int ⟨.int i, H, I.tok _, ⟨_, rfl⟩, h⟩
theorem z4Z {b j pos} : PE X (.Constant (.bool b) j pos) (tC (.bl b)) := fun _ _ _ H _ I h => Constant_bool ⟨.bl b, H, I, rfl, h⟩
theorem z9A {j pos} : PE X (.Constant .none j pos) (tC .non) := fun _ _ _ H _ I h => Constant_none ⟨.non, H, I, rfl, h⟩
theorem z75 {x j pos} : PE X (.Constant (.str x) j pos) (tC (.str x)) := fun _ _ _ H _ I h => Calls.Constant_str ⟨.str x, H, I.tok _, ⟨_, rfl⟩, h⟩
def Gl (X : Cx) (x : Str) : Prop := X.env.kindOf x = some .globalImplicit
theorem y09 {E : Value -> Shared -> Prop} {pins : List (Addr × Obj)} {s : Shared} {σ : St} {H : Hp} {x : Str} {u : Value} {pos : Pos} {Q : Value -> Shared -> Prop} (I : Inv X pins σ H s) (hg : Gl X x) (hm : X.mg x = some u) (h : Q u s)
  (hd : (x == ("__debug__" : Str)) = false := by decide) : wpAny (model X.prog X.w) X.A (eval (.Name x pos) X.env) Q E s :=
 Calls.Name_function_global I.ok.kind hg (Calls.loadGlobal_global (by rw [I.ok.glob]; exact I.mod.glob.keeps I.bk) hm h) hd
theorem z4K {E : Value -> Shared -> Prop} {pins : List (Addr × Obj)} {s : Shared} {σ : St} {H : Hp} {x : Str} {u : Value} {pos : Pos} {Q : Value -> Shared -> Prop} (I : Inv X pins σ H s) (hg : Gl X x) (hm : X.mg x = none) (hv : bootBuiltins x = some u) (h : Q u s)
  (hn : x ≠ "__name__" := by decide) (hd : (x == ("__debug__" : Str)) = false := by decide) : wpAny (model X.prog X.w) X.A (eval (.Name x pos) X.env) Q E s := by
 obtain ⟨mb, h1, h2⟩ := I.mod.blt
 exact Calls.Name_function_global I.ok.kind hg (Calls.loadGlobal_builtin (by rw [I.ok.glob]; exact I.mod.glob.keeps I.bk) hm (by rw [I.ok.blt]; exact h1.keeps I.bk) ((h2 x hn).trans hv) h) hd
theorem y2X {x : Str} {v : V} {u : Value} {pos : Pos} (hg : Gl X x) (hm : X.mg x = some u) (r : RelV v u) (hd : (x == ("__debug__" : Str)) = false := by decide) : PE X (.Name x pos) (tC v) :=
 fun _ _ _ H _ I h => y09 I hg hm ⟨v, H, I, r, h⟩ hd
theorem z45 {x : Str} {v : V} {u : Value} {pos : Pos} (hg : Gl X x) (hm : X.mg x = none) (hv : bootBuiltins x = some u) (r : RelV v u) (hn : x ≠ "__name__" := by decide) (hd : (x == ("__debug__" : Str)) = false := by decide) : PE X (.Name x pos) (tC v) :=
 fun _ _ _ H _ I h => z4K I hg hm hv ⟨v, H, I, r, h⟩ hn hd
variable {a b : Expr} {ta tb : TE} {pos : Pos}
def PC (X : Cx) (op : CmpOp) (a b : Expr) (t : TE) : Prop :=
 ∀ (pins : List (Addr × Obj)) (s : Shared) (σ : St) (H : Hp) (Q : VK), Inv X pins σ H s -> t σ H Q ->
  wpAny (model X.prog X.w) X.A (eval a X.env) (fun v s₁ => wpAny (model X.prog X.w) X.A (eval b X.env) (fun u s₂ => wpAny (model X.prog X.w) X.A (compareOp op v u) (EP X pins σ Q) X.xe s₂) X.xe s₁) X.xe s
theorem y0x (b : Expr) {op : CmpOp} (h : op ≠ .In) (h2 : op ≠ .NotIn) : behindInMarks op b = false := by
 have e1 : (op == CmpOp.In) = false := by cases op <;> first | rfl | exact absurd rfl h
 have e2 : (op == CmpOp.NotIn) = false := by cases op <;> first | rfl | exact absurd rfl h2
 cases b <;> simp [behindInMarks, e1, e2]
def tIsN (ta : TE) : TE := fun σ H Q => ta σ H fun x H1 => Q (.bl (decide (x = .non))) H1
theorem RelV.none_iff {x : V} {v : Value} (r : RelV x v) : (v == Value.none) = decide (x = .non) := by
 cases x with
 | non => cases r; rfl
 | bl _ => cases r; rfl
 | int _ => obtain ⟨t, rfl⟩ := r; rfl
 | str _ => obtain ⟨t, rfl⟩ := r; rfl
 | byt _ => obtain ⟨t, rfl⟩ := r; rfl
 | flt _ => obtain ⟨t, rfl⟩ := r; rfl
 | ref _ => cases r; rfl
 | ty _ => cases r; rfl
theorem z6R {j pos'} (ha : PE X a ta) : PC X .Is a (.Constant .none j pos') (tIsN ta) := by
 intro pins s σ H Q I h
 refine thn (ha pins s σ H _ I h) fun v s1 hz => ?_
 obtain ⟨x, H1, I1, r1, q1⟩ := hz
 exact Constant_none (is_none_gen ⟨.bl _, H1, I1, by rw [r1.none_iff]; rfl, q1⟩)
def tB (t : TE) : TT := fun σ H Q => t σ H fun x H1 => ∃ c, x = .bl c /\ Q c H1
theorem y54 {op : CmpOp} {t : TE} (h : PC X op a b t) (h1 : behindInMarks op b = false := by first | exact y0x _ (by decide) (by decide) | rfl) : PE X (.Compare a [op] [b] pos) t := fun pins s σ H Q I hw => wpAny_Compare1 (h pins s σ H Q I hw) h1
theorem z6q {op : CmpOp} {t : TE} (h : PC X op a b t) (h1 : behindInMarks op b = false := by first | exact y0x _ (by decide) (by decide) | rfl) : PT X (.Compare a [op] [b] pos) (tB t) := by
 intro pins s σ H Q I hw
 refine wpAny_isTrue_Compare1 (thn (h pins s σ H _ I hw) fun v s1 h1 => thn h1 fun u s2 h2 => thn h2 fun c s3 hz => ?_) h1
 obtain ⟨x, H1, I1, r1, q1⟩ := hz
 obtain ⟨d, rfl, q⟩ := q1
 cases r1
 exact wpAny_truthy_bool ⟨H1, I1, q⟩
theorem z6m {e : Expr} {t : TE} (h : PE X e t) (he : ∀ whole, isTrue e X.env whole = (do let v <- whole; standAt e.pos; holding [v] (truthy v)) := by intro _; rfl) : PT X e (tB t) := by
 intro pins s σ H Q I hw
 refine isTrue_plain (thn (h pins s σ H _ I hw) fun v s1 hz => ?_) (he _)
 obtain ⟨x, H1, I1, r1, q1⟩ := hz
 obtain ⟨d, rfl, q⟩ := q1
 cases r1
 exact wpAny_truthy_bool ⟨H1, I1, q⟩
variable {tA tB' : TT} {rest : List Expr}
def tAnd (t u : TT) : TT := fun σ H Q => t σ H fun c H1 => if c = true then u σ H1 Q else Q false H1
def tOr (t u : TT) : TT := fun σ H Q => t σ H fun c H1 => if c = true then Q true H1 else u σ H1 Q
def tNot (t : TT) : TT := fun σ H Q => t σ H fun c H1 => Q (!c) H1
theorem z8R (ha : PT X a tA) : PW X (.BoolOp .And [a] pos) tA := by
 intro wh pins s σ H Q I h
 refine isTrue_and (thn (ha pins s σ H Q I h) fun c s1 e => ?_)
 cases c with
 | true => exact isTrue_and_nil e
 | false => exact e
theorem z41 (ha : PT X a tA) : PW X (.BoolOp .Or [a] pos) tA := by
 intro wh pins s σ H Q I h
 refine isTrue_or (thn (ha pins s σ H Q I h) fun c s1 e => ?_)
 cases c with
 | false => exact isTrue_or_nil e
 | true => exact e
theorem y0R (ha : PT X a tA) (hb : PW X (.BoolOp .And (b :: rest) pos) tB') : PW X (.BoolOp .And (a :: b :: rest) pos) (tAnd tA tB') := by
 intro wh pins s σ H Q I h
 refine isTrue_and (thn (ha pins s σ H _ I h) fun c s1 hz => ?_)
 obtain ⟨H1, I1, q1⟩ := hz
 cases c with
 | true => exact hb wh pins s1 σ H1 Q I1 q1
 | false => exact ⟨H1, I1, q1⟩
theorem z7E (ha : PT X a tA) (hb : PW X (.BoolOp .Or (b :: rest) pos) tB') : PW X (.BoolOp .Or (a :: b :: rest) pos) (tOr tA tB') := by
 intro wh pins s σ H Q I h
 refine isTrue_or (thn (ha pins s σ H _ I h) fun c s1 hz => ?_)
 obtain ⟨H1, I1, q1⟩ := hz
 cases c with
 | true => exact ⟨H1, I1, q1⟩
 | false => exact hb wh pins s1 σ H1 Q I1 q1
theorem z7a (ha : PT X a tA) : PT X (.UnaryOp .Not a pos) (tNot tA) := by
 intro pins s σ H Q I h
 exact isTrue_not (ha pins s σ H (fun c H1 => Q (!c) H1) I h)
def tIf (t : TT) (ta tb : TE) : TE := fun σ H Q => t σ H fun c H1 => if c = true then ta σ H1 Q else tb σ H1 Q
theorem z3E {c : Expr} (hc : PT X c tA) (ha : PE X a ta) (hb : PE X b tb) : PE X (.IfExp c a b pos) (tIf tA ta tb) := by
 intro pins s σ H Q I h
 refine wpAny_IfExp (thn (hc pins s σ H _ I h) fun d s1 hz => ?_)
 obtain ⟨H1, I1, q1⟩ := hz
 cases d with
 | true => exact ha pins s1 σ H1 Q I1 q1
 | false => exact hb pins s1 σ H1 Q I1 q1
end
def SqL (K : PySem.W.Frag) (H : Hp) (a : Addr) (xs : List V) : Prop :=
 Rd H a (.lst xs) \/
  ∃ (o : Obj) (its : Array Value) (n : Nat), K.lookup a = some o /\ o.cls = .type "list" /\ o.dict = none /\ o.data = .seq its n /\ its.size ≤ sizeLine /\ Vals xs its.toList
def SqT (K : PySem.W.Frag) (H : Hp) (a : Addr) (xs : List V) : Prop :=
 Rd H a (.tup xs) \/
  ∃ (o : Obj) (its : Array Value) (n : Nat), K.lookup a = some o /\ o.cls = .type "tuple" /\ o.data = .seq its n /\ its.size ≤ sizeLine /\ Vals xs its.toList
def absV : Value -> Option V
 | .none => some .non
 | .bool b => some (.bl b)
 | .int i _ => some (.int i)
 | .str x _ => some (.str x)
 | .bytes b _ => some (.byt b)
 | .float b _ => some (.flt b)
 | .ref a => some (.ref a)
 | .type n => some (.ty n)
 | _ => none
theorem RelV.abs {x : V} {u : Value} (r : RelV x u) : absV u = some x := by
 cases x with
 | non => cases r; rfl
 | bl _ => cases r; rfl
 | int _ => obtain ⟨t, rfl⟩ := r; rfl
 | str _ => obtain ⟨t, rfl⟩ := r; rfl
 | byt _ => obtain ⟨t, rfl⟩ := r; rfl
 | flt _ => obtain ⟨t, rfl⟩ := r; rfl
 | ref _ => cases r; rfl
 | ty _ => cases r; rfl
theorem RelV.inj {x y : V} {u : Value} (r : RelV x u) (q : RelV y u) : x = y := Option.some.inj (r.abs.symm.trans q.abs)
theorem Vals.inj : ∀ {xs ys : List V} {us : List Value}, Vals xs us -> Vals ys us -> xs = ys
 | _, _, _, .nil, .nil => rfl
 | _, _, _, .cons r t, .cons r' t' => by rw [r.inj r', Vals.inj t t']
section
variable {X : Cx} {pins : List (Addr × Obj)} {σ : St} {H : Hp} {s : Shared} {a : Addr} {xs ys : List V}
theorem SqL.of {K : PySem.W.Frag} (h : H a = some (.lst xs)) : SqL K H a xs := .inl (.inl h)
theorem SqT.of {K : PySem.W.Frag} (h : H a = some (.tup xs)) : SqT K H a xs := .inl (.inl h)
theorem Inv.list (I : Inv X pins σ H s) (h : SqL X.K H a xs) : ∃ its : List Value, Vals xs its /\ PlainL s.heap a its.toArray /\ xs.length ≤ sizeLine := by
 rcases h with h | ⟨o, its, n, hk, hc, hd, hs, hz, r⟩
 ·obtain ⟨z, its, n, r, e⟩ := h.ok I.hok
  exact ⟨its, r, ⟨_, n, e, rfl, rfl, rfl⟩, z⟩
 ·refine ⟨its.toList, r, ⟨o, n, I.kIn a o hk, hc, hd, by simpa using hs⟩, ?_⟩
  have e := r.length
  simp only [Array.length_toList] at e
  omega
theorem Inv.tuple (I : Inv X pins σ H s) (h : SqT X.K H a xs) : ∃ its : List Value, Vals xs its /\ IsTup s.heap a its.toArray /\ xs.length ≤ sizeLine := by
 rcases h with h | ⟨o, its, n, hk, hc, hs, hz, r⟩
 ·obtain ⟨z, its, r, p⟩ := h.ok I.hok
  exact ⟨its, r, PlT.tup p, z⟩
 ·refine ⟨its.toList, r, ⟨o, I.kIn a o hk, hc, n, by simpa using hs⟩, ?_⟩
  have e := r.length
  simp only [Array.length_toList] at e
  omega
theorem Inv.list_inj (I : Inv X pins σ H s) (h : SqL X.K H a xs) (h' : SqL X.K H a ys) : xs = ys := by
 obtain ⟨its, r, ⟨o, n, e, _, _, d⟩, _⟩ := I.list h
 obtain ⟨its', r', ⟨o', n', e', _, _, d'⟩, _⟩ := I.list h'
 rw [e] at e'; cases e'
 rw [d] at d'
 injection d' with d1 _
 have : its = its' := by simpa using congrArg Array.toList d1
 subst this
 exact r.inj r'
theorem Inv.tuple_inj (I : Inv X pins σ H s) (h : SqT X.K H a xs) (h' : SqT X.K H a ys) : xs = ys := by
 obtain ⟨its, r, ⟨o, e, _, n, d⟩, _⟩ := I.tuple h
 obtain ⟨its', r', ⟨o', e', _, n', d'⟩, _⟩ := I.tuple h'
 rw [e] at e'; cases e'
 rw [d] at d'
 injection d' with d1 _
 have : its = its' := by simpa using congrArg Array.toList d1
 subst this
 exact r.inj r'
end
abbrev Cx.wish (X : Cx) (E : Value -> Shared -> Prop) : Cx := { X with xe := E }
abbrev Cx.nox (X : Cx) : Cx := X.wish fun _ _ => False
theorem Cx.Ok.wish {X : Cx} (ok : X.Ok) (E : Value -> Shared -> Prop) : (X.wish E).Ok :=
 ⟨ok.mod, ok.kind, ok.glob, ok.blt, ok.above, ok.inj, ok.has, ok.cab, ok.hd, ok.frames, ok.stk, ok.exf, ok.bs, ok.bsz, ok.noex, ok.exfs, ok.funs, ok.frf⟩
theorem Cx.Ok.unwish {X : Cx} {E : Value -> Shared -> Prop} (ok : (X.wish E).Ok) : X.Ok :=
 ⟨ok.mod, ok.kind, ok.glob, ok.blt, ok.above, ok.inj, ok.has, ok.cab, ok.hd, ok.frames, ok.stk, ok.exf, ok.bs, ok.bsz, ok.noex, ok.exfs, ok.funs, ok.frf⟩
section
variable {X : Cx} {pins : List (Addr × Obj)} {σ : St} {H : Hp} {s : Shared} {E : Value -> Shared -> Prop}
theorem Inv.wish (I : Inv X pins σ H s) (E : Value -> Shared -> Prop) : Inv (X.wish E) pins σ H s := ⟨I.ok.wish E, I.os, I.bare, I.base, I.loc, I.cell, I.free, I.freeC, I.pin, I.hok, I.len⟩
theorem Inv.unwish (I : Inv (X.wish E) pins σ H s) : Inv X pins σ H s := ⟨I.ok.unwish, I.os, I.bare, I.base, I.loc, I.cell, I.free, I.freeC, I.pin, I.hok, I.len⟩
theorem SP.unwish {D : Ends} {f : Flow} {s' : Shared} (h : SP (X.wish E) pins D f s') : SP X pins D f s' := by
 cases f with
 | next => obtain ⟨σ', H', I, q⟩ := h; exact ⟨σ', H', I.unwish, q⟩
 | brk => obtain ⟨σ', H', I, q⟩ := h; exact ⟨σ', H', I.unwish, q⟩
 | cont => obtain ⟨σ', H', I, q⟩ := h; exact ⟨σ', H', I.unwish, q⟩
 | ret u => obtain ⟨v, σ', H', I, r, q⟩ := h; exact ⟨v, σ', H', I.unwish, r, q⟩
theorem PSs.nox {st : List Stmt} {t : TS} (h : PSs X.nox st t) : PSs X st t := fun pins s σ H D I hw =>
 wpAny_mono (h pins s σ H D (I.wish _) hw) (fun _ _ q => q.unwish) fun _ _ z => False.elim z
end
section
variable {X : Cx} {st : Stmt} {rest : List Stmt} {t u : TS} {e : Expr} {te : TE} {pos : Pos}
def tNext : TS := fun D σ H => D.nx σ H
def tSeq (t u : TS) : TS := fun D σ H => t { D with nx := u D } σ H
theorem z0t : PSs X [] tNext := fun _ _ σ H _ I h => wpAny_execs_nil ⟨σ, H, I, h⟩
theorem z04 (h1 : PS X st t) (h2 : PSs X rest u) : PSs X (st :: rest) (tSeq t u) := by
 intro pins s σ H D I h
 refine wpAny_execs_cons (thn (h1 pins s σ H { D with nx := u D } I h) fun f s1 q => ?_)
 cases f with
 | next =>
  obtain ⟨σ', H', I', q⟩ := q
  exact h2 pins s1 σ' H' D I' q
 | ret v => exact q
 | brk => exact q
 | cont => exact q
theorem z05 (h1 : PS X st t) : PSs X [st] t := by
 intro pins s σ H D I h
 refine wpAny_execs_cons (thn (h1 pins s σ H D I h) fun f s1 q => ?_)
 cases f with
 | next => exact wpAny_execs_nil q
 | ret v => exact q
 | brk => exact q
 | cont => exact q
theorem Inv.quiet {pins : List (Addr × Obj)} {σ : St} {H : Hp} {s : Shared} (I : Inv X pins σ H s) : interactive X.env = false := by simp [interactive, I.ok.kind]
def tDrop (te : TE) : TS := fun D σ H => te σ H fun _ H1 => D.nx σ H1
theorem z0B (he : PE X e te) (hs : swapsWith e none pos.line X.env = pure false := by rfl) : PS X (.Expr e pos) (tDrop te) := by
 intro pins s σ H D I h
 exact wpAny_Expr_any (thn (he pins s σ H _ I h) fun v s1 ⟨x, H1, I1, r1, q1⟩ => ⟨σ, H1, I1, q1⟩) I.quiet hs
def tRet (te : TE) : TS := fun D σ H => te σ H D.rt
theorem z0k (he : PE X e te) : PS X (.Return (some e) pos) (tRet te) := by
 intro pins s σ H D I h
 exact wpAny_Return_some (thn (he pins s σ H _ I h) fun v s1 ⟨x, H1, I1, r1, q1⟩ => ⟨x, σ, H1, I1, r1, q1⟩)
def tIfS (c : TT) (t u : TS) : TS := fun D σ H => c σ H fun b H1 => if b = true then t D σ H1 else u D σ H1
theorem z0S {c : Expr} {a b : List Stmt} {tc : TT} (hc : PT X c tc) (ha : PSs X a t) (hb : PSs X b u) : PS X (.If c a b pos) (tIfS tc t u) := by
 intro pins s σ H D I h
 refine wpAny_If (thn (hc pins s σ H _ I h) fun d s1 hz => ?_)
 obtain ⟨H1, I1, q1⟩ := hz
 cases d with
 | true => exact ha pins s1 σ H1 D I1 q1
 | false => exact hb pins s1 σ H1 D I1 q1
def y6u : TS := fun _ _ _ => False
theorem z1b : PS X st y6u := fun _ _ _ _ _ _ h => h.elim
end
abbrev TG := V -> St -> Hp -> (St -> Hp -> Prop) -> Prop
abbrev TGs := List V -> St -> Hp -> (St -> Hp -> Prop) -> Prop
def PG (X : Cx) (target : Expr) (t : TG) : Prop :=
 ∀ (pins : List (Addr × Obj)) (s : Shared) (σ : St) (H : Hp) (v : V) (u : Value) (Q : St -> Hp -> Prop), Inv X pins σ H s -> RelV v u -> t v σ H Q ->
  wpAny (model X.prog X.w) X.A (assign target X.env u) (fun _ s' => ∃ σ' H', Inv X pins σ' H' s' /\ Q σ' H') X.xe s
def PGs (X : Cx) (ts : List Expr) (t : TGs) : Prop :=
 ∀ (pins : List (Addr × Obj)) (s : Shared) (σ : St) (H : Hp) (vs : List V) (us : List Value) (Q : St -> Hp -> Prop), Inv X pins σ H s -> Vals vs us -> t vs σ H Q ->
  wpAny (model X.prog X.w) X.A (assignInOrder ((assignEach ts X.env).map (·.2)) us) (fun _ s' => ∃ σ' H', Inv X pins σ' H' s' /\ Q σ' H') X.xe s
section
variable {X : Cx} {pos : Pos}
def y3n (i : Nat) : TG := fun v σ H Q => Q (σ.set i (some v)) H
theorem z0m {i : Nat} {x : Str} (hN : X.N.Nodup) (hi : X.N[i]? = some x) (hx : Loc X.env.scope x) (hf : X.fn x = true \/ X.env.scope.names.lookup x = some .local := by first | exact .inl rfl | exact .inr rfl | assumption) : PG X (.Name x pos) (y3n i) := by
 intro pins s σ H v u Q I r h
 exact wpAny_assign_Name (y0G I hN hi hx r (fun s' I' => ⟨_, H, I', h⟩) hf)
def gNil : TGs := fun vs σ H Q => vs = [] /\ Q σ H
def y65 (t : TG) (u : TGs) : TGs := fun vs σ H Q => ∃ v r, vs = v :: r /\ t v σ H fun σ' H' => u r σ' H' Q
theorem z3Z : PGs X [] gNil := by
 intro pins s σ H vs us Q I r h
 obtain ⟨e, h⟩ := h
 subst e
 cases r
 exact assignInOrder_nil ⟨σ, H, I, h⟩
theorem z0V {e : Expr} {es : List Expr} {t : TG} {u : TGs} (h1 : PG X e t) (h2 : PGs X es u)
  (hs : (assignEach (e :: es) X.env).map (·.2) = assign e X.env :: (assignEach es X.env).map (·.2) := by rfl) : PGs X (e :: es) (y65 t u) := by
 intro pins s σ H vs us Q I r h
 obtain ⟨v, vr, e1, h⟩ := h
 subst e1
 cases r with
 | cons r rr =>
  rw [hs]
  refine assignInOrder_cons (thn (h1 pins s σ H _ _ _ I r h) fun _ s1 hz => ?_)
  obtain ⟨σ1, H1, I1, q1⟩ := hz
  exact h2 pins s1 σ1 H1 _ _ Q I1 rr q1
def gTup (K : PySem.W.Frag) (n : Nat) (t : TGs) : TG := fun v σ H Q => ∃ a xs, v = .ref a /\ SqT K H a xs /\ xs.length = n /\ t xs σ H Q
theorem y4R {es : List Expr} {k : Nat} {t : TGs} {n : Nat} (hc : X.calm = true) (h : PGs X es t)
  (hn : (assignEach es X.env).length = n := by rfl) (hst : (assignEach es X.env).findIdx? (·.1) = none := by rfl) : PG X (.Tuple es k pos) (gTup X.K n t) := by
 intro pins s σ H v u Q I r hw
 obtain ⟨a, xs, e1, hq, hl, hw⟩ := hw
 subst e1
 cases r
 obtain ⟨its, rv, ht, hz⟩ := I.tuple hq
 refine assign_Tuple_tuple (I.ok.hd hc) ht (by simp [hn, <- hl, rv.length]) hst fun h' hx => ?_
 have I1 : Inv X pins σ H { s with heap := h' } := I.kept (t' := s.toks) fun b o e => hx b o (Nat.ne_of_lt (Heap.lt_size e)) e
 exact h pins _ σ H xs _ Q I1 (by simpa using rv) hw
def tAsg (te : TE) (g : TG) : TS := fun D σ H => te σ H fun x H1 => g x σ H1 D.nx
theorem z0p {i : Nat} {x : Str} {e : Expr} {te : TE} {pos' : Pos} (hN : X.N.Nodup) (hi : X.N[i]? = some x) (hx : Loc X.env.scope x) (he : PE X e te) (hs : swapsWith e (some (.Name x pos')) pos.line X.env = pure false := by rfl) (hf : X.fn x = true \/ X.env.scope.names.lookup x = some .local := by first | exact .inl rfl | exact .inr rfl | assumption) :
  PS X (.Assign [.Name x pos'] e pos) (tAsg te (y3n i)) := by
 intro pins s σ H D I h
 refine wpAny_Assign_Name (thn (he pins s σ H _ I h) fun v s1 hz => ?_) hs
 obtain ⟨y, H1, I1, r1, q1⟩ := hz
 exact y0G I1 hN hi hx r1 (fun s2 I2 => ⟨_, H1, I2, q1⟩) hf
end
section
variable {X : Cx} {pos : Pos}
end
structure It where
 go : Nat -> Hp -> Prop
 yld : Nat -> Hp -> V -> Hp -> Prop
 stop : Nat -> Hp -> Prop
def FpOk (X : Cx) (pins : List (Addr × Obj)) (H : Hp) (b : Addr) : Prop :=
 H b = none /\ b ≠ X.env.locals /\ b ∉ X.fs /\ (b ∈ X.ex \/ X.s₀.heap.objs.size ≤ b) /\ (∀ x c, X.env.cells.lookup x = some c -> c ≠ b) /\ ∀ p ∈ X.pn ++ pins, p.1 ≠ b
theorem Inv.fpOk {X : Cx} {pins : List (Addr × Obj)} {σ : St} {H H' : Hp} {s : Shared} {b : Addr} (I : Inv X pins σ H s) (hb : s.heap.objs.size ≤ b) (hn : H' b = none) : FpOk X pins H' b := by
 refine ⟨hn, Nat.ne_of_gt (Nat.lt_of_lt_of_le I.lt hb), I.nofs hb, .inr (Nat.le_trans I.sz hb), fun x c e z => ?_, fun p hp z => ?_⟩
 ·obtain ⟨v, q⟩ := I.cell x c e
  exact absurd (Nat.lt_of_lt_of_le q.lt (by rw [z]; exact hb)) (Nat.lt_irrefl _)
 ·exact absurd (Nat.lt_of_lt_of_le (Heap.lt_size (I.pin p hp).1) (by rw [z]; exact hb)) (Nat.lt_irrefl _)
structure Turn (P : Program) (w : World) (K : PySem.W.Frag) (tg : Expr) (J : It) (fp : List Addr) (it : Addr) (tn : Nat -> Heap -> Prop) : Prop where
 mem : it ∈ fp
 obj : ∀ i h, tn i h -> ∀ b ∈ fp, ∃ o, h.get? b = some o /\ ∀ v, o.data ≠ .cell v
 keep : ∀ i h h', tn i h -> (∀ b ∈ fp, ∀ o, h.get? b = some o -> h'.get? b = some o) -> tn i h'
 item : ∀ (X : Cx), X.prog = P -> X.w = w -> X.K = K -> X.calm = true -> ∀ (i : Nat) (pins : List (Addr × Obj)) (s : Shared) (σ : St) (H : Hp) (E : Value -> Shared -> Prop), Inv X pins σ H s -> (∀ b ∈ fp, FpOk X pins H b) -> tn i s.heap -> J.go i H ->
  wpAny (model P w) X.A (pyNext (.ref it)) (fun r s1 => ∃ u, r = some u /\
   wpAny (model P w) X.A (letOwnedTupleGo tg (.ref it) u) (fun _ s2 => ∃ x H', Inv X pins σ H' s2 /\ RelV x u /\ J.yld i H x H' /\ tn (i + 1) s2.heap /\ ∀ b ∈ fp, H' b = none) E s1) E s
 done : ∀ (X : Cx), X.prog = P -> X.w = w -> X.K = K -> X.calm = true -> ∀ (i : Nat) (pins : List (Addr × Obj)) (s : Shared) (σ : St) (H : Hp) (E : Value -> Shared -> Prop), Inv X pins σ H s -> (∀ b ∈ fp, FpOk X pins H b) -> tn i s.heap -> J.stop i H ->
  wpAny (model P w) X.A (pyNext (.ref it)) (fun r s1 => r = none /\ Inv X pins σ H s1) E s
 self : ∀ (A : Around) (i : Nat) (s : Shared) (Q : Value -> Shared -> Prop) (E : Value -> Shared -> Prop), tn i s.heap -> Q (.ref it) s -> wpAny (model P w) A (pyIter (.ref it)) Q E s
abbrev TI := St -> Hp -> (It -> Hp -> Prop) -> Prop
def PIE (X : Cx) (pins : List (Addr × Obj)) (σ : St) (tg : Expr) (R : It -> Hp -> Prop) (itv : Value) (s2 : Shared) : Prop :=
 ∃ (it : Addr) (fp : List Addr) (tn : Nat -> Heap -> Prop) (J : It) (H' : Hp), itv = .ref it /\ Inv X pins σ H' s2 /\ Turn X.prog X.w X.K tg J fp it tn /\ tn 0 s2.heap /\ (∀ b ∈ fp, FpOk X pins H' b) /\ R J H'
def PI (X : Cx) (tg iter : Expr) (wi : TI) : Prop :=
 ∀ (pins : List (Addr × Obj)) (s : Shared) (σ : St) (H : Hp) (R : It -> Hp -> Prop), Inv X pins σ H s -> wi σ H R ->
  wpAny (model X.prog X.w) X.A (eval iter X.env) (fun v s1 => wpAny (model X.prog X.w) X.A (pyIter v) (PIE X pins σ tg R) X.xe s1) X.xe s
theorem y3u {M : Model} {A : Around} {E : Value -> Shared -> Prop} {s : Shared} {tg : Expr} {it : Addr} {u : Value} {o : Obj} {n : String} {vs : Array Value} {Q : Unit -> Shared -> Prop} (ho : s.heap.get? it = some o) (hc : o.cls = .type n) (hd : o.data = .fields vs)
    (hn : ["enumerate", "zip", "dict_itemiterator", "dict_reverseitemiterator", "odict_iterator", "itertools.zip_longest", "itertools.pairwise"].contains n = false) (hQ : Q () s) : wpAny M A (letOwnedTupleGo tg (.ref it) u) Q E s := by
  unfold letOwnedTupleGo
  cases tg <;> first
    | exact wpAny_pure hQ
    | (cases u <;> first
        | exact wpAny_pure hQ
        | (refine wpAny_bind (wpAny_load ho ?_)
           rw [hc, hd]
           show wpAny M A (if (["enumerate", "zip", "dict_itemiterator", "dict_reverseitemiterator", "odict_iterator", "itertools.zip_longest", "itertools.pairwise"].contains n && vs[0]? == some (rawInt _)) = true then _ else _) Q E s
           rw [if_neg (by intro h; rw [hn, Bool.false_and] at h; cases h)]
           exact wpAny_pure hQ))
def Itl (K : PySem.W.Frag) (a : Addr) : It :=
 ⟨fun i H => ∃ xs x, SqL K H a xs /\ xs[i]? = some x, fun i H x H' => H' = H /\ ∀ xs, SqL K H a xs -> xs[i]? = some x, fun i H => ∃ xs, SqL K H a xs /\ xs.length ≤ i⟩
def Itt (K : PySem.W.Frag) (a : Addr) : It :=
 ⟨fun i H => ∃ xs x, SqT K H a xs /\ xs[i]? = some x, fun i H x H' => H' = H /\ ∀ xs, SqT K H a xs -> xs[i]? = some x, fun i H => ∃ xs, SqT K H a xs /\ xs.length ≤ i⟩
def Itr (lo : Int) (n : Nat) : It := ⟨fun i _ => i < n, fun i H x H' => H' = H /\ x = .int (lo + i), fun i _ => n ≤ i⟩
theorem z9l {P : Program} {w : World} {K : PySem.W.Frag} {tg : Expr} (a it : Addr) : Turn P w K tg (Itl K a) [it] it (fun i h => h.IsListIter it a i) where
 mem := by simp
 obj := fun i h st b hb => by
  have e : b = it := by simpa using hb
  subst e
  obtain ⟨o, e, c, d⟩ := st
  exact ⟨o, e, fun v z => by rw [d] at z; cases z⟩
 keep := fun i h h' st k => st.at fun o e => k it (by simp) o e
 item := by
  intro X hP hw hK hc i pins s σ H E I hf st hg
  subst hP hw hK
  obtain ⟨xs, x, hq, hx⟩ := hg
  obtain ⟨its, rv, p, hz⟩ := I.list hq
  obtain ⟨u, hu, ru⟩ := rv.get hx
  obtain ⟨f0, f1, f2, f3, f4, f5⟩ := hf it (by simp)
  refine wpAny_pyNext_list_item st p.isList (x := u) (by simpa using hu) fun h' st' sb => ?_
  have I1 : Inv X pins σ H { s with heap := h' } := I.turned (t' := s.toks) (fun b o hb e => (sb.2 b hb).trans e) f0 f1 f3 f4 f5
  obtain ⟨o, e, c, d⟩ := id st'
  exact ⟨u, rfl, y3u (s := { s with heap := h' }) e c d (by decide) ⟨x, H, I1, ru, ⟨rfl, fun ys hy => by rw [I.list_inj hy hq]; exact hx⟩, st', fun b hb => (hf b hb).1⟩⟩
 done := by
  intro X hP hw hK hc i pins s σ H E I hf st hg
  subst hP hw hK
  obtain ⟨xs, hq, hx⟩ := hg
  obtain ⟨its, rv, p, hz⟩ := I.list hq
  obtain ⟨f0, f1, f2, f3, f4, f5⟩ := hf it (by simp)
  have hl := rv.length
  exact wpAny_pyNext_list_end (I.ok.hd hc) st p.isList (by simp; omega) fun h' eb => ⟨rfl, I.turned (t' := s.toks) (fun b o hb e => eb b o hb e) f0 f1 f3 f4 f5⟩
 self := fun _ _ _ _ _ st h => wpAny_pyIter_listiter st h
theorem z8h {P : Program} {w : World} {K : PySem.W.Frag} {tg : Expr} (a it : Addr) : Turn P w K tg (Itt K a) [it] it (fun i h => h.IsTupleIter it a i) where
 mem := by simp
 obj := fun i h st b hb => by
  have e : b = it := by simpa using hb
  subst e
  obtain ⟨o, e, c, d⟩ := st
  exact ⟨o, e, fun v z => by rw [d] at z; cases z⟩
 keep := fun i h h' st k => st.at fun o e => k it (by simp) o e
 item := by
  intro X hP hw hK hc i pins s σ H E I hf st hg
  subst hP hw hK
  obtain ⟨xs, x, hq, hx⟩ := hg
  obtain ⟨its, rv, p, hz⟩ := I.tuple hq
  obtain ⟨u, hu, ru⟩ := rv.get hx
  obtain ⟨f0, f1, f2, f3, f4, f5⟩ := hf it (by simp)
  refine wpAny_pyNext_tuple_item st (show s.heap.IsTuple a its.toArray from p) (x := u) (by simpa using hu) fun h' st' sb => ?_
  have I1 : Inv X pins σ H { s with heap := h' } := I.turned (t' := s.toks) (fun b o hb e => (sb.2 b hb).trans e) f0 f1 f3 f4 f5
  obtain ⟨o, e, c, d⟩ := id st'
  exact ⟨u, rfl, y3u (s := { s with heap := h' }) e c d (by decide) ⟨x, H, I1, ru, ⟨rfl, fun ys hy => by rw [I.tuple_inj hy hq]; exact hx⟩, st', fun b hb => (hf b hb).1⟩⟩
 done := by
  intro X hP hw hK hc i pins s σ H E I hf st hg
  subst hP hw hK
  obtain ⟨xs, hq, hx⟩ := hg
  obtain ⟨its, rv, p, hz⟩ := I.tuple hq
  obtain ⟨f0, f1, f2, f3, f4, f5⟩ := hf it (by simp)
  have hl := rv.length
  exact wpAny_pyNext_tuple_end (I.ok.hd hc) st (show s.heap.IsTuple a its.toArray from p) (by simp; omega) fun h' eb => ⟨rfl, I.turned (t' := s.toks) (fun b o hb e => eb b o hb e) f0 f1 f3 f4 f5⟩
 self := fun _ _ _ _ _ st h => wpAny_pyIter_tupleiter st h
theorem y13 {P : Program} {w : World} {K : PySem.W.Frag} {tg : Expr} (it : Addr) (lo : Int) (n : Nat) : Turn P w K tg (Itr lo n) [it] it (fun i h => IsRangeIter h it (lo + (i : Nat) * 1) ((n : Int) - (i : Nat)) 1) where
 mem := by simp
 obj := fun i h st b hb => by
  have e : b = it := by simpa using hb
  subst e
  exact ⟨_, st, fun v z => by
   have z' : Data.fields _ = Data.cell v := z
   cases z'⟩
 keep := fun i h h' st k => k it (by simp) _ st
 item := by
  intro X hP hw hK hc i pins s σ H E I hf st hg
  subst hP hw hK
  obtain ⟨f0, f1, f2, f3, f4, f5⟩ := hf it (by simp)
  have W := Walks.range (prog := X.prog) (w := X.w) (I.ok.hd hc) it lo 1 n
  refine W.item i s _ _ hg st fun v h' tk hv st' kk => ?_
  obtain ⟨t, rfl⟩ := hv
  have I1 : Inv X pins σ H { s with heap := h', toks := tk } := I.turned (fun b o hb e => kk b o (by simpa using hb) e) f0 f1 f3 f4 f5
  refine ⟨_, rfl, y3u (s := { s with heap := h', toks := tk }) (n := "range_iterator") st' rfl rfl (by decide) ⟨.int (lo + i), H, I1, ⟨t, ?_⟩, ⟨rfl, rfl⟩, st', fun b hb => (hf b hb).1⟩⟩
  rw [Int.mul_one]
 done := by
  intro X hP hw hK hc i pins s σ H E I hf st hg
  subst hP hw hK
  obtain ⟨f0, f1, f2, f3, f4, f5⟩ := hf it (by simp)
  exact wpAny_pyNext_range_end (I.ok.hd hc) st (by have : n ≤ i := hg; omega) fun h' eb => ⟨rfl, I.turned (t' := s.toks) (fun b o hb e => eb b o hb e) f0 f1 f3 f4 f5⟩
 self := fun _ _ _ _ _ st h => wpAny_pyIter_rangeiter st h
section
variable {X : Cx} {tg : Expr}
def iList (K : PySem.W.Frag) (tl : TE) : TI := fun σ H R => tl σ H fun x H1 => ∃ a, x = .ref a /\ (∃ xs, SqL K H1 a xs) /\ R (Itl K a) H1
def iTup (K : PySem.W.Frag) (tl : TE) : TI := fun σ H R => tl σ H fun x H1 => ∃ a, x = .ref a /\ (∃ xs, SqT K H1 a xs) /\ R (Itt K a) H1
theorem z24 {l : Expr} {tl : TE} (hl : PE X l tl) : PI X tg l (iList X.K tl) := by
 intro pins s σ H R I h
 refine thn (hl pins s σ H _ I h) fun v s1 hz => ?_
 obtain ⟨x, H1, I1, r1, q1⟩ := hz
 obtain ⟨a, e, ⟨xs, hq⟩, q⟩ := q1
 subst e
 cases r1
 obtain ⟨its, rv, p, hz⟩ := I1.list hq
 refine wpAny_pyIter_list p.isList ?_
 refine ⟨s1.heap.objs.size, [s1.heap.objs.size], _, _, H1, rfl, I1.kept (t' := s1.toks) fun b o e => Heap.get?_push_of_some _ e, z9l a _, ⟨_, Heap.get?_push_size _ rfl, rfl, rfl⟩, fun b hb => ?_, q⟩
 have e : b = s1.heap.objs.size := by simpa using hb
 subst e
 exact I1.fpOk (Nat.le_refl _) (I1.hok.fresh (Nat.le_refl _))
theorem z1W {l : Expr} {tl : TE} (hl : PE X l tl) : PI X tg l (iTup X.K tl) := by
 intro pins s σ H R I h
 refine thn (hl pins s σ H _ I h) fun v s1 hz => ?_
 obtain ⟨x, H1, I1, r1, q1⟩ := hz
 obtain ⟨a, e, ⟨xs, hq⟩, q⟩ := q1
 subst e
 cases r1
 obtain ⟨its, rv, p, hz⟩ := I1.tuple hq
 refine wpAny_pyIter_tuple (show s1.heap.IsTuple a its.toArray from p) ?_
 refine ⟨s1.heap.objs.size, [s1.heap.objs.size], _, _, H1, rfl, I1.kept (t' := s1.toks) fun b o e => Heap.get?_push_of_some _ e, z8h a _, ⟨_, Heap.get?_push_size _ rfl, rfl, rfl⟩, fun b hb => ?_, q⟩
 have e : b = s1.heap.objs.size := by simpa using hb
 subst e
 exact I1.fpOk (Nat.le_refl _) (I1.hok.fresh (Nat.le_refl _))
theorem y0Q {pins : List (Addr × Obj)} {σ : St} {H : Hp} {s : Shared} {R : It -> Hp -> Prop} {E : Value -> Shared -> Prop} {lo hi : Int} {t u v : Tok} {tk : Nat} (I : Inv X pins σ H s) (h1 : -(2 ^ 62) ≤ lo) (h2 : lo < 2 ^ 62) (h3 : -(2 ^ 62) ≤ hi) (h4 : hi < 2 ^ 62)
  (q : R (Itr lo (hi - lo).toNat) H) : wpAny (model X.prog X.w) X.A (pyIter (.ref s.heap.objs.size)) (PIE X pins σ tg R) E { s with heap := s.heap.push { cls := .type "range", data := .fields #[.int lo t, .int hi u, .int 1 v] }, toks := tk } := by
 refine wpAny_pyIter_range (IsRange.new ..) (small_one h1 h2 h3 h4) ?_
 have I1 : Inv X pins σ H { s with heap := s.heap.push { cls := .type "range", data := .fields #[.int lo t, .int hi u, .int 1 v] }, toks := tk } := I.kept fun b o e => Heap.get?_push_of_some _ e
 refine ⟨(s.heap.push { cls := .type "range", data := .fields #[.int lo t, .int hi u, .int 1 v] }).objs.size, [(s.heap.push { cls := .type "range", data := .fields #[.int lo t, .int hi u, .int 1 v] }).objs.size], _, _, H, rfl,
  I1.kept (t' := tk) fun b o e => Heap.get?_push_of_some _ e, y13 _ lo (hi - lo).toNat, ?_, fun b hb => ?_, q⟩
 ·have e1 : lo + ((0 : Nat) : Int) * 1 = lo := by simp
  have e2 : (((hi - lo).toNat : Nat) : Int) - ((0 : Nat) : Int) = Builtin.Range.rangeSize lo hi 1 := by rw [rangeSize_one]; split <;> omega
  show IsRangeIter _ _ (lo + ((0 : Nat) : Int) * 1) ((((hi - lo).toNat : Nat) : Int) - ((0 : Nat) : Int)) 1
  rw [e1, e2]
  exact Heap.get?_push_size _ rfl
 ·have e : b = (s.heap.push { cls := .type "range", data := .fields #[.int lo t, .int hi u, .int 1 v] }).objs.size := by simpa using hb
  subst e
  exact I1.fpOk (Nat.le_refl _) (I1.hok.fresh (Nat.le_refl _))
def iRng1 (ta : TA) : TI := fun σ H R => ta σ H fun vs H1 => ∃ j : Int, vs = [.int j] /\ -(2 ^ 62) ≤ j /\ j < 2 ^ 62 /\ R (Itr 0 j.toNat) H1
def iRng2 (ta : TA) : TI := fun σ H R => ta σ H fun vs H1 => ∃ i j : Int, vs = [.int i, .int j] /\ (-(2 ^ 62) ≤ i /\ i < 2 ^ 62 /\ -(2 ^ 62) ≤ j /\ j < 2 ^ 62) /\ R (Itr i (j - i).toNat) H1
theorem z1Z {a : Expr} {ta : TA} {p pos : Pos} (hg : Gl X "range") (hm : X.mg "range" = none) (ha : PA X [a] ta) (hs : starEach [a] X.env = [(false, eval a X.env)] := by rfl) : PI X tg (.Call (.Name "range" p) [a] [] pos) (iRng1 ta) := by
 intro pins s σ H R I h
 refine Call_ (z4K I hg hm boot_range (PyProof.Rows.callWith_type1 (thn (ha pos pins s σ H _ I h) fun us s1 hz => ?_) hs rfl))
 obtain ⟨vs, H1, I1, r1, q1⟩ := hz
 obtain ⟨j, e, q1, q2, q⟩ := q1
 subst e
 cases r1 with
 | cons r rr =>
  cases rr
  obtain ⟨t, rfl⟩ := r
  exact call_range_1 (y0Q I1 (by omega) (by omega) q1 q2 (by simpa using q))
theorem y35 {a b : Expr} {ta : TA} {p pos : Pos} (hg : Gl X "range") (hm : X.mg "range" = none) (ha : PA X [a, b] ta) (hs : starEach [a, b] X.env = [(false, eval a X.env), (false, eval b X.env)] := by rfl) (hs2 : starEach [b] X.env = [(false, eval b X.env)] := by rfl) :
  PI X tg (.Call (.Name "range" p) [a, b] [] pos) (iRng2 ta) := by
 intro pins s σ H R I h
 refine Call_ (z4K I hg hm boot_range (PyProof.Rows.callWith_type1 (thn (ha pos pins s σ H _ I h) fun us s1 ⟨vs, H1, I1, r1, q1⟩ => ?_) (by rw [hs, hs2]) (by rw [hs2]; rfl)))
 obtain ⟨i, j, e, ⟨q1, q2, q3, q4⟩, q⟩ := q1
 subst e
 cases r1 with
 | cons r rr =>
  cases rr with
  | cons r' rr =>
   cases rr
   obtain ⟨t, rfl⟩ := r
   obtain ⟨t', rfl⟩ := r'
   exact call_range_2 (y0Q I1 q1 q2 q3 q4 q)
def tFor (wi : TI) (g : TG) (tb : TS) : TS := fun D σ H => wi σ H fun J H1 => ∃ W : Nat -> Nat -> St -> Hp -> Prop, (∃ m, W 0 m σ H1) /\ ∀ i m σ H, W i m σ H ->
 (J.stop i H /\ D.nx σ H) \/ (J.go i H /\ ∃ N : St -> Hp -> Prop, (∀ σ' H', N σ' H' -> ∃ m', m' < m /\ W (i + 1) m' σ' H') /\ ∀ x H', J.yld i H x H' -> g x σ H' fun σ2 H2 => tb { D with nx := N, ct := N, bk := D.nx } σ2 H2)
def z9y (fp : List Addr) (h : Heap) : List (Addr × Obj) := fp.filterMap fun b => (h.get? b).map fun o => (b, o)
theorem z4r {fp : List Addr} {h : Heap} {b : Addr} {o : Obj} (hb : b ∈ fp) (e : h.get? b = some o) : (b, o) ∈ z9y fp h := List.mem_filterMap.mpr ⟨b, hb, by rw [e]; rfl⟩
theorem y25 {fp : List Addr} {h : Heap} {p : Addr × Obj} (hp : p ∈ z9y fp h) : p.1 ∈ fp /\ h.get? p.1 = some p.2 := by
 obtain ⟨b, hb, e⟩ := List.mem_filterMap.mp hp
 cases q : h.get? b with
 | none => rw [q] at e; cases e
 | some o =>
  rw [q] at e
  have e' : (b, o) = p := Option.some.inj e
  subst e'
  exact ⟨hb, q⟩
theorem Inv.pinned {pins : List (Addr × Obj)} {σ : St} {H : Hp} {s : Shared} {fp : List Addr} (I : Inv X pins σ H s) (hf : ∀ b ∈ fp, FpOk X pins H b) (ho : ∀ b ∈ fp, ∃ o, s.heap.get? b = some o /\ ∀ v, o.data ≠ .cell v) : Inv X (pins ++ z9y fp s.heap) σ H s :=
 I.pins_of fun p hp => (List.mem_append.mp hp).elim (fun z => I.pin p (List.mem_append_right _ z)) fun z => by
  obtain ⟨hb, e⟩ := y25 z
  obtain ⟨f0, f1, f2, _⟩ := hf p.1 hb
  obtain ⟨o, e', d⟩ := ho p.1 hb
  rw [e] at e'; cases e'
  exact ⟨e, f0, f1, f2, d⟩
theorem Inv.unpinned {pins pl : List (Addr × Obj)} {σ : St} {H : Hp} {s : Shared} (I : Inv X (pins ++ pl) σ H s) : Inv X pins σ H s := I.pins_of fun p hp => I.pin p (List.mem_append_right _ (List.mem_append_left _ hp))
theorem z1i {iter : Expr} {body : List Stmt} {wi : TI} {g : TG} {tb : TS} {pos : Pos} (hp : PassesOwn (model X.prog X.w) X.A X.env X.xe) (hc : X.calm = true) (hi : PI X tg iter wi) (hg : PG X tg g) (hb : PSs X body tb)
  (hs : ∀ x, foldedSetIterable iter X.env x = pure x := by intro _; rfl) : PS X (.For tg iter body [] pos) (tFor wi g tb) := by
 intro pins s σ H D I h
 refine wpAny_For (thn (hi pins s σ H _ I h) fun v s1 h1 => thn h1 fun itv s2 h2 => ?_) hs
 obtain ⟨it, fp, tn, J, H2, e, I2, T, st2, f2, W, ⟨m0, w0⟩, turn⟩ := h2
 subst e
 have stat : ∀ {H' : Hp}, (∀ b ∈ fp, H' b = none) -> ∀ b ∈ fp, FpOk X pins H' b := fun hn b hb => ⟨hn b hb, (f2 b hb).2⟩
 refine codeAny_forLoop_any (fun n s' => ∃ i σ' H', Inv X pins σ' H' s' /\ tn i s'.heap /\ (∀ b ∈ fp, H' b = none) /\ W i n σ' H') ?_ m0 ⟨0, σ, H2, I2, st2, fun b hb => (f2 b hb).1, w0⟩
 rintro n s3 ⟨i, σ3, H3, I3, st3, fr3, w3⟩
 rcases turn i n σ3 H3 w3 with ⟨stop, qn⟩ | ⟨go, N, hN, step⟩
 ·refine wpAny_passesOwn hp (thn (T.done X rfl rfl rfl hc i pins s3 σ3 H3 X.xe I3 (stat fr3) st3 stop) fun r s4 hz => ?_)
  obtain ⟨hr, I4⟩ := hz
  subst hr
  exact wpAny_execs_nil ⟨σ3, H3, I4, qn⟩
 ·refine wpAny_passesOwn hp (thn (T.item X rfl rfl rfl hc i pins s3 σ3 H3 X.xe I3 (stat fr3) st3 go) fun r s4 hz => ?_)
  obtain ⟨u, hr, h4⟩ := hz
  subst hr
  refine wpAny_passesOwn hp (thn h4 fun _ s5 hz => ?_)
  obtain ⟨x, H5, I5, r5, y5, st5, fr5⟩ := hz
  have I5' := I5.pinned (stat fr5) (T.obj _ _ st5)
  refine wpAny_passesOwn hp (thn (hg _ s5 σ3 H5 x u _ I5' r5 (step x H5 y5)) fun _ s6 hz => ?_)
  obtain ⟨σ6, H6, I6, q6⟩ := hz
  refine wpAny_passesOwn hp (thn (hb _ s6 σ6 H6 _ I6 q6) fun f s7 q7 => ?_)
  have again : ∀ {σ7 : St} {H7 : Hp}, Inv X (pins ++ z9y fp s5.heap) σ7 H7 s7 -> N σ7 H7 -> ∃ m, m < n /\ ∃ i σ' H', Inv X pins σ' H' s7 /\ tn i s7.heap /\ (∀ b ∈ fp, H' b = none) /\ W i m σ' H' := fun {σ7 H7} I7 n7 => by
   obtain ⟨m', hm, w7⟩ := hN σ7 H7 n7
   refine ⟨m', hm, i + 1, σ7, H7, I7.unpinned, T.keep _ _ _ st5 fun b hb o e => (I7.pin (b, o) (List.mem_append_right _ (List.mem_append_right _ (z4r hb e)))).1, fun b hb => ?_, w7⟩
   obtain ⟨o, e, d⟩ := T.obj _ _ st5 b hb
   exact (I7.pin (b, o) (List.mem_append_right _ (List.mem_append_right _ (z4r hb e)))).2.1
  cases f with
  | next => obtain ⟨σ7, H7, I7, n7⟩ := q7; exact again I7 n7
  | cont => obtain ⟨σ7, H7, I7, n7⟩ := q7; exact again I7 n7
  | brk => obtain ⟨σ7, H7, I7, q7⟩ := q7; exact ⟨σ7, H7, I7.unpinned, q7⟩
  | ret v => obtain ⟨x7, σ7, H7, I7, r7, q7⟩ := q7; exact ⟨x7, σ7, H7, I7.unpinned, r7, q7⟩
end
theorem z2g {K : PySem.W.Frag} {a : Addr} {xs : List V} {g : TG} {tb : TS} {D : Ends} {σ : St} {H : Hp} (Pv : Nat -> St -> Hp -> Prop) (h0 : Pv 0 σ H) (hl : ∀ i σ H, i ≤ xs.length -> Pv i σ H -> SqL K H a xs)
  (hs : ∀ i x σ H, xs[i]? = some x -> Pv i σ H -> g x σ H fun σ2 H2 => tb { D with nx := Pv (i + 1), ct := Pv (i + 1), bk := D.nx } σ2 H2) (hd : ∀ σ H, Pv xs.length σ H -> D.nx σ H) :
  ∃ W : Nat -> Nat -> St -> Hp -> Prop, (∃ m, W 0 m σ H) /\ ∀ i m σ H, W i m σ H ->
   ((Itl K a).stop i H /\ D.nx σ H) \/ ((Itl K a).go i H /\ ∃ N : St -> Hp -> Prop, (∀ σ' H', N σ' H' -> ∃ m', m' < m /\ W (i + 1) m' σ' H') /\ ∀ x H', (Itl K a).yld i H x H' -> g x σ H' fun σ2 H2 => tb { D with nx := N, ct := N, bk := D.nx } σ2 H2) := by
 refine ⟨fun i m σ H => m = xs.length - i /\ i ≤ xs.length /\ Pv i σ H, ⟨xs.length, by simp, Nat.zero_le _, h0⟩, ?_⟩
 rintro i m σ H ⟨rfl, hi, p⟩
 have q := hl i σ H hi p
 by_cases hlt : i < xs.length
 ·refine .inr ⟨⟨xs, xs[i], q, by simp [hlt]⟩, Pv (i + 1), fun σ' H' p' => ⟨xs.length - (i + 1), by omega, rfl, hlt, p'⟩, fun x H' y => ?_⟩
  obtain ⟨e, y⟩ := y
  subst e
  exact hs i x σ _ (y xs q) p
 ·have e : i = xs.length := by omega
  subst e
  exact .inl ⟨⟨xs, q, Nat.le_refl _⟩, hd σ H p⟩
theorem z50 {K : PySem.W.Frag} {a : Addr} {xs : List V} {g : TG} {tb : TS} {D : Ends} {σ : St} {H : Hp} (Pv : Nat -> St -> Hp -> Prop) (h0 : Pv 0 σ H) (hl : ∀ i σ H, i ≤ xs.length -> Pv i σ H -> SqT K H a xs)
  (hs : ∀ i x σ H, xs[i]? = some x -> Pv i σ H -> g x σ H fun σ2 H2 => tb { D with nx := Pv (i + 1), ct := Pv (i + 1), bk := D.nx } σ2 H2) (hd : ∀ σ H, Pv xs.length σ H -> D.nx σ H) :
  ∃ W : Nat -> Nat -> St -> Hp -> Prop, (∃ m, W 0 m σ H) /\ ∀ i m σ H, W i m σ H ->
   ((Itt K a).stop i H /\ D.nx σ H) \/ ((Itt K a).go i H /\ ∃ N : St -> Hp -> Prop, (∀ σ' H', N σ' H' -> ∃ m', m' < m /\ W (i + 1) m' σ' H') /\ ∀ x H', (Itt K a).yld i H x H' -> g x σ H' fun σ2 H2 => tb { D with nx := N, ct := N, bk := D.nx } σ2 H2) := by
 refine ⟨fun i m σ H => m = xs.length - i /\ i ≤ xs.length /\ Pv i σ H, ⟨xs.length, by simp, Nat.zero_le _, h0⟩, ?_⟩
 rintro i m σ H ⟨rfl, hi, p⟩
 have q := hl i σ H hi p
 by_cases hlt : i < xs.length
 ·refine .inr ⟨⟨xs, xs[i], q, by simp [hlt]⟩, Pv (i + 1), fun σ' H' p' => ⟨xs.length - (i + 1), by omega, rfl, hlt, p'⟩, fun x H' y => ?_⟩
  obtain ⟨e, y⟩ := y
  subst e
  exact hs i x σ _ (y xs q) p
 ·have e : i = xs.length := by omega
  subst e
  exact .inl ⟨⟨xs, q, Nat.le_refl _⟩, hd σ H p⟩
theorem z2J {lo : Int} {n : Nat} {g : TG} {tb : TS} {D : Ends} {σ : St} {H : Hp} (Pv : Nat -> St -> Hp -> Prop) (h0 : Pv 0 σ H)
  (hs : ∀ i σ H, i < n -> Pv i σ H -> g (.int (lo + i)) σ H fun σ2 H2 => tb { D with nx := Pv (i + 1), ct := Pv (i + 1), bk := D.nx } σ2 H2) (hd : ∀ σ H, Pv n σ H -> D.nx σ H) :
  ∃ W : Nat -> Nat -> St -> Hp -> Prop, (∃ m, W 0 m σ H) /\ ∀ i m σ H, W i m σ H ->
   ((Itr lo n).stop i H /\ D.nx σ H) \/ ((Itr lo n).go i H /\ ∃ N : St -> Hp -> Prop, (∀ σ' H', N σ' H' -> ∃ m', m' < m /\ W (i + 1) m' σ' H') /\ ∀ x H', (Itr lo n).yld i H x H' -> g x σ H' fun σ2 H2 => tb { D with nx := N, ct := N, bk := D.nx } σ2 H2) := by
 refine ⟨fun i m σ H => m = n - i /\ i ≤ n /\ Pv i σ H, ⟨n, by simp, Nat.zero_le _, h0⟩, ?_⟩
 rintro i m σ H ⟨rfl, hi, p⟩
 by_cases hlt : i < n
 ·refine .inr ⟨hlt, Pv (i + 1), fun σ' H' p' => ⟨n - (i + 1), by omega, rfl, hlt, p'⟩, fun x H' y => ?_⟩
  obtain ⟨e, y⟩ := y
  subst e y
  exact hs i σ _ hlt p
 ·have e : i = n := by omega
  subst e
  exact .inl ⟨Nat.le_refl _, hd σ H p⟩
abbrev R2 := V -> V -> Hp -> VK -> Prop
def OpR (X : Cx) (f : Value -> Value -> Sem Value) (r : R2) : Prop :=
 ∀ (pins : List (Addr × Obj)) (s : Shared) (σ : St) (H : Hp) (x y : V) (v u : Value) (Q : VK), Inv X pins σ H s -> RelV x v -> RelV y u -> r x y H Q ->
  wpAny (model X.prog X.w) X.A (f v u) (EP X pins σ Q) X.xe s
def UnR (X : Cx) (f : Value -> Sem Value) (r : V -> Hp -> VK -> Prop) : Prop :=
 ∀ (pins : List (Addr × Obj)) (s : Shared) (σ : St) (H : Hp) (x : V) (v : Value) (Q : VK), Inv X pins σ H s -> RelV x v -> r x H Q ->
  wpAny (model X.prog X.w) X.A (f v) (EP X pins σ Q) X.xe s
def z3o (X : Cx) (f : Value) (r : List V -> Hp -> VK -> Prop) : Prop :=
 ∀ (pins : List (Addr × Obj)) (s : Shared) (σ : St) (H : Hp) (xs : List V) (us : List Value) (Q : VK), Inv X pins σ H s -> Vals xs us -> r xs H Q ->
  wpAny (model X.prog X.w) X.A (call f us) (EP X pins σ Q) X.xe s
def tOp (r : R2) (ta tb : TE) : TE := fun σ H Q => ta σ H fun x H1 => tb σ H1 fun y H2 => r x y H2 Q
def tUn (r : V -> Hp -> VK -> Prop) (ta : TE) : TE := fun σ H Q => ta σ H fun x H1 => r x H1 Q
def rI (C : Int -> Int -> Prop) (g : Int -> Int -> V) : R2 := fun x y H Q => ∃ i j, x = .int i /\ y = .int j /\ C i j /\ Q (g i j) H
def rI0 (g : Int -> Int -> V) : R2 := fun x y H Q => ∃ i j, x = .int i /\ y = .int j /\ Q (g i j) H
def rU (g : Int -> V) : V -> Hp -> VK -> Prop := fun x H Q => ∃ i, x = .int i /\ Q (g i) H
section
variable {X : Cx} {a b c : Expr} {ta tb tc : TE} {pos : Pos}
theorem binT (ha : PE X a ta) (hb : PE X b tb) {pins : List (Addr × Obj)} {s : Shared} {σ : St} {H : Hp} {R : V -> V -> Hp -> Prop} (I : Inv X pins σ H s)
  (h : ta σ H fun x H1 => tb σ H1 fun y H2 => R x y H2) {Q : Value -> Shared -> Prop} {f : Value -> Value -> Sem Value}
  (hf : ∀ v u s2 x y H2, Inv X pins σ H2 s2 -> RelV x v -> RelV y u -> R x y H2 -> wpAny (model X.prog X.w) X.A (f v u) Q X.xe s2) :
  wpAny (model X.prog X.w) X.A (eval a X.env) (fun v s₁ => wpAny (model X.prog X.w) X.A (eval b X.env) (fun u s₂ => wpAny (model X.prog X.w) X.A (f v u) Q X.xe s₂) X.xe s₁) X.xe s := by
 refine thn (ha pins s σ H _ I h) fun v s1 hz => ?_
 obtain ⟨x, H1, I1, r1, q1⟩ := hz
 refine thn (hb pins s1 σ H1 _ I1 q1) fun u s2 hz => ?_
 obtain ⟨y, H2, I2, r2, q2⟩ := hz
 exact hf v u s2 x y H2 I2 r1 r2 q2
theorem z0v {op : Operator} {r : R2} (ho : OpR X (binaryOp op) r) (ha : PE X a ta) (hb : PE X b tb) : PE X (.BinOp a op b pos) (tOp r ta tb) := by
 intro pins s σ H Q I h
 exact wpAny_BinOp (binT ha hb I h fun v u s2 x y H2 I2 rx ry q => ho pins s2 σ H2 x y v u Q I2 rx ry q)
theorem y5Q {op : UnaryOp} {r : V -> Hp -> VK -> Prop} (ho : UnR X (unaryOp op) r) (ha : PE X a ta) : PE X (.UnaryOp op a pos) (tUn r ta) := by
 intro pins s σ H Q I h
 exact UnaryOp_ (thn (ha pins s σ H _ I h) fun v s1 ⟨x, H1, I1, r1, q1⟩ => ho pins s1 σ H1 x v Q I1 r1 q1)
theorem opI {f : Value -> Value -> Sem Value} {C : Int -> Int -> Prop} {g : Int -> Int -> Int}
  (rule : ∀ (i j : Int) (t u : Tok) (s : Shared) (Q : Value -> Shared -> Prop) (E : Value -> Shared -> Prop), C i j -> Q (.int (g i j) s.toks) { s with toks := s.toks + 1 } -> wpAny (model X.prog X.w) X.A (f (.int i t) (.int j u)) Q E s) :
  OpR X f (rI C fun i j => .int (g i j)) := by
 intro pins s σ H x y v u Q I rx ry h
 obtain ⟨i, j, rfl, rfl, hc, q⟩ := h
 obtain ⟨t, rfl⟩ := rx
 obtain ⟨t', rfl⟩ := ry
 exact rule i j t t' s _ _ hc ⟨.int (g i j), H, I.tok _, ⟨_, rfl⟩, q⟩
theorem opI0 {f : Value -> Value -> Sem Value} {g : Int -> Int -> Int}
  (rule : ∀ (i j : Int) (t u : Tok) (s : Shared) (Q : Value -> Shared -> Prop) (E : Value -> Shared -> Prop), Q (.int (g i j) s.toks) { s with toks := s.toks + 1 } -> wpAny (model X.prog X.w) X.A (f (.int i t) (.int j u)) Q E s) :
  OpR X f (rI0 fun i j => .int (g i j)) := by
 intro pins s σ H x y v u Q I rx ry h
 obtain ⟨i, j, rfl, rfl, q⟩ := h
 obtain ⟨t, rfl⟩ := rx
 obtain ⟨t', rfl⟩ := ry
 exact rule i j t t' s _ _ ⟨.int (g i j), H, I.tok _, ⟨_, rfl⟩, q⟩
theorem opB0 {f : Value -> Value -> Sem Value} {g : Int -> Int -> Bool}
  (rule : ∀ (i j : Int) (t u : Tok) (s : Shared) (Q : Value -> Shared -> Prop) (E : Value -> Shared -> Prop), Q (.bool (g i j)) s -> wpAny (model X.prog X.w) X.A (f (.int i t) (.int j u)) Q E s) :
  OpR X f (rI0 fun i j => .bl (g i j)) := by
 intro pins s σ H x y v u Q I rx ry h
 obtain ⟨i, j, rfl, rfl, q⟩ := h
 obtain ⟨t, rfl⟩ := rx
 obtain ⟨t', rfl⟩ := ry
 exact rule i j t t' s _ _ ⟨.bl (g i j), H, I, rfl, q⟩
def CDiv (i j : Int) : Prop := 0 < j /\ j < 1073741824
def CMul (i j : Int) : Prop := (-(2 ^ 64) < i /\ i < 2 ^ 64) \/ (-(2 ^ 64) < j /\ j < 2 ^ 64)
theorem CMul.ok {i j : Int} (h : CMul i j) : IntMulOk i j := by
 rcases h with ⟨h1, h2⟩ | ⟨h1, h2⟩
 ·exact .of_left (intBits_le_64 h1 h2)
 ·exact .of_right (intBits_le_64 h1 h2)
theorem z1F : OpR X (binaryOp .Add) (rI0 fun i j => .int (i + j)) := opI0 fun _ _ _ _ _ _ _ q => add_int q
theorem z5q : OpR X (binaryOp .Sub) (rI0 fun i j => .int (i - j)) := opI0 fun _ _ _ _ _ _ _ q => sub_int q
theorem z4E : OpR X (binaryOp .Mult) (rI CMul fun i j => .int (i * j)) := opI fun _ _ _ _ _ _ _ hc q => mul_int q hc.ok
theorem z1P : OpR X (binaryOp .FloorDiv) (rI CDiv fun i j => .int (i / j)) := opI fun i j _ _ _ _ _ hc q => by
 have h1 : (0 : Int) < j := hc.1
 have h2 : j < 1073741824 := hc.2
 exact floordiv_int (by omega) (by rw [Int.fdiv_eq_ediv_of_nonneg i (by omega)]; exact q) (.inl (PyProof.noPylong_small (by omega)))
theorem z1a : OpR X (binaryOp .Mod) (rI (fun _ j => 0 < j) fun i j => .int (i % j)) := opI fun i j _ _ _ _ _ hc q => by
 have h1 : (0 : Int) < j := hc
 exact mod_int' (by omega) (by rw [Int.fmod_eq_emod_of_nonneg i (by omega)]; exact q)
theorem unI {f : Value -> Sem Value} {g : Int -> Int}
  (rule : ∀ (i : Int) (t : Tok) (s : Shared) (Q : Value -> Shared -> Prop) (E : Value -> Shared -> Prop), Q (.int (g i) s.toks) { s with toks := s.toks + 1 } -> wpAny (model X.prog X.w) X.A (f (.int i t)) Q E s) :
  UnR X f (rU fun i => .int (g i)) := by
 intro pins s σ H x v Q I rx h
 obtain ⟨i, rfl, q⟩ := h
 obtain ⟨t, rfl⟩ := rx
 exact rule i t s _ _ ⟨.int (g i), H, I.tok _, ⟨_, rfl⟩, q⟩
theorem y2x : UnR X (unaryOp .USub) (rU fun i => .int (-i)) := unI fun _ _ _ _ _ q => neg_int q
end
def scal : V -> V -> Bool
 | .non, .non => true | .non, .int _ => true | .int _, .non => true | .non, .bl _ => true | .bl _, .non => true | .non, .str _ => true | .str _, .non => true
 | .int _, .int _ => true | .bl _, .bl _ => true | .str _, .str _ => true | .byt _, .byt _ => true
 | .int _, .str _ => true | .str _, .int _ => true | .bl _, .str _ => true | .str _, .bl _ => true
 | _, _ => false
def rEq : R2 := fun x y H Q => scal x y = true /\ Q (.bl (decide (x = y))) H
def rNe : R2 := fun x y H Q => scal x y = true /\ Q (.bl (!decide (x = y))) H
theorem y3F {i j : Int} : decide (V.int i = V.int j) = (i == j) := by
 rw [Bool.eq_iff_iff]
 simp
theorem y58 {i j : Bool} : decide (V.bl i = V.bl j) = (i == j) := by
 rw [Bool.eq_iff_iff]
 simp
theorem y2z {i j : Str} : decide (V.str i = V.str j) = (i == j) := by
 rw [Bool.eq_iff_iff]
 simp
theorem y3m {i j : Array UInt8} : decide (V.byt i = V.byt j) = (i.toList == j.toList) := by
 rw [Bool.eq_iff_iff]
 cases i
 cases j
 simp
section
variable {X : Cx} {a b c : Expr} {ta tb tc : TE} {pos : Pos}
theorem z0W {pins : List (Addr × Obj)} {σ : St} {H : Hp} {s : Shared} {Q : VK} {k k' : Bool} (I : Inv X pins σ H s) (q : Q (.bl k) H) (e : k = k') : EP X pins σ Q (.bool k') s := by
 subst e
 exact ⟨.bl k, H, I, rfl, q⟩
theorem z3A : OpR X (compareOp .Eq) rEq := by
 intro pins s σ H x y v u Q I rx ry h
 obtain ⟨hs, q⟩ := h
 cases x with
 | non =>
  cases rx
  cases y with
  | non => cases ry; exact PySem.EqNone.eq_none_none (z0W I q (by simp))
  | bl j => cases ry; exact PySem.EqNone.eq_none_bool (z0W I q (by simp))
  | int j => obtain ⟨t', rfl⟩ := ry; exact PySem.EqNone.eq_none_int (z0W I q (by simp))
  | str j => obtain ⟨t', rfl⟩ := ry; exact PySem.EqNone.eq_none_str (z0W I q (by simp))
  | _ => exact absurd (show false = true from hs) Bool.false_ne_true
 | bl i =>
  cases rx
  cases y with
  | non => cases ry; exact PySem.EqNone.eq_bool_none (z0W I q (by simp))
  | bl j => cases ry; exact eq_bool (z0W I q y58)
  | str j => obtain ⟨t', rfl⟩ := ry; exact PySem.EqMixed.eq_bool_str (z0W I q (by simp))
  | _ => exact absurd (show false = true from hs) Bool.false_ne_true
 | int i =>
  obtain ⟨t, rfl⟩ := rx
  cases y with
  | non => cases ry; exact PySem.EqNone.eq_int_none (z0W I q (by simp))
  | int j => obtain ⟨t', rfl⟩ := ry; exact eq_int (z0W I q y3F)
  | str j => obtain ⟨t', rfl⟩ := ry; exact PySem.EqMixed.eq_int_str (z0W I q (by simp))
  | _ => exact absurd (show false = true from hs) Bool.false_ne_true
 | str i =>
  obtain ⟨t, rfl⟩ := rx
  cases y with
  | non => cases ry; exact PySem.EqNone.eq_str_none (z0W I q (by simp))
  | bl j => cases ry; exact PySem.EqMixed.eq_str_bool (z0W I q (by simp))
  | int j => obtain ⟨t', rfl⟩ := ry; exact PySem.EqMixed.eq_str_int (z0W I q (by simp))
  | str j => obtain ⟨t', rfl⟩ := ry; exact eq_str (z0W I q y2z)
  | _ => exact absurd (show false = true from hs) Bool.false_ne_true
 | byt i =>
  obtain ⟨t, rfl⟩ := rx
  cases y with
  | byt j => obtain ⟨t', rfl⟩ := ry; exact PySem.W.eq_bytes (z0W I q y3m)
  | _ => exact absurd (show false = true from hs) Bool.false_ne_true
 | _ => cases y <;> exact absurd (show false = true from hs) Bool.false_ne_true
theorem z8K : OpR X (compareOp .NotEq) rNe := by
 intro pins s σ H x y v u Q I rx ry h
 obtain ⟨hs, q⟩ := h
 cases x with
 | non =>
  cases rx
  cases y with
  | non => cases ry; exact PySem.EqNone.ne_none_none (z0W I q (by simp))
  | bl j => cases ry; exact PySem.EqNone.ne_none_bool (z0W I q (by simp))
  | int j => obtain ⟨t', rfl⟩ := ry; exact PySem.EqNone.ne_none_int (z0W I q (by simp))
  | str j => obtain ⟨t', rfl⟩ := ry; exact PySem.EqNone.ne_none_str (z0W I q (by simp))
  | _ => exact absurd (show false = true from hs) Bool.false_ne_true
 | bl i =>
  cases rx
  cases y with
  | non => cases ry; exact PySem.EqNone.ne_bool_none (z0W I q (by simp))
  | bl j => cases ry; exact ne_bool (z0W I q (congrArg not y58))
  | str j => obtain ⟨t', rfl⟩ := ry; exact PySem.EqMixed.ne_bool_str (z0W I q (by simp))
  | _ => exact absurd (show false = true from hs) Bool.false_ne_true
 | int i =>
  obtain ⟨t, rfl⟩ := rx
  cases y with
  | non => cases ry; exact PySem.EqNone.ne_int_none (z0W I q (by simp))
  | int j => obtain ⟨t', rfl⟩ := ry; exact ne_int (z0W I q (congrArg not y3F))
  | str j => obtain ⟨t', rfl⟩ := ry; exact PySem.EqMixed.ne_int_str (z0W I q (by simp))
  | _ => exact absurd (show false = true from hs) Bool.false_ne_true
 | str i =>
  obtain ⟨t, rfl⟩ := rx
  cases y with
  | non => cases ry; exact PySem.EqNone.ne_str_none (z0W I q (by simp))
  | bl j => cases ry; exact PySem.EqMixed.ne_str_bool (z0W I q (by simp))
  | int j => obtain ⟨t', rfl⟩ := ry; exact PySem.EqMixed.ne_str_int (z0W I q (by simp))
  | str j => obtain ⟨t', rfl⟩ := ry; exact ne_str (z0W I q (congrArg not y2z))
  | _ => exact absurd (show false = true from hs) Bool.false_ne_true
 | byt i =>
  obtain ⟨t, rfl⟩ := rx
  cases y with
  | byt j => obtain ⟨t', rfl⟩ := ry; exact PySem.W.ne_bytes (z0W I q (congrArg not y3m))
  | _ => exact absurd (show false = true from hs) Bool.false_ne_true
 | _ => cases y <;> exact absurd (show false = true from hs) Bool.false_ne_true
theorem z8r : OpR X (compareOp .Lt) (rI0 fun i j => .bl (decide (i < j))) := opB0 fun _ _ _ _ _ _ _ q => lt_int q
theorem y6y : OpR X (compareOp .LtE) (rI0 fun i j => .bl (decide (i ≤ j))) := opB0 fun _ _ _ _ _ _ _ q => le_int q
theorem z4v : OpR X (compareOp .Gt) (rI0 fun i j => .bl (decide (j < i))) := opB0 fun _ _ _ _ _ _ _ q => gt_int q
theorem y5Y : OpR X (compareOp .GtE) (rI0 fun i j => .bl (decide (j ≤ i))) := opB0 fun _ _ _ _ _ _ _ q => ge_int q
theorem z0u (b : Expr) {op : CmpOp} (h : op ≠ .In := by decide) (h2 : op ≠ .NotIn := by decide) : behindInMarks op b = false := by
 have e1 : (op == CmpOp.In) = false := by cases op <;> first | rfl | exact absurd rfl h
 have e2 : (op == CmpOp.NotIn) = false := by cases op <;> first | rfl | exact absurd rfl h2
 cases b <;> simp [behindInMarks, e1, e2]
theorem z8G {op : CmpOp} {r : R2} (ho : OpR X (compareOp op) r) (ha : PE X a ta) (hb : PE X b tb) (hm : behindInMarks op b = false) : PE X (.Compare a [op] [b] pos) (tOp r ta tb) := by
 intro pins s σ H Q I h
 exact wpAny_Compare1 (binT ha hb I h fun v u s2 x y H2 I2 rx ry q => ho pins s2 σ H2 x y v u Q I2 rx ry q) hm
def tTest (t : TE) : TT := fun σ H Q => t σ H fun x H' => ∃ k, x = .bl k /\ Q k H'
theorem z0l {op : CmpOp} {r : R2} (ho : OpR X (compareOp op) r) (ha : PE X a ta) (hb : PE X b tb) (hm : behindInMarks op b = false) : PT X (.Compare a [op] [b] pos) (tTest (tOp r ta tb)) := by
 intro pins s σ H Q I h
 refine wpAny_isTrue_Compare1 (thn (ha pins s σ H _ I h) fun v s1 ⟨x, H1, I1, r1, q1⟩ => thn (hb pins s1 σ H1 _ I1 q1) fun u s2 ⟨y, H2, I2, r2, q2⟩ =>
  thn (ho pins s2 σ H2 x y v u _ I2 r1 r2 q2) fun c s3 ⟨z, H3, I3, r3, k, e, q3⟩ => ?_) hm
 subst e
 cases r3
 exact wpAny_truthy_bool ⟨H3, I3, q3⟩
theorem z6r : (sizeLine : Nat) < 2 ^ 63 := by rw [sizeLine_eq]; decide
theorem z8e : OpR X (binaryOp .Add) (fun x y H Q => ∃ i j, x = .str i /\ y = .str j /\ i.length + j.length ≤ sizeLine /\ Q (.str (i ++ j)) H) := by
 intro pins s σ H x y v u Q I rx ry h
 obtain ⟨i, j, rfl, rfl, hz, q⟩ := h
 obtain ⟨t, rfl⟩ := rx
 obtain ⟨t', rfl⟩ := ry
 exact add_str (fun t' tk => ⟨.str (i ++ j), H, I.tok _, ⟨_, rfl⟩, q⟩) hz
theorem z4h {x : V} {us : List Value} (r : Vals [x] us) : ∃ u, us = [u] /\ RelV x u := by
 cases r with
 | cons r1 r2 => cases r2; exact ⟨_, rfl, r1⟩
theorem y4c {x y : V} {us : List Value} (r : Vals [x, y] us) : ∃ u w', us = [u, w'] /\ RelV x u /\ RelV y w' := by
 cases r with
 | cons r1 r2 =>
  cases r2 with
  | cons r3 r4 => cases r4; exact ⟨_, _, rfl, r1, r3⟩
theorem y2I (hc : X.calm = true) : z3o X (.builtin "max") (fun xs H Q => ∃ i j, xs = [.int i, .int j] /\ Q (.int (if j > i then j else i)) H) := by
 intro pins s σ H xs us Q I r h
 obtain ⟨i, j, rfl, q⟩ := h
 obtain ⟨u, w', rfl, ⟨t, rfl⟩, ⟨t', rfl⟩⟩ := y4c r
 refine max_two_ints (I.ok.hd hc) fun h' tk k => ⟨_, H, I.kept k, ?_, q⟩
 by_cases hj : j > i
 ·rw [if_pos hj, if_pos hj]; exact ⟨_, rfl⟩
 ·rw [if_neg hj, if_neg hj]; exact ⟨_, rfl⟩
end
structure ObjM (h : Heap) (x dx C : Addr) (mA : Str -> Option Value) : Prop where
 obj : h.get? x = some (PySem.W.instObj C dx)
 ns : h.Ns1 dx mA
 ne : dx ≠ x
theorem y2q {h : Heap} {dx : Addr} {mA : Str -> Option Value} (n : h.Ns1 dx mA) : ∃ od, h.get? dx = some od /\ ∀ name, PySem.W.lookIn name od = some (mA name) := by
 obtain ⟨o, es, ep, ho, hd, hk, _, hm⟩ := n
 refine ⟨o, ho, fun name => ?_⟩
 have e := hm name
 unfold nsFind findBy at e
 rw [<- Array.find?_toList] at e
 unfold PySem.W.lookIn
 rw [hd]
 dsimp only
 split
 ·rename_i y q
  rw [q] at e
  exact congrArg some e
 ·rename_i q
  rw [q] at e
  have a : es.toList.any (·.refKey) = false := by
   rw [List.any_eq_false]
   intro y hy
   obtain ⟨z, t, hkey⟩ := hk y (Array.mem_toList_iff.mp hy)
   simp [DictEntry.refKey, hkey]
  have a' : ¬ es.toList.any (·.refKey) = true := by rw [a]; exact Bool.false_ne_true
  rw [if_neg a']
  exact congrArg some e
theorem ObjM.look {h : Heap} {x dx C : Addr} {mA : Str -> Option Value} (I : ObjM h x dx C mA) : ∃ od, PySem.W.InstAt h x (PySem.W.instObj C dx) C (some od) /\ ∀ name, PySem.W.lookIn name od = some (mA name) :=
 let ⟨od, ho, hl⟩ := y2q I.ns
 ⟨od, ⟨I.obj, rfl, rfl, ho⟩, hl⟩
section
variable {prog : Program} {w : World} {A : Around} {E : Value -> Shared -> Prop} {s : Shared} {K : PySem.W.Frag} {x dx C f : Addr} {mA : Str -> Option Value} {name : Str} {v : Value}
theorem y5J {expr : Bool} {Q : Value -> Shared -> Prop} (X : K.In s.heap) (I : ObjM s.heap x dx C mA) (hg : PySem.W.plainGet K C name = true) (hh : PySem.W.hasDictIn K C = true)
  (ha : PySem.W.findIn K (.ref C) name = some none) (hv : mA name = some v) (hv' : PySem.W.handedIn v = true) (h : Q v { s with toks := s.toks + 1 }) :
  wpAny (model prog w) A (getAttr (.ref x) name expr) Q E s := by
 obtain ⟨od, J, hl⟩ := I.look
 exact PySem.W.get_value X J (PySem.W.plainGet_of hg).1 (PySem.W.findObj_own hh ha rfl (by rw [hl, hv])) hv' h
theorem y4K {pl : Sem Bool} {Q : Value × List Value -> Shared -> Prop} (X : K.In s.heap) (I : ObjM s.heap x dx C mA) (hg : PySem.W.plainGet K C name = true)
  (hf : PySem.W.findIn K (.ref C) name = some (some (.ref f))) (ht : PySem.W.isFn K (.ref f) = true) (hv : mA name = none) (h : Q (.ref f, [.ref x]) s) :
  wpAny (model prog w) A (getMethod (.ref x) name pl) Q E s := by
 obtain ⟨od, J, hl⟩ := I.look
 exact PySem.W.method_fn X J (PySem.W.plainGet_of hg).1 (PySem.W.plainGet_of hg).2 hf (beq_iff_eq.mp ht) (by show (PySem.W.lookIn name od).map (·.isSome) = some false; rw [hl, hv]; rfl) h
theorem y61 {ns : List Str} {Q : Unit -> Shared -> Prop} (X : K.In s.heap) (I : ObjM s.heap x dx C mA)
  (hs : PySem.W.findIn K (.ref C) "__setattr__" = some (some (.builtin "object.__setattr__"))) (hp : PySem.W.plainOver K C = true) (ht : PySem.W.takerIn K C name = some none) (hh : PySem.W.hasDictIn K C = true)
  (hw : PySem.Within mA ns) (hsz : ns.length ≤ sizeLine)
  (h : ∀ h', ObjM h' x dx C (fun y => if y = name then some v else mA y) -> Heap.SameBut dx s.heap h' -> Q () { s with heap := h', toks := s.toks + 2 }) :
  wpAny (model prog w) A (setAttr (.ref x) name v) Q E s := by
 obtain ⟨od, J, hl⟩ := I.look
 refine PySem.W.set_plain X J hs (PySem.W.osa_open (s := { s with toks := s.toks + 1 }) (r := none) X J hp ht fun b => ?_)
 obtain ⟨cd, hc, hd'⟩ := PySem.W.any_some hh
 have hx : s.heap.get? x = some ⟨.ref C, some dx, .plain, #[]⟩ := I.obj
 refine wpAny_bind (wpAny_pure (wpAny_bind (wpAny_bind (wpAny_loadPart hx (wpAny_bind (PySem.W.Looks.here (s := { s with toks := s.toks + 1 }) (PySem.W.looks_clsIn X hc) ?_))))))
 rw [hd']
 refine wpAny_pure (a := some dx) (wpAny_bind (wpAny_pure (wpAny_bind ?_)))
 refine wpAny_nsSet1 (s := { s with toks := s.toks + 1 }) I.ns fun h' hn2 hs2 => ?_
 obtain ⟨oD, esD, epD, hoD, hdD, hcD⟩ := hn2.count (PySem.Within.cons name v hw)
 refine wpAny_bind (wpAny_lookBehind hoD (by rw [hdD]; exact pastItsLine_dict (Nat.le_trans hcD (by rw [List.length_cons]; omega))) ?_)
 exact wpAny_pure (h _ ⟨(hs2.2 _ (Ne.symm I.ne)).trans I.obj, hn2, I.ne⟩ hs2)
theorem y4J {R : Result -> Shared -> Prop} {vs : List Value} {kw : List (Str × Value)} (X : K.In s.heap) (hm : PySem.W.makesIn K C = true)
  (hi : PySem.W.findIn K (.ref C) "__init__" = some (some (.ref f))) (hf : PySem.W.typeIn K (.ref f) = some (.type "function"))
  (h : codeAny (model prog w) (A.under (.builtin "type.__call__" ⟨.ref C :: vs, kw⟩)) (.call (.ref f) ⟨.ref (s.heap.objs.size + 1) :: vs, kw⟩) (PySem.W.InitBack (s.heap.objs.size + 1) R)
   { s with heap := (s.heap.push PySem.W.emptyDict).push (PySem.W.instObj C s.heap.objs.size) }) :
  codeAny (model prog w) A (.call (.ref C) ⟨vs, kw⟩) R s := by
 obtain ⟨hh, g, d, t, os⟩ := s
 exact PySem.W.make_core (PySem.W.makes_of X hm) (PySem.W.looks_findIn X hi) (fun self => PySem.W.bind_fn X self hf) (.inl rfl) h
end
def putF (f : Str) (v : V) : List (Str × V) -> List (Str × V)
 | [] => [(f, v)]
 | (g, x) :: r => if g = f then (g, v) :: r else (g, x) :: putF f v r
theorem z0n (f g : Str) (v : V) : ∀ fs : List (Str × V), (putF f v fs).lookup g = if g = f then some v else fs.lookup g
 | [] => by
  show List.lookup g [(f, v)] = _
  by_cases h : g = f
  ·have hb : (g == f) = true := beq_iff_eq.mpr h
   simp only [List.lookup, hb, if_pos h]
  ·have hb : (g == f) = false := beq_eq_false_iff_ne.mpr h
   simp only [List.lookup, hb, if_neg h]
 | (k, x) :: r => by
  have ih := z0n f g v r
  rw [show putF f v ((k, x) :: r) = (if k = f then (k, v) :: r else (k, x) :: putF f v r) from rfl]
  by_cases hk : k = f
  ·rw [if_pos hk]
   by_cases h : g = k
   ·have hb : (g == k) = true := beq_iff_eq.mpr h
    simp only [List.lookup, hb, if_pos (h.trans hk)]
   ·have hb : (g == k) = false := beq_eq_false_iff_ne.mpr h
    simp only [List.lookup, hb, if_neg (fun e : g = f => h (e.trans hk.symm))]
  ·rw [if_neg hk]
   by_cases h : g = k
   ·have hb : (g == k) = true := beq_iff_eq.mpr h
    simp only [List.lookup, hb, if_neg (fun e : g = f => hk (h.symm.trans e))]
   ·have hb : (g == k) = false := beq_eq_false_iff_ne.mpr h
    simp only [List.lookup, hb]
    exact ih
theorem z7j (f : Str) (v : V) : ∀ fs : List (Str × V), f ∈ (putF f v fs).map (·.1) /\ ∀ g, g ∈ fs.map (·.1) -> g ∈ (putF f v fs).map (·.1)
 | [] => ⟨by simp [putF], fun g h => by simp at h⟩
 | (k, x) :: r => by
  obtain ⟨i1, i2⟩ := z7j f v r
  rw [show putF f v ((k, x) :: r) = (if k = f then (k, v) :: r else (k, x) :: putF f v r) from rfl]
  by_cases hk : k = f
  ·rw [if_pos hk]
   subst hk
   exact ⟨by simp, fun g h => by simpa using h⟩
  ·rw [if_neg hk]
   refine ⟨?_, fun g h => ?_⟩
   ·rw [List.map_cons]
    exact List.mem_cons_of_mem _ i1
   ·rw [List.map_cons] at h ⊢
    rcases List.mem_cons.mp h with e | e
    ·exact List.mem_cons.mpr (.inl e)
    ·exact List.mem_cons_of_mem _ (i2 g e)
theorem z1t (f : Str) (v : V) : ∀ fs : List (Str × V), (putF f v fs).length ≤ fs.length + 1
 | [] => by simp [putF]
 | (k, x) :: r => by
  have ih := z1t f v r
  rw [show putF f v ((k, x) :: r) = (if k = f then (k, v) :: r else (k, x) :: putF f v r) from rfl]
  by_cases hk : k = f
  ·rw [if_pos hk, List.length_cons, List.length_cons]; omega
  ·rw [if_neg hk, List.length_cons, List.length_cons]; omega
theorem RelO.some_of {v : V} {o : Option Value} (r : RelO (some v) o) : ∃ u, o = some u /\ RelV v u := by
 cases o with
 | none => exact (show False from r).elim
 | some u => exact ⟨u, rfl, r⟩
theorem RelO.none_of {o : Option Value} (r : RelO none o) : o = none := by
 cases o with
 | none => rfl
 | some u => exact (show False from r).elim
theorem y24 {v : V} {u : Value} (r : RelV v u) : PySem.W.handedIn u = true := by
 cases v with
 | non => cases (show u = Value.none from r); rfl
 | bl b => cases (show u = Value.bool b from r); rfl
 | int i => obtain ⟨t, e⟩ := (show ∃ t, u = Value.int i t from r); cases e; rfl
 | str x => obtain ⟨t, e⟩ := (show ∃ t, u = Value.str x t from r); cases e; rfl
 | byt b => obtain ⟨t, e⟩ := (show ∃ t, u = Value.bytes b t from r); cases e; rfl
 | flt b => obtain ⟨t, e⟩ := (show ∃ t, u = Value.float b t from r); cases e; rfl
 | ref a => cases (show u = Value.ref a from r); rfl
 | ty n => cases (show u = Value.type n from r); rfl
section
variable {P : Program} {w : World} {H H' : Hp} {h h' : Heap} {a C dx : Addr} {fs fs' : List (Str × V)}
theorem z8O (hok : HOk P w H h) (e : H a = some (.ins C dx fs)) : ∃ mA, ObjM h a dx C mA /\ (∀ f, RelO (fs.lookup f) (mA f)) /\ PySem.Within mA (fs.map (·.1)) /\ fs.length ≤ 1000 /\ H dx = some (.own a) := by
 obtain ⟨d, z, ne, ob, mA, n, r, q⟩ := (show z1f P w H h a (.ins C dx fs) from hok a _ e)
 exact ⟨mA, ⟨ob, n, ne⟩, r, q, z, d⟩
end
structure Cls (K : PySem.W.Frag) (C : Addr) : Prop where
 pg : PySem.W.plainGet K C Str.empty = true
 hd : PySem.W.hasDictIn K C = true
 po : PySem.W.plainOver K C = true
 sa : PySem.W.findIn K (.ref C) "__setattr__" = some (some (.builtin "object.__setattr__"))
theorem Cls.get {K : PySem.W.Frag} {C : Addr} (c : Cls K C) (f : Str) : PySem.W.plainGet K C f = true := c.pg
def z2G (K : PySem.W.Frag) (C : Addr) (f : Str) : Prop := PySem.W.findIn K (.ref C) f = some none
theorem z2G.taker {K : PySem.W.Frag} {C : Addr} {f : Str} (n : z2G K C f) : PySem.W.takerIn K C f = some none := by
 unfold PySem.W.takerIn
 rw [show PySem.W.findIn K (.ref C) f = some none from n]
 rfl
structure Meth (K : PySem.W.Frag) (C : Addr) (m : Str) (f : Addr) : Prop where
 at_ : PySem.W.findIn K (.ref C) m = some (some (.ref f))
 fn : PySem.W.isFn K (.ref f) = true
 kp : PySem.W.keepIn K (.ref f) = true
section
variable {X : Cx} {pins : List (Addr × Obj)} {σ : St} {H : Hp} {s : Shared} {a C dx : Addr} {fs : List (Str × V)} {f : Str} {v : V} {A : Around} {E : Value -> Shared -> Prop}
theorem y17 {b : Bool} {Q : Value -> Shared -> Prop} (I : Inv X pins σ H s) (e : H a = some (.ins C dx fs)) (c : Cls X.K C) (n : z2G X.K C f) (l : fs.lookup f = some v)
  (h : ∀ u s', Inv X pins σ H s' -> RelV v u -> Q u s') : wpAny (model X.prog X.w) A (getAttr (.ref a) f b) Q E s := by
 obtain ⟨mA, O, r, _, _, _⟩ := z8O I.hok e
 obtain ⟨u, hu, ru⟩ := RelO.some_of (v := v) (o := mA f) (by rw [<- l]; exact r f)
 exact y5J I.kIn O (c.get f) c.hd n hu (y24 ru) (h u _ (I.tok _) ru)
theorem z5N {m : Str} {g : Addr} {pl : Sem Bool} {Q : Value × List Value -> Shared -> Prop} (I : Inv X pins σ H s) (e : H a = some (.ins C dx fs)) (c : Cls X.K C) (k : Meth X.K C m g) (l : fs.lookup m = none)
  (h : Q (.ref g, [.ref a]) s) : wpAny (model X.prog X.w) A (getMethod (.ref a) m pl) Q E s := by
 obtain ⟨mA, O, r, _, _, _⟩ := z8O I.hok e
 have hn : mA m = none := RelO.none_of (by rw [<- l]; exact r m)
 exact y4K I.kIn O (c.get m) k.at_ k.fn hn h
theorem y1r {y : V} {u : Value} {Q : Unit -> Shared -> Prop} (I : Inv X pins σ H s) (e : H a = some (.ins C dx fs)) (c : Cls X.K C) (n : z2G X.K C f) (hl : fs.length < 1000) (ry : RelV y u)
  (h : ∀ s', Inv X pins σ (upd H a (.ins C dx (putF f y fs))) s' -> Q () s') : wpAny (model X.prog X.w) A (setAttr (.ref a) f u) Q E s := by
 obtain ⟨mA, O, r, wi, _, ho⟩ := z8O I.hok e
 have hz : (fs.map (·.1)).length ≤ sizeLine := by rw [List.length_map, sizeLine_eq]; omega
 refine y61 I.kIn O c.sa c.po n.taker c.hd wi hz fun h' O' sb => h _ ?_
 have hd : ∃ o, h'.get? dx = some o := let ⟨o, _, _, e', _⟩ := O'.ns; ⟨o, e'⟩
 refine I.write (x := a) (e := dx) (by rw [e]; exact True.intro) (.inr ho) (fun b q hb z => (sb.2 b hb).trans z) hd ?_
 refine ⟨by rw [z0d O.ne]; exact ho, ?_, O.ne, O'.obj, _, O'.ns, fun g => ?_, fun g hg => ?_⟩
 ·have := z1t f y fs; omega
 ·show RelO ((putF f y fs).lookup g) (if g = f then some u else mA g)
  rw [z0n]
  by_cases q : g = f
  ·rw [if_pos q, if_pos q]; exact ry
  ·rw [if_neg q, if_neg q]; exact r g
 ·by_cases q : g = f
  ·rw [q]; exact (z7j f y fs).1
  ·refine (z7j f y fs).2 g (wi g fun z => hg ?_)
   show (if g = f then some u else mA g) = none
   rw [if_neg q]; exact z
theorem Inv.made (I : Inv X pins σ H s) : Inv X pins σ (upd (upd H s.heap.objs.size (.own (s.heap.objs.size + 1))) (s.heap.objs.size + 1) (.ins C s.heap.objs.size []))
  { s with heap := (s.heap.push PySem.W.emptyDict).push (PySem.W.instObj C s.heap.objs.size) } := by
 have e1 : (s.heap.push PySem.W.emptyDict).get? s.heap.objs.size = some PySem.W.emptyDict := Heap.get?_push_size s.heap rfl
 have e2 : ((s.heap.push PySem.W.emptyDict).push (PySem.W.instObj C s.heap.objs.size)).get? (s.heap.objs.size + 1) = some (PySem.W.instObj C s.heap.objs.size) := by
  have := Heap.get?_push_size (s.heap.push PySem.W.emptyDict) (o := PySem.W.instObj C s.heap.objs.size) rfl
  rwa [Heap.size_push] at this
 have e3 : (s.heap.push PySem.W.emptyDict).Ns s.heap.objs.size (fun _ => none) := ⟨PySem.W.emptyDict, #[], _, e1, rfl, (fun e he => absurd he (by simp)), fun _ => rfl⟩
 have I1 := I.laid (a := s.heap.objs.size) (o := .own (s.heap.objs.size + 1)) (h' := s.heap.push PySem.W.emptyDict) (t' := s.toks) (fun b u q => Heap.get?_push_of_some _ q) (Nat.le_refl _) ⟨_, e1⟩
 refine I1.laid (a := s.heap.objs.size + 1) (o := .ins C s.heap.objs.size []) (t' := s.toks) (fun b u q => Heap.get?_push_of_some _ q) (Nat.le_of_eq (Heap.size_push _ _)) ?_
 have ne : s.heap.objs.size ≠ s.heap.objs.size + 1 := Nat.ne_of_lt (Nat.lt_succ_self _)
 refine ⟨by rw [z0d ne, z02], Nat.zero_le _, ne, e2, fun _ => none, (Heap.Ns1.of_empty e3).at fun o q => Heap.get?_push_of_some _ q, fun _ => True.intro, fun y hy => absurd rfl hy⟩
theorem y64 {prog : Program} {w : World} {env : Env} {e : Expr} {f : Str} {pos : Pos} {s : Shared} {Q : Value -> Shared -> Prop} (hb : attributeBase e f env (eval e env) = eval e env)
  (h : wpAny (model prog w) A (eval e env) (fun o s₁ => wpAny (model prog w) A (getAttr o f true) Q E s₁) E s) : wpAny (model prog w) A (eval (.Attribute e f pos) env) Q E s :=
 Attribute_any_ h (by rw [arm_eval_Attribute, hb])
end
def tFld (K : PySem.W.Frag) (ta : TE) (f : Str) : TE := fun σ H Q => ta σ H fun x H1 => ∃ a C dx fs v, x = .ref a /\ H1 a = some (.ins C dx fs) /\ Cls K C /\ z2G K C f /\ fs.lookup f = some v /\ Q v H1
def sFld (K : PySem.W.Frag) (ta tv : TE) (f : Str) : TS := fun D σ H => tv σ H fun y H1 => ta σ H1 fun x H2 => ∃ a C dx fs, x = .ref a /\ H2 a = some (.ins C dx fs) /\ Cls K C /\ z2G K C f /\ fs.length < 1000 /\
 D.nx σ (upd H2 a (.ins C dx (putF f y fs)))
section
variable {X : Cx} {o e value : Expr} {f : Str} {pos pos' tpos : Pos} {ta tv : TE}
theorem z0A (he : PE X e ta) (hb : attributeBase e f X.env (eval e X.env) = eval e X.env) : PE X (.Attribute e f pos) (tFld X.K ta f) := by
 intro pins s σ H Q I h
 refine y64 hb (thn (he pins s σ H _ I h) fun u s1 hz => ?_)
 obtain ⟨x, H1, I1, rx, a, C, dx, fs, v, ex, ea, c, n, l, q⟩ := hz
 subst ex
 obtain rfl : u = Value.ref a := rx
 exact y17 I1 ea c n l fun u' s2 I2 ru => ⟨v, H1, I2, ru, q⟩
theorem z5G (ha : PE X o ta) (hv : PE X value tv) (hs : swapsWith value (some (.Attribute o f pos')) pos.line X.env = pure false) : PS X (.Assign [.Attribute o f pos'] value pos) (sFld X.K ta tv f) := by
 intro pins s σ H D I h
 refine plainObj_wpAny_Assign_Attribute (thn (hv pins s σ H _ I h) fun u s1 ⟨y, H1, I1, ry, q⟩ => thn (ha pins s1 σ H1 _ I1 q) fun ov s2 hz => ?_) hs
 obtain ⟨x, H2, I2, rx, a, C, dx, fs, ex, ea, c, n, l, q2⟩ := hz
 subst ex
 obtain rfl : ov = Value.ref a := rx
 exact y1r I2 ea c n l ry fun s3 I3 => ⟨σ, _, I3, q2⟩
theorem y60 {pl : Sem Bool} {m : Str} {apos : Pos} {args : List Expr} {pins : List (Addr × Obj)} {s : Shared} {σ : St} {H : Hp} {Q : Value -> Shared -> Prop} {te : TE} (he : PE X e te) (I : Inv X pins σ H s)
  (h : te σ H fun x H1 => ∃ a C dx fs g, x = .ref a /\ H1 a = some (.ins C dx fs) /\ Cls X.K C /\ Meth X.K C m g /\ fs.lookup m = none /\
   ∀ s1, Inv X pins σ H1 s1 -> wpAny (model X.prog X.w) X.A (callWith pos (.ref g) [.ref a] (backTo pos (starEach args X.env)) (backToKw pos (keywordEach [] X.env))) Q X.xe s1)
  (ht : eval (.Call (.Attribute e m apos) args [] pos) X.env = (do
   let ov <- eval e X.env
   standAt apos.atName
   let (f, first) <- holding [ov] (getMethod ov m pl)
   callWith pos f first (backTo pos (starEach args X.env)) (backToKw pos (keywordEach [] X.env)))) :
  wpAny (model X.prog X.w) X.A (eval (.Call (.Attribute e m apos) args [] pos) X.env) Q X.xe s := by
 refine PySem.W.methodCall_KW (pl := pl) (thn (he pins s σ H _ I h) fun u s1 hz => ?_) ht
 obtain ⟨x, H1, I1, rx, a, C, dx, fs, g, ex, ea, c, k, l, q⟩ := hz
 subst ex
 obtain rfl : u = Value.ref a := rx
 exact z5N I1 ea c k l (q s1 I1)
end
section
variable {X : Cx} {pins : List (Addr × Obj)} {σ : St} {H : Hp} {s : Shared} {A : Around} {E : Value -> Shared -> Prop} {Q : Value -> Shared -> Prop} {c : Value} {b : Bool}
inductive TyOf (K : PySem.W.Frag) (H : Hp) : V -> Value -> Prop where
 | non : TyOf K H .non (.type "NoneType")
 | bl (x : Bool) : TyOf K H (.bl x) (.type "bool")
 | int (i : Int) : TyOf K H (.int i) (.type "int")
 | str (x : Str) : TyOf K H (.str x) (.type "str")
 | flt (x : UInt64) : TyOf K H (.flt x) (.type "float")
 | lst {a : Addr} {xs : List V} (e : H a = some (.lst xs)) : TyOf K H (.ref a) (.type "list")
 | frz {a : Addr} {o : Obj} {xs : List V} (e : H a = some (.frz o (.lst xs))) : TyOf K H (.ref a) (.type "list")
 | tup {a : Addr} {xs : List V} (e : H a = some (.tup xs)) : TyOf K H (.ref a) (.type "tuple")
 | dK {a : Addr} {kvs : List (Key × V)} (e : H a = some (.dK kvs)) : TyOf K H (.ref a) (.type "dict")
 | dT {a : Addr} {kvs : List (List Key × V)} (e : H a = some (.dT kvs)) : TyOf K H (.ref a) (.type "dict")
 | ins {a C dx : Addr} {fs : List (Str × V)} (e : H a = some (.ins C dx fs)) (cl : Cls K C) (ha : PySem.W.findIn K (.ref C) "__class__" = some (some (.builtin "object.__class__")))
   (hn : PySem.W.specialIn K (.builtin "object.__class__") "__get__" = some (some (.builtin "getset_descriptor.__get__"))) (htk : PySem.W.takesIn K (.builtin "object.__class__") = some true)
   (hm : PySem.W.mroIn K C (.type "object") = some true) : TyOf K H (.ref a) (.ref C)
theorem y2M {x : V} {u t : Value} (I : Inv X pins σ H s) (rx : RelV x u) (ty : TyOf X.K H x t) (e : PySem.W.kitOne X.K t c = some b) (h : ∀ tk, Q (.bool b) { s with toks := tk }) :
  wpAny (model X.prog X.w) A (call (.builtin "isinstance") [u, c]) Q E s := by
 cases ty with
 | non => cases (show u = Value.none from rx); exact PySem.W.kia_one PySem.W.kitx_none I.kIn True.intro e (fun z => nomatch z) h
 | bl y => cases (show u = Value.bool y from rx); exact PySem.W.kia_one PySem.W.kitx_bool I.kIn True.intro e (fun z => nomatch z) h
 | int i => obtain ⟨t, q⟩ := (show ∃ t, u = Value.int i t from rx); cases q; exact PySem.W.kia_one PySem.W.kitx_int I.kIn True.intro e (fun z => nomatch z) h
 | str y => obtain ⟨t, q⟩ := (show ∃ t, u = Value.str y t from rx); cases q; exact PySem.W.kia_one PySem.W.kitx_str I.kIn True.intro e (fun z => nomatch z) h
 | flt y => obtain ⟨t, q⟩ := (show ∃ t, u = Value.float y t from rx); cases q; exact PySem.W.kia_one PySem.W.kitx_float I.kIn True.intro e (fun z => nomatch z) h
 | @lst a xs ea =>
  cases (show u = Value.ref a from rx)
  obtain ⟨_, _, n, _, h1⟩ := (show z1f X.prog X.w H s.heap a (.lst xs) from I.hok a _ ea)
  exact PySem.W.kia_one PySem.W.kitx_list I.kIn ⟨_, h1, rfl⟩ e (fun z => nomatch z) h
 | @frz a ob xs ea =>
  cases (show u = Value.ref a from rx)
  obtain ⟨_, _, _, n, _, h1⟩ := (show z1f X.prog X.w H s.heap a (.frz ob (.lst xs)) from I.hok a _ ea)
  exact PySem.W.kia_one PySem.W.kitx_list I.kIn ⟨_, h1, rfl⟩ e (fun z => nomatch z) h
 | @tup a xs ea =>
  cases (show u = Value.ref a from rx)
  obtain ⟨_, _, _, p⟩ := (show z1f X.prog X.w H s.heap a (.tup xs) from I.hok a _ ea)
  obtain ⟨o, h1, h2, _⟩ := p
  exact PySem.W.kia_one PySem.W.kitx_tuple I.kIn ⟨o, h1, h2⟩ e (fun z => nomatch z) h
 | @dK a kvs ea =>
  cases (show u = Value.ref a from rx)
  obtain ⟨_, _, vs, _, p⟩ := (show z1f X.prog X.w H s.heap a (.dK kvs) from I.hok a _ ea)
  obtain ⟨o, es, ep, h1, h2, _⟩ := p
  exact PySem.W.kia_one PySem.W.kitx_dict I.kIn ⟨o, h1, h2.1⟩ e (fun z => nomatch z) h
 | @dT a kvs ea =>
  cases (show u = Value.ref a from rx)
  obtain ⟨_, _, xs, _, o, es, ep, h1, h2, _⟩ := (show z1f X.prog X.w H s.heap a (.dT kvs) from I.hok a _ ea)
  exact PySem.W.kia_one PySem.W.kitx_dict I.kIn ⟨o, h1, h2.1⟩ e (fun z => nomatch z) h
 | @ins a C dx fs ea cl ha hn htk hm =>
  cases (show u = Value.ref a from rx)
  obtain ⟨mA, O, _⟩ := z8O I.hok ea
  obtain ⟨od, J, _⟩ := O.look
  exact PySem.W.kia_one (PySem.W.kitx_own (cl.get _) cl.hd ha hn htk hm) I.kIn J e (fun z => nomatch z) h
end
structure Room (k : Nat) (A : Around) : Prop where
 hd : A.handled = none
 dp : A.depth + 3 * k + 5 < recursionLimit
 un : A.units + 16 * k + 200 < cLine
theorem Room.mono {j k : Nat} {A : Around} (r : Room k A) (h : j ≤ k) : Room j A := ⟨r.hd, by have := r.dp; omega, by have := r.un; omega⟩
theorem Room.deeper {k : Nat} {A : Around} (r : Room (k + 1) A) (env : Env) : Room k (A.deeper env) :=
 ⟨r.hd, by have := r.dp; show A.depth + 1 + 3 * k + 5 < _; omega, by have := r.un; show A.units + 3 + 16 * k + 200 < _; omega⟩
theorem y15 {A : Around} {C : Addr} {us : List Value} {kw : List (Str × Value)} : (A.under (.builtin "type.__call__" ⟨.ref C :: us, kw⟩)).depth = A.depth + 1 := by
 first | rfl | simp [Around.under, Code.weight, Code.isCreation, Code.isGuard, Code.isCaller, Code.frames, Code.isFrame, guardIds]
theorem y1y {A : Around} {C : Addr} {us : List Value} {kw : List (Str × Value)} : (A.under (.builtin "type.__call__" ⟨.ref C :: us, kw⟩)).units = A.units + 1 := by
 first | rfl | simp [Around.under, Code.cUnits, Code.frames, Code.isFrame]
theorem Room.make {k : Nat} {A : Around} (r : Room (k + 1) A) (C : Addr) (us : List Value) (kw : List (Str × Value)) : Room k (A.under (.builtin "type.__call__" ⟨.ref C :: us, kw⟩)) :=
 ⟨r.hd, by have := r.dp; rw [y15]; omega, by have := r.un; rw [y1y]; omega⟩
theorem Room.depth {k : Nat} {A : Around} (r : Room k A) : A.depth < recursionLimit := by have := r.dp; omega
theorem Room.units {k : Nat} {A : Around} (r : Room k A) : A.units + 64 < cLine := by have := r.un; omega
theorem Room.units0 {k : Nat} {A : Around} (r : Room k A) : A.units < cLine := by have := r.un; omega
def tNil : TA := fun _ H Q => Q [] H
def y4b (ta : TE) (tr : TA) : TA := fun σ H Q => ta σ H fun x H1 => tr σ H1 fun xs H2 => Q (x :: xs) H2
section
variable {X : Cx} {e : Expr} {es : List Expr} {te : TE} {t : TA} {pos : Pos}
theorem z03 : PA X [] tNil := fun _ _ _ _ H Q I h => Calls.spliced_nil ⟨[], H, I, .nil, h⟩
theorem z00 (ha : PE X e te) (hr : PA X es t) (hs : starEach (e :: es) X.env = (false, eval e X.env) :: starEach es X.env := by rfl) : PA X (e :: es) (y4b te t) := by
 intro pos pins s σ H Q I h
 rw [hs]
 show wpAny _ _ (spliced ((false, eval e X.env) :: backTo pos (starEach es X.env))) _ _ s
 refine Calls.spliced_cons (thn (ha pins s σ H _ I h) fun u s1 hz => ?_)
 obtain ⟨x, H1, I1, r1, q1⟩ := hz
 exact thn (hr pos pins s1 σ H1 _ I1 q1) fun us s2 ⟨xs, H2, I2, r2, q2⟩ => ⟨x :: xs, H2, I2, .cons r1 r2, q2⟩
def tTup (t : TA) : TE := fun σ H Q => t σ H fun xs H1 => xs.length ≤ sizeLine /\ ∀ p, H1 p = none -> Q (.ref p) (upd H1 p (.tup xs))
def tLst (t : TA) : TE := fun σ H Q => t σ H fun xs H1 => xs.length ≤ sizeLine /\ ∀ p, H1 p = none -> Q (.ref p) (upd H1 p (.lst xs))
theorem z0z {x1} (h : PA X es t) : PE X (.Tuple es x1 pos) (tTup t) := by
 intro pins s σ H Q I hq
 refine wpAny_Tuple_spliced (thn (h pos pins s σ H _ I hq) fun us s1 ⟨xs, H1, I1, r, z, q⟩ => ⟨by rw [<- r.length]; exact z, ?_⟩)
 have hf : H1 s1.heap.objs.size = none := I1.hok.fresh (Nat.le_refl _)
 refine ⟨.ref s1.heap.objs.size, upd H1 s1.heap.objs.size (.tup xs), I1.laid (t' := s1.toks) (fun b u e => Heap.get?_push_of_some _ e) (Nat.le_refl _) ?_, rfl, q _ hf⟩
 exact ⟨z, us, r, ⟨_, Heap.get?_push_size _ rfl, rfl, ⟨_, rfl⟩, rfl⟩⟩
theorem z2l (h : PA X es t) : PE X (.List es pos) (tLst t) := by
 intro pins s σ H Q I hq
 refine wpAny_List_spliced (thn (h pos pins s σ H _ I hq) fun us s1 ⟨xs, H1, I1, r, z, q⟩ => ⟨by rw [<- r.length]; exact z, ?_⟩)
 have hf : H1 s1.heap.objs.size = none := I1.hok.fresh (Nat.le_refl _)
 refine ⟨.ref s1.heap.objs.size, upd H1 s1.heap.objs.size (.lst xs), I1.laid (t' := s1.toks) (fun b u e => Heap.get?_push_of_some _ e) (Nat.le_refl _) ?_, rfl, q _ hf⟩
 exact ⟨z, us, 0, r, Heap.get?_push_size _ rfl⟩
end
abbrev Sp := List V -> Hp -> VK -> XK -> Prop
abbrev CXT := List Env -> Hp -> Shared -> XK -> Value -> Shared -> Prop
structure Env0 (P : Program) (w : World) (K : PySem.W.Frag) (mg : Str -> Option Value) (base : Heap) (A : Around) (outer : List Env) (s : Shared) (H : Hp) : Prop where
 frames : A.frames = some outer
 mod : Mod K mg base
 bs : ∀ b o, base.get? b = some o -> s.heap.get? b = some o /\ H b = none
 bsz : base.objs.size ≤ s.heap.objs.size
 funs : s.heap.FunFrames base outer
 frf : ∀ b ∈ frs outer, H b = none
 hok : HOk P w H s.heap
 bare : AllBare s.gens
def CE (outer : List Env) (P : Program) (w : World) (H : Hp) (s : Shared) (Q : VK) (u : Value) (s' : Shared) : Prop :=
 ∃ v H', s'.os = s.os /\ AllBare s'.gens /\ Un (frs outer) [] H H' s.heap s'.heap /\ HOk P w H' s'.heap /\ RelV v u /\ Q v H'
def CR (CX : CXT) (outer : List Env) (P : Program) (w : World) (H : Hp) (s : Shared) (Q : VK) (E : XK) (r : Result) (s' : Shared) : Prop :=
 match r with
 | .ok (.ret u) => CE outer P w H s Q u s'
 | .ok _ => False
 | .error e => CX outer H s E e s'
structure FnOk (P : Program) (w : World) (K : PySem.W.Frag) (mg : Str -> Option Value) (base : Heap) (CX : CXT) (k : Nat) (f : Addr) (fd : FuncData) (ps : List Str) (sp : Sp) : Prop where
 len : ∀ vs H Q E, sp vs H Q E -> vs.length = ps.length
 run : ∀ (A : Around) (outer : List Env) (s : Shared) (H : Hp) (args : Args) (us : List Value) (vs : List V) (Q : VK) (E : XK), Room k A -> Env0 P w K mg base A outer s H -> BindsTo s fd args (ps.zip us) -> Vals vs us -> sp vs H Q E ->
  codeAny (model P w) A (.call (.ref f) args) (CR CX outer P w H s Q E) s
theorem FnOk.mono {P : Program} {w : World} {K : PySem.W.Frag} {mg : Str -> Option Value} {base : Heap} {CX : CXT} {j k : Nat} {f : Addr} {fd : FuncData} {ps : List Str} {sp : Sp} (F : FnOk P w K mg base CX j f fd ps sp) (h : j ≤ k) :
  FnOk P w K mg base CX k f fd ps sp := ⟨F.len, fun A outer s H args us vs Q E hr => F.run A outer s H args us vs Q E (hr.mono h)⟩
theorem Env0.make {P : Program} {w : World} {K : PySem.W.Frag} {mg : Str -> Option Value} {base : Heap} {A : Around} {outer : List Env} {s : Shared} {H : Hp} (e : Env0 P w K mg base A outer s H) (C : Addr) (us : List Value) (kw : List (Str × Value)) :
  Env0 P w K mg base (A.under (.builtin "type.__call__" ⟨.ref C :: us, kw⟩)) outer s H := ⟨by first | exact e.frames | (simpa [Around.under, Code.envs, Code.isFrame, pushEnvs] using e.frames), e.mod, e.bs, e.bsz, e.funs, e.frf, e.hok, e.bare⟩
section
variable {X : Cx} {pins : List (Addr × Obj)} {σ : St} {H : Hp} {s s' : Shared}
theorem Inv.env0 (I : Inv X pins σ H s) : Env0 X.prog X.w X.K X.mg X.base X.A X.stack s H :=
 ⟨I.ok.frames, I.ok.mod, I.bs, Nat.le_trans I.ok.bsz I.sz, I.stack, I.stkFree, I.hok, I.bare⟩
theorem Inv.after {Q : VK} {u : Value} (I : Inv X pins σ H s) (h : CE X.stack X.prog X.w H s Q u s') : EP X pins σ Q u s' := by
 obtain ⟨v, H', os, bare, un, hok, r, q⟩ := h
 obtain ⟨hh, g, d, t, os'⟩ := s'
 obtain rfl : os' = s.os := os
 exact ⟨v, H', I.call (h' := hh) (g' := g) (d' := d) (t' := t) (ch := []) un hok bare (fun b z => absurd z (by simp)), r, q⟩
end
def y5N (sp : Sp) (dvs : List V) (E : XK) (t : TA) : TE := fun σ H Q => t σ H fun vs H1 => sp (vs ++ dvs) H1 Q E
def y3z (C : Addr) (m : Str) (sp : Sp) (dvs : List V) (E : XK) (ta : TE) (t : TA) : TE := fun σ H Q => ta σ H fun x H1 => ∃ a dx fs, x = .ref a /\ H1 a = some (.ins C dx fs) /\ fs.lookup m = none /\
 t σ H1 fun vs H2 => sp (x :: (vs ++ dvs)) H2 Q E
def y6D (C : Addr) (sp : Sp) (dvs : List V) (E : XK) (t : TA) : TE := fun σ H Q => t σ H fun vs H1 => ∀ x dx, H1 x = none -> H1 dx = none -> dx ≠ x ->
 sp (.ref x :: (vs ++ dvs)) (upd (upd H1 dx (.own x)) x (.ins C dx [])) (fun v H2 => v = .non /\ Q (.ref x) H2) E
def z1G (K : PySem.W.Frag) (fd : FuncData) (ps : List Str) (ds : List Value) : Prop :=
 ∀ (s : Shared) (us : List Value), K.In s.heap -> (us ++ ds).length = ps.length -> BindsTo s fd ⟨us, []⟩ (ps.zip (us ++ ds))
theorem z1G.all {K : PySem.W.Frag} {fd : FuncData} {ps : List Str} (h : ∀ us : List Value, us.length = ps.length -> bindArgs fd ⟨us, []⟩ = pure (ps.zip us)) : z1G K fd ps [] := fun s us _ hl => by
 rw [List.append_nil] at hl ⊢
 exact .of_eq (h us hl)
def z7d (CX : CXT) (X : Cx) (E : XK) : Prop := ∀ (pins : List (Addr × Obj)) (σ : St) (H : Hp) (s : Shared) (e : Value) (s' : Shared), Inv X pins σ H s -> CX X.stack H s E e s' -> X.xe e s'
section
variable {X : Cx} {CX : CXT} {k : Nat} {f C : Addr} {fd : FuncData} {ps : List Str} {sp : Sp} {dvs : List V} {ds : List Value} {E : XK} {x m : Str} {p pos apos : Pos} {e o : Expr} {es : List Expr} {ta : TE} {t : TA}
theorem y22 {pins : List (Addr × Obj)} {σ : St} {H : Hp} {s : Shared} {Q : VK} {us : List Value} {vs : List V} (F : FnOk X.prog X.w X.K X.mg X.base CX k f fd ps sp) (hr : Room k X.A) (hb : z1G X.K fd ps ds) (hd : Vals dvs ds) (hx : z7d CX X E)
  (I : Inv X pins σ H s) (r : Vals vs us) (h : sp (vs ++ dvs) H Q E) : wpAny (model X.prog X.w) X.A (call (.ref f) us) (EP X pins σ Q) X.xe s := by
 have r2 : Vals (vs ++ dvs) (us ++ ds) := r.append hd
 have hl : (us ++ ds).length = ps.length := by rw [<- r2.length]; exact F.len _ _ _ _ h
 refine wpAny_call (codeAny_mono (F.run X.A X.stack s H ⟨us, []⟩ (us ++ ds) (vs ++ dvs) Q E hr I.env0 (hb s us I.kIn hl) r2 h) fun r s' hq => ?_)
 cases r with
 | error e => exact hx pins σ H s e s' I hq
 | ok fl =>
  cases fl with
  | ret u => exact I.after hq
  | next => exact False.elim hq
  | brk => exact False.elim hq
  | cont => exact False.elim hq
theorem y2i (F : FnOk X.prog X.w X.K X.mg X.base CX k f fd ps sp) (hr : Room k X.A) (hg : Gl X x) (hm : X.mg x = some (.ref f)) (hk : PySem.W.keepIn X.K (.ref f) = true) (hb : z1G X.K fd ps ds) (hd : Vals dvs ds) (hx : z7d CX X E)
  (ha : PA X (e :: es) t) (hdb : (x == ("__debug__" : Str)) = false := by decide) (he : starEach (e :: es) X.env = (false, eval e X.env) :: starEach es X.env := by rfl) (hpl : (backTo pos (starEach es X.env)).any (·.1) = false := by rfl) :
  PE X (.Call (.Name x p) (e :: es) [] pos) (y5N sp dvs E t) := by
 intro pins s σ H Q I h
 refine wpAny_Call_Name_kw (y09 I hg hm ?_ hdb)
 refine PySem.W.callWith_K (h₀ := X.base) I.ok.mod.kin hk (thn (ha pos pins s σ H _ I h) fun us s1 ⟨vs, H1, I1, r, q⟩ => ⟨I1.kIn, ?_⟩) he hpl
 exact y22 F hr hb hd hx I1 r q
theorem y28 {pl : Sem Bool} (he : PE X o ta) (c : Cls X.K C) (hm : Meth X.K C m f) (F : FnOk X.prog X.w X.K X.mg X.base CX k f fd ps sp) (hr : Room k X.A) (hb : z1G X.K fd ps ds) (hd : Vals dvs ds) (hx : z7d CX X E) (ha : PA X (e :: es) t)
  (hst : starEach (e :: es) X.env = (false, eval e X.env) :: starEach es X.env := by rfl) (hpl : (backTo pos (starEach es X.env)).any (·.1) = false := by rfl)
  (ht : eval (.Call (.Attribute o m apos) (e :: es) [] pos) X.env = (do
   let ov <- eval o X.env
   standAt apos.atName
   let (f, first) <- holding [ov] (getMethod ov m pl)
   callWith pos f first (backTo pos (starEach (e :: es) X.env)) (backToKw pos (keywordEach [] X.env))) := by rfl) :
  PE X (.Call (.Attribute o m apos) (e :: es) [] pos) (y3z C m sp dvs E ta t) := by
 intro pins s σ H Q I h
 refine PySem.W.methodCall_KW (pl := pl) (thn (he pins s σ H _ I h) fun u s1 hz => ?_) ht
 obtain ⟨x, H1, I1, rx, a, dx, fs, ex, ea, l, q⟩ := hz
 subst ex
 obtain rfl : u = Value.ref a := rx
 refine z5N I1 ea c hm l ?_
 refine PySem.W.callWith_K (first := [.ref a]) (h₀ := X.base) I.ok.mod.kin hm.kp (thn (ha pos pins s1 σ H1 _ I1 q) fun us s2 ⟨vs, H2, I2, r, q2⟩ => ⟨I2.kIn, ?_⟩) hst hpl
 exact y22 (us := .ref a :: us) (vs := .ref a :: vs) F hr hb hd hx I2 (.cons rfl r) q2
theorem y4H {pl : Sem Bool} (he : PE X o ta) (c : Cls X.K C) (hm : Meth X.K C m f) (F : FnOk X.prog X.w X.K X.mg X.base CX k f fd ps sp) (hr : Room k X.A) (hb : z1G X.K fd ps ds) (hd : Vals dvs ds) (hx : z7d CX X E)
  (ht : eval (.Call (.Attribute o m apos) [] [] pos) X.env = (do
   let ov <- eval o X.env
   standAt apos.atName
   let (f, first) <- holding [ov] (getMethod ov m pl)
   callWith pos f first (backTo pos (starEach [] X.env)) (backToKw pos (keywordEach [] X.env))) := by rfl) :
  PE X (.Call (.Attribute o m apos) [] [] pos) (y3z C m sp dvs E ta tNil) := by
 intro pins s σ H Q I h
 refine PySem.W.methodCall_KW (pl := pl) (thn (he pins s σ H _ I h) fun u s1 hz => ?_) ht
 obtain ⟨x, H1, I1, rx, a, dx, fs, ex, ea, l, q⟩ := hz
 subst ex
 obtain rfl : u = Value.ref a := rx
 refine z5N I1 ea c hm l ?_
 exact PySem.W.callWith_K0 (first := [.ref a]) I1.kIn hm.kp (y22 (us := [.ref a]) (vs := [.ref a]) F hr hb hd hx I1 (.cons rfl .nil) q)
structure Mk (K : PySem.W.Frag) (C f : Addr) : Prop where
 makes : PySem.W.makesIn K C = true
 init : PySem.W.findIn K (.ref C) "__init__" = some (some (.ref f))
 fn : PySem.W.isFn K (.ref f) = true
 kp : PySem.W.keepIn K (.ref C) = true
theorem y4o {pins : List (Addr × Obj)} {σ : St} {H : Hp} {s : Shared} {Q : VK} {us : List Value} {vs : List V} (M : Mk X.K C f) (F : FnOk X.prog X.w X.K X.mg X.base CX k f fd ps sp) (hr : Room (k + 1) X.A) (hb : z1G X.K fd ps ds) (hd : Vals dvs ds)
  (hx : z7d CX X E) (I : Inv X pins σ H s) (r : Vals vs us)
  (h : ∀ x dx, H x = none -> H dx = none -> dx ≠ x -> sp (.ref x :: (vs ++ dvs)) (upd (upd H dx (.own x)) x (.ins C dx [])) (fun v H2 => v = .non /\ Q (.ref x) H2) E) :
  wpAny (model X.prog X.w) X.A (call (.ref C) us) (EP X pins σ Q) X.xe s := by
 have hq := h (s.heap.objs.size + 1) s.heap.objs.size (I.hok.fresh (Nat.le_succ _)) (I.hok.fresh (Nat.le_refl _)) (Nat.ne_of_lt (Nat.lt_succ_self _))
 have I2 := Inv.made (C := C) I
 have r2 : Vals (V.ref (s.heap.objs.size + 1) :: (vs ++ dvs)) (Value.ref (s.heap.objs.size + 1) :: (us ++ ds)) := .cons rfl (r.append hd)
 have hl : (Value.ref (s.heap.objs.size + 1) :: us ++ ds).length = ps.length := by
  have e := r2.length
  rw [F.len _ _ _ _ hq] at e
  exact e.symm
 refine wpAny_call (y4J (f := f) I.kIn M.makes M.init (beq_iff_eq.mp M.fn) (codeAny_mono (F.run _ X.stack _ _ ⟨Value.ref (s.heap.objs.size + 1) :: us, []⟩ (Value.ref (s.heap.objs.size + 1) :: (us ++ ds)) _ _ E (hr.make C us [])
  (I2.env0.make C us []) (hb _ (Value.ref (s.heap.objs.size + 1) :: us) I2.kIn hl) r2 hq) fun r s' hq' => ?_))
 cases r with
 | error e => exact hx pins σ _ _ e s' I2 hq'
 | ok fl =>
  cases fl with
  | ret u =>
   obtain ⟨v, H', I3, rv, ev, q3⟩ := I2.after hq'
   subst ev
   exact ⟨rv, ⟨V.ref (s.heap.objs.size + 1), H', I3, rfl, q3⟩⟩
  | next => exact False.elim hq'
  | brk => exact False.elim hq'
  | cont => exact False.elim hq'
theorem y5p (M : Mk X.K C f) (F : FnOk X.prog X.w X.K X.mg X.base CX k f fd ps sp) (hr : Room (k + 1) X.A) (hg : Gl X x) (hm : X.mg x = some (.ref C)) (hb : z1G X.K fd ps ds) (hd : Vals dvs ds) (hx : z7d CX X E)
  (ha : PA X (e :: es) t) (hdb : (x == ("__debug__" : Str)) = false := by decide) (he : starEach (e :: es) X.env = (false, eval e X.env) :: starEach es X.env := by rfl) (hpl : (backTo pos (starEach es X.env)).any (·.1) = false := by rfl) :
  PE X (.Call (.Name x p) (e :: es) [] pos) (y6D C sp dvs E t) := by
 intro pins s σ H Q I h
 refine wpAny_Call_Name_kw (y09 I hg hm ?_ hdb)
 refine PySem.W.callWith_K (h₀ := X.base) I.ok.mod.kin M.kp (thn (ha pos pins s σ H _ I h) fun us s1 ⟨vs, H1, I1, r, q⟩ => ⟨I1.kIn, ?_⟩) he hpl
 exact y4o M F hr hb hd hx I1 r q
end
def PK (X : Cx) (kws : List Keyword) (t : TA) : Prop :=
 ∀ (pos : Pos) (pins : List (Addr × Obj)) (s : Shared) (σ : St) (H : Hp) (Q : List V -> Hp -> Prop), Inv X pins σ H s -> t σ H Q -> wpAny (model X.prog X.w) X.A (evalAll ((backToKw pos (keywordEach kws X.env)).map (·.2))) (AP X pins σ Q) X.xe s
section
variable {X : Cx} {CX : CXT} {k : Nat} {f C : Addr} {fd : FuncData} {ps ks : List Str} {sp : Sp} {E : XK} {x m : Str} {p pos apos kpos : Pos} {e o : Expr} {es : List Expr} {kws : List Keyword} {te ta : TE} {t tk : TA} {nm : Option Str}
theorem y0I : PK X [] tNil := fun _ _ _ _ H Q I h => wpAny_evalAll_nil ⟨[], H, I, .nil, h⟩
theorem z8P (ha : PE X e te) (hr : PK X kws t) : PK X (⟨nm, e, kpos⟩ :: kws) (y4b te t) := by
 intro pos pins s σ H Q I h
 show wpAny _ _ (evalAll ((do let v <- eval e X.env; standAt pos; pure v) :: (backToKw pos (keywordEach kws X.env)).map (·.2))) _ _ s
 refine wpAny_evalAll_cons (wpAny_bind (thn (ha pins s σ H _ I h) fun u s1 ⟨x, H1, I1, r1, q1⟩ => wpAny_bind (wpAny_standAt (wpAny_pure ?_))))
 exact thn (hr pos pins s1 σ H1 _ I1 q1) fun us s2 ⟨xs, H2, I2, r2, q2⟩ => ⟨x :: xs, H2, I2, .cons r1 r2, q2⟩
variable {g : List Value -> List Value -> List Value} {gV : List V -> List V -> List V}
end
structure FnScope (N P : List Str) (sc : Scope) : Prop where
 kind : sc.kind = .function
 co : sc.isCoroutine = false
 gen : sc.isGenerator = false
 nd : N.Nodup
 pre : N.take P.length = P
 par : ∀ x ∈ P, sc.names.lookup x = some .local \/ sc.names.lookup x = some .cell
 nofree : ∀ y ∈ sc.names, y.2 ≠ .free
theorem z9f {kindOf : Str -> Option NameKind} {x : Str} : ∀ {binds : List (Str × Value)} {m : Str -> Option Value}, (∀ v, (x, v) ∉ binds) -> bindL kindOf binds m x = m x
 | [], _, _ => rfl
 | (n, v) :: r, m, h => by
  unfold bindL
  rw [z9f fun w hw => h w (List.mem_cons_of_mem _ hw)]
  split
  ·have : x ≠ n := by rintro rfl; exact h v List.mem_cons_self
   simp [this]
  ·rfl
theorem z9r {kindOf : Str -> Option NameKind} {x : Str} : ∀ {binds : List (Str × Value)} {m : Str -> Option Value}, (∀ v, (x, v) ∉ binds) -> bindC kindOf binds m x = m x
 | [], _, _ => rfl
 | (n, v) :: r, m, h => by
  unfold bindC
  rw [z9r fun w hw => h w (List.mem_cons_of_mem _ hw)]
  split
  ·rfl
  ·have : x ≠ n := by rintro rfl; exact h v List.mem_cons_self
   simp [this]
theorem z9d {kindOf : Str -> Option NameKind} {x : Str} {v : Value} : ∀ {P : List Str} {vs : List Value} {i : Nat} {m : Str -> Option Value}, P.Nodup -> P[i]? = some x -> vs[i]? = some v -> kindOf x = some .local ->
  bindL kindOf (P.zip vs) m x = some v
 | [], _, _, _, _, h, _, _ => by simp at h
 | _ :: _, [], _, _, _, _, h, _ => by simp at h
 | p :: P, w :: vs, 0, m, nd, h1, h2, hk => by
  simp at h1 h2; subst h1; subst h2
  show bindL kindOf ((p, w) :: P.zip vs) m p = _
  unfold bindL
  rw [z9f fun v hv => (List.nodup_cons.mp nd).1 (List.of_mem_zip hv).1, if_pos hk]
  simp
 | p :: P, w :: vs, i + 1, m, nd, h1, h2, hk => by
  show bindL kindOf ((p, w) :: P.zip vs) m x = _
  unfold bindL
  exact z9d (i := i) (List.nodup_cons.mp nd).2 (by simpa using h1) (by simpa using h2) hk
theorem z9o {kindOf : Str -> Option NameKind} {x : Str} {v : Value} : ∀ {P : List Str} {vs : List Value} {i : Nat} {m : Str -> Option Value}, P.Nodup -> P[i]? = some x -> vs[i]? = some v -> kindOf x ≠ some .local ->
  bindC kindOf (P.zip vs) m x = some v
 | [], _, _, _, _, h, _, _ => by simp at h
 | _ :: _, [], _, _, _, _, h, _ => by simp at h
 | p :: P, w :: vs, 0, m, nd, h1, h2, hk => by
  simp at h1 h2; subst h1; subst h2
  show bindC kindOf ((p, w) :: P.zip vs) m p = _
  unfold bindC
  rw [z9r fun v hv => (List.nodup_cons.mp nd).1 (List.of_mem_zip hv).1, if_neg hk]
  simp
 | p :: P, w :: vs, i + 1, m, nd, h1, h2, hk => by
  show bindC kindOf ((p, w) :: P.zip vs) m x = _
  unfold bindC
  exact z9o (i := i) (List.nodup_cons.mp nd).2 (by simpa using h1) (by simpa using h2) hk
def z5u (N : List Str) (vs : List V) : St := vs.map some ++ List.replicate (N.length - vs.length) none
def cxOf (CX : CXT) (P : Program) (w : World) (K : PySem.W.Frag) (mg : Str -> Option Value) (base : Heap) (N : List Str) (qual : Str) (scope : Scope) (f : Addr) (cd : Value) (A : Around) (outer : List Env) (s : Shared) (H : Hp) (E : XK) : Cx where
 prog := P
 w := w
 K := K
 mg := mg
 base := base
 A := A.deeper (envOfC qual scope s.heap.objs.size f cd)
 N := N
 s₀ := s
 H₀ := H
 env := envOfC qual scope s.heap.objs.size f cd
 outer := outer
 stack := envOfC qual scope s.heap.objs.size f cd :: outer
 ex := []
 calm := true
 fn := fun _ => true
 pn := []
 xe := fun e s' => wpAny (model P w) (A.deeper (envOfC qual scope s.heap.objs.size f cd)) (leaving (envOfC qual scope s.heap.objs.size f cd) e) (fun _ s'' => CX outer H s E e s'') (fun e' s'' => CX outer H s E e' s'') s'
theorem y0C {sc : Scope} {n : Nat} {x : Str} (h : sc.names.lookup x = some .cell) : ∃ c, (cellsFrom n sc.names []).lookup x = some c := by
 have q := PySem.W.cellsFrom_some sc.names n [] (.inl h)
 exact Option.isSome_iff_exists.mp q
theorem y2W {CX : CXT} {P : Program} {w : World} {K : PySem.W.Frag} {mg : Str -> Option Value} {base : Heap} {N ps : List Str} {qual : Str} {scope : Scope} {f : Addr} {cd : Value} {A : Around} {outer : List Env} {s s1 : Shared} {H : Hp} {E : XK} {us : List Value} {vs : List V}
  (S : FnScope N ps scope) (hd : A.handled = none) (e0 : Env0 P w K mg base A outer s H) (hl : vs.length = ps.length) (r : Vals vs us)
  (x : InCallC s s.heap.objs.size (bindL (envOfC qual scope s.heap.objs.size f cd).kindOf (ps.zip us) fun _ => none) (cellsFrom (s.heap.objs.size + 1) scope.names []) (bindC (envOfC qual scope s.heap.objs.size f cd).kindOf (ps.zip us) fun _ => none) s1) :
  Inv (cxOf CX P w K mg base N qual scope f cd A outer s H E) [] (z5u N vs) H s1 := by
 have hpl : ps.length ≤ N.length := by have := congrArg List.length S.pre; rw [List.length_take] at this; omega
 obtain ⟨h1, tk, rfl, hk⟩ := x.done
 have noA : ∀ b : Addr, b ∉ (cxOf CX P w K mg base N qual scope f cd A outer s H E).ex := fun b z => absurd (show b ∈ ([] : List Addr) from z) (by simp)
 refine ⟨⟨e0.mod, S.kind, rfl, rfl, Nat.le_refl _, fun y z c h1 h2 => ?_, fun y hy => ?_, fun y c _ h => ?_, fun _ => hd, Around.frames_deeper e0.frames, .inr ⟨rfl, rfl⟩, fun b z => absurd z (noA b), e0.bs, e0.bsz, fun b _ _ => noA b, fun b z => absurd z (noA b), e0.funs, e0.frf⟩,
  rfl, e0.bare, Un.kept hk, ⟨_, x.toInCall.ns, fun i y v h1 h2 h3 => ?_⟩, fun y c h => ⟨_, x.cell y c h⟩, e0.hok.fresh (Nat.le_refl _), fun y c h => ?_, fun p hp => absurd (show p ∈ ([] : List (Addr × Obj)) from hp) (by simp), e0.hok.kept hk, ?_⟩
 ·exact name_of_addr x.apart (PySem.mem_of_lookup h1) (PySem.mem_of_lookup h2)
 ·have hy : scope.names.lookup y = some .cell \/ scope.names.lookup y = some .free := hy
  rcases hy with hy | hy
  ·exact y0C hy
  ·exact absurd rfl (S.nofree _ (PySem.mem_of_lookup hy))
 ·exact Nat.le_of_lt (x.above y c (PySem.mem_of_lookup h))
 ·have hi : i < vs.length := by
   unfold z5u at h2
   by_cases hi : i < vs.length
   ·exact hi
   ·rw [List.getElem?_append_right (by simpa using hi)] at h2
    rw [List.getElem?_replicate] at h2
    split at h2 <;> cases h2
  have ha : vs[i]? = some v := by
   unfold z5u at h2
   rw [List.getElem?_append_left (by simpa using hi), List.getElem?_map] at h2
   cases e : vs[i]? with
   | none => rw [e] at h2; cases h2
   | some a => rw [e] at h2; cases h2; rfl
  obtain ⟨u, hu, rv⟩ := r.get ha
  have hp : ps[i]? = some y := by
   rw [<- S.pre, List.getElem?_take_of_lt (by omega)]; exact h1
  have ndP : ps.Nodup := by rw [<- S.pre]; exact S.nd.sublist (List.take_sublist _ _)
  refine ⟨u, rv, ?_⟩
  rcases S.par y (List.mem_of_getElem? hp) with k | k
  ·exact .inl ⟨k, z9d ndP hp hu k⟩
  ·obtain ⟨c, e⟩ := y0C (n := s.heap.objs.size + 1) k
   refine .inr ⟨.inl k, c, e, ?_⟩
   have q := x.cell y c e
   rw [z9o ndP hp hu (by show scope.names.lookup y ≠ _; rw [k]; decide)] at q
   exact q
 ·exact e0.hok.fresh (Nat.le_of_lt (x.above y c (PySem.mem_of_lookup h)))
 ·unfold z5u
  show _ = N.length
  rw [List.length_append, List.length_map, List.length_replicate]
  omega
theorem y6S {CX : CXT} {P : Program} {w : World} {K : PySem.W.Frag} {mg : Str -> Option Value} {base : Heap} {k : Nat} {f : Addr} {name qual : Str} {params : Arguments} {body : List Stmt} {scope : Scope} {dV kV doc pm cdv ct oc : Value} {an od : Option Addr}
  {osl : Array (Option Value)} {N ps : List Str} {sp : Sp} (lk : K.lookup f = some ⟨oc, od, .func (PySem.W.fnOf name qual params body scope dV kV doc pm an cdv ct), osl⟩) (hcd : PySem.W.codeIn K cdv qual = true) (S : FnScope N ps scope)
  (len : ∀ vs H Q E, sp vs H Q E -> vs.length = ps.length)
  (hbody : ∀ (A : Around) (outer : List Env) (s : Shared) (H : Hp) (vs : List V) (Q : VK) (E : XK), Room k (A.deeper (envOfC qual scope s.heap.objs.size f cdv)) -> sp vs H Q E ->
   ∃ t, PSs (cxOf CX P w K mg base N qual scope f cdv A outer s H E) body t /\ t { nx := fun _ H' => Q .non H', rt := Q } (z5u N vs) H) :
  FnOk P w K mg base CX (k + 1) f (PySem.W.fnOf name qual params body scope dV kV doc pm an cdv ct) ps sp := by
 refine ⟨len, fun A outer s H args us vs Q E hr e0 hb r hsp => ?_⟩
 have hl := len _ _ _ _ hsp
 have KX : K.In s.heap := e0.mod.kin.keeps fun b o e => (e0.bs b o e).1
 have lim : s.heap.NoLimit := e0.mod.nolimit.keeps fun b o e => (e0.bs b o e).1
 have hkind : ∀ y ∈ ps.zip us, scope.names.lookup y.1 = some .local \/ (scope.names.lookup y.1 = some .cell /\ ((cellsFrom (s.heap.objs.size + 1) scope.names []).lookup y.1).isSome = true) := fun ⟨n, v⟩ hy => by
  rcases S.par n (List.of_mem_zip hy).1 with q | q
  ·exact .inl q
  ·exact .inr ⟨q, PySem.W.cellsFrom_some _ _ _ (.inl q)⟩
 refine codeAny_call_function hr.depth (KX _ _ lk) rfl S.co S.gen rfl (PySem.W.codeRec_of KX hcd) (hb _ _ _ _ ?_)
 refine wpAny_newFunctionEnv_cells S.kind hkind fun env he s1 x => ?_
 subst he
 refine ⟨lim.keeps x.toInCall.keep, codeAny_func ?_⟩
 obtain ⟨t, ht, hq⟩ := hbody A outer s H vs Q E (hr.deeper _) hsp
 have I : Inv (cxOf CX P w K mg base N qual scope f cdv A outer s H E) [] (z5u N vs) H s1 := y2W S hr.hd e0 hl r x
 refine wpAny_mono (ht [] s1 (z5u N vs) H _ I hq) (fun fl s' hs => ?_) fun e s' hs => hs
 have fin : ∀ {σ' : St} {H' : Hp} {v : V} {u : Value}, Inv (cxOf CX P w K mg base N qual scope f cdv A outer s H E) [] σ' H' s' -> RelV v u -> Q v H' -> CE outer P w H s Q u s' :=
  fun {σ' H' v u} J rv q => ⟨v, H', J.os, J.bare, J.base, J.hok, rv, q⟩
 cases fl with
 | ret u =>
  obtain ⟨v, σ', H', J, rv, q⟩ := hs
  exact fin J rv q
 | next =>
  obtain ⟨σ', H', J, q⟩ := hs
  exact fin (v := V.non) (u := Value.none) J rfl q
 | brk =>
  obtain ⟨_, _, _, q⟩ := hs
  exact False.elim q
 | cont =>
  obtain ⟨_, _, _, q⟩ := hs
  exact False.elim q
section
variable {X : Cx} {x : Str} {p pos : Pos} {e : Expr} {es : List Expr} {t : TA} {id T : String} {r : List V -> Hp -> VK -> Prop}
def tCB (r : List V -> Hp -> VK -> Prop) (t : TA) : TE := fun σ H Q => t σ H fun vs H1 => r vs H1 Q
theorem z0j (hc : z3o X (.builtin id) r) (hg : Gl X x) (hm : X.mg x = none) (hv : bootBuiltins x = some (.builtin id)) (ha : PA X (e :: es) t) (hn : x ≠ "__name__" := by decide) (hdb : (x == ("__debug__" : Str)) = false := by decide)
  (he : starEach (e :: es) X.env = (false, eval e X.env) :: starEach es X.env := by rfl) (hpl : (backTo pos (starEach es X.env)).any (·.1) = false := by rfl) : PE X (.Call (.Name x p) (e :: es) [] pos) (tCB r t) := by
 intro pins s σ H Q I h
 refine wpAny_Call_Name_kw (z4K I hg hm hv ?_ hn hdb)
 exact PyProof.Rows.callWith_builtin1 (thn (ha pos pins s σ H _ I h) fun us s1 ⟨vs, H1, I1, r1, q1⟩ => hc pins s1 σ H1 vs us Q I1 r1 q1) he hpl
theorem z0r (hc : z3o X (.type T) r) (hg : Gl X x) (hm : X.mg x = none) (hv : bootBuiltins x = some (.type T)) (ha : PA X (e :: es) t) (hn : x ≠ "__name__" := by decide) (hdb : (x == ("__debug__" : Str)) = false := by decide)
  (he : starEach (e :: es) X.env = (false, eval e X.env) :: starEach es X.env := by rfl) (hpl : (backTo pos (starEach es X.env)).any (·.1) = false := by rfl) : PE X (.Call (.Name x p) (e :: es) [] pos) (tCB r t) := by
 intro pins s σ H Q I h
 refine wpAny_Call_Name_kw (z4K I hg hm hv ?_ hn hdb)
 exact PyProof.Rows.callWith_type1 (thn (ha pos pins s σ H _ I h) fun us s1 ⟨vs, H1, I1, r1, q1⟩ => hc pins s1 σ H1 vs us Q I1 r1 q1) he hpl
end
end L2
namespace HT
open PySem PyProof.Rows
section
open PySem.SeqAt
open PySem.AutoSeq1 (wpAny_loadPart')
open PySem.MeetsSeq PySem.MeetsSeq2 PySem.MeetsSeq3
end
section
variable {prog : Program} {w : World} {A : Around} {E : Value -> Shared -> Prop} {s : Shared}
theorem y2K {t b : Addr} {vs ws : List Value} {Q : Value -> Shared -> Prop} (ht : IsTup s.heap t vs.toArray) (hb : IsTup s.heap b ws.toArray) (hv : vs ≠ [])
  (h1 : ws = [] -> Q (.ref t) s) (h2 : ws ≠ [] -> Q (.ref s.heap.objs.size) { s with heap := s.heap.push { cls := .type "tuple", data := .seq (vs ++ ws).toArray } })
  (hsz : vs.length + ws.length ≤ sizeLine) : wpAny (model prog w) A (binaryOp .Add (.ref t) (.ref b)) Q E s := by
 obtain ⟨⟨cls, dd, data, sl⟩, ho, hc, n, hd⟩ := id ht
 obtain ⟨⟨cls2, dd2, data2, sl2⟩, ho2, hc2, n2, hd2⟩ := id hb
 simp only at hc hd hc2 hd2
 subst hc hd hc2 hd2
 have e : vs.toArray ++ ws.toArray = (vs ++ ws).toArray := by simp
 by_cases hw : ws = []
 ·exact concat_meets ⟨_, ho, rfl⟩ ⟨_, ho2, rfl⟩ noFill_tuple_add seq_tuple_add PySem.F.slot_tuple_add PySem.F.entry_tuple_add (PySem.F.args_tuple_add_2 _ _)
   (tuple_addW1 t b vs.toArray ws.toArray n n2 dd dd2 sl sl2 (by simpa using hv) (by simp [hw])) ⟨ho, ho2, h1 hw⟩
 ·refine concat_meets ⟨_, ho, rfl⟩ ⟨_, ho2, rfl⟩ noFill_tuple_add seq_tuple_add PySem.F.slot_tuple_add PySem.F.entry_tuple_add (PySem.F.args_tuple_add_2 _ _)
   (tuple_addW2 t b vs.toArray ws.toArray n n2 dd dd2 sl sl2 (by simpa using hv) (by simpa using hw) (by rw [List.size_toArray, List.size_toArray]; exact hsz)) ⟨ho, ho2, ?_⟩
  rw [e]
  exact h2 hw
def sIx (n d : Nat) : Option Int -> Nat
 | none => d
 | some v => if v < 0 then (v + (n : Int)).toNat else min v.toNat n
theorem z8W (n d k : Nat) : sIx n d (some (k : Int)) = min k n := by
 show (if (k : Int) < 0 then ((k : Int) + (n : Int)).toNat else min (k : Int).toNat n) = min k n
 rw [if_neg (by omega), Int.toNat_natCast]
theorem y5e (n d : Nat) (hd : d ≤ n) (o : Option Int) : sIx n d o ≤ n := by
 cases o with
 | none => exact hd
 | some v =>
  show (if v < 0 then (v + (n : Int)).toNat else min v.toNat n) ≤ n
  by_cases hv : v < 0
  ·rw [if_pos hv]; omega
  ·rw [if_neg hv]; exact Nat.min_le_right _ _
theorem y2L (v : Int) (n d : Nat) : (if v < 0 then max (v + (n : Int)) 0 else min v (n : Int)) = ((sIx n d (some v) : Nat) : Int) := by
 show (if v < 0 then max (v + (n : Int)) 0 else min v (n : Int)) = (((if v < 0 then (v + (n : Int)).toNat else min v.toNat n) : Nat) : Int)
 by_cases hv : v < 0
 ·simp only [if_pos hv]; omega
 ·simp only [if_neg hv]; omega
theorem y1t (lo hi : Option Int) (n : Nat) : Builtin.Slice.sliceAdjust lo hi 1 (n : Int) = (((sIx n 0 lo : Nat) : Int), ((sIx n n hi : Nat) : Int)) := by
 have h1 : ¬ ((1 : Int) < 0) := by omega
 unfold Builtin.Slice.sliceAdjust
 simp only [h1, if_false]
 refine Prod.ext ?_ ?_
 ·cases lo with
  | none => rfl
  | some v => exact y2L v n 0
 ·cases hi with
  | none => rfl
  | some v => exact y2L v n n
theorem y1d (i j : Nat) : Builtin.Slice.slicePlaces (i : Int) (j : Int) 1 = j - i := by
 unfold Builtin.Slice.slicePlaces
 have h1 : (1 : Int) > 0 := by omega
 simp only [h1, if_true, Int.ediv_one]
 split <;> omega
theorem z89 {v : Value} {o : Option Int} {Q : Option Int -> Shared -> Prop} (p : IsPart v o) (h : Q o s) : wpAny (model prog w) A (Builtin.Slice.slicePartIndex v) Q E s := by
 cases p with
 | none => exact slicePart_none h
 | int i t => exact slicePart_int h
theorem z3N {sl : Addr} {vl vu : Value} {lo hi : Option Int} {n : Nat} {Q : Int × Int × Nat -> Shared -> Prop} (hs : s.heap.IsSliceOf sl vl vu .none) (pl : IsPart vl lo) (pu : IsPart vu hi)
  (h : Q (((sIx n 0 lo : Nat) : Int), 1, sIx n n hi - sIx n 0 lo) s) : wpAny (model prog w) A (Builtin.Slice.sliceApplied (.ref sl) (pure (n : Int))) Q E s := by
 obtain ⟨os, hos, hcs, hds⟩ := id hs
 unfold Builtin.Slice.sliceApplied Builtin.Slice.sliceFields
 refine wpAny_bind (wpAny_bind (wpAny_field hos hds (x := vl) rfl (wpAny_bind (wpAny_field hos hds (x := vu) rfl (wpAny_bind (wpAny_field hos hds (x := .none) rfl (wpAny_pure ?_)))))))
 refine wpAny_bind (slicePart_none ?_)
 show wpAny _ _ (if ((1 : Int) == 0) = true then _ else _) _ _ s
 rw [if_neg (by decide)]
 refine wpAny_bind (z89 pl (wpAny_bind (z89 pu (wpAny_bind (wpAny_pure ?_)))))
 show wpAny _ _ (match Builtin.Slice.sliceAdjust lo hi 1 (n : Int) with | (lo, hi) => pure (lo, (1 : Int), Builtin.Slice.slicePlaces lo hi 1)) _ _ s
 rw [y1t lo hi n]
 show wpAny _ _ (pure (((sIx n 0 lo : Nat) : Int), (1 : Int), Builtin.Slice.slicePlaces ((sIx n 0 lo : Nat) : Int) ((sIx n n hi : Nat) : Int) 1)) _ _ s
 rw [y1d]
 exact wpAny_pure h
theorem y4m (xs : Array Value) (i k : Nat) : ((List.range k).filterMap fun (m : Nat) => xs[((i : Int) + (m : Int) * 1).toNat]?).toArray = ((xs.toList.drop i).take k).toArray := by
 have e : (fun (m : Nat) => xs[((i : Int) + (m : Int) * 1).toNat]?) = fun m => xs[i + m]? := by
  funext m
  have : ((i : Int) + (m : Int) * 1).toNat = i + m := by omega
  rw [this]
 rw [e]
 have := pick_run xs i k
 rw [List.filterMap_map] at this
 have e2 : ((fun x => xs[x]?) ∘ fun x => i + x) = fun m => xs[i + m]? := rfl
 rw [e2] at this
 rw [this]
theorem z5X {t sl : Addr} {items : Array Value} {vl vu : Value} {lo hi : Option Int} {Q : Value -> Shared -> Prop} (ht : IsTup s.heap t items) (hs : s.heap.IsSliceOf sl vl vu .none) (pl : IsPart vl lo) (pu : IsPart vu hi)
  (hw : ¬ (sIx items.size 0 lo = 0 /\ sIx items.size items.size hi = items.size))
  (h : Q (.ref s.heap.objs.size) { s with heap := s.heap.push { cls := .type "tuple", data := .seq ((items.toList.drop (sIx items.size 0 lo)).take (sIx items.size items.size hi - sIx items.size 0 lo)).toArray } })
  (hsz : items.size ≤ sizeLine) : wpAny (model prog w) A (getItem (.ref t) (.ref sl)) Q E s := by
 have htake : sizeOk (.seq ((items.toList.drop (sIx items.size 0 lo)).take (sIx items.size items.size hi - sIx items.size 0 lo)).toArray) := by
  show ((items.toList.drop (sIx items.size 0 lo)).take (sIx items.size items.size hi - sIx items.size 0 lo)).toArray.size ≤ sizeLine
  rw [List.size_toArray, List.length_take, List.length_drop, Array.length_toList]
  omega
 have hj : sIx items.size items.size hi ≤ items.size := y5e _ _ (Nat.le_refl _) hi
 obtain ⟨os, hos, hcs, hds⟩ := id hs
 have hTs : s.TypeIs (.ref sl) "slice" := ⟨os, hos, hcs⟩
 unfold getItem
 try with_reducible refine wpAny_holding ?_
 first | refine wpAny_bind (wpAny_pure ?_) | skip
 refine wpAny_bind (wpAny_sequenceKey ht.typeIs (by decide) ?_)
 refine wpAny_bind (wpAny_callSpecial?_slot (name := Str.ofString "__getitem__") ht.typeIs PyProof.Rows.slot_tuple_getitem
  (wpAny_call_entry PyProof.Rows.slot_tuple_getitem ht.typeIs entry_tuple_getitem ?_ (args_tuple_getitem _ _)))
 show wpAny _ _ (Builtin.Tuple.tupleItemsOf (.ref t) >>= _) _ _ s
 refine wpAny_bind (tupleItemsOf_ ht ?_)
 refine wpAny_bind (wpAny_typeOf hTs ?_)
 rw [if_pos (by decide)]
 refine wpAny_bind (z3N hs pl pu ?_)
 have hno : ¬ ((((sIx items.size 0 lo : Nat) : Int) == 0 && (1 : Int) == 1 && (sIx items.size items.size hi - sIx items.size 0 lo) == items.size) = true) := by
  intro q
  rw [Bool.and_eq_true, Bool.and_eq_true] at q
  have q1 : ((sIx items.size 0 lo : Nat) : Int) = 0 := eq_of_beq q.1.1
  have q2 : sIx items.size items.size hi - sIx items.size 0 lo = items.size := eq_of_beq q.2
  exact hw ⟨by omega, by omega⟩
 show wpAny _ _ (if (((sIx items.size 0 lo : Nat) : Int) == 0 && (1 : Int) == 1 && (sIx items.size items.size hi - sIx items.size 0 lo) == items.size) = true then _ else _) _ _ s
 rw [if_neg hno, y4m]
 first
  | exact wpAny_bind (m := Builtin.Tuple.tupleExact _) (wpAny_newObj_type (wpAny_pure ⟨_, rfl, wpAny_pure h⟩) htake)
  | exact wpAny_bind (m := Builtin.Tuple.tupleExact _) (wpAny_newObj_type (wpAny_bind (wpAny_pure (wpAny_pure ⟨_, rfl, wpAny_pure h⟩))) htake)
  | exact wpAny_bind (wpAny_bind (m := Builtin.Tuple.tupleExact _) (wpAny_newObj_type (wpAny_pure (wpAny_pure ⟨_, rfl, wpAny_pure h⟩)) htake))
  | exact wpAny_bind (wpAny_bind (m := Builtin.Tuple.tupleExact _) (wpAny_newObj_type (wpAny_pure ⟨_, rfl, wpAny_pure h⟩) htake))
end
end HT
namespace L2
open PySem PySem.Spec PyProof.Rows
abbrev TO := St -> Hp -> (Option Int -> Hp -> Prop) -> Prop
def PO (X : Cx) (e : Option Expr) (t : TO) : Prop :=
 ∀ (pins : List (Addr × Obj)) (s : Shared) (σ : St) (H : Hp) (Q : Option Int -> Hp -> Prop), Inv X pins σ H s -> t σ H Q ->
  wpAny (model X.prog X.w) X.A (evalPart e X.env) (fun u s' => ∃ o H', Inv X pins σ H' s' /\ IsPart u o /\ Q o H') X.xe s
def y5r : TO := fun _ H Q => Q none H
def tPart (t : TE) : TO := fun σ H Q => t σ H fun x H1 => ∃ i, x = .int i /\ Q (some i) H1
section
variable {X : Cx} {e : Expr} {te : TE} {lo hi : Option Expr} {tl th : TO} {pos p2 : Pos}
theorem z3U : PO X none y5r := by
 intro pins s σ H Q I h
 rw [evalPart_none]
 exact wpAny_pure ⟨none, H, I, .none, h⟩
theorem z3T (h : PE X e te) : PO X (some e) (tPart te) := by
 intro pins s σ H Q I hw
 rw [evalPart_some]
 refine thn (h pins s σ H _ I hw) fun u s1 hz => ?_
 obtain ⟨x, H1, I1, r1, q1⟩ := hz
 obtain ⟨i, rfl, q⟩ := q1
 obtain ⟨t, rfl⟩ := r1
 exact ⟨some i, H1, I1, .int i t, q⟩
def SlR (X : Cx) (r : V -> Option Int -> Option Int -> Hp -> VK -> Prop) : Prop :=
 ∀ (pins : List (Addr × Obj)) (s : Shared) (σ : St) (H : Hp) (x : V) (v vl vu : Value) (lo hi : Option Int) (sl : Addr) (Q : VK), Inv X pins σ H s -> RelV x v -> s.heap.IsSliceOf sl vl vu .none -> IsPart vl lo -> IsPart vu hi -> r x lo hi H Q ->
  ∃ T id, typeLookup (.type T) "__getitem__" = pure (some (.builtin id)) /\ s.TypeIs v T /\ wpAny (model X.prog X.w) X.A (getItem v (.ref sl)) (EP X pins σ Q) X.xe s
def tSl (r : V -> Option Int -> Option Int -> Hp -> VK -> Prop) (te : TE) (tl th : TO) : TE := fun σ H Q => te σ H fun x H1 => tl σ H1 fun l H2 => th σ H2 fun u H3 => r x l u H3 Q
theorem z2P {r : V -> Option Int -> Option Int -> Hp -> VK -> Prop} (hr : SlR X r) (he : PE X e te) (hl : PO X lo tl) (hu : PO X hi th) : PE X (.Subscript e (.Slice lo hi none p2) pos) (tSl r te tl th) := by
 intro pins s σ H Q I h
 refine Subscript_ (thn (he pins s σ H _ I h) fun v s1 hz => ?_)
 obtain ⟨x, H1, I1, r1, q1⟩ := hz
 refine wpAny_Slice (thn (hl pins s1 σ H1 _ I1 q1) fun vl s2 ⟨l, H2, I2, pl, q2⟩ => thn (hu pins s2 σ H2 _ I2 q2) fun vu s3 hz => ?_)
 obtain ⟨u, H3, I3, pu, q3⟩ := hz
 rw [evalPart_none]
 refine wpAny_pure ?_
 have I4 : Inv X pins σ H3 { s3 with heap := s3.heap.push { cls := .type "slice", data := .fields #[vl, vu, .none] } } := I3.kept (t' := s3.toks) fun b ob q => Heap.get?_push_of_some _ q
 obtain ⟨T, id, hT, ht, hg⟩ := hr pins { s3 with heap := s3.heap.push { cls := .type "slice", data := .fields #[vl, vu, .none] } } σ H3 x v vl vu l u s3.heap.objs.size Q I4 r1 (Heap.IsSliceOf.new ..) pl pu q3
 show wpAny (model X.prog X.w) X.A (subscriptTail e (.Slice lo hi none p2) v (.ref s3.heap.objs.size)) (EP X pins σ Q) X.xe { s3 with heap := s3.heap.push { cls := .type "slice", data := .fields #[vl, vu, .none] } }
 exact tail_any (ops := [.ref s3.heap.objs.size, v]) ht hT hg (by with_unfolding_all rfl)
def cutV (xs : List V) (lo hi : Option Int) : List V := (xs.drop (HT.sIx xs.length 0 lo)).take (HT.sIx xs.length xs.length hi - HT.sIx xs.length 0 lo)
theorem z6T (xs : List V) (lo hi : Option Int) : (cutV xs lo hi).length ≤ xs.length := by
 unfold cutV
 rw [List.length_take, List.length_drop]
 omega
def rSlT (K : PySem.W.Frag) : V -> Option Int -> Option Int -> Hp -> VK -> Prop := fun x lo hi H Q => ∃ a xs, x = .ref a /\ SqT K H a xs /\
 ¬ (HT.sIx xs.length 0 lo = 0 /\ HT.sIx xs.length xs.length hi = xs.length) /\ ∀ p, H p = none -> Q (.ref p) (upd H p (.tup (cutV xs lo hi)))
theorem y55 : SlR X (rSlT X.K) := by
 intro pins s σ H x v vl vu lo hi sl Q I rx hs pl pu h
 obtain ⟨a, xs, rfl, hx, hw, q⟩ := h
 cases rx
 obtain ⟨its, r, ht, hz⟩ := I.tuple hx
 have hlen : its.toArray.size = xs.length := by rw [List.size_toArray]; exact r.length.symm
 refine ⟨"tuple", _, PyProof.Rows.slot_tuple_getitem.lookup, ht.typeIs, ?_⟩
 refine HT.z5X ht hs pl pu (by rw [hlen]; exact hw) ?_ (by rw [hlen]; exact hz)
 rw [hlen]
 refine ⟨.ref s.heap.objs.size, _, I.laid (t' := s.toks) (o := .tup (cutV xs lo hi)) (fun b ob q => Heap.get?_push_of_some _ q) (Nat.le_refl _) ?_, rfl, q _ (I.hok.fresh (Nat.le_refl _))⟩
 exact ⟨Nat.le_trans (z6T xs lo hi) hz, _, (r.drop (HT.sIx xs.length 0 lo)).take (HT.sIx xs.length xs.length hi - HT.sIx xs.length 0 lo), PlT.new _ _⟩
def y6o (K : PySem.W.Frag) : R2 := fun x y H Q => ∃ a b xs ys, x = .ref a /\ y = .ref b /\ SqT K H a xs /\ SqT K H b ys /\ xs ≠ [] /\ xs.length + ys.length ≤ sizeLine /\
 (ys = [] -> Q (.ref a) H) /\ (ys ≠ [] -> ∀ p, H p = none -> Q (.ref p) (upd H p (.tup (xs ++ ys))))
theorem Vals.nil_iff {xs : List V} {us : List Value} (r : Vals xs us) : us = [] ↔ xs = [] := by
 cases r with
 | nil => simp
 | cons _ _ => simp
theorem y68 : OpR X (binaryOp .Add) (y6o X.K) := by
 intro pins s σ H x y v u Q I rx ry h
 obtain ⟨a, b, xs, ys, rfl, rfl, ha, hb, hx, hz, q1, q2⟩ := h
 cases rx
 cases ry
 obtain ⟨its, r1, p1, _⟩ := I.tuple ha
 obtain ⟨its2, r2, p2, _⟩ := I.tuple hb
 refine HT.y2K p1 p2 (fun z => hx (r1.nil_iff.mp z)) (fun z => ⟨.ref a, H, I, rfl, q1 (r2.nil_iff.mp z)⟩) (fun z => ?_) (by rw [<- r1.length, <- r2.length]; exact hz)
 refine ⟨.ref s.heap.objs.size, _, I.laid (t' := s.toks) (o := .tup (xs ++ ys)) (fun b ob q => Heap.get?_push_of_some _ q) (Nat.le_refl _) ?_, rfl, q2 (fun w => z (r2.nil_iff.mpr w)) _ (I.hok.fresh (Nat.le_refl _))⟩
 exact ⟨by rw [List.length_append]; exact hz, _, r1.append r2, PlT.new _ _⟩
end
def ixN (n : Nat) (i : Int) : Option Nat := if 0 ≤ i then (if i < n then some i.toNat else none) else if -(n : Int) ≤ i then some (i + n).toNat else none
def atI {α : Type} (xs : List α) (i : Int) : Option α := (ixN xs.length i).bind fun j => xs[j]?
theorem y6g {n : Nat} {i : Int} {j : Nat} (h : ixN n i = some j) : seqIndex? i n = some j /\ j < n /\ -(n : Int) ≤ i /\ i < n := by
 unfold ixN at h
 by_cases h0 : 0 ≤ i
 ·rw [if_pos h0] at h
  by_cases h1 : i < n
  ·rw [if_pos h1] at h
   have e : i.toNat = j := Option.some.inj h
   exact ⟨by rw [seqIndex_of h0 h1, e], by omega, by omega, h1⟩
  ·rw [if_neg h1] at h; cases h
 ·rw [if_neg h0] at h
  by_cases h1 : -(n : Int) ≤ i
  ·rw [if_pos h1] at h
   have e : (i + n).toNat = j := Option.some.inj h
   exact ⟨by rw [seqIndex_neg (by omega) h1, e], by omega, h1, by omega⟩
  ·rw [if_neg h1] at h; cases h
theorem y0e {α : Type} {xs : List α} {i : Int} {v : α} (h : atI xs i = some v) : ∃ j, seqIndex? i xs.length = some j /\ xs[j]? = some v /\ j < xs.length /\ -(xs.length : Int) ≤ i /\ i < xs.length := by
 unfold atI at h
 cases e : ixN xs.length i with
 | none => rw [e] at h; cases h
 | some j =>
  rw [e] at h
  obtain ⟨h1, h2, h3, h4⟩ := y6g e
  exact ⟨j, h1, h, h2, h3, h4⟩
theorem z1d {α : Type} {xs : List α} {j : Nat} {v : α} (h : xs[j]? = some v) : atI xs (j : Int) = some v := by
 have hj : j < xs.length := (List.getElem?_eq_some_iff.mp h).1
 have e : ixN xs.length (j : Int) = some j := by
  unfold ixN
  rw [if_pos (by omega), if_pos (by omega)]; simp
 unfold atI; rw [e]; exact h
theorem y42 {α : Type} (xs : List α) (v : α) : atI (xs ++ [v]) (-1) = some v := by
 have hl : (xs ++ [v]).length = xs.length + 1 := by simp
 have e : ixN (xs ++ [v]).length (-1) = some xs.length := by
  unfold ixN
  rw [hl, if_neg (by decide), if_pos (by omega)]
  congr 1
  omega
 unfold atI
 rw [e]
 show (xs ++ [v])[xs.length]? = some v
 simp
def y5j (b : Expr) : Prop := ∀ o i, subscripted b false o i = operate [o, i] (getItem o i)
def IxR (X : Cx) (r : R2) : Prop :=
 ∀ (value slice : Expr) (pins : List (Addr × Obj)) (s : Shared) (σ : St) (H : Hp) (x y : V) (v u : Value) (Q : VK), Inv X pins σ H s -> RelV x v -> RelV y u -> r x y H Q ->
  subscripted slice false v u = operate [v, u] (getItem v u) -> wpAny (model X.prog X.w) X.A (subscriptTail value slice v u) (EP X pins σ Q) X.xe s
def MtR (X : Cx) (id : String) (r : V -> List V -> Hp -> VK -> Prop) : Prop :=
 ∀ (pins : List (Addr × Obj)) (s : Shared) (σ : St) (H : Hp) (x : V) (xs : List V) (v : Value) (us : List Value) (Q : VK), Inv X pins σ H s -> RelV x v -> Vals xs us -> r x xs H Q ->
  wpAny (model X.prog X.w) X.A (call (.builtin id) (v :: us)) (EP X pins σ Q) X.xe s
section
variable {X : Cx} {a b : Expr} {ta tb : TE} {pos : Pos}
theorem IxR.or {r r' : R2} (h : IxR X r) (h' : IxR X r') : IxR X (fun x y H Q => r x y H Q \/ r' x y H Q) := by
 intro value slice pins s σ H x y v u Q I rx ry q hs
 rcases q with q | q
 ·exact h value slice pins s σ H x y v u Q I rx ry q hs
 ·exact h' value slice pins s σ H x y v u Q I rx ry q hs
theorem z1q {r : R2} (hr : IxR X r) (ha : PE X a ta) (hb : PE X b tb) (hs : y5j b) : PE X (.Subscript a b pos) (tOp r ta tb) := by
 intro pins s σ H Q I h
 exact Subscript_ (binT ha hb I h fun v u s2 x y H2 I2 rx ry q => hr a b pins s2 σ H2 x y v u Q I2 rx ry q (hs _ _))
def rIxL (K : PySem.W.Frag) : R2 := fun x y H Q => ∃ p xs i v, x = .ref p /\ y = .int i /\ SqL K H p xs /\ atI xs i = some v /\ Q v H
def rIxT (K : PySem.W.Frag) : R2 := fun x y H Q => ∃ p xs i v, x = .ref p /\ y = .int i /\ SqT K H p xs /\ atI xs i = some v /\ Q v H
def rIxS : R2 := fun x y H Q => ∃ z i c, x = .str z /\ y = .int i /\ z.length ≤ sizeLine /\ atI z.cps.toList i = some c /\ Q (.str ⟨#[c]⟩) H
theorem z1w : IxR X (rIxL X.K) := by
 intro value slice pins s σ H x y v u Q I rx ry h hs
 obtain ⟨p, xs, i, z, rfl, rfl, hq, he, q⟩ := h
 cases rx
 obtain ⟨t, rfl⟩ := ry
 obtain ⟨its, r, pl, hz⟩ := I.list hq
 obtain ⟨j, h1, h2, h3, h4, h5⟩ := y0e he
 obtain ⟨w, ew, rw'⟩ := r.get h2
 have hl := r.length
 have hn := z6r
 have fin : EP X pins σ Q w s := ⟨z, H, I, rw', q⟩
 by_cases h0 : 0 ≤ i
 ·have hj : i.toNat = j := by
   rw [seqIndex_of h0 h5] at h1
   exact Option.some.inj h1
  exact item_listR pl.isList h0 (by omega) (by rw [hj]; simpa using ew) fin hs
 ·have hj : (i + (its.toArray.size : Int)).toNat = j := by
   rw [seqIndex_neg (by omega) h4] at h1
   rw [List.size_toArray, <- hl]
   exact Option.some.inj h1
  exact subscriptTail_builtinR (x := w) pl.isList.typeIs slot_list_getitem.lookup
   (wpAny_getItem_list_neg (Q := fun r s' => r = w /\ EP X pins σ Q r s') pl.isList (by omega) (by rw [List.size_toArray] <;> omega) (by omega) (by rw [hj]; simpa using ew) ⟨rfl, fin⟩) hs
theorem z22 : IxR X (rIxT X.K) := by
 intro value slice pins s σ H x y v u Q I rx ry h hs
 obtain ⟨p, xs, i, z, rfl, rfl, hq, he, q⟩ := h
 cases rx
 obtain ⟨t, rfl⟩ := ry
 obtain ⟨its, r, pl, hz⟩ := I.tuple hq
 obtain ⟨j, h1, h2, h3, h4, h5⟩ := y0e he
 obtain ⟨w, ew, rw'⟩ := r.get h2
 have hl := r.length
 have hn := z6r
 have fin : EP X pins σ Q w s := ⟨z, H, I, rw', q⟩
 exact subscriptTail_builtinR (x := w) pl.typeIs slot_tuple_getitem.lookup
  (getItem_tuple (j := j) (Q := fun r s' => r = w /\ EP X pins σ Q r s') pl (by omega) (by omega) (by rw [List.size_toArray, <- hl]; exact h1) (by simpa using ew) ⟨rfl, fin⟩) hs
theorem y33 : IxR X rIxS := by
 intro value slice pins s σ H x y v u Q I rx ry h hs
 obtain ⟨z, i, c, rfl, rfl, hz, he, q⟩ := h
 obtain ⟨t, rfl⟩ := rx
 obtain ⟨t', rfl⟩ := ry
 obtain ⟨j, h1, h2, h3, h4, h5⟩ := y0e he
 have hl : z.cps.toList.length = z.length := by simp [Str.length]
 rw [hl] at h1 h4 h5
 have hn := z6r
 exact tail_any (typeIs_str s z t) slot_str_getitem.lookup (getItem_str (c := c) (by
  have e1 : decide (i < -(2 ^ 63 : Int)) = false := decide_eq_false (by omega)
  have e2 : decide (i ≥ 2 ^ 63) = false := decide_eq_false (by omega)
  rw [e1, e2, Bool.or_false]) (by rw [h1]; simpa using h2) ⟨.str ⟨#[c]⟩, H, I.tok _, ⟨_, rfl⟩, q⟩) hs
def rIx (K : PySem.W.Frag) : R2 := fun x y H Q => rIxL K x y H Q \/ rIxT K x y H Q \/ rIxS x y H Q
theorem y6q : IxR X (rIx X.K) := z1w.or (z22.or y33)
theorem z6p (lo hi : Option Int) (n : Nat) : (sliceBounds lo hi none n).1 = ((HT.sIx n 0 lo : Nat) : Int) /\ (sliceBounds lo hi none n).2.1 = ((HT.sIx n n hi : Nat) : Int) /\ (sliceBounds lo hi none n).2.2 = 1 := by
 refine ⟨?_, ?_, rfl⟩
 ·cases lo with
  | none => simp [sliceBounds, HT.sIx]
  | some i =>
   simp only [sliceBounds, HT.sIx, Option.getD_none, show (1 : Int) > 0 by decide, if_true]
   by_cases h : i < 0
   ·simp only [h, if_true] <;> omega
   ·simp only [h, if_false] <;> omega
 ·cases hi with
  | none => simp [sliceBounds, HT.sIx]
  | some i =>
   simp only [sliceBounds, HT.sIx, Option.getD_none, show (1 : Int) > 0 by decide, if_true]
   by_cases h : i < 0
   ·simp only [h, if_true] <;> omega
   ·simp only [h, if_false] <;> omega
theorem z8q (its : List Value) (lo hi : Option Int) : slicePick its.toArray lo hi none = ((its.drop (HT.sIx its.length 0 lo)).take (HT.sIx its.length its.length hi - HT.sIx its.length 0 lo)).toArray := by
 obtain ⟨h1, h2, h3⟩ := z6p lo hi its.toArray.size
 unfold slicePick
 rw [h1, h2, h3]
 simp only [sliceRange_one, pick_run, List.size_toArray] <;> rfl
def rSlL (K : PySem.W.Frag) : V -> Option Int -> Option Int -> Hp -> VK -> Prop := fun x lo hi H Q => ∃ a xs, x = .ref a /\ SqL K H a xs /\ ∀ p, H p = none -> Q (.ref p) (upd H p (.lst (cutV xs lo hi)))
theorem y3B : SlR X (rSlL X.K) := by
 intro pins s σ H x v vl vu lo hi sl Q I rx hs pl pu h
 obtain ⟨a, xs, rfl, hx, q⟩ := h
 cases rx
 obtain ⟨its, r, ht, hz⟩ := I.list hx
 have hlen := r.length
 refine ⟨"list", _, slot_list_getitem.lookup, ht.isList.typeIs, ?_⟩
 refine wpAny_getItem_list_slice ht.isList hs pl pu .none (by simp) ?_ (by rw [List.size_toArray] <;> omega)
 rw [z8q, <- hlen]
 refine ⟨.ref s.heap.objs.size, _, I.laid (t' := s.toks) (o := .lst (cutV xs lo hi)) (fun b ob q => Heap.get?_push_of_some _ q) (Nat.le_refl _) ?_, rfl, q _ (I.hok.fresh (Nat.le_refl _))⟩
 exact ⟨Nat.le_trans (z6T xs lo hi) hz, _, 0, (r.drop (HT.sIx xs.length 0 lo)).take (HT.sIx xs.length xs.length hi - HT.sIx xs.length 0 lo), Heap.get?_push_size _ rfl⟩
def z20 : V -> Bool
 | .non => true
 | .bl _ => true
 | .int _ => true
 | .str _ => true
 | _ => false
def eqV : V -> V -> Bool
 | .non, .non => true
 | .bl a, .bl b => a == b
 | .bl a, .int b => (if a then 1 else 0) == b
 | .int a, .bl b => a == (if b then 1 else 0)
 | .int a, .int b => a == b
 | .str a, .str b => a == b
 | _, _ => false
theorem y4T {A : Around} {s : Shared} {y x : V} {u v : Value} (ry : RelV y u) (rx : RelV x v) (fy : z20 y = true) (fx : z20 x = true) : SeqAt.EqAt A s u v (eqV y x) := by
 cases y with
 | non =>
  cases ry
  cases x with
  | non => cases rx; exact SeqAt.EqAt.same _
  | bl b => cases rx; exact SeqAt.EqAt.none_bool b
  | int b => obtain ⟨t, rfl⟩ := rx; exact SeqAt.EqAt.none_int b t
  | str b => obtain ⟨t, rfl⟩ := rx; exact SeqAt.EqAt.none_str b t
  | _ => exact absurd (show false = true from fx) Bool.false_ne_true
 | bl a =>
  cases ry
  cases x with
  | non => cases rx; exact SeqAt.EqAt.bool_none a
  | bl b => cases rx; exact SeqAt.EqAt.bool_bool a b
  | int b => obtain ⟨t, rfl⟩ := rx; exact SeqAt.EqAt.bool_int a b t
  | str b => obtain ⟨t, rfl⟩ := rx; exact SeqAt.EqAt.bool_str a b t
  | _ => exact absurd (show false = true from fx) Bool.false_ne_true
 | int a =>
  obtain ⟨t', rfl⟩ := ry
  cases x with
  | non => cases rx; exact SeqAt.EqAt.int_none a t'
  | bl b => cases rx; exact SeqAt.EqAt.int_bool a t' b
  | int b => obtain ⟨t, rfl⟩ := rx; exact SeqAt.EqAt.int_int a t' b t
  | str b => obtain ⟨t, rfl⟩ := rx; exact SeqAt.EqAt.int_str a t' b t
  | _ => exact absurd (show false = true from fx) Bool.false_ne_true
 | str a =>
  obtain ⟨t', rfl⟩ := ry
  cases x with
  | non => cases rx; exact SeqAt.EqAt.str_none a t'
  | bl b => cases rx; exact SeqAt.EqAt.str_bool a t' b
  | int b => obtain ⟨t, rfl⟩ := rx; exact SeqAt.EqAt.str_int a t' b t
  | str b => obtain ⟨t, rfl⟩ := rx; exact SeqAt.EqAt.str_str a t' b t
  | _ => exact absurd (show false = true from fx) Bool.false_ne_true
 | _ => exact absurd (show false = true from fy) Bool.false_ne_true
def eqU (x : V) (u : Value) : Bool := match u with
 | .none => eqV .non x
 | .bool b => eqV (.bl b) x
 | .int i _ => eqV (.int i) x
 | .str z _ => eqV (.str z) x
 | _ => false
theorem y3l {x y : V} {u : Value} (r : RelV y u) (f : z20 y = true) : eqU x u = eqV y x := by
 cases y with
 | non => cases r; rfl
 | bl b => cases r; rfl
 | int i => obtain ⟨t, rfl⟩ := r; rfl
 | str z => obtain ⟨t, rfl⟩ := r; rfl
 | _ => exact absurd (show false = true from f) Bool.false_ne_true
theorem z70 {x : V} : ∀ {xs : List V} {us : List Value}, Vals xs us -> xs.all z20 = true -> us.any (eqU x) = xs.any fun y => eqV y x
 | _, _, .nil, _ => rfl
 | y :: xs, u :: us, .cons r t, f => by
  rw [List.all_cons, Bool.and_eq_true] at f
  rw [List.any_cons, List.any_cons, y3l r f.1, z70 t f.2]
theorem z5z {A : Around} {s : Shared} {x : V} {v : Value} (rx : RelV x v) (fx : z20 x = true) : ∀ {xs : List V} {us : List Value}, Vals xs us -> xs.all z20 = true -> ∀ u ∈ us, SeqAt.EqAt A s u v (eqU x u)
 | _, _, .nil, _ => fun u hu => by cases hu
 | y :: xs, u :: us, .cons r t, f => fun u' hu => by
  rw [List.all_cons, Bool.and_eq_true] at f
  rcases List.mem_cons.mp hu with rfl | hu
  ·rw [y3l r f.1]; exact y4T r rx f.1 fx
  ·exact z5z rx fx t f.2 u' hu
def inV (x : V) (xs : List V) : Bool := xs.any fun y => eqV y x
def rIn (K : PySem.W.Frag) (neg : Bool) : R2 := fun x y H Q => ∃ p xs, y = .ref p /\ (SqL K H p xs \/ SqT K H p xs) /\ z20 x = true /\ xs.all z20 = true /\ Q (.bl (if neg then !inV x xs else inV x xs)) H
theorem z9n : OpR X (compareOp .In) (rIn X.K false) := by
 intro pins s σ H x y v u Q I rx ry h
 obtain ⟨p, xs, rfl, hq, fx, fs, q⟩ := h
 cases ry
 rcases hq with hq | hq
 ·obtain ⟨its, r, pl, hz⟩ := I.list hq
  refine SeqAt.in_listAt (eqU x) pl.isList (fun w hw => z5z rx fx r fs w (by simpa using hw)) ⟨.bl _, H, I, rfl, ?_⟩
  rw [show its.toArray.any (eqU x) = its.any (eqU x) by simp, z70 r fs]
  exact q
 ·obtain ⟨its, r, pl, hz⟩ := I.tuple hq
  refine SeqAt.in_tupleAt (eqU x) pl (fun w hw => z5z rx fx r fs w (by simpa using hw)) ⟨.bl _, H, I, rfl, ?_⟩
  rw [show its.toArray.any (eqU x) = its.any (eqU x) by simp, z70 r fs]
  exact q
theorem z6w : OpR X (compareOp .NotIn) (rIn X.K true) := by
 intro pins s σ H x y v u Q I rx ry h
 obtain ⟨p, xs, rfl, hq, fx, fs, q⟩ := h
 cases ry
 rcases hq with hq | hq
 ·obtain ⟨its, r, pl, hz⟩ := I.list hq
  refine SeqAt.notIn_listAt (eqU x) pl.isList (fun w hw => z5z rx fx r fs w (by simpa using hw)) ⟨.bl _, H, I, rfl, ?_⟩
  rw [show its.toArray.any (eqU x) = its.any (eqU x) by simp, z70 r fs]
  exact q
 ·obtain ⟨its, r, pl, hz⟩ := I.tuple hq
  refine SeqAt.notIn_tupleAt (eqU x) pl (fun w hw => z5z rx fx r fs w (by simpa using hw)) ⟨.bl _, H, I, rfl, ?_⟩
  rw [show its.toArray.any (eqU x) = its.any (eqU x) by simp, z70 r fs]
  exact q
theorem z0a : z3o X (.builtin "len") (fun xs H Q => ∃ p ys, xs = [.ref p] /\ (SqL X.K H p ys \/ SqT X.K H p ys) /\ Q (.int ys.length) H) := by
 intro pins s σ H xs us Q I r h
 obtain ⟨p, ys, rfl, hq, q⟩ := h
 obtain ⟨u, rfl, rx⟩ := z4h r
 cases rx
 have hn := z6r
 rcases hq with hq | hq
 ·obtain ⟨its, r', pl, hz⟩ := I.list hq
  have hlen := r'.length
  exact Calls.call_len_list pl.isList (by simp only [List.size_toArray] <;> omega) ⟨.int ys.length, H, I.tok _, ⟨s.toks + 1, by rw [List.size_toArray, hlen]⟩, q⟩
 ·obtain ⟨its, r', pl, hz⟩ := I.tuple hq
  have hlen := r'.length
  exact len_tuple pl (by simp only [List.size_toArray] <;> omega) ⟨.int ys.length, H, I.tok _, ⟨s.toks + 1, by rw [List.size_toArray, hlen]⟩, q⟩
theorem z9j : z3o X (.builtin "len") (fun xs H Q => ∃ z, xs = [.str z] /\ z.length ≤ sizeLine /\ Q (.int z.length) H) := by
 intro pins s σ H xs us Q I r h
 obtain ⟨z, rfl, hz, q⟩ := h
 obtain ⟨u, rfl, t, rfl⟩ := z4h r
 have hn := z6r
 exact len_str (by omega) ⟨.int z.length, H, I.tok _, ⟨_, rfl⟩, q⟩
theorem z4l : z3o X (.type "list") (fun xs H Q => ∃ p ys, xs = [.ref p] /\ (SqL X.K H p ys \/ SqT X.K H p ys) /\ ∀ l, H l = none -> Q (.ref l) (upd H l (.lst ys))) := by
 intro pins s σ H xs us Q I r h
 obtain ⟨p, ys, rfl, hq, q⟩ := h
 obtain ⟨u, rfl, rx⟩ := z4h r
 cases rx
 have fin : ∀ (its : List Value), Vals ys its -> ys.length ≤ sizeLine -> ∀ (h' : Heap) (c' : Nat), (∀ b o', s.heap.get? b = some o' -> h'.get? b = some o') ->
   h'.get? s.heap.objs.size = some { cls := .type "list", dict := none, data := .seq its.toArray c', slots := #[] } -> EP X pins σ Q (.ref s.heap.objs.size) { s with heap := h' } := fun its r' hz h' c' kp e =>
  ⟨.ref s.heap.objs.size, _, I.laid (t' := s.toks) kp (Nat.le_refl _) (show z1f X.prog X.w _ h' _ (.lst ys) from ⟨hz, its, c', r', e⟩), rfl, q _ (I.hok.fresh (Nat.le_refl _))⟩
 rcases hq with hq | hq
 ·obtain ⟨its, r', pl, hz⟩ := I.list hq
  have hlen := r'.length
  obtain ⟨o, ho, hc, n, hd⟩ := pl.isList
  exact call_list_seq p (.inl rfl) ho hc hd (fun h' c' kp e => fin its r' hz h' c' kp e) (by simp only [List.size_toArray] <;> omega)
 ·obtain ⟨its, r', pl, hz⟩ := I.tuple hq
  have hlen := r'.length
  obtain ⟨o, ho, hc, n, hd⟩ := pl
  exact call_list_seq p (.inr rfl) ho hc hd (fun h' c' kp e => fin its r' hz h' c' kp e) (by simp only [List.size_toArray] <;> omega)
theorem z0o : z3o X (.type "tuple") (fun xs H Q => ∃ p ys, xs = [.ref p] /\ ((SqL X.K H p ys /\ ∀ l, H l = none -> Q (.ref l) (upd H l (.tup ys))) \/ (SqT X.K H p ys /\ Q (.ref p) H))) := by
 intro pins s σ H xs us Q I r h
 obtain ⟨p, ys, rfl, h⟩ := h
 obtain ⟨u, rfl, rx⟩ := z4h r
 cases rx
 rcases h with ⟨hq, q⟩ | ⟨hq, q⟩
 ·obtain ⟨its, r', pl, hz⟩ := I.list hq
  have hlen := r'.length
  refine call_tuple_list pl.isList (fun h' kp => ?_) (by simp only [List.size_toArray] <;> omega)
  have I1 : Inv X pins σ H { s with heap := h' } := I.kept (t' := s.toks) kp
  have I2 : Inv X pins σ (upd H h'.objs.size (.tup ys)) { s with heap := h'.push { cls := .type "tuple", data := .seq its.toArray } } :=
   I1.laid (t' := s.toks) (fun b o e => Heap.get?_push_of_some _ e) (Nat.le_refl _) (show z1f X.prog X.w _ _ _ (.tup ys) from ⟨hz, its, r', PlT.new _ _⟩)
  exact ⟨.ref h'.objs.size, _, I2, rfl, q _ (I1.hok.fresh (Nat.le_refl _))⟩
 ·obtain ⟨its, r', pl, hz⟩ := I.tuple hq
  exact call_tuple_same pl ⟨.ref p, H, I, rfl, q⟩
def tyV (K : PySem.W.Frag) (T : String) (x : V) (H : Hp) : Prop := match x with
 | .str _ => T = "str"
 | .int _ => T = "int"
 | .ref p => (T = "list" /\ ∃ xs, SqL K H p xs) \/ (T = "tuple" /\ ∃ o, K.lookup p = some o /\ o.cls = .type "tuple" /\ o.dict = none) \/
   (T = "dict" /\ ((∃ kvs, H p = some (.dK kvs)) \/ ∃ kvs, H p = some (.dT kvs))) \/ (T = "set" /\ ∃ S n, H p = some (.set S n))
 | _ => False
theorem y6r {pins : List (Addr × Obj)} {σ : St} {H : Hp} {s : Shared} {T : String} {x : V} {v : Value} (I : Inv X pins σ H s) (r : RelV x v) (ty : tyV X.K T x H) :
  s.TypeIs v T /\ ∀ a, v = .ref a -> ∃ ob, s.heap.get? a = some ob /\ ob.dict = none := by
 cases x with
 | str z =>
  obtain ⟨t, rfl⟩ := r
  cases (show T = "str" from ty)
  exact ⟨typeIs_str s z t, fun _ e => nomatch e⟩
 | int i =>
  obtain ⟨t, rfl⟩ := r
  cases (show T = "int" from ty)
  exact ⟨typeIs_int s i t, fun _ e => nomatch e⟩
 | ref p =>
  cases r
  rcases ty with ⟨rfl, xs, hq⟩ | ⟨rfl, o, hk, hc, hd⟩ | ⟨rfl, hk⟩ | ⟨rfl, S, n, hk⟩
  ·obtain ⟨its, _, pl, _⟩ := I.list hq
   refine ⟨pl.isList.typeIs, fun a e => ?_⟩
   cases e
   obtain ⟨o, n, e, c, hd, _⟩ := pl
   exact ⟨o, e, hd⟩
  ·refine ⟨⟨o, I.kIn p o hk, hc⟩, fun a e => ?_⟩
   cases e
   exact ⟨o, I.kIn _ o hk, hd⟩
  ·have z : ∃ o, s.heap.get? p = some o /\ o.ExactDict := by
    rcases hk with ⟨kvs, hk⟩ | ⟨kvs, hk⟩
    ·obtain ⟨_, _, _, _, o, _, _, e, ex, _⟩ := I.hok p _ hk
     exact ⟨o, e, ex⟩
    ·obtain ⟨_, _, _, _, o, _, _, e, ex, _⟩ := I.hok p _ hk
     exact ⟨o, e, ex⟩
   obtain ⟨o, e, ex⟩ := z
   refine ⟨⟨o, e, ex.1⟩, fun a e2 => ?_⟩
   cases e2
   exact ⟨o, e, ex.2.1⟩
  ·obtain ⟨o, _, _, _, e, ex, _⟩ := I.hok p _ hk
   refine ⟨⟨o, e, ex.1⟩, fun a e2 => ?_⟩
   cases e2
   exact ⟨o, e, ex.2.1⟩
 | _ => exact False.elim ty
def tBM (K : PySem.W.Frag) (T : String) (r : V -> List V -> Hp -> VK -> Prop) (to : TE) (t : TA) : TE := fun σ H Q => to σ H fun x H1 => tyV K T x H1 /\ t σ H1 fun xs H2 => r x xs H2 Q
variable {o e : Expr} {es : List Expr} {to : TE} {t : TA} {name : Str} {apos cpos : Pos} {T id : String} {r : V -> List V -> Hp -> VK -> Prop}
theorem z58 (pa : PlainAttrs T) (slot : Slot T name id) (hty : typeOf (.builtin id) = pure (.type "method_descriptor")) (hm : MtR X id r) (ho : PE X o to) (ha : PA X (e :: es) t)
  (hbase : attributeBase o name X.env (eval o X.env) = eval o X.env := by rfl)
  (hfew : ((backTo cpos (starEach (e :: es) X.env)).all (fun x => !x.1) && (backToKw cpos (keywordEach [] X.env)).all (fun x => x.1.isSome)
   && decide ((e :: es).length + ([] : List Keyword).length + (if ([] : List Keyword).isEmpty then 0 else 1) < 30)) = true := by rfl)
  (hline : (apos.endLine == cpos.line) = true := by rfl) (hs : starEach (e :: es) X.env = (false, eval e X.env) :: starEach es X.env := by rfl) (hplain : (backTo cpos (starEach es X.env)).any (·.1) = false := by rfl) :
  PE X (.Call (.Attribute o name apos) (e :: es) [] cpos) (tBM X.K T r to t) := by
 intro pins s σ H Q I h
 refine wpAny_Call_method_late hbase hfew hline rfl (thn (ho pins s σ H _ I h) fun v s1 hz => ?_)
 obtain ⟨x, H1, I1, r1, ty, q1⟩ := hz
 obtain ⟨h1, h2⟩ := y6r I1 r1 ty
 refine ⟨T, id, pa, slot, hty, h1, h2, ?_⟩
 have hA := ha cpos pins s1 σ H1 _ I1 q1
 rw [hs] at hA ⊢
 refine Calls.callWith_builtin (by show (false || (backTo cpos (starEach es X.env)).any (·.1)) = false; rw [hplain] <;> rfl) (Calls.evalArgs_plain ?_)
 exact thn hA fun us s2 ⟨vs, H2, I2, r2, q2⟩ => hm pins s2 σ H2 x vs v us Q I2 r1 r2 q2
end
def MtM (X : Cx) (id : String) (r : V -> List V -> Hp -> VK -> Prop) : Prop :=
 ∀ (pins : List (Addr × Obj)) (s : Shared) (σ : St) (H : Hp) (x : V) (xs : List V) (v : Value) (us : List Value) (Q : VK), Inv X pins σ H s -> RelV x v -> Vals xs us -> r x xs H Q ->
  wpAny (model X.prog X.w) X.A (call (.builtin id) (v :: us)) (EP X pins σ Q) X.xe s
theorem Vals.one : ∀ {x : V} {us : List Value}, Vals [x] us -> ∃ u, us = [u] /\ RelV x u
 | _, _, .cons r .nil => ⟨_, rfl, r⟩
theorem Vals.two : ∀ {x y : V} {us : List Value}, Vals [x, y] us -> ∃ u v, us = [u, v] /\ RelV x u /\ RelV y v
 | _, _, _, .cons r (.cons q .nil) => ⟨_, _, rfl, r, q⟩
section
variable {X : Cx} {pins : List (Addr × Obj)} {σ : St} {H : Hp} {s : Shared} {l b : Addr} {xs ys zs : List V}
theorem Inv.lset {its its' : List Value} {n : Nat} {f : Array Value -> Array Value} {t' : Nat} (I : Inv X pins σ H s) (hH : H l = some (.lst xs))
  (e : s.heap.get? l = some { cls := .type "list", data := .seq its.toArray n }) (hf : f its.toArray = its'.toArray) (hv : Vals ys its') (hz : ys.length ≤ sizeLine) :
  Inv X pins σ (upd H l (.lst ys)) { s with heap := s.heap.update l (Obj.mapSeq f), toks := t' } := by
 have q := PySem.IsL.update e f
 rw [hf] at q
 refine I.write (x := l) (e := l) (by rw [hH]; exact trivial) (.inl rfl) (fun b' u hb hu => (Heap.get?_update_other s.heap (Obj.mapSeq f) (Ne.symm hb)).trans hu) ⟨_, q⟩ ?_
 exact ⟨hz, its', _, hv, q⟩
theorem Inv.fresh (I : Inv X pins σ H s) : H s.heap.objs.size = none := I.hok.fresh (Nat.le_refl _)
theorem Inv.lstM (I : Inv X pins σ H s) (hH : H l = some (.lst xs)) : xs.length ≤ sizeLine /\ ∃ (its : List Value) (n : Nat), Vals xs its /\ xs.length = its.length /\ s.heap.get? l = some { cls := .type "list", data := .seq its.toArray n } := by
 obtain ⟨z, its, n, r, e⟩ := I.hok l _ hH
 exact ⟨z, its, n, r, r.length, e⟩
theorem y4a {n : Nat} (h : n ≤ sizeLine) : Builtin.List.listTooLong n = false := by
 unfold Builtin.List.listTooLong
 exact decide_eq_false (by omega)
end
section
variable {X : Cx}
def y6d : V -> List V -> Hp -> VK -> Prop := fun x vs H Q => ∃ l xs y, x = .ref l /\ vs = [y] /\ H l = some (.lst xs) /\ xs.length < sizeLine /\ Q .non (upd H l (.lst (xs ++ [y])))
theorem z1e : MtM X "list.append" y6d := by
 intro pins s σ H x vs v us Q I rx rv h
 obtain ⟨l, xs, y, rfl, rfl, hH, hz, q⟩ := h
 cases rx
 obtain ⟨u, rfl, ru⟩ := rv.one
 obtain ⟨z, its, n, r, hl, e⟩ := I.lstM hH
 refine call_meets F.slot_list_append ⟨_, e, rfl⟩ F.entry_list_append (F.args_list_append_2 _ _) (PySem.list_append l its.toArray n u (by rw [List.size_toArray]; omega)) ⟨e, ?_⟩
 refine ⟨.non, _, I.lset (its' := its ++ [u]) hH e (by simp) (r.append (.cons ru .nil)) ?_, rfl, q⟩
 rw [List.length_append, List.length_singleton]
 omega
def y5X : V -> List V -> Hp -> VK -> Prop := fun x vs H Q => ∃ l b xs zs, x = .ref l /\ vs = [.ref b] /\ H l = some (.lst xs) /\ H b = some (.lst zs) /\ xs.length + zs.length ≤ sizeLine /\ Q .non (upd H l (.lst (xs ++ zs)))
theorem y30 : MtM X "list.extend" y5X := by
 intro pins s σ H x vs v us Q I rx rv h
 obtain ⟨l, b, xs, zs, rfl, rfl, hH, hB, hz, q⟩ := h
 cases rx
 obtain ⟨u, rfl, ru⟩ := rv.one
 cases ru
 obtain ⟨z, its, n, r, hl, e⟩ := I.lstM hH
 obtain ⟨z2, its2, n2, r2, hl2, e2⟩ := I.lstM hB
 have hsz : its.toArray.size + its2.toArray.size ≤ sizeLine := by rw [List.size_toArray, List.size_toArray]; omega
 have hlong : ¬ (!its.toArray.isEmpty && Builtin.List.listTooLong (its.toArray.size + its2.toArray.size)) = true := by
  rw [y4a hsz, Bool.and_false]
  exact Bool.false_ne_true
 refine call_meets F.slot_list_extend ⟨_, e, rfl⟩ F.entry_list_extend (F.args_list_extend_2 _ _)
  (AutoSeq1.list_extend_list_list_0 l its.toArray n b its2.toArray n2 hlong (by rw [List.size_toArray]; omega) (by omega)) ⟨e, e2, ?_⟩
 refine ⟨.non, _, I.lset (its' := its ++ its2) hH e (by simp) (r.append r2) ?_, rfl, q⟩
 rw [List.length_append]
 omega
end
section
variable {prog : Program} {w : World} {A : Around} {E : Value -> Shared -> Prop} {s : Shared}
end
section
variable {X : Cx}
end
end L2
namespace Att
open PySem PySem.W PySem.Calls PyProof.Rows
theorem z79 {P : Params} {h : Heap} : ∀ (ns : List Int) (vs : List Value), WellAll P h vs (ns.map WData.int) -> IntsAre vs ns := by
 intro ns
 induction ns with
 | nil =>
  intro vs w
  rw [List.map_nil] at w
  cases w
  exact .nil
 | cons n ns ih =>
  intro vs w
  rw [List.map_cons] at w
  cases w with
  | cons a b =>
   cases a
   exact .cons _ _ (ih _ b)
theorem y1Q {l : OpenLaw} {n : Nat} (hn : l.most = some n) {P : Params} {h : Heap} {args : List WData} {vals : List Value}
  (hpre : l.row.toRowW.claim.pre args = true) (hwl : WellAll P h vals args) :
  ∃ a vs ns, vals = [Value.ref a] /\ args = [WData.list (ns.map WData.int)] /\ h.get? a = some { cls := .type "list", data := .seq vs.toArray } /\ IntsAre vs ns /\ ns.length ≤ n := by
 have hsh : WShape.hasAll [] args [.list .int] = true := (pre_splitW hpre).1
 have hc : l.pre.holds [] { args := args } = true := (pre_splitW hpre).2
 obtain ⟨d, r, rfl, h1, h2⟩ := hasAllW_cons hsh
 obtain rfl := hasAllW_nil h2
 obtain ⟨xs, rfl, h3⟩ := hasW_list h1
 obtain ⟨ns, rfl⟩ := items_int h3
 have hlen : ns.length ≤ n := by
  unfold OpenLaw.pre at hc
  have h4 : (WTm.not (.lt (.lit (.int (n : Int))) (.len (.arg 0)))).holds [] { args := [.list (ns.map .int)] } = true := by
   have h4 := (holds_andW hc).1
   rw [hn] at h4
   exact h4
  have h5 := condW_of h4 (w_not (w_lt w_lit (w_len_list (w_arg rfl))))
  rw [List.length_map] at h5
  refine Nat.le_of_not_lt fun q => ?_
  have q' : (n : Int) < ((ns.length : Nat) : Int) := by omega
  first
   | (rw [decide_eq_true q'] at h5; exact absurd h5 (by decide))
   | (simp at h5; omega)
 cases hwl with
 | cons w1 w2 =>
  cases w2
  cases w1 with
  | list ho hall => exact ⟨_, _, ns, rfl, rfl, ho, z79 ns _ hall, hlen⟩
theorem y2a (l : OpenLaw) (args : List WData) : l.row.toRowW.claim.post args (.bool true) args = true :=
 postW_of (r := l.row.toRowW) (X := (true == true))
  (show WShape.has [] (.bool true) .bool = true by first | rfl | decide | simp [WShape.has, WShape.arms, WShape.armsAll])
  (show (WTm.eq .res (.lit (.bool true))).value [] { args := args, res := some (.bool true), after := args } = some (.bool (true == true)) from w_eq_bool (w_res rfl) w_lit) rfl
theorem z9X {l : OpenLaw} {n : Nat} {q : Program} {loose : List Str} {XP : (Str -> Option Value) -> Heap -> Prop} {YP : World -> Heap -> Prop} {d : DefRec}
  (hn : l.most = some n) (hdf : d.params.defaults = [])
  (call : ∀ (w : World) (s₀ s₁ : Shared) (mg mb : Str -> Option Value) (fa : Addr) (o : Obj) (pm cd doc : Value) (a : Addr) (vs : List Value) (ns : List Int),
   Ground q loose [] XP w s₀ mg mb s₁.heap -> YP w s₁.heap ->
   s₁.heap.get? fa = some o -> o.data = .func (docDef d.name d.params d.body d.scope pm cd doc) -> s₁.heap.CodeRec cd d.name -> mg d.name = some (.ref fa) ->
   s₁.heap.get? a = some { cls := .type "list", data := .seq vs.toArray } -> IntsAre vs ns -> ns.length ≤ n -> s₁.gens = #[] ->
   codeAny (model l.prog w) callerA (.call (.ref fa) ⟨[.ref a], []⟩) (fun r s' => r = .ok (.ret (.bool true)) /\ OldK s₁.heap s'.heap /\ s'.os = s₁.os /\ AllBare s'.gens) s₁) :
  WalkO q loose XP YP l.row.toRowW d [] (fun f vs => PySem.call f vs) := by
 intro w s₀ s₁ mg mb G Y fa o pm cd doc dV kV ho hd hcd hD hmg hg args vals as hpre hlay hrd hwl hlo
 obtain rfl : dV = .none := Dflts.none hD hdf
 obtain rfl : kV = .none := Dflts.noKw hD
 obtain ⟨a, vs, ns, rfl, rfl, hobj, hints, hlen⟩ := y1Q hn hpre hwl
 refine enter_call (codeAny_mono (call w s₀ s₁ mg mb fa o pm cd doc a vs ns G Y ho (fd_plain hd) hcd hmg hobj hints hlen hg) fun r s' hq => ?_)
 obtain ⟨rfl, h2, h3, h4⟩ := hq
 exact ⟨.inl ⟨.bool true, .bool true, [], rfl, fun _ => rfl, .bool true, y2a l _, fun _ => ⟨List.Pairwise.nil, fun _ hm => (nomatch hm)⟩⟩, h2, h3, h4⟩
section
variable {prog : Program} {w : World} {A : Around} {E : Value -> Shared -> Prop} {s : Shared} {K : Frag}
end
end Att
namespace L2
open PySem PySem.Spec PyProof.Rows
theorem z7v : ∀ {vs : List Value} {ns : List Int}, IntsAre vs ns -> Vals (ns.map V.int) vs
 | _, _, .nil => .nil
 | _, _, .cons n t h => .cons ⟨t, rfl⟩ (z7v h)
def Only (H : Hp) : Prop := ∀ b, H b = none \/ ∃ o xs, H b = some (.frz o (.lst xs))
theorem y4A {P : Program} {w : World} {K : PySem.W.Frag} {mg mb : Str -> Option Value} {CX : CXT} {k : Nat} {fa a : Addr} {fd : FuncData} {x : Str} {sp : Sp} {s₁ : Shared} {vs : List Value} {ns : List Int}
  (KX : K.In s₁.heap) (hns : s₁.heap.Ns mainGlobals mg) (hb : s₁.heap.Ns builtinsNs mb) (hbb : ∀ x : Str, x ≠ "__name__" -> mb x = bootBuiltins x) (hlim : s₁.heap.NoLimit) (hg : s₁.gens = #[])
  (ha : s₁.heap.get? a = some { cls := .type "list", data := .seq vs.toArray }) (hi : IntsAre vs ns) (hl : ns.length ≤ sizeLine) (hr : Room k callerA)
  (F : ∀ base : Heap, K.In base -> base.Ns mainGlobals mg -> FnOk P w K mg base CX k fa fd [x] sp) (hbind : ∀ (s : Shared) (u : Value), BindsTo s fd ⟨[u], []⟩ [(x, u)])
  (hsp : ∀ H : Hp, Only H -> SqL K H a (ns.map V.int) -> sp [.ref a] H (fun v _ => v = .bl true) fun _ _ _ => False)
  (hCX : ∀ H e s', CX [] H s₁ (fun _ _ _ => False) e s' -> False) :
  codeAny (model P w) callerA (.call (.ref fa) ⟨[.ref a], []⟩) (fun r s' => r = .ok (.ret (.bool true)) /\ OldK s₁.heap s'.heap /\ s'.os = s₁.os /\ AllBare s'.gens) s₁ := by
 have rv := z7v hi
 have lenV := hi.length
 have core : ∀ H : Hp, Only H -> SqL K H a (ns.map V.int) -> HOk P w H s₁.heap -> (∀ b, H b ≠ none -> b = a) -> (H a ≠ none -> K.lookup a = none) ->
   codeAny (model P w) callerA (.call (.ref fa) ⟨[.ref a], []⟩) (fun r s' => r = .ok (.ret (.bool true)) /\ OldK s₁.heap s'.heap /\ s'.os = s₁.os /\ AllBare s'.gens) s₁ := by
  intro H hO hS hok hA hK
  have base_of : ∀ {b : Addr} {o : Obj}, s₁.heap.get? b = some o -> H b = none -> (hidT s₁.heap H).get? b = some o := fun e n => y3U e n
  have noA : ∀ {b : Addr} {o : Obj} {es : Array DictEntry} {ep : Nat}, s₁.heap.get? b = some o -> o.data = .dict es ep -> H b = none := fun {b o es ep} e d => by
   cases q : H b with
   | none => rfl
   | some u =>
    have e' : b = a := hA b (by rw [q]; simp)
    subst e'
    rw [ha] at e; cases e
    have d' : Data.seq vs.toArray _ = Data.dict es ep := d
    cases d'
  have nsK : ∀ {b : Addr} {m : Str -> Option Value}, s₁.heap.Ns b m -> (hidT s₁.heap H).Ns b m := fun {b m} ⟨o, es, ep, e, d, r⟩ => ⟨o, es, ep, base_of e (noA e d), d, r⟩
  have hKb : K.In (hidT s₁.heap H) := fun b o e => base_of (KX b o e) (by
   cases q : H b with
   | none => rfl
   | some u =>
    have e' : b = a := hA b (by rw [q]; simp)
    subst e'
    rw [hK (by rw [q]; simp)] at e; cases e)
  have hM : Mod K mg (hidT s₁.heap H) := ⟨hKb, nsK hns, ⟨mb, nsK hb, hbb⟩, let ⟨mc, h1, h2⟩ := hlim; ⟨mc, nsK h1, h2⟩⟩
  have e0 : Env0 P w K mg (hidT s₁.heap H) callerA [] s₁ H := ⟨rfl, hM, fun b o e => y5B e, Nat.le_of_eq (y2B _ _), trivial, fun b hb => absurd (show b ∈ ([] : List Addr) from hb) (by simp), hok, .of_eq hg⟩
  refine codeAny_mono ((F _ hKb (nsK hns)).run callerA [] s₁ H ⟨[.ref a], []⟩ [.ref a] [.ref a] _ _ hr e0 (hbind s₁ (.ref a)) (.cons rfl .nil) (hsp H hO hS)) fun r s' h => ?_
  cases r with
  | error e => exact (hCX H e s' h).elim
  | ok fl =>
   cases fl with
   | next => exact False.elim h
   | brk => exact False.elim h
   | cont => exact False.elim h
   | ret u =>
    obtain ⟨v, H', os, bare, un, hok', r', q⟩ := h
    have q' : v = .bl true := q
    subst q'
    obtain rfl : u = Value.bool true := r'
    refine ⟨rfl, OldK.of_keep fun b o e => ?_, os, bare⟩
    cases q : H b with
    | none => exact un.keep b o e q (by intro z; exact absurd (show b ∈ ([] : List Addr) from z) (by simp)) (by simp)
    | some u =>
     rcases hO b with z | ⟨ob, xs, z⟩
     ·rw [q] at z; cases z
     ·have z2 := un.frzs b ob _ z
      obtain ⟨e1, _⟩ := hok b _ z
      obtain ⟨e2, _⟩ := hok' b _ z2
      rw [e] at e1; cases e1
      exact e2
 cases hk : K.lookup a with
 | some o =>
  have e := KX a o hk
  rw [ha] at e
  cases e
  refine core (fun _ => none) (fun _ => .inl rfl) (.inr ⟨_, vs.toArray, _, hk, rfl, rfl, rfl, by rw [List.size_toArray, lenV]; exact hl, by simpa using rv⟩) (fun b u z => by have z' : (none : Option HO) = some u := z; cases z') (fun b z => absurd rfl z) fun z => absurd rfl z
 | none =>
  refine core (fun b => if b = a then some (.frz { cls := .type "list", data := .seq vs.toArray } (.lst (ns.map V.int))) else none) (fun b => ?_) (.inl (.inr ⟨{ cls := .type "list", data := .seq vs.toArray }, if_pos rfl⟩)) (fun b u z => ?_) (fun b z => ?_) fun _ => hk
  ·by_cases hb : b = a
   ·exact .inr ⟨_, _, if_pos hb⟩
   ·exact .inl (if_neg hb)
  ·by_cases hb : b = a
   ·have z' := (if_pos hb).symm.trans z
    cases z'
    subst hb
    exact ⟨ha, by rw [List.length_map]; exact hl, vs, _, rv, ha⟩
   ·have z' := (if_neg hb).symm.trans z
    cases z'
  ·by_cases hb : b = a
   ·exact hb
   ·exact absurd (if_neg hb) z
theorem y5Z {l : PySem.W.OpenLaw} {n k : Nat} {q : Program} {loose : List Str} {XP : (Str -> Option Value) -> Heap -> Prop} {YP : World -> Heap -> Prop} {d : DefRec} {K : Params -> PySem.W.Frag} {CX : World -> CXT} {sp : World -> Sp} {x : Str}
  (hn : l.most = some n) (hn2 : n ≤ sizeLine) (hdf : d.params.defaults = []) (hr : Room k callerA)
  (hY : ∀ (w : World) (h : Heap), YP w h -> (K w.params).In h)
  (F : ∀ (w : World) (mg : Str -> Option Value) (fa : Addr) (h : Heap), (K w.params).In h -> h.Ns mainGlobals mg -> mg d.name = some (.ref fa) ->
   ∃ fd : FuncData, (∀ (s : Shared) (u : Value), BindsTo s fd ⟨[u], []⟩ [(x, u)]) /\
    ∀ base : Heap, (K w.params).In base -> base.Ns mainGlobals mg -> FnOk l.prog w (K w.params) mg base (CX w) k fa fd [x] (sp w))
  (hsp : ∀ (w : World) (H : Hp) (a : Addr) (ns : List Int), ns.length ≤ n -> Only H -> SqL (K w.params) H a (ns.map V.int) -> sp w [.ref a] H (fun v _ => v = .bl true) fun _ _ _ => False)
  (hCX : ∀ (w : World) (H : Hp) (s : Shared) (e : Value) (s' : Shared), CX w [] H s (fun _ _ _ => False) e s' -> False) :
  PySem.W.WalkO q loose XP YP l.row.toRowW d [] (fun f vs => PySem.call f vs) := by
 refine Att.z9X hn hdf fun w s₀ s₁ mg mb fa o pm cd doc a vs ns G Y ho hd hcd hmg hobj hints hlen hg => ?_
 have KX := hY w _ Y
 obtain ⟨fd, hb, hF⟩ := F w mg fa _ KX G.T.g hmg
 exact y4A KX G.T.g G.T.b G.T.builtins G.T.nolimit hg hobj hints (Nat.le_trans hlen hn2) hr hF hb (fun H hO hS => hsp w H a ns hlen hO hS) fun H e s' => hCX w H s₁ e s'
def z13 (s : Stmt) (j : Nat) : Stmt := match s with
 | .ClassDef _ _ _ body _ _ _ _ _ _ _ => body.getD j (.Pass ⟨0, 0, 0, 0⟩)
 | _ => .Pass ⟨0, 0, 0, 0⟩
def z1m (s : Stmt) : Arguments := match s with
 | .FunctionDef _ a _ _ _ _ _ _ _ _ => a
 | _ => { posonlyargs := [], args := [], vararg := none, kwonlyargs := [], kw_defaults := [], kwarg := none, defaults := [] }
def z17 (s : Stmt) : List Stmt := match s with
 | .FunctionDef _ _ b _ _ _ _ _ _ _ => b
 | _ => []
def z06 (s : Stmt) : Scope := match s with
 | .FunctionDef _ _ _ _ _ _ sc _ _ _ => sc
 | _ => { kind := .function, names := [], isGenerator := false, isCoroutine := false }
abbrev CX0 : CXT := fun _ _ _ _ _ _ => False
abbrev E0 : XK := fun _ _ _ => False
theorem y1x {X : Cx} : z7d CX0 X E0 := fun _ _ _ _ _ _ _ h => h.elim
structure Fun (K : PySem.W.Frag) (x qual : Str) (st : Stmt) (f : Addr) (fd : FuncData) : Prop where
 ex : ∃ (oc : Value) (od : Option Addr) (kV doc pm : Value) (an : Option Addr) (cdv ct : Value) (osl : Array (Option Value)),
  fd = PySem.W.fnOf x qual (z1m st) (z17 st) (z06 st) .none kV doc pm an cdv ct /\ K.lookup f = some ⟨oc, od, .func fd, osl⟩ /\ PySem.W.codeIn K cdv qual = true
 kp : PySem.W.keepIn K (.ref f) = true
section
variable {P : Program} {w : World} {K : PySem.W.Frag} {mg : Str -> Option Value} {base : Heap}
theorem Fun.ok {x qual : Str} {st : Stmt} {f : Addr} {fd : FuncData} {N ps : List Str} {k : Nat} {sp : Sp} (F : Fun K x qual st f fd) (S : FnScope N ps (z06 st)) (len : ∀ vs H Q E, sp vs H Q E -> vs.length = ps.length)
  (hbody : ∀ (cdv : Value) (A : Around) (outer : List Env) (s : Shared) (H : Hp) (vs : List V) (Q : VK) (E : XK), Room k (A.deeper (envOfC qual (z06 st) s.heap.objs.size f cdv)) -> sp vs H Q E ->
   ∃ t, PSs (cxOf CX0 P w K mg base N qual (z06 st) f cdv A outer s H E).nox (z17 st) t /\ t { nx := fun _ H' => Q .non H', rt := Q } (z5u N vs) H) : FnOk P w K mg base CX0 (k + 1) f fd ps sp := by
 obtain ⟨oc, od, kV, doc, pm, an, cdv, ct, osl, rfl, lk, hcd⟩ := F.ex
 refine y6S lk hcd S len fun A outer s H vs Q E hr hsp => ?_
 obtain ⟨t, h, q⟩ := hbody cdv A outer s H vs Q E hr hsp
 exact ⟨t, h.nox, q⟩
theorem Fun.binds {x qual : Str} {st : Stmt} {f : Addr} {fd : FuncData} {ps : List Str} (F : Fun K x qual st f fd)
  (h : ∀ (kV doc pm : Value) (an : Option Addr) (cdv ct : Value) (us : List Value), us.length = ps.length -> bindArgs (PySem.W.fnOf x qual (z1m st) (z17 st) (z06 st) .none kV doc pm an cdv ct) ⟨us, []⟩ = pure (ps.zip us)) : z1G K fd ps [] := by
 obtain ⟨oc, od, kV, doc, pm, an, cdv, ct, osl, rfl, lk, hcd⟩ := F.ex
 exact .all (h kV doc pm an cdv ct)
theorem y6p {x qual : Str} {st : Stmt} {f : Addr} {oc : Value} {od an : Option Addr} {osl : Array (Option Value)} {kV doc pm cdv ct : Value} (l : K.lookup f = some ⟨oc, od, .func (PySem.W.fnOf x qual (z1m st) (z17 st) (z06 st) .none kV doc pm an cdv ct), osl⟩)
  (c : PySem.W.codeIn K cdv qual = true) (k : PySem.W.keepIn K (.ref f) = true) : Fun K x qual st f (PySem.W.fnOf x qual (z1m st) (z17 st) (z06 st) .none kV doc pm an cdv ct) := ⟨⟨oc, od, kV, doc, pm, an, cdv, ct, osl, rfl, l, c⟩, k⟩
end
theorem z9L {A : Around} {k : Nat} (hr : Room k A) : A.units + 1 < cLine := Nat.lt_of_le_of_lt (Nat.add_le_add_left (by decide : 1 ≤ 64) _) hr.units
theorem z0g {n : Nat} (h : n ≤ 1000) : n < sizeLine := Nat.lt_of_le_of_lt h (by decide)
section
variable {X : Cx}
theorem pv (i : Nat) {x : Str} {pos : Pos} (hN : X.N[i]? = some x := by rfl) (hv : Vis X.env.scope x := by first | exact Or.inl rfl | exact Or.inr (Or.inl rfl) | exact Or.inr (Or.inr rfl)) (hd : (x == ("__debug__" : Str)) = false := by decide)
  (hcd : (x == ("__classdict__" : Str)) = false := by decide) : PE X (.Name x pos) (tVar i) := y6F hN hv hd hcd
end
theorem iteF {A B : Prop} (h : B) : if false = true then A else B := by
 rw [if_neg Bool.false_ne_true]
 exact h
theorem iteT {A B : Prop} (h : A) : if true = true then A else B := by
 rw [if_pos rfl]
 exact h
theorem ite2 {c A B : Prop} [Decidable c] (h1 : c -> A) (h2 : ¬ c -> B) : if c then A else B := by
 by_cases h : c
 ·rw [if_pos h]
  exact h1 h
 ·rw [if_neg h]
  exact h2 h
theorem y6z {c A B : Prop} [Decidable c] (hc : c) (h : B) : if (!decide c) = true then A else B := by
 rw [decide_eq_true hc]
 exact iteF h
def Same (H H' : Hp) : Prop := ∀ b o, H b = some o -> H' b = some o
theorem Same.refl (H : Hp) : Same H H := fun _ _ h => h
theorem Same.trans {H H1 H2 : Hp} (a : Same H H1) (b : Same H1 H2) : Same H H2 := fun c o h => b c o (a c o h)
theorem Same.free {H H' : Hp} (e : Same H H') {l : Addr} (h : H' l = Option.none) : H l = Option.none := by
 cases q : H l with
 | none => rfl
 | some o =>
  rw [e l o q] at h
  cases h
theorem Same.seq {K : PySem.W.Frag} {H H' : Hp} {a : Addr} {xs : List V} (e : Same H H') (h : SqL K H a xs) : SqL K H' a xs := by
 rcases h with (h | ⟨o, h⟩) | h
 ·exact .inl (.inl (e _ _ h))
 ·exact .inl (.inr ⟨o, e _ _ h⟩)
 ·exact .inr h
abbrev noE : Value -> Shared -> Prop := fun _ _ => False
theorem y0h {prog : Program} {w : World} {A : Around} {R : Result -> Shared -> Prop} {s : Shared} {elt target iter : Expr} {ifs : List Expr} {scope : Scope} {pos : Pos} {it acc : Value} {env : Env} (I : Nat -> Shared -> Prop)
  (turn : ∀ n s, I n s -> wpAny (model prog w) A (pyNext it) (fun r s1 => match r with
   | none => R (.ok .next) s1
   | some v => wpAny (model prog w) A (letOwnedTupleGo target it v) (fun _ s0 => wpAny (model prog w) A (assign target env v) (fun _ s2 =>
     wpAny (model prog w) A (forIn ifs true fun c r => if r = true then do let ok <- isTrue c env (eval c env); pure (ForInStep.yield ok) else pure (ForInStep.yield r)) (fun ok s3 =>
      if ok = true then wpAny (model prog w) A (eval elt env) (fun x s4 =>
       wpAny (model prog w) A (call (.builtin "list.append") [acc, x]) (fun _ s5 => ∃ m, m < n /\ I m s5) noE s4) noE s3
      else ∃ m, m < n /\ I m s3) noE s2) noE s0) noE s1) noE s)
  (n : Nat) (h : I n s) : codeAny (model prog w) A (.compLoop (.ListComp elt [⟨target, iter, ifs, 0⟩] scope pos) 0 it acc env) R s := by
 refine codeAny_loop rfl I (fun n s hI => ?_) n h
 show wpAny _ A ((compTurn (.ListComp elt [⟨target, iter, ifs, 0⟩] scope pos) 0 it acc env).onRaise (fun x => do noteFrame x env; theTreesLotGoes x)) _ _ s
 refine wpAny_noted ?_
 rw [compTurn_list]
 refine wpAny_bind (wpAny_standAt (wpAny_bind (wpAny_mono (turn n s hI) (fun r s1 h1 => ?_) fun _ _ z => False.elim z)))
 cases r with
 | none => exact wpAny_pure h1
 | some v =>
  refine wpAny_bind (wpAny_mono h1 (fun _ s0 h0 => ?_) fun _ _ z => False.elim z)
  refine wpAny_bind (wpAny_mono h0 (fun _ s2 h2 => wpAny_bind (wpAny_mono h2 (fun ok s3 h3 => ?_) fun _ _ z => False.elim z)) fun _ _ z => False.elim z)
  cases ok with
  | false => exact wpAny_pure ⟨rfl, h3⟩
  | true =>
   exact wpAny_bind (wpAny_bind (wpAny_mono h3 (fun x s4 h4 => wpAny_bind (wpAny_mono h4 (fun _ s5 h5 => wpAny_pure (wpAny_pure ⟨rfl, h5⟩)) fun _ _ z => False.elim z)) fun _ _ z => False.elim z))
def z7l (cells : List (Str × Addr)) : List (Str × NameKind) -> List (Str × Addr) -> Option (List (Str × Addr))
 | [], acc => some acc
 | (n, k) :: r, acc => if k == .free then (match cells.lookup n with
   | some a => z7l cells r ((n, a) :: acc)
   | none => none) else z7l cells r acc
theorem z5P {env : Env} : ∀ (names : List (Str × NameKind)) (acc cl : List (Str × Addr)), z7l env.cells names acc = some cl ->
  (forIn names acc fun (x : Str × NameKind) (cs : List (Str × Addr)) => match x with
   | (name, kind) => if (kind == NameKind.free) = true then do let c <- cellOf env name; pure (ForInStep.yield ((name, c) :: cs)) else pure (ForInStep.yield cs) : Sem (List (Str × Addr))) = pure cl
 | [], acc, cl, h => by
  have h' : acc = cl := Option.some.inj h
  subst h'
  rfl
 | (n, k) :: r, acc, cl, h => by
  rw [List.forIn_cons]
  unfold z7l at h
  by_cases hk : (k == NameKind.free) = true
  ·rw [if_pos hk] at h
   cases e : env.cells.lookup n with
   | none => rw [e] at h; cases h
   | some a =>
    rw [e] at h
    have ih := z5P r ((n, a) :: acc) cl h
    have hc : cellOf env n = pure a := by unfold cellOf; rw [e]
    dsimp only
    rw [if_pos hk, hc]
    simpa using ih
  ·rw [if_neg hk] at h
   have ih := z5P r acc cl h
   dsimp only
   rw [if_neg hk]
   simpa using ih
theorem z6n {scope : Scope} {env : Env} {cl : List (Str × Addr)} (h : z7l env.cells scope.names [] = some cl) : closureFor scope env = pure cl := by
 have q := z5P (env := env) scope.names [] cl h
 unfold closureFor
 simpa using q
theorem z73 {cells : List (Str × Addr)} : ∀ {names : List (Str × NameKind)} {acc cl : List (Str × Addr)}, z7l cells names acc = some cl ->
  (∀ x c, acc.lookup x = some c -> cells.lookup x = some c) -> ∀ x c, cl.lookup x = some c -> cells.lookup x = some c
 | [], acc, cl, h, ha, x, c, e => by
  have h' : acc = cl := Option.some.inj h
  subst h'
  exact ha x c e
 | (n, k) :: r, acc, cl, h, ha, x, c, e => by
  unfold z7l at h
  by_cases hk : (k == NameKind.free) = true
  ·rw [if_pos hk] at h
   cases q : cells.lookup n with
   | none => rw [q] at h; cases h
   | some a =>
    rw [q] at h
    refine z73 (names := r) (acc := (n, a) :: acc) h (fun y d z => ?_) x c e
    rw [List.lookup_cons] at z
    cases hy : y == n with
    | true =>
     rw [hy] at z
     have z' : a = d := Option.some.inj z
     rw [<- z', beq_iff_eq.mp hy]
     exact q
    | false =>
     rw [hy] at z
     exact ha y d z
  ·rw [if_neg hk] at h
   exact z73 (names := r) (acc := acc) h ha x c e
theorem z5C {cells : List (Str × Addr)} : ∀ {names : List (Str × NameKind)} {acc cl : List (Str × Addr)}, z7l cells names acc = some cl ->
  ∀ x, ((∃ c, acc.lookup x = some c) \/ (x, NameKind.free) ∈ names) -> ∃ c, cl.lookup x = some c
 | [], acc, cl, h, x, hx => by
  have h' : acc = cl := Option.some.inj h
  subst h'
  rcases hx with hx | hx
  ·exact hx
  ·cases hx
 | (n, k) :: r, acc, cl, h, x, hx => by
  unfold z7l at h
  by_cases hk : (k == NameKind.free) = true
  ·rw [if_pos hk] at h
   cases q : cells.lookup n with
   | none => rw [q] at h; cases h
   | some a =>
    rw [q] at h
    refine z5C (names := r) (acc := (n, a) :: acc) h x ?_
    rcases hx with ⟨c, hx⟩ | hx
    ·left
     rw [List.lookup_cons]
     cases hy : x == n with
     | true => exact ⟨a, rfl⟩
     | false => exact ⟨c, hx⟩
    ·rcases List.mem_cons.mp hx with e | e
     ·left
      have e1 : x = n := congrArg Prod.fst e
      rw [List.lookup_cons, e1, beq_self_eq_true]
      exact ⟨a, rfl⟩
     ·exact .inr e
  ·rw [if_neg hk] at h
   refine z5C (names := r) (acc := acc) h x ?_
   rcases hx with hx | hx
   ·exact .inl hx
   ·rcases List.mem_cons.mp hx with e | e
    ·have e2 : NameKind.free = k := congrArg Prod.snd e
     exact absurd (by rw [<- e2]; rfl) hk
    ·exact .inr e
theorem z7k {α β : Type} [BEq α] [LawfulBEq α] : ∀ {l : List (α × β)} {x : α} {b : β}, l.lookup x = some b -> (x, b) ∈ l
 | [], x, b, h => by cases h
 | (a, c) :: r, x, b, h => by
  rw [List.lookup_cons] at h
  cases hx : x == a with
  | true =>
   rw [hx] at h
   have h' : c = b := Option.some.inj h
   rw [beq_iff_eq.mp hx, h']
   exact List.mem_cons_self
  | false =>
   rw [hx] at h
   exact List.mem_cons_of_mem _ (z7k h)
theorem z6e {scope : Scope} {env : Env} (hcell : ∀ y ∈ scope.names, y.2 ≠ .cell) {x : Str} (h : (relabel scope env).names.lookup x = some .cell \/ (relabel scope env).names.lookup x = some .free) : (x, NameKind.free) ∈ scope.names := by
 have go : ∀ k, (relabel scope env).names.lookup x = some k -> (k = .cell \/ k = .free) -> (x, NameKind.free) ∈ scope.names := fun k h hk => by
  have m := z7k h
  obtain ⟨⟨n, k'⟩, hm, e⟩ := List.mem_map.mp m
  dsimp only at e
  by_cases c : (k' == NameKind.free && env.scope.kind == .function && env.kindOf n == some .cell) = true
  ·rw [if_pos c] at e
   have e1 : n = x := congrArg Prod.fst e
   have c1 : (k' == NameKind.free) = true := by
    rw [Bool.and_eq_true, Bool.and_eq_true] at c
    exact c.1.1
   have c2 : k' = .free := eq_of_beq c1
   rw [<- e1, <- c2]
   exact hm
  ·rw [if_neg c] at e
   have e1 : n = x := congrArg Prod.fst e
   have e2 : k' = k := congrArg Prod.snd e
   rcases hk with z | z
   ·exact absurd (e2.trans z) (hcell _ hm)
   ·rw [<- e1, <- z, <- e2]
    exact hm
 rcases h with h | h
 ·exact go _ h (.inl rfl)
 ·exact go _ h (.inr rfl)
def z3P (X : Cx) (scope : Scope) (cl : List (Str × Addr)) (N : List Str) (C : Addr) (s3 : Shared) (H1 : Hp) (ex : List Addr) (pins : List (Addr × Obj)) : Cx :=
 { X with N := N, s₀ := s3, H₀ := H1, env := compEnvC scope cl C X.env, outer := X.stack, ex := ex, fn := fun _ => false, pn := X.pn ++ pins, xe := noE }
def z7b (own : Nat) (ix : List Nat) (σ : St) : St := List.replicate own none ++ ix.map fun i => (σ[i]?).join
structure CompScope (X : Cx) (scope : Scope) (cl : List (Str × Addr)) (own caps : List Str) (ix : List Nat) : Prop where
 clos : z7l X.env.cells scope.names [] = some cl
 cell : ∀ y ∈ scope.names, y.2 ≠ .cell
 kind : scope.kind = .function
 names : ∀ y ∈ scope.names, y.2 = .local -> scope.names.lookup y.1 = some .local
 capn : caps.length = ix.length
 cap : ∀ (j i : Nat) (x : Str), caps[j]? = some x -> ix[j]? = some i -> X.N[i]? = some x /\ X.env.kindOf x ≠ some .local /\ Vis X.env.scope x /\ ((relabel scope X.env).names.lookup x = some .cell \/ (relabel scope X.env).names.lookup x = some .free)
theorem Inv.track {X : Cx} {pins : List (Addr × Obj)} {σ : St} {H : Hp} {s : Shared} {D : Addr} {o : HO} (I : Inv X pins σ H s) (f : FpOk X pins H D) (new : z1f X.prog X.w (upd H D o) s.heap D o) : Inv X pins σ (upd H D o) s := by
 obtain ⟨f0, f1, f2, f3, f4, f5⟩ := f
 have q := I.step (H' := upd H D o) (h' := s.heap) (g' := s.gens) (t' := s.toks) (d' := s.drawn) (ch := [D]) (fun b hb => by
   have e : b = D := by simpa using hb
   subst e
   exact ⟨f3, f1, f4, f5⟩)
  (fun _ _ _ _ _ e _ => e) (fun b ob _ _ _ e _ => ⟨ob.slots, e⟩) (fun b ob hb _ n => by
   have e : b ≠ D := fun z => hb (by simp [z])
   rw [z0d e]; exact n)
  (fun b ob _ e => ⟨ob, e⟩) (fun b xs e => by rw [z0d (z0i e f0)]; exact e) (fun b ob u e => by rw [z0d (z0i e f0)]; exact e)
  (fun b ps e => ⟨#[], by rw [z0d (z0i e f0), e]; simp⟩) (fun _ hm => hm) (fun b u e => by
   by_cases hb : b = D
   ·subst hb
    rw [z02] at e
    cases e
    exact new
   ·rw [z0d hb] at e
    exact (I.hok b u e).stay (fun _ _ _ q => q) (fun c q => by rw [z0d (z0i q f0)]; exact q) fun c xs q => by rw [z0d (z0i q f0)]; exact q) I.bare
 exact q
section
variable {X : Cx} {scope : Scope} {cl : List (Str × Addr)} {own caps : List Str} {ix : List Nat}
theorem CompScope.look (S : CompScope X scope cl own caps ix) : ∀ x c, cl.lookup x = some c -> X.env.cells.lookup x = some c :=
 z73 S.clos fun x c e => by cases e
theorem y4p {pins : List (Addr × Obj)} {σ : St} {H1 : Hp} {s3 : Shared} {h1 : Heap} {ex : List Addr} {m : Str -> Option Value} {tk : Nat} (S : CompScope X scope cl own caps ix) (I : Inv X pins σ H1 s3)
  (hex : ∀ b ∈ ex, b < s3.heap.objs.size /\ b ≠ X.env.locals /\ b ∉ X.fs /\ (b ∈ X.ex \/ X.s₀.heap.objs.size ≤ b) /\ ∀ x c, X.env.cells.lookup x = some c -> c ≠ b)
  (hn : h1.Ns s3.heap.objs.size m) (hk : ∀ b o, s3.heap.get? b = some o -> h1.get? b = some o) :
  Inv (z3P X scope cl (own ++ caps) s3.heap.objs.size s3 H1 ex pins) [] (z7b own.length ix σ) H1 { s3 with heap := h1, toks := tk } := by
 have stkN : ∀ b ∈ frs X.stack, b < s3.heap.objs.size := fun b hb => by
  obtain ⟨_, o, ho, _⟩ := I.stack.mem hb
  exact Heap.lt_size ho
 have lt0 : ∀ b o, X.base.get? b = some o -> b < X.s₀.heap.objs.size := fun b o e => Heap.lt_size (I.ok.bs b o e).1
 refine ⟨⟨I.ok.mod, S.kind, I.ok.glob, I.ok.blt, Nat.le_refl _, ?_, ?_, ?_, I.ok.hd, I.ok.frames, .inl rfl, ?_, I.bs, Nat.le_trans I.ok.bsz I.sz, ?_, ?_, I.stack, I.stkFree⟩, rfl, I.bare, ?_, ?_, ?_, ?_, ?_, ?_, ?_, ?_⟩
 ·intro x y c e1 e2
  exact I.ok.inj x y c (S.look x c e1) (S.look y c e2)
 ·intro x hx
  exact z5C S.clos x (.inr (z6e S.cell hx))
 ·intro x c hf
  exact absurd hf Bool.false_ne_true
 ·intro b hb
  obtain ⟨l, a1, a2, a3, a4⟩ := hex b hb
  exact ⟨Nat.ne_of_lt l, fun x c e => a4 x c (S.look x c e)⟩
 ·intro b o e hb
  obtain ⟨l, a1, a2, a3, a4⟩ := hex b hb
  rcases a3 with z | z
  ·exact I.ok.noex b o e z
  ·exact absurd (Nat.lt_of_lt_of_le (lt0 b o e) z) (Nat.lt_irrefl _)
 ·intro b hb hf
  obtain ⟨l, a1, a2, a3, a4⟩ := hex b hb
  rcases List.mem_cons.mp (I.stkSub b hf) with z | z
  ·exact a1 z
  ·exact a2 z
 ·exact Un.kept hk
 ·refine ⟨m, hn, fun i x v e1 e2 e3 => ?_⟩
  have e2' : (List.replicate own.length none ++ ix.map fun i => (σ[i]?).join : St)[i]? = some (some v) := e2
  have e1' : (own ++ caps)[i]? = some x := e1
  by_cases hi : i < own.length
  ·rw [List.getElem?_append_left (by simpa using hi), List.getElem?_replicate, if_pos hi] at e2'
   cases e2'
  ·have hi' : own.length ≤ i := Nat.le_of_not_lt hi
   rw [List.getElem?_append_right (by simpa using hi'), List.length_replicate, List.getElem?_map] at e2'
   rw [List.getElem?_append_right hi'] at e1'
   cases q : ix[i - own.length]? with
   | none => rw [q] at e2'; cases e2'
   | some k =>
    rw [q] at e2'
    have e2'' : (σ[k]?).join = some v := Option.some.inj e2'
    have e4 : σ[k]? = some (some v) := by
     cases z : σ[k]? with
     | none => rw [z] at e2''; cases e2''
     | some u => rw [z] at e2''; rw [show u = some v from e2'']
    obtain ⟨n1, n2, n3, n4⟩ := S.cap (i - own.length) k x e1' q
    obtain ⟨mX, _, hl⟩ := I.loc
    obtain ⟨u, r, l⟩ := hl k x v n1 e4 n3
    refine ⟨u, r, ?_⟩
    rcases l with ⟨kl, _⟩ | ⟨_, c, ec, ic⟩
    ·exact absurd kl n2
    ·obtain ⟨c', ec'⟩ := z5C S.clos x (.inr (z6e S.cell n4))
     have e5 := S.look x c' ec'
     rw [ec] at e5
     cases e5
     exact .inr ⟨n4, c, ec', ic.keeps hk⟩
 ·intro x c e
  obtain ⟨v, q⟩ := I.cell x c (S.look x c e)
  exact ⟨v, q.keeps hk⟩
 ·exact I.hok.fresh (Nat.le_refl _)
 ·intro x c e
  exact I.freeC x c (S.look x c e)
 ·intro p hp
  have hp' : p ∈ X.pn ++ pins := by
   have : p ∈ (X.pn ++ pins) ++ [] := hp
   rwa [List.append_nil] at this
  obtain ⟨e, n, ne, nf, d⟩ := I.pin p hp'
  refine ⟨hk _ _ e, n, Nat.ne_of_lt (Heap.lt_size e), fun z => ?_, d⟩
  rcases List.mem_cons.mp (I.stkSub p.1 z) with z | z
  ·exact ne z
  ·exact nf z
 ·exact I.hok.kept hk
 ·show (List.replicate own.length none ++ ix.map fun i => (σ[i]?).join : St).length = (own ++ caps).length
  rw [List.length_append, List.length_replicate, List.length_map, List.length_append, S.capn]
def PTs (X : Cx) (ifs : List Expr) (t : TT) : Prop :=
 ∀ (pins : List (Addr × Obj)) (s : Shared) (σ : St) (H : Hp) (Q : Bool -> Hp -> Prop), Inv X pins σ H s -> t σ H Q ->
  wpAny (model X.prog X.w) X.A (forIn ifs true fun c r => if r = true then do let ok <- isTrue c X.env (eval c X.env); pure (ForInStep.yield ok) else pure (ForInStep.yield r)) (TP X pins σ Q) X.xe s
def tYes : TT := fun _ H Q => Q true H
theorem z1N : PTs X [] tYes := fun _ _ _ H _ I h => wpAny_tests_nil ⟨H, I, h⟩
theorem z3x {c : Expr} {t : TT} (hc : PT X c t) : PTs X [c] t := fun pins s σ H Q I h => wpAny_tests_one (hc pins s σ H Q I h)
def z5E (n : Nat) (σ σ' : St) : Prop := σ'.length = σ.length /\ ∀ i, n ≤ i -> σ'[i]? = σ[i]?
def OwnG (n : Nat) (g : TG) : Prop := ∀ v σ H Q, g v σ H Q -> g v σ H fun σ' H' => Q σ' H' /\ z5E n σ σ'
def y2N (n : Nat) (g : TGs) : Prop := ∀ vs σ H Q, g vs σ H Q -> g vs σ H fun σ' H' => Q σ' H' /\ z5E n σ σ'
theorem z5E.refl (n : Nat) (σ : St) : z5E n σ σ := ⟨rfl, fun _ _ => rfl⟩
theorem z5E.trans {n : Nat} {a b c : St} (x : z5E n a b) (y : z5E n b c) : z5E n a c := ⟨y.1.trans x.1, fun i h => (y.2 i h).trans (x.2 i h)⟩
theorem z0x {n i : Nat} (h : i < n) : OwnG n (y3n i) := fun v σ H Q q => ⟨q, by simp, fun j hj => List.getElem?_set_ne (by omega)⟩
theorem z5T {n : Nat} : y2N n gNil := fun vs σ H Q q => ⟨q.1, q.2, z5E.refl n σ⟩
def z9I (g : TG) : Prop := ∀ v σ H (Q Q' : St -> Hp -> Prop), (∀ σ' H', Q σ' H' -> Q' σ' H') -> g v σ H Q -> g v σ H Q'
def z87 (g : TGs) : Prop := ∀ vs σ H (Q Q' : St -> Hp -> Prop), (∀ σ' H', Q σ' H' -> Q' σ' H') -> g vs σ H Q -> g vs σ H Q'
theorem z0c {i : Nat} : z9I (y3n i) := fun _ _ _ _ _ f q => f _ _ q
theorem z0Q : z87 gNil := fun _ _ _ _ _ f q => ⟨q.1, f _ _ q.2⟩
theorem z0C {t : TG} {u : TGs} (a : z9I t) (b : z87 u) : z87 (y65 t u) := fun vs σ H Q Q' f q => by
 obtain ⟨v, r, e, q⟩ := q
 exact ⟨v, r, e, a _ _ _ _ _ (fun σ' H' z => b _ _ _ _ _ f z) q⟩
theorem z5A {K : PySem.W.Frag} {n : Nat} {t : TGs} (a : z87 t) : z9I (gTup K n t) := fun v σ H Q Q' f q => by
 obtain ⟨p, xs, e, h1, h2, q⟩ := q
 exact ⟨p, xs, e, h1, h2, a _ _ _ _ _ f q⟩
theorem z1x {n : Nat} {t : TG} {u : TGs} (a : OwnG n t) (m : z9I t) (b : y2N n u) (m' : z87 u) : y2N n (y65 t u) := fun vs σ H Q q => by
 obtain ⟨v, r, e, q⟩ := q
 refine ⟨v, r, e, m _ _ _ _ _ (fun σ' H' z => ?_) (a _ _ _ _ q)⟩
 exact m' _ _ _ _ _ (fun σ2 H2 y => ⟨y.1, z.2.trans y.2⟩) (b _ _ _ _ z.1)
theorem z6X {K : PySem.W.Frag} {n k : Nat} {t : TGs} (a : y2N n t) : OwnG n (gTup K k t) := fun v σ H Q q => by
 obtain ⟨p, xs, e, h1, h2, q⟩ := q
 exact ⟨p, xs, e, h1, h2, a _ _ _ _ q⟩
def z1g (g : TG) (tc : TT) (te : TE) (σ0 : St) (x : V) (H : Hp) (ys : List V) (N : List V -> Hp -> Prop) : Prop :=
 g x σ0 H fun σ2 H2 => tc σ2 H2 fun b H3 => if b = true then te σ2 H3 fun y H4 => N (ys ++ [y]) H4 else N ys H3
def y6J (own : Nat) (ix : List Nat) (wi : TI) (g : TG) (tc : TT) (te : TE) (σ : St) (H : Hp) (F : List V -> Hp -> Prop) : Prop :=
 wi σ H fun J H1 => ∃ W : Nat -> Nat -> List V -> Hp -> Prop, (∃ m, W 0 m [] H1) /\ ∀ i m ys H, W i m ys H ->
  (J.stop i H /\ F ys H) \/ (J.go i H /\ ys.length < sizeLine /\ ∃ N : List V -> Hp -> Prop, (∀ zs H', N zs H' -> ∃ m', m' < m /\ W (i + 1) m' zs H') /\
   ∀ x H', J.yld i H x H' -> z1g g tc te (z7b own ix σ) x H' ys N)
theorem z8a {elt iter tg : Expr} {ifs : List Expr} {pos : Pos} {pins : List (Addr × Obj)} {σ : St} {s2 : Shared} {itv : Value} {g : TG} {tc : TT} {te : TE} {F : List V -> Hp -> Prop} {RR : Value -> Addr -> Result -> Shared -> Prop} {E : Value -> Shared -> Prop}
  (S : CompScope X scope cl own caps ix) (hc : X.calm = true)
  (hg : ∀ C s3 H1 ex pn, PG (z3P X scope cl (own ++ caps) C s3 H1 ex pn) tg g) (og : OwnG own.length g) (mg : z9I g)
  (ht : ∀ C s3 H1 ex pn, PTs (z3P X scope cl (own ++ caps) C s3 H1 ex pn) ifs tc)
  (he : ∀ C s3 H1 ex pn, PE (z3P X scope cl (own ++ caps) C s3 H1 ex pn) elt te)
  (h : PIE X pins σ tg (fun J H1 => ∃ W : Nat -> Nat -> List V -> Hp -> Prop, (∃ m, W 0 m [] H1) /\ ∀ i m ys H, W i m ys H ->
   (J.stop i H /\ F ys H) \/ (J.go i H /\ ys.length < sizeLine /\ ∃ N : List V -> Hp -> Prop, (∀ zs H', N zs H' -> ∃ m', m' < m /\ W (i + 1) m' zs H') /\
    ∀ x H', J.yld i H x H' -> z1g g tc te (z7b own.length ix σ) x H' ys N)) itv s2)
  (hRR : ∀ D C m H' ys s', Inv X pins σ (upd H' D (.lst ys)) s' -> FpOk X pins (upd H' D (.lst ys)) C -> s'.heap.Ns C m -> H' D = none -> F ys H' -> RR (.ref D) C (.ok .next) s') :
  wpAny (model X.prog X.w) X.A (newList []) (fun acc s3 => wpAny (model X.prog X.w) X.A (newFunctionEnv scope X.env.globals cl [] X.env.qual none .none (some X.env)) (fun cenv s4 =>
   codeAny (model X.prog X.w) X.A (.compStart (.ListComp elt [⟨tg, iter, ifs, 0⟩] scope pos) 0 itv acc { cenv with scope := relabel scope X.env }) (RR acc cenv.locals) s4) E s3) E s2 := by
 obtain ⟨it, fp, tn, J, H1, e, I2, T, st2, f2, W, ⟨m0, w0⟩, turn⟩ := h
 subst e
 refine wpAny_newObj_type (wpAny_newFunctionEnv S.cell (by intro y hy; simp at hy) (fun h1 hns1 hsb1 => ?_) S.kind)
 dsimp only at hns1 hsb1 ⊢
 generalize hH2 : s2.heap.push { cls := .type "list", dict := none, data := .seq ([] : List Value).toArray } = h2 at hns1 hsb1 ⊢
 have keep2 : ∀ b o, s2.heap.get? b = some o -> h2.get? b = some o := fun b o e => hH2 ▸ Heap.get?_push_of_some _ e
 have sz2 : h2.objs.size = s2.heap.objs.size + 1 := by rw [<- hH2, Heap.size_push]
 have hDC : s2.heap.objs.size ≠ h2.objs.size := by omega
 have keep1 : ∀ b o, h2.get? b = some o -> h1.get? b = some o := fun b o e => hsb1.extBut b o (Nat.ne_of_lt (Heap.lt_size e)) (Heap.get?_push_of_some _ e)
 have getD2 : h2.get? s2.heap.objs.size = some { cls := .type "list", dict := none, data := .seq ([] : List Value).toArray } := hH2 ▸ Heap.get?_push_size _ rfl
 have I3 : Inv X pins σ H1 { s2 with heap := h2, toks := s2.toks } := I2.kept keep2
 have fD : FpOk X pins H1 s2.heap.objs.size := I2.fpOk (Nat.le_refl _) I2.fresh
 have fDs : ∀ {H' : Hp}, H' s2.heap.objs.size = none -> FpOk X pins H' s2.heap.objs.size := fun hn => ⟨hn, fD.2⟩
 have fpLt : ∀ b ∈ fp, b < s2.heap.objs.size := fun b hb => by
  obtain ⟨o, e, _⟩ := T.obj _ _ st2 b hb
  exact Heap.lt_size e
 have hDfp : s2.heap.objs.size ∉ fp := fun z => Nat.lt_irrefl _ (fpLt _ z)
 have exOk : ∀ b ∈ s2.heap.objs.size :: fp, b < h2.objs.size /\ b ≠ X.env.locals /\ b ∉ X.fs /\ (b ∈ X.ex \/ X.s₀.heap.objs.size ≤ b) /\ ∀ x c, X.env.cells.lookup x = some c -> c ≠ b := fun b hb => by
  rcases List.mem_cons.mp hb with rfl | hb
  ·exact ⟨by omega, fD.2.1, fD.2.2.1, fD.2.2.2.1, fD.2.2.2.2.1⟩
  ·have := fpLt b hb
   obtain ⟨_, a1, a2, a3, a4, _⟩ := f2 b hb
   exact ⟨by rw [sz2]; exact Nat.lt_succ_of_lt this, a1, a2, a3, a4⟩
 have I4 : Inv (z3P X scope cl (own ++ caps) h2.objs.size { s2 with heap := h2, toks := s2.toks } H1 (s2.heap.objs.size :: fp) pins) [] (z7b own.length ix σ) H1 { s2 with heap := h1, toks := s2.toks + ([] : List (Str × Value)).length } :=
  y4p S I3 exOk hns1 keep1
 generalize hX : z3P X scope cl (own ++ caps) h2.objs.size { s2 with heap := h2, toks := s2.toks } H1 (s2.heap.objs.size :: fp) pins = Y at I4
 have HG : PG Y tg g := by rw [<- hX]; exact hg _ _ _ _ _
 have HT : PTs Y ifs tc := by rw [<- hX]; exact ht _ _ _ _ _
 have HE : PE Y elt te := by rw [<- hX]; exact he _ _ _ _ _
 have eP : Y.prog = X.prog := by rw [<- hX]; rfl
 have eW : Y.w = X.w := by rw [<- hX]; rfl
 have eK : Y.K = X.K := by rw [<- hX]; rfl
 have eA : Y.A = X.A := by rw [<- hX]; rfl
 have eC : Y.calm = true := by rw [<- hX]; exact hc
 have eE : Y.xe = noE := by rw [<- hX]; rfl
 have eEnv : Y.env = compEnvC scope cl h2.objs.size X.env := by rw [<- hX]; rfl
 have eEx : Y.ex = s2.heap.objs.size :: fp := by rw [<- hX]; rfl
 have ePn : Y.pn = X.pn ++ pins := by rw [<- hX]; rfl
 have eFs : Y.fs = frs X.stack := by rw [<- hX]; rfl
 have eCells : ∀ x c, Y.env.cells.lookup x = some c -> X.env.cells.lookup x = some c := fun x c e => by
  rw [eEnv] at e
  exact S.look x c e
 have eLoc : Y.env.locals = h2.objs.size := by rw [eEnv]; rfl
 have fY : ∀ {pl : List (Addr × Obj)} {H' : Hp} {b : Addr}, b ∈ s2.heap.objs.size :: fp -> H' b = none -> (∀ p ∈ pl, p.1 ≠ b) -> FpOk Y pl H' b := fun {pl H' b} hb hn hpl => by
  obtain ⟨l, a1, a2, a3, a4⟩ := exOk b hb
  refine ⟨hn, by rw [eLoc]; exact Nat.ne_of_lt l, fun z => ?_, .inl (by rw [eEx]; exact hb), fun x c e => a4 x c (eCells x c e), fun p hp => ?_⟩
  ·rw [eFs] at z
   rcases List.mem_cons.mp (I3.stkSub b z) with z | z
   ·exact a1 z
   ·exact a2 z
  ·rcases List.mem_append.mp hp with z | z
   ·rw [ePn] at z
    rcases List.mem_cons.mp hb with rfl | hb
    ·exact fD.2.2.2.2.2 p z
    ·exact (f2 b hb).2.2.2.2.2 p z
   ·exact hpl p z
 let IV : Nat -> Shared -> Prop := fun n s' => ∃ i ys its c H', Inv Y [] (z7b own.length ix σ) H' s' /\ tn i s'.heap /\ (∀ b ∈ fp, H' b = none) /\ H' s2.heap.objs.size = none /\ Vals ys its /\
  s'.heap.get? s2.heap.objs.size = some { cls := .type "list", data := .seq its.toArray c } /\ ys.length ≤ sizeLine /\ W i n ys H'
 have loop : ∀ s3 : Shared, s3 = { s2 with heap := h1, toks := s2.toks + ([] : List (Str × Value)).length } ->
   codeAny (model X.prog X.w) X.A (.compLoop (.ListComp elt [⟨tg, iter, ifs, 0⟩] scope pos) 0 (.ref it) (.ref s2.heap.objs.size) (compEnvC scope cl h2.objs.size X.env)) (RR (.ref s2.heap.objs.size) h2.objs.size) s3 := by
  rintro s3 rfl
  refine y0h IV ?_ m0 ⟨0, [], [], _, H1, I4, T.keep _ _ _ st2 fun b _ o e => keep1 b o (keep2 b o e), fun b hb => (f2 b hb).1, I2.fresh, .nil, keep1 _ _ getD2, Nat.zero_le _, w0⟩
  rintro n s5 ⟨i, ys, its, c, H5, I5, st5, fr5, nD5, v5, gD5, z5, w5⟩
  have I5p : Inv Y [(s2.heap.objs.size, { cls := .type "list", data := .seq its.toArray c })] (z7b own.length ix σ) H5 s5 := I5.pins_of fun p hp => by
   have e : p = (s2.heap.objs.size, { cls := .type "list", data := .seq its.toArray c }) := by simpa using hp
   subst e
   obtain ⟨_, b1, b2, _⟩ := fY (pl := []) (H' := H5) (b := s2.heap.objs.size) List.mem_cons_self nD5 (fun p hp => nomatch hp)
   exact ⟨gD5, nD5, b1, b2, fun v z => by cases z⟩
  have fps : ∀ {H' : Hp}, (∀ b ∈ fp, H' b = none) -> ∀ b ∈ fp, FpOk Y [(s2.heap.objs.size, { cls := .type "list", data := .seq its.toArray c })] H' b := fun hn b hb =>
   fY (List.mem_cons_of_mem _ hb) (hn b hb) fun p hp => by
    have e : p = (s2.heap.objs.size, { cls := .type "list", data := .seq its.toArray c }) := by simpa using hp
    subst e
    exact fun z => hDfp (by have z' : s2.heap.objs.size = b := z; rw [z']; exact hb)
  rcases turn i n ys H5 w5 with ⟨stop, fin⟩ | ⟨go, hlen, N, hN, step⟩
  ·have q := T.done Y eP eW eK eC i _ s5 _ H5 noE I5p (fps fr5) st5 stop
   rw [eA] at q
   refine thn q fun r s6 ⟨hr, I6⟩ => ?_
   subst hr
   have gD6 := (I6.pin (s2.heap.objs.size, { cls := .type "list", data := .seq its.toArray c }) (List.mem_append_right _ (by simp))).1
   have u6 : Un (frs X.stack) (s2.heap.objs.size :: fp) H1 H5 h2 s6.heap := by
    have := I6.base
    rw [eFs, eEx] at this
    rw [<- hX] at this
    exact this
   have os6 : s6.os = s2.os := by
    have := I6.os
    rw [<- hX] at this
    exact this
   have hok6 : HOk X.prog X.w H5 s6.heap := by
    have := I6.hok
    rw [eP, eW] at this
    exact this
   have J6 : Inv X pins σ H5 s6 := I3.call' (s' := s6) os6 u6 hok6 I6.bare fun b hb => by
    obtain ⟨l, a1, a2, a3, a4⟩ := exOk b hb
    refine ⟨a3, a1, a4, ?_⟩
    rcases List.mem_cons.mp hb with rfl | hb
    ·exact fD.2.2.2.2.2
    ·exact (f2 b hb).2.2.2.2.2
   have J7 : Inv X pins σ (upd H5 s2.heap.objs.size (.lst ys)) s6 := J6.track (fDs nD5) ⟨z5, its, c, v5, gD6⟩
   obtain ⟨mC, hC, _⟩ := I6.loc
   rw [eLoc] at hC
   have nC : H5 h2.objs.size = none := by
    have := I6.free
    rw [eLoc] at this
    exact this
   refine hRR _ _ mC H5 ys s6 J7 (I3.fpOk (Nat.le_refl _) ?_) hC nD5 fin
   show upd H5 s2.heap.objs.size (.lst ys) h2.objs.size = none
   rw [z0d (Ne.symm hDC)]
   exact nC
  ·have q := T.item Y eP eW eK eC i _ s5 _ H5 noE I5p (fps fr5) st5 go
   rw [eA] at q
   refine thn q fun r s6 ⟨u, hr, h6⟩ => ?_
   subst hr
   refine thn h6 fun _ s7 ⟨x, H7, I7, r7, y7, st7, fr7⟩ => ?_
   have I7p := I7.pinned (fps fr7) (T.obj _ _ st7)
   have st := og _ _ _ _ (step x H7 y7)
   have q2 := HG _ s7 _ H7 x u _ I7p r7 st
   rw [eE, eP, eW, eA, eEnv] at q2
   refine thn q2 fun _ s8 ⟨σ8, H8, I8, q8, fr8⟩ => ?_
   have q3 := HT _ s8 σ8 H8 _ I8 q8
   rw [eE, eP, eW, eA, eEnv] at q3
   refine thn q3 fun ok s9 ⟨H9, I9, q9⟩ => ?_
   have back : ∀ {H' : Hp} {s' : Shared}, Inv Y ([(s2.heap.objs.size, ({ cls := .type "list", data := .seq its.toArray c } : Obj))] ++ z9y fp s7.heap) σ8 H' s' ->
     Inv Y [] (z7b own.length ix σ) H' s' /\ tn (i + 1) s'.heap /\ (∀ b ∈ fp, H' b = none) /\ H' s2.heap.objs.size = none /\ s'.heap.get? s2.heap.objs.size = some { cls := .type "list", data := .seq its.toArray c } := fun {H' s'} I' => by
    have pD := I'.pin (s2.heap.objs.size, { cls := .type "list", data := .seq its.toArray c }) (List.mem_append_right _ (List.mem_append_left _ (by simp)))
    refine ⟨(I'.pins_of (pins' := []) fun p hp => nomatch hp).weak fr8.1.symm fun j v e => ?_, T.keep _ _ _ st7 fun b hb o e => (I'.pin (b, o) (List.mem_append_right _ (List.mem_append_right _ (z4r hb e)))).1, fun b hb => ?_, pD.2.1, pD.1⟩
    ·by_cases hj : j < own.length
     ·have e' : (List.replicate own.length none ++ ix.map fun i => (σ[i]?).join : St)[j]? = some (some v) := e
      rw [List.getElem?_append_left (by simpa using hj), List.getElem?_replicate, if_pos hj] at e'
      cases e'
     ·rw [fr8.2 j (Nat.le_of_not_lt hj)]
      exact e
    ·obtain ⟨o, e, d⟩ := T.obj _ _ st7 b hb
     exact (I'.pin (b, o) (List.mem_append_right _ (List.mem_append_right _ (z4r hb e)))).2.1
   cases ok with
   | false =>
    obtain ⟨m', hm, w9⟩ := hN _ _ (show N ys H9 from q9)
    obtain ⟨b1, b2, b3, b4, b5⟩ := back I9
    exact ⟨m', hm, i + 1, ys, its, c, H9, b1, b2, b3, b4, v5, b5, z5, w9⟩
   | true =>
    have q9' : te σ8 H9 fun y H4 => N (ys ++ [y]) H4 := q9
    have q4 := HE _ s9 σ8 H9 _ I9 q9'
    rw [eE, eP, eW, eA, eEnv] at q4
    refine thn q4 fun yv s10 ⟨y, H10, I10, r10, n10⟩ => ?_
    obtain ⟨b1, b2, b3, b4, b5⟩ := back I10
    obtain ⟨m', hm, w10⟩ := hN _ _ n10
    have hl := v5.length
    refine call_meets PySem.F.slot_list_append ⟨_, b5, rfl⟩ PySem.F.entry_list_append (PySem.F.args_list_append_2 _ _) (PySem.list_append s2.heap.objs.size its.toArray c yv (by rw [List.size_toArray]; omega)) ⟨b5, ?_⟩
    have q5 := PySem.IsL.update b5 (fun a => a.push yv)
    have e5 : its.toArray.push yv = (its ++ [yv]).toArray := by simp
    rw [e5] at q5
    have k5 : ∀ b o, b ≠ s2.heap.objs.size -> s10.heap.get? b = some o -> (s10.heap.update s2.heap.objs.size (Obj.mapSeq fun a => a.push yv)).get? b = some o := fun b o hb e =>
     (Heap.get?_update_other s10.heap (Obj.mapSeq fun a => a.push yv) (Ne.symm hb)).trans e
    obtain ⟨f0, f1, f2', f3, f4, f5⟩ := fY (pl := []) (H' := H10) (b := s2.heap.objs.size) List.mem_cons_self b4 (fun p hp => nomatch hp)
    have b1' := b1.turned (t' := s10.toks) k5 f0 f1 f3 f4 f5
    refine ⟨m', hm, i + 1, ys ++ [y], its ++ [yv], _, H10, b1', T.keep _ _ _ b2 fun b hb o e => k5 b o (fun z => hDfp (by rw [<- z]; exact hb)) e, b3, b4, v5.append (.cons r10 .nil), q5, ?_, w10⟩
    ·rw [List.length_append, List.length_singleton]
     omega
 exact codeAny_compStart_list (loop _ rfl) (T.self _ 0 _ _ _ (T.keep _ _ _ st2 fun b _ o e => keep1 b o (keep2 b o e)) (loop _ rfl))
def y6i (own : Nat) (ix : List Nat) (wi : TI) (g : TG) (tc : TT) (te : TE) : TE := fun σ H Q => y6J own ix wi g tc te σ H fun ys H' => ∀ D, H' D = none -> Q (.ref D) (upd H' D (.lst ys))
theorem z1c {elt iter tg : Expr} {ifs : List Expr} {pos : Pos} {wi : TI} {g : TG} {tc : TT} {te : TE} (own caps : List Str) (ix : List Nat)
  (hc : X.calm = true) (S : CompScope X scope cl own caps ix) (hi : PI X tg iter wi)
  (hg : ∀ C s3 H1 ex pn, PG (z3P X scope cl (own ++ caps) C s3 H1 ex pn) tg g) (og : OwnG own.length g) (mg : z9I g)
  (ht : ∀ C s3 H1 ex pn, PTs (z3P X scope cl (own ++ caps) C s3 H1 ex pn) ifs tc)
  (he : ∀ C s3 H1 ex pn, PE (z3P X scope cl (own ++ caps) C s3 H1 ex pn) elt te)
  (hs : ∀ x, foldedSetIterable iter X.env x = pure x := by intro _; rfl) :
  PE X (.ListComp elt [⟨tg, iter, ifs, 0⟩] scope pos) (y6i own.length ix wi g tc te) := by
 intro pins s σ H Q I h
 rw [eval_ListComp]
 refine wpAny_comprehension_free (use := none) rfl hs (z6n S.clos) S.kind S.names (thn (hi pins s σ H _ I h) fun v s1 h1 => thn h1 fun itv s2 h2 => ?_)
 refine z8a (RR := fun acc C => compPost (model X.prog X.w) X.A X.xe none (EP X pins σ Q) acc C) S hc hg og mg ht he h2 ?_
 intro D C m H' ys s' I' fC hn hD fin
 refine ⟨m, hn, fun h' sb => ?_⟩
 obtain ⟨f0, f1, f2, f3, f4, f5⟩ := fC
 have I2 := I'.turned (t' := s'.toks) (h' := h') (it := C) (fun b o hb e => (sb.2 b hb).trans e) f0 f1 f3 f4 f5
 exact ⟨.ref D, _, I2, rfl, fin D hD⟩
theorem z76 {elt iter tg : Expr} {ifs : List Expr} {pos pos' spos : Pos} {x : Str} {i : Nat} {wi : TI} {g : TG} {tc : TT} {te : TE} (own caps : List Str) (ix : List Nat)
  (hc : X.calm = true) (hN : X.N.Nodup) (hx : X.N[i]? = some x) (hl : Loc X.env.scope x) (S : CompScope X scope cl own caps ix) (hi : PI X tg iter wi)
  (hg : ∀ C s3 H1 ex pn, PG (z3P X scope cl (own ++ caps) C s3 H1 ex pn) tg g) (og : OwnG own.length g) (mg : z9I g)
  (ht : ∀ C s3 H1 ex pn, PTs (z3P X scope cl (own ++ caps) C s3 H1 ex pn) ifs tc)
  (he : ∀ C s3 H1 ex pn, PE (z3P X scope cl (own ++ caps) C s3 H1 ex pn) elt te)
  (hsw : swapsWith (.ListComp elt [⟨tg, iter, ifs, 0⟩] scope pos) (some (.Name x pos')) spos.line X.env = pure true := by rfl)
  (hf : X.fn x = true \/ X.env.scope.names.lookup x = some .local := by first | exact .inl rfl | exact .inr rfl | assumption)
  (hs : ∀ x, foldedSetIterable iter X.env x = pure x := by intro _; rfl) :
  PS X (.Assign [.Name x pos'] (.ListComp elt [⟨tg, iter, ifs, 0⟩] scope pos) spos) (tAsg (y6i own.length ix wi g tc te) (y3n i)) := by
 intro pins s σ H D I h
 rw [exec_Assign_Name_used _ _ _ _ hsw]
 refine wpAny_bind (wpAny_standAt (wpAny_bind ?_))
 show wpAny _ X.A (do let _ <- comprehension (.ListComp elt [⟨tg, iter, ifs, 0⟩] scope pos) scope X.env _ (newList []) false (eval iter X.env) (some (assign (.Name x pos') X.env))) _ _ s
 refine wpAny_bind (wpAny_mono (wpAny_comprehension_free (use := some (assign (.Name x pos') X.env)) (Q := fun _ s' => SP X pins D .next s') rfl hs (z6n S.clos) S.kind S.names
  (thn (hi pins s σ H _ I h) fun v s1 h1 => thn h1 fun itv s2 h2 => ?_)) (fun _ s' hq => wpAny_pure (wpAny_pure hq)) fun _ _ e => e)
 refine z8a (RR := fun acc C => compPost (model X.prog X.w) X.A X.xe (some (assign (.Name x pos') X.env)) (fun _ s' => SP X pins D .next s') acc C) S hc hg og mg ht he h2 ?_
 intro D' C m H' ys s' I' fC hn hD fin
 obtain ⟨f0, f1, f2, f3, f4, f5⟩ := fC
 obtain ⟨oC, es, ep, hoC, hdC, hr⟩ := id hn
 show wpAny _ X.A (assign (.Name x pos') X.env (.ref D')) _ _ _
 have Ip : Inv X (pins ++ [(C, oC)]) σ (upd H' D' (.lst ys)) s' := I'.pins_of fun p hp => (List.mem_append.mp hp).elim (fun z => I'.pin p (List.mem_append_right _ z)) fun z => by
  have e : p = (C, oC) := by simpa using z
  subst e
  exact ⟨hoC, f0, f1, f2, fun v z => by rw [hdC] at z; cases z⟩
 refine thn (z0m hN hx hl hf (pins ++ [(C, oC)]) s' σ _ (.ref D') (.ref D') _ Ip rfl (fin D' hD)) fun _ s3 ⟨σ3, H3, I3, q3⟩ => ?_
 have pC := I3.pin (C, oC) (List.mem_append_right _ (List.mem_append_right _ (by simp)))
 refine ⟨m, ⟨oC, es, ep, pC.1, hdC, hr⟩, fun h' sb => ?_⟩
 have I4 : Inv X pins σ3 H3 s3 := I3.unpinned
 exact ⟨σ3, H3, I4.turned (t' := s3.toks) (h' := h') (it := C) (fun b o hb e => (sb.2 b hb).trans e) pC.2.1 f1 f3 f4 f5, q3⟩
end
section
variable {prog : Program} {w : World} {A : Around} {R : Result -> Shared -> Prop} {I : Addr} {fp wr : List Addr} {n : Nat} {P : Nat -> Value -> Prop} {St : Nat -> Heap -> Prop}
theorem y4u (W : Walks prog w A.in1 I fp wr n P St) (bt : Nat -> Nat -> Bool) (hcmp : CmpOf prog w A.in1 .Gt P bt) (S : Addr) (hSf : S ∉ fp) (kw : List (Str × Value)) :
  ∀ (k j : Nat) (s : Shared) (vb : Value) (c : Nat), n - (j + 1) = k -> j + 1 ≤ n -> St (j + 1) s.heap -> P (argBest bt j) vb ->
  s.heap.get? S = some { cls := .type "list", dict := none, data := .seq #[vb, vb] c, slots := #[] } ->
  (∀ v h' tk, P (argBest bt (n - 1)) v -> (∀ b o, b ∉ wr -> b ≠ S -> s.heap.get? b = some o -> h'.get? b = some o) -> R (.ok (.ret v)) { s with heap := h', toks := tk }) ->
  codeAny (model prog w) A (.builtin "max.loop" ⟨[.ref I, .none, .ref S], kw⟩) R s := by
 have hSw : S ∉ wr := fun h => hSf (W.sub _ h)
 have hname : (toString "max" ++ toString ".loop" : String) = "max.loop" := by decide
 intro k
 induction k with
 | zero =>
  intro j s vb c hk hj hst hPb hS hR
  have hin : j + 1 = n := by omega
  refine codeAny_builtin PySem.F.entry_max_loop ?_
  rw [Around.under_plainId PySem.F.plain_max_loop _]
  show wpAny _ A.in1 (seqItems? (.ref S) >>= _) _ _ s
  refine wpAny_bind (wpAny_seqItems hS rfl ?_)
  show wpAny _ A.in1 (tryCatch (pyNext (.ref I)) _ >>= _) _ _ s
  refine wpAny_bind (wpAny_tryCatch (W.done s _ _ (hin ▸ hst) fun h' tk hk' => ?_))
  have hS' := hk' S _ hSw hS
  show wpAny _ A.in1 (updateSeq S (fun _ => #[]) >>= _) _ _ _
  refine wpAny_bind ?_
  refine wpAny_updateSeq hS' rfl (wpAny_bind (wpAny_letGo (wpAny_pure ?_)))
  refine hR vb _ tk (by rw [<- hin]; exact hPb) fun b o hbw hbS e => (Heap.get?_update_other _ _ (Ne.symm hbS)).trans (hk' b o hbw e)
 | succ k ih =>
  intro j s vb c hk hj hst hPb hS hR
  have hlt : j + 1 < n := by omega
  refine codeAny_builtin PySem.F.entry_max_loop ?_
  rw [Around.under_plainId PySem.F.plain_max_loop _]
  show wpAny _ A.in1 (seqItems? (.ref S) >>= _) _ _ s
  refine wpAny_bind (wpAny_seqItems hS rfl ?_)
  show wpAny _ A.in1 (tryCatch (pyNext (.ref I)) _ >>= _) _ _ s
  refine wpAny_bind (wpAny_tryCatch (W.item (j + 1) s _ _ hlt hst fun v h' tk hP hst' hk' => ?_))
  have hS' := hk' S _ hSw hS
  show wpAny _ A.in1 (tryCatch (holding [v, v] (richCompare .Gt v vb >>= _)) _ >>= _) _ _ _
  refine wpAny_bind (wpAny_tryCatch (wpAny_holding (wpAny_bind (hcmp (j + 1) (argBest bt j) v vb _ _ _ hP hPb ?_))))
  refine wpAny_bind (wpAny_holding (wpAny_truthy_bool ?_))
  refine wpAny_bind (wpAny_letGo (wpAny_pure ?_))
  cases hb : bt (j + 1) (argBest bt j) with
  | true =>
   simp only [if_true]
   refine wpAny_bind ?_
   refine wpAny_updateSeq hS' rfl (wpAny_bind (wpAny_letGo ?_))
   rw [hname]
   refine wpAny_pure ⟨plainId_quiet PySem.F.plain_max_loop _, ih (j + 1) _ v _ (by omega) hlt (W.frame _ _ _ hst' fun b hbf o e => ?_) (by simp only [argBest, hb, if_true]; exact hP) (Heap.get?_update_self _ hS' rfl)
    fun v' h'' tk'' hP' hk'' => ?_⟩
   ·exact (Heap.get?_update_other _ _ (fun h : S = b => hSf (by rw [h]; exact hbf))).trans e
   ·exact hR v' h'' tk'' hP' fun b o hbw hbS e => hk'' b o hbw hbS ((Heap.get?_update_other _ _ (Ne.symm hbS)).trans (hk' b o hbw e))
  | false =>
   simp only [Bool.false_eq_true, if_false]
   refine wpAny_bind (wpAny_letGo ?_)
   rw [hname]
   refine wpAny_pure ⟨plainId_quiet PySem.F.plain_max_loop _, ih (j + 1) _ vb c (by omega) hlt hst' (by simp only [argBest, hb, Bool.false_eq_true, if_false]; exact hPb) hS' fun v' h'' tk'' hP' hk'' => ?_⟩
   exact hR v' h'' tk'' hP' fun b o hbw hbS e => hk'' b o hbw hbS (hk' b o hbw e)
theorem y2D (W : Walks prog w A.in1 I fp wr n P St) (bt : Nat -> Nat -> Bool) (hcmp : CmpOf prog w A.in1 .Gt P bt) (S : Addr) (hSf : S ∉ fp) (kw : List (Str × Value)) (hn : 0 < n) {s : Shared} {c : Nat} (hst : St 0 s.heap)
  (hS : s.heap.get? S = some { cls := .type "list", dict := none, data := .seq #[] c, slots := #[] })
  (hR : ∀ v h' tk, P (argBest bt (n - 1)) v -> (∀ b o, b ∉ wr -> b ≠ S -> s.heap.get? b = some o -> h'.get? b = some o) -> R (.ok (.ret v)) { s with heap := h', toks := tk }) :
  codeAny (model prog w) A (.builtin "max.loop" ⟨[.ref I, .none, .ref S], kw⟩) R s := by
 have hSw : S ∉ wr := fun h => hSf (W.sub _ h)
 have hname : (toString "max" ++ toString ".loop" : String) = "max.loop" := by decide
 refine codeAny_builtin PySem.F.entry_max_loop ?_
 rw [Around.under_plainId PySem.F.plain_max_loop _]
 show wpAny _ A.in1 (seqItems? (.ref S) >>= _) _ _ s
 refine wpAny_bind (wpAny_seqItems hS rfl ?_)
 show wpAny _ A.in1 (tryCatch (pyNext (.ref I)) _ >>= _) _ _ s
 refine wpAny_bind (wpAny_tryCatch (W.item 0 s _ _ hn hst fun v h' tk hP hst' hk' => ?_))
 have hS' := hk' S _ hSw hS
 show wpAny _ A.in1 (updateSeq S (fun _ => #[v, v]) >>= _) _ _ _
 refine wpAny_bind ?_
 refine wpAny_updateSeq hS' rfl ?_
 rw [hname]
 refine wpAny_pure ⟨plainId_quiet PySem.F.plain_max_loop _, y4u W bt hcmp S hSf kw _ 0 _ v _ rfl hn (W.frame _ _ _ hst' fun b hbf o e => ?_) hP (Heap.get?_update_self _ hS' rfl) fun v' h'' tk'' hP' hk'' => ?_⟩
 ·exact (Heap.get?_update_other _ _ (fun h : S = b => hSf (by rw [h]; exact hbf))).trans e
 ·exact hR v' h'' tk'' hP' fun b o hbw hbS e => hk'' b o hbw hbS ((Heap.get?_update_other _ _ (Ne.symm hbS)).trans (hk' b o hbw e))
theorem y4G (W : Walks prog w A.in1 I fp wr n P St) (S : Addr) (hSf : S ∉ fp) (kn : Str) (d : Value) (hn : n = 0) {s : Shared} {c : Nat} (hst : St 0 s.heap)
  (hS : s.heap.get? S = some { cls := .type "list", dict := none, data := .seq #[] c, slots := #[] })
  (hR : ∀ h' tk, (∀ b o, b ∉ wr -> s.heap.get? b = some o -> h'.get? b = some o) -> R (.ok (.ret d)) { s with heap := h', toks := tk }) :
  codeAny (model prog w) A (.builtin "max.loop" ⟨[.ref I, .none, .ref S], [(kn, d)]⟩) R s := by
 refine codeAny_builtin PySem.F.entry_max_loop ?_
 rw [Around.under_plainId PySem.F.plain_max_loop _]
 show wpAny _ A.in1 (seqItems? (.ref S) >>= _) _ _ s
 refine wpAny_bind (wpAny_seqItems hS rfl ?_)
 show wpAny _ A.in1 (tryCatch (pyNext (.ref I)) _ >>= _) _ _ s
 refine wpAny_bind (wpAny_tryCatch (W.done s _ _ (hn ▸ hst) fun h' tk hk' => ?_))
 exact wpAny_bind (wpAny_rule (wpAny_pure (hR h' tk hk')))
theorem z6C (a v : Value) : argsOk "max" ⟨[a], [(Str.ofString "default", v)]⟩ := by unfold argsOk; kernel_rfl
theorem y3S {x d : Value} {s : Shared} {E : Value -> Shared -> Prop} {Q : Value -> Shared -> Prop}
  (h : wpAny (model prog w) A.in1 (pyIter x) (fun it s2 => ∃ I fp wr n P St bt, it = .ref I /\ Walks prog w A.in1 I fp wr n P St /\ St 0 s2.heap /\ (∀ b ∈ fp, b < s2.heap.objs.size) /\ CmpOf prog w A.in1 .Gt P bt /\
   (n = 0 -> ∀ h' tk, (∀ b o, b ∉ wr -> s2.heap.get? b = some o -> h'.get? b = some o) -> Q d { s2 with heap := h', toks := tk }) /\
   (0 < n -> ∀ v h' tk, P (argBest bt (n - 1)) v -> (∀ b o, b ∉ wr -> s2.heap.get? b = some o -> h'.get? b = some o) -> Q v { s2 with heap := h', toks := tk })) E s) :
  wpAny (model prog w) A (call (.builtin "max") [x] [(Str.ofString "default", d)]) Q E s := by
 have hname : (toString "max" ++ toString ".loop" : String) = "max.loop" := by decide
 refine kmk_tree PySem.F.kind_max PySem.F.plain_max PySem.F.entry_max (z6C _ _) ?_
 show wpAny _ A.in1 (Builtin.Builtins.bindParams "max" ["key", "default"] 0 ⟨[], [(Str.ofString "default", d)]⟩ >>= _) _ _ s
 refine wpAny_bind (wpAny_of_eq (show Builtin.Builtins.bindParams "max" ["key", "default"] 0 ⟨[], [(Str.ofString "default", d)]⟩ = pure [none, some d] from by kernel_rfl) ?_)
 refine wpAny_bind (wpAny_pure ?_)
 refine wpAny_bind (wpAny_mono h (fun it s2 h2 => ?_) fun _ _ e => e)
 obtain ⟨I, fp, wr, n, P, St, bt, rfl, W, hst, hfp, hcmp, hQ0, hQ⟩ := h2
 refine wpAny_bind (wpAny_newObj_type ?_)
 have hSf : s2.heap.objs.size ∉ fp := fun hm => Nat.lt_irrefl _ (hfp _ hm)
 rw [hname]
 refine wpAny_pure ⟨plainId_quiet PySem.F.plain_max_loop _, ?_⟩
 by_cases hn : n = 0
 ·exact y4G W s2.heap.objs.size hSf _ d hn (W.frame _ _ _ hst fun b _ o e => Heap.get?_push_of_some _ e) (Heap.get?_push_size _ rfl) fun h' tk hk => hQ0 hn h' tk fun b o hbw e => hk b o hbw (Heap.get?_push_of_some _ e)
 ·exact y2D W bt hcmp s2.heap.objs.size hSf _ (Nat.pos_of_ne_zero hn) (W.frame _ _ _ hst fun b _ o e => Heap.get?_push_of_some _ e) (Heap.get?_push_size _ rfl) fun v h' tk hP hk =>
   hQ (Nat.pos_of_ne_zero hn) v h' tk hP fun b o hbw e => hk b o hbw (Nat.ne_of_lt (Heap.lt_size e)) (Heap.get?_push_of_some _ e)
theorem y4j (W : Walks prog w A.in1 I fp wr n P St) (bt : Nat -> Nat -> Bool) (hcmp : CmpOf prog w A.in1 .Lt P bt) (S : Addr) (hSf : S ∉ fp) (kw : List (Str × Value)) :
  ∀ (k j : Nat) (s : Shared) (vb : Value) (c : Nat), n - (j + 1) = k -> j + 1 ≤ n -> St (j + 1) s.heap -> P (argBest bt j) vb ->
  s.heap.get? S = some { cls := .type "list", dict := none, data := .seq #[vb, vb] c, slots := #[] } ->
  (∀ v h' tk, P (argBest bt (n - 1)) v -> (∀ b o, b ∉ wr -> b ≠ S -> s.heap.get? b = some o -> h'.get? b = some o) -> R (.ok (.ret v)) { s with heap := h', toks := tk }) ->
  codeAny (model prog w) A (.builtin "min.loop" ⟨[.ref I, .none, .ref S], kw⟩) R s := by
 have hSw : S ∉ wr := fun h => hSf (W.sub _ h)
 have hname : (toString "min" ++ toString ".loop" : String) = "min.loop" := by decide
 intro k
 induction k with
 | zero =>
  intro j s vb c hk hj hst hPb hS hR
  have hin : j + 1 = n := by omega
  refine codeAny_builtin PySem.F.entry_min_loop ?_
  rw [Around.under_plainId PySem.F.plain_min_loop _]
  show wpAny _ A.in1 (seqItems? (.ref S) >>= _) _ _ s
  refine wpAny_bind (wpAny_seqItems hS rfl ?_)
  show wpAny _ A.in1 (tryCatch (pyNext (.ref I)) _ >>= _) _ _ s
  refine wpAny_bind (wpAny_tryCatch (W.done s _ _ (hin ▸ hst) fun h' tk hk' => ?_))
  have hS' := hk' S _ hSw hS
  show wpAny _ A.in1 (updateSeq S (fun _ => #[]) >>= _) _ _ _
  refine wpAny_bind ?_
  refine wpAny_updateSeq hS' rfl (wpAny_bind (wpAny_letGo (wpAny_pure ?_)))
  refine hR vb _ tk (by rw [<- hin]; exact hPb) fun b o hbw hbS e => (Heap.get?_update_other _ _ (Ne.symm hbS)).trans (hk' b o hbw e)
 | succ k ih =>
  intro j s vb c hk hj hst hPb hS hR
  have hlt : j + 1 < n := by omega
  refine codeAny_builtin PySem.F.entry_min_loop ?_
  rw [Around.under_plainId PySem.F.plain_min_loop _]
  show wpAny _ A.in1 (seqItems? (.ref S) >>= _) _ _ s
  refine wpAny_bind (wpAny_seqItems hS rfl ?_)
  show wpAny _ A.in1 (tryCatch (pyNext (.ref I)) _ >>= _) _ _ s
  refine wpAny_bind (wpAny_tryCatch (W.item (j + 1) s _ _ hlt hst fun v h' tk hP hst' hk' => ?_))
  have hS' := hk' S _ hSw hS
  show wpAny _ A.in1 (tryCatch (holding [v, v] (richCompare .Lt v vb >>= _)) _ >>= _) _ _ _
  refine wpAny_bind (wpAny_tryCatch (wpAny_holding (wpAny_bind (hcmp (j + 1) (argBest bt j) v vb _ _ _ hP hPb ?_))))
  refine wpAny_bind (wpAny_holding (wpAny_truthy_bool ?_))
  refine wpAny_bind (wpAny_letGo (wpAny_pure ?_))
  cases hb : bt (j + 1) (argBest bt j) with
  | true =>
   simp only [if_true]
   refine wpAny_bind ?_
   refine wpAny_updateSeq hS' rfl (wpAny_bind (wpAny_letGo ?_))
   rw [hname]
   refine wpAny_pure ⟨plainId_quiet PySem.F.plain_min_loop _, ih (j + 1) _ v _ (by omega) hlt (W.frame _ _ _ hst' fun b hbf o e => ?_) (by simp only [argBest, hb, if_true]; exact hP) (Heap.get?_update_self _ hS' rfl)
    fun v' h'' tk'' hP' hk'' => ?_⟩
   ·exact (Heap.get?_update_other _ _ (fun h : S = b => hSf (by rw [h]; exact hbf))).trans e
   ·exact hR v' h'' tk'' hP' fun b o hbw hbS e => hk'' b o hbw hbS ((Heap.get?_update_other _ _ (Ne.symm hbS)).trans (hk' b o hbw e))
  | false =>
   simp only [Bool.false_eq_true, if_false]
   refine wpAny_bind (wpAny_letGo ?_)
   rw [hname]
   refine wpAny_pure ⟨plainId_quiet PySem.F.plain_min_loop _, ih (j + 1) _ vb c (by omega) hlt hst' (by simp only [argBest, hb, Bool.false_eq_true, if_false]; exact hPb) hS' fun v' h'' tk'' hP' hk'' => ?_⟩
   exact hR v' h'' tk'' hP' fun b o hbw hbS e => hk'' b o hbw hbS (hk' b o hbw e)
theorem y2G (W : Walks prog w A.in1 I fp wr n P St) (bt : Nat -> Nat -> Bool) (hcmp : CmpOf prog w A.in1 .Lt P bt) (S : Addr) (hSf : S ∉ fp) (kw : List (Str × Value)) (hn : 0 < n) {s : Shared} {c : Nat} (hst : St 0 s.heap)
  (hS : s.heap.get? S = some { cls := .type "list", dict := none, data := .seq #[] c, slots := #[] })
  (hR : ∀ v h' tk, P (argBest bt (n - 1)) v -> (∀ b o, b ∉ wr -> b ≠ S -> s.heap.get? b = some o -> h'.get? b = some o) -> R (.ok (.ret v)) { s with heap := h', toks := tk }) :
  codeAny (model prog w) A (.builtin "min.loop" ⟨[.ref I, .none, .ref S], kw⟩) R s := by
 have hSw : S ∉ wr := fun h => hSf (W.sub _ h)
 have hname : (toString "min" ++ toString ".loop" : String) = "min.loop" := by decide
 refine codeAny_builtin PySem.F.entry_min_loop ?_
 rw [Around.under_plainId PySem.F.plain_min_loop _]
 show wpAny _ A.in1 (seqItems? (.ref S) >>= _) _ _ s
 refine wpAny_bind (wpAny_seqItems hS rfl ?_)
 show wpAny _ A.in1 (tryCatch (pyNext (.ref I)) _ >>= _) _ _ s
 refine wpAny_bind (wpAny_tryCatch (W.item 0 s _ _ hn hst fun v h' tk hP hst' hk' => ?_))
 have hS' := hk' S _ hSw hS
 show wpAny _ A.in1 (updateSeq S (fun _ => #[v, v]) >>= _) _ _ _
 refine wpAny_bind ?_
 refine wpAny_updateSeq hS' rfl ?_
 rw [hname]
 refine wpAny_pure ⟨plainId_quiet PySem.F.plain_min_loop _, y4j W bt hcmp S hSf kw _ 0 _ v _ rfl hn (W.frame _ _ _ hst' fun b hbf o e => ?_) hP (Heap.get?_update_self _ hS' rfl) fun v' h'' tk'' hP' hk'' => ?_⟩
 ·exact (Heap.get?_update_other _ _ (fun h : S = b => hSf (by rw [h]; exact hbf))).trans e
 ·exact hR v' h'' tk'' hP' fun b o hbw hbS e => hk'' b o hbw hbS ((Heap.get?_update_other _ _ (Ne.symm hbS)).trans (hk' b o hbw e))
theorem y4L (W : Walks prog w A.in1 I fp wr n P St) (S : Addr) (hSf : S ∉ fp) (kn : Str) (d : Value) (hn : n = 0) {s : Shared} {c : Nat} (hst : St 0 s.heap)
  (hS : s.heap.get? S = some { cls := .type "list", dict := none, data := .seq #[] c, slots := #[] })
  (hR : ∀ h' tk, (∀ b o, b ∉ wr -> s.heap.get? b = some o -> h'.get? b = some o) -> R (.ok (.ret d)) { s with heap := h', toks := tk }) :
  codeAny (model prog w) A (.builtin "min.loop" ⟨[.ref I, .none, .ref S], [(kn, d)]⟩) R s := by
 refine codeAny_builtin PySem.F.entry_min_loop ?_
 rw [Around.under_plainId PySem.F.plain_min_loop _]
 show wpAny _ A.in1 (seqItems? (.ref S) >>= _) _ _ s
 refine wpAny_bind (wpAny_seqItems hS rfl ?_)
 show wpAny _ A.in1 (tryCatch (pyNext (.ref I)) _ >>= _) _ _ s
 refine wpAny_bind (wpAny_tryCatch (W.done s _ _ (hn ▸ hst) fun h' tk hk' => ?_))
 exact wpAny_bind (wpAny_rule (wpAny_pure (hR h' tk hk')))
theorem z6D (a v : Value) : argsOk "min" ⟨[a], [(Str.ofString "default", v)]⟩ := by unfold argsOk; kernel_rfl
theorem y4C {x d : Value} {s : Shared} {E : Value -> Shared -> Prop} {Q : Value -> Shared -> Prop}
  (h : wpAny (model prog w) A.in1 (pyIter x) (fun it s2 => ∃ I fp wr n P St bt, it = .ref I /\ Walks prog w A.in1 I fp wr n P St /\ St 0 s2.heap /\ (∀ b ∈ fp, b < s2.heap.objs.size) /\ CmpOf prog w A.in1 .Lt P bt /\
   (n = 0 -> ∀ h' tk, (∀ b o, b ∉ wr -> s2.heap.get? b = some o -> h'.get? b = some o) -> Q d { s2 with heap := h', toks := tk }) /\
   (0 < n -> ∀ v h' tk, P (argBest bt (n - 1)) v -> (∀ b o, b ∉ wr -> s2.heap.get? b = some o -> h'.get? b = some o) -> Q v { s2 with heap := h', toks := tk })) E s) :
  wpAny (model prog w) A (call (.builtin "min") [x] [(Str.ofString "default", d)]) Q E s := by
 have hname : (toString "min" ++ toString ".loop" : String) = "min.loop" := by decide
 refine kmk_tree PySem.F.kind_min PySem.F.plain_min PySem.F.entry_min (z6D _ _) ?_
 show wpAny _ A.in1 (Builtin.Builtins.bindParams "min" ["key", "default"] 0 ⟨[], [(Str.ofString "default", d)]⟩ >>= _) _ _ s
 refine wpAny_bind (wpAny_of_eq (show Builtin.Builtins.bindParams "min" ["key", "default"] 0 ⟨[], [(Str.ofString "default", d)]⟩ = pure [none, some d] from by kernel_rfl) ?_)
 refine wpAny_bind (wpAny_pure ?_)
 refine wpAny_bind (wpAny_mono h (fun it s2 h2 => ?_) fun _ _ e => e)
 obtain ⟨I, fp, wr, n, P, St, bt, rfl, W, hst, hfp, hcmp, hQ0, hQ⟩ := h2
 refine wpAny_bind (wpAny_newObj_type ?_)
 have hSf : s2.heap.objs.size ∉ fp := fun hm => Nat.lt_irrefl _ (hfp _ hm)
 rw [hname]
 refine wpAny_pure ⟨plainId_quiet PySem.F.plain_min_loop _, ?_⟩
 by_cases hn : n = 0
 ·exact y4L W s2.heap.objs.size hSf _ d hn (W.frame _ _ _ hst fun b _ o e => Heap.get?_push_of_some _ e) (Heap.get?_push_size _ rfl) fun h' tk hk => hQ0 hn h' tk fun b o hbw e => hk b o hbw (Heap.get?_push_of_some _ e)
 ·exact y2G W bt hcmp s2.heap.objs.size hSf _ (Nat.pos_of_ne_zero hn) (W.frame _ _ _ hst fun b _ o e => Heap.get?_push_of_some _ e) (Heap.get?_push_size _ rfl) fun v h' tk hP hk =>
   hQ (Nat.pos_of_ne_zero hn) v h' tk hP fun b o hbw e => hk b o hbw (Nat.ne_of_lt (Heap.lt_size e)) (Heap.get?_push_of_some _ e)
end
theorem z8T (f : Nat -> Int) : ∀ k, argBest (fun i j => decide (f i > f j)) k ≤ k /\ ∀ i, i ≤ k -> f i ≤ f (argBest (fun i j => decide (f i > f j)) k)
 | 0 => ⟨Nat.le_refl _, fun i hi => by rw [Nat.le_zero.mp hi]; exact Int.le_refl _⟩
 | k + 1 => by
  obtain ⟨h1, h2⟩ := z8T f k
  unfold argBest
  by_cases c : f (k + 1) > f (argBest (fun i j => decide (f i > f j)) k)
  ·rw [if_pos (decide_eq_true c)]
   refine ⟨Nat.le_refl _, fun i hi => ?_⟩
   by_cases e : i = k + 1
   ·rw [e]; exact Int.le_refl _
   ·have := h2 i (by omega)
    omega
  ·rw [if_neg (by rw [decide_eq_false c]; exact Bool.false_ne_true)]
   refine ⟨by omega, fun i hi => ?_⟩
   by_cases e : i = k + 1
   ·rw [e]; omega
   ·exact h2 i (by omega)
theorem z8t (f : Nat -> Int) : ∀ k, argBest (fun i j => decide (f i < f j)) k ≤ k /\ ∀ i, i ≤ k -> f (argBest (fun i j => decide (f i < f j)) k) ≤ f i
 | 0 => ⟨Nat.le_refl _, fun i hi => by rw [Nat.le_zero.mp hi]; exact Int.le_refl _⟩
 | k + 1 => by
  obtain ⟨h1, h2⟩ := z8t f k
  unfold argBest
  by_cases c : f (k + 1) < f (argBest (fun i j => decide (f i < f j)) k)
  ·rw [if_pos (decide_eq_true c)]
   refine ⟨Nat.le_refl _, fun i hi => ?_⟩
   by_cases e : i = k + 1
   ·rw [e]; exact Int.le_refl _
   ·have := h2 i (by omega)
    omega
  ·rw [if_neg (by rw [decide_eq_false c]; exact Bool.false_ne_true)]
   refine ⟨by omega, fun i hi => ?_⟩
   by_cases e : i = k + 1
   ·rw [e]; omega
   ·exact h2 i (by omega)
section
variable {X : Cx}
def SqI (K : PySem.W.Frag) (H : Hp) (p : Addr) (ns : List Int) : Prop := SqL K H p (ns.map V.int) \/ SqT K H p (ns.map V.int)
theorem z2R {ns : List Int} {its : List Value} (r : Vals (ns.map V.int) its) : ∀ (i : Nat) (v : Value), its.toArray[i]? = some v -> ∃ t, v = .int (ns.getD i 0) t := by
 intro i v e
 have e' : its[i]? = some v := by simpa using e
 have hi : i < its.length := (List.getElem?_eq_some_iff.mp e').1
 have hl := r.length
 rw [List.length_map] at hl
 obtain ⟨u, hu, ru⟩ := r.get (i := i) (x := .int (ns.getD i 0)) (by
  rw [List.getElem?_map, List.getD_eq_getElem?_getD]
  have : ns[i]? = some ns[i] := List.getElem?_eq_getElem (by omega)
  rw [this]; rfl)
 rw [e'] at hu
 cases hu
 exact ru
theorem z5F {pins : List (Addr × Obj)} {σ : St} {H : Hp} {s : Shared} {p : Addr} {ns : List Int} {A : Around} {E : Value -> Shared -> Prop} {Q : Value -> Shared -> Prop} (I : Inv X pins σ H s) (hh : A.handled = none) (hq : SqI X.K H p ns)
  (h : ∀ (it : Addr) (fp : List Addr) (St : Nat -> Heap -> Prop) (its : List Value) (s2 : Shared), Vals (ns.map V.int) its -> Walks X.prog X.w A it fp [it] its.toArray.size (fun i v => its.toArray[i]? = some v) St -> St 0 s2.heap -> (∀ b ∈ fp, b < s2.heap.objs.size) ->
   (∀ h' tk, (∀ b o, b ∉ [it] -> s2.heap.get? b = some o -> h'.get? b = some o) -> Inv X pins σ H { s2 with heap := h', toks := tk }) -> Q (.ref it) s2) :
  wpAny (model X.prog X.w) A (pyIter (.ref p)) Q E s := by
 have back : ∀ (o : Obj) (h' : Heap) (tk : Nat), (∀ b ob, b ∉ [s.heap.objs.size] -> (s.heap.push o).get? b = some ob -> h'.get? b = some ob) -> Inv X pins σ H { s with heap := h', toks := tk } := fun o h' tk k =>
  I.kept fun b ob e => k b ob (fun z => absurd (Heap.lt_size e) (by rw [List.mem_singleton.mp z]; exact Nat.lt_irrefl _)) (Heap.get?_push_of_some _ e)
 rcases hq with hq | hq
 ·obtain ⟨its, r, pl, hz⟩ := I.list hq
  have hlt : p < s.heap.objs.size := by obtain ⟨_, e, _⟩ := pl.isList; exact Heap.lt_size e
  refine wpAny_pyIter_list pl.isList ?_
  refine h s.heap.objs.size [s.heap.objs.size, p] _ its _ r (Walks.list hh s.heap.objs.size p (Nat.ne_of_lt hlt) its.toArray) ⟨⟨_, Heap.get?_push_size _ rfl, rfl, rfl⟩, pl.isList.push _⟩ (fun b hb => ?_) fun h' tk k => back _ h' tk k
  show b < (s.heap.push _).objs.size
  rw [Heap.size_push]
  rcases List.mem_cons.mp hb with rfl | hb
  ·exact Nat.lt_succ_self _
  ·rw [List.mem_singleton.mp hb]; exact Nat.lt_succ_of_lt hlt
 ·obtain ⟨its, r, pl, hz⟩ := I.tuple hq
  have hlt : p < s.heap.objs.size := by obtain ⟨_, e, _⟩ := pl; exact Heap.lt_size e
  refine wpAny_pyIter_tuple (show s.heap.IsTuple p its.toArray from pl) ?_
  refine h s.heap.objs.size [s.heap.objs.size, p] _ its _ r (Walks.tuple hh s.heap.objs.size p (Nat.ne_of_lt hlt) its.toArray) ⟨⟨_, Heap.get?_push_size _ rfl, rfl, rfl⟩, ?_⟩ (fun b hb => ?_) fun h' tk k => back _ h' tk k
  ·obtain ⟨o, e, c⟩ := (show s.heap.IsTuple p its.toArray from pl)
   exact ⟨o, Heap.get?_push_of_some _ e, c⟩
  ·show b < (s.heap.push _).objs.size
   rw [Heap.size_push]
   rcases List.mem_cons.mp hb with rfl | hb
   ·exact Nat.lt_succ_self _
   ·rw [List.mem_singleton.mp hb]; exact Nat.lt_succ_of_lt hlt
def y50 (K : PySem.W.Frag) (le : Int -> Int -> Prop) (ta td : TA) : TE := fun σ H Q => ta σ H fun xs H1 => td σ H1 fun ds H2 => ∃ p ns d, xs = [.ref p] /\ ds = [d] /\ SqI K H2 p ns /\ (ns = [] -> Q d H2) /\ ∀ m, m ∈ ns -> (∀ y ∈ ns, le y m) -> Q (.int m) H2
theorem z6E {ns : List Int} {i : Nat} (h : i < ns.length) : ns.getD i 0 ∈ ns := by
 rw [List.getD_eq_getElem?_getD, List.getElem?_eq_getElem h]
 exact List.getElem_mem h
theorem z6O {ns : List Int} {y : Int} (h : y ∈ ns) : ∃ i, i < ns.length /\ ns.getD i 0 = y := by
 obtain ⟨i, hi, e⟩ := List.mem_iff_getElem.mp h
 refine ⟨i, hi, ?_⟩
 rw [List.getD_eq_getElem?_getD, List.getElem?_eq_getElem hi]
 exact e
theorem y1O {e : Expr} {p pos kp : Pos} {dx : Expr} {ta td : TA} (hc : X.calm = true) (hg : Gl X "max") (hm : X.mg "max" = none) (ha : PA X [e] ta) (hd : PK X [⟨some (Str.ofString "default"), dx, kp⟩] td)
  (he : backTo pos (starEach [e] X.env) = (false, eval e X.env) :: backTo pos (starEach [] X.env) := by rfl)
  (hplain : (backTo pos (starEach [e] X.env)).any (·.1) = false := by rfl)
  (hall : (backToKw pos (keywordEach [⟨some (Str.ofString "default"), dx, kp⟩] X.env)).all (·.1.isSome) = true := by rfl)
  (hkw : (backToKw pos (keywordEach [⟨some (Str.ofString "default"), dx, kp⟩] X.env)).any (·.1.isNone) = false := by rfl) :
  PE X (.Call (.Name "max" p) [e] [⟨some (Str.ofString "default"), dx, kp⟩] pos) (y50 X.K (fun y m => y ≤ m) ta td) := by
 intro pins s σ H Q I h
 refine wpAny_Call_Name_kw (z4K I hg hm PyProof.Rows.boot_max ?_)
 refine PyProof.Rows.callWith_kw (thn (ha pos pins s σ H _ I h) fun us s1 ⟨vs, H1, I1, r, q⟩ => ?_) he hplain hall hkw
 refine thn (hd pos pins s1 σ H1 _ I1 q) fun ws s2 ⟨zs, H2, I2, rz, q2⟩ => ?_
 obtain ⟨a, ns, d, e1, e2, hq, q0, q1⟩ := q2
 subst e1 e2
 obtain ⟨u, rfl, ru⟩ := z4h r
 cases ru
 obtain ⟨dv, rfl, rd⟩ := z4h rz
 show wpAny _ X.A (call (.builtin "max") [.ref a] [(Str.ofString "default", dv)]) _ _ _
 refine y3S (z5F (A := X.A.in1) I2 (I2.ok.hd hc) hq fun it fp St its s3 rv W st hfp back => ?_)
 have hl := rv.length
 rw [List.length_map] at hl
 refine ⟨it, fp, [it], _, _, St, _, rfl, W, st, hfp, CmpOf.ints_gt (fun i => ns.getD i 0) (z2R rv), fun hn h' tk k => ?_, fun hn v h' tk hv k => ?_⟩
 ·rw [List.size_toArray] at hn
  exact ⟨d, H2, back h' tk k, rd, q0 (List.eq_nil_of_length_eq_zero (by omega))⟩
 ·rw [List.size_toArray] at hn hv
  obtain ⟨t, rfl⟩ := z2R rv _ _ hv
  obtain ⟨b1, b2⟩ := z8T (fun i => ns.getD i 0) (its.length - 1)
  refine ⟨.int _, H2, back h' tk k, ⟨t, rfl⟩, q1 _ (z6E (by omega)) fun y hy => ?_⟩
  obtain ⟨i, hi, rfl⟩ := z6O hy
  exact b2 i (by omega)
theorem y1Z {e : Expr} {p pos kp : Pos} {dx : Expr} {ta td : TA} (hc : X.calm = true) (hg : Gl X "min") (hm : X.mg "min" = none) (ha : PA X [e] ta) (hd : PK X [⟨some (Str.ofString "default"), dx, kp⟩] td)
  (he : backTo pos (starEach [e] X.env) = (false, eval e X.env) :: backTo pos (starEach [] X.env) := by rfl)
  (hplain : (backTo pos (starEach [e] X.env)).any (·.1) = false := by rfl)
  (hall : (backToKw pos (keywordEach [⟨some (Str.ofString "default"), dx, kp⟩] X.env)).all (·.1.isSome) = true := by rfl)
  (hkw : (backToKw pos (keywordEach [⟨some (Str.ofString "default"), dx, kp⟩] X.env)).any (·.1.isNone) = false := by rfl) :
  PE X (.Call (.Name "min" p) [e] [⟨some (Str.ofString "default"), dx, kp⟩] pos) (y50 X.K (fun y m => m ≤ y) ta td) := by
 intro pins s σ H Q I h
 refine wpAny_Call_Name_kw (z4K I hg hm PyProof.Rows.boot_min ?_)
 refine PyProof.Rows.callWith_kw (thn (ha pos pins s σ H _ I h) fun us s1 ⟨vs, H1, I1, r, q⟩ => ?_) he hplain hall hkw
 refine thn (hd pos pins s1 σ H1 _ I1 q) fun ws s2 ⟨zs, H2, I2, rz, q2⟩ => ?_
 obtain ⟨a, ns, d, e1, e2, hq, q0, q1⟩ := q2
 subst e1 e2
 obtain ⟨u, rfl, ru⟩ := z4h r
 cases ru
 obtain ⟨dv, rfl, rd⟩ := z4h rz
 show wpAny _ X.A (call (.builtin "min") [.ref a] [(Str.ofString "default", dv)]) _ _ _
 refine y4C (z5F (A := X.A.in1) I2 (I2.ok.hd hc) hq fun it fp St its s3 rv W st hfp back => ?_)
 have hl := rv.length
 rw [List.length_map] at hl
 refine ⟨it, fp, [it], _, _, St, _, rfl, W, st, hfp, CmpOf.ints_lt (fun i => ns.getD i 0) (z2R rv), fun hn h' tk k => ?_, fun hn v h' tk hv k => ?_⟩
 ·rw [List.size_toArray] at hn
  exact ⟨d, H2, back h' tk k, rd, q0 (List.eq_nil_of_length_eq_zero (by omega))⟩
 ·rw [List.size_toArray] at hn hv
  obtain ⟨t, rfl⟩ := z2R rv _ _ hv
  obtain ⟨b1, b2⟩ := z8t (fun i => ns.getD i 0) (its.length - 1)
  refine ⟨.int _, H2, back h' tk k, ⟨t, rfl⟩, q1 _ (z6E (by omega)) fun y hy => ?_⟩
  obtain ⟨i, hi, rfl⟩ := z6O hy
  exact b2 i (by omega)
def rngV (i : Int) (n : Nat) : List V := (List.range n).map fun (k : Nat) => V.int (i + (k : Int))
theorem z99 : z3o X (.type "range") (fun xs H Q => ∃ i j, xs = [.int i, .int j] /\ ∀ p, H p = none -> Q (.ref p) (upd H p (.rng i j))) := by
 intro pins s σ H xs us Q I r h
 obtain ⟨i, j, rfl, q⟩ := h
 obtain ⟨u, w', rfl, ⟨t, rfl⟩, ⟨t', rfl⟩⟩ := y4c r
 refine call_range_2 ?_
 refine ⟨.ref s.heap.objs.size, _, I.laid (fun b o e => Heap.get?_push_of_some _ e) (Nat.le_refl _) (show z1f X.prog X.w _ _ _ (.rng i j) from ⟨t, t', s.toks, Heap.get?_push_size _ rfl⟩), rfl, q _ (I.hok.fresh (Nat.le_refl _))⟩
theorem z8M {prog : Program} {w : World} {A : Around} {E : Value -> Shared -> Prop} {s : Shared} {Q : List Value -> Shared -> Prop} {r : Addr} {a b c : Int} {t u v : Tok} {n : Nat} (hh : A.handled = none) (hr : IsRange s.heap r a b c t u v) (hsmall : Builtin.Range.small a b c = true)
  (hn : Builtin.Range.rangeSize a b c = n) (hlen : n ≤ 2 ^ 24)
  (hQ : ∀ h' tk acc, (∀ b o, s.heap.get? b = some o -> h'.get? b = some o) -> ItemsOf (fun i v => ∃ t, v = .int (a + i * c) t) acc n -> Q acc.toList { s with heap := h', toks := tk }) :
  wpAny (model prog w) A (collect (.ref r)) Q E s := by
 unfold collect
 refine wpAny_bind (wpAny_runValue (codeAny_builtin PySem.F.entry_proto_collect ?_))
 rw [Around.under_plainId PySem.F.plain_proto_collect _]
 show wpAny _ A.in1 (newList [] >>= fun l => again (.builtin "list.__iadd__" ⟨[l, .ref r], []⟩)) _ _ s
 refine wpAny_bind (wpAny_newObj_type ?_)
 refine wpAny_pure ⟨plainId_quiet PySem.F.plain_list_iadd _, codeAny_builtin PySem.F.entry_list_iadd ?_⟩
 rw [Around.under_plainId PySem.F.plain_list_iadd _]
 show wpAny _ A.in1 (Builtin.List.listExtendWith (.ref s.heap.objs.size) (.ref r) (.ref s.heap.objs.size)) _ _ _
 have hS : (s.heap.push { cls := .type "list", data := .seq ([] : List Value).toArray }).get? s.heap.objs.size = some { cls := .type "list", data := .seq #[] 0 } := Heap.get?_push_size _ rfl
 have fin : ∀ (r' : Result) (s' : Shared), (∃ h' tk acc c', r' = .ok (.ret (.ref s.heap.objs.size)) /\ s' = { s with heap := h', toks := tk } /\ (∀ b o, s.heap.get? b = some o -> h'.get? b = some o) /\
   h'.get? s.heap.objs.size = some { cls := .type "list", dict := none, data := .seq acc c', slots := #[] } /\ ItemsOf (fun i v => ∃ t, v = .int (a + i * c) t) acc n) ->
   match r' with
   | Except.ok (Flow.ret v) => wpAny (model prog w) A (match v with
     | Value.ref a => do
      match (<- load a).data with
       | Data.seq xs _ => pure xs.toList
       | _ => unsupported "internal:collect"
     | _ => unsupported "internal:collect") Q E s'
   | Except.ok _ => False
   | Except.error e => E e s' := by
  rintro r' s' ⟨h', tk, acc, c', rfl, rfl, hk, hS', hacc⟩
  show wpAny _ A (load s.heap.objs.size >>= _) _ _ _
  refine wpAny_bind (wpAny_load hS' ?_)
  exact wpAny_pure (hQ h' tk acc hk hacc)
 refine wpAny_mono (wpAny_extend_range (A := A) (R := fun r' s' => ∃ h' tk acc c', r' = .ok (.ret (.ref s.heap.objs.size)) /\ s' = { s with heap := h', toks := tk } /\ (∀ b o, s.heap.get? b = some o -> h'.get? b = some o) /\
   h'.get? s.heap.objs.size = some { cls := .type "list", dict := none, data := .seq acc c', slots := #[] } /\ ItemsOf (fun i v => ∃ t, v = .int (a + i * c) t) acc n)
  (s := { s with heap := s.heap.push { cls := .type "list", data := .seq ([] : List Value).toArray } }) hh (Heap.get?_push_of_some _ hr) hsmall hn hlen s.heap.objs.size _ 0 hS
  fun h' tk acc c' hk hS' hacc => ⟨h', tk, acc, c', rfl, rfl, fun b o e => hk b o (Nat.ne_of_lt (Heap.lt_size e)) (Heap.get?_push_of_some _ e), hS', hacc⟩) (fun f s' h => ?_) (fun e s' h => ?_)
 ·cases f with
  | done f => exact fin _ _ h
  | again c' => exact ⟨h.1, codeAny_mono h.2 fun r' s'' hr' => fin _ _ hr'⟩
 ·obtain ⟨_, _, _, _, e, _⟩ := h
  cases e
theorem z7u (r : Addr) (a b : Int) (t u v : Tok) (n : Nat) (hsmall : Builtin.Range.small a b 1 = true) (hn : Builtin.Range.rangeSize a b 1 = n) (hlen : n ≤ 2 ^ 24) :
  Meets (Builtin.«tuple.__new__» ⟨[.type "tuple", .ref r], []⟩)
   (fun A R s => A.handled = none /\ IsRange s.heap r a b 1 t u v /\ ∀ (h' : Heap) (tk : Nat) (acc : Array Value), (∀ b o, s.heap.get? b = some o -> h'.get? b = some o) -> ItemsOf (fun i v => ∃ t, v = .int (a + i * 1) t) acc n ->
    R (.ok (.ret (.ref h'.objs.size))) { s with heap := h'.push { cls := .type "tuple", data := .seq acc }, toks := tk }) :=
 .of_wp fun prog w A R s h => by
  obtain ⟨hp, g, d, tk0, os⟩ := s
  obtain ⟨hh, hr, h⟩ := h
  have hsub := sub_tuple_self
  have hinit := init_tuple_lookup
  have hmh := madeHere_tuple
  have hT : Shared.TypeIs ⟨hp, g, d, tk0, os⟩ (.ref r) "range" := ⟨_, hr, rfl⟩
  have hh1 : A.in1.handled = none := hh
  wp_walk using wpAny_typeOf hT, z8M hh1 hr hsmall hn hlen
  intro h' tk acc hk hacc
  show wpAny _ _ (Builtin.Tuple.tupleExact acc.toList.toArray >>= fun v => ret v) _ _ _
  unfold Builtin.Tuple.tupleExact
  refine wpAny_bind (wpAny_newObj_type ?_ (show acc.toList.toArray.size ≤ sizeLine by simp only [Array.toArray_toList]; rw [hacc.1, sizeLine_eq]; omega))
  refine wpAny_pure ⟨_, rfl, ?_⟩
  have e : acc.toList.toArray = acc := by simp
  rw [e]
  exact h h' tk acc hk hacc
theorem y0v {a : Int} {acc : Array Value} {n : Nat} (h : ItemsOf (fun i v => ∃ t, v = Value.int (a + (i : Int) * 1) t) acc n) : Vals (rngV a n) acc.toList := by
 have go : ∀ (l : List Value) (k : Nat), (∀ (j : Nat) (v : Value), l[j]? = some v -> ∃ t, v = Value.int (a + ((k + j : Nat) : Int)) t) -> Vals ((List.range' k l.length).map fun (j : Nat) => V.int (a + (j : Int))) l := by
  intro l
  induction l with
  | nil => intro k _; exact .nil
  | cons x r ih =>
   intro k hx
   rw [List.length_cons, List.range'_succ, List.map_cons]
   refine .cons ?_ (ih (k + 1) fun j v e => ?_)
   ·obtain ⟨t, e⟩ := hx 0 x rfl
    exact ⟨t, e⟩
   ·obtain ⟨t, e'⟩ := hx (j + 1) v (by simpa using e)
    refine ⟨t, e'.trans ?_⟩
    congr 1
    omega
 have q := go acc.toList 0 fun j v e => by
  obtain ⟨t, e'⟩ := h.2 j v (by simpa using e)
  exact ⟨t, by rw [e']; congr 1; first | done | omega⟩
 unfold rngV
 rw [List.range_eq_range']
 have hn : acc.toList.length = n := by simpa using h.1
 rw [hn] at q
 exact q
theorem z7T (hc : X.calm = true) : z3o X (.type "tuple") (fun xs H Q => ∃ p i j, xs = [.ref p] /\ H p = some (.rng i j) /\ (-(2 ^ 62) ≤ i /\ i < 2 ^ 62 /\ -(2 ^ 62) ≤ j /\ j < 2 ^ 62) /\ (j - i).toNat ≤ 2 ^ 24 /\
  ∀ l, H l = none -> Q (.ref l) (upd H l (.tup (rngV i (j - i).toNat)))) := by
 intro pins s σ H xs us Q I r h
 obtain ⟨p, i, j, rfl, hp, ⟨h1, h2, h3, h4⟩, hlen, q⟩ := h
 obtain ⟨u, rfl, rx⟩ := z4h r
 cases rx
 obtain ⟨t, u', v, e⟩ := (show z1f X.prog X.w H s.heap p (.rng i j) from I.hok p _ hp)
 have hn : Builtin.Range.rangeSize i j 1 = (((j - i).toNat : Nat) : Int) := by rw [rangeSize_one]; split <;> omega
 refine callType_new PySem.F.called_tuple (by decide) (PySem.F.typeCall_tuple_1 _) (PySem.F.newCall_tuple_1 _) (fun obj => PySem.F.args_object_init_2 obj _) PySem.F.entry_tuple_new
  (z7u p i j t u' v _ (small_one h1 h2 h3 h4) hn hlen) ⟨I.ok.hd hc, e, fun h' tk acc hk hacc => ⟨⟨_, Heap.get?_push_size _ rfl, rfl⟩, ?_⟩⟩
 have I1 : Inv X pins σ H { s with heap := h', toks := tk } := I.kept hk
 have z : (rngV i (j - i).toNat).length ≤ sizeLine := by unfold rngV; rw [List.length_map, List.length_range, sizeLine_eq]; omega
 have I2 : Inv X pins σ (upd H h'.objs.size (.tup (rngV i (j - i).toNat))) { s with heap := h'.push { cls := .type "tuple", data := .seq acc }, toks := tk } :=
  I1.laid (t' := tk) (fun b o e => Heap.get?_push_of_some _ e) (Nat.le_refl _) (show z1f X.prog X.w _ _ _ (.tup _) from ⟨z, acc.toList, y0v hacc, by simpa using PlT.new h' acc⟩)
 exact ⟨.ref h'.objs.size, _, I2, rfl, q _ (I1.hok.fresh (Nat.le_refl _))⟩
theorem Vals.ins {x : V} {u : Value} (r : RelV x u) {xs : List V} {us : List Value} (h : Vals xs us) (k : Nat) : Vals (xs.take k ++ x :: xs.drop k) (us.take k ++ u :: us.drop k) :=
 (h.take k).append (.cons r (h.drop k))
def y6f : V -> List V -> Hp -> VK -> Prop := fun x vs H Q => ∃ l xs i y, x = .ref l /\ vs = [.int i, y] /\ H l = some (.lst xs) /\ 0 ≤ i /\ i ≤ xs.length /\ xs.length < sizeLine /\ Q .non (upd H l (.lst (xs.take i.toNat ++ y :: xs.drop i.toNat)))
theorem z9c : MtM X "list.insert" y6f := by
 intro pins s σ H x vs v us Q I rx rv h
 obtain ⟨l, xs, i, y, rfl, rfl, hH, h0, h1, hz, q⟩ := h
 cases rx
 obtain ⟨u, w', rfl, ⟨t, rfl⟩, ry⟩ := rv.two
 obtain ⟨z, its, n, r, hl, e⟩ := I.lstM hH
 have hn := z6r
 have hs : sizeLine = 16777216 := sizeLine_eq
 have fit : ¬ (!Builtin.List.listFitsIndex i) = true := by
  rw [fitsIndex_both (by omega) (by omega)]
  decide
 refine call_meets PySem.F.slot_list_insert ⟨_, e, rfl⟩ PySem.F.entry_list_insert (PySem.F.args_list_insert_3 _ _ _) (AutoSeq1.list_insert_list_int_val_1 l its.toArray n i t w' fit (by rw [List.size_toArray]; omega)) ⟨e, ?_⟩
 refine ⟨.non, _, I.lset (its' := its.take i.toNat ++ w' :: its.drop i.toNat) hH e ?_ (Vals.ins ry r i.toNat) ?_, rfl, q⟩
 ·have e1 : (if i < 0 then (i + (its.toArray.size : Int)).toNat else min i.toNat its.toArray.size) = i.toNat := by
   rw [if_neg (by omega), List.size_toArray, Nat.min_eq_left (by omega)]
  show ((its.toArray.extract 0 (if i < 0 then (i + (its.toArray.size : Int)).toNat else min i.toNat its.toArray.size)).push w' ++ its.toArray.extract (if i < 0 then (i + (its.toArray.size : Int)).toNat else min i.toNat its.toArray.size)) = _
  rw [e1]
  apply Array.toList_inj.mp
  simp
  rw [List.take_of_length_le (by rw [List.length_drop]; omega)]
 ·rw [List.length_append, List.length_cons, List.length_take, List.length_drop]
  omega
def Itd (hi : Int) (n : Nat) : It := ⟨fun i _ => i < n, fun i H x H' => H' = H /\ x = .int (hi - i), fun i _ => n ≤ i⟩
theorem y1R {P : Program} {w : World} {K : PySem.W.Frag} {tg : Expr} (it : Addr) (hi : Int) (n : Nat) : Turn P w K tg (Itd hi n) [it] it (fun i h => IsRangeIter h it (hi + (i : Nat) * (-1)) ((n : Int) - (i : Nat)) (-1)) where
 mem := by simp
 obj := fun i h st b hb => by
  have e : b = it := by simpa using hb
  subst e
  exact ⟨_, st, fun v z => by
   have z' : Data.fields _ = Data.cell v := z
   cases z'⟩
 keep := fun i h h' st k => k it (by simp) _ st
 item := by
  intro X hP hw hK hc i pins s σ H E I hf st hg
  subst hP hw hK
  obtain ⟨f0, f1, f2, f3, f4, f5⟩ := hf it (by simp)
  have W := Walks.range (prog := X.prog) (w := X.w) (I.ok.hd hc) it hi (-1) n
  refine W.item i s _ _ hg st fun v h' tk hv st' kk => ?_
  obtain ⟨t, rfl⟩ := hv
  have I1 : Inv X pins σ H { s with heap := h', toks := tk } := I.turned (fun b o hb e => kk b o (by simpa using hb) e) f0 f1 f3 f4 f5
  refine ⟨_, rfl, y3u (s := { s with heap := h', toks := tk }) (n := "range_iterator") st' rfl rfl (by decide) ⟨.int (hi - i), H, I1, ⟨t, ?_⟩, ⟨rfl, rfl⟩, st', fun b hb => (hf b hb).1⟩⟩
  congr 1
  omega
 done := by
  intro X hP hw hK hc i pins s σ H E I hf st hg
  subst hP hw hK
  obtain ⟨f0, f1, f2, f3, f4, f5⟩ := hf it (by simp)
  exact wpAny_pyNext_range_end (I.ok.hd hc) st (by have : n ≤ i := hg; omega) fun h' eb => ⟨rfl, I.turned (t' := s.toks) (fun b o hb e => eb b o hb e) f0 f1 f3 f4 f5⟩
 self := fun _ _ _ _ _ st h => wpAny_pyIter_rangeiter st h
theorem z4H (a b : Int) : Builtin.Range.rangeSize a b (-1) = (((a - b).toNat : Nat) : Int) := by
 unfold Builtin.Range.rangeSize
 rw [if_neg (by decide)]
 by_cases h : a > b
 ·rw [if_pos h]
  have e : (a - b - 1) / (- -1) = a - b - 1 := by
   show (a - b - 1) / 1 = _
   exact Int.ediv_one _
  rw [e]
  omega
 ·rw [if_neg h]
  omega
theorem y1i {a b : Int} (ha : -(2 ^ 62) ≤ a) (ha' : a < 2 ^ 62) (hb : -(2 ^ 62) ≤ b) (hb' : b < 2 ^ 62) : Builtin.Range.small a b (-1) = true := by
 unfold Builtin.Range.small
 rw [z4H]
 simp only [Builtin.Range.rangeFitsLong, Bool.and_eq_true, Bool.or_eq_true, decide_eq_true_eq, beq_iff_eq]
 refine ⟨?_, ?_⟩ <;> first | omega | (split <;> omega) | (simp <;> omega)
end
section
variable {X : Cx} {tg : Expr}
def iRngD (ta : TA) : TI := fun σ H R => ta σ H fun vs H1 => ∃ i j : Int, vs = [.int i, .int j, .int (-1)] /\ (-(2 ^ 62) ≤ i /\ i < 2 ^ 62 /\ -(2 ^ 62) ≤ j /\ j < 2 ^ 62) /\ R (Itd i (i - j).toNat) H1
theorem y1V {a b c : Expr} {ta : TA} {p pos : Pos} (hg : Gl X "range") (hm : X.mg "range" = none) (ha : PA X [a, b, c] ta)
  (hs : starEach [a, b, c] X.env = [(false, eval a X.env), (false, eval b X.env), (false, eval c X.env)] := by rfl) (hs2 : starEach [b, c] X.env = [(false, eval b X.env), (false, eval c X.env)] := by rfl) :
  PI X tg (.Call (.Name "range" p) [a, b, c] [] pos) (iRngD ta) := by
 intro pins s σ H R I h
 refine Call_ (z4K I hg hm boot_range (PyProof.Rows.callWith_type1 (thn (ha pos pins s σ H _ I h) fun us s1 ⟨vs, H1, I1, r1, q1⟩ => ?_) (by rw [hs, hs2]) (by rw [hs2]; rfl)))
 obtain ⟨i, j, e, ⟨q1, q2, q3, q4⟩, q⟩ := q1
 subst e
 cases r1 with
 | cons r rr =>
  cases rr with
  | cons r' rr =>
   cases rr with
   | cons r'' rr =>
    cases rr
    obtain ⟨t, rfl⟩ := r
    obtain ⟨t', rfl⟩ := r'
    obtain ⟨t'', rfl⟩ := r''
    refine call_range_3 (by decide) ?_ (.inl (PyProof.noPylong_small (by decide)))
    refine wpAny_pyIter_range (IsRange.new ..) (y1i q1 q2 q3 q4) ?_
    have I2 : Inv X pins σ H1 { s1 with heap := s1.heap.push { cls := .type "range", data := .fields #[.int i t, .int j t', .int (-1) t''] }, toks := s1.toks } := I1.kept fun b o e => Heap.get?_push_of_some _ e
    refine ⟨(s1.heap.push { cls := .type "range", data := .fields #[.int i t, .int j t', .int (-1) t''] }).objs.size, [(s1.heap.push { cls := .type "range", data := .fields #[.int i t, .int j t', .int (-1) t''] }).objs.size], _, _, H1, rfl,
     I2.kept (t' := s1.toks) fun b o e => Heap.get?_push_of_some _ e, y1R _ i (i - j).toNat, ?_, fun b hb => ?_, q⟩
    ·have e1 : i + ((0 : Nat) : Int) * (-1) = i := by simp
     have e2 : (((i - j).toNat : Nat) : Int) - ((0 : Nat) : Int) = Builtin.Range.rangeSize i j (-1) := by rw [z4H]; omega
     show IsRangeIter _ _ (i + ((0 : Nat) : Int) * (-1)) ((((i - j).toNat : Nat) : Int) - ((0 : Nat) : Int)) (-1)
     rw [e1, e2]
     exact Heap.get?_push_size _ rfl
    ·have e : b = (s1.heap.push { cls := .type "range", data := .fields #[.int i t, .int j t', .int (-1) t''] }).objs.size := by simpa using hb
     subst e
     exact I2.fpOk (Nat.le_refl _) (I2.hok.fresh (Nat.le_refl _))
end
theorem y4e {hi : Int} {n : Nat} {g : TG} {tb : TS} {D : Ends} {σ : St} {H : Hp} (Pv : Nat -> St -> Hp -> Prop) (h0 : Pv 0 σ H)
  (hs : ∀ i σ H, i < n -> Pv i σ H -> g (.int (hi - i)) σ H fun σ2 H2 => tb { D with nx := Pv (i + 1), ct := Pv (i + 1), bk := D.nx } σ2 H2) (hd : ∀ σ H, Pv n σ H -> D.nx σ H) :
  ∃ W : Nat -> Nat -> St -> Hp -> Prop, (∃ m, W 0 m σ H) /\ ∀ i m σ H, W i m σ H ->
   ((Itd hi n).stop i H /\ D.nx σ H) \/ ((Itd hi n).go i H /\ ∃ N : St -> Hp -> Prop, (∀ σ' H', N σ' H' -> ∃ m', m' < m /\ W (i + 1) m' σ' H') /\ ∀ x H', (Itd hi n).yld i H x H' -> g x σ H' fun σ2 H2 => tb { D with nx := N, ct := N, bk := D.nx } σ2 H2) := by
 refine ⟨fun i m σ H => m = n - i /\ i ≤ n /\ Pv i σ H, ⟨n, by simp, Nat.zero_le _, h0⟩, ?_⟩
 rintro i m σ H ⟨rfl, hi', p⟩
 by_cases hlt : i < n
 ·refine .inr ⟨hlt, Pv (i + 1), fun σ' H' p' => ⟨n - (i + 1), by omega, rfl, hlt, p'⟩, fun x H' y => ?_⟩
  obtain ⟨e, y⟩ := y
  subst e y
  exact hs i σ _ hlt p
 ·have e : i = n := by omega
  subst e
  exact .inl ⟨Nat.le_refl _, hd σ H p⟩
abbrev z8I (J : It) (g : TG) (tc : TT) (te : TE) (σ0 : St) (H1 : Hp) (F : List V -> Hp -> Prop) : Prop :=
 ∃ W : Nat -> Nat -> List V -> Hp -> Prop, (∃ m, W 0 m [] H1) /\ ∀ i m ys H, W i m ys H ->
  (J.stop i H /\ F ys H) \/ (J.go i H /\ ys.length < sizeLine /\ ∃ N : List V -> Hp -> Prop, (∀ zs H', N zs H' -> ∃ m', m' < m /\ W (i + 1) m' zs H') /\
   ∀ x H', J.yld i H x H' -> z1g g tc te σ0 x H' ys N)
theorem z3X {K : PySem.W.Frag} {a : Addr} {xs : List V} {g : TG} {tc : TT} {te : TE} {σ0 : St} {H1 : Hp} {F : List V -> Hp -> Prop} (Pv : Nat -> List V -> Hp -> Prop) (h0 : Pv 0 [] H1)
  (hl : ∀ i ys H, i ≤ xs.length -> Pv i ys H -> SqL K H a xs /\ ys.length < sizeLine)
  (hs : ∀ i x ys H, xs[i]? = some x -> Pv i ys H -> z1g g tc te σ0 x H ys (Pv (i + 1))) (hd : ∀ ys H, Pv xs.length ys H -> F ys H) : z8I (Itl K a) g tc te σ0 H1 F := by
 refine ⟨fun i m ys H => m = xs.length - i /\ i ≤ xs.length /\ Pv i ys H, ⟨xs.length, by simp, Nat.zero_le _, h0⟩, ?_⟩
 rintro i m ys H ⟨rfl, hi, p⟩
 obtain ⟨q, z⟩ := hl i ys H hi p
 by_cases hlt : i < xs.length
 ·refine .inr ⟨⟨xs, xs[i], q, by simp [hlt]⟩, z, Pv (i + 1), fun zs H' p' => ⟨xs.length - (i + 1), by omega, rfl, hlt, p'⟩, fun x H' y => ?_⟩
  obtain ⟨e, y⟩ := y
  subst e
  exact hs i x ys _ (y xs q) p
 ·have e : i = xs.length := by omega
  subst e
  exact .inl ⟨⟨xs, q, Nat.le_refl _⟩, hd ys H p⟩
theorem z1z {K : PySem.W.Frag} {a : Addr} {xs : List V} {g : TG} {tc : TT} {te : TE} {σ0 : St} {H1 : Hp} {F : List V -> Hp -> Prop} (Pv : Nat -> List V -> Hp -> Prop) (h0 : Pv 0 [] H1)
  (hl : ∀ i ys H, i ≤ xs.length -> Pv i ys H -> SqT K H a xs /\ ys.length < sizeLine)
  (hs : ∀ i x ys H, xs[i]? = some x -> Pv i ys H -> z1g g tc te σ0 x H ys (Pv (i + 1))) (hd : ∀ ys H, Pv xs.length ys H -> F ys H) : z8I (Itt K a) g tc te σ0 H1 F := by
 refine ⟨fun i m ys H => m = xs.length - i /\ i ≤ xs.length /\ Pv i ys H, ⟨xs.length, by simp, Nat.zero_le _, h0⟩, ?_⟩
 rintro i m ys H ⟨rfl, hi, p⟩
 obtain ⟨q, z⟩ := hl i ys H hi p
 by_cases hlt : i < xs.length
 ·refine .inr ⟨⟨xs, xs[i], q, by simp [hlt]⟩, z, Pv (i + 1), fun zs H' p' => ⟨xs.length - (i + 1), by omega, rfl, hlt, p'⟩, fun x H' y => ?_⟩
  obtain ⟨e, y⟩ := y
  subst e
  exact hs i x ys _ (y xs q) p
 ·have e : i = xs.length := by omega
  subst e
  exact .inl ⟨⟨xs, q, Nat.le_refl _⟩, hd ys H p⟩
theorem y1h {lo : Int} {n : Nat} {g : TG} {tc : TT} {te : TE} {σ0 : St} {H1 : Hp} {F : List V -> Hp -> Prop} (Pv : Nat -> List V -> Hp -> Prop) (h0 : Pv 0 [] H1)
  (hl : ∀ i ys H, i ≤ n -> Pv i ys H -> ys.length < sizeLine)
  (hs : ∀ i ys H, i < n -> Pv i ys H -> z1g g tc te σ0 (.int (lo + i)) H ys (Pv (i + 1))) (hd : ∀ ys H, Pv n ys H -> F ys H) : z8I (Itr lo n) g tc te σ0 H1 F := by
 refine ⟨fun i m ys H => m = n - i /\ i ≤ n /\ Pv i ys H, ⟨n, by simp, Nat.zero_le _, h0⟩, ?_⟩
 rintro i m ys H ⟨rfl, hi, p⟩
 have z := hl i ys H hi p
 by_cases hlt : i < n
 ·refine .inr ⟨hlt, z, Pv (i + 1), fun zs H' p' => ⟨n - (i + 1), by omega, rfl, hlt, p'⟩, fun x H' y => ?_⟩
  obtain ⟨e, y⟩ := y
  subst e y
  exact hs i ys _ hlt p
 ·have e : i = n := by omega
  subst e
  exact .inl ⟨Nat.le_refl _, hd ys H p⟩
def z33 {α : Type} (p : α -> Bool) (f : α -> V) (zs : List α) : List V := (zs.filter p).map f
theorem z60 {α : Type} (p : α -> Bool) (f : α -> V) (zs : List α) (z : α) : z33 p f (zs ++ [z]) = if p z = true then z33 p f zs ++ [f z] else z33 p f zs := by
 unfold z33
 rw [List.filter_append, List.map_append]
 cases h : p z <;> simp [h]
theorem z8H {α : Type} (p : α -> Bool) (f : α -> V) (zs : List α) : (z33 p f zs).length ≤ zs.length := by
 unfold z33
 rw [List.length_map]
 exact List.length_filter_le _ _
theorem z0q {α : Type} {zs : List α} {i : Nat} {z : α} (h : zs[i]? = some z) : zs.take (i + 1) = zs.take i ++ [z] := by
 rw [List.take_add_one, h]
 rfl
theorem y3g {K : PySem.W.Frag} {a : Addr} {ns : List Int} {g : TG} {tc : TT} {te : TE} {σ0 : St} {H1 : Hp} {F : List V -> Hp -> Prop} (p : Int -> Bool) (f : Int -> V) (hq : SqL K H1 a (ns.map V.int)) (hz : ns.length ≤ 1000)
  (hs : ∀ n ys N, n ∈ ns -> N (if p n = true then ys ++ [f n] else ys) H1 -> z1g g tc te σ0 (.int n) H1 ys N) (hd : F (z33 p f ns) H1) : z8I (Itl K a) g tc te σ0 H1 F := by
 refine z3X (xs := ns.map V.int) (fun i ys H => H = H1 /\ ys = z33 p f (ns.take i)) ⟨rfl, rfl⟩ (fun i ys H hi hp => ?_) (fun i x ys H hx hp => ?_) (fun ys H hp => ?_)
 ·obtain ⟨rfl, rfl⟩ := hp
  refine ⟨hq, z0g ?_⟩
  have h1 := z8H p f (ns.take i)
  have h2 := List.length_take_le i ns
  have h3 : (ns.take i).length ≤ ns.length := by rw [List.length_take]; omega
  omega
 ·obtain ⟨rfl, rfl⟩ := hp
  rw [List.getElem?_map] at hx
  cases e : ns[i]? with
  | none => rw [e] at hx; cases hx
  | some n =>
   rw [e] at hx
   cases hx
   refine hs n _ _ (List.mem_of_getElem? e) ⟨rfl, ?_⟩
   rw [z0q e, z60]
 ·obtain ⟨rfl, rfl⟩ := hp
  rw [List.length_map, List.take_length]
  exact hd
theorem z8k {K : PySem.W.Frag} {a : Addr} {ns : List Int} {g : TG} {tc : TT} {te : TE} {σ0 : St} {H1 : Hp} {F : List V -> Hp -> Prop} (p : Int -> Bool) (f : Int -> V) (hq : SqT K H1 a (ns.map V.int)) (hz : ns.length ≤ 1000)
  (hs : ∀ n ys N, n ∈ ns -> N (if p n = true then ys ++ [f n] else ys) H1 -> z1g g tc te σ0 (.int n) H1 ys N) (hd : F (z33 p f ns) H1) : z8I (Itt K a) g tc te σ0 H1 F := by
 refine z1z (xs := ns.map V.int) (fun i ys H => H = H1 /\ ys = z33 p f (ns.take i)) ⟨rfl, rfl⟩ (fun i ys H hi hp => ?_) (fun i x ys H hx hp => ?_) (fun ys H hp => ?_)
 ·obtain ⟨rfl, rfl⟩ := hp
  refine ⟨hq, z0g ?_⟩
  have h1 := z8H p f (ns.take i)
  have h3 : (ns.take i).length ≤ ns.length := by rw [List.length_take]; omega
  omega
 ·obtain ⟨rfl, rfl⟩ := hp
  rw [List.getElem?_map] at hx
  cases e : ns[i]? with
  | none => rw [e] at hx; cases hx
  | some n =>
   rw [e] at hx
   cases hx
   refine hs n _ _ (List.mem_of_getElem? e) ⟨rfl, ?_⟩
   rw [z0q e, z60]
 ·obtain ⟨rfl, rfl⟩ := hp
  rw [List.length_map, List.take_length]
  exact hd
def upI (lo : Int) (n : Nat) : List Int := (List.range n).map fun (k : Nat) => lo + (k : Int)
theorem z6G (lo : Int) (n : Nat) : upI lo (n + 1) = upI lo n ++ [lo + (n : Int)] := by
 unfold upI
 rw [List.range_succ, List.map_append]
 rfl
theorem z0E (lo : Int) (n : Nat) : (upI lo n).length = n := by unfold upI; rw [List.length_map, List.length_range]
theorem z0P {lo : Int} {n : Nat} {x : Int} : x ∈ upI lo n ↔ lo ≤ x /\ x < lo + n := by
 unfold upI
 rw [List.mem_map]
 constructor
 ·rintro ⟨k, hk, rfl⟩
  have := List.mem_range.mp hk
  omega
 ·rintro ⟨h1, h2⟩
  exact ⟨(x - lo).toNat, List.mem_range.mpr (by omega), by omega⟩
theorem z8D {lo : Int} {n : Nat} {g : TG} {tc : TT} {te : TE} {σ0 : St} {H1 : Hp} {F : List V -> Hp -> Prop} (p : Int -> Bool) (f : Int -> V) (hz : n ≤ 1000)
  (hs : ∀ k ys N, lo ≤ k -> k < lo + n -> N (if p k = true then ys ++ [f k] else ys) H1 -> z1g g tc te σ0 (.int k) H1 ys N) (hd : F (z33 p f (upI lo n)) H1) : z8I (Itr lo n) g tc te σ0 H1 F := by
 refine y1h (fun i ys H => H = H1 /\ ys = z33 p f (upI lo i)) ⟨rfl, rfl⟩ (fun i ys H hi hp => ?_) (fun i ys H hx hp => ?_) (fun ys H hp => ?_)
 ·obtain ⟨rfl, rfl⟩ := hp
  have h1 := z8H p f (upI lo i)
  rw [z0E] at h1
  exact z0g (by omega)
 ·obtain ⟨rfl, rfl⟩ := hp
  refine hs _ _ _ (by omega) (by omega) ⟨rfl, ?_⟩
  rw [z6G, z60]
 ·obtain ⟨rfl, rfl⟩ := hp
  exact hd
section
variable {X : Cx}
theorem z1s : z3o X (.builtin "isinstance") (fun xs H Q => ∃ x T t b, xs = [x, .ty T] /\ TyOf X.K H x t /\ PySem.W.kitOne X.K t (.type T) = some b /\ Q (.bl b) H) := by
 intro pins s σ H xs us Q I r h
 obtain ⟨x, T, t, b, rfl, ty, e, q⟩ := h
 obtain ⟨u, w', rfl, rx, ry⟩ := y4c r
 cases (show w' = Value.type T from ry)
 exact y2M I rx ty e fun tk => ⟨.bl b, H, I.tok _, rfl, q⟩
end
def y0s (N : List Str) (kind : Str -> Option NameKind) (rl : List (Str × NameKind)) : List Str -> List Nat -> Bool
 | x :: xs, i :: is => decide (N[i]? = some x) && (decide (kind x = some .cell) || decide (kind x = some .free)) && (decide (rl.lookup x = some .cell) || decide (rl.lookup x = some .free)) && y0s N kind rl xs is
 | _, _ => true
theorem y5h {N : List Str} {kind : Str -> Option NameKind} {rl : List (Str × NameKind)} : ∀ {caps : List Str} {ix : List Nat}, y0s N kind rl caps ix = true -> ∀ (j i : Nat) (x : Str), caps[j]? = some x -> ix[j]? = some i ->
  N[i]? = some x /\ (kind x = some .cell \/ kind x = some .free) /\ (rl.lookup x = some .cell \/ rl.lookup x = some .free)
 | [], _, _, j, i, x, e, _ => by simp at e
 | _ :: _, [], _, j, i, x, _, e => by simp at e
 | y :: ys, k :: ks, h, j, i, x, e1, e2 => by
  unfold y0s at h
  rw [Bool.and_eq_true, Bool.and_eq_true, Bool.and_eq_true, Bool.or_eq_true, Bool.or_eq_true] at h
  obtain ⟨⟨⟨h1, h2⟩, h3⟩, h4⟩ := h
  cases j with
  | zero =>
   simp at e1 e2
   subst e1 e2
   exact ⟨of_decide_eq_true h1, h2.imp of_decide_eq_true of_decide_eq_true, h3.imp of_decide_eq_true of_decide_eq_true⟩
  | succ j => exact y5h h4 j i x (by simpa using e1) (by simpa using e2)
theorem z0w {X : Cx} {scope : Scope} {cl : List (Str × Addr)} {own caps : List Str} {ix : List Nat} (clos : z7l X.env.cells scope.names [] = some cl) (cell : ∀ y ∈ scope.names, y.2 ≠ .cell) (kind : scope.kind = .function)
  (names : ∀ y ∈ scope.names, y.2 = .local -> scope.names.lookup y.1 = some .local) (n : caps.length = ix.length) (cap : y0s X.N X.env.kindOf (relabel scope X.env).names caps ix = true) : CompScope X scope cl own caps ix :=
 ⟨clos, cell, kind, names, n, fun j i x e1 e2 => by
  obtain ⟨a, b, c⟩ := y5h cap j i x e1 e2
  refine ⟨a, fun z => ?_, b.elim (fun q => .inr (.inl q)) (fun q => .inr (.inr q)), c⟩
  rcases b with b | b <;> (rw [b] at z; cases z)⟩
theorem z6Q {X : Cx} {K : PySem.W.Frag} {es : List Expr} {k : Nat} {t : TGs} {n : Nat} {pos : Pos} (hK : X.K = K) (hc : X.calm = true) (h : PGs X es t)
  (hn : (assignEach es X.env).length = n := by rfl) (hst : (assignEach es X.env).findIdx? (·.1) = none := by rfl) : PG X (.Tuple es k pos) (gTup K n t) := by
 subst hK
 exact y4R hc h hn hst
structure Cal (P : Program) (w : World) (K : PySem.W.Frag) (mg : Str -> Option Value) (base : Heap) (k : Nat) (x : Str) (ps : List Str) (sp : Sp) : Prop where
 ex : ∃ (f : Addr) (fd : FuncData), FnOk P w K mg base CX0 k f fd ps sp /\ z1G K fd ps [] /\ PySem.W.keepIn K (.ref f) = true /\ mg x = some (.ref f)
theorem Cal.mk' {P : Program} {w : World} {K : PySem.W.Frag} {mg : Str -> Option Value} {base : Heap} {k : Nat} {x : Str} {ps : List Str} {sp : Sp} {f : Addr} {fd : FuncData} (a : FnOk P w K mg base CX0 k f fd ps sp) (b : z1G K fd ps []) (c : PySem.W.keepIn K (.ref f) = true) (d : mg x = some (.ref f)) :
  Cal P w K mg base k x ps sp := ⟨⟨f, fd, a, b, c, d⟩⟩
theorem z0h {X : Cx} {k : Nat} {x : Str} {ps : List Str} {sp : Sp} {e : Expr} {es : List Expr} {t : TA} {p pos : Pos} (G : Cal X.prog X.w X.K X.mg X.base k x ps sp) (hr : Room k X.A) (hg : Gl X x) (ha : PA X (e :: es) t)
  (hdb : (x == ("__debug__" : Str)) = false := by decide) (he : starEach (e :: es) X.env = (false, eval e X.env) :: starEach es X.env := by rfl) (hpl : (backTo pos (starEach es X.env)).any (·.1) = false := by rfl) :
  PE X (.Call (.Name x p) (e :: es) [] pos) (y5N sp [] E0 t) := by
 obtain ⟨f, fd, a, b, c, d⟩ := G.ex
 exact y2i a hr hg d c b .nil y1x ha hdb he hpl
def cutS (z : Str) (lo hi : Option Int) : Str := ⟨((z.cps.toList.drop (HT.sIx z.length 0 lo)).take (HT.sIx z.length z.length hi - HT.sIx z.length 0 lo)).toArray⟩
theorem z8S {x y : Str} (h : x.cps.toList = y.cps.toList) : x = y := by
 obtain ⟨a⟩ := x
 obtain ⟨b⟩ := y
 exact congrArg Str.mk (Array.toList_inj.mp h)
theorem z1v (z : Str) : z.cps.toList.length = z.length := by simp [Str.length]
theorem y06 (lo hi : Option Int) (n : Nat) : Builtin.Str.strSliceIndices lo hi 1 n = (List.range (HT.sIx n n hi - HT.sIx n 0 lo)).map (fun k => HT.sIx n 0 lo + k) := by
 obtain ⟨h1, h2, h3⟩ := z6p lo hi n
 have e : Builtin.Str.strSliceIndices lo hi 1 n = sliceRange (sliceBounds lo hi none n).1 (sliceBounds lo hi none n).2.1 1 := by
  unfold Builtin.Str.strSliceIndices sliceBounds
  cases lo <;> cases hi <;> rfl
 rw [e, h1, h2, sliceRange_one]
theorem y3R {z : Str} {t : Tok} {l u : Option (Int × Tok)} {Q : Value -> Shared -> Prop} {s : Shared} (hz : z.length ≤ sizeLine) (h : ∀ t' tk, Q (.str (cutS z (l.map (·.1)) (u.map (·.1))) t') { s with toks := tk }) : (sliceMade z t l u none).post Q s := by
 have picked : slicePicked z l u none = (List.range (HT.sIx z.length z.length (u.map (·.1)) - HT.sIx z.length 0 (l.map (·.1)))).map (fun k => HT.sIx z.length 0 (l.map (·.1)) + k) := y06 _ _ _
 have items : (slicePicked z l u none).filterMap (z.cps[·]?) = (cutS z (l.map (·.1)) (u.map (·.1))).cps.toList := by
  rw [picked, pick_run]
  rfl
 have lh := HT.y5e z.length z.length (Nat.le_refl _) (u.map (·.1))
 unfold sliceMade
 by_cases c : (((none : Option (Int × Tok)).map (·.1)).getD 1 == 1 && (slicePicked z l u none).length == z.length) = true
 ·rw [if_pos c]
  rw [Bool.and_eq_true] at c
  have c2 : (slicePicked z l u none).length = z.length := eq_of_beq c.2
  rw [picked, List.length_map, List.length_range] at c2
  have e : cutS z (l.map (·.1)) (u.map (·.1)) = z := by
   apply z8S
   show (z.cps.toList.drop _).take _ = _
   by_cases hz0 : z.length = 0
   ·have : z.cps.toList = [] := List.eq_nil_of_length_eq_zero (by rw [z1v]; exact hz0)
    rw [this]
    simp
   ·have e1 : HT.sIx z.length 0 (l.map (·.1)) = 0 := by omega
    rw [e1, List.drop_zero, List.take_of_length_le]
    rw [z1v]
    omega
  have := h t s.toks
  rw [e] at this
  exact this
 ·rw [if_neg c, items]
  refine ⟨?_, ?_⟩
  ·show (((cutS z (l.map (·.1)) (u.map (·.1))).cps.toList.toArray).size) ≤ sizeLine
   rw [List.size_toArray]
   show ((z.cps.toList.drop _).take _).length ≤ _
   rw [List.length_take, List.length_drop, z1v]
   omega
  ·have := h s.toks (s.toks + 1)
   have e : (⟨(cutS z (l.map (·.1)) (u.map (·.1))).cps.toList.toArray⟩ : Str) = cutS z (l.map (·.1)) (u.map (·.1)) := z8S (by simp)
   rw [e]
   exact this
section
variable {X : Cx}
theorem z6d {v : Value} {o : Option Int} (h : IsPart v o) : ∃ p : Option (Int × Tok), v = partValue p /\ p.map (·.1) = o := by
 cases h with
 | none => exact ⟨none, rfl, rfl⟩
 | int i t => exact ⟨some (i, t), rfl, rfl⟩
def rSlS : V -> Option Int -> Option Int -> Hp -> VK -> Prop := fun x lo hi H Q => ∃ z, x = .str z /\ z.length ≤ sizeLine /\ Q (.str (cutS z lo hi)) H
theorem y5c : SlR X rSlS := by
 intro pins s σ H x v vl vu lo hi sl Q I rx hs pl pu h
 obtain ⟨z, rfl, hz, q⟩ := h
 obtain ⟨t, rfl⟩ := rx
 obtain ⟨l, rfl, rfl⟩ := z6d pl
 obtain ⟨u, rfl, rfl⟩ := z6d pu
 refine ⟨"str", _, slot_str_getitem.lookup, typeIs_str s z t, ?_⟩
 obtain ⟨o, ho, hc, hd⟩ := hs
 refine wpAny_getItem_str_slice (l := l) (u := u) (st := none) ⟨o, ho, hc, hd⟩ rfl (y3R hz fun t' tk => ?_)
 exact ⟨.str _, H, I.tok _, ⟨_, rfl⟩, q⟩
def repS (z : Str) (n : Nat) : Str := ⟨(List.replicate n z.cps.toList).flatten.toArray⟩
theorem y0n (z : Array Nat) : ∀ (n : Nat) (acc : Array Nat), (List.foldl (fun a b => a ++ b) acc (List.replicate n z)).toList = acc.toList ++ (List.replicate n z.toList).flatten
 | 0, acc => by simp
 | n + 1, acc => by
  rw [List.replicate_succ, List.foldl_cons, y0n z n]
  simp [List.replicate_succ]
theorem y1q : OpR X (binaryOp .Mult) (fun x y H Q => ∃ z n, x = .str z /\ y = .int n /\ 1 ≤ n /\ n ≤ 1000 /\ z.length ≤ 1000 /\ Q (.str (repS z n.toNat)) H) := by
 intro pins s σ H x y v u Q I rx ry h
 obtain ⟨z, n, rfl, rfl, h1, h2, hz, q⟩ := h
 obtain ⟨t, rfl⟩ := rx
 obtain ⟨t', rfl⟩ := ry
 have hs : sizeLine = 16777216 := sizeLine_eq
 have hm : z.length * n.toNat ≤ 1000 * 1000 := Nat.mul_le_mul hz (by omega)
 have fin : ∀ t' tk, EP X pins σ Q (.str (repS z n.toNat) t') { s with toks := tk } := fun t' tk => ⟨.str _, H, I.tok _, ⟨_, rfl⟩, q⟩
 refine PySem.P.mul_str ?_ (fun _ _ => ?_) (fun _ _ => ?_) ?_
 ·rw [decide_eq_false (show ¬ n < -(2 ^ 63 : Int) by omega), decide_eq_false (show ¬ n ≥ 2 ^ 63 by omega)]
  rfl
 ·have : (1000 : Int) ≤ (2 ^ 63 - 1) / n := by
   apply Int.le_ediv_of_mul_le (by omega)
   have : 1000 * n ≤ 1000 * 1000 := Int.mul_le_mul_of_nonneg_left h2 (by decide)
   omega
  omega
 ·unfold Builtin.Str.tooLong
  exact decide_eq_false (by omega)
 ·rw [if_neg (by omega)]
  by_cases c : (n == 1 || z.length == 0) = true
  ·rw [if_pos c]
   have e : repS z n.toNat = z := by
    apply z8S
    show ((List.replicate n.toNat z.cps.toList).flatten.toArray).toList = _
    rw [Bool.or_eq_true] at c
    rcases c with c | c
    ·have : n = 1 := eq_of_beq c
     subst this
     simp
    ·have : z.length = 0 := eq_of_beq c
     have : z.cps.toList = [] := List.eq_nil_of_length_eq_zero (by rw [z1v]; exact this)
     rw [this]
     simp
   have := fin t s.toks
   rw [e] at this
   exact this
  ·rw [if_neg c]
   have e : (⟨(List.replicate n.toNat z.cps).foldl (· ++ ·) #[]⟩ : Str) = repS z n.toNat := by
    apply z8S
    show (List.foldl (fun a b => a ++ b) #[] (List.replicate n.toNat z.cps)).toList = ((List.replicate n.toNat z.cps.toList).flatten.toArray).toList
    rw [y0n]
    simp
   refine ⟨?_, ?_⟩
   ·rw [e, <- z1v]
    show ((List.replicate n.toNat z.cps.toList).flatten.toArray).toList.length ≤ sizeLine
    have : ((List.replicate n.toNat z.cps.toList).flatten.toArray).toList.length = n.toNat * z.length := by
     simp [List.length_flatten, List.map_replicate, z1v]
     rfl
    rw [this, Nat.mul_comm]
    omega
   ·rw [e]
    exact fin _ _
end
end L2
namespace L2
open PySem
inductive DV where
 | non | bl (b : Bool) | int (i : Int) | str (x : Str) | tup (l : List DV)
mutual
def Tell (H : Hp) : DV -> V -> Prop
 | .non, x => x = .non
 | .bl b, x => x = .bl b
 | .int i, x => x = .int i
 | .str s, x => x = .str s
 | .tup ds, x => ∃ a xs, x = .ref a /\ H a = some (.tup xs) /\ xs.length ≤ 1000000 /\ z09 H ds xs
def z09 (H : Hp) : List DV -> List V -> Prop
 | [], xs => xs = []
 | d :: ds, xs => ∃ x r, xs = x :: r /\ Tell H d x /\ z09 H ds r
end
mutual
theorem Tell.keep {H H' : Hp} (s : Same H H') : ∀ (d : DV) (x : V), Tell H d x -> Tell H' d x
 | .non, _, h => h
 | .bl _, _, h => h
 | .int _, _, h => h
 | .str _, _, h => h
 | .tup ds, _, h => by
  unfold Tell at h ⊢
  obtain ⟨a, xs, e, h1, h2, h3⟩ := h
  exact ⟨a, xs, e, s _ _ h1, h2, z09.keep s ds xs h3⟩
theorem z09.keep {H H' : Hp} (s : Same H H') : ∀ (ds : List DV) (xs : List V), z09 H ds xs -> z09 H' ds xs
 | [], _, h => h
 | d :: ds, _, h => by
  unfold z09 at h ⊢
  obtain ⟨x, r, e, h1, h2⟩ := h
  exact ⟨x, r, e, Tell.keep s d x h1, z09.keep s ds r h2⟩
end
mutual
theorem Tell.over {H : Hp} {l : Addr} {o o' : HO} (hl : H l = some o) (hn : ∀ xs, o ≠ .tup xs) : ∀ (d : DV) (x : V), Tell H d x -> Tell (upd H l o') d x
 | .non, _, h => h
 | .bl _, _, h => h
 | .int _, _, h => h
 | .str _, _, h => h
 | .tup ds, _, h => by
  unfold Tell at h ⊢
  obtain ⟨a, xs, e, h1, h2, h3⟩ := h
  exact ⟨a, xs, e, by rw [z0d (z4t h1 hl (fun z => hn xs z.symm))]; exact h1, h2, z09.over hl hn ds xs h3⟩
theorem z09.over {H : Hp} {l : Addr} {o o' : HO} (hl : H l = some o) (hn : ∀ xs, o ≠ .tup xs) : ∀ (ds : List DV) (xs : List V), z09 H ds xs -> z09 (upd H l o') ds xs
 | [], _, h => h
 | d :: ds, _, h => by
  unfold z09 at h ⊢
  obtain ⟨x, r, e, h1, h2⟩ := h
  exact ⟨x, r, e, Tell.over hl hn d x h1, z09.over hl hn ds r h2⟩
end
theorem z09.length {H : Hp} : ∀ {ds : List DV} {xs : List V}, z09 H ds xs -> xs.length = ds.length
 | [], _, h => by unfold z09 at h; rw [h]; rfl
 | d :: ds, _, h => by
  unfold z09 at h
  obtain ⟨x, r, rfl, _, h2⟩ := h
  rw [List.length_cons, List.length_cons, z09.length h2]
theorem z09.get {H : Hp} : ∀ {ds : List DV} {xs : List V}, z09 H ds xs -> ∀ (i : Nat) (d : DV), ds[i]? = some d -> ∃ x, xs[i]? = some x /\ Tell H d x
 | [], _, _, i, d, e => by simp at e
 | d0 :: ds, _, h, 0, d, e => by
  unfold z09 at h
  obtain ⟨x, r, rfl, h1, _⟩ := h
  simp at e
  subst e
  exact ⟨x, rfl, h1⟩
 | d0 :: ds, _, h, i + 1, d, e => by
  unfold z09 at h
  obtain ⟨x, r, rfl, _, h2⟩ := h
  obtain ⟨y, e1, e2⟩ := z09.get h2 i d (by simpa using e)
  exact ⟨y, by simpa using e1, e2⟩
theorem z09.at {H : Hp} : ∀ {ds : List DV} {xs : List V}, z09 H ds xs -> ∀ (i : Nat) (x : V), xs[i]? = some x -> ∃ d, ds[i]? = some d /\ Tell H d x
 | [], _, h, i, x, e => by
  unfold z09 at h
  subst h
  simp at e
 | d0 :: ds, _, h, 0, x, e => by
  unfold z09 at h
  obtain ⟨x0, r, rfl, h1, _⟩ := h
  simp at e
  subst e
  exact ⟨d0, rfl, h1⟩
 | d0 :: ds, _, h, i + 1, x, e => by
  unfold z09 at h
  obtain ⟨x0, r, rfl, _, h2⟩ := h
  obtain ⟨y, e1, e2⟩ := z09.at h2 i x (by simpa using e)
  exact ⟨y, by simpa using e1, e2⟩
theorem z09.nil {H : Hp} : z09 H [] [] := by unfold z09; rfl
theorem z09.cons {H : Hp} {d : DV} {ds : List DV} {x : V} {xs : List V} (h : Tell H d x) (t : z09 H ds xs) : z09 H (d :: ds) (x :: xs) := by unfold z09; exact ⟨x, xs, rfl, h, t⟩
theorem z09.snoc {H : Hp} : ∀ {ds : List DV} {xs : List V} {d : DV} {x : V}, z09 H ds xs -> Tell H d x -> z09 H (ds ++ [d]) (xs ++ [x])
 | [], _, _, _, h, q => by
  unfold z09 at h
  subst h
  exact z09.cons q .nil
 | d0 :: ds, _, _, _, h, q => by
  unfold z09 at h
  obtain ⟨x0, r, rfl, h1, h2⟩ := h
  exact z09.cons h1 (z09.snoc h2 q)
theorem z09.append {H : Hp} : ∀ {ds es : List DV} {xs ys : List V}, z09 H ds xs -> z09 H es ys -> z09 H (ds ++ es) (xs ++ ys)
 | [], _, _, _, h, q => by
  unfold z09 at h
  subst h
  exact q
 | d0 :: ds, _, _, _, h, q => by
  unfold z09 at h
  obtain ⟨x0, r, rfl, h1, h2⟩ := h
  exact z09.cons h1 (z09.append h2 q)
theorem z09.take {H : Hp} : ∀ {ds : List DV} {xs : List V} (n : Nat), z09 H ds xs -> z09 H (ds.take n) (xs.take n)
 | _, _, 0, _ => by rw [List.take_zero, List.take_zero]; exact .nil
 | [], _, n + 1, h => by
  unfold z09 at h
  subst h
  exact .nil
 | d0 :: ds, _, n + 1, h => by
  unfold z09 at h
  obtain ⟨x0, r, rfl, h1, h2⟩ := h
  exact z09.cons h1 (z09.take n h2)
theorem z0F {H : Hp} (i : Int) : Tell H (.int i) (.int i) := by unfold Tell; rfl
theorem z1J {H : Hp} (x : Str) : Tell H (.str x) (.str x) := by unfold Tell; rfl
theorem z5D {H : Hp} : Tell H .non .non := by unfold Tell; rfl
theorem z0e {H : Hp} {a : Addr} {xs : List V} {ds : List DV} (h : H a = some (.tup xs)) (hl : ds.length ≤ 1000000) (t : z09 H ds xs) : Tell H (.tup ds) (.ref a) := by
 unfold Tell
 exact ⟨a, xs, rfl, h, by rw [t.length]; exact hl, t⟩
theorem z3k {H : Hp} : ∀ (l : List Str), z09 H (l.map DV.str) (l.map V.str)
 | [] => .nil
 | i :: r => .cons (z1J i) (z3k r)
theorem z1k {H : Hp} : ∀ {l : List Str} {xs : List V}, z09 H (l.map DV.str) xs -> xs = l.map V.str
 | [], _, h => by unfold z09 at h; exact h
 | i :: r, _, h => by
  rw [List.map_cons] at h
  unfold z09 at h
  obtain ⟨x, t, rfl, h1, h2⟩ := h
  unfold Tell at h1
  rw [h1, z1k h2]
  rfl
theorem z0f {H : Hp} {ds : List DV} {x : V} (h : Tell H (.tup ds) x) : ∃ a xs, x = .ref a /\ H a = some (.tup xs) /\ xs.length ≤ 1000000 /\ z09 H ds xs := by
 unfold Tell at h
 exact h
theorem z0Y {H : Hp} {i : Int} {x : V} (h : Tell H (.int i) x) : x = .int i := by unfold Tell at h; exact h
theorem z2M {H : Hp} {i : Str} {x : V} (h : Tell H (.str i) x) : x = .str i := by unfold Tell at h; exact h
theorem z0b {H : Hp} {d : DV} {ds : List DV} {xs : List V} (h : z09 H (d :: ds) xs) : ∃ x r, xs = x :: r /\ Tell H d x /\ z09 H ds r := by
 unfold z09 at h
 exact h
theorem z0D {H : Hp} {xs : List V} (h : z09 H [] xs) : xs = [] := by unfold z09 at h; exact h
mutual
def DV.deep : DV -> Nat
 | .tup ds => DV.deeps ds + 1
 | _ => 0
def DV.deeps : List DV -> Nat
 | [] => 0
 | d :: ds => max d.deep (DV.deeps ds)
end
def y1o : V -> Bool
 | .non => true
 | .bl _ => true
 | .int _ => true
 | .str _ => true
 | _ => false
def z4u (H : Hp) : Nat -> V -> V -> Prop
 | 0, x, y => x = y /\ y1o x = true
 | n + 1, x, y => (x = y /\ y1o x = true) \/ ∃ (a b : Addr) (xs ys : List V), x = .ref a /\ y = .ref b /\ H a = some (.tup xs) /\ H b = some (.tup ys) /\ xs.length = ys.length /\ ys.length ≤ 1000000 /\
   ∀ (i : Nat) (u v : V), xs[i]? = some u -> ys[i]? = some v -> z4u H n u v
theorem z4u.keep {H H' : Hp} (s : Same H H') : ∀ {n : Nat} {x y : V}, z4u H n x y -> z4u H' n x y
 | 0, _, _, h => h
 | n + 1, x, y, h => by
  rcases h with h | ⟨a, b, xs, ys, e1, e2, h1, h2, hl, hm, h⟩
  ·exact .inl h
  ·exact .inr ⟨a, b, xs, ys, e1, e2, s _ _ h1, s _ _ h2, hl, hm, fun i u v hu hv => z4u.keep s (h i u v hu hv)⟩
theorem z4u.up {H : Hp} : ∀ {n : Nat} {x y : V}, z4u H n x y -> z4u H (n + 1) x y
 | 0, _, _, h => .inl h
 | n + 1, x, y, h => by
  rcases h with h | ⟨a, b, xs, ys, e1, e2, h1, h2, hl, hm, h⟩
  ·exact .inl h
  ·exact .inr ⟨a, b, xs, ys, e1, e2, h1, h2, hl, hm, fun i u v hu hv => z4u.up (h i u v hu hv)⟩
theorem z4u.mono {H : Hp} {x y : V} {n m : Nat} (h : z4u H n x y) (hm : n ≤ m) : z4u H m x y := by
 induction hm with
 | refl => exact h
 | step _ ih => exact ih.up
mutual
theorem z2v {H : Hp} : ∀ (d : DV) (x y : V), Tell H d x -> Tell H d y -> z4u H d.deep x y
 | .non, x, y, h1, h2 => by
  unfold Tell at h1 h2
  subst h1 h2
  exact ⟨rfl, rfl⟩
 | .bl _, x, y, h1, h2 => by
  unfold Tell at h1 h2
  subst h1 h2
  exact ⟨rfl, rfl⟩
 | .int _, x, y, h1, h2 => by
  unfold Tell at h1 h2
  subst h1 h2
  exact ⟨rfl, rfl⟩
 | .str _, x, y, h1, h2 => by
  unfold Tell at h1 h2
  subst h1 h2
  exact ⟨rfl, rfl⟩
 | .tup ds, x, y, h1, h2 => by
  unfold Tell at h1 h2
  obtain ⟨a, xs, rfl, a1, a2, a3⟩ := h1
  obtain ⟨b, ys, rfl, b1, b2, b3⟩ := h2
  unfold DV.deep
  exact .inr ⟨a, b, xs, ys, rfl, rfl, a1, b1, by rw [a3.length, b3.length], b2, z78 ds xs ys a3 b3⟩
theorem z78 {H : Hp} : ∀ (ds : List DV) (xs ys : List V), z09 H ds xs -> z09 H ds ys -> ∀ (i : Nat) (u v : V), xs[i]? = some u -> ys[i]? = some v -> z4u H (DV.deeps ds) u v
 | [], xs, ys, h1, h2, i, u, v, e1, e2 => by
  unfold z09 at h1
  subst h1
  simp at e1
 | d :: ds, xs, ys, h1, h2, 0, u, v, e1, e2 => by
  unfold z09 at h1 h2
  obtain ⟨x, r, rfl, a1, a2⟩ := h1
  obtain ⟨y, t, rfl, b1, b2⟩ := h2
  simp at e1 e2
  subst e1 e2
  unfold DV.deeps
  exact (z2v d x y a1 b1).mono (Nat.le_max_left _ _)
 | d :: ds, xs, ys, h1, h2, i + 1, u, v, e1, e2 => by
  unfold z09 at h1 h2
  obtain ⟨x, r, rfl, a1, a2⟩ := h1
  obtain ⟨y, t, rfl, b1, b2⟩ := h2
  unfold DV.deeps
  exact (z78 ds r t a2 b2 i u v (by simpa using e1) (by simpa using e2)).mono (Nat.le_max_right _ _)
end
end L2
namespace L2
open PySem PySem.Spec PyProof.Rows
section
variable {κ : Type} [DecidableEq κ]
def metL (ks : List κ) : List κ := ks.foldl (fun acc k => if k ∈ acc then acc else acc ++ [k]) []
theorem y3v (ks : List κ) (k : κ) : metL (ks ++ [k]) = if k ∈ metL ks then metL ks else metL ks ++ [k] := by
 unfold metL
 rw [List.foldl_append]
 rfl
theorem y3G {ks : List κ} {i : Nat} {k : κ} (h : ks[i]? = some k) : metL (ks.take (i + 1)) = if k ∈ metL (ks.take i) then metL (ks.take i) else metL (ks.take i) ++ [k] := by
 have e : ks.take (i + 1) = ks.take i ++ [k] := by rw [List.take_add_one, h] <;> rfl
 rw [e, y3v]
theorem z7G (k : κ) : ∀ (ks acc : List κ), k ∈ ks.foldl (fun acc k => if k ∈ acc then acc else acc ++ [k]) acc ↔ k ∈ acc \/ k ∈ ks
 | [], acc => by simp
 | x :: r, acc => by
  rw [List.foldl_cons, z7G k r]
  by_cases h : x ∈ acc
  ·rw [if_pos h, List.mem_cons]
   constructor
   ·rintro (a | a)
    ·exact .inl a
    ·exact .inr (.inr a)
   ·rintro (a | rfl | a)
    ·exact .inl a
    ·exact .inl h
    ·exact .inr a
  ·rw [if_neg h, List.mem_append, List.mem_singleton, List.mem_cons, or_assoc]
theorem y0D {k : κ} {ks : List κ} : k ∈ metL ks ↔ k ∈ ks := by unfold metL; rw [z7G]; simp
theorem z6Z : ∀ (ks acc : List κ), (ks.foldl (fun acc k => if k ∈ acc then acc else acc ++ [k]) acc).length ≤ acc.length + ks.length
 | [], acc => by simp
 | x :: r, acc => by
  rw [List.foldl_cons]
  refine Nat.le_trans (z6Z r _) ?_
  by_cases h : x ∈ acc
  ·rw [if_pos h, List.length_cons]; omega
  ·rw [if_neg h, List.length_append, List.length_cons, List.length_cons, List.length_nil]; omega
theorem y0J (ks : List κ) : (metL ks).length ≤ ks.length := by
 have := z6Z ks []
 simpa [metL] using this
theorem z7W : ∀ (ks acc : List κ), (acc ++ ks).Nodup -> ks.foldl (fun acc k => if k ∈ acc then acc else acc ++ [k]) acc = acc ++ ks
 | [], acc, _ => by simp
 | x :: r, acc, h => by
  have hx : x ∉ acc := fun hx => by
   rw [List.nodup_append] at h
   exact h.2.2 x hx x (List.mem_cons_self) rfl
  rw [List.foldl_cons, if_neg hx, z7W r (acc ++ [x]) (by rw [List.append_assoc]; exact h), List.append_assoc]
  rfl
theorem y2o {ks : List κ} (h : ks.Nodup) : metL ks = ks := by
 have := z7W ks [] (by simpa using h)
 simpa [metL] using this
end
section
variable {prog : Program} {w : World} {A : Around} {κ : Type} [DecidableEq κ] {kd : KeyKind prog w κ} {I : Addr} {fp wr : List Addr} {G : Array GenState -> Array GenState -> Prop} {n : Nat} {P : Nat -> Value -> Prop} {St : Nat -> Shared -> Prop}
abbrev z5t (kd : KeyKind prog w κ) (h : Heap) (a : Addr) (ks : List κ) : Prop := h.SetOf kd a (fun k => decide (k ∈ ks)) (metL ks).length
theorem z5t.at {h h' : Heap} {a : Addr} {ks : List κ} (x : z5t kd h a ks) (e : ∀ o, h.get? a = some o -> h'.get? a = some o) : z5t kd h' a ks := by
 obtain ⟨o, es, ep, t, ho, r⟩ := x
 exact ⟨o, es, ep, t, e o ho, r⟩
theorem z8L {R : Result -> Shared -> Prop} (W : WalksS prog w A.in1 I fp wr G n P St) {a : Addr} (out : a ∉ fp) {ks : List κ} (lk : ks.length = n)
  (vals : ∀ i v, P i v -> ∃ k, ks[i]? = some k /\ kd.is k v = true /\ v.scannable = true) (few : n + 1 < scanBound) :
  ∀ (todo i : Nat) (s : Shared), i + todo = n -> St i s -> z5t kd s.heap a (ks.take i) ->
   (∀ s', Moved (a :: wr) G s s' -> z5t kd s'.heap a ks -> R (.ok (.ret .none)) s') -> codeAny (model prog w) A (.builtin "set.update.loop" ⟨[.ref a, .ref I], []⟩) R s
 | 0, i, s, ei, st, sx, fin => by
  have e : ks.take i = ks := List.take_of_length_le (by omega)
  rw [e] at sx
  have ei' : i = n := by omega
  subst ei'
  refine codeAny_builtin F.entry_set_update_loop ?_
  rw [Around.under_plainId F.plain_set_update_loop _]
  refine wpAny_bind (W.done s _ _ st fun s' mv => wpAny_pure (fin s' (mv.mono fun b hb => .tail _ hb) (sx.at fun o => mv.heap a o fun q => out (W.sub _ q))))
 | todo + 1, i, s, ei, st, sx, fin => by
  refine codeAny_builtin F.entry_set_update_loop ?_
  rw [Around.under_plainId F.plain_set_update_loop _]
  refine wpAny_bind (W.item i s _ _ (by omega) st fun v s1 hv st1 mv => ?_)
  obtain ⟨k, ek, iv, sc⟩ := vals i v hv
  have sx1 := sx.at (h' := s1.heap) fun o => mv.heap a o fun q => out (W.sub _ q)
  refine wpAny_bind (wpAny_holding (m := setAdd a v) ?_)
  unfold setAdd
  refine wpAny_holding (wpAny_bind (kd.pyHash iv ?_))
  have lm := y0J (ks.take i)
  rw [List.length_take] at lm
  refine wpAny_setAddHashed_of (s := { s1 with toks := s1.toks + 1 }) iv sc sx1 (by omega) fun h2 sb sx2 => ?_
  have sx3 : z5t kd h2 a (ks.take (i + 1)) := by
   have e1 : (fun k' => decide (k' ∈ ks.take i) || decide (k' = k)) = fun k' => decide (k' ∈ ks.take (i + 1)) := by
    funext k'
    rw [List.take_add_one, ek]
    simp [Bool.decide_or]
   have e2 : (if decide (k ∈ ks.take i) = true then (metL (ks.take i)).length else (metL (ks.take i)).length + 1) = (metL (ks.take (i + 1))).length := by
    rw [y3G ek]
    by_cases hk : k ∈ ks.take i
    ·rw [if_pos (decide_eq_true hk), if_pos (y0D.mpr hk)]
    ·rw [if_neg (by simpa using hk), if_neg (fun q => hk (y0D.mp q)), List.length_append]
     rfl
   rw [e1, e2] at sx2
   exact sx2
  have far : ∀ b, b ≠ a -> h2.get? b = s1.heap.get? b := fun b hb => sb.2 b hb
  refine wpAny_pure ⟨plainId_quiet F.plain_set_update_loop _, z8L W out lk vals few todo (i + 1) _ (by omega) (W.frame _ s1 _ _ st1 (Nat.le_succ _) fun b hb o q => ?_) sx3 fun s3 mv3 sx4 => ?_⟩
  ·rw [far b fun z => out (z ▸ hb)]; exact q
  ·refine fin s3 (.trans W.gtrans ((mv.mono fun b hb => .tail _ hb).then_heap (Nat.le_succ _) fun b o hb q => ?_) mv3) sx4
   rw [far b fun z => hb (z ▸ .head _)]; exact q
end
namespace Ty
theorem y32 : isSubtype (.type "tuple") (.type "set") = pure false := by rw [isSubtype_type]; kernel_rfl
theorem z7w : isSubtype (.type "tuple") (.type "frozenset") = pure false := by rw [isSubtype_type]; kernel_rfl
end Ty
abbrev set0 (led : Bool) : Obj := { cls := .type "set", dict := none, data := .set #[] 0 (.fresh 0 0 led) }
section
variable {prog : Program} {w : World} {A : Around} {E : Value -> Shared -> Prop} {s : Shared} {κ : Type} [DecidableEq κ] {kd : KeyKind prog w κ}
theorem y3J {T : String} {p : Addr} {o : Obj} {its : Array Value} {c0 : Nat} {ks : List κ} {Q : Value -> Shared -> Prop} (hh : A.handled = none) (hp : s.heap.get? p = some o) (hc : o.cls = .type T) (hd : o.data = .seq its c0) (hT : T = "list" \/ T = "tuple")
  (lk : ks.length = its.size) (vals : ∀ (i : Nat) v, its[i]? = some v -> ∃ k, ks[i]? = some k /\ kd.is k v = true /\ v.scannable = true) (few : its.size + 1 < scanBound)
  (fin : ∀ (h' : Heap) (t : Nat), z5t kd h' s.heap.objs.size ks -> (∀ b u, b < s.heap.objs.size -> s.heap.get? b = some u -> h'.get? b = some u) -> Q (.ref s.heap.objs.size) { s with heap := h', toks := t }) :
  wpAny (model prog w) A (call (.type "set") [.ref p]) Q E s := by
 obtain ⟨c, tl, hmro⟩ := F.called_set.mro
 have g1 := F.called_set.made
 have g2 := F.called_set.sub
 refine wpAny_call (codeAny_of_tree (wpAny_pure ⟨Code.quiet_builtin _ (by decide +kernel), codeAny_builtin F.entry_type_call ?_⟩))
 rw [Around.under_plain (weight_type_call_type "set" [.ref p] []) rfl]
 have g3 := F.called_set.notType
 have g4 := F.called_set.canCreate
 have g5 := F.typeCall_set_1 (.ref p)
 repeat (any_goals (first | assumption | wp_step))
 refine codeAny_mono (code_set_new_1 (.ref p) (E := E) (Q₁ := fun u s1 => ∃ led, u = .ref s.heap.objs.size /\ s1 = { s with heap := s.heap.push (set0 led) }) fun led => ⟨led, rfl, rfl⟩) fun r s1 q1 => ?_
 rcases r with e | (_ | _ | _ | u)
 all_goals try exact q1.elim
 all_goals try exact q1
 obtain ⟨led, rfl, rfl⟩ := q1
 have at1 : (s.heap.push (set0 led)).get? s.heap.objs.size = some (set0 led) := Heap.get?_push_size _ rfl
 have ty1 : Shared.TypeIs { s with heap := s.heap.push (set0 led) } (.ref s.heap.objs.size) "set" := ⟨_, at1, rfl⟩
 have g6 := F.called_set.init.lookup
 have g7 := F.called_set.init.bind (.ref s.heap.objs.size)
 repeat (any_goals (first | assumption | wp_step))
 refine codeAny_mono (codeAny_call_builtin (R := wants (fun r s2 => r = .none /\ ∃ h' t, s2 = { s with heap := h', toks := t } /\ z5t kd h' s.heap.objs.size ks /\ ∀ b u, b < s.heap.objs.size -> s.heap.get? b = some u -> h'.get? b = some u) E)
  F.called_set.init.plain F.entry_set_init (check_set_init_1 ty1 ?_)) fun r s2 q2 => ?_
 case _ =>
  have hpS : p < s.heap.objs.size := Heap.lt_size hp
  obtain ⟨oc, od, oa, os⟩ := o
  simp only at hc hd
  subst hc; subst hd
  have hp1 : (s.heap.push (set0 led)).get? p = some { cls := .type T, dict := od, data := .seq its c0, slots := os } := Heap.get?_push_of_some _ hp
  have f1 : isSubtype (.type T) (.type "set") = pure false := by rcases hT with rfl | rfl <;> first | exact F.sub_list_set | exact Ty.y32
  have f2 : isSubtype (.type T) (.type "frozenset") = pure false := by rcases hT with rfl | rfl <;> first | exact F.sub_list_frozenset | exact Ty.z7w
  have f3 : (Value.type T == Value.type "dict") = false := by rcases hT with rfl | rfl <;> decide
  have hh3 : A.in1.in1.in1.handled = none := by simp [hh]
  have sz : (s.heap.push (set0 led)).objs.size = s.heap.objs.size + 1 := Heap.size_push _ _
  have apart : p ≠ (s.heap.push (set0 led)).objs.size := by rw [sz]; exact Nat.ne_of_lt (Nat.lt_succ_of_lt hpS)
  have out : s.heap.objs.size ∉ [(s.heap.push (set0 led)).objs.size, p] := by rw [sz, List.mem_cons, List.mem_singleton]; exact fun z => z.elim (Nat.ne_of_lt (Nat.lt_succ_self _)) (Nat.ne_of_gt hpS)
  have z5u : ∀ x : Obj, z5t kd ((s.heap.push (set0 led)).push x) s.heap.objs.size (ks.take 0) := fun x => by
   have z := (setObjOf_fresh (knd := kd) led).setOf (Heap.get?_push_of_some x at1) (by unfold scanBound; omega)
   have e : (fun k : κ => decide (k ∈ ks.take 0)) = fun _ => false := by funext k; simp
   show Heap.SetOf kd _ _ (fun k => decide (k ∈ ks.take 0)) _
   rw [e]
   exact z
  have ends : ∀ (x : Obj) (s' : Shared), Moved [s.heap.objs.size, (s.heap.push (set0 led)).objs.size] (fun a b => b = a) { s with heap := (s.heap.push (set0 led)).push x } s' -> z5t kd s'.heap s.heap.objs.size ks ->
    ∃ h' t, s' = { s with heap := h', toks := t } /\ z5t kd h' s.heap.objs.size ks /\ ∀ b u, b < s.heap.objs.size -> s.heap.get? b = some u -> h'.get? b = some u := fun x s' mv sx => by
   obtain ⟨h', g', d', t', o'⟩ := s'
   obtain rfl : g' = s.gens := mv.gens
   obtain rfl : d' = s.drawn := mv.drawn
   obtain rfl : o' = s.os := mv.os
   exact ⟨h', t', rfl, sx, fun b u hb q => mv.heap b u (by rw [sz, List.mem_cons, List.mem_singleton]; exact fun z => z.elim (Nat.ne_of_lt hb) (Nat.ne_of_lt (Nat.lt_succ_of_lt hb))) (Heap.get?_push_of_some _ (Heap.get?_push_of_some _ q))⟩
  unfold Builtin.«set.__init__» noKeywords Builtin.Frozenset.updateFrom
  generalize hPI : pyIter = PI
  wp_walk
  subst hPI
  rcases hT with rfl | rfl
  ·have hl : (s.heap.push (set0 led)).IsList p its := ⟨_, hp1, rfl, c0, rfl⟩
   refine wpAny_pyIter_list hl (wpAny_bind (wpAny_runValue ?_))
   refine z8L (kd := kd) ((Walks.list hh3 _ p apart its).toS) out lk vals few its.size 0 _ (Nat.zero_add _) ⟨⟨_, Heap.get?_push_size _ rfl, rfl, rfl⟩, hl.push _⟩ (z5u _) fun s' mv sx => ?_
   exact wpAny_pure (wpAny_pure ⟨rfl, ends _ s' mv sx⟩)
  ·have hl : (s.heap.push (set0 led)).IsTuple p its := ⟨_, hp1, rfl, c0, rfl⟩
   refine wpAny_pyIter_tuple hl (wpAny_bind (wpAny_runValue ?_))
   refine z8L (kd := kd) ((Walks.tuple hh3 _ p apart its).toS) out lk vals few its.size 0 _ (Nat.zero_add _) ⟨⟨_, Heap.get?_push_size _ rfl, rfl, rfl⟩, hl.push _⟩ (z5u _) fun s' mv sx => ?_
   exact wpAny_pure (wpAny_pure ⟨rfl, ends _ s' mv sx⟩)
 ·rcases r with e | (_ | _ | _ | u)
  all_goals try exact q2.elim
  all_goals try exact q2
  obtain ⟨rfl, h', t, rfl, sx, kp⟩ := q2
  repeat (any_goals (first | assumption | wp_step))
  exact fin _ _ sx kp
end
section
variable {X : Cx}
def SetT (P : Program) (w : World) (a : Addr) (zs : List Str) : HO := .ext fun h => z5t (strKind P w) h a zs
theorem SetT.new {P : Program} {w : World} {H : Hp} {h : Heap} {a : Addr} {zs : List Str} (x : z5t (strKind P w) h a zs) : z1f P w H h a (SetT P w a zs) := by
 refine ⟨x, ?_, fun h1 h2 y e => z5t.at y e⟩
 obtain ⟨o, _, _, _, e, _⟩ := x
 exact ⟨o, e⟩
theorem y0A : ∀ {zs : List Str} {us : List Value}, Vals (zs.map V.str) us -> ∀ (i : Nat) (v : Value), us[i]? = some v -> ∃ (k : Str) (t : Tok), zs[i]? = some k /\ v = .str k t
 | [], _, .nil, i, v, h => by simp at h
 | z :: zs, u :: us, .cons r rs, 0, v, h => by
  simp at h
  subst h
  obtain ⟨t, rfl⟩ := r
  exact ⟨z, t, rfl, rfl⟩
 | z :: zs, u :: us, .cons r rs, i + 1, v, h => by
  simp at h
  obtain ⟨k, t, a, b⟩ := y0A rs i v h
  exact ⟨k, t, by simpa using a, b⟩
theorem z4z (hc : X.calm = true) : z3o X (.type "set") (fun xs H Q => ∃ p zs, xs = [.ref p] /\ (SqL X.K H p (zs.map V.str) \/ SqT X.K H p (zs.map V.str)) /\ zs.length ≤ 1000 /\ ∀ l, H l = none -> Q (.ref l) (upd H l (SetT X.prog X.w l zs))) := by
 intro pins s σ H xs us Q I r h
 obtain ⟨p, zs, rfl, hq, hl, q⟩ := h
 obtain ⟨u, rfl, rx⟩ := z4h r
 cases rx
 have go : ∀ (T : String) (o : Obj) (its : List Value) (c0 : Nat), s.heap.get? p = some o -> o.cls = .type T -> o.data = .seq its.toArray c0 -> (T = "list" \/ T = "tuple") -> Vals (zs.map V.str) its -> wpAny (model X.prog X.w) X.A (call (.type "set") [.ref p]) (EP X pins σ Q) X.xe s :=
  fun T o its c0 ho hcl hda hT rv => by
   have ln : zs.length = its.length := by have := rv.length; rwa [List.length_map] at this
   refine y3J (kd := strKind X.prog X.w) (ks := zs) (I.ok.hd hc) ho hcl hda hT (by simpa using ln) (fun i v hv => ?_) (by simp [scanBound]; omega) fun h' t sx kp => ?_
   ·obtain ⟨k, t, a, rfl⟩ := y0A rv i v (by simpa using hv)
    exact ⟨k, a, strKind_is _ _ _ _, rfl⟩
   ·refine ⟨.ref s.heap.objs.size, _, I.laid (a := s.heap.objs.size) (o := SetT X.prog X.w s.heap.objs.size zs) (h' := h') (t' := t) (fun b u q1 => kp b u (Heap.lt_size q1) q1) (Nat.le_refl _) (SetT.new sx), rfl, q _ (I.hok.fresh (Nat.le_refl _))⟩
 rcases hq with hq | hq
 ·obtain ⟨its, rv, pl, _⟩ := I.list hq
  obtain ⟨o, ho, hcl, n, hda⟩ := pl.isList
  exact go "list" o its n ho hcl hda (.inl rfl) rv
 ·obtain ⟨its, rv, pl, _⟩ := I.tuple hq
  obtain ⟨o, ho, hcl, n, hda⟩ := pl
  exact go "tuple" o its n ho hcl hda (.inr rfl) rv
theorem z5x : z3o X (.builtin "len") (fun xs H Q => ∃ p zs, xs = [.ref p] /\ H p = some (SetT X.prog X.w p zs) /\ zs.length ≤ 1000 /\ Q (.int (metL zs).length) H) := by
 intro pins s σ H xs us Q I r h
 obtain ⟨p, zs, rfl, hp, hl, q⟩ := h
 obtain ⟨u, rfl, rx⟩ := z4h r
 cases rx
 obtain ⟨⟨o, es, ep, t, e1, e2, e3, _, _, _, e4, e5⟩, _⟩ := (show z1f X.prog X.w H s.heap p (SetT X.prog X.w p zs) from I.hok p _ hp)
 have := y0J zs
 exact PySem.call_len_set e1 e2 e3 e4 (by omega) ⟨.int (metL zs).length, H, I.tok _, ⟨s.toks + 1, by rw [e5]⟩, q⟩
end
section
variable {κ : Type} [DecidableEq κ]
def valV (kvs : List (κ × V)) (k : κ) : Option V := (kvs.find? fun kv => decide (kv.1 = k)).map (·.2)
def putK (kvs : List (κ × V)) (k : κ) (v : V) : List (κ × V) :=
 if (kvs.any fun kv => decide (kv.1 = k)) = true then kvs.map (fun kv => if kv.1 = k then (kv.1, v) else kv) else kvs ++ [(k, v)]
theorem z5j {p : κ × V} {r : List (κ × V)} {k : κ} (e : p.1 = k) : valV (p :: r) k = some p.2 := by simp [valV, List.find?_cons, e]
theorem z5b {p : κ × V} {r : List (κ × V)} {k : κ} (e : ¬ p.1 = k) : valV (p :: r) k = valV r k := by simp [valV, List.find?_cons, e]
theorem z6N (k : κ) : ∀ kvs : List (κ × V), (kvs.any fun kv => decide (kv.1 = k)) = (valV kvs k).isSome
 | [] => rfl
 | p :: r => by
  rw [List.any_cons]
  by_cases e : p.1 = k
  ·simp only [z5j e, decide_eq_true e, Bool.true_or, Option.isSome_some]
  ·rw [z5b e, decide_eq_false e, Bool.false_or]; exact z6N k r
theorem z7M (kvs : List (κ × V)) (k : κ) (v : V) : (putK kvs k v).length ≤ kvs.length + 1 := by
 unfold putK
 split
 ·rw [List.length_map]; omega
 ·rw [List.length_append, List.length_cons, List.length_nil]; omega
theorem y0N {kvs : List (κ × V)} {k : κ} (v : V) (h : valV kvs k = none) : putK kvs k v = kvs ++ [(k, v)] := by
 unfold putK
 rw [z6N, h]
 exact if_neg (by decide)
theorem RelO.isSome_eq {o : Option V} {u : Option Value} (r : RelO o u) : o.isSome = u.isSome := by
 cases o with
 | none => cases u with
  | none => rfl
  | some _ => exact (show False from r).elim
 | some _ => cases u with
  | none => exact (show False from r).elim
  | some _ => rfl
theorem KV.val {kvs : List (κ × V)} {vs : List (κ × Value)} (r : KV kvs vs) (k : κ) : RelO (valV kvs k) (valueAt vs k) := by
 unfold KV at r
 induction r with
 | nil => exact True.intro
 | @cons p q ps qs h t ih =>
  obtain ⟨h1, h2⟩ := h
  by_cases e : p.1 = k
  ·have e' : q.1 = k := h1.symm.trans e
   have b : valueAt (q :: qs) k = some q.2 := by simp [valueAt, List.find?_cons, e']
   rw [z5j e, b]; exact h2
  ·have e' : ¬ q.1 = k := fun z => e (h1.trans z)
   have b : valueAt (q :: qs) k = valueAt qs k := by simp [valueAt, List.find?_cons, e']
   rw [z5b e, b]; exact ih
theorem KV.any {kvs : List (κ × V)} {vs : List (κ × Value)} (r : KV kvs vs) (k : κ) : (kvs.any fun kv => decide (kv.1 = k)) = vs.any fun kv => decide (kv.1 = k) := by
 unfold KV at r
 induction r with
 | nil => rfl
 | cons h t ih => rw [List.any_cons, List.any_cons, ih, h.1]
theorem KV.repl {kvs : List (κ × V)} {vs : List (κ × Value)} (r : KV kvs vs) (k : κ) {y : V} {u : Value} (ry : RelV y u) :
  KV (kvs.map fun kv => if kv.1 = k then (kv.1, y) else kv) (vs.map fun kv => if kv.1 = k then (kv.1, u) else kv) := by
 unfold KV at r ⊢
 induction r with
 | nil => exact .nil
 | @cons p q ps qs h t ih =>
  rw [List.map_cons, List.map_cons]
  refine .cons ?_ ih
  obtain ⟨h1, h2⟩ := h
  by_cases e : p.1 = k
  ·rw [if_pos e, if_pos (h1.symm.trans e)]; exact ⟨h1, ry⟩
  ·rw [if_neg e, if_neg (fun z => e (h1.trans z))]; exact ⟨h1, h2⟩
theorem KV.put {kvs : List (κ × V)} {vs : List (κ × Value)} (r : KV kvs vs) (k : κ) {y : V} {u : Value} (ry : RelV y u) : KV (putK kvs k y) (stored vs k u) := by
 unfold putK stored
 rw [r.any k]
 by_cases e : (vs.any fun kv => decide (kv.1 = k)) = true
 ·rw [if_pos e, if_pos e]; exact r.repl k ry
 ·rw [if_neg e, if_neg e]; exact Paired.snoc r ⟨rfl, ry⟩
theorem KV.keys {kvs : List (κ × V)} {vs : List (κ × Value)} (r : KV kvs vs) : kvs.map (·.1) = vs.map (·.1) := by
 unfold KV at r
 induction r with
 | nil => rfl
 | cons h t ih => rw [List.map_cons, List.map_cons, ih, h.1]
theorem KV.length {kvs : List (κ × V)} {vs : List (κ × Value)} (r : KV kvs vs) : kvs.length = vs.length := Paired.length r
end
theorem y2Q {P : Program} {w : World} {k : Key} {u : Value} (r : RelV (kV k) u) : (z1o P w).is k u = true := by
 cases k with
 | inl i => obtain ⟨t, e⟩ := (show ∃ t, u = Value.int i t from r); subst e; exact y0b P w i t
 | inr x => obtain ⟨t, e⟩ := (show ∃ t, u = Value.str x t from r); subst e; exact y07 P w x t
theorem z95 {P : Program} {w : World} : ∀ {ks : List Key} {us : List Value}, Vals (ks.map kV) us -> ItemsAre (z1o P w) ks us
 | [], _, r => by rw [List.map_nil] at r; cases r; exact .nil
 | k :: ks, _, r => by
  rw [List.map_cons] at r
  cases r with
  | cons h t => exact .cons (y2Q h) (z95 t)
abbrev KT (H : Hp) : List (List Key × V) -> List (List Key × Addr × Value) -> Prop := Paired fun p q => p.1 = q.1 /\ H q.2.1 = some (.tup (p.1.map kV)) /\ RelV p.2 q.2.2
theorem KT.val {H : Hp} {kvs : List (List Key × V)} {xs : List (List Key × Addr × Value)} (r : KT H kvs xs) (k : List Key) : RelO (valV kvs k) ((atKey xs k).map (·.2)) := by
 induction r with
 | nil => exact True.intro
 | @cons p q ps qs h t ih =>
  obtain ⟨h1, _, h2⟩ := h
  by_cases e : p.1 = k
  ·have e' : q.1 = k := h1.symm.trans e
   have b : atKey (q :: qs) k = some q.2 := by simp [atKey, List.find?_cons, e']
   rw [z5j e, b]; exact h2
  ·have e' : ¬ q.1 = k := fun z => e (h1.trans z)
   have b : atKey (q :: qs) k = atKey qs k := by simp [atKey, List.find?_cons, e']
   rw [z5b e, b]; exact ih
theorem KT.repl {H : Hp} {kvs : List (List Key × V)} {xs : List (List Key × Addr × Value)} (r : KT H kvs xs) (k : List Key) {y : V} {u : Value} (ry : RelV y u) :
  KT H (kvs.map fun kv => if kv.1 = k then (kv.1, y) else kv) (xs.map (putAt k u)) := by
 induction r with
 | nil => exact .nil
 | @cons p q ps qs h t ih =>
  rw [List.map_cons, List.map_cons]
  refine .cons ?_ ih
  obtain ⟨h1, h2, h3⟩ := h
  unfold putAt
  by_cases e : p.1 = k
  ·rw [if_pos e, if_pos (h1.symm.trans e)]; exact ⟨h1, h2, ry⟩
  ·rw [if_neg e, if_neg (fun z => e (h1.trans z))]; exact ⟨h1, h2, h3⟩
theorem KT.put {H : Hp} {kvs : List (List Key × V)} {xs : List (List Key × Addr × Value)} (r : KT H kvs xs) (k : List Key) {b : Addr} {y : V} {u : Value} (hb : H b = some (.tup (k.map kV))) (ry : RelV y u) :
  KT H (putK kvs k y) (storedH xs k b u) := by
 have e : (kvs.any fun kv => decide (kv.1 = k)) = (atKey xs k).isSome := by
  rw [z6N, (r.val k).isSome_eq, Option.isSome_map]
 unfold putK storedH
 rw [e]
 by_cases q : (atKey xs k).isSome = true
 ·rw [if_pos q, if_pos q]; exact r.repl k ry
 ·rw [if_neg q, if_neg q]; exact Paired.snoc r ⟨rfl, hb, ry⟩
theorem KT.keeps {H H' : Hp} {kvs : List (List Key × V)} {xs : List (List Key × Addr × Value)} (r : KT H kvs xs) (ht : ∀ b ys, H b = some (.tup ys) -> H' b = some (.tup ys)) : KT H' kvs xs :=
 Paired.mapP r fun _ _ z => ⟨z.1, ht _ _ z.2.1, z.2.2⟩
section
variable {P : Program} {w : World} {H : Hp} {h : Heap} {a : Addr}
theorem y6E {u : HO} (ok : HOk P w H h) (e : Rd H a u) : z1f P w H h a u := e.ok ok
theorem y4f {kvs : List (Key × V)} (ok : HOk P w H h) (e : Rd H a (.dK kvs)) : kvs.length ≤ sizeLine /\ (a == sysModules) = false /\ ∃ vs, KV kvs vs /\ h.DictOf (z1o P w) a vs :=
 show z1f P w H h a (.dK kvs) from y6E ok e
theorem y6k {kvs : List (Key × V)} (ok : HOk P w H h) (e : H a = some (.dK kvs)) : kvs.length ≤ sizeLine /\ (a == sysModules) = false /\ ∃ vs, KV kvs vs /\ h.DictOf (z1o P w) a vs := y4f ok (.inl e)
theorem y0q {ks : List Key} (ok : HOk P w H h) (e : H a = some (.tup (ks.map kV))) : (tupleKind (z1o P w)).is h ks a := by
 obtain ⟨_, its, r, o, h1, h2, ⟨n, h3⟩, _⟩ := (show z1f P w H h a (.tup (ks.map kV)) from ok a _ e)
 exact ⟨o, its.toArray, n, h1, h2, h3, by simpa using z95 r⟩
theorem y43 {kvs : List (List Key × V)} (ok : HOk P w H h) (e : Rd H a (.dT kvs)) : kvs.length ≤ sizeLine /\ (a == sysModules) = false /\
  ∃ xs, KT H kvs xs /\ h.DictOfH (tupleKind (z1o P w)) a xs := by
 obtain ⟨z, y, xs, r, o, es, ep, h1, h2, h3, h4, h5⟩ := (show z1f P w H h a (.dT kvs) from y6E ok e)
 refine ⟨z, y, xs, r, o, es, ep, h1, h2, h3, h4, fun x hx => ?_, h5⟩
 have all : ∀ {l : List (List Key × V)} {m : List (List Key × Addr × Value)}, KT H l m -> ∀ x ∈ m, (tupleKind (z1o P w)).is h x.1 x.2.1 := by
  intro l m q
  induction q with
  | nil => intro x hx; exact nomatch hx
  | @cons p q ps qs hq t ih =>
   intro x hx
   rcases List.mem_cons.mp hx with e | hx
   ·subst e
    exact y0q ok (by rw [<- hq.1]; exact hq.2.1)
   ·exact ih x hx
 exact all r x hx
theorem dt_of {kvs : List (List Key × V)} (ok : HOk P w H h) (e : H a = some (.dT kvs)) : kvs.length ≤ sizeLine /\ (a == sysModules) = false /\
  ∃ xs, KT H kvs xs /\ h.DictOfH (tupleKind (z1o P w)) a xs := y43 ok (.inl e)
end
def DGet (H : Hp) (a : Addr) (y : V) (r : Option V) : Prop :=
 (∃ kvs k, Rd H a (.dK kvs) /\ y = kV k /\ r = valV kvs k) \/ ∃ kvs k b, Rd H a (.dT kvs) /\ y = .ref b /\ H b = some (.tup (k.map kV)) /\ r = valV kvs k
def DPut (H : Hp) (a : Addr) (y v : V) (H' : Hp) : Prop :=
 (∃ kvs k, H a = some (.dK kvs) /\ y = kV k /\ kvs.length < sizeLine /\ H' = upd H a (.dK (putK kvs k v))) \/
 ∃ kvs k b, H a = some (.dT kvs) /\ y = .ref b /\ H b = some (.tup (k.map kV)) /\ kvs.length < sizeLine /\ H' = upd H a (.dT (putK kvs k v))
theorem DGet.k {H : Hp} {a : Addr} {kvs : List (Key × V)} {k : Key} (e : H a = some (.dK kvs)) : DGet H a (kV k) (valV kvs k) := .inl ⟨kvs, k, .inl e, rfl, rfl⟩
theorem DPut.k {H : Hp} {a : Addr} {kvs : List (Key × V)} {k : Key} {v : V} (e : H a = some (.dK kvs)) (hl : kvs.length < sizeLine) : DPut H a (kV k) v (upd H a (.dK (putK kvs k v))) := .inl ⟨kvs, k, e, rfl, hl, rfl⟩
section
variable {X : Cx} {pins : List (Addr × Obj)} {σ : St} {H : Hp} {s : Shared} {a : Addr} {y v : V} {u r : Value} {o : Option V} {A : Around} {E : Value -> Shared -> Prop}
theorem Inv.big (I : Inv X pins σ H s) : sysModules < s.heap.objs.size := by
 have h : mainGlobals < s.heap.objs.size := (I.mod.glob.keeps I.bk).lt
 exact Nat.lt_trans (by decide) h
theorem y20 {Q : Value -> Shared -> Prop} (hu : A.units + 1 < cLine) (I : Inv X pins σ H s) (g : DGet H a y (some v)) (ry : RelV y u) (h : ∀ w' s', Inv X pins σ H s' -> RelV v w' -> Q w' s') :
  wpAny (model X.prog X.w) A (getItem (.ref a) u) Q E s := by
 rcases g with ⟨kvs, k, e, ey, l⟩ | ⟨kvs, k, b, e, ey, eb, l⟩
 ·subst ey
  obtain ⟨z, hd, vs, rel, dd⟩ := y4f I.hok e
  obtain ⟨w', hw, rw'⟩ := RelO.some_of (v := v) (o := valueAt vs k) (by rw [l]; exact rel.val k)
  exact wpAny_getItem_of (y2Q ry) dd.mapOf hw (h w' _ (I.tok _) rw')
 ·subst ey
  cases (show u = Value.ref b from ry)
  obtain ⟨z, hd, xs, rel, dd⟩ := y43 I.hok e
  obtain ⟨w', hw, rw'⟩ := RelO.some_of (v := v) (o := (atKey xs k).map (·.2)) (by rw [l]; exact rel.val k)
  obtain ⟨p, hp, hp2⟩ := Option.map_eq_some_iff.mp hw
  refine wpAny_getItem_heap (tupleKind_room_in1 hu) (y0q I.hok eb) dd hp ?_
  rw [hp2]
  exact h w' _ (I.tok _) rw'
theorem d_in {Q : Value -> Shared -> Prop} (hu : A.units + 1 < cLine) (I : Inv X pins σ H s) (g : DGet H a y o) (ry : RelV y u) (h : ∀ s', Inv X pins σ H s' -> Q (.bool o.isSome) s') :
  wpAny (model X.prog X.w) A (compareOp .In u (.ref a)) Q E s := by
 rcases g with ⟨kvs, k, e, ey, l⟩ | ⟨kvs, k, b, e, ey, eb, l⟩
 ·subst ey
  obtain ⟨z, hd, vs, rel, dd⟩ := y4f I.hok e
  refine wpAny_in_of (y2Q ry) hd dd.mapOf ?_
  rw [<- (rel.val k).isSome_eq, <- l]
  exact h _ (I.tok _)
 ·subst ey
  cases (show u = Value.ref b from ry)
  obtain ⟨z, hd, xs, rel, dd⟩ := y43 I.hok e
  refine wpAny_in_heap (tupleKind_room_in1 hu) (y0q I.hok eb) hd dd ?_
  have q := (rel.val k).isSome_eq
  rw [Option.isSome_map] at q
  rw [<- q, <- l]
  exact h _ (I.tok _)
theorem y1U {h' : Heap} {t' : Nat} {ob : HO} (I : Inv X pins σ H s) (mu : Mut (H a)) (hs : Heap.SameBut a s.heap h') (he : ∃ q, h'.get? a = some q) (new : z1f X.prog X.w (upd H a ob) h' a ob) :
  Inv X pins σ (upd H a ob) { s with heap := h', toks := t' } :=
 I.write (x := a) (e := a) mu (.inl rfl) (fun b q hb z => (hs.2 b hb).trans z) he new
theorem y4V {P : Program} {w : World} {H' : Hp} {h' : Heap} {kvs : List (Key × V)} {vs : List (Key × Value)} (z : kvs.length ≤ sizeLine) (hd : (a == sysModules) = false) (rel : KV kvs vs) (dd : h'.DictOf (z1o P w) a vs) :
  z1f P w H' h' a (.dK kvs) := ⟨z, hd, vs, rel, dd⟩
theorem y2u {H' : Hp} {Q : Unit -> Shared -> Prop} (hu : A.units + 1 < cLine) (I : Inv X pins σ H s) (g : DPut H a y v H') (ry : RelV y u) (rv : RelV v r) (h : ∀ s', Inv X pins σ H' s' -> Q () s') :
  wpAny (model X.prog X.w) A (setItem (.ref a) u r) Q E s := by
 rcases g with ⟨kvs, k, e, ey, l, eH⟩ | ⟨kvs, k, b, e, ey, eb, l, eH⟩
 ·subst ey eH
  obtain ⟨z, hd, vs, rel, dd⟩ := y6k I.hok e
  have hz : vs.length ≤ sizeLine := by rw [<- rel.length]; exact z
  have hl : (putK kvs k v).length ≤ sizeLine := by have := z7M kvs k v; omega
  refine wpAny_setItem_pairs (hsz := hz) (y2Q ry) dd fun h' dd' hs => h _ ?_
  have he : ∃ q, h'.get? a = some q := let ⟨q, _, _, hq, _⟩ := dd'; ⟨q, hq⟩
  exact y1U I (by rw [e]; exact True.intro) hs he (y4V hl hd (rel.put k rv) dd')
 ·subst ey eH
  cases (show u = Value.ref b from ry)
  obtain ⟨z, hd, xs, rel, dd⟩ := dt_of I.hok e
  have hz : xs.length ≤ sizeLine := by rw [<- Paired.length rel]; exact z
  have hl : (putK kvs k v).length ≤ sizeLine := by have := z7M kvs k v; omega
  refine wpAny_setItem_heap (hsz := hz) (tupleKind_room_in1 hu) (y0q I.hok eb) dd fun h' dd' hs => h _ ?_
  obtain ⟨q, es, ep, hq, h2, h3, h4, _, h5⟩ := dd'
  refine y1U I (by rw [e]; exact True.intro) hs ⟨q, hq⟩ ⟨hl, hd, _, (rel.put k eb rv).keeps fun c ys ec => ?_, q, es, ep, hq, h2, h3, h4, h5⟩
  rw [z0d (z4t ec e (fun z => nomatch z))]
  exact ec
end
section
variable {X : Cx} {pins : List (Addr × Obj)} {σ : St} {H : Hp} {s : Shared} {a : Addr} {kvs : List (Key × V)} {k : Key} {u : Value} {A : Around} {E : Value -> Shared -> Prop}
end
def NoSl (i : Expr) : Prop := ∀ ov iv, subscripted i false ov iv = operate [ov, iv] (getItem ov iv)
theorem y5V {prog : Program} {w : World} {A : Around} {E : Value -> Shared -> Prop} {s : Shared} {env : Env} {value slice : Expr} {pos : Pos} {T id : String} {Q : Value -> Shared -> Prop}
  (hl : typeLookup (.type T) "__getitem__" = pure (some (.builtin id))) (hs : NoSl slice)
  (h : wpAny (model prog w) A (eval value env) (fun o s₁ => wpAny (model prog w) A (eval slice env) (fun i s₂ => s₂.TypeIs o T /\ wpAny (model prog w) A (getItem o i) Q E s₂) E s₁) E s) :
  wpAny (model prog w) A (eval (.Subscript value slice pos) env) Q E s := by
 refine Subscript_ (wpAny_mono h (fun o s₁ h₁ => wpAny_mono h₁ (fun i s₂ h₂ => ?_) fun _ _ x => x) fun _ _ x => x)
 obtain ⟨hT, h₂⟩ := h₂
 unfold subscriptTail
 refine wpAny_bind ?_
 rw [getitemInPython_of_ne hT.not_modules]
 refine wpAny_bind (wpAny_specialOf hT hl ?_)
 have fin : wpAny (model prog w) A (subscripted slice false o i) (fun r s₃ => wpAny (model prog w) A (letTemporaryGo value o r >>= fun _ => pure r) Q E s₃) E s₂ := by
  rw [hs o i]
  exact wpAny_operating (wpAny_mono h₂ (fun r s₃ h₃ => wpAny_bind (wpAny_letTemporaryGo (wpAny_pure h₃))) fun _ _ x => x)
 first
  | exact wpAny_pure (wpAny_bind fin)
  | exact wpAny_bind (wpAny_pure (wpAny_bind fin))
  | exact wpAny_bind fin
theorem y0d {X : Cx} {pins : List (Addr × Obj)} {σ : St} {H : Hp} {s : Shared} {a : Addr} {y : V} {o : Option V} (I : Inv X pins σ H s) (g : DGet H a y o) : s.TypeIs (.ref a) "dict" := by
 rcases g with ⟨kvs, k, e, _, _⟩ | ⟨kvs, k, b, e, _, _, _⟩
 ·obtain ⟨_, _, vs, _, dd⟩ := y4f I.hok e
  exact dd.typeIs
 ·obtain ⟨_, _, xs, _, dd⟩ := y43 I.hok e
  exact dd.typeIs
def tDGet (td ty : TE) : TE := fun σ H Q => td σ H fun x H1 => ty σ H1 fun y H2 => ∃ a v, x = .ref a /\ DGet H2 a y (some v) /\ Q v H2
def tDIn (ty td : TE) : TE := fun σ H Q => ty σ H fun y H1 => td σ H1 fun x H2 => ∃ a o, x = .ref a /\ DGet H2 a y o /\ Q (.bl o.isSome) H2
def sDPut (td ty tv : TE) : TS := fun D σ H => tv σ H fun v H1 => td σ H1 fun x H2 => ty σ H2 fun y H3 => ∃ a H4, x = .ref a /\ DPut H3 a y v H4 /\ D.nx σ H4
section
variable {X : Cx} {o i e value : Expr} {pos pos' tpos : Pos} {td ty tv : TE}
theorem z69 (hu : X.A.units + 1 < cLine) (ho : PE X o td) (hi : PE X i ty) (hs : NoSl i) : PE X (.Subscript o i pos) (tDGet td ty) := by
 intro pins s σ H Q I h
 refine y5V PySem.F.slot_dict_getitem.lookup hs (thn (ho pins s σ H _ I h) fun u s1 ⟨x, H1, I1, rx, q1⟩ => thn (hi pins s1 σ H1 _ I1 q1) fun iv s2 hz => ?_)
 obtain ⟨y, H2, I2, ry, a, v, ex, g, q2⟩ := hz
 subst ex
 obtain rfl : u = Value.ref a := rx
 exact ⟨y0d I2 g, y20 hu I2 g ry fun w' s3 I3 rw' => ⟨v, H2, I3, rw', q2⟩⟩
theorem y3t (hu : X.A.units + 1 < cLine) (hi : PE X i ty) (ho : PE X o td) : PC X .In i o (tDIn ty td) := by
 intro pins s σ H Q I h
 refine thn (hi pins s σ H _ I h) fun iv s1 ⟨y, H1, I1, ry, q1⟩ => thn (ho pins s1 σ H1 _ I1 q1) fun u s2 hz => ?_
 obtain ⟨x, H2, I2, rx, a, ov, ex, g, q2⟩ := hz
 subst ex
 obtain rfl : u = Value.ref a := rx
 exact d_in hu I2 g ry fun s3 I3 => ⟨.bl ov.isSome, H2, I3, rfl, q2⟩
theorem y04 (hu : X.A.units + 1 < cLine) (ho : PE X o td) (hi : PE X i ty) (hv : PE X value tv) (hs : swapsWith value (some (.Subscript o i pos')) pos.line X.env = pure false) :
  PS X (.Assign [.Subscript o i pos'] value pos) (sDPut td ty tv) := by
 intro pins s σ H D I h
 refine wpAny_Assign_Subscript (thn (hv pins s σ H _ I h) fun r s1 ⟨v, H1, I1, rv, q1⟩ => thn (ho pins s1 σ H1 _ I1 q1) fun u s2 ⟨x, H2, I2, rx, q2⟩ => thn (hi pins s2 σ H2 _ I2 q2) fun iv s3 hz => ?_) hs
 obtain ⟨y, H3, I3, ry, a, H4, ex, g, q3⟩ := hz
 subst ex
 obtain rfl : u = Value.ref a := rx
 exact y2u hu I3 g ry rv fun s4 I4 => ⟨σ, H4, I4, q3⟩
end
theorem y41 {P : Program} {w : World} {H : Hp} (h : Heap) (hb : sysModules < h.objs.size) : z1f P w H (h.push { cls := .type "dict", data := .dict #[] }) h.objs.size (.dK []) :=
 ⟨Nat.zero_le _, beq_eq_false_iff_ne.mpr (Ne.symm (Nat.ne_of_lt hb)), [], .nil, Heap.DictOf.new h⟩
def y6x : TE := fun _ H Q => ∀ p, H p = none -> Q (.ref p) (upd H p (.dK []))
section
variable {X : Cx} {pos : Pos}
theorem y0F : PE X (.Dict [] [] pos) y6x := fun pins s σ H Q I h =>
 wpAny_Dict_empty ⟨.ref s.heap.objs.size, _, I.laid (a := s.heap.objs.size) (o := .dK []) (t' := s.toks) (fun _ _ q => Heap.get?_push_of_some _ q) (Nat.le_refl _) (y41 s.heap I.big), rfl, h _ (I.hok.fresh (Nat.le_refl _))⟩
end
section
variable {X : Cx} {pins : List (Addr × Obj)} {σ : St} {H : Hp} {s : Shared} {a : Addr} {y d : V} {u r : Value} {o : Option V} {A : Around} {E : Value -> Shared -> Prop}
end
section
variable {X : Cx} {o e f : Expr} {apos cpos : Pos} {td ty tx : TE}
end
section
variable {X : Cx} {pins : List (Addr × Obj)} {σ : St} {H : Hp} {s : Shared} {a : Addr} {kvs : List (Key × V)} {A : Around} {E : Value -> Shared -> Prop}
end
section
variable {X : Cx} {pins : List (Addr × Obj)} {σ : St} {H : Hp} {s : Shared} {a : Addr} {y : V} {u : Value} {A : Around} {E : Value -> Shared -> Prop}
end
structure MCal (P : Program) (w : World) (K : PySem.W.Frag) (mg : Str -> Option Value) (base : Heap) (k : Nat) (C : Addr) (m : Str) (ps : List Str) (sp : Sp) : Prop where
 cl : Cls K C
 ex : ∃ (f : Addr) (fd : FuncData), FnOk P w K mg base CX0 k f fd ps sp /\ z1G K fd ps [] /\ Meth K C m f
theorem MCal.mk' {P : Program} {w : World} {K : PySem.W.Frag} {mg : Str -> Option Value} {base : Heap} {k : Nat} {C : Addr} {m : Str} {ps : List Str} {sp : Sp} {f : Addr} {fd : FuncData} (c : Cls K C) (a : FnOk P w K mg base CX0 k f fd ps sp) (b : z1G K fd ps []) (d : Meth K C m f) :
  MCal P w K mg base k C m ps sp := ⟨c, f, fd, a, b, d⟩
section
variable {X : Cx} {k : Nat} {C : Addr} {m x : Str} {ps : List Str} {sp : Sp} {o e : Expr} {es : List Expr} {ta : TE} {t : TA} {p pos apos : Pos} {pl : Sem Bool}
theorem z1X (G : MCal X.prog X.w X.K X.mg X.base k C m ps sp) (hr : Room k X.A) (he : PE X o ta) (ha : PA X (e :: es) t)
  (hst : starEach (e :: es) X.env = (false, eval e X.env) :: starEach es X.env := by rfl) (hpl : (backTo pos (starEach es X.env)).any (·.1) = false := by rfl)
  (ht : eval (.Call (.Attribute o m apos) (e :: es) [] pos) X.env = (do
   let ov <- eval o X.env
   standAt apos.atName
   let (f, first) <- holding [ov] (getMethod ov m pl)
   callWith pos f first (backTo pos (starEach (e :: es) X.env)) (backToKw pos (keywordEach [] X.env))) := by rfl) :
  PE X (.Call (.Attribute o m apos) (e :: es) [] pos) (y3z C m sp [] E0 ta t) := by
 obtain ⟨f, fd, a, b, d⟩ := G.ex
 exact y28 he G.cl d a hr b .nil y1x ha hst hpl ht
theorem z1I (G : MCal X.prog X.w X.K X.mg X.base k C m ps sp) (hr : Room k X.A) (he : PE X o ta)
  (ht : eval (.Call (.Attribute o m apos) [] [] pos) X.env = (do
   let ov <- eval o X.env
   standAt apos.atName
   let (f, first) <- holding [ov] (getMethod ov m pl)
   callWith pos f first (backTo pos (starEach [] X.env)) (backToKw pos (keywordEach [] X.env))) := by rfl) :
  PE X (.Call (.Attribute o m apos) [] [] pos) (y3z C m sp [] E0 ta tNil) := by
 obtain ⟨f, fd, a, b, d⟩ := G.ex
 exact y4H he G.cl d a hr b .nil y1x ht
end
structure Mkr (P : Program) (w : World) (K : PySem.W.Frag) (mg : Str -> Option Value) (base : Heap) (k : Nat) (C : Addr) (x : Str) (ps : List Str) (sp : Sp) : Prop where
 ex : ∃ (f : Addr) (fd : FuncData), FnOk P w K mg base CX0 k f fd ps sp /\ z1G K fd ps [] /\ Mk K C f /\ mg x = some (.ref C)
theorem Mkr.mk' {P : Program} {w : World} {K : PySem.W.Frag} {mg : Str -> Option Value} {base : Heap} {k : Nat} {C : Addr} {x : Str} {ps : List Str} {sp : Sp} {f : Addr} {fd : FuncData} (a : FnOk P w K mg base CX0 k f fd ps sp) (b : z1G K fd ps []) (c : Mk K C f) (d : mg x = some (.ref C)) :
  Mkr P w K mg base k C x ps sp := ⟨f, fd, a, b, c, d⟩
section
variable {X : Cx} {k : Nat} {C : Addr} {m x : Str} {ps : List Str} {sp : Sp} {o e : Expr} {es : List Expr} {ta : TE} {t : TA} {p pos apos : Pos}
theorem y3A (G : Mkr X.prog X.w X.K X.mg X.base k C x ps sp) (hr : Room (k + 1) X.A) (hg : Gl X x) (ha : PA X (e :: es) t)
  (hdb : (x == ("__debug__" : Str)) = false := by decide) (he : starEach (e :: es) X.env = (false, eval e X.env) :: starEach es X.env := by rfl) (hpl : (backTo pos (starEach es X.env)).any (·.1) = false := by rfl) :
  PE X (.Call (.Name x p) (e :: es) [] pos) (y6D C sp [] E0 t) := by
 obtain ⟨f, fd, a, b, c, d⟩ := G.ex
 exact y5p c a hr hg d b .nil y1x ha hdb he hpl
theorem z28 {n : Int} (hg : Gl X x) (hm : ∃ t, X.mg x = some (.int n t)) (hd : (x == ("__debug__" : Str)) = false := by decide) : PE X (.Name x pos) (tC (.int n)) := by
 obtain ⟨t, e⟩ := hm
 exact y2X hg e ⟨t, rfl⟩ hd
end
def y4S (K : PySem.W.Frag) : List V -> Hp -> VK -> Prop := fun xs H Q => ∃ p ys, xs = [.ref p] /\ ((SqL K H p ys /\ ∀ l, H l = none -> Q (.ref l) (upd H l (.tup ys))) \/ (SqT K H p ys /\ Q (.ref p) H))
section
variable {X : Cx} {K : PySem.W.Frag}
theorem z4x (h : X.K = K) : z3o X (.type "tuple") (y4S K) := by
 subst h
 exact z0o
end
section
variable {X : Cx}
def y6Q (K : PySem.W.Frag) (le : Int -> Int -> Prop) : List V -> Hp -> VK -> Prop := fun xs H Q => ∃ p ns, xs = [.ref p] /\ SqI K H p ns /\ ns ≠ [] /\ ∀ m, m ∈ ns -> (∀ y ∈ ns, le y m) -> Q (.int m) H
theorem y1P (hc : X.calm = true) : z3o X (.builtin "max") (y6Q X.K fun y m => y ≤ m) := by
 intro pins s σ H xs us Q I r h
 obtain ⟨a, ns, rfl, hq, hn, q⟩ := h
 obtain ⟨u, rfl, ru⟩ := z4h r
 cases ru
 refine call_max_walk (z5F (A := X.A.in1) I (I.ok.hd hc) hq fun it fp St its s3 rv W st hfp back => ?_)
 have hl := rv.length
 rw [List.length_map] at hl
 have h0 : 0 < its.length := by
  rw [<- hl]
  exact List.length_pos_iff.mpr hn
 refine ⟨it, fp, [it], _, _, St, _, rfl, W, st, hfp, by rw [List.size_toArray]; exact h0, CmpOf.ints_gt (fun i => ns.getD i 0) (z2R rv), fun v h' tk hv k => ?_⟩
 rw [List.size_toArray] at hv
 obtain ⟨t, rfl⟩ := z2R rv _ _ hv
 obtain ⟨b1, b2⟩ := z8T (fun i => ns.getD i 0) (its.length - 1)
 refine ⟨.int _, H, back h' tk k, ⟨t, rfl⟩, q _ (z6E (by omega)) fun y hy => ?_⟩
 obtain ⟨i, hi, rfl⟩ := z6O hy
 exact b2 i (by omega)
theorem y1N (hc : X.calm = true) : z3o X (.builtin "min") (y6Q X.K fun y m => m ≤ y) := by
 intro pins s σ H xs us Q I r h
 obtain ⟨a, ns, rfl, hq, hn, q⟩ := h
 obtain ⟨u, rfl, ru⟩ := z4h r
 cases ru
 refine call_min_walk (z5F (A := X.A.in1) I (I.ok.hd hc) hq fun it fp St its s3 rv W st hfp back => ?_)
 have hl := rv.length
 rw [List.length_map] at hl
 have h0 : 0 < its.length := by
  rw [<- hl]
  exact List.length_pos_iff.mpr hn
 refine ⟨it, fp, [it], _, _, St, _, rfl, W, st, hfp, by rw [List.size_toArray]; exact h0, CmpOf.ints_lt (fun i => ns.getD i 0) (z2R rv), fun v h' tk hv k => ?_⟩
 rw [List.size_toArray] at hv
 obtain ⟨t, rfl⟩ := z2R rv _ _ hv
 obtain ⟨b1, b2⟩ := z8t (fun i => ns.getD i 0) (its.length - 1)
 refine ⟨.int _, H, back h' tk k, ⟨t, rfl⟩, q _ (z6E (by omega)) fun y hy => ?_⟩
 obtain ⟨i, hi, rfl⟩ := z6O hy
 exact b2 i (by omega)
end
end L2
namespace L2
open PySem
section
variable {prog : Program} {w : World} {A : Around} {E : Value -> Shared -> Prop} {s : Shared} {κ : Type} [DecidableEq κ] {kd : KeyKind prog w κ} {led : Bool}
end
end L2
namespace L2
open PySem PySem.Spec PyProof.Rows
namespace Ty
end Ty
section
variable {prog : Program} {w : World} {A : Around} {E : Value -> Shared -> Prop} {s : Shared}
end
namespace Ty
end Ty
section
variable {prog : Program} {w : World} {A : Around} {E : Value -> Shared -> Prop} {s : Shared} {κ : Type} [DecidableEq κ] {kd : KeyKind prog w κ}
end
section
variable {X : Cx}
end
theorem z2k : Slot "reversed" "__next__" "reversed.__next__" :=
 .of (owner := "reversed") (n := "__next__") (by rw [typeLookup_type, builtinLookup_eq_fast]; kernel_rfl) (by decide +kernel) (by decide +kernel) (by decide +kernel) (by first | exact .inl (by decide +kernel) | exact .inr (by decide +kernel)) (by rw [isSubtype_type]; kernel_rfl)
theorem z6v : Slot "reversed" "__iter__" "reversed.__iter__" :=
 .of (owner := "reversed") (n := "__iter__") (by rw [typeLookup_type, builtinLookup_eq_fast]; kernel_rfl) (by decide +kernel) (by decide +kernel) (by decide +kernel) (by first | exact .inl (by decide +kernel) | exact .inr (by decide +kernel)) (by rw [isSubtype_type]; kernel_rfl)
theorem z9g : Slot "reversed" "__init__" "object.__init__" :=
 .of (owner := "object") (n := "__init__") (by rw [typeLookup_type, builtinLookup_eq_fast]; kernel_rfl) (by decide +kernel) (by decide +kernel) (by decide +kernel) (by first | exact .inl (by decide +kernel) | exact .inr (by decide +kernel)) (by rw [isSubtype_type]; kernel_rfl)
theorem z5g : entryFor table "reversed.__next__" = some Builtin.«reversed.__next__» := entryFor_of_tree (by kernel_rfl)
theorem z8N : entryFor table "reversed.__iter__" = some Builtin.«dict_keyiterator.__iter__» := entryFor_alias (id' := "dict_keyiterator.__iter__") (by kernel_rfl) (by first | rfl | decide +kernel | (unfold String.splitOn; simp +decide [String.splitOnAux])) (by decide +kernel) (by kernel_rfl)
theorem z6l (a : Value) : argsOk "reversed.__next__" ⟨[a], []⟩ := by unfold argsOk; kernel_rfl
theorem z92 (a : Value) : argsOk "reversed.__iter__" ⟨[a], []⟩ := by unfold argsOk; kernel_rfl
theorem z7e : TypeCalled "reversed" "reversed.__new__" "object.__init__" :=
 ⟨by decide +kernel, by decide +kernel, ⟨_, _, PySem.F.mro_reversed⟩, PySem.F.made_reversed, by decide +kernel, PySem.F.sub_reversed_self, z9g⟩
theorem z8v : typeLookup (.type "tuple") "__reversed__" = pure none := by rw [typeLookup_type, builtinLookup_eq_fast]; kernel_rfl
theorem y1J : isSubtype (.type "tuple") (.type "dict") = pure false := by rw [isSubtype_type]; kernel_rfl
abbrev z8X (t : Addr) (i : Int) : Obj := { cls := .type "reversed", dict := none, data := .fields #[.ref t, rawInt i], slots := #[] }
section
variable {prog : Program} {w : World} {A : Around} {E : Value -> Shared -> Prop} {s : Shared}
theorem y0i {t : Addr} {items : Array Value} {Q : Value -> Shared -> Prop} (ht : IsTup s.heap t items) (hf : (items.size : Int) < 2 ^ 63) (h : ∀ tk, Q (.ref s.heap.objs.size) { s with heap := s.heap.push (z8X t ((items.size : Int) - 1)), toks := tk }) :
  codeAny (model prog w) A (.call (.builtin "reversed.__new__") ⟨[.type "reversed", .ref t], []⟩) (wants Q E) s := by
 refine codeAny_of_tree ?_
 show wpAny _ A.in1 (do checkBuiltinCall "reversed.__new__" ⟨[.type "reversed", .ref t], []⟩; again (.builtin "reversed.__new__" ⟨[.type "reversed", .ref t], []⟩)) _ _ s
 refine wpAny_bind (wpAny_of_eq (PySem.F.newCall_reversed_1 _) (wpAny_pure ⟨plainId_quiet PySem.F.plain_reversed_new _, codeAny_builtin PySem.F.entry_reversed_new ?_⟩))
 rw [Around.under_plainId PySem.F.plain_reversed_new _]
 unfold Builtin.«reversed.__new__»
 refine wpAny_bind (wpAny_of_eq (newClass_reversed _) ?_)
 try dsimp only
 refine wpAny_bind (wpAny_of_eq (a := ()) (by first | rfl | kernel_rfl) ?_)
 refine wpAny_bind (wpAny_of_eq (a := ()) (by first | rfl | kernel_rfl) ?_)
 try dsimp only
 refine wpAny_bind (wpAny_specialOf ht.typeIs z8v ?_)
 try dsimp only
 refine wpAny_bind ?_
 show wpAny _ _ (isInstance (.ref t) (.type "dict") >>= fun b => _) _ _ _
 refine wpAny_bind (wpAny_isInstance (T := "tuple") ht.typeIs y1J ?_)
 rw [if_neg (by decide)]
 refine wpAny_bind (wpAny_specialOf ht.typeIs slot_tuple_getitem.lookup ?_)
 dsimp only
 rw [if_pos (by decide +kernel)]
 refine wpAny_pure ?_
 rw [if_neg (by decide)]
 refine wpAny_bind (len_tuple ht hf ?_)
 refine wpAny_bind (wpAny_of_eq (a := some (items.size : Int)) rfl ?_)
 dsimp only
 refine wpAny_bind ?_
 show wpAny _ _ (newObj (.type "reversed") (.fields #[.ref t, rawInt ((items.size : Int) - 1)])) _ _ _
 exact wpAny_newObj_type (wpAny_pure (h _)) (by size_fits)
theorem y5I {t : Addr} {items : Array Value} {Q : Value -> Shared -> Prop} (ht : IsTup s.heap t items) (hf : (items.size : Int) < 2 ^ 63) (h : ∀ tk, Q (.ref s.heap.objs.size) { s with heap := s.heap.push (z8X t ((items.size : Int) - 1)), toks := tk }) :
  wpAny (model prog w) A (call (.type "reversed") [.ref t]) Q E s := by
 refine callType_codes (Q₁ := fun obj s₁ => obj = .ref s.heap.objs.size /\ ∃ tk, s₁ = { s with heap := s.heap.push (z8X t ((items.size : Int) - 1)), toks := tk }) z7e (PySem.F.typeCall_reversed_1 _) F.entry_object_init (y0i ht hf fun tk => ⟨rfl, tk, rfl⟩) ?_
 rintro obj s₁ ⟨rfl, tk, rfl⟩
 have ty : Shared.TypeIs { s with heap := s.heap.push (z8X t ((items.size : Int) - 1)), toks := tk } (.ref s.heap.objs.size) "reversed" := ⟨_, Heap.get?_push_size _ rfl, rfl⟩
 exact ⟨ty, F.args_object_init_2 _ _, object_init_meets z7e.init.lookup z7e.made (by decide) _ _ _ _ _ ⟨ty, rfl, h tk⟩⟩
theorem y5o {I t : Addr} {i : Nat} {items : Array Value} {x : Value} {Q : Option Value -> Shared -> Prop} (hI : s.heap.get? I = some (z8X t (i : Int))) (ht : IsTup s.heap t items) (hx : items[i]? = some x) (hz : (items.size : Int) < 2 ^ 63)
  (hQ : ∀ h' tk, h'.get? I = some (z8X t ((i : Int) - 1)) -> Heap.SameBut I s.heap h' -> Q (some x) { s with heap := h', toks := tk }) : wpAny (model prog w) A (pyNext (.ref I)) Q E s := by
 have ty : s.TypeIs (.ref I) "reversed" := ⟨_, hI, rfl⟩
 have hi : i < items.size := (Array.getElem?_eq_some_iff.mp hx).1
 unfold pyNext
 refine wpAny_bind (wpAny_attempt (wpAny_callSpecial?_slot (name := Str.ofString "__next__") ty z2k
  (wpAny_call_entry z2k ty z5g ?_ (z6l _))))
 unfold Builtin.«reversed.__next__»
 refine wpAny_bind (wpAny_of_eq (a := (Value.ref I, [])) rfl ?_)
 try dsimp only
 refine wpAny_bind (wpAny_field hI rfl (x := .ref t) rfl ?_)
 refine wpAny_bind (wpAny_field hI rfl (x := rawInt (i : Int)) rfl ?_)
 show wpAny _ _ (if (i : Int) < 0 then _ else _) _ _ s
 rw [if_neg (by omega)]
 refine wpAny_bind (wpAny_specialOf ht.typeIs slot_tuple_getitem.lookup ?_)
 rw [if_neg (by decide)]
 refine wpAny_bind (wpAny_mkInt ?_)
 refine wpAny_bind (wpAny_attempt (getItem_tuple (j := i) (x := x) ht (by omega) (by omega) ?_ hx ?_))
 ·exact seqIndex_of (by omega) (by omega)
 dsimp only
 refine wpAny_bind (wpAny_field hI rfl (x := rawInt (i : Int)) rfl ?_)
 show wpAny _ _ (setField (.ref I) 1 (rawInt ((i : Int) - 1)) >>= _) _ _ _
 refine wpAny_bind (wpAny_setField hI rfl (by simp) ?_)
 refine wpAny_pure ⟨x, rfl, wpAny_pure (hQ _ _ ?_ (Heap.SameBut.update ..))⟩
 exact Heap.get?_update_self _ hI rfl
theorem y6l {I t : Addr} {Q : Option Value -> Shared -> Prop} (hh : A.handled = none) (hI : s.heap.get? I = some (z8X t (-1)))
  (hQ : ∀ h', Heap.ExtBut I s.heap h' -> Q none { s with heap := h' }) : wpAny (model prog w) A (pyNext (.ref I)) Q E s := by
 have ty : s.TypeIs (.ref I) "reversed" := ⟨_, hI, rfl⟩
 unfold pyNext
 refine wpAny_bind (wpAny_attempt (wpAny_callSpecial?_slot (name := Str.ofString "__next__") ty z2k
  (wpAny_call_entry z2k ty z5g ?_ (z6l _))))
 unfold Builtin.«reversed.__next__»
 refine wpAny_bind (wpAny_of_eq (a := (Value.ref I, [])) rfl ?_)
 try dsimp only
 refine wpAny_bind (wpAny_field hI rfl (x := .ref t) rfl ?_)
 refine wpAny_bind (wpAny_field hI rfl (x := rawInt (-1)) rfl ?_)
 show wpAny _ _ (if (-1 : Int) < 0 then _ else _) _ _ s
 rw [if_pos (by decide)]
 refine wpAny_bind (wpAny_rule ?_)
 refine wpAny_bind ?_
 show wpAny _ _ (setField (.ref I) 1 (rawInt (-1)) >>= fun _ => setField (.ref I) 0 .none) _ _ _
 refine wpAny_bind (wpAny_setField hI rfl (by simp) ?_)
 have g1 := Heap.get?_update_self (Obj.mapFields (·.setIfInBounds 1 (rawInt (-1)))) hI rfl
 have b1 : Heap.SameBut I s.heap (s.heap.update I (Obj.mapFields (·.setIfInBounds 1 (rawInt (-1))))) := Heap.SameBut.update ..
 refine wpAny_setField (vs := #[.ref t, rawInt (-1)]) g1 rfl (by simp) ?_
 have b2 : Heap.SameBut I (s.heap.update I (Obj.mapFields (·.setIfInBounds 1 (rawInt (-1))))) ((s.heap.update I (Obj.mapFields (·.setIfInBounds 1 (rawInt (-1))))).update I (Obj.mapFields (·.setIfInBounds 0 .none))) := Heap.SameBut.update ..
 refine wpAny_bind ?_
 unfold Builtin.SmallTypes.stopIteration
 refine wpAny_bind ?_
 simp only [newExc, newTuple]
 refine wpAny_bind (wpAny_newObj_type ?_ (by size_fits))
 refine wpAny_bind (m := firstArgMember _ _) (wpAny_of_eq (a := Value.none) (by first | rfl | (simp only [firstArgMember]; rfl)) (wpAny_newObj_type ?_ (by size_fits)))
 simp only [raiseNew]
 refine wpAny_bind (wpAny_handled ?_)
 rw [show A.in1.handled = none from hh]
 refine wpAny_bind (wpAny_pure (wpAny_throw ?_))
 refine wpAny_bind (wpAny_isInstance (T := "StopIteration") (b := true) ⟨_, Heap.get?_push_size _ rfl, rfl⟩ isSubtype_stop ?_)
 exact wpAny_pure (hQ _ fun b o hb e => Heap.get?_push_of_some _ (Heap.get?_push_of_some _ ((b2.2 b hb).trans ((b1.2 b hb).trans e))))
theorem y3b {I t : Addr} {i : Int} {Q : Value -> Shared -> Prop} (hI : s.heap.get? I = some (z8X t i)) (h : Q (.ref I) s) : wpAny (model prog w) A (pyIter (.ref I)) Q E s := by
 have ty : s.TypeIs (.ref I) "reversed" := ⟨_, hI, rfl⟩
 refine wpAny_pyIter_slot ty z6v (wpAny_call_entry z6v ty z8N ?_ (z92 _))
 show wpAny _ _ (ret (.ref I)) _ _ s
 exact wpAny_pure ⟨_, rfl, "reversed", _, ty, z2k.lookup, h⟩
end
def Itv (K : PySem.W.Frag) (a : Addr) (n : Nat) : It :=
 ⟨fun i H => i < n /\ ∃ xs, SqT K H a xs /\ xs.length = n, fun i H x H' => H' = H /\ ∀ xs, SqT K H a xs -> xs.reverse[i]? = some x, fun i H => n ≤ i⟩
theorem y4t {P : Program} {w : World} {K : PySem.W.Frag} {tg : Expr} (a it : Addr) (n : Nat) : Turn P w K tg (Itv K a n) [it] it (fun i h => i ≤ n /\ h.get? it = some (z8X a ((n : Int) - 1 - (i : Int)))) where
 mem := by simp
 obj := fun i h st b hb => by
  have e : b = it := by simpa using hb
  subst e
  exact ⟨_, st.2, fun v z => by
   have z' : Data.fields _ = Data.cell v := z
   cases z'⟩
 keep := fun i h h' st k => ⟨st.1, k it (by simp) _ st.2⟩
 item := by
  intro X hP hw hK hc i pins s σ H E I hf st hg
  subst hP hw hK
  obtain ⟨hi, xs, hq, hn⟩ := hg
  obtain ⟨its, rv, p, hz⟩ := I.tuple hq
  have ln : xs.length = its.length := rv.length
  have hk : n - 1 - i < xs.length := by omega
  obtain ⟨u, hu, ru⟩ := rv.get (List.getElem?_eq_getElem hk)
  obtain ⟨f0, f1, f2, f3, f4, f5⟩ := hf it (by simp)
  have e1 : (n : Int) - 1 - (i : Int) = ((n - 1 - i : Nat) : Int) := by omega
  have st1 := st.2
  rw [e1] at st1
  refine y5o st1 (show IsTup s.heap a its.toArray from p) (x := u) (by simpa using hu) ?_ fun h' tk st' sb => ?_
  ·have : its.toArray.size = xs.length := by simp [ln]
   rw [this]
   have := Nat.lt_of_le_of_lt hz z6r
   omega
  have I1 : Inv X pins σ H { s with heap := h', toks := tk } := I.turned (t' := tk) (fun b o hb e => (sb.2 b hb).trans e) f0 f1 f3 f4 f5
  refine ⟨u, rfl, y3u (s := { s with heap := h', toks := tk }) st' rfl rfl (by decide) ⟨xs[n - 1 - i], H, I1, ru, ⟨rfl, fun ys hy => ?_⟩, ⟨hi, ?_⟩, fun b hb => (hf b hb).1⟩⟩
  ·rw [I.tuple_inj hy hq, List.getElem?_reverse (by omega), List.getElem?_eq_getElem (by omega)]
   congr 2
   omega
  ·have e2 : (n : Int) - 1 - ((i + 1 : Nat) : Int) = ((n - 1 - i : Nat) : Int) - 1 := by omega
   rw [e2]
   exact st'
 done := by
  intro X hP hw hK hc i pins s σ H E I hf st hg
  subst hP hw hK
  obtain ⟨f0, f1, f2, f3, f4, f5⟩ := hf it (by simp)
  have hg' : n ≤ i := hg
  have st1 := st.2
  rw [show (n : Int) - 1 - (i : Int) = -1 by have := st.1; omega] at st1
  exact y6l (I.ok.hd hc) st1 fun h' eb => ⟨rfl, I.turned (t' := s.toks) (fun b o hb e => eb b o hb e) f0 f1 f3 f4 f5⟩
 self := fun _ _ _ _ _ st h => y3b st.2 h
section
variable {X : Cx} {tg : Expr}
def iRev (K : PySem.W.Frag) (ta : TA) : TI := fun σ H R => ta σ H fun vs H1 => ∃ a xs, vs = [.ref a] /\ SqT K H1 a xs /\ R (Itv K a xs.length) H1
theorem y4Q {e : Expr} {ta : TA} {p pos : Pos} (hg : Gl X "reversed") (hm : X.mg "reversed" = none) (ha : PA X [e] ta) (hs : starEach [e] X.env = [(false, eval e X.env)] := by rfl) : PI X tg (.Call (.Name "reversed" p) [e] [] pos) (iRev X.K ta) := by
 intro pins s σ H R I h
 refine Call_ (z4K I hg hm boot_reversed (PyProof.Rows.callWith_type1 (thn (ha pos pins s σ H _ I h) fun us s1 ⟨vs, H1, I1, r1, q1⟩ => ?_) hs rfl))
 obtain ⟨a, xs, e, hq, q⟩ := q1
 subst e
 cases r1 with
 | cons r rr =>
  cases rr
  cases r
  obtain ⟨its, rv, p, hz⟩ := I1.tuple hq
  have ln : (its.toArray.size : Int) = xs.length := by simp [rv.length]
  refine y5I (show IsTup s1.heap a its.toArray from p) ?_ fun tk => ?_
  ·rw [ln]
   have := Nat.lt_of_le_of_lt hz z6r
   omega
  refine y3b (Heap.get?_push_size _ rfl) ?_
  refine ⟨s1.heap.objs.size, [s1.heap.objs.size], _, _, H1, rfl, I1.kept (t' := tk) fun b o e => Heap.get?_push_of_some _ e, y4t a _ xs.length, ⟨Nat.zero_le _, ?_⟩, fun b hb => ?_, q⟩
  ·rw [show (xs.length : Int) - 1 - ((0 : Nat) : Int) = (its.toArray.size : Int) - 1 by rw [ln]; simp]
   exact Heap.get?_push_size _ rfl
  ·have e : b = s1.heap.objs.size := by simpa using hb
   subst e
   exact I1.fpOk (Nat.le_refl _) (I1.hok.fresh (Nat.le_refl _))
end
theorem y3V {K : PySem.W.Frag} {a : Addr} {xs : List V} {g : TG} {tc : TT} {te : TE} {σ0 : St} {H1 : Hp} {F : List V -> Hp -> Prop} (Pv : Nat -> List V -> Hp -> Prop) (h0 : Pv 0 [] H1)
  (hl : ∀ i ys H, i ≤ xs.length -> Pv i ys H -> SqT K H a xs /\ ys.length < sizeLine)
  (hs : ∀ i x ys H, xs.reverse[i]? = some x -> Pv i ys H -> z1g g tc te σ0 x H ys (Pv (i + 1))) (hd : ∀ ys H, Pv xs.length ys H -> F ys H) : z8I (Itv K a xs.length) g tc te σ0 H1 F := by
 refine ⟨fun i m ys H => m = xs.length - i /\ i ≤ xs.length /\ Pv i ys H, ⟨xs.length, by simp, Nat.zero_le _, h0⟩, ?_⟩
 rintro i m ys H ⟨rfl, hi, p⟩
 obtain ⟨q, z⟩ := hl i ys H hi p
 by_cases hlt : i < xs.length
 ·refine .inr ⟨⟨hlt, xs, q, rfl⟩, z, Pv (i + 1), fun zs H' p' => ⟨xs.length - (i + 1), by omega, rfl, hlt, p'⟩, fun x H' y => ?_⟩
  obtain ⟨e, y⟩ := y
  subst e
  exact hs i x ys _ (y xs q) p
 ·have e : i = xs.length := by omega
  subst e
  exact .inl ⟨Nat.le_refl _, hd ys H p⟩
theorem y62 {K : PySem.W.Frag} {a : Addr} {xs : List V} {g : TG} {tb : TS} {D : Ends} {σ : St} {H : Hp} (Pv : Nat -> St -> Hp -> Prop) (h0 : Pv 0 σ H) (hl : ∀ i σ H, i ≤ xs.length -> Pv i σ H -> SqT K H a xs)
  (hs : ∀ i x σ H, xs.reverse[i]? = some x -> Pv i σ H -> g x σ H fun σ2 H2 => tb { D with nx := Pv (i + 1), ct := Pv (i + 1), bk := D.nx } σ2 H2) (hd : ∀ σ H, Pv xs.length σ H -> D.nx σ H) :
  ∃ W : Nat -> Nat -> St -> Hp -> Prop, (∃ m, W 0 m σ H) /\ ∀ i m σ H, W i m σ H ->
   ((Itv K a xs.length).stop i H /\ D.nx σ H) \/ ((Itv K a xs.length).go i H /\ ∃ N : St -> Hp -> Prop, (∀ σ' H', N σ' H' -> ∃ m', m' < m /\ W (i + 1) m' σ' H') /\ ∀ x H', (Itv K a xs.length).yld i H x H' -> g x σ H' fun σ2 H2 => tb { D with nx := N, ct := N, bk := D.nx } σ2 H2) := by
 refine ⟨fun i m σ H => m = xs.length - i /\ i ≤ xs.length /\ Pv i σ H, ⟨xs.length, by simp, Nat.zero_le _, h0⟩, ?_⟩
 rintro i m σ H ⟨rfl, hi', p⟩
 have q := hl i σ H hi' p
 by_cases hlt : i < xs.length
 ·refine .inr ⟨⟨hlt, xs, q, rfl⟩, Pv (i + 1), fun σ' H' p' => ⟨xs.length - (i + 1), by omega, rfl, hlt, p'⟩, fun x H' y => ?_⟩
  obtain ⟨e, y⟩ := y
  subst e
  exact hs i x σ _ (y xs q) p
 ·have e : i = xs.length := by omega
  subst e
  exact .inl ⟨Nat.le_refl _, hd σ H p⟩
theorem len0 {us : List Value} {p : List Value -> Prop} (h : us.length = 0) (k : p []) : p us := by rw [List.eq_nil_of_length_eq_zero h]; exact k
theorem len1 {us : List Value} {p : List Value -> Prop} (h : us.length = 1) (k : ∀ a, p [a]) : p us := by
 obtain ⟨a, r, rfl⟩ := List.exists_cons_of_length_eq_add_one h
 exact len0 (p := fun r => p (a :: r)) (Nat.succ.inj h) (k a)
theorem len2 {us : List Value} {p : List Value -> Prop} (h : us.length = 2) (k : ∀ a b, p [a, b]) : p us := by
 obtain ⟨a, r, rfl⟩ := List.exists_cons_of_length_eq_add_one h
 exact len1 (p := fun r => p (a :: r)) (Nat.succ.inj h) (k a)
theorem len3 {us : List Value} {p : List Value -> Prop} (h : us.length = 3) (k : ∀ a b c, p [a, b, c]) : p us := by
 obtain ⟨a, r, rfl⟩ := List.exists_cons_of_length_eq_add_one h
 exact len2 (p := fun r => p (a :: r)) (Nat.succ.inj h) (k a)
theorem len4 {us : List Value} {p : List Value -> Prop} (h : us.length = 4) (k : ∀ a b c d, p [a, b, c, d]) : p us := by
 obtain ⟨a, r, rfl⟩ := List.exists_cons_of_length_eq_add_one h
 exact len3 (p := fun r => p (a :: r)) (Nat.succ.inj h) (k a)
theorem len5 {us : List Value} {p : List Value -> Prop} (h : us.length = 5) (k : ∀ a b c d e, p [a, b, c, d, e]) : p us := by
 obtain ⟨a, r, rfl⟩ := List.exists_cons_of_length_eq_add_one h
 exact len4 (p := fun r => p (a :: r)) (Nat.succ.inj h) (k a)
theorem len6 {us : List Value} {p : List Value -> Prop} (h : us.length = 6) (k : ∀ a b c d e f, p [a, b, c, d, e, f]) : p us := by
 obtain ⟨a, r, rfl⟩ := List.exists_cons_of_length_eq_add_one h
 exact len5 (p := fun r => p (a :: r)) (Nat.succ.inj h) (k a)
theorem Cal.mono {P : Program} {w : World} {K : PySem.W.Frag} {mg : Str -> Option Value} {base : Heap} {j k : Nat} {x : Str} {ps : List Str} {sp : Sp} (G : Cal P w K mg base j x ps sp) (h : j ≤ k) : Cal P w K mg base k x ps sp := by
 obtain ⟨f, fd, a, b, c, d⟩ := G.ex
 exact ⟨f, fd, a.mono h, b, c, d⟩
theorem MCal.mono {P : Program} {w : World} {K : PySem.W.Frag} {mg : Str -> Option Value} {base : Heap} {j k : Nat} {C : Addr} {m : Str} {ps : List Str} {sp : Sp} (G : MCal P w K mg base j C m ps sp) (h : j ≤ k) : MCal P w K mg base k C m ps sp := by
 obtain ⟨f, fd, a, b, c⟩ := G.ex
 exact ⟨G.cl, f, fd, a.mono h, b, c⟩
theorem Mkr.mono {P : Program} {w : World} {K : PySem.W.Frag} {mg : Str -> Option Value} {base : Heap} {j k : Nat} {C : Addr} {x : Str} {ps : List Str} {sp : Sp} (G : Mkr P w K mg base j C x ps sp) (h : j ≤ k) : Mkr P w K mg base k C x ps sp := by
 obtain ⟨f, fd, a, b, c, d⟩ := G.ex
 exact ⟨f, fd, a.mono h, b, c, d⟩
theorem z1B {X : Cx} {x z : Str} {pos : Pos} (hg : Gl X x) (hm : ∃ t, X.mg x = some (.str z t)) (hd : (x == ("__debug__" : Str)) = false := by decide) : PE X (.Name x pos) (tC (.str z)) := by
 obtain ⟨t, e⟩ := hm
 exact y2X hg e ⟨t, rfl⟩ hd
section
variable {X : Cx}
theorem z6f {P : Program} {w : World} : ∀ {ns : List Int} {vs : List Value}, vs.length = ns.length -> (∀ (j : Nat) (v : Value), vs[j]? = some v -> ∃ k : Key, (ns.map Sum.inl)[j]? = some k /\ (z1o P w).is k v = true) -> IntsAre vs ns
 | [], [], _, _ => .nil
 | [], _ :: _, h, _ => by cases h
 | _ :: _, [], h, _ => by cases h
 | n :: ns, v :: vs, h, q => by
  obtain ⟨k, e, hk⟩ := q 0 v rfl
  cases e
  rcases z10 (show y02 (Sum.inl n) v = true from hk) with ⟨i, t, e1, rfl⟩ | ⟨x, t, e1, _⟩
  ·cases e1
   exact .cons n t (z6f (Nat.succ.inj h) fun j u hu => q (j + 1) u hu)
  ·cases e1
theorem z9J {prog : Program} {w : World} {A : Around} {E : Value -> Shared -> Prop} {s : Shared} {R : List Value -> Shared -> Prop} {T : String} {r d : Addr} {n : Nat} {P : Nat -> Value -> Prop} {OK : Heap -> Prop} (K : PySem.W.KdlSrc prog w T r d n P OK) (hh : A.handled = none) (hok : OK s.heap) (hn : n ≤ sizeLine)
  (fin : ∀ (h' : Heap) (tk : Nat) (acc : Array Value), (∀ b o, s.heap.get? b = some o -> h'.get? b = some o) -> s.heap.objs.size < h'.objs.size -> ItemsOf P acc n -> R acc.toList { s with heap := h', toks := tk }) : wpAny (model prog w) A (collect (.ref r)) R E s := by
 have hlt := K.there _ hok
 unfold collect
 refine wpAny_bind (wpAny_runValue (codeAny_builtin entry_proto_collect' ?_))
 rw [Around.under_plainId PySem.F.plain_proto_collect _]
 refine (show wpAny _ A.in1 (newList [] >>= fun l => again (.builtin "list.__iadd__" ⟨[l, .ref r], []⟩)) _ _ s from wpAny_bind (wpAny_newObj_type (wpAny_pure ⟨plainId_quiet PySem.F.plain_list_iadd _, codeAny_builtin entry_list_iadd' ?_⟩)))
 rw [Around.under_plainId PySem.F.plain_list_iadd _]
 have g1 : (s.heap.push { cls := .type "list", data := .seq ([] : List Value).toArray }).get? s.heap.objs.size = some { cls := .type "list", data := .seq #[] } := Heap.get?_push_size _ rfl
 have ext := PySem.W.kdl_extend (A := A) (s := { s with heap := s.heap.push { cls := .type "list", data := .seq ([] : List Value).toArray } })
  (R := fun (q : Result) (s' : Shared) => ∃ (h' : Heap) (tk : Nat) (acc : Array Value) (c' : Nat), q = .ok (.ret (.ref s.heap.objs.size)) /\ s' = { s with heap := h', toks := tk } /\ (∀ b o, s.heap.get? b = some o -> h'.get? b = some o) /\
   h'.get? s.heap.objs.size = some { cls := .type "list", dict := none, data := .seq acc c', slots := #[] } /\ ItemsOf P acc n)
  K hh (K.keep _ _ hok fun b _ o e => Heap.get?_push_of_some _ e) s.heap.objs.size (Nat.ne_of_gt hlt.1) (Nat.ne_of_gt hlt.2) (.ref s.heap.objs.size) 0 g1
  (fun h' tk acc c' k hS' so => ⟨h', tk, acc, c', rfl, rfl, fun b o e => k b o (Nat.ne_of_lt (Heap.lt_size e)) (Heap.get?_push_of_some _ e), hS', so⟩) hn
 refine (show wpAny _ A.in1 (Builtin.List.listExtendWith (.ref s.heap.objs.size) (.ref r) (.ref s.heap.objs.size)) _ _ _ from wpAny_mono ext (fun f s' x => ?_) fun e s' x => ?_)
 ·cases f with
  | done f =>
   obtain ⟨h', tk, acc, c', e, rfl, k, hS', so⟩ := x
   cases e
   exact (show wpAny _ A (load s.heap.objs.size >>= _) _ _ _ from wpAny_bind (wpAny_load hS' (wpAny_pure (fin h' tk _ k (Heap.lt_size hS') so))))
  | again c1 =>
   refine ⟨x.1, codeAny_mono x.2 fun q s2 y => ?_⟩
   obtain ⟨h', tk, acc, c', rfl, rfl, k, hS', so⟩ := y
   exact (show wpAny _ A (load s.heap.objs.size >>= _) _ _ _ from wpAny_bind (wpAny_load hS' (wpAny_pure (fin h' tk _ k (Heap.lt_size hS') so))))
 ·obtain ⟨_, _, _, _, e', _⟩ := x
  cases e'
theorem z3M (hc : X.calm = true) : z3o X (.builtin "sorted") (fun xs H Q => ∃ (p : Addr) (kvs : List (Key × V)) (ns : List Int), xs = [.ref p] /\ H p = some (.dK kvs) /\ kvs.map (·.1) = ns.map Sum.inl /\ ns.length < 64 /\
  ∀ (l : Addr) (ms : List Int), H l = none -> ms.Perm ns -> ms.Pairwise (· ≤ ·) -> Q (.ref l) (upd H l (.lst (ms.map V.int)))) := by
 intro pins s σ H xs us Q I r h
 obtain ⟨p, kvs, ns, rfl, hp, hk, h64, q⟩ := h
 obtain ⟨u, rfl, rx⟩ := z4h r
 cases rx
 obtain ⟨_, lo, kv, rk, dd⟩ := y6k I.hok hp
 obtain ⟨ep, hat⟩ := dd.dictAt
 have lk : kv.length = ns.length := by
  have e1 := rk.length
  have e2 := congrArg List.length hk
  rw [List.length_map, List.length_map] at e2
  omega
 refine Calls.call_function_entry kind_sorted plain_sorted entry_sorted (args_sorted1 _) ?_
 unfold Builtin.«sorted»
 refine wpAny_bind (m := checkCount "sorted" 1 1 _) (wpAny_pure ?_)
 refine wpAny_bind (z9J (A := X.A.in1) (PySem.W.kdl_dict (knd := z1o X.prog X.w) (kvs := kv) (ep := ep) lo) (I.ok.hd hc) hat (by rw [sizeLine_eq]; omega) fun h' tk acc kp slt items => ?_)
 have hi : IntsAre acc.toList ns := z6f (P := X.prog) (w := X.w) (by rw [Array.length_toList, items.1, lk]) fun j v hv => by
  obtain ⟨k, x, e, ik⟩ := items.2 j v (by rw [<- Array.getElem?_toList]; exact hv)
  refine ⟨k, ?_, ik⟩
  rw [<- hk, rk.keys, List.getElem?_map, e]
  rfl
 have lv : acc.toList.length < 64 := by rw [IntsAre.length hi]; exact h64
 refine wpAny_bind (wpAny_newList ?_ (by rw [sizeLine_eq]; omega))
 have g1 : (h'.push (seqObj "list" acc.toList.toArray 0)).get? h'.objs.size = some (seqObj "list" acc.toList.toArray 0) := Heap.get?_push_size _ rfl
 refine wpAny_bind (wpAny_holding (wpAny_call_entry slot_list_sort ⟨_, g1, rfl⟩ entry_list_sort (list_sort_tree g1 hi lv fun out ns' a1 a2 a3 => ⟨_, rfl, ?_⟩) (args_list_sort _)))
 refine wpAny_pure ⟨_, rfl, ?_⟩
 obtain ⟨e, he⟩ := sortedHeap_at (out := out) g1
 have sle : s.heap.objs.size ≤ h'.objs.size := Nat.le_of_lt slt
 have old : ∀ b o, s.heap.get? b = some o -> (sortedHeap (h'.push (seqObj "list" acc.toList.toArray 0)) h'.objs.size acc.toList out).get? b = some o := fun b o e => by
  have hb := Heap.lt_size (kp b o e)
  rw [sortedHeap_old (Nat.ne_of_lt hb) (by rw [size_push']; exact Nat.lt_succ_of_lt hb)]
  exact Heap.get?_push_of_some _ (kp b o e)
 refine ⟨.ref h'.objs.size, _, I.laid (a := h'.objs.size) (o := .lst (ns'.map V.int)) (t' := tk) old sle (show z1f X.prog X.w _ _ _ (.lst (ns'.map V.int)) from ⟨?_, out.toList, e, z7v a1, ?_⟩), rfl, q _ ns' (I.hok.fresh sle) a2 a3⟩
 ·rw [List.length_map, a2.length_eq, sizeLine_eq]
  omega
 ·simpa using he
end
theorem z7S : typeLookup (.type "list") "keys" = pure none := am_miss_of_fast (by kernel_rfl)
theorem z7h : typeLookup (.type "tuple") "keys" = pure none := am_miss_of_fast (by kernel_rfl)
theorem z9F : typeLookup (.type "list") "__getattr__" = pure none := by rw [typeLookup_type, builtinLookup_eq_fast]; kernel_rfl
theorem z8F : typeLookup (.type "tuple") "__getattr__" = pure none := by rw [typeLookup_type, builtinLookup_eq_fast]; kernel_rfl
section
variable {prog : Program} {w : World} {A : Around} {E : Value -> Shared -> Prop} {s : Shared}
theorem z9t {a : Addr} {items : Array Value} {n : Nat} {sl : Array (Option Value)} {u : Tok} {R : Result -> Shared -> Prop} (hA : A.handled = none) (ho : s.heap.get? a = some ⟨.type "list", none, .seq items n, sl⟩) (h : ∀ h' tk e, Heap.NewAttrErr s.heap h' e (.ref a) "keys" -> R (.error (.ref e)) { s with heap := h', toks := tk }) :
  wpAny (model prog w) A.in1 (Builtin.«object.__getattribute__» ⟨[.ref a, .str "keys" u], []⟩) (fun fin s' => match fin with | .done f => R (.ok f) s' | .again c' => c'.quiet = true /\ codeAny (model prog w) A c' R s') (fun e s' => R (.error e) s') s := by
 obtain ⟨hp, g, d, tk, os⟩ := s
 have hT : (⟨hp, g, d, tk, os⟩ : Shared).TypeIs (.ref a) "list" := ⟨_, ho, rfl⟩
 have f1 := z7S
 unfold Builtin.«object.__getattribute__»
 repeat (any_goals (first | assumption | wp_step))
 exact wpAny_raiseAttrError hA h (attrMsg_fits (by decide +kernel) (by decide +kernel))
theorem z8J {a : Addr} {items : Array Value} {n : Nat} {sl : Array (Option Value)} {u : Tok} {R : Result -> Shared -> Prop} (hA : A.handled = none) (ho : s.heap.get? a = some ⟨.type "tuple", none, .seq items n, sl⟩) (h : ∀ h' tk e, Heap.NewAttrErr s.heap h' e (.ref a) "keys" -> R (.error (.ref e)) { s with heap := h', toks := tk }) :
  wpAny (model prog w) A.in1 (Builtin.«object.__getattribute__» ⟨[.ref a, .str "keys" u], []⟩) (fun fin s' => match fin with | .done f => R (.ok f) s' | .again c' => c'.quiet = true /\ codeAny (model prog w) A c' R s') (fun e s' => R (.error e) s') s := by
 obtain ⟨hp, g, d, tk, os⟩ := s
 have hT : (⟨hp, g, d, tk, os⟩ : Shared).TypeIs (.ref a) "tuple" := ⟨_, ho, rfl⟩
 have f1 := z7h
 unfold Builtin.«object.__getattribute__»
 repeat (any_goals (first | assumption | wp_step))
 exact wpAny_raiseAttrError hA h (attrMsg_fits (by decide +kernel) (by decide +kernel))
theorem z7R {a : Addr} {items : Array Value} {n : Nat} {sl : Array (Option Value)} {u : Tok} {R : Result -> Shared -> Prop} (hA : A.handled = none) (ho : s.heap.get? a = some ⟨.type "list", none, .seq items n, sl⟩) (h : ∀ h' tk e, Heap.NewAttrErr s.heap h' e (.ref a) "keys" -> R (.error (.ref e)) { s with heap := h', toks := tk }) :
  codeAny (model prog w) A (.call (.builtin "list.__getattribute__") ⟨[.ref a, .str "keys" u], []⟩) R s :=
 codeAny_call_builtin F.slot_list_getattribute.plain F.entry_list_ga (F.slot_list_getattribute.check _ _ _ _ _ _ _ _ (show s.TypeIs (.ref a) "list" from ⟨_, ho, rfl⟩) (F.args_list_getattribute_2 _ _) (z9t (R := R) hA ho h))
theorem z7U {a : Addr} {items : Array Value} {n : Nat} {sl : Array (Option Value)} {Q : Option Value -> Shared -> Prop} (hA : A.handled = none) (ho : s.heap.get? a = some ⟨.type "list", none, .seq items n, sl⟩) (h : ∀ h' tk, (∀ b o, s.heap.get? b = some o -> h'.get? b = some o) -> Q none { s with heap := h', toks := tk }) :
  wpAny (model prog w) A (getAttr? (.ref a) "keys") Q E s := by
 obtain ⟨hp, g, d, tk, os⟩ := s
 have hT : ∀ tk', (⟨hp, g, d, tk', os⟩ : Shared).TypeIs (.ref a) "list" := fun _ => ⟨_, ho, rfl⟩
 have f1 := sub_AttributeError
 have f3 := F.slot_list_getattribute.lookup
 have f4 := F.slot_list_getattribute.bind (.ref a)
 have f5 := z9F
 unfold getAttr? getAttrBy? getAttrBy
 repeat (any_goals (first | assumption | exact hT _ | wp_step))
 refine z7R (s := ⟨hp, g, d, tk + 1, os⟩) hA ho fun h' tk' e hx => ?_
 obtain ⟨t', u', he⟩ := hx.there
 show wpAny _ _ (getattributeRaised _ _ _ _ _ _ _) _ _ _
 unfold getattributeRaised
 repeat (any_goals (first | assumption | wp_step))
 exact h _ _ hx.keeps
theorem z7r {a : Addr} {items : Array Value} {n : Nat} {sl : Array (Option Value)} {u : Tok} {R : Result -> Shared -> Prop} (hA : A.handled = none) (ho : s.heap.get? a = some ⟨.type "tuple", none, .seq items n, sl⟩) (h : ∀ h' tk e, Heap.NewAttrErr s.heap h' e (.ref a) "keys" -> R (.error (.ref e)) { s with heap := h', toks := tk }) :
  codeAny (model prog w) A (.call (.builtin "tuple.__getattribute__") ⟨[.ref a, .str "keys" u], []⟩) R s :=
 codeAny_call_builtin F.slot_tuple_getattribute.plain F.entry_tuple_ga (F.slot_tuple_getattribute.check _ _ _ _ _ _ _ _ (show s.TypeIs (.ref a) "tuple" from ⟨_, ho, rfl⟩) (F.args_tuple_getattribute_2 _ _) (z8J (R := R) hA ho h))
theorem z7p {a : Addr} {items : Array Value} {n : Nat} {sl : Array (Option Value)} {Q : Option Value -> Shared -> Prop} (hA : A.handled = none) (ho : s.heap.get? a = some ⟨.type "tuple", none, .seq items n, sl⟩) (h : ∀ h' tk, (∀ b o, s.heap.get? b = some o -> h'.get? b = some o) -> Q none { s with heap := h', toks := tk }) :
  wpAny (model prog w) A (getAttr? (.ref a) "keys") Q E s := by
 obtain ⟨hp, g, d, tk, os⟩ := s
 have hT : ∀ tk', (⟨hp, g, d, tk', os⟩ : Shared).TypeIs (.ref a) "tuple" := fun _ => ⟨_, ho, rfl⟩
 have f1 := sub_AttributeError
 have f3 := F.slot_tuple_getattribute.lookup
 have f4 := F.slot_tuple_getattribute.bind (.ref a)
 have f5 := z8F
 unfold getAttr? getAttrBy? getAttrBy
 repeat (any_goals (first | assumption | exact hT _ | wp_step))
 refine z7r (s := ⟨hp, g, d, tk + 1, os⟩) hA ho fun h' tk' e hx => ?_
 obtain ⟨t', u', he⟩ := hx.there
 show wpAny _ _ (getattributeRaised _ _ _ _ _ _ _) _ _ _
 unfold getattributeRaised
 repeat (any_goals (first | assumption | wp_step))
 exact h _ _ hx.keeps
end
theorem z4J : entryFor table "dict.update.loop" = some Builtin.«dict.update.loop» := entryFor_of_tree (by kernel_rfl)
theorem z1H : plainId "dict.update.loop" = true := by decide +kernel
section
variable {prog : Program} {w : World} {A : Around} {κ : Type} [DecidableEq κ] {kd : KeyKind prog w κ} {I : Addr} {fp wr : List Addr} {G : Array GenState -> Array GenState -> Prop} {n : Nat} {P : Nat -> Value -> Prop} {St : Nat -> Shared -> Prop}
def z9C (kd : KeyKind prog w κ) (h : Heap) (v : Value) (kv : κ × Value) (out : List Addr) : Prop := ∃ (a : Addr) (o : Obj) (T : String) (k : Value) (c : Nat), v = .ref a /\ h.get? a = some o /\ o.cls = .type T /\ (T = "list" \/ T = "tuple") /\ o.data = .seq #[k, kv.2] c /\ kd.is kv.1 k = true /\ a ∉ out
theorem z71 {R : Result -> Shared -> Prop} (W : WalksS prog w A.in1 I fp wr G n P St) {d : Addr} (out : d ∉ fp) {h0 : Heap} {vs : List (κ × Value)} (lk : vs.length = n)
  (vals : ∀ i v, P i v -> ∃ kv, vs[i]? = some kv /\ z9C kd h0 v kv (d :: wr)) (few : n ≤ 1000) :
  ∀ (todo i : Nat) (s : Shared), i + todo = n -> St i s -> s.heap.DictOf kd d (merged [] (vs.take i)) -> (∀ b o, b ∉ d :: wr -> h0.get? b = some o -> s.heap.get? b = some o) ->
   (∀ s', Moved (d :: wr) G s s' -> s'.heap.DictOf kd d (merged [] vs) -> R (.ok (.ret .none)) s') -> codeAny (model prog w) A (.builtin "dict.update.loop" ⟨[.ref d, .ref I, rawInt i, .none], []⟩) R s
 | 0, i, s, ei, st, sx, kp, fin => by
  have e : vs.take i = vs := List.take_of_length_le (by omega)
  rw [e] at sx
  have ei' : i = n := by omega
  subst ei'
  refine codeAny_builtin z4J ?_
  rw [Around.under_plainId z1H _]
  refine wpAny_bind (W.done s _ _ st fun s' mv => wpAny_bind (wpAny_pure (wpAny_pure (fin s' (mv.mono fun b hb => .tail _ hb) (sx.at fun o => mv.heap d o fun q => out (W.sub _ q))))))
 | todo + 1, i, s, ei, st, sx, kp, fin => by
  refine codeAny_builtin z4J ?_
  rw [Around.under_plainId z1H _]
  refine wpAny_bind (W.item i s _ _ (by omega) st fun v s1 hv st1 mv => ?_)
  obtain ⟨⟨key, y⟩, ek, a, o, T, k, c, rfl, ho, hc, hT, hd, ik, na⟩ := vals i v hv
  have sx1 := sx.at (h' := s1.heap) fun o => mv.heap d o fun q => out (W.sub _ q)
  have ho1 : s1.heap.get? a = some o := mv.heap a o (fun q => na (.tail _ q)) (kp a o na ho)
  have ty : s1.TypeIs (.ref a) T := ⟨o, ho1, hc⟩
  refine wpAny_bind (wpAny_holding (m := (Builtin.Dict.pairItems (.ref a)).tryCatch _ >>= _) (wpAny_bind (wpAny_tryCatch ?_)))
  unfold Builtin.Dict.pairItems
  refine wpAny_bind (wpAny_typeOf ty ?_)
  rw [if_pos (by rcases hT with rfl | rfl <;> decide)]
  refine wpAny_bind (wpAny_seqItems ho1 hd (wpAny_pure ?_))
  show wpAny _ _ (holding [k, y] (dictSet d k y)) _ _ _
  have lm := merged_length_le [] (vs.take i)
  rw [List.length_take, List.length_nil] at lm
  refine wpAny_holding (wpAny_dictSet_pairs (hsz := by rw [sizeLine_eq]; omega) ik sx1 fun h2 sx2 sb => ?_)
  rw [<- merged_take_succ [] vs i (key, y) ek] at sx2
  have far : ∀ b, b ≠ d -> h2.get? b = s1.heap.get? b := fun b hb => sb.2 b hb
  refine wpAny_pure ⟨plainId_quiet z1H _, z71 W out lk vals few todo (i + 1) _ (by omega) (W.frame _ s1 _ _ st1 (Nat.le_succ _) fun b hb o q => ?_) sx2 (fun b o nb q => ?_) fun s3 mv3 sx4 => ?_⟩
  ·rw [far b fun z => out (z ▸ hb)]; exact q
  ·rw [far b fun z => nb (z ▸ .head _)]
   exact mv.heap b o (fun q => nb (.tail _ q)) (kp b o nb q)
  ·refine fin s3 (.trans W.gtrans ((mv.mono fun b hb => .tail _ hb).then_heap (Nat.le_succ _) fun b o hb q => ?_) mv3) sx4
   rw [far b fun z => hb (z ▸ .head _)]; exact q
end
section
variable {prog : Program} {w : World} {A : Around} {E : Value -> Shared -> Prop} {s : Shared} {κ : Type} [DecidableEq κ] {kd : KeyKind prog w κ}
theorem y5D {T : String} {p : Addr} {its : Array Value} {c0 : Nat} {sl : Array (Option Value)} {vs : List (κ × Value)} {Q : Value -> Shared -> Prop} (hh : A.handled = none) (hp : s.heap.get? p = some ⟨.type T, none, .seq its c0, sl⟩) (hT : T = "list" \/ T = "tuple")
  (lk : vs.length = its.size) (vals : ∀ (i : Nat) v, its[i]? = some v -> ∃ kv, vs[i]? = some kv /\ z9C kd s.heap v kv []) (few : its.size ≤ 1000) (nd : (vs.map (·.1)).Nodup)
  (fin : ∀ (h' : Heap) (t : Nat), h'.DictOf kd s.heap.objs.size vs -> (∀ b u, s.heap.get? b = some u -> h'.get? b = some u) -> Q (.ref s.heap.objs.size) { s with heap := h', toks := t }) :
  wpAny (model prog w) A (call (.type "dict") [.ref p]) Q E s := by
 refine callType_codes (Q₁ := fun obj s₁ => obj = .ref s.heap.objs.size /\ s₁ = { s with heap := s.heap.push { cls := .type "dict", data := .dict #[] } }) PySem.F.kt_called_dict (PySem.F.kt_typeCall_dict_1 _) F.entry_dict_init (kt_code_dict_new _ ⟨rfl, rfl⟩) ?_
 rintro obj s₁ ⟨rfl, rfl⟩
 have hnew : (s.heap.push { cls := .type "dict", data := .dict #[] }).DictOf kd s.heap.objs.size [] := Heap.DictOf.new s.heap
 have hp1 : (s.heap.push { cls := .type "dict", data := .dict #[] }).get? p = some ⟨.type T, none, .seq its c0, sl⟩ := Heap.get?_push_of_some _ hp
 have hpl : p < s.heap.objs.size := Heap.lt_size hp
 refine ⟨hnew.typeIs, F.args_dict_init_2 _ _, ?_⟩
 unfold Builtin.«dict.__init__»
 refine wpAny_bind ?_
 unfold Builtin.Dict.selfAndRest
 refine wpAny_bind (wpAny_notOrdered_dict hnew.typeIs ?_)
 show wpAny _ _ (pure (s.heap.objs.size, [Value.ref p])) _ _ _
 refine wpAny_pure ?_
 show wpAny _ _ (Builtin.Dict.updateFrom "dict.__init__" s.heap.objs.size (.ref p) [] .none) _ _ _
 unfold Builtin.Dict.updateFrom
 refine wpAny_bind (wpAny_typeOf (T := T) ⟨_, hp1, rfl⟩ ?_)
 rw [if_pos (by rcases hT with rfl | rfl <;> decide)]
 have main : ∀ (h1 : Heap) (tk : Nat), (∀ b o, (s.heap.push { cls := .type "dict", data := .dict #[] }).get? b = some o -> h1.get? b = some o) ->
   wpAny (model prog w) A.in1.in1 (do
    rule (toString "dict.__init__" ++ toString ".from-pairs")
    return <- again (.builtin "dict.update.loop" ⟨[.ref s.heap.objs.size, <- pyIter (.ref p), rawInt 0, .none], []⟩))
    (fun fin s' => match fin with | .done f => wants (fun r s₂ => r = .none /\ Q (.ref s.heap.objs.size) s₂) E (.ok f) s' | .again c' => c'.quiet = true /\ codeAny (model prog w) A.in1 c' (wants (fun r s₂ => r = .none /\ Q (.ref s.heap.objs.size) s₂) E) s')
    (fun e s' => wants (fun r s₂ => r = .none /\ Q (.ref s.heap.objs.size) s₂) E (.error e) s') { s with heap := h1, toks := tk } := by
  intro h1 tk k1
  have hd1 := hnew.keep k1
  have dlt : s.heap.objs.size < h1.objs.size := by
   obtain ⟨_, _, _, e, _⟩ := hd1
   exact Heap.lt_size e
  have hp2 := k1 _ _ hp1
  have apart : p ≠ h1.objs.size := Nat.ne_of_lt (Heap.lt_size hp2)
  have out : s.heap.objs.size ∉ [h1.objs.size, p] := by rw [List.mem_cons, List.mem_singleton]; exact fun z => z.elim (Nat.ne_of_lt dlt) (Nat.ne_of_gt hpl)
  have hh2 : A.in1.in1.handled = none := by simp [hh]
  have nin : ∀ {b : Addr} {o : Obj}, s.heap.get? b = some o -> b ∉ [s.heap.objs.size, h1.objs.size] := fun e m => by
   have hb := Heap.lt_size e
   rcases List.mem_cons.mp m with z | z
   ·exact absurd hb (by rw [z]; exact Nat.lt_irrefl _)
   ·rw [List.mem_singleton] at z
    exact absurd (Nat.lt_trans hb dlt) (by rw [z]; exact Nat.lt_irrefl _)
  have vals' : ∀ (i : Nat) v, its[i]? = some v -> ∃ kv, vs[i]? = some kv /\ z9C kd s.heap v kv [s.heap.objs.size, h1.objs.size] := fun i v hv => by
   obtain ⟨kv, e, a, o, T, k, c, e1, e2, e3, e4, e5, e6, _⟩ := vals i v hv
   exact ⟨kv, e, a, o, T, k, c, e1, e2, e3, e4, e5, e6, nin e2⟩
  have ends : ∀ (x : Obj) (s' : Shared), Moved [s.heap.objs.size, h1.objs.size] (fun a b => b = a) { s with heap := h1.push x, toks := tk } s' -> s'.heap.DictOf kd s.heap.objs.size (merged [] vs) -> Q (.ref s.heap.objs.size) s' := fun x s' mv sx => by
   obtain ⟨h', g', d', t', o'⟩ := s'
   obtain rfl : g' = s.gens := mv.gens
   obtain rfl : d' = s.drawn := mv.drawn
   obtain rfl : o' = s.os := mv.os
   rw [merged_nil_of_nodup vs nd] at sx
   exact fin h' t' sx fun b u q => mv.heap b u (nin q) (Heap.get?_push_of_some _ (k1 _ _ (Heap.get?_push_of_some _ q)))
  refine wpAny_bind (wpAny_rule ?_)
  rcases hT with rfl | rfl
  ·have hl : h1.IsList p its := ⟨_, hp2, rfl, c0, rfl⟩
   refine wpAny_bind (wpAny_pyIter_list hl (wpAny_pure ⟨plainId_quiet z1H _, ?_⟩))
   exact z71 (kd := kd) ((Walks.list hh2 _ p apart its).toS) out (h0 := s.heap) lk vals' few its.size 0 _ (Nat.zero_add _) ⟨⟨_, Heap.get?_push_size _ rfl, rfl, rfl⟩, hl.push _⟩ (by rw [List.take_zero]; exact hd1.push _) (fun b o _ q => Heap.get?_push_of_some _ (k1 _ _ (Heap.get?_push_of_some _ q))) fun s' mv sx => ⟨rfl, ends _ s' mv sx⟩
  ·have hl : h1.IsTuple p its := ⟨_, hp2, rfl, c0, rfl⟩
   refine wpAny_bind (wpAny_pyIter_tuple hl (wpAny_pure ⟨plainId_quiet z1H _, ?_⟩))
   exact z71 (kd := kd) ((Walks.tuple hh2 _ p apart its).toS) out (h0 := s.heap) lk vals' few its.size 0 _ (Nat.zero_add _) ⟨⟨_, Heap.get?_push_size _ rfl, rfl, rfl⟩, hl.push _⟩ (by rw [List.take_zero]; exact hd1.push _) (fun b o _ q => Heap.get?_push_of_some _ (k1 _ _ (Heap.get?_push_of_some _ q))) fun s' mv sx => ⟨rfl, ends _ s' mv sx⟩
 have hh2 : A.in1.in1.handled = none := by simp [hh]
 rcases hT with rfl | rfl
 ·refine wpAny_bind (z7U hh2 hp1 fun h1 tk k1 => ?_)
  exact main h1 tk k1
 ·refine wpAny_bind (z7p hh2 hp1 fun h1 tk k1 => ?_)
  exact main h1 tk k1
end
section
variable {X : Cx}
def y1W (K : PySem.W.Frag) (H : Hp) (u : V) (kv : Key × V) : Prop := ∃ a, u = .ref a /\ (SqL K H a [kV kv.1, kv.2] \/ SqT K H a [kV kv.1, kv.2])
def SqP (K : PySem.W.Frag) (H : Hp) (p : Addr) (ys : List V) : Prop := SqL K H p ys \/ H p = some (.tup ys)
def y5H (K : PySem.W.Frag) : List V -> Hp -> VK -> Prop := fun xs H Q => ∃ p ys kvs, xs = [.ref p] /\ SqP K H p ys /\ Paired (y1W K H) ys kvs /\ ys.length ≤ 1000 /\ (kvs.map (·.1)).Nodup /\ ∀ l, H l = none -> Q (.ref l) (upd H l (.dK kvs))
theorem z7V {pins : List (Addr × Obj)} {σ : St} {H : Hp} {s : Shared} (I : Inv X pins σ H s) : ∀ {ys : List V} {kvs : List (Key × V)} {its : List Value}, Paired (y1W X.K H) ys kvs -> Vals ys its ->
  ∃ vs, KV kvs vs /\ vs.length = its.length /\ ∀ (i : Nat) v, its[i]? = some v -> ∃ kv, vs[i]? = some kv /\ z9C (z1o X.prog X.w) s.heap v kv []
 | _, _, _, .nil, .nil => ⟨[], .nil, rfl, fun i v h => by simp at h⟩
 | _ :: ys, kv :: kvs, _ :: its, .cons ⟨a, e, hq⟩ t, .cons r rr => by
  obtain ⟨vs, k1, l1, p1⟩ := z7V I t rr
  subst e
  cases r
  have go : ∀ (T : String) (o : Obj) (us : List Value) (c : Nat), s.heap.get? a = some o -> o.cls = .type T -> (T = "list" \/ T = "tuple") -> o.data = .seq us.toArray c -> Vals [kV kv.1, kv.2] us ->
    ∃ vs', KV (kv :: kvs) vs' /\ vs'.length = (Value.ref a :: its).length /\ ∀ (i : Nat) v, (Value.ref a :: its)[i]? = some v -> ∃ kv, vs'[i]? = some kv /\ z9C (z1o X.prog X.w) s.heap v kv [] := fun T o us c h1 h2 h3 h4 h5 => by
   obtain ⟨u1, u2, rfl, r1, r2⟩ := y4c h5
   refine ⟨(kv.1, u2) :: vs, .cons ⟨rfl, r2⟩ k1, by rw [List.length_cons, List.length_cons, l1], fun i v hv => ?_⟩
   cases i with
   | zero =>
    simp at hv
    subst hv
    exact ⟨_, rfl, a, o, T, u1, c, rfl, h1, h2, h3, by simpa using h4, y2Q r1, by simp⟩
   | succ i => exact p1 i v (by simpa using hv)
  rcases hq with hq | hq
  ·obtain ⟨us, rv, pl, _⟩ := I.list hq
   obtain ⟨o, ho, hcl, n, hda⟩ := pl.isList
   exact go "list" o us n ho hcl (.inl rfl) hda rv
  ·obtain ⟨us, rv, pl, _⟩ := I.tuple hq
   obtain ⟨o, ho, hcl, n, hda⟩ := pl
   exact go "tuple" o us n ho hcl (.inr rfl) hda rv
theorem z4a {K : PySem.W.Frag} (hK : X.K = K) (hc : X.calm = true) : z3o X (.type "dict") (y5H K) := by
 subst hK
 intro pins s σ H xs us Q I r h
 obtain ⟨p, ys, kvs, rfl, hq, pr, hl, nd, q⟩ := h
 obtain ⟨u, rfl, rx⟩ := z4h r
 cases rx
 have go : ∀ (T : String) (its : List Value) (c0 : Nat) (sl : Array (Option Value)), s.heap.get? p = some ⟨.type T, none, .seq its.toArray c0, sl⟩ -> (T = "list" \/ T = "tuple") -> Vals ys its -> wpAny (model X.prog X.w) X.A (call (.type "dict") [.ref p]) (EP X pins σ Q) X.xe s :=
  fun T its c0 sl ho hT rv => by
   obtain ⟨vs, k1, l1, p1⟩ := z7V I pr rv
   have ln : ys.length = its.length := rv.length
   refine y5D (kd := z1o X.prog X.w) (vs := vs) (I.ok.hd hc) ho hT (by simpa using l1) (fun i v hv => p1 i v (by simpa using hv)) (by simp; omega) (by rw [<- k1.keys]; exact nd) fun h' t dd kp => ?_
   have big := I.big
   refine ⟨.ref s.heap.objs.size, _, I.laid (a := s.heap.objs.size) (o := .dK kvs) (h' := h') (t' := t) kp (Nat.le_refl _) (y4V ?_ ?_ k1 dd), rfl, q _ (I.hok.fresh (Nat.le_refl _))⟩
   ·have := k1.length
    rw [sizeLine_eq]
    omega
   ·exact beq_false_of_ne (Nat.ne_of_gt big)
 rcases hq with hq | hq
 ·obtain ⟨its, rv, pl, _⟩ := I.list hq
  obtain ⟨o, n, ho, hcl, hdi, hda⟩ := pl
  obtain ⟨oc, od, oa, os⟩ := o
  simp only at hcl hdi hda
  subst hcl hdi hda
  exact go "list" its n os ho (.inl rfl) rv
 ·obtain ⟨_, its, rv, o, ho, hcl, ⟨n, hda⟩, hdi⟩ := (show z1f X.prog X.w H s.heap p (.tup ys) from I.hok p _ hq)
  obtain ⟨oc, od, oa, os⟩ := o
  simp only at hcl hdi hda
  subst hcl hdi hda
  exact go "tuple" its n os ho (.inr rfl) rv
end
def SqS (K : PySem.W.Frag) (t : Bool) (H : Hp) (a : Addr) (xs : List V) : Prop := if t then SqL K H a xs else SqT K H a xs
theorem SqS.of {K : PySem.W.Frag} {H : Hp} {a : Addr} {xs : List V} (h : SqL K H a xs \/ SqT K H a xs) : ∃ t, SqS K t H a xs := h.elim (fun q => ⟨true, q⟩) fun q => ⟨false, q⟩
theorem SqS.keep {K : PySem.W.Frag} {t : Bool} {H H' : Hp} {a : Addr} {xs : List V} (s : Same H H') (h : SqS K t H a xs) : SqS K t H' a xs := by
 cases t
 ·rcases (show SqT K H a xs from h) with (h | ⟨o, h⟩) | h
  ·exact .inl (.inl (s _ _ h))
  ·exact .inl (.inr ⟨o, s _ _ h⟩)
  ·exact .inr h
 ·exact s.seq (show SqL K H a xs from h)
def Its (K : PySem.W.Frag) (t : Bool) (a : Addr) : It := if t then Itl K a else Itt K a
section
variable {X : Cx} {tg : Expr}
def iSeq (K : PySem.W.Frag) (tl : TE) : TI := fun σ H R => tl σ H fun x H1 => ∃ a t, x = .ref a /\ (∃ xs, SqS K t H1 a xs) /\ R (Its K t a) H1
theorem y26 {l : Expr} {tl : TE} (hl : PE X l tl) : PI X tg l (iSeq X.K tl) := by
 intro pins s σ H R I h
 refine thn (hl pins s σ H _ I h) fun v s1 ⟨x, H1, I1, r1, q1⟩ => ?_
 obtain ⟨a, t, e, ⟨xs, hq⟩, q⟩ := q1
 subst e
 cases r1
 cases t
 ·obtain ⟨its, rv, p, hz⟩ := I1.tuple hq
  refine wpAny_pyIter_tuple (show s1.heap.IsTuple a its.toArray from p) ?_
  refine ⟨s1.heap.objs.size, [s1.heap.objs.size], _, _, H1, rfl, I1.kept (t' := s1.toks) fun b o e => Heap.get?_push_of_some _ e, z8h a _, ⟨_, Heap.get?_push_size _ rfl, rfl, rfl⟩, fun b hb => ?_, q⟩
  have e : b = s1.heap.objs.size := by simpa using hb
  subst e
  exact I1.fpOk (Nat.le_refl _) (I1.hok.fresh (Nat.le_refl _))
 ·obtain ⟨its, rv, p, hz⟩ := I1.list hq
  refine wpAny_pyIter_list p.isList ?_
  refine ⟨s1.heap.objs.size, [s1.heap.objs.size], _, _, H1, rfl, I1.kept (t' := s1.toks) fun b o e => Heap.get?_push_of_some _ e, z9l a _, ⟨_, Heap.get?_push_size _ rfl, rfl, rfl⟩, fun b hb => ?_, q⟩
  have e : b = s1.heap.objs.size := by simpa using hb
  subst e
  exact I1.fpOk (Nat.le_refl _) (I1.hok.fresh (Nat.le_refl _))
end
theorem y0O {K : PySem.W.Frag} {t : Bool} {a : Addr} {xs : List V} {g : TG} {tc : TT} {te : TE} {σ0 : St} {H1 : Hp} {F : List V -> Hp -> Prop} (Pv : Nat -> List V -> Hp -> Prop) (h0 : Pv 0 [] H1)
  (hl : ∀ i ys H, i ≤ xs.length -> Pv i ys H -> SqS K t H a xs /\ ys.length < sizeLine)
  (hs : ∀ i x ys H, xs[i]? = some x -> Pv i ys H -> z1g g tc te σ0 x H ys (Pv (i + 1))) (hd : ∀ ys H, Pv xs.length ys H -> F ys H) : z8I (Its K t a) g tc te σ0 H1 F := by
 cases t
 ·exact z1z Pv h0 hl hs hd
 ·exact z3X Pv h0 hl hs hd
theorem y63 {K : PySem.W.Frag} {t : Bool} {a : Addr} {xs : List V} {g : TG} {tb : TS} {D : Ends} {σ : St} {H : Hp} (Pv : Nat -> St -> Hp -> Prop) (h0 : Pv 0 σ H) (hl : ∀ i σ H, i ≤ xs.length -> Pv i σ H -> SqS K t H a xs)
  (hs : ∀ i x σ H, xs[i]? = some x -> Pv i σ H -> g x σ H fun σ2 H2 => tb { D with nx := Pv (i + 1), ct := Pv (i + 1), bk := D.nx } σ2 H2) (hd : ∀ σ H, Pv xs.length σ H -> D.nx σ H) :
  ∃ W : Nat -> Nat -> St -> Hp -> Prop, (∃ m, W 0 m σ H) /\ ∀ i m σ H, W i m σ H ->
   ((Its K t a).stop i H /\ D.nx σ H) \/ ((Its K t a).go i H /\ ∃ N : St -> Hp -> Prop, (∀ σ' H', N σ' H' -> ∃ m', m' < m /\ W (i + 1) m' σ' H') /\ ∀ x H', (Its K t a).yld i H x H' -> g x σ H' fun σ2 H2 => tb { D with nx := N, ct := N, bk := D.nx } σ2 H2) := by
 cases t
 ·exact z50 Pv h0 hl hs hd
 ·exact z2g Pv h0 hl hs hd
section
variable {prog : Program} {w : World} {A : Around} {E : Value -> Shared -> Prop}
theorem z98 {it t : Addr} {items : Array Value} (hne : t ≠ it) : ∀ (n i : Nat) (s : Shared) (Q : List Value -> Shared -> Prop), s.heap.IsListIter it t i -> s.heap.IsList t items -> i + n ≤ items.size ->
  (∀ h', h'.IsListIter it t (i + n) -> Heap.SameBut it s.heap h' -> Q ((items.toList.drop i).take n) { s with heap := h' }) -> wpAny (model prog w) A (draw (.ref it) n) Q E s
 | 0, i, s, Q, hit, _, _, hQ => by
  show wpAny _ _ (pure []) Q E s
  exact wpAny_pure (by simpa using hQ s.heap hit (Heap.SameBut.refl ..))
 | n + 1, i, s, Q, hit, ht, hle, hQ => by
  have hlt : i < items.size := by omega
  show wpAny _ _ (pyNext (.ref it) >>= _) Q E s
  refine wpAny_bind (wpAny_pyNext_list_item hit ht (x := items[i]) (by simp [hlt]) fun h₁ hit₁ hs₁ => ?_)
  refine wpAny_bind (wpAny_holding (z98 hne n (i + 1) _ _ hit₁ (ht.at fun o e => (hs₁.2 t hne).trans e) (by omega) fun h₂ hit₂ hs₂ => wpAny_pure ?_))
  have hd : items.toList.drop i = items[i] :: items.toList.drop (i + 1) := by simp [List.drop_eq_getElem_cons, hlt]
  have := hQ h₂ (by rw [show i + (n + 1) = i + 1 + n by omega]; exact hit₂) (hs₁.trans hs₂)
  rw [hd, List.take_succ_cons] at this
  exact this
theorem z9T {s : Shared} {t : Addr} {items : Array Value} {Q : List Value -> Shared -> Prop} (hh : A.handled = none) (ht : s.heap.IsList t items)
  (hQ : ∀ h', Heap.ExtBut s.heap.objs.size s.heap h' -> Q items.toList { s with heap := h' }) : wpAny (model prog w) A (unpackItems (.ref t) items.size none) Q E s := by
 have hlt : t ≠ s.heap.objs.size := by obtain ⟨o, ho, _⟩ := ht; exact Nat.ne_of_lt (Heap.lt_size ho)
 unfold unpackItems
 refine wpAny_bind ?_
 unfold notIterableAtAll
 refine wpAny_bind (wpAny_specialOf ht.typeIs PySem.F.slot_list_iter.lookup ?_)
 refine wpAny_pure ?_
 simp only [Bool.false_eq_true, if_false]
 refine wpAny_bind (wpAny_holding (wpAny_pyIter_list ht ?_))
 refine wpAny_bind (wpAny_holding (z98 hlt items.size 0 _ _ ⟨_, Heap.get?_push_size _ rfl, rfl, rfl⟩ (ht.push _) (by omega) fun h₁ hit₁ hs₁ => ?_))
 have hall : List.take items.size (List.drop 0 items.toList) = items.toList := by
  rw [List.drop_zero]; exact List.take_of_length_le (by simp)
 rw [hall]
 rw [if_neg (by simp)]
 have ht₁ : h₁.IsList t items := (ht.push _).at fun o e => (hs₁.2 t hlt).trans e
 refine wpAny_bind (wpAny_holding (wpAny_pyNext_list_end hh hit₁ ht₁ (by simp) fun h₂ he₂ => ?_))
 simp only [Option.isSome_none, Bool.false_eq_true, if_false]
 exact wpAny_pure (hQ h₂ fun b o hb e => he₂ b o hb (hs₁.extBut b o hb (Heap.get?_push_of_some _ e)))
theorem z5H {s : Shared} {env : Env} {elts : List Expr} {x1} {pos : Pos} {t : Addr} {items : Array Value} {Q : Unit -> Shared -> Prop} (hh : A.handled = none) (ht : s.heap.IsList t items)
  (hn : (assignEach elts env).length = items.size) (hstar : (assignEach elts env).findIdx? (·.1) = none)
  (h : ∀ h', Heap.ExtBut s.heap.objs.size s.heap h' -> wpAny (model prog w) A (assignInOrder ((assignEach elts env).map (·.2)) items.toList) Q E { s with heap := h' }) :
  wpAny (model prog w) A (assign (.Tuple elts x1 pos) env (.ref t)) Q E s := by
 rw [assign_Tuple]
 refine wpAny_bind (wpAny_standAt ?_)
 unfold unpack
 rw [hn, hstar]
 exact wpAny_bind (wpAny_holding (z9T hh ht h))
end
def gSeq (K : PySem.W.Frag) (n : Nat) (t : TGs) : TG := fun v σ H Q => ∃ a xs, v = .ref a /\ (SqL K H a xs \/ SqT K H a xs) /\ xs.length = n /\ t xs σ H Q
theorem y2p {X : Cx} {K : PySem.W.Frag} {es : List Expr} {k : Nat} {t : TGs} {n : Nat} {pos : Pos} (hK : X.K = K) (hc : X.calm = true) (h : PGs X es t)
  (hn : (assignEach es X.env).length = n := by rfl) (hst : (assignEach es X.env).findIdx? (·.1) = none := by rfl) : PG X (.Tuple es k pos) (gSeq K n t) := by
 subst hK
 intro pins s σ H v u Q I r hw
 obtain ⟨a, xs, e1, hq, hl, hw⟩ := hw
 subst e1
 cases r
 rcases hq with hq | hq
 ·obtain ⟨its, rv, ht, hz⟩ := I.list hq
  refine z5H (I.ok.hd hc) ht.isList (by simp [hn, <- hl, rv.length]) hst fun h' hx => ?_
  have I1 : Inv X pins σ H { s with heap := h' } := I.kept (t' := s.toks) fun b o e => hx b o (Nat.ne_of_lt (Heap.lt_size e)) e
  exact h pins _ σ H xs _ Q I1 (by simpa using rv) hw
 ·obtain ⟨its, rv, ht, hz⟩ := I.tuple hq
  refine assign_Tuple_tuple (I.ok.hd hc) ht (by simp [hn, <- hl, rv.length]) hst fun h' hx => ?_
  have I1 : Inv X pins σ H { s with heap := h' } := I.kept (t' := s.toks) fun b o e => hx b o (Nat.ne_of_lt (Heap.lt_size e)) e
  exact h pins _ σ H xs _ Q I1 (by simpa using rv) hw
theorem y3L {K : PySem.W.Frag} {n : Nat} {t : TGs} (a : z87 t) : z9I (gSeq K n t) := fun v σ H Q Q' f q => by
 obtain ⟨p, xs, e, h1, h2, q⟩ := q
 exact ⟨p, xs, e, h1, h2, a _ _ _ _ _ f q⟩
theorem y6a {K : PySem.W.Frag} {n k : Nat} {t : TGs} (a : y2N n t) : OwnG n (gSeq K k t) := fun v σ H Q q => by
 obtain ⟨p, xs, e, h1, h2, q⟩ := q
 exact ⟨p, xs, e, h1, h2, a _ _ _ _ q⟩
theorem y0w {X : Cx} {K : PySem.W.Frag} (hK : X.K = K) : OpR X (binaryOp .Add) (y6o K) := by
 subst hK
 exact y68
section
variable {X : Cx}
def CDivB (i j : Int) : Prop := 0 < j /\ j < 18446744073709551616
theorem y4n : OpR X (binaryOp .FloorDiv) (rI CDivB fun i j => .int (i / j)) := opI fun i j _ _ _ _ _ hc q => by
 have h1 : (0 : Int) < j := hc.1
 have h2 : j < 18446744073709551616 := hc.2
 have h3 : j.natAbs.log2 < 64 := (Nat.log2_lt (by omega)).mpr (by omega)
 exact floordiv_int (by omega) (by rw [Int.fdiv_eq_ediv_of_nonneg i (by omega)]; exact q) (.inl (PyProof.noPylong_of_log2 (by omega)))
end
structure FunD (K : PySem.W.Frag) (x qual : Str) (st : Stmt) (f : Addr) (fd : FuncData) (T : Addr) (items : Array Value) : Prop where
 ex : ∃ (oc : Value) (od : Option Addr) (kV doc pm : Value) (an : Option Addr) (cdv ct : Value) (osl : Array (Option Value)),
  fd = PySem.W.fnOf x qual (z1m st) (z17 st) (z06 st) (.ref T) kV doc pm an cdv ct /\ K.lookup f = some ⟨oc, od, .func fd, osl⟩ /\ PySem.W.codeIn K cdv qual = true
 kp : PySem.W.keepIn K (.ref f) = true
 dt : ∃ (o : Obj) (n : Nat), K.lookup T = some o /\ o.data = .seq items n
section
variable {P : Program} {w : World} {K : PySem.W.Frag} {mg : Str -> Option Value} {base : Heap}
theorem FunD.ok {x qual : Str} {st : Stmt} {f T : Addr} {items : Array Value} {fd : FuncData} {N ps : List Str} {k : Nat} {sp : Sp} (F : FunD K x qual st f fd T items) (S : FnScope N ps (z06 st)) (len : ∀ vs H Q E, sp vs H Q E -> vs.length = ps.length)
  (hbody : ∀ (cdv : Value) (A : Around) (outer : List Env) (s : Shared) (H : Hp) (vs : List V) (Q : VK) (E : XK), Room k (A.deeper (envOfC qual (z06 st) s.heap.objs.size f cdv)) -> sp vs H Q E ->
   ∃ t, PSs (cxOf CX0 P w K mg base N qual (z06 st) f cdv A outer s H E).nox (z17 st) t /\ t { nx := fun _ H' => Q .non H', rt := Q } (z5u N vs) H) : FnOk P w K mg base CX0 (k + 1) f fd ps sp := by
 obtain ⟨oc, od, kV, doc, pm, an, cdv, ct, osl, rfl, lk, hcd⟩ := F.ex
 refine y6S lk hcd S len fun A outer s H vs Q E hr hsp => ?_
 obtain ⟨t, h, q⟩ := hbody cdv A outer s H vs Q E hr hsp
 exact ⟨t, h.nox, q⟩
theorem FunD.binds {x qual : Str} {st : Stmt} {f T : Addr} {items : Array Value} {fd : FuncData} {ps : List Str} {ds : List Value} (F : FunD K x qual st f fd T items)
  (h : ∀ (kV doc pm : Value) (an : Option Addr) (cdv ct : Value) (us : List Value), us.length + ds.length = ps.length -> ∃ k, bindArgs (PySem.W.fnOf x qual (z1m st) (z17 st) (z06 st) (.ref T) kV doc pm an cdv ct) ⟨us, []⟩ = seqItems? (.ref T) >>= k /\ k (some items) = pure (ps.zip (us ++ ds))) : z1G K fd ps ds := by
 obtain ⟨oc, od, kV, doc, pm, an, cdv, ct, osl, rfl, lk, hcd⟩ := F.ex
 obtain ⟨o, n, lt, hs⟩ := F.dt
 intro s us KX hl
 rw [List.length_append] at hl
 obtain ⟨k, h1, h2⟩ := h kV doc pm an cdv ct us hl
 exact .of_defaults rfl (KX _ _ lt) hs h1 h2
theorem y5F {x qual : Str} {st : Stmt} {f T : Addr} {oc oct : Value} {od odt an : Option Addr} {osl oslt : Array (Option Value)} {items : Array Value} {n : Nat} {kV doc pm cdv ct : Value} (l : K.lookup f = some ⟨oc, od, .func (PySem.W.fnOf x qual (z1m st) (z17 st) (z06 st) (.ref T) kV doc pm an cdv ct), osl⟩)
  (lt : K.lookup T = some ⟨oct, odt, .seq items n, oslt⟩) (c : PySem.W.codeIn K cdv qual = true) (k : PySem.W.keepIn K (.ref f) = true) : FunD K x qual st f (PySem.W.fnOf x qual (z1m st) (z17 st) (z06 st) (.ref T) kV doc pm an cdv ct) T items := ⟨⟨oc, od, kV, doc, pm, an, cdv, ct, osl, rfl, l, c⟩, k, _, n, lt, rfl⟩
end
structure CalD (P : Program) (w : World) (K : PySem.W.Frag) (mg : Str -> Option Value) (base : Heap) (k : Nat) (x : Str) (ps : List Str) (sp : Sp) (dvs : List V) : Prop where
 ex : ∃ (f : Addr) (fd : FuncData) (ds : List Value), FnOk P w K mg base CX0 k f fd ps sp /\ z1G K fd ps ds /\ Vals dvs ds /\ PySem.W.keepIn K (.ref f) = true /\ mg x = some (.ref f)
theorem CalD.mk' {P : Program} {w : World} {K : PySem.W.Frag} {mg : Str -> Option Value} {base : Heap} {k : Nat} {x : Str} {ps : List Str} {sp : Sp} {dvs : List V} {ds : List Value} {f : Addr} {fd : FuncData} (v : Vals dvs ds) (a : FnOk P w K mg base CX0 k f fd ps sp) (b : z1G K fd ps ds) (c : PySem.W.keepIn K (.ref f) = true) (d : mg x = some (.ref f)) :
  CalD P w K mg base k x ps sp dvs := ⟨⟨f, fd, ds, a, b, v, c, d⟩⟩
theorem CalD.mono {P : Program} {w : World} {K : PySem.W.Frag} {mg : Str -> Option Value} {base : Heap} {j k : Nat} {x : Str} {ps : List Str} {sp : Sp} {dvs : List V} (G : CalD P w K mg base j x ps sp dvs) (h : j ≤ k) : CalD P w K mg base k x ps sp dvs := by
 obtain ⟨f, fd, ds, a, b, v, c, d⟩ := G.ex
 exact ⟨f, fd, ds, a.mono h, b, v, c, d⟩
theorem y5R {X : Cx} {k : Nat} {x : Str} {ps : List Str} {sp : Sp} {dvs : List V} {e : Expr} {es : List Expr} {t : TA} {p pos : Pos} (G : CalD X.prog X.w X.K X.mg X.base k x ps sp dvs) (hr : Room k X.A) (hg : Gl X x) (ha : PA X (e :: es) t)
  (hdb : (x == ("__debug__" : Str)) = false := by decide) (he : starEach (e :: es) X.env = (false, eval e X.env) :: starEach es X.env := by rfl) (hpl : (backTo pos (starEach es X.env)).any (·.1) = false := by rfl) :
  PE X (.Call (.Name x p) (e :: es) [] pos) (y5N sp dvs E0 t) := by
 obtain ⟨f, fd, ds, a, b, v, c, d⟩ := G.ex
 exact y2i a hr hg d c b v y1x ha hdb he hpl
structure MCalD (P : Program) (w : World) (K : PySem.W.Frag) (mg : Str -> Option Value) (base : Heap) (k : Nat) (C : Addr) (m : Str) (ps : List Str) (sp : Sp) (dvs : List V) : Prop where
 cl : Cls K C
 ex : ∃ (f : Addr) (fd : FuncData) (ds : List Value), FnOk P w K mg base CX0 k f fd ps sp /\ z1G K fd ps ds /\ Vals dvs ds /\ Meth K C m f
theorem MCalD.mk' {P : Program} {w : World} {K : PySem.W.Frag} {mg : Str -> Option Value} {base : Heap} {k : Nat} {C : Addr} {m : Str} {ps : List Str} {sp : Sp} {dvs : List V} {ds : List Value} {f : Addr} {fd : FuncData} (v : Vals dvs ds) (c : Cls K C) (a : FnOk P w K mg base CX0 k f fd ps sp) (b : z1G K fd ps ds) (d : Meth K C m f) :
  MCalD P w K mg base k C m ps sp dvs := ⟨c, f, fd, ds, a, b, v, d⟩
theorem MCalD.mono {P : Program} {w : World} {K : PySem.W.Frag} {mg : Str -> Option Value} {base : Heap} {j k : Nat} {C : Addr} {m : Str} {ps : List Str} {sp : Sp} {dvs : List V} (G : MCalD P w K mg base j C m ps sp dvs) (h : j ≤ k) : MCalD P w K mg base k C m ps sp dvs := by
 obtain ⟨f, fd, ds, a, b, v, c⟩ := G.ex
 exact ⟨G.cl, f, fd, ds, a.mono h, b, v, c⟩
theorem y4F {X : Cx} {k : Nat} {C : Addr} {m : Str} {ps : List Str} {sp : Sp} {dvs : List V} {o e : Expr} {es : List Expr} {ta : TE} {t : TA} {pos apos : Pos} {pl : Sem Bool} (G : MCalD X.prog X.w X.K X.mg X.base k C m ps sp dvs) (hr : Room k X.A) (he : PE X o ta) (ha : PA X (e :: es) t)
  (hst : starEach (e :: es) X.env = (false, eval e X.env) :: starEach es X.env := by rfl) (hpl : (backTo pos (starEach es X.env)).any (·.1) = false := by rfl)
  (ht : eval (.Call (.Attribute o m apos) (e :: es) [] pos) X.env = (do
   let ov <- eval o X.env
   standAt apos.atName
   let (f, first) <- holding [ov] (getMethod ov m pl)
   callWith pos f first (backTo pos (starEach (e :: es) X.env)) (backToKw pos (keywordEach [] X.env))) := by rfl) :
  PE X (.Call (.Attribute o m apos) (e :: es) [] pos) (y3z C m sp dvs E0 ta t) := by
 obtain ⟨f, fd, ds, a, b, v, d⟩ := G.ex
 exact y28 he G.cl d a hr b v y1x ha hst hpl ht
end L2
namespace HT
open PySem PySem.Spec PyProof.Rows L2
section
variable {prog : Program} {w : World} {A : Around} {E : Value -> Shared -> Prop} {s : Shared}
theorem z6b {t sl : Addr} {items : Array Value} {vl vu : Value} {lo hi : Option Int} {Q : Value -> Shared -> Prop} (ht : IsTup s.heap t items) (hs : s.heap.IsSliceOf sl vl vu .none) (pl : IsPart vl lo) (pu : IsPart vu hi)
  (hw : sIx items.size 0 lo = 0 /\ sIx items.size items.size hi = items.size) (h : Q (.ref t) s) : wpAny (model prog w) A (getItem (.ref t) (.ref sl)) Q E s := by
 obtain ⟨os, hos, hcs, hds⟩ := id hs
 have hTs : s.TypeIs (.ref sl) "slice" := ⟨os, hos, hcs⟩
 unfold getItem
 try with_reducible refine wpAny_holding ?_
 first | refine wpAny_bind (wpAny_pure ?_) | skip
 refine wpAny_bind (wpAny_sequenceKey ht.typeIs (by decide) ?_)
 refine wpAny_bind (wpAny_callSpecial?_slot (name := Str.ofString "__getitem__") ht.typeIs PyProof.Rows.slot_tuple_getitem
  (wpAny_call_entry PyProof.Rows.slot_tuple_getitem ht.typeIs entry_tuple_getitem ?_ (args_tuple_getitem _ _)))
 show wpAny _ _ (Builtin.Tuple.tupleItemsOf (.ref t) >>= _) _ _ s
 refine wpAny_bind (tupleItemsOf_ ht ?_)
 refine wpAny_bind (wpAny_typeOf hTs ?_)
 rw [if_pos (by decide)]
 refine wpAny_bind (z3N hs pl pu ?_)
 have hyes : (((sIx items.size 0 lo : Nat) : Int) == 0 && (1 : Int) == 1 && (sIx items.size items.size hi - sIx items.size 0 lo) == items.size) = true := by
  rw [hw.1, hw.2]
  simp
 show wpAny _ _ (if (((sIx items.size 0 lo : Nat) : Int) == 0 && (1 : Int) == 1 && (sIx items.size items.size hi - sIx items.size 0 lo) == items.size) = true then _ else _) _ _ s
 rw [if_pos hyes]
 refine wpAny_bind (m := Builtin.Tuple.tupleIsExact _) (wpAny_bind (wpAny_typeOf ht.typeIs (wpAny_pure ?_)))
 rw [if_pos (by decide)]
 refine wpAny_bind (wpAny_rule ?_)
 exact wpAny_pure ⟨_, rfl, wpAny_pure h⟩
end
end HT
namespace L2
open PySem PySem.Spec PyProof.Rows
def z2K : List V -> List V -> Bool
 | [], [] => true
 | x :: xs, y :: ys => eqV x y && z2K xs ys
 | _, _ => false
theorem y0z : ∀ xs ys : List V, ((List.range (min xs.length ys.length)).all (fun j => eqV (xs.getD j .non) (ys.getD j .non)) && xs.length == ys.length) = z2K xs ys
 | [], [] => rfl
 | [], _ :: _ => rfl
 | _ :: _, [] => rfl
 | x :: xs, y :: ys => by
  have ih := y0z xs ys
  unfold z2K
  rw [<- ih, List.length_cons, List.length_cons, Nat.succ_min_succ, List.range_succ_eq_map, List.all_cons, List.all_map, Bool.and_assoc]
  congr 1
  congr 1
  rw [Bool.eq_iff_iff]
  simp
theorem z8B : ∀ {x : V}, z20 x = true -> eqV x x = true := fun {x} h => by
 cases x with
 | non => rfl
 | bl b => exact beq_self_eq_true b
 | int i => exact beq_self_eq_true i
 | str z => exact beq_self_eq_true z
 | _ => exact absurd (show false = true from h) Bool.false_ne_true
theorem z82 : ∀ {xs : List V}, xs.all z20 = true -> z2K xs xs = true
 | [], _ => rfl
 | x :: xs, h => by
  rw [List.all_cons, Bool.and_eq_true] at h
  unfold z2K
  rw [z8B h.1, z82 h.2]
  rfl
theorem z9S : ∀ {xs : List V} {us : List Value}, Vals xs us -> xs.all z20 = true -> ∀ (j : Nat) (h : j < us.length), RelV (xs.getD j .non) us[j] /\ z20 (xs.getD j .non) = true
 | _, _, .nil, _, j, h => absurd h (Nat.not_lt_zero _)
 | x :: xs, u :: us, .cons r t, f, 0, h => by
  rw [List.all_cons, Bool.and_eq_true] at f
  exact ⟨r, f.1⟩
 | x :: xs, u :: us, .cons r t, f, j + 1, h => by
  rw [List.all_cons, Bool.and_eq_true] at f
  exact z9S t f.2 j (Nat.lt_of_succ_lt_succ h)
def eqI : List Value -> List V -> Bool
 | [], [] => true
 | u :: us, x :: xs => eqU x u && eqI us xs
 | _, _ => false
theorem y27 : ∀ {ys : List V} {us : List Value} (xs : List V), Vals ys us -> ys.all z20 = true -> eqI us xs = z2K ys xs
 | _, _, [], .nil, _ => rfl
 | _, _, _ :: _, .nil, _ => rfl
 | y :: ys, u :: us, [], .cons r t, f => rfl
 | y :: ys, u :: us, x :: xs, .cons r t, f => by
  rw [List.all_cons, Bool.and_eq_true] at f
  unfold eqI z2K
  rw [y3l r f.1, y27 xs t f.2]
section
variable {X : Cx}
theorem y3j {A : Around} {s : Shared} {a b : Addr} {its its2 : List Value} {xs ys : List V} (pl : s.heap.IsTuple a its.toArray) (pl2 : s.heap.IsTuple b its2.toArray) (r : Vals xs its) (r2 : Vals ys its2) (f : xs.all z20 = true) (f2 : ys.all z20 = true) (hu : A.units < cLine) :
  SeqAt.RcAt A s (.ref a) (.ref b) (z2K xs ys) := by
 have h := SeqAt.RcAt.tuples (e := fun j => eqV (xs.getD j .non) (ys.getD j .non)) pl pl2 hu fun j h1 h2 => by
  rw [List.size_toArray] at h1 h2
  obtain ⟨q1, q2⟩ := z9S r f j h1
  obtain ⟨q3, q4⟩ := z9S r2 f2 j h2
  exact y4T q1 q3 q2 q4
 rw [List.size_toArray, List.size_toArray, <- r.length, <- r2.length, y0z] at h
 exact h
def rEqT (K : PySem.W.Frag) : R2 := fun x y H Q => ∃ a b xs ys, x = .ref a /\ y = .ref b /\ SqT K H a xs /\ SqT K H b ys /\ xs.all z20 = true /\ ys.all z20 = true /\ Q (.bl (z2K xs ys)) H
theorem y31 (hu : X.A.units < cLine) : OpR X (compareOp .Eq) (rEqT X.K) := by
 intro pins s σ H x y v u Q I rx ry h
 obtain ⟨a, b, xs, ys, rfl, rfl, ha, hb, f1, f2, q⟩ := h
 cases rx
 cases ry
 obtain ⟨its, r, pl, hz⟩ := I.tuple ha
 obtain ⟨its2, r2, pl2, hz2⟩ := I.tuple hb
 exact y3j pl pl2 r r2 f1 f2 hu X.prog X.w X.xe _ ⟨.bl _, H, I, rfl, q⟩
def z3B (s : Shared) (xs : List V) : Value -> Bool
 | .ref b => match s.heap.get? b with
  | some o => match o.data with
   | .seq its _ => eqI its.toList xs
   | _ => false
  | none => false
 | _ => false
def y5s (K : PySem.W.Frag) : R2 := fun x y H Q => ∃ a p xs us yss, x = .ref a /\ y = .ref p /\ SqT K H a xs /\ xs.all z20 = true /\ SqL K H p us /\ Paired (fun u ys => ∃ b, u = .ref b /\ SqT K H b ys /\ ys.all z20 = true) us yss /\ Q (.bl (!yss.any fun ys => z2K ys xs)) H
theorem y3i (hu : X.A.units + 1 < cLine) : OpR X (compareOp .NotIn) (y5s X.K) := by
 intro pins s σ H x y v u Q I rx ry h
 obtain ⟨a, p, xs, us, yss, rfl, rfl, ha, f1, hp, pr, q⟩ := h
 cases rx
 cases ry
 obtain ⟨its, r, pl, hz⟩ := I.tuple ha
 obtain ⟨its2, r2, pl2, hz2⟩ := I.list hp
 have item : ∀ (b : Addr) (ys : List V), SqT X.K H b ys -> ys.all z20 = true -> z3B s xs (.ref b) = z2K ys xs /\ SeqAt.EqAt X.A.in1 s (.ref b) (.ref a) (z2K ys xs) := fun b ys hb fb => by
  obtain ⟨its3, r3, pl3, hz3⟩ := I.tuple hb
  have e1 : z3B s xs (.ref b) = z2K ys xs := by
   obtain ⟨o, ho, hc, n, hd⟩ := pl3
   unfold z3B
   simp only [ho, hd]
   exact y27 xs r3 fb
  refine ⟨e1, ?_⟩
  by_cases hne : b = a
  ·subst hne
   have e2 : z2K ys xs = true := by
    rw [<- e1]
    obtain ⟨o, ho, hc, n, hd⟩ := pl
    unfold z3B
    simp only [ho, hd]
    rw [y27 xs r f1]
    exact z82 f1
   rw [e2]
   exact SeqAt.EqAt.same _
  ·exact SeqAt.EqAt.of_refs hne (y3j pl3 pl r3 r fb f1 hu)
 have all : ∀ {us : List V} {yss : List (List V)} {vs : List Value}, Paired (fun u ys => ∃ b, u = .ref b /\ SqT X.K H b ys /\ ys.all z20 = true) us yss -> Vals us vs -> vs.any (z3B s xs) = yss.any (fun ys => z2K ys xs) /\ ∀ v ∈ vs, SeqAt.EqAt X.A.in1 s v (.ref a) (z3B s xs v) := by
  intro us yss vs pr
  induction pr generalizing vs with
  | nil =>
   intro r
   cases r
   exact ⟨rfl, fun v hv => (nomatch hv)⟩
  | cons h t ih =>
   intro r
   cases r with
   | cons r1 rt =>
    obtain ⟨b, rfl, hb, fb⟩ := h
    cases r1
    obtain ⟨i1, i2⟩ := ih rt
    obtain ⟨j1, j2⟩ := item b _ hb fb
    refine ⟨by rw [List.any_cons, List.any_cons, i1, j1], fun v hv => ?_⟩
    rcases List.mem_cons.mp hv with rfl | hv
    ·rw [j1]; exact j2
    ·exact i2 v hv
 obtain ⟨a1, a2⟩ := all pr r2
 refine SeqAt.notIn_listAt (z3B s xs) pl2.isList (fun w hw => a2 w (by simpa using hw)) ⟨.bl _, H, I, rfl, ?_⟩
 rw [show its2.toArray.any (z3B s xs) = its2.any (z3B s xs) by simp, a1]
 exact q
end
def rSlA (K : PySem.W.Frag) : V -> Option Int -> Option Int -> Hp -> VK -> Prop := fun x lo hi H Q => ∃ a xs, x = .ref a /\ SqT K H a xs /\ ((HT.sIx xs.length 0 lo = 0 /\ HT.sIx xs.length xs.length hi = xs.length) -> Q (.ref a) H) /\
 (¬ (HT.sIx xs.length 0 lo = 0 /\ HT.sIx xs.length xs.length hi = xs.length) -> ∀ p, H p = none -> Q (.ref p) (upd H p (.tup (cutV xs lo hi))))
theorem y2d {X : Cx} : SlR X (rSlA X.K) := by
 intro pins s σ H x v vl vu lo hi sl Q I rx hs pl pu h
 obtain ⟨a, xs, rfl, hx, q1, q2⟩ := h
 by_cases hw : HT.sIx xs.length 0 lo = 0 /\ HT.sIx xs.length xs.length hi = xs.length
 ·cases rx
  obtain ⟨its, r, ht, hz⟩ := I.tuple hx
  have hlen : its.toArray.size = xs.length := by rw [List.size_toArray]; exact r.length.symm
  exact ⟨"tuple", _, PyProof.Rows.slot_tuple_getitem.lookup, ht.typeIs, HT.z6b ht hs pl pu (by rw [hlen]; exact hw) ⟨.ref a, H, I, rfl, q1 hw⟩⟩
 ·exact y55 pins s σ H (.ref a) v vl vu lo hi sl Q I rx hs pl pu ⟨a, xs, rfl, hx, hw, q2 hw⟩
section
variable {X : Cx} {tg : Expr}
end
theorem len7 {us : List Value} {p : List Value -> Prop} (h : us.length = 7) (k : ∀ a b c d e f g, p [a, b, c, d, e, f, g]) : p us := by
 match us, h with
 | [a, b, c, d, e, f, g], _ => exact k a b c d e f g
end L2
namespace HT
open PySem PySem.Spec PyProof.Rows L2
section
variable {prog : Program} {w : World} {A : Around} {E : Value -> Shared -> Prop} {s : Shared}
theorem y3X {t b : Addr} {vs ws : List Value} {Q : Value -> Shared -> Prop} (ht : IsTup s.heap t vs.toArray) (hb : IsTup s.heap b ws.toArray) (h0 : vs = [] -> Q (.ref b) s)
  (h1 : vs ≠ [] -> ws = [] -> Q (.ref t) s) (h2 : vs ≠ [] -> ws ≠ [] -> Q (.ref s.heap.objs.size) { s with heap := s.heap.push { cls := .type "tuple", data := .seq (vs ++ ws).toArray } })
  (hsz : vs.length + ws.length ≤ sizeLine) : wpAny (model prog w) A (binaryOp .Add (.ref t) (.ref b)) Q E s := by
 by_cases hv : vs = []
 ·obtain ⟨⟨cls, dd, data, sl⟩, ho, hc, n, hd⟩ := id ht
  obtain ⟨⟨cls2, dd2, data2, sl2⟩, ho2, hc2, n2, hd2⟩ := id hb
  simp only at hc hd hc2 hd2
  subst hc hd hc2 hd2
  exact concat_meets ⟨_, ho, rfl⟩ ⟨_, ho2, rfl⟩ noFill_tuple_add seq_tuple_add PySem.F.slot_tuple_add PySem.F.entry_tuple_add (PySem.F.args_tuple_add_2 _ _)
   (tuple_addW0 t b vs.toArray ws.toArray n n2 dd dd2 sl sl2 (by simp [hv])) ⟨ho, ho2, h0 hv⟩
 ·exact y2K ht hb hv (h1 hv) (h2 hv) hsz
end
end HT
namespace L2
open PySem PySem.Spec PyProof.Rows
section
variable {X : Cx}
def rCatA : R2 := fun x y H Q => ∃ a b xs ys, x = .ref a /\ y = .ref b /\ H a = some (.tup xs) /\ H b = some (.tup ys) /\ xs.length + ys.length ≤ sizeLine /\ ∀ p H', Same H H' -> H' p = some (.tup (xs ++ ys)) -> Q (.ref p) H'
theorem y0f : OpR X (binaryOp .Add) rCatA := by
 intro pins s σ H x y v u Q I rx ry h
 obtain ⟨a, b, xs, ys, rfl, rfl, ha, hb, hz, q⟩ := h
 cases rx
 cases ry
 obtain ⟨its, r1, p1, _⟩ := I.tuple (SqT.of ha)
 obtain ⟨its2, r2, p2, _⟩ := I.tuple (SqT.of hb)
 refine HT.y3X p1 p2 (fun z => ?_) (fun z0 z => ?_) (fun z0 z => ?_) (by rw [<- r1.length, <- r2.length]; exact hz)
 ·refine ⟨.ref b, H, I, rfl, q b H (Same.refl _) ?_⟩
  rw [r1.nil_iff.mp z]
  exact hb
 ·refine ⟨.ref a, H, I, rfl, q a H (Same.refl _) ?_⟩
  rw [r2.nil_iff.mp z, List.append_nil]
  exact ha
 ·refine ⟨.ref s.heap.objs.size, _, I.laid (t' := s.toks) (o := .tup (xs ++ ys)) (fun b ob q => Heap.get?_push_of_some _ q) (Nat.le_refl _) ?_, rfl, q _ _ (fun c o e => ?_) z02⟩
  ·exact ⟨by rw [List.length_append]; exact hz, _, r1.append r2, PlT.new _ _⟩
  ·rw [z0d (z0i e (I.hok.fresh (Nat.le_refl _)))]
   exact e
def rSlB : V -> Option Int -> Option Int -> Hp -> VK -> Prop := fun x lo hi H Q => ∃ a xs, x = .ref a /\ H a = some (.tup xs) /\ ∀ p H', Same H H' -> H' p = some (.tup (cutV xs lo hi)) -> Q (.ref p) H'
theorem y2e : SlR X rSlB := by
 intro pins s σ H x v vl vu lo hi sl Q I rx hs pl pu h
 obtain ⟨a, xs, rfl, ha, q⟩ := h
 refine y2d pins s σ H (.ref a) v vl vu lo hi sl Q I rx hs pl pu ⟨a, xs, rfl, SqT.of ha, fun hw => q a H (Same.refl _) ?_, fun _ p hp => q p _ (fun c o e => by rw [z0d (z0i e hp)]; exact e) z02⟩
 have e : cutV xs lo hi = xs := by
  unfold cutV
  rw [hw.1, hw.2, List.drop_zero, Nat.sub_zero, List.take_length]
 rw [e]
 exact ha
theorem z2j (zs : List Str) : (zs.map V.str).all z20 = true := by
 rw [List.all_map, List.all_eq_true]
 intro z _
 rfl
end
def DfK (K : PySem.W.Frag) (x q : Str) (st : Stmt) (dV : Value) (f : Addr) : Prop := ∃ (oc : Value) (od : Option Addr) (kV doc pm : Value) (an : Option Addr) (cdv ct : Value) (osl : Array (Option Value)),
 K.lookup f = some ⟨oc, od, .func (PySem.W.fnOf x q (z1m st) (z17 st) (z06 st) dV kV doc pm an cdv ct), osl⟩ /\ PySem.W.codeIn K cdv q = true /\ PySem.W.keepIn K (.ref f) = true
def DfT (K : PySem.W.Frag) (x : Str) (st : Stmt) (dV : Value) (f : Addr) : Prop := PySem.W.nsIn K mainGlobals x = some (some (.ref f)) /\ DfK K x x st dV f
def DfM (K : PySem.W.Frag) (C : Addr) (x q : Str) (st : Stmt) (dV : Value) (f : Addr) : Prop := PySem.W.findIn K (.ref C) x = some (some (.ref f)) /\ PySem.W.isFn K (.ref f) = true /\ DfK K x q st dV f
def DfD (K : PySem.W.Frag) (T : Addr) (its : Array Value) : Prop := ∃ oct odt nt slt, K.lookup T = some ⟨oct, odt, .seq its nt, slt⟩
def DfC (K : PySem.W.Frag) (x : Str) (C : Addr) : Prop := PySem.W.nsIn K mainGlobals x = some (some (.ref C)) /\ PySem.W.plainGet K C Str.empty = true /\ PySem.W.hasDictIn K C = true /\ PySem.W.plainOver K C = true /\ PySem.W.findIn K (.ref C) "__setattr__" = some (some (.builtin "object.__setattr__")) /\ PySem.W.makesIn K C = true /\ PySem.W.keepIn K (.ref C) = true
section
variable {K : PySem.W.Frag} {mg : Str -> Option Value} {x q : Str} {st : Stmt} {f C T : Addr} {fd : FuncData} {its : Array Value}
theorem DfK.fn (h : DfK K x q st .none f) : ∃ fd, Fun K x q st f fd := by
 obtain ⟨oc, od, kV, doc, pm, an, cdv, ct, osl, l, c, k⟩ := h
 exact ⟨_, y6p l c k⟩
theorem DfK.fnD (h : DfK K x q st (.ref T) f) (d : DfD K T its) : ∃ fd, FunD K x q st f fd T its := by
 obtain ⟨oc, od, kV, doc, pm, an, cdv, ct, osl, l, c, k⟩ := h
 obtain ⟨_, _, _, _, d⟩ := d
 exact ⟨_, y5F l d c k⟩
theorem z0y {h : Heap} (X : K.In h) (G : h.Ns mainGlobals mg) (a : DfT K x st .none f) : ∃ fd, Fun K x x st f fd /\ mg x = some (.ref f) := by
 obtain ⟨fd, F⟩ := a.2.fn
 exact ⟨fd, F, PySem.W.mg_of X G a.1⟩
theorem y6c {h : Heap} (X : K.In h) (G : h.Ns mainGlobals mg) (a : DfT K x st (.ref T) f) (d : DfD K T its) : ∃ fd, FunD K x x st f fd T its /\ mg x = some (.ref f) := by
 obtain ⟨fd, F⟩ := a.2.fnD d
 exact ⟨fd, F, PySem.W.mg_of X G a.1⟩
theorem z1u (a : DfM K C x q st .none f) : ∃ fd, Fun K x q st f fd /\ Meth K C x f := by
 obtain ⟨fd, F⟩ := a.2.2.fn
 exact ⟨fd, F, a.1, a.2.1, F.kp⟩
theorem y3M (a : DfM K C x q st (.ref T) f) (d : DfD K T its) : ∃ fd, FunD K x q st f fd T its /\ Meth K C x f := by
 obtain ⟨fd, F⟩ := a.2.2.fnD d
 exact ⟨fd, F, a.1, a.2.1, F.kp⟩
theorem z9O {y : Str} (c : DfC K y C) (a : DfM K C "__init__" q st .none f) : ∃ fd, Fun K "__init__" q st f fd /\ Mk K C f := by
 obtain ⟨fd, F⟩ := a.2.2.fn
 exact ⟨fd, F, c.2.2.2.2.2.1, a.1, a.2.1, c.2.2.2.2.2.2⟩
theorem DfC.cls {y : Str} (c : DfC K y C) : Cls K C := ⟨c.2.1, c.2.2.1, c.2.2.2.1, c.2.2.2.2.1⟩
theorem DfC.nm {h : Heap} (X : K.In h) (G : h.Ns mainGlobals mg) {y : Str} (c : DfC K y C) : mg y = some (.ref C) := PySem.W.mg_of X G c.1
theorem y3w {p : Str} (F : Fun K x q st f fd) (h : ∀ kV doc pm an cdv ct v, bindArgs (PySem.W.fnOf x q (z1m st) (z17 st) (z06 st) .none kV doc pm an cdv ct) ⟨[v], []⟩ = pure [(p, v)] := by intros; rfl) : ∀ (s : Shared) (v : Value), BindsTo s fd ⟨[v], []⟩ [(p, v)] := by
 obtain ⟨oc, od, kV, doc, pm, an, cdv, ct, osl, rfl, l, c⟩ := F.ex
 exact fun s v => .of_eq (h _ _ _ _ _ _ _)
theorem b0 (F : Fun K x q st f fd) (h : ∀ kV doc pm an cdv ct, bindArgs (PySem.W.fnOf x q (z1m st) (z17 st) (z06 st) .none kV doc pm an cdv ct) ⟨[], []⟩ = pure (List.zip [] []) := by intros; rfl) : z1G K fd [] [] :=
 F.binds fun kV doc pm an cdv ct us hl => len0 (p := fun us => bindArgs _ ⟨us, []⟩ = pure (List.zip _ us)) hl (h kV doc pm an cdv ct)
theorem b1 {p1 : Str} (F : Fun K x q st f fd) (h : ∀ kV doc pm an cdv ct a, bindArgs (PySem.W.fnOf x q (z1m st) (z17 st) (z06 st) .none kV doc pm an cdv ct) ⟨[a], []⟩ = pure (List.zip [p1] [a]) := by intros; rfl) : z1G K fd [p1] [] :=
 F.binds fun kV doc pm an cdv ct us hl => len1 (p := fun us => bindArgs _ ⟨us, []⟩ = pure (List.zip _ us)) hl (h kV doc pm an cdv ct)
theorem b2 {p1 p2 : Str} (F : Fun K x q st f fd) (h : ∀ kV doc pm an cdv ct a b, bindArgs (PySem.W.fnOf x q (z1m st) (z17 st) (z06 st) .none kV doc pm an cdv ct) ⟨[a, b], []⟩ = pure (List.zip [p1, p2] [a, b]) := by intros; rfl) : z1G K fd [p1, p2] [] :=
 F.binds fun kV doc pm an cdv ct us hl => len2 (p := fun us => bindArgs _ ⟨us, []⟩ = pure (List.zip _ us)) hl (h kV doc pm an cdv ct)
theorem b3 {p1 p2 p3 : Str} (F : Fun K x q st f fd) (h : ∀ kV doc pm an cdv ct a b c, bindArgs (PySem.W.fnOf x q (z1m st) (z17 st) (z06 st) .none kV doc pm an cdv ct) ⟨[a, b, c], []⟩ = pure (List.zip [p1, p2, p3] [a, b, c]) := by intros; rfl) : z1G K fd [p1, p2, p3] [] :=
 F.binds fun kV doc pm an cdv ct us hl => len3 (p := fun us => bindArgs _ ⟨us, []⟩ = pure (List.zip _ us)) hl (h kV doc pm an cdv ct)
theorem b4 {p1 p2 p3 p4 : Str} (F : Fun K x q st f fd) (h : ∀ kV doc pm an cdv ct a b c d, bindArgs (PySem.W.fnOf x q (z1m st) (z17 st) (z06 st) .none kV doc pm an cdv ct) ⟨[a, b, c, d], []⟩ = pure (List.zip [p1, p2, p3, p4] [a, b, c, d]) := by intros; rfl) : z1G K fd [p1, p2, p3, p4] [] :=
 F.binds fun kV doc pm an cdv ct us hl => len4 (p := fun us => bindArgs _ ⟨us, []⟩ = pure (List.zip _ us)) hl (h kV doc pm an cdv ct)
theorem b5 {p1 p2 p3 p4 p5 : Str} (F : Fun K x q st f fd) (h : ∀ kV doc pm an cdv ct a b c d e, bindArgs (PySem.W.fnOf x q (z1m st) (z17 st) (z06 st) .none kV doc pm an cdv ct) ⟨[a, b, c, d, e], []⟩ = pure (List.zip [p1, p2, p3, p4, p5] [a, b, c, d, e]) := by intros; rfl) : z1G K fd [p1, p2, p3, p4, p5] [] :=
 F.binds fun kV doc pm an cdv ct us hl => len5 (p := fun us => bindArgs _ ⟨us, []⟩ = pure (List.zip _ us)) hl (h kV doc pm an cdv ct)
theorem b6 {p1 p2 p3 p4 p5 p6 : Str} (F : Fun K x q st f fd) (h : ∀ kV doc pm an cdv ct a b c d e g, bindArgs (PySem.W.fnOf x q (z1m st) (z17 st) (z06 st) .none kV doc pm an cdv ct) ⟨[a, b, c, d, e, g], []⟩ = pure (List.zip [p1, p2, p3, p4, p5, p6] [a, b, c, d, e, g]) := by intros; rfl) : z1G K fd [p1, p2, p3, p4, p5, p6] [] :=
 F.binds fun kV doc pm an cdv ct us hl => len6 (p := fun us => bindArgs _ ⟨us, []⟩ = pure (List.zip _ us)) hl (h kV doc pm an cdv ct)
theorem b7 {p1 p2 p3 p4 p5 p6 p7 : Str} (F : Fun K x q st f fd) (h : ∀ kV doc pm an cdv ct a b c d e g i, bindArgs (PySem.W.fnOf x q (z1m st) (z17 st) (z06 st) .none kV doc pm an cdv ct) ⟨[a, b, c, d, e, g, i], []⟩ = pure (List.zip [p1, p2, p3, p4, p5, p6, p7] [a, b, c, d, e, g, i]) := by intros; rfl) : z1G K fd [p1, p2, p3, p4, p5, p6, p7] [] :=
 F.binds fun kV doc pm an cdv ct us hl => len7 (p := fun us => bindArgs _ ⟨us, []⟩ = pure (List.zip _ us)) hl (h kV doc pm an cdv ct)
end
theorem calF (P : Program) (w : World) (K : PySem.W.Frag) (mg : Str -> Option Value) (base : Heap) {k : Nat} {x : Str} {ps : List Str} {sp : Sp} {st : Stmt} {f : Addr} {fd : FuncData} (F : Fun K x x st f fd /\ mg x = some (.ref f)) (a : FnOk P w K mg base CX0 k f fd ps sp) (b : z1G K fd ps []) : Cal P w K mg base k x ps sp := .mk' a b F.1.kp F.2
theorem mclF (P : Program) (w : World) (K : PySem.W.Frag) (mg : Str -> Option Value) (base : Heap) {k : Nat} {C : Addr} {x q : Str} {ps : List Str} {sp : Sp} {st : Stmt} {f : Addr} {fd : FuncData} (c : Cls K C) (F : Fun K x q st f fd /\ Meth K C x f) (a : FnOk P w K mg base CX0 k f fd ps sp) (b : z1G K fd ps []) : MCal P w K mg base k C x ps sp := .mk' c a b F.2
theorem mkrF (P : Program) (w : World) (K : PySem.W.Frag) (mg : Str -> Option Value) (base : Heap) {k : Nat} {C : Addr} {x y q : Str} {ps : List Str} {sp : Sp} {st : Stmt} {f : Addr} {fd : FuncData} (c : mg x = some (.ref C)) (F : Fun K y q st f fd /\ Mk K C f) (a : FnOk P w K mg base CX0 k f fd ps sp) (b : z1G K fd ps []) : Mkr P w K mg base k C x ps sp := .mk' a b F.2 c
theorem scp {N P : List Str} {sc : Scope} (h1 : sc.kind = .function := by rfl) (h2 : sc.isCoroutine = false := by rfl) (h3 : sc.isGenerator = false := by rfl) (h4 : N.Nodup := by decide +kernel) (h5 : N.take P.length = P := by rfl)
  (h6 : ∀ x ∈ P, sc.names.lookup x = some .local \/ sc.names.lookup x = some .cell := by decide +kernel) (h7 : ∀ y ∈ sc.names, y.2 ≠ .free := by decide +kernel) : FnScope N P sc := ⟨h1, h2, h3, h4, h5, h6, h7⟩
theorem rm {j k : Nat} {A : Around} (r : Room k A) (h : j ≤ k := by omega) : Room j A := r.mono h
theorem Cal.up {P : Program} {w : World} {K : PySem.W.Frag} {mg : Str -> Option Value} {base : Heap} {j k : Nat} {x : Str} {ps : List Str} {sp : Sp} (G : Cal P w K mg base j x ps sp) (h : j ≤ k := by decide) : Cal P w K mg base k x ps sp := G.mono h
theorem CalD.up {P : Program} {w : World} {K : PySem.W.Frag} {mg : Str -> Option Value} {base : Heap} {j k : Nat} {x : Str} {ps : List Str} {sp : Sp} {d : List V} (G : CalD P w K mg base j x ps sp d) (h : j ≤ k := by decide) : CalD P w K mg base k x ps sp d := G.mono h
theorem MCal.up {P : Program} {w : World} {K : PySem.W.Frag} {mg : Str -> Option Value} {base : Heap} {j k : Nat} {C : Addr} {x : Str} {ps : List Str} {sp : Sp} (G : MCal P w K mg base j C x ps sp) (h : j ≤ k := by decide) : MCal P w K mg base k C x ps sp := G.mono h
theorem MCalD.up {P : Program} {w : World} {K : PySem.W.Frag} {mg : Str -> Option Value} {base : Heap} {j k : Nat} {C : Addr} {x : Str} {ps : List Str} {sp : Sp} {d : List V} (G : MCalD P w K mg base j C x ps sp d) (h : j ≤ k := by decide) : MCalD P w K mg base k C x ps sp d := G.mono h
theorem Mkr.up {P : Program} {w : World} {K : PySem.W.Frag} {mg : Str -> Option Value} {base : Heap} {j k : Nat} {C : Addr} {x : Str} {ps : List Str} {sp : Sp} (G : Mkr P w K mg base j C x ps sp) (h : j ≤ k := by decide) : Mkr P w K mg base k C x ps sp := G.mono h
section
variable {X : Cx} {mg : Str -> Option Value}
theorem le2 : 2 ≤ sizeLine := by decide
end
end L2
namespace HT
open PySem PySem.Spec PyProof.Rows L2
section
variable {prog : Program} {w : World} {A : Around} {E : Value -> Shared -> Prop} {s : Shared}
theorem y1X {J t : Addr} {k : Nat} {ts : Array Value} {v : Value} {Q : Value -> Shared -> Prop} (hJ : s.heap.IsTupleIter J t k) (hT : s.heap.IsTuple t ts) (hv : ts[k]? = some v)
  (q : ∀ g, g.IsTupleIter J t (k + 1) -> Heap.SameBut J s.heap g -> Q v { s with heap := g }) : wpAny (model prog w) A (Builtin.SmallTypes.nextOf (.ref J)) Q E s := by
 obtain ⟨oj, gj, cj, dj⟩ := id hJ
 obtain ⟨ot, gt, _, nt, dt⟩ := hT
 unfold Builtin.SmallTypes.nextOf
 refine wpAny_bind (wpAny_callSpecial?_slot (name := Str.ofString "__next__") hJ.typeIs F.slot_tuple_iterator_next (wpAny_call_entry F.slot_tuple_iterator_next hJ.typeIs F.entry_tuple_iterator_next ?_ (F.args_tuple_iterator_next_1 _)))
 show wpAny _ _ (field (.ref J) 0 >>= _) _ _ s
 refine wpAny_bind (wpAny_field gj dj (x := .ref t) rfl ?_)
 show wpAny _ _ (if (Value.ref t == .none) = true then _ else _) _ _ s
 rw [if_neg (show ¬ (Value.ref t == .none) = true from Bool.false_ne_true)]
 show wpAny _ _ (field (.ref J) 1 >>= _) _ _ s
 refine wpAny_bind (wpAny_field gj dj (x := .int k 0) rfl ?_)
 show wpAny _ _ (seqItems? (.ref t) >>= _) _ _ s
 refine wpAny_bind (wpAny_seqItems gt dt ?_)
 simp only [Int.toNat_natCast, hv]
 refine wpAny_bind (wpAny_setField gj dj (by simp) (wpAny_pure ⟨v, rfl, wpAny_pure (q _ ⟨_, Heap.get?_update_self _ gj (Obj.isFreed_of_fields (Obj.data_mapFields dj _)), (Obj.cls_mapFields ..).trans cj, ?_⟩ (Heap.SameBut.update ..))⟩))
 rw [Obj.data_mapFields dj]
 simp [rawInt]
theorem y6H {J t : Addr} {k : Nat} {ts : Array Value} {Q : Value -> Shared -> Prop} (nh : A.handled = none) (hJ : s.heap.IsTupleIter J t k) (hT : s.heap.IsTuple t ts) (hv : ts[k]? = none)
  (q : ∀ g e, Heap.ExtBut J s.heap g -> (∃ o, g.get? e = some o /\ o.cls = .type "StopIteration") -> E (.ref e) { s with heap := g }) : wpAny (model prog w) A (Builtin.SmallTypes.nextOf (.ref J)) Q E s := by
 obtain ⟨oj, gj, cj, dj⟩ := id hJ
 obtain ⟨ot, gt, _, nt, dt⟩ := hT
 unfold Builtin.SmallTypes.nextOf
 refine wpAny_bind (wpAny_callSpecial?_slot (name := Str.ofString "__next__") hJ.typeIs F.slot_tuple_iterator_next (wpAny_call_entry F.slot_tuple_iterator_next hJ.typeIs F.entry_tuple_iterator_next ?_ (F.args_tuple_iterator_next_1 _)))
 show wpAny _ _ (field (.ref J) 0 >>= _) _ _ s
 refine wpAny_bind (wpAny_field gj dj (x := .ref t) rfl ?_)
 show wpAny _ _ (if (Value.ref t == .none) = true then _ else _) _ _ s
 rw [if_neg (show ¬ (Value.ref t == .none) = true from Bool.false_ne_true)]
 show wpAny _ _ (field (.ref J) 1 >>= _) _ _ s
 refine wpAny_bind (wpAny_field gj dj (x := .int k 0) rfl ?_)
 show wpAny _ _ (seqItems? (.ref t) >>= _) _ _ s
 refine wpAny_bind (wpAny_seqItems gt dt ?_)
 simp only [Int.toNat_natCast, hv]
 refine wpAny_bind (wpAny_rule (wpAny_bind (wpAny_setField gj dj (by simp) ?_)))
 show wpAny _ _ (newExc (.type "StopIteration") [] >>= _) _ _ _
 refine wpAny_bind ?_
 simp only [newExc, newTuple]
 refine wpAny_bind (wpAny_newObj_type ?_ (by size_fits))
 refine wpAny_bind (m := firstArgMember _ _) (wpAny_of_eq (a := Value.none) (by first | rfl | (simp only [firstArgMember]; rfl)) ?_)
 refine wpAny_newObj_type ?_ (by size_fits)
 simp only [raiseNew]
 refine wpAny_bind (wpAny_handled ?_)
 first | rw [show A.in1.handled = none from nh] | rw [nh]
 exact wpAny_bind (wpAny_pure (wpAny_throw (q _ _ (((Heap.SameBut.update ..).extBut.push _).push _) ⟨_, Heap.get?_push_size _ rfl, rfl⟩)))
structure ZA (z I O j1 j2 t1 t2 : Addr) : Prop where
 Iz : I ≠ z
 Oz : O ≠ z
 j1z : j1 ≠ z
 j2z : j2 ≠ z
 IO : I ≠ O
 Ij1 : I ≠ j1
 Ij2 : I ≠ j2
 Oj1 : O ≠ j1
 Oj2 : O ≠ j2
 jj : j1 ≠ j2
 t1z : t1 ≠ z
 t1O : t1 ≠ O
 t1j1 : t1 ≠ j1
 t1j2 : t1 ≠ j2
 t2z : t2 ≠ z
 t2O : t2 ≠ O
 t2j1 : t2 ≠ j1
 t2j2 : t2 ≠ j2
abbrev TuIt (h : Heap) (a t : Addr) (i : Nat) : Prop := h.IsTupleIter a t i
theorem TuIt.at {h g : Heap} {a t : Addr} {i : Nat} (x : h.IsTupleIter a t i) (k : ∀ o, h.get? a = some o -> g.get? a = some o) : g.IsTupleIter a t i := by
 obtain ⟨o, e, r⟩ := x
 exact ⟨o, k o e, r⟩
theorem y5u {z I O j1 j2 t1 t2 : Addr} {k : Nat} {xs ys : Array Value} {x y a b : Value} {Q : Value -> Shared -> Prop} (D : ZA z I O j1 j2 t1 t2)
  (gz : IsZip s.heap z I O .none) (gI : IsPair s.heap I (.ref j1) (.ref j2)) (gO : IsPair s.heap O a b) (g1 : s.heap.IsTupleIter j1 t1 k) (g2 : s.heap.IsTupleIter j2 t2 k) (u1 : s.heap.IsTuple t1 xs) (u2 : s.heap.IsTuple t2 ys) (hx : xs[k]? = some x) (hy : ys[k]? = some y)
  (q : ∀ g, IsZip g z I O (rawInt s.heap.objs.size) -> IsPair g O x y -> g.IsTupleIter j1 t1 (k + 1) -> g.IsTupleIter j2 t2 (k + 1) -> IsPair g s.heap.objs.size x y -> g.objs.size = s.heap.objs.size + 1 ->
   (∀ c o, c ≠ z -> c ≠ O -> c ≠ j1 -> c ≠ j2 -> s.heap.get? c = some o -> g.get? c = some o) -> Q (.ref s.heap.objs.size) { s with heap := g }) :
  wpAny (model prog w) A (Builtin.«zip.__next__» ⟨[.ref z], []⟩) (fun fin s' => ∃ v, fin = .done (.ret v) /\ Q v s') E s := by
 show wpAny _ _ (field (.ref z) 2 >>= _) _ _ _
 refine wpAny_bind (wpAny_field gz rfl (x := .bool false) rfl ?_)
 show wpAny _ _ (field (.ref z) 3 >>= _) _ _ _
 refine wpAny_bind (wpAny_field gz rfl (x := .ref I) rfl ?_)
 refine wpAny_bind (wpAny_seqItems gI rfl ?_)
 show wpAny _ _ (Builtin.SmallTypes.ownedTupleIsFree (.ref z) >>= _) _ _ _
 refine wpAny_bind ?_
 unfold Builtin.SmallTypes.ownedTupleIsFree
 refine wpAny_bind (wpAny_field gz rfl (x := .none) rfl (wpAny_pure ?_))
 simp only [if_true]
 refine wpAny_bind (wpAny_rule ?_)
 refine wpAny_bind (wpAny_field gz rfl (x := .ref O) rfl ?_)
 refine wpAny_bind (wpAny_setField_rec gz (by simp) fun A1 a1 b1 => ?_)
 replace a1 : IsZip A1 z I O .ellipsis := a1
 refine wpAny_bind ?_
 simp only [List.zipIdx_cons, List.zipIdx_nil, List.forIn_cons, List.forIn_nil]
 refine wpAny_bind (wpAny_bind (wpAny_onRaise ?_))
 show wpAny _ _ (Builtin.SmallTypes.nextOf (.ref j1) >>= _) _ _ _
 refine wpAny_bind (y1X (g1.extBut b1.extBut D.j1z) (u1.extBut b1.extBut D.t1z) hx fun A2 a2 b2 => wpAny_pure ?_)
 have o2 : IsPair A2 O a b := b2.extBut _ _ D.Oj1 (b1.extBut _ _ D.Oz gO)
 refine wpAny_bind (wpAny_seqItems o2 rfl ?_)
 refine wpAny_bind (wpAny_updateSeq_pair o2 fun A3 o3 b3 => ?_)
 replace o3 : IsPair A3 O x b := o3
 refine wpAny_bind (wpAny_letGo (wpAny_pure ?_))
 refine wpAny_bind (wpAny_bind (wpAny_onRaise ?_))
 show wpAny _ _ (Builtin.SmallTypes.nextOf (.ref j2) >>= _) _ _ _
 refine wpAny_bind (y1X (((g2.extBut b1.extBut D.j2z).extBut b2.extBut D.jj.symm).extBut b3.extBut D.Oj2.symm) (((u2.extBut b1.extBut D.t2z).extBut b2.extBut D.t2j1).extBut b3.extBut D.t2O) hy fun A4 a4 b4 => wpAny_pure ?_)
 have o4 : IsPair A4 O x b := b4.extBut _ _ D.Oj2 o3
 refine wpAny_bind (wpAny_seqItems o4 rfl ?_)
 refine wpAny_bind (wpAny_updateSeq_pair o4 fun A5 o5 b5 => ?_)
 replace o5 : IsPair A5 O x y := o5
 refine wpAny_bind (wpAny_letGo (wpAny_pure (wpAny_pure ?_)))
 refine wpAny_bind (wpAny_seqItems o5 rfl ?_)
 refine wpAny_bind (wpAny_newTuple ?_)
 have hsz : A5.objs.size = s.heap.objs.size := by rw [b5.1, b4.1, b3.1, b2.1, b1.1]
 have z5 : IsZip A5 z I O .ellipsis := b5.extBut _ _ D.Oz.symm (b4.extBut _ _ D.j2z.symm (b3.extBut _ _ D.Oz.symm (b2.extBut _ _ D.j1z.symm a1)))
 have k5 : ∀ c o, c ≠ z -> c ≠ O -> c ≠ j1 -> c ≠ j2 -> s.heap.get? c = some o -> A5.get? c = some o := fun c o c1 c2 c3 c4 e => b5.extBut _ _ c2 (b4.extBut _ _ c4 (b3.extBut _ _ c2 (b2.extBut _ _ c3 (b1.extBut _ _ c1 e))))
 have e1 : A5.IsTupleIter j1 t1 (k + 1) := ((a2.extBut b3.extBut D.Oj1.symm).extBut b4.extBut D.jj).extBut b5.extBut D.Oj1.symm
 have e2 : A5.IsTupleIter j2 t2 (k + 1) := a4.extBut b5.extBut D.Oj2.symm
 have lz : z < A5.objs.size := Heap.lt_size z5
 show wpAny _ _ (Builtin.SmallTypes.ownedTupleHandOut (.ref z) (.ref A5.objs.size) >>= _) _ _ _
 refine wpAny_bind ?_
 unfold Builtin.SmallTypes.ownedTupleHandOut
 have z6 : IsZip (A5.push { cls := .type "tuple", data := .seq #[x, y] }) z I O .ellipsis := Heap.get?_push_of_some _ z5
 refine wpAny_bind (wpAny_setField_rec z6 (by simp) fun A7 z7 b7 => ?_)
 replace z7 : IsZip A7 z I O (rawInt A5.objs.size) := z7
 refine wpAny_setField_rec z7 (by simp) fun A8 z8 b8 => ?_
 replace z8 : IsZip A8 z I O (rawInt A5.objs.size) := z8
 have up : ∀ c o, c ≠ z -> A5.get? c = some o -> A8.get? c = some o := fun c o c1 e => b8.extBut _ _ c1 (b7.extBut _ _ c1 (Heap.get?_push_of_some _ e))
 have r8 : IsPair A8 A5.objs.size x y := b8.extBut _ _ (Nat.ne_of_gt lz) (b7.extBut _ _ (Nat.ne_of_gt lz) (Heap.get?_push_size _ rfl))
 have s8 : A8.objs.size = A5.objs.size + 1 := by rw [b8.1, b7.1, Heap.size_push]
 rw [hsz] at z8 r8 s8
 refine wpAny_pure ⟨_, rfl, ?_⟩
 show Q (.ref A5.objs.size) _
 rw [hsz]
 exact q A8 z8 (up _ _ D.Oz o5) (TuIt.at e1 fun o e => up _ o D.j1z e) (TuIt.at e2 fun o e => up _ o D.j2z e) r8 s8 fun c o c1 c2 c3 c4 e => up c o c1 (k5 c o c1 c2 c3 c4 e)
theorem y6A {z I O j1 j2 t1 t2 : Addr} {k : Nat} {xs : Array Value} {Q : Fin -> Shared -> Prop} (nh : A.handled = none) (D : ZA z I O j1 j2 t1 t2)
  (gz : IsZip s.heap z I O .none) (gI : IsPair s.heap I (.ref j1) (.ref j2)) (g1 : s.heap.IsTupleIter j1 t1 k) (u1 : s.heap.IsTuple t1 xs) (hx : xs[k]? = none)
  (q : ∀ g e, (∀ c o, c ≠ z -> c ≠ j1 -> s.heap.get? c = some o -> g.get? c = some o) -> (∃ o, g.get? e = some o /\ o.cls = .type "StopIteration") -> E (.ref e) { s with heap := g }) :
  wpAny (model prog w) A (Builtin.«zip.__next__» ⟨[.ref z], []⟩) Q E s := by
 show wpAny _ _ (field (.ref z) 2 >>= _) _ _ _
 refine wpAny_bind (wpAny_field gz rfl (x := .bool false) rfl ?_)
 show wpAny _ _ (field (.ref z) 3 >>= _) _ _ _
 refine wpAny_bind (wpAny_field gz rfl (x := .ref I) rfl ?_)
 refine wpAny_bind (wpAny_seqItems gI rfl ?_)
 show wpAny _ _ (Builtin.SmallTypes.ownedTupleIsFree (.ref z) >>= _) _ _ _
 refine wpAny_bind ?_
 unfold Builtin.SmallTypes.ownedTupleIsFree
 refine wpAny_bind (wpAny_field gz rfl (x := .none) rfl (wpAny_pure ?_))
 simp only [if_true]
 refine wpAny_bind (wpAny_rule ?_)
 refine wpAny_bind (wpAny_field gz rfl (x := .ref O) rfl ?_)
 refine wpAny_bind (wpAny_setField_rec gz (by simp) fun A1 a1 b1 => ?_)
 replace a1 : IsZip A1 z I O .ellipsis := a1
 refine wpAny_bind ?_
 simp only [List.zipIdx_cons, List.zipIdx_nil, List.forIn_cons, List.forIn_nil]
 refine wpAny_bind (wpAny_bind (wpAny_onRaise ?_))
 show wpAny _ _ (Builtin.SmallTypes.nextOf (.ref j1) >>= _) _ _ _
 refine wpAny_bind (y6H nh (g1.extBut b1.extBut D.j1z) (u1.extBut b1.extBut D.t1z) hx fun A2 e b2 he => ?_)
 obtain ⟨oe, ge, ce⟩ := he
 have z2 : IsZip A2 z I O .ellipsis := b2 _ _ D.j1z.symm a1
 have ne : e ≠ z := fun x => by subst x; rw [z2] at ge; cases ge; simp at ce
 exact wpAny_setField_rec z2 (by simp) fun A3 _ b3 => q A3 e (fun c o c1 c3 x => b3.extBut _ _ c1 (b2 _ _ c3 (b1.extBut _ _ c1 x))) ⟨oe, b3.extBut _ _ ne ge, ce⟩
theorem y69 {z I O j1 j2 t1 t2 : Addr} {k : Nat} {xs ys : Array Value} {x y a b : Value} {Q : Option Value -> Shared -> Prop} (D : ZA z I O j1 j2 t1 t2)
  (gz : IsZip s.heap z I O .none) (gI : IsPair s.heap I (.ref j1) (.ref j2)) (gO : IsPair s.heap O a b) (g1 : s.heap.IsTupleIter j1 t1 k) (g2 : s.heap.IsTupleIter j2 t2 k) (u1 : s.heap.IsTuple t1 xs) (u2 : s.heap.IsTuple t2 ys) (hx : xs[k]? = some x) (hy : ys[k]? = some y)
  (q : ∀ g, IsZip g z I O (rawInt s.heap.objs.size) -> IsPair g O x y -> g.IsTupleIter j1 t1 (k + 1) -> g.IsTupleIter j2 t2 (k + 1) -> IsPair g s.heap.objs.size x y -> g.objs.size = s.heap.objs.size + 1 ->
   (∀ c o, c ≠ z -> c ≠ O -> c ≠ j1 -> c ≠ j2 -> s.heap.get? c = some o -> g.get? c = some o) -> Q (some (.ref s.heap.objs.size)) { s with heap := g }) : wpAny (model prog w) A (pyNext (.ref z)) Q E s := by
 have ty : s.TypeIs (.ref z) "zip" := ⟨_, gz, rfl⟩
 unfold pyNext
 exact wpAny_bind (wpAny_attempt (wpAny_callSpecial?_slot (name := Str.ofString "__next__") ty F.slot_zip_next (wpAny_call_entry F.slot_zip_next ty F.entry_zip_next
  (y5u D gz gI gO g1 g2 u1 u2 hx hy fun g p1 p2 p3 p4 p5 p6 p7 => wpAny_pure (q g p1 p2 p3 p4 p5 p6 p7)) (F.args_zip_next_1 _))))
theorem y6V {z I O j1 j2 t1 t2 : Addr} {k : Nat} {xs : Array Value} {Q : Option Value -> Shared -> Prop} (nh : A.handled = none) (D : ZA z I O j1 j2 t1 t2)
  (gz : IsZip s.heap z I O .none) (gI : IsPair s.heap I (.ref j1) (.ref j2)) (g1 : s.heap.IsTupleIter j1 t1 k) (u1 : s.heap.IsTuple t1 xs) (hx : xs[k]? = none)
  (q : ∀ g, (∀ c o, c ≠ z -> c ≠ j1 -> s.heap.get? c = some o -> g.get? c = some o) -> Q none { s with heap := g }) : wpAny (model prog w) A (pyNext (.ref z)) Q E s := by
 have ty : s.TypeIs (.ref z) "zip" := ⟨_, gz, rfl⟩
 unfold pyNext
 refine wpAny_bind (wpAny_attempt (wpAny_callSpecial?_slot (name := Str.ofString "__next__") ty F.slot_zip_next (wpAny_call_entry F.slot_zip_next ty F.entry_zip_next (y6A nh D gz gI g1 u1 hx fun g e hk he => ?_) (F.args_zip_next_1 _))))
 obtain ⟨o, go, co⟩ := he
 exact wpAny_bind (wpAny_isInstance (T := "StopIteration") (b := true) ⟨o, go, co⟩ isSubtype_stop (wpAny_pure (q _ hk)))
abbrev zq1 (h : Heap) (t1 : Addr) : Heap := h.push { cls := .type "tuple_iterator", data := .fields #[.ref t1, .int 0 0] }
abbrev zq2 (h : Heap) (t1 t2 : Addr) : Heap := (zq1 h t1).push { cls := .type "tuple_iterator", data := .fields #[.ref t2, .int 0 0] }
abbrev zq3 (h : Heap) (t1 t2 : Addr) : Heap := (zq2 h t1 t2).push { cls := .type "tuple", data := .seq #[.ref h.objs.size, .ref (zq1 h t1).objs.size] }
abbrev zq4 (h : Heap) (t1 t2 : Addr) : Heap := (zq3 h t1 t2).push { cls := .type "tuple", data := .seq #[.none, .none] }
abbrev zq5 (h : Heap) (t1 t2 : Addr) : Heap := (zq4 h t1 t2).push { cls := .type "zip", data := .fields #[.none, .bool false, .bool false, .ref (zq2 h t1 t2).objs.size, .ref (zq3 h t1 t2).objs.size] }
theorem y1B (t1 t2 : Addr) (xs ys : Array Value) : Meets (Builtin.«zip.__new__» ⟨[.type "zip", .ref t1, .ref t2], []⟩) (fun _ R s => s.heap.IsTuple t1 xs /\ s.heap.IsTuple t2 ys /\ R (.ok (.ret (.ref (zq4 s.heap t1 t2).objs.size))) { s with heap := zq5 s.heap t1 t2 }) :=
 .of_wp fun prog w A R s h => by
  obtain ⟨hp, g, d, tk, os⟩ := s
  obtain ⟨u1, u2, h⟩ := h
  have hsub := sub_zip
  have v1 : Heap.IsTuple (Shared.heap ⟨hp, g, d, tk, os⟩) t1 xs := u1
  have v2 : Heap.IsTuple (Shared.heap ⟨hp.push { cls := .type "tuple_iterator", data := .fields #[.ref t1, .int 0 0] }, g, d, tk, os⟩) t2 ys := Heap.IsTuple.push u2 _
  wp_walk using wpAny_pyIter_tuple v1, wpAny_pyIter_tuple v2
  exact ⟨_, rfl, h⟩
theorem y2F {t1 t2 : Addr} {xs ys : Array Value} {Q : Value -> Shared -> Prop} (u1 : s.heap.IsTuple t1 xs) (u2 : s.heap.IsTuple t2 ys)
  (h : ∀ g, IsZip g (s.heap.objs.size + 4) (s.heap.objs.size + 2) (s.heap.objs.size + 3) .none -> IsPair g (s.heap.objs.size + 2) (.ref s.heap.objs.size) (.ref (s.heap.objs.size + 1)) -> IsPair g (s.heap.objs.size + 3) .none .none -> g.IsTupleIter s.heap.objs.size t1 0 ->
   g.IsTupleIter (s.heap.objs.size + 1) t2 0 -> (∀ c o, s.heap.get? c = some o -> g.get? c = some o) -> Q (.ref (s.heap.objs.size + 4)) { s with heap := g }) : wpAny (model prog w) A (call (.type "zip") [.ref t1, .ref t2]) Q E s := by
 refine callType_new F.called_zip (by decide) (F.typeCall_zip_2 _ _) (F.newCall_zip_2 _ _) (fun obj => F.args_object_init_3 obj _ _) F.entry_zip_new (y1B t1 t2 xs ys) ⟨u1, u2, ?_⟩
 have n1 : (zq1 s.heap t1).objs.size = s.heap.objs.size + 1 := Heap.size_push ..
 have n2 : (zq2 s.heap t1 t2).objs.size = s.heap.objs.size + 2 := by rw [Heap.size_push, n1]
 have n3 : (zq3 s.heap t1 t2).objs.size = s.heap.objs.size + 3 := by rw [Heap.size_push, n2]
 have n4 : (zq4 s.heap t1 t2).objs.size = s.heap.objs.size + 4 := by rw [Heap.size_push, n3]
 have k5 : (zq5 s.heap t1 t2).get? (zq4 s.heap t1 t2).objs.size = some _ := Heap.get?_push_size _ rfl
 have k4 : (zq5 s.heap t1 t2).get? (zq3 s.heap t1 t2).objs.size = some _ := Heap.get?_push_of_some _ (Heap.get?_push_size _ rfl)
 have k3 : (zq5 s.heap t1 t2).get? (zq2 s.heap t1 t2).objs.size = some _ := Heap.get?_push_of_some _ (Heap.get?_push_of_some _ (Heap.get?_push_size _ rfl))
 have k2 : (zq5 s.heap t1 t2).get? (zq1 s.heap t1).objs.size = some _ := Heap.get?_push_of_some _ (Heap.get?_push_of_some _ (Heap.get?_push_of_some _ (Heap.get?_push_size _ rfl)))
 have k1 : (zq5 s.heap t1 t2).get? s.heap.objs.size = some _ := Heap.get?_push_of_some _ (Heap.get?_push_of_some _ (Heap.get?_push_of_some _ (Heap.get?_push_of_some _ (Heap.get?_push_size _ rfl))))
 show _ /\ _
 rw [n2, n3, n4] at k5
 rw [n1, n2] at k3
 rw [n3] at k4
 rw [n1] at k2
 rw [n4]
 exact ⟨⟨_, k5, rfl⟩, h _ k5 k3 k4 ⟨_, k1, rfl, rfl⟩ ⟨_, k2, rfl, rfl⟩ fun c o x => Heap.get?_push_of_some _ (Heap.get?_push_of_some _ (Heap.get?_push_of_some _ (Heap.get?_push_of_some _ (Heap.get?_push_of_some _ x))))⟩
theorem y6w {n t1 t2 : Nat} (h1 : t1 < n) (h2 : t2 < n) : ZA (n + 4) (n + 2) (n + 3) n (n + 1) t1 t2 :=
 have l {a b : Nat} (h : a < b) : a ≠ b := Nat.ne_of_lt h
 have g {a b : Nat} (h : b < a) : a ≠ b := Nat.ne_of_gt h
 ⟨l (by omega), l (by omega), l (by omega), l (by omega), l (by omega), g (by omega), g (by omega), g (by omega), g (by omega), l (by omega), l (by omega), l (by omega), l (by omega), l (by omega), l (by omega), l (by omega), l (by omega), l (by omega)⟩
end
end HT
namespace L2
open PySem PySem.Spec PyProof.Rows
theorem Inv.turnT {X : Cx} {pins : List (Addr × Obj)} {σ : St} {H : Hp} {s : Shared} {h' : Heap} {fp : List Addr} {T : Addr} {o : HO} {t' : Nat} (I : Inv X pins σ H s) (hf : ∀ b ∈ fp, FpOk X pins H b)
  (k : ∀ b u, b ∉ fp -> s.heap.get? b = some u -> h'.get? b = some u) (hp : s.heap.objs.size ≤ T) (new : z1f X.prog X.w (upd H T o) h' T o) : Inv X pins σ (upd H T o) { s with heap := h', toks := t' } := by
 have hn := I.hok.fresh hp
 refine I.step (g' := s.gens) (d' := s.drawn) (ch := fp) (fun b hb => ⟨(hf b hb).2.2.2.1, (hf b hb).2.1, (hf b hb).2.2.2.2.1, (hf b hb).2.2.2.2.2⟩) (fun b o _ _ hc e _ => k b o hc e) (fun b o _ _ hc e _ => ⟨o.slots, k b o hc e⟩)
  (fun b o _ e n => by rw [z0d (Nat.ne_of_lt (Nat.lt_of_lt_of_le (Heap.lt_size e) hp))]; exact n) (fun b o hc e => ⟨o, k b o hc e⟩) (fun b xs e => by rw [z0d (z0i e hn)]; exact e) (fun b o u e => by rw [z0d (z0i e hn)]; exact e)
  (fun b ps e => ⟨#[], by rw [z0d (z0i e hn), e]; simp⟩) (fun m hm => ?_) (fun b u e => ?_) I.bare
 ·obtain ⟨o, es, ep, ho, r⟩ := hm
  exact ⟨o, es, ep, k _ o (fun m => (hf _ m).2.1 rfl) ho, r⟩
 ·by_cases hb : b = T
  ·subst hb
   rw [z02] at e
   cases e
   exact new
  ·rw [z0d hb] at e
   refine (I.hok b u e).stay (fun c v hc q => k c v (fun m => ?_) q) (fun c q => by rw [z0d (z0i q hn)]; exact q) fun c xs q => by rw [z0d (z0i q hn)]; exact q
   have z := (hf c m).1
   rcases hc with e2 | e2
   ·rw [e2, e] at z
    cases z
   ·rw [e2] at z
    cases z
theorem Inv.turnL {X : Cx} {pins : List (Addr × Obj)} {σ : St} {H : Hp} {s : Shared} {h' : Heap} {fp : List Addr} {t' : Nat} (I : Inv X pins σ H s) (hf : ∀ b ∈ fp, FpOk X pins H b)
  (k : ∀ b u, b ∉ fp -> s.heap.get? b = some u -> h'.get? b = some u) : Inv X pins σ H { s with heap := h', toks := t' } := by
 refine I.step (g' := s.gens) (d' := s.drawn) (ch := fp) (fun b hb => ⟨(hf b hb).2.2.2.1, (hf b hb).2.1, (hf b hb).2.2.2.2.1, (hf b hb).2.2.2.2.2⟩) (fun b o _ _ hc e _ => k b o hc e) (fun b o _ _ hc e _ => ⟨o.slots, k b o hc e⟩)
  (fun _ _ _ _ n => n) (fun b o hc e => ⟨o, k b o hc e⟩) (fun _ _ e => e) (fun _ _ _ e => e) (fun b ps e => ⟨#[], by rw [e]; simp⟩) (fun m hm => ?_) (fun b u e => ?_) I.bare
 ·obtain ⟨o, es, ep, ho, r⟩ := hm
  exact ⟨o, es, ep, k _ o (fun m => (hf _ m).2.1 rfl) ho, r⟩
 ·refine (I.hok b u e).stay (fun c v hc q => k c v (fun m => ?_) q) (fun _ q => q) fun _ _ q => q
  have z := (hf c m).1
  rcases hc with e2 | e2
  ·rw [e2, e] at z
   cases z
  ·rw [e2] at z
   cases z
def Itz (K : PySem.W.Frag) (a b : Addr) (n : Nat) : It :=
 ⟨fun i H => i < n /\ ∃ xs ys, SqT K H a xs /\ SqT K H b ys /\ xs.length = n /\ ys.length = n,
  fun i H v H' => ∃ T, v = .ref T /\ H T = none /\ ∀ xs ys, SqT K H a xs -> SqT K H b ys -> ∃ x y, xs[i]? = some x /\ ys[i]? = some y /\ H' = upd H T (.tup [x, y]),
  fun i H => n ≤ i /\ ∃ xs, SqT K H a xs /\ xs.length = n⟩
def ZSt (z J O j1 j2 a b : Addr) (i : Nat) (h : Heap) : Prop := IsZip h z J O .none /\ IsPair h J (.ref j1) (.ref j2) /\ (∃ u v, IsPair h O u v) /\ h.IsTupleIter j1 a i /\ h.IsTupleIter j2 b i
theorem y3I {P : Program} {w : World} {K : PySem.W.Frag} {es : List Expr} {ec : Nat} {tp : Pos} {z J O j1 j2 a b : Addr} (D : HT.ZA z J O j1 j2 a b) (n : Nat) : Turn P w K (.Tuple es ec tp) (Itz K a b n) [z, J, O, j1, j2] z (ZSt z J O j1 j2 a b) where
 mem := by simp
 obj := fun i h st c hc => by
  obtain ⟨g1, g2, ⟨u, v, g3⟩, ⟨o4, g4, _, d4⟩, ⟨o5, g5, _, d5⟩⟩ := st
  simp only [List.mem_cons, List.not_mem_nil, or_false] at hc
  rcases hc with rfl | rfl | rfl | rfl | rfl
  ·exact ⟨_, g1, fun v e => by cases e⟩
  ·exact ⟨_, g2, fun v e => by cases e⟩
  ·exact ⟨_, g3, fun v e => by cases e⟩
  ·exact ⟨_, g4, fun v e => by rw [d4] at e; cases e⟩
  ·exact ⟨_, g5, fun v e => by rw [d5] at e; cases e⟩
 keep := fun i h h' st k => by
  obtain ⟨g1, g2, ⟨u, v, g3⟩, g4, g5⟩ := st
  exact ⟨k _ (by simp) _ g1, k _ (by simp) _ g2, ⟨u, v, k _ (by simp) _ g3⟩, HT.TuIt.at g4 fun o e => k _ (by simp) o e, HT.TuIt.at g5 fun o e => k _ (by simp) o e⟩
 item := by
  intro X hP hw hK hc i pins s σ H E I hf st hg
  subst hP hw hK
  obtain ⟨hi, xs, ys, ha, hb, lx, ly⟩ := hg
  obtain ⟨its, rv, pa, hz⟩ := I.tuple ha
  obtain ⟨its2, rv2, pb, hz2⟩ := I.tuple hb
  have ex : xs[i]? = some xs[i] := List.getElem?_eq_getElem (by omega)
  have ey : ys[i]? = some ys[i] := List.getElem?_eq_getElem (by omega)
  obtain ⟨u, hu, ru⟩ := rv.get ex
  obtain ⟨u2, hu2, ru2⟩ := rv2.get ey
  obtain ⟨g1, g2, ⟨p, q, g3⟩, g4, g5⟩ := st
  refine HT.y69 D g1 g2 g3 g4 g5 (show s.heap.IsTuple a its.toArray from pa) (show s.heap.IsTuple b its2.toArray from pb) (x := u) (y := u2) (by simpa using hu) (by simpa using hu2) fun g p1 p2 p3 p4 p5 p6 p7 => ⟨_, rfl, wpAny_letOwnedTupleGo_zip p1 fun g' z' sb => ?_⟩
  have nT : ∀ c ∈ [z, J, O, j1, j2], s.heap.objs.size ≠ c := fun c hc => by
   obtain ⟨o, e⟩ : ∃ o, s.heap.get? c = some o := by
    simp only [List.mem_cons, List.not_mem_nil, or_false] at hc
    rcases hc with rfl | rfl | rfl | rfl | rfl
    ·exact ⟨_, g1⟩
    ·exact ⟨_, g2⟩
    ·exact ⟨_, g3⟩
    ·obtain ⟨o, e, _⟩ := g4; exact ⟨o, e⟩
    ·obtain ⟨o, e, _⟩ := g5; exact ⟨o, e⟩
   exact Nat.ne_of_gt (Heap.lt_size e)
  have gT : g'.get? s.heap.objs.size = some { cls := .type "tuple", data := .seq #[u, u2] } := sb.extBut _ _ (nT z (by simp)) p5
  have kp : ∀ c o, c ∉ [z, J, O, j1, j2] -> s.heap.get? c = some o -> g'.get? c = some o := fun c o hc e => by
   simp only [List.mem_cons, List.not_mem_nil, or_false, not_or] at hc
   exact sb.extBut _ _ hc.1 (p7 c o hc.1 hc.2.2.1 hc.2.2.2.1 hc.2.2.2.2 e)
  have I1 : Inv X pins σ (upd H s.heap.objs.size (.tup [xs[i], ys[i]])) { s with heap := g' } := Inv.turnT (t' := s.toks) I hf kp (Nat.le_refl _) ⟨by show 2 ≤ sizeLine; decide, [u, u2], .cons ru (.cons ru2 .nil), ⟨_, gT, rfl, ⟨_, rfl⟩, rfl⟩⟩
  refine ⟨.ref s.heap.objs.size, _, I1, rfl, ⟨_, rfl, I.hok.fresh (Nat.le_refl _), fun xs' ys' hx' hy' => ?_⟩, ?_, fun c hc => ?_⟩
  ·rw [I.tuple_inj hx' ha, I.tuple_inj hy' hb]
   exact ⟨_, _, ex, ey, rfl⟩
  ·exact ⟨z', sb.extBut _ _ D.Iz (p7 _ _ D.Iz D.IO D.Ij1 D.Ij2 g2), ⟨_, _, sb.extBut _ _ D.Oz p2⟩, p3.extBut sb.extBut D.j1z, p4.extBut sb.extBut D.j2z⟩
  ·rw [z0d (Ne.symm (nT c hc))]
   exact (hf c hc).1
 done := by
  intro X hP hw hK hc i pins s σ H E I hf st hg
  subst hP hw hK
  obtain ⟨hi, xs, ha, lx⟩ := hg
  obtain ⟨its, rv, pa, hz⟩ := I.tuple ha
  have hl := rv.length
  obtain ⟨g1, g2, _, g4, _⟩ := st
  refine HT.y6V (I.ok.hd hc) D g1 g2 g4 (show s.heap.IsTuple a its.toArray from pa) (by simp; omega) fun g hk => ⟨rfl, Inv.turnL (t' := s.toks) I hf fun c o hc e => ?_⟩
  simp only [List.mem_cons, List.not_mem_nil, or_false, not_or] at hc
  exact hk c o hc.1 hc.2.2.2.1 e
 self := fun _ _ _ _ _ st h => wpAny_pyIter_zip st.1 h
section
variable {X : Cx} {es : List Expr} {ec : Nat} {tp : Pos}
def iZip (K : PySem.W.Frag) (ta : TA) : TI := fun σ H R => ta σ H fun vs H1 => ∃ a b xs ys, vs = [.ref a, .ref b] /\ SqT K H1 a xs /\ SqT K H1 b ys /\ xs.length = ys.length /\ R (Itz K a b xs.length) H1
theorem y6O {e e2 : Expr} {ta : TA} {p pos : Pos} (hg : Gl X "zip") (hm : X.mg "zip" = none) (ha : PA X [e, e2] ta) (hs : starEach [e, e2] X.env = (false, eval e X.env) :: starEach [e2] X.env := by rfl) (hs2 : (backTo pos (starEach [e2] X.env)).any (·.1) = false := by rfl) : PI X (.Tuple es ec tp) (.Call (.Name "zip" p) [e, e2] [] pos) (iZip X.K ta) := by
 intro pins s σ H R I h
 refine Call_ (z4K I hg hm boot_zip (PyProof.Rows.callWith_type1 (thn (ha pos pins s σ H _ I h) fun us s1 ⟨vs, H1, I1, r1, q1⟩ => ?_) hs hs2))
 obtain ⟨a, b, xs, ys, e, hq, hq2, ll, q⟩ := q1
 subst e
 cases r1 with
 | cons r rr =>
  cases rr with
  | cons r' rr' =>
   cases rr'
   cases r
   cases r'
   obtain ⟨its, rv, pa, hz⟩ := I1.tuple hq
   obtain ⟨its2, rv2, pb, hz2⟩ := I1.tuple hq2
   have la : a < s1.heap.objs.size := by obtain ⟨o, e, _⟩ := pa; exact Heap.lt_size e
   have lb : b < s1.heap.objs.size := by obtain ⟨o, e, _⟩ := pb; exact Heap.lt_size e
   refine HT.y2F (show s1.heap.IsTuple a its.toArray from pa) (show s1.heap.IsTuple b its2.toArray from pb) fun g k1 k2 k3 k4 k5 k6 => ?_
   refine wpAny_pyIter_zip k1 ?_
   refine ⟨s1.heap.objs.size + 4, _, _, _, H1, rfl, I1.kept (t' := s1.toks) k6, y3I (HT.y6w la lb) xs.length, ⟨k1, k2, ⟨_, _, k3⟩, k4, k5⟩, fun c hc => ?_, q⟩
   have lc : s1.heap.objs.size ≤ c := by
    simp only [List.mem_cons, List.not_mem_nil, or_false] at hc
    rcases hc with rfl | rfl | rfl | rfl | rfl
    ·exact Nat.le_add_right _ _
    ·exact Nat.le_add_right _ _
    ·exact Nat.le_add_right _ _
    ·exact Nat.le_refl _
    ·exact Nat.le_add_right _ _
   exact I1.fpOk lc (I1.hok.fresh lc)
theorem y3P (hc : X.calm = true) : z3o X (.builtin "all") (fun xs H Q => ∃ (p : Addr) (bs : List Bool), xs = [.ref p] /\ SqL X.K H p (bs.map V.bl) /\ Q (.bl (bs.all id)) H) := by
 intro pins s σ H xs us Q I r h
 obtain ⟨p, bs, rfl, hq, q⟩ := h
 obtain ⟨u, rfl, rx⟩ := z4h r
 cases rx
 obtain ⟨its, rv, pl, hz⟩ := I.list hq
 have hl := rv.length
 rw [List.length_map] at hl
 have lp : p < s.heap.objs.size := by obtain ⟨o, e, _⟩ := pl.isList; exact Heap.lt_size e
 have vals : ∀ (i : Nat) (v : Value), its.toArray[i]? = some v -> v = .bool (bs.getD i true) := fun i v e => by
  have e' : its[i]? = some v := by simpa using e
  have hi : i < bs.length := by have := (List.getElem?_eq_some_iff.mp e').1; omega
  obtain ⟨u, hu, ru⟩ := rv.get (show (bs.map V.bl)[i]? = some (V.bl bs[i]) by rw [List.getElem?_map, List.getElem?_eq_getElem hi]; rfl)
  rw [e'] at hu
  cases hu
  rw [List.getD_eq_getElem?_getD, List.getElem?_eq_getElem hi]
  cases ru
  rfl
 refine call_all_walk (wpAny_pyIter_list pl.isList ?_)
 refine ⟨s.heap.objs.size, _, _, _, _, _, fun i => bs.getD i true, rfl, Walks.list (A := X.A.in1) (show X.A.in1.handled = none from I.ok.hd hc) s.heap.objs.size p (Nat.ne_of_lt lp) its.toArray, ⟨⟨_, Heap.get?_push_size _ rfl, rfl, rfl⟩, Heap.IsList.push pl.isList _⟩, fun i v s Q E e hQ => ?_, fun h' tk k => ?_⟩
 ·rw [vals i v e]
  exact wpAny_truthy_bool hQ
 ·refine ⟨.bl _, H, I.kept (t' := tk) (fun b o e => k b o (fun m => ?_) (Heap.get?_push_of_some _ e)), rfl, ?_⟩
  ·have := Heap.lt_size e
   rw [List.mem_singleton.mp m] at this
   exact absurd this (Nat.lt_irrefl _)
  ·have e : (List.range its.toArray.size).all (fun i => bs.getD i true) = bs.all id := by
    rw [List.size_toArray, <- hl, Bool.eq_iff_iff, List.all_eq_true, List.all_eq_true]
    constructor
    ·intro h b hb
     obtain ⟨i, hi, e⟩ := List.getElem_of_mem hb
     have := h i (List.mem_range.mpr hi)
     rw [List.getD_eq_getElem?_getD, List.getElem?_eq_getElem hi, e] at this
     exact this
    ·intro h i hi
     have hi' := List.mem_range.mp hi
     rw [List.getD_eq_getElem?_getD, List.getElem?_eq_getElem hi']
     exact h _ (List.getElem_mem hi')
   rw [e]
   exact q
end
theorem y46 {K : PySem.W.Frag} {a b : Addr} {xs ys : List V} {g : TG} {tc : TT} {te : TE} {σ0 : St} {H1 : Hp} {F : List V -> Hp -> Prop} (ll : xs.length = ys.length) (Pv : Nat -> List V -> Hp -> Prop) (h0 : Pv 0 [] H1)
  (hl : ∀ i zs H, i ≤ xs.length -> Pv i zs H -> SqT K H a xs /\ SqT K H b ys /\ zs.length < sizeLine)
  (hs : ∀ i x y zs H T, xs[i]? = some x -> ys[i]? = some y -> H T = none -> Pv i zs H -> z1g g tc te σ0 (.ref T) (upd H T (.tup [x, y])) zs (Pv (i + 1))) (hd : ∀ zs H, Pv xs.length zs H -> F zs H) : z8I (Itz K a b xs.length) g tc te σ0 H1 F := by
 refine ⟨fun i m zs H => m = xs.length - i /\ i ≤ xs.length /\ Pv i zs H, ⟨xs.length, by simp, Nat.zero_le _, h0⟩, ?_⟩
 rintro i m zs H ⟨rfl, hi, p⟩
 obtain ⟨q1, q2, z⟩ := hl i zs H hi p
 by_cases hlt : i < xs.length
 ·refine .inr ⟨⟨hlt, xs, ys, q1, q2, rfl, ll.symm⟩, z, Pv (i + 1), fun zs' H' p' => ⟨xs.length - (i + 1), by omega, rfl, hlt, p'⟩, fun x H' y => ?_⟩
  obtain ⟨T, rfl, hT, y⟩ := y
  obtain ⟨x1, y1, e1, e2, rfl⟩ := y xs ys q1 q2
  exact hs i x1 y1 zs H T e1 e2 hT p
 ·have e : i = xs.length := by omega
  subst e
  exact .inl ⟨⟨Nat.le_refl _, xs, q1, rfl⟩, hd zs H p⟩
theorem y5U {X : Cx} {K : PySem.W.Frag} {e : Expr} {ta : TE} {f : Str} {pos : Pos} (hK : X.K = K) (he : PE X e ta) (hb : attributeBase e f X.env (eval e X.env) = eval e X.env) : PE X (.Attribute e f pos) (tFld K ta f) := by
 subst hK
 exact z0A he hb
theorem y5C {X : Cx} {K : PySem.W.Frag} {tg l : Expr} {tl : TE} (hK : X.K = K) (hl : PE X l tl) : PI X tg l (iTup K tl) := by
 subst hK
 exact z1W hl
section
variable {X : Cx}
theorem z8w (hc : X.calm = true) : z3o X (.type "list") (fun xs H Q => ∃ p i j, xs = [.ref p] /\ H p = some (.rng i j) /\ (-(2 ^ 62) ≤ i /\ i < 2 ^ 62 /\ -(2 ^ 62) ≤ j /\ j < 2 ^ 62) /\ (j - i).toNat ≤ 2 ^ 24 /\
  ∀ l, H l = none -> Q (.ref l) (upd H l (.lst (rngV i (j - i).toNat)))) := by
 intro pins s σ H xs us Q I r h
 obtain ⟨p, i, j, rfl, hp, ⟨h1, h2, h3, h4⟩, hlen, q⟩ := h
 obtain ⟨u, rfl, rx⟩ := z4h r
 cases rx
 obtain ⟨t, u', v, e⟩ := (show z1f X.prog X.w H s.heap p (.rng i j) from I.hok p _ hp)
 have hn : Builtin.Range.rangeSize i j 1 = (((j - i).toNat : Nat) : Int) := by rw [rangeSize_one]; split <;> omega
 have z : (rngV i (j - i).toNat).length ≤ sizeLine := by unfold rngV; rw [List.length_map, List.length_range, sizeLine_eq]; omega
 refine call_list_range (I.ok.hd hc) e (small_one h1 h2 h3 h4) hn hlen fun h' tk acc c' hk hS hacc => ?_
 exact ⟨.ref s.heap.objs.size, _, I.laid (t' := tk) hk (Nat.le_refl _) (show z1f X.prog X.w _ h' _ (.lst _) from ⟨z, acc.toList, c', y0v hacc, by simpa using hS⟩), rfl, q _ (I.hok.fresh (Nat.le_refl _))⟩
end
end L2
namespace My
open PySem L2
def top (i : Nat) : Stmt := PySem.Challenge.pw_backissues_k41_whole_full_reader.main.body.getD i (.Pass ⟨0, 0, 0, 0⟩)
abbrev z2n : Stmt := top 15
abbrev z5a : Stmt := top 16
abbrev z5R : Stmt := top 17
abbrev z1r : Stmt := top 18
abbrev z3v : Stmt := top 19
abbrev z1E : Stmt := top 20
abbrev z25 : Stmt := top 29
abbrev z27 : Stmt := top 30
abbrev z2z : Stmt := top 31
abbrev z1D : Stmt := top 32
abbrev z7A : Stmt := top 37
abbrev z2Z : Stmt := top 38
abbrev z8E : Stmt := top 39
abbrev z5M : Stmt := top 40
abbrev z77 : Stmt := top 41
abbrev z2B : Stmt := top 42
abbrev z5Y : Stmt := top 43
abbrev z7y : Stmt := top 45
abbrev z2a : Stmt := top 47
abbrev z2o : Stmt := top 48
abbrev z2U : Stmt := top 49
abbrev z2W : Stmt := top 50
abbrev z2m : Stmt := z13 (top 51) 0
abbrev z1n : Stmt := z13 (top 51) 1
abbrev z3H : Stmt := z13 (top 51) 2
abbrev z38 : Stmt := z13 (top 51) 3
abbrev z3w : Stmt := z13 (top 51) 4
abbrev z57 : Stmt := top 53
abbrev z64 : Stmt := top 54
abbrev z5U : Stmt := top 55
abbrev y5W : Stmt := top 56
abbrev z4Y : Stmt := top 57
abbrev z3q : Stmt := top 58
abbrev z4c : Stmt := top 59
abbrev z5e : Stmt := top 60
abbrev z1L : Stmt := top 61
abbrev z3I : Stmt := top 62
abbrev z4f : Stmt := top 63
abbrev z2x : Stmt := z13 (top 65) 0
abbrev z5W : Stmt := z13 (top 65) 1
abbrev z5J : Stmt := z13 (top 65) 2
abbrev z3F : Stmt := z13 (top 65) 3
abbrev z2X : Stmt := z13 (top 65) 4
abbrev z35 : Stmt := z13 (top 65) 5
abbrev z1K : Stmt := top 69
abbrev z37 : Stmt := z13 (top 70) 0
abbrev z0T : Stmt := z13 (top 70) 1
abbrev z11 : Stmt := z13 (top 70) 2
abbrev z51 : Stmt := z13 (top 70) 3
abbrev z3G : Stmt := z13 (top 70) 4
abbrev z4m : Stmt := z13 (top 70) 5
abbrev z52 : Stmt := z13 (top 70) 6
abbrev z4Q : Stmt := z13 (top 70) 7
abbrev z5S : Stmt := z13 (top 70) 8
abbrev z4T : Stmt := z13 (top 70) 9
abbrev z2A : Stmt := top 72
abbrev z7t : Stmt := top 73
abbrev z8n : Stmt := top 75
abbrev z5I : Stmt := top 76
abbrev z7K : Stmt := top 77
abbrev z4q : Stmt := top 78
abbrev z4P : Stmt := top 79
abbrev z3s : Stmt := top 80
abbrev z5O : Stmt := top 81
abbrev z4V : Stmt := top 82
abbrev z4g : Stmt := top 83
abbrev z2Y : Stmt := top 84
abbrev z3t : Stmt := top 85
abbrev z4R : Stmt := top 86
abbrev z66 : Stmt := top 87
abbrev z39 : Stmt := top 88
abbrev slaw : Stmt := top 89
abbrev z2q : List Str := ["had"]
abbrev z4S : List Str := ["number", "reach"]
abbrev z67 : List Str := ["had", "number", "reach"]
abbrev z0Z : List Str := ["had", "reach"]
abbrev z1Y : List Str := ["had", "reach"]
abbrev z0O : List Str := ["had", "reach", "behind"]
abbrev z26 : List Str := ["names"]
abbrev z2b : List Str := ["reach"]
abbrev z1U : List Str := ["names", "reach"]
abbrev z14 : List Str := ["names", "name"]
abbrev z2C : List Str := ["shelf", "name"]
abbrev z30 : List Str := ["shelf", "number", "teller"]
abbrev z5n : List Str := ["shelf"]
abbrev z4o : List Str := ["shelf", "name"]
abbrev z2F : List Str := ["shelf", "name"]
abbrev z2w : List Str := ["shelf", "name"]
abbrev z5L : List Str := ["shelf"]
abbrev z6W : List Str := ["sets", "reach"]
abbrev z29 : List Str := ["value"]
abbrev z2s : List Str := ["names", "rows"]
abbrev z3a : List Str := ["names", "rows"]
abbrev z2f : List Str := ["rows"]
abbrev z2r : List Str := ["self", "names", "reach"]
abbrev z0U : List Str := ["self", "rows"]
abbrev z3p : List Str := ["self", "rows"]
abbrev z32 : List Str := ["self"]
abbrev z1V : List Str := ["self", "number"]
abbrev z2H : List Str := ["shelf"]
abbrev z61 : List Str := ["names", "chosen"]
abbrev z68 : List Str := ["names", "known", "chosen"]
abbrev y5z : List Str := ["shelf", "course"]
abbrev z3D : List Str := ["power"]
abbrev z1T : List Str := ["shelf"]
abbrev z4j : List Str := ["shelf", "name"]
abbrev z5f : List Str := ["names"]
abbrev z1O : List Str := ["courses", "choices"]
abbrev z3u : List Str := ["shelf"]
abbrev z49 : List Str := ["shelf", "name"]
abbrev z2D : List Str := ["self", "names", "reach"]
abbrev z62 : List Str := ["self", "issue"]
abbrev z16 : List Str := ["self"]
abbrev z5d : List Str := ["self"]
abbrev z2d : List Str := ["self", "number"]
abbrev z31 : List Str := ["self", "number"]
abbrev z1M : List Str := ["readers"]
abbrev z36 : List Str := ["self", "names", "reach", "readers"]
abbrev z0G : List Str := ["self", "reader"]
abbrev z0L : List Str := ["self"]
abbrev z55 : List Str := ["self", "rows"]
abbrev z3y : List Str := ["self", "reader", "number"]
abbrev z6u : List Str := ["self"]
abbrev z7i : List Str := ["self", "number"]
abbrev z7m : List Str := ["self"]
abbrev z84 : List Str := ["self", "which"]
abbrev z2y : List Str := ["self", "reader", "deed"]
abbrev z2E : List Str := ["had", "reach", "behind"]
abbrev z3l : List Str := ["shelf", "name"]
abbrev z5k : List Str := ["_law_script", "_law_k"]
abbrev z3h : List Str := ["_law_cell", "_law_size"]
abbrev z3Y : List Str := ["_law_cell", "_law_many", "_law_size"]
abbrev z2c : List Str := ["_law_found", "_law_due"]
abbrev z4N : List Str := ["_law_cell", "_law_many"]
abbrev z3z : List Str := ["_law_times"]
abbrev z5V : List Str := ["_law_names_here", "_law_cell", "_law_many"]
abbrev z53 : List Str := ["_law_figure", "_law_place"]
abbrev z3W : List Str := ["_law_sets_here", "_law_cell"]
abbrev z2T : List Str := ["_law_row_here", "_law_cell"]
abbrev z3C : List Str := ["_law_script", "_law_names_here"]
abbrev z56 : List Str := ["_law_script"]
abbrev z5Q : List Str := ["_law_rows", "_law_latest", "_law_name"]
abbrev z34 : List Str := ["_law_shelf", "_law_names_here", "_law_rows", "_law_latest"]
abbrev plaw : List Str := ["_law_script"]
theorem z3m : FnScope ["had", "latest"] z2q (z06 z2n) := scp
theorem z6A : FnScope ["number", "reach"] z4S (z06 z5a) := scp
theorem z7J : FnScope ["had", "number", "reach", "tellers"] z67 (z06 z5R) := scp
theorem z21 : FnScope ["had", "reach"] z0Z (z06 z1r) := scp
theorem z4L : FnScope ["had", "reach"] z1Y (z06 z3v) := scp
theorem z2h : FnScope ["had", "reach", "behind"] z0O (z06 z1E) := scp
theorem z2S : FnScope ["names"] z26 (z06 z25) := scp
theorem z2O : FnScope ["reach"] z2b (z06 z27) := scp
theorem z3K : FnScope ["names", "reach"] z1U (z06 z2z) := scp
theorem z2i : FnScope ["names", "name"] z14 (z06 z1D) := scp
theorem z7Z : FnScope ["shelf", "name", "number", "values"] z2C (z06 z7A) := scp
theorem z42 : FnScope ["shelf", "number", "teller"] z30 (z06 z2Z) := scp
theorem z9a : FnScope ["shelf", "lacking"] z5n (z06 z8E) := scp
theorem z6S : FnScope ["shelf", "name", "held_from"] z4o (z06 z5M) := scp
theorem z80 : FnScope ["shelf", "name", "held_from", "dark_behind"] z2F (z06 z77) := scp
theorem z3Q : FnScope ["shelf", "name"] z2w (z06 z2B) := scp
theorem z7g : FnScope ["shelf"] z5L (z06 z5Y) := scp
theorem z8i : FnScope ["sets", "reach", "number", "ahead"] z6W (z06 z7y) := scp
theorem z2Q : FnScope ["value"] z29 (z06 z2a) := scp
theorem z3e : FnScope ["names", "rows", "set_names", "name", "value"] z2s (z06 z2o) := scp
theorem z4e : FnScope ["names", "rows", "values"] z3a (z06 z2U) := scp
theorem z46 : FnScope ["rows"] z2f (z06 z2W) := scp
theorem z3i : FnScope ["self", "names", "reach"] z2r (z06 z2m) := scp
theorem z1S : FnScope ["self", "rows"] z0U (z06 z1n) := scp
theorem z4D : FnScope ["self", "rows", "number", "sets"] z3p (z06 z3H) := scp
theorem z4i : FnScope ["self"] z32 (z06 z38) := scp
theorem z4F : FnScope ["self", "number"] z1V (z06 z3w) := scp
theorem z6c : FnScope ["shelf", "sets", "number", "teller", "names"] z2H (z06 z57) := scp
theorem z7C : FnScope ["names", "chosen"] z61 (z06 z64) := scp
theorem z7q : FnScope ["names", "known", "chosen"] z68 (z06 z5U) := scp
theorem y5f : FnScope ["shelf", "course", "sets"] y5z (z06 y5W) := scp
theorem z6k : FnScope ["power", "product", "step"] z3D (z06 z4Y) := scp
theorem z4A : FnScope ["shelf", "dark"] z1T (z06 z3q) := scp
theorem z5c : FnScope ["shelf", "name", "state", "count", "held_from", "dark_behind", "not_again"] z4j (z06 z4c) := scp
theorem z2u : FnScope ["courses", "choices", "further", "choice"] z1O (z06 z1L) := scp
theorem z4y : FnScope ["shelf", "courses", "known", "choices"] z3u (z06 z3I) := scp
theorem z5v : FnScope ["shelf", "name", "not_again", "latest_dark", "again"] z49 (z06 z4f) := scp
theorem z3O : FnScope ["self", "names", "reach"] z2D (z06 z2x) := scp
theorem z7f : FnScope ["self", "issue", "number"] z62 (z06 z5W) := scp
theorem z7o : FnScope ["self"] z16 (z06 z5J) := scp
theorem z4G : FnScope ["self"] z5d (z06 z3F) := scp
theorem z47 : FnScope ["self", "number"] z2d (z06 z2X) := scp
theorem z44 : FnScope ["self", "number"] z31 (z06 z35) := scp
theorem z2t : FnScope ["readers"] z1M (z06 z1K) := scp
theorem z3V : FnScope ["self", "names", "reach", "readers"] z36 (z06 z37) := scp
theorem z1p : FnScope ["self", "reader"] z0G (z06 z0T) := scp
theorem z1C : FnScope ["self"] z0L (z06 z11) := scp
theorem z6x : FnScope ["self", "rows", "number"] z55 (z06 z51) := scp
theorem z4w : FnScope ["self", "reader", "number", "getting", "lacked"] z3y (z06 z3G) := scp
theorem z5i : FnScope ["self"] z6u (z06 z4m) := scp
theorem z6h : FnScope ["self", "number"] z7i (z06 z52) := scp
theorem z6s : FnScope ["self"] z7m (z06 z4Q) := scp
theorem z7s : FnScope ["self", "which"] z84 (z06 z5S) := scp
theorem z6g : FnScope ["self", "reader", "deed", "behind", "told", "past"] z2y (z06 z4T) := scp
theorem z3R : FnScope ["had", "reach", "behind", "fewest", "apart", "dark"] z2E (z06 z2A) := scp
theorem z85 : FnScope ["shelf", "name", "asked", "held_from"] z3l (z06 z7t) := scp
theorem z9v : FnScope ["_law_script", "_law_k"] z5k (z06 z8n) := scp
theorem z7z : FnScope ["_law_cell", "_law_size", "_law_once"] z3h (z06 z5I) := scp
theorem z8l : FnScope ["_law_cell", "_law_many", "_law_size", "_law_rest", "_law_mixed", "_law_figures", "_law_k"] z3Y (z06 z7K) := scp
theorem z6U : FnScope ["_law_found", "_law_due", "_law_k"] z2c (z06 z4q) := scp
theorem z6i : FnScope ["_law_cell", "_law_many", "_law_signs", "_law_turn", "_law_stem", "_law_spot"] z4N (z06 z4P) := scp
theorem z4B : FnScope ["_law_times", "_law_many", "_law_turn"] z3z (z06 z3s) := scp
theorem z7H : FnScope ["_law_names_here", "_law_cell", "_law_many", "_law_size", "_law_sets_here", "_law_figure", "_law_mask", "_law_chosen", "_law_name"] z5V (z06 z5O) := scp
theorem z6y : FnScope ["_law_figure", "_law_place"] z53 (z06 z4V) := scp
theorem z5y : FnScope ["_law_sets_here", "_law_cell", "_law_figures", "_law_rows", "_law_k", "_law_one", "_law_place"] z3W (z06 z4g) := scp
theorem z4k : FnScope ["_law_row_here", "_law_cell", "_law_figures", "_law_told", "_law_k"] z2T (z06 z2Y) := scp
theorem z4I : FnScope ["_law_script", "_law_names_here", "_law_many", "_law_sets_here"] z3C (z06 z3t) := scp
theorem z6B : FnScope ["_law_script"] z56 (z06 z4R) := scp
theorem z74 : FnScope ["_law_rows", "_law_latest", "_law_name", "_law_last_here", "_law_number", "_law_row_here"] z5Q (z06 z66) := scp
theorem z48 : FnScope ["_law_shelf", "_law_names_here", "_law_rows", "_law_latest", "_law_due", "_law_name", "_law_last_here", "_law_found", "_law_truth"] z34 (z06 z39) := scp
theorem y6L : FnScope ["_law_script", "_law_names_here", "_law_rows", "_law_reach", "_law_latest", "_law_book", "_law_one", "_law_reader", "_law_number"] plaw (z06 slaw) := scp
structure TxOffice (K : PySem.W.Frag) (mg : Str -> Option Value) (C : Addr) : Prop where
 cl : Cls K C
 mgC : mg "Office" = some (.ref C)
 n_names : z2G K C "names"
 n_reach : z2G K C "reach"
 n_written : z2G K C "written"
structure TxShelf (K : PySem.W.Frag) (mg : Str -> Option Value) (C : Addr) : Prop where
 cl : Cls K C
 mgC : mg "Shelf" = some (.ref C)
 n_names : z2G K C "names"
 n_reach : z2G K C "reach"
 n_issues : z2G K C "issues"
structure TxBook (K : PySem.W.Frag) (mg : Str -> Option Value) (C : Addr) : Prop where
 cl : Cls K C
 mgC : mg "Book" = some (.ref C)
 n_office : z2G K C "office"
 n_readers : z2G K C "readers"
 n_done : z2G K C "done"
structure Bl (mg : Str -> Option Value) : Prop where
 len : mg "len" = none
 range : mg "range" = none
 tuple : mg "tuple" = none
 list : mg "list" = none
 max : mg "max" = none
 min : mg "min" = none
 sorted : mg "sorted" = none
 isinstance : mg "isinstance" = none
 bool : mg "bool" = none
 int : mg "int" = none
 str : mg "str" = none
 set : mg "set" = none
 reversed : mg "reversed" = none
 dict : mg "dict" = none
 zip : mg "zip" = none
 all : mg "all" = none
 MOST_NAMES : ∃ t, mg "MOST_NAMES" = some (.int 12 t)
 MOST_REACH : ∃ t, mg "MOST_REACH" = some (.int 10 t)
 MOST_NUMBERS : ∃ t, mg "MOST_NUMBERS" = some (.int 60 t)
 MOST_VALUE : ∃ t, mg "MOST_VALUE" = some (.int 1000000 t)
 MOST_READERS : ∃ t, mg "MOST_READERS" = some (.int 10 t)
 MOST_DEEDS : ∃ t, mg "MOST_DEEDS" = some (.int 400 t)
 MOST_COURSES : ∃ t, mg "MOST_COURSES" = some (.int 4096 t)
 SURE : ∃ t, mg "SURE" = some (.str "sure" t)
 STALE : ∃ t, mg "STALE" = some (.str "stale" t)
 OPEN : ∃ t, mg "OPEN" = some (.str "open" t)
 WRITE : ∃ t, mg "WRITE" = some (.str "write" t)
 DELIVER : ∃ t, mg "DELIVER" = some (.str "deliver" t)
theorem z01 {H : Hp} {p : Addr} (h : H p = none) (o : HO) : Same H (upd H p o) := fun b u q => by rw [z0d (z0i q h)]; exact q
theorem z3J {H H' : Hp} {l : Addr} {o : HO} (hs : Same H H') (hl : H l = none) : Same H (upd H' l o) := fun b u e => by rw [z0d (z0i e hl)]; exact hs b u e
theorem z8Q {n : Nat} (h : n ≤ 1000) : n ≤ sizeLine := Nat.le_of_lt (z0g h)
theorem z8Z {ns : List Int} {k : Int} (h0 : 0 ≤ k) (h : k < (ns.length : Int)) : atI (ns.map V.int) k = some (.int (ns.getD k.toNat 0)) := by
 have hk : k.toNat < ns.length := by omega
 have ek : k = ((k.toNat : Nat) : Int) := by omega
 have q : atI (ns.map V.int) ((k.toNat : Nat) : Int) = some (.int (ns.getD k.toNat 0)) := z1d (by
  rw [List.getElem?_map, List.getElem?_eq_getElem hk, List.getD_eq_getElem?_getD, List.getElem?_eq_getElem hk] <;> rfl)
 rw [<- ek] at q
 exact q
theorem z5l {K : PySem.W.Frag} {H H' : Hp} {a : Addr} {xs : List V} (e : Same H H') (h : SqT K H a xs) : SqT K H' a xs := by
 rcases h with (h | ⟨o, h⟩) | h
 ·exact .inl (.inl (e _ _ h))
 ·exact .inl (.inr ⟨o, e _ _ h⟩)
 ·exact .inr h
theorem z0H {p : Prop} [Decidable p] (h : decide p = true) : p := of_decide_eq_true h
theorem z6z {p : Prop} [Decidable p] (h : ¬ decide p = true) : ¬ p := fun q => h (decide_eq_true q)
section
variable {P : Program} {w : World} {K : PySem.W.Frag} {mg : Str -> Option Value} {base : Heap} {f : Addr} {fd : FuncData}
theorem z2e : ∀ {l1 l2 : List Int}, l1.Pairwise (· < ·) -> l2.Pairwise (· < ·) -> (∀ x, x ∈ l1 ↔ x ∈ l2) -> l1 = l2
 | [], [], _, _, _ => rfl
 | [], y :: _, _, _, h => by have := (h y).mpr List.mem_cons_self; cases this
 | x :: _, [], _, _, h => by have := (h x).mp List.mem_cons_self; cases this
 | x :: r, y :: t, p1, p2, h => by
  rw [List.pairwise_cons] at p1 p2
  have e : x = y := by
   rcases List.mem_cons.mp ((h x).mp List.mem_cons_self) with e | hx
   ·exact e
   ·rcases List.mem_cons.mp ((h y).mpr List.mem_cons_self) with e | hy
    ·exact e.symm
    ·have := p1.1 y hy
     have := p2.1 x hx
     omega
  subst e
  refine congrArg (x :: ·) (z2e p1.2 p2.2 fun z => ⟨fun hz => ?_, fun hz => ?_⟩)
  ·rcases List.mem_cons.mp ((h z).mp (List.mem_cons_of_mem _ hz)) with e | q
   ·have := p1.1 z hz
    omega
   ·exact q
  ·rcases List.mem_cons.mp ((h z).mpr (List.mem_cons_of_mem _ hz)) with e | q
   ·have := p2.1 z hz
    omega
   ·exact q
theorem z1A (lo : Int) : ∀ n, (upI lo n).Pairwise (· < ·)
 | 0 => List.Pairwise.nil
 | n + 1 => by
  rw [z6G]
  refine List.pairwise_append.mpr ⟨z1A lo n, List.pairwise_singleton _ _, fun x hx y hy => ?_⟩
  have h1 := z0P.mp hx
  rw [List.mem_singleton.mp hy]
  omega
theorem y5w (lo : Int) (n : Nat) : rngV lo n = (upI lo n).map V.int := by
 unfold rngV upI
 rw [List.map_map]
 rfl
def spAt (K : PySem.W.Frag) : Sp := fun vs H Q _ => ∃ (a : Addr) (ns : List Int) (k : Int), vs = [.ref a, .int k] /\ SqL K H a (ns.map V.int) /\ 0 ≤ k /\ Q (.int (ns.getD k.toNat 0)) H
theorem ok_at (M : Bl mg) (F : Fun K "_law_at" "_law_at" z8n f fd) : FnOk P w K mg base CX0 1 f fd z5k (spAt K) := by
 have nd := z9v.nd
 refine F.ok z9v (fun vs H Q E h => ?_) (fun cdv A outer s H vs Q E hr h => ?_)
 ·obtain ⟨a, ns, k, rfl, _⟩ := h
  rfl
 obtain ⟨a, ns, k, rfl, hS, h0, q⟩ := h
 refine ⟨_, (z04 (z0S (z0l z8r (pv 1) (z0j z0a rfl M.len PySem.boot_len (z00 (pv 0) z03)) (z0u _)) (z05 (z0k (z1q z1w (pv 0) (pv 1) (fun _ _ => rfl)))) z0t) (z05 (z0k z08))), ?_⟩
 have hl : (ns.map V.int).length = ns.length := List.length_map _
 refine ⟨_, rfl, _, rfl, a, _, rfl, .inl hS, _, _, rfl, rfl, _, rfl, ?_⟩
 refine ite2 (fun c => ?_) (fun c => ?_)
 ·have c' := z0H c
  rw [hl] at c'
  exact ⟨_, rfl, _, rfl, a, _, _, _, rfl, rfl, hS, z8Z h0 c', q⟩
 ·have c' := z6z c
  rw [hl] at c'
  have e : ns.getD k.toNat 0 = 0 := by rw [List.getD_eq_getElem?_getD, List.getElem?_eq_none (by omega)]; rfl
  rw [e] at q
  exact q
def y0X : Sp := fun vs H Q _ => ∃ c n : Int, vs = [.int c, .int n] /\ 0 < n /\ ∀ r, 0 ≤ r -> r < n -> Q (.int r) H
theorem y5m (F : Fun K "_law_pick" "_law_pick" z5I f fd) : FnOk P w K mg base CX0 1 f fd z3h y0X := by
 have nd := z7z.nd
 refine F.ok z7z (fun vs H Q E h => ?_) (fun cdv A outer s H vs Q E hr h => ?_)
 ·obtain ⟨c, n, rfl, _⟩ := h
  rfl
 obtain ⟨c, n, rfl, hn, q⟩ := h
 refine ⟨_, (z04 (z0S (z0l z3A (z0v z1a (pv 0) z08) z08 (z0u _)) (z05 (z0k (z0v z1a (z0v z1P (pv 0) z08) (pv 1)))) z0t) (z04 (z0p (i := 2) nd rfl (Or.inl rfl) (z0v z1a (z0v z4E (z0v z1P (pv 0) z08) z08) z08)) (z05 (z0k (z0v z1a (z0v z1a (z0v z4E (z0v z1F (pv 2) z08) z08) z08) (pv 1)))))), ?_⟩
 refine ⟨_, rfl, _, _, rfl, rfl, (by show (0 : Int) < 2; decide), rfl, _, rfl, ?_⟩
 refine ite2 (fun _ => ?_) (fun _ => ?_)
 ·exact ⟨_, rfl, _, _, rfl, rfl, ⟨by decide, by decide⟩, _, rfl, _, _, rfl, rfl, hn, q _ (Int.emod_nonneg _ (by omega)) (Int.emod_lt_of_pos _ hn)⟩
 ·refine ⟨_, rfl, _, _, rfl, rfl, ⟨by decide, by decide⟩, _, _, rfl, rfl, .inr ⟨by decide, by decide⟩, _, _, rfl, rfl, (by show (0 : Int) < 2147483647; decide), ?_⟩
  refine ⟨_, rfl, _, _, rfl, rfl, _, _, rfl, rfl, .inr ⟨by decide, by decide⟩, _, _, rfl, rfl, (by show (0 : Int) < 2147483647; decide), _, rfl, _, _, rfl, rfl, hn, ?_⟩
  exact q _ (Int.emod_nonneg _ (by omega)) (Int.emod_lt_of_pos _ hn)
def z9p : Nat -> Sp
 | 0 => fun _ _ _ _ => False
 | n + 1 => fun vs H Q _ => ∃ x y, vs = [x, y] /\ z4u H n x y /\ ∀ H', Same H H' -> Q (.bl true) H'
theorem y3k : FnOk P w K mg base CX0 0 f fd z2c (z9p 0) :=
 ⟨fun vs H Q E h => h.elim, fun A outer s H args us vs Q E _ _ _ _ h => h.elim⟩
def tyOf : V -> String
 | .non => "NoneType"
 | .bl _ => "bool"
 | .int _ => "int"
 | _ => "str"
theorem z4O {H : Hp} {x : V} (h : y1o x = true) : TyOf K H x (.type (tyOf x)) := by
 cases x with
 | non => exact .non
 | bl b => exact .bl b
 | int i => exact .int i
 | str z => exact .str z
 | _ => exact absurd h Bool.false_ne_true
def kitB : V -> String -> Bool
 | .bl _, T => T == "bool" || T == "int"
 | .int _, T => T == "int"
 | .str _, T => T == "str"
 | _, _ => false
theorem z6K (T : String) (hT : T = "tuple" \/ T = "bool" \/ T = "int" \/ T = "str") {x : V} (h : y1o x = true) : PySem.W.kitOne K (.type (tyOf x)) (.type T) = some (kitB x T) := by
 cases x with
 | non => rcases hT with rfl | rfl | rfl | rfl <;> kernel_rfl
 | bl b => rcases hT with rfl | rfl | rfl | rfl <;> kernel_rfl
 | int i => rcases hT with rfl | rfl | rfl | rfl <;> kernel_rfl
 | str z => rcases hT with rfl | rfl | rfl | rfl <;> kernel_rfl
 | _ => exact absurd h Bool.false_ne_true
theorem y1p (x : V) : kitB x "tuple" = false := by cases x <;> rfl
theorem y1Y : PySem.W.kitOne K (.type "tuple") (.type "tuple") = some true := by kernel_rfl
theorem y4W {xs : List V} {i : Nat} (h : i < xs.length) : ∃ v, xs[i]? = some v /\ atI xs (i : Int) = some v := ⟨xs[i], List.getElem?_eq_getElem h, z1d (List.getElem?_eq_getElem h)⟩
theorem y5l {x : V} (h : y1o x = true) : scal x x = true := by
 cases x <;> first | rfl | exact absurd h Bool.false_ne_true
theorem y5T {n : Nat} (M : Bl mg) (F : Fun K "_law_same" "_law_same" z4q f fd) (G_law_same : Cal P w K mg base n "_law_same" z2c (z9p n)) :
  FnOk P w K mg base CX0 (n + 1) f fd z2c (z9p (n + 1)) := by
 have nd := z6U.nd
 refine F.ok z6U (fun vs H Q E h => ?_) (fun cdv A outer s H vs Q E hr h => ?_)
 ·obtain ⟨x, y, rfl, _⟩ := h
  rfl
 obtain ⟨x, y, rfl, ha, q⟩ := h
 refine ⟨_, (z04 (z0S (z6m (z0j z1s rfl M.isinstance PyProof.Rows.boot_isinstance (z00 (pv 1) (z00 (z45 (v := .ty "tuple") rfl M.tuple PyProof.Rows.boot_tuple rfl) z03)))) (z04 (z0S (PW.pt (z7E (z7a (z6m (z0j z1s rfl M.isinstance PyProof.Rows.boot_isinstance (z00 (pv 0) (z00 (z45 (v := .ty "tuple") rfl M.tuple PyProof.Rows.boot_tuple rfl) z03))))) (z41 (z0l z8K (z0j z0a rfl M.len PySem.boot_len (z00 (pv 0) z03)) (z0j z0a rfl M.len PySem.boot_len (z00 (pv 1) z03)) (z0u _))))) (z05 (z0k z4Z)) z0t) (z04 (z1i PassesOwn.never rfl (z1Z rfl M.range (z00 (z0j z0a rfl M.len PySem.boot_len (z00 (pv 1) z03)) z03)) (z0m (i := 2) nd rfl (Or.inl rfl)) (z05 (z0S (z7a (z6m (z0h G_law_same (rm hr) rfl (z00 (z1q z22 (pv 0) (pv 2) (fun _ _ => rfl)) (z00 (z1q z22 (pv 1) (pv 2) (fun _ _ => rfl)) z03))))) (z05 (z0k z4Z)) z0t))) (z05 (z0k z4Z)))) z0t) (z04 (z0S (PW.pt (z7E (z0l z8K (z0j z1s rfl M.isinstance PyProof.Rows.boot_isinstance (z00 (pv 0) (z00 (z45 (v := .ty "bool") rfl M.bool PyProof.Rows.boot_bool rfl) z03))) (z0j z1s rfl M.isinstance PyProof.Rows.boot_isinstance (z00 (pv 1) (z00 (z45 (v := .ty "bool") rfl M.bool PyProof.Rows.boot_bool rfl) z03))) (z0u _)) (z41 (z0l z8K (z0j z1s rfl M.isinstance PyProof.Rows.boot_isinstance (z00 (pv 0) (z00 (z45 (v := .ty "int") rfl M.int PyProof.Rows.boot_int rfl) z03))) (z0j z1s rfl M.isinstance PyProof.Rows.boot_isinstance (z00 (pv 1) (z00 (z45 (v := .ty "int") rfl M.int PyProof.Rows.boot_int rfl) z03))) (z0u _))))) (z05 (z0k z4Z)) z0t) (z04 (z0S (PW.pt (z7E (z0l z8K (z0j z1s rfl M.isinstance PyProof.Rows.boot_isinstance (z00 (pv 0) (z00 (z45 (v := .ty "str") rfl M.str PyProof.Rows.boot_str rfl) z03))) (z0j z1s rfl M.isinstance PyProof.Rows.boot_isinstance (z00 (pv 1) (z00 (z45 (v := .ty "str") rfl M.str PyProof.Rows.boot_str rfl) z03))) (z0u _)) (z41 (z0l z8K (y54 (z6R (pv 0))) (y54 (z6R (pv 1))) (z0u _))))) (z05 (z0k z4Z)) z0t) (z05 (z0k (z8G z3A (pv 0) (pv 1) (z0u _))))))), ?_⟩
 have ha' : (x = y /\ y1o x = true) \/ ∃ (m : Nat) (a b : Addr) (xs ys : List V), n = m + 1 /\ x = .ref a /\ y = .ref b /\ H a = some (.tup xs) /\ H b = some (.tup ys) /\ xs.length = ys.length /\ ys.length ≤ 1000000 /\
   ∀ (i : Nat) (u v : V), xs[i]? = some u -> ys[i]? = some v -> z4u H m u v := by
  cases n with
  | zero => exact .inl ha
  | succ n =>
   rcases ha with ha | ⟨a, b, xs, ys, e1, e2, h1, h2, hl, hm, hi⟩
   ·exact .inl ha
   ·exact .inr ⟨n, a, b, xs, ys, rfl, e1, e2, h1, h2, hl, hm, hi⟩
 rcases ha' with ⟨rfl, hs⟩ | ⟨m, a, b, xs, ys, rfl, rfl, rfl, h1, h2, hl, hm, hi⟩
 ·have k1 := z6K (K := K) "tuple" (.inl rfl) hs
  have k2 := z6K (K := K) "bool" (.inr (.inl rfl)) hs
  have k3 := z6K (K := K) "int" (.inr (.inr (.inl rfl))) hs
  have k4 := z6K (K := K) "str" (.inr (.inr (.inr rfl))) hs
  rw [y1p] at k1
  refine ⟨_, rfl, _, _, _, _, rfl, z4O hs, k1, _, rfl, iteF ?_⟩
  refine ⟨_, rfl, _, _, _, _, rfl, z4O hs, k2, _, rfl, _, _, _, _, rfl, z4O hs, k2, rfl, _, rfl, ?_⟩
  rw [decide_eq_true rfl]
  refine iteF ⟨_, rfl, _, _, _, _, rfl, z4O hs, k3, _, rfl, _, _, _, _, rfl, z4O hs, k3, rfl, _, rfl, ?_⟩
  rw [decide_eq_true rfl]
  refine iteF ?_
  refine ⟨_, rfl, _, _, _, _, rfl, z4O hs, k4, _, rfl, _, _, _, _, rfl, z4O hs, k4, rfl, _, rfl, ?_⟩
  rw [decide_eq_true rfl]
  refine iteF ⟨_, rfl, _, rfl, rfl, _, rfl, ?_⟩
  rw [decide_eq_true rfl]
  refine iteF ?_
  refine ⟨_, rfl, _, rfl, y5l hs, ?_⟩
  rw [decide_eq_true rfl]
  exact q H (Same.refl H)
 ·refine ⟨_, rfl, _, _, _, _, rfl, .tup h2, y1Y, _, rfl, iteT ?_⟩
  refine ⟨_, rfl, _, _, _, _, rfl, .tup h1, y1Y, _, rfl, iteF ?_⟩
  refine ⟨_, rfl, a, xs, rfl, .inr (SqT.of h1), _, rfl, b, ys, rfl, .inr (SqT.of h2), rfl, _, rfl, ?_⟩
  rw [hl, decide_eq_true rfl]
  refine iteF ?_
  refine ⟨_, rfl, b, ys, rfl, .inr (SqT.of h2), _, rfl, by omega, by omega, ?_⟩
  refine z2J (lo := 0) (n := ys.length) (fun _ σ H' => Same H H' /\ ∃ o, σ = [some (.ref a), some (.ref b), o]) ⟨Same.refl H, _, rfl⟩ (fun i σ H' hi' hp => ?_) (fun σ H' hp => ?_)
  ·obtain ⟨hS, o, rfl⟩ := hp
   obtain ⟨u, hu, au⟩ := y4W (xs := xs) (i := i) (by omega)
   obtain ⟨v, hv, av⟩ := y4W (xs := ys) (i := i) hi'
   have ei : (0 : Int) + (i : Int) = (i : Int) := Int.zero_add _
   refine ⟨_, rfl, _, rfl, a, _, _, _, rfl, rfl, SqT.of (hS _ _ h1), (by rw [ei]; exact au), _, rfl, _, rfl, b, _, _, _, rfl, rfl, SqT.of (hS _ _ h2), (by rw [ei]; exact av), ?_⟩
   refine ⟨u, v, rfl, (hi i u v hu hv).keep hS, fun H2 hS2 => ⟨_, rfl, ?_⟩⟩
   exact iteF ⟨hS.trans hS2, _, rfl⟩
  ·obtain ⟨hS, o, rfl⟩ := hp
   exact q H' hS
theorem y11 (M : Bl mg) (F : Fun K "_law_same" "_law_same" z4q f fd) (B : z1G K fd z2c []) (N : mg "_law_same" = some (.ref f)) :
  ∀ n, Cal P w K mg base n "_law_same" z2c (z9p n)
 | 0 => .mk' y3k B F.kp N
 | n + 1 => .mk' (y5T M F (y11 M F B N n)) B F.kp N
theorem y3D {ns : List Int} {n : Nat} (h : ns.length ≤ n) (hn : n ≤ 1000) : (ns.map V.int).length < sizeLine := z0g (by rw [List.length_map]; omega)
def y4g : Sp := fun vs H Q _ => ∃ c m z : Int, vs = [.int c, .int m, .int z] /\ 0 ≤ m /\ m ≤ 900 /\ 0 < z /\ z < 1073741824 /\
 ∀ (l : Addr) (ns : List Int) (H' : Hp), H l = none -> Same H H' -> H' l = some (.lst (ns.map V.int)) -> ns.length = m.toNat -> (∀ x ∈ ns, 0 ≤ x /\ x < z) -> Q (.ref l) H'
theorem y6P (M : Bl mg) (F : Fun K "_law_row" "_law_row" z7K f fd) : FnOk P w K mg base CX0 1 f fd z3Y y4g := by
 have nd := z8l.nd
 refine F.ok z8l (fun vs H Q E h => ?_) (fun cdv A outer s H vs Q E hr h => ?_)
 ·obtain ⟨c, m, z, rfl, _⟩ := h
  rfl
 obtain ⟨c, m, z, rfl, m0, m1, z0, z1, q⟩ := h
 refine ⟨_, (z04 (z0p (i := 3) nd rfl (Or.inl rfl) (z0v z1P (pv 0) z08)) (z04 (z0p (i := 4) nd rfl (Or.inl rfl) (z0v z1a (z0v z4E (pv 3) z08) z08)) (z04 (z0p (i := 5) nd rfl (Or.inl rfl) (z2l z03)) (z04 (z1i PassesOwn.never rfl (z1Z rfl M.range (z00 (pv 1) z03)) (z0m (i := 6) nd rfl (Or.inl rfl)) (z04 (z0p (i := 4) nd rfl (Or.inl rfl) (z0v z1a (z0v z1F (z0v z1F (z0v z4E (pv 4) z08) (pv 6)) z08) z08)) (z05 (z0S (z0l z3A (z0v z1a (pv 0) z08) z08 (z0u _)) (z04 (z0B (z58 PySem.F.plainAttrs_list PySem.F.slot_list_append PySem.F.type_list_append z1e (pv 5) (z00 (z0v z1a (pv 3) (pv 2)) z03))) (z05 (z0p (i := 3) nd rfl (Or.inl rfl) (z0v z1P (pv 3) (pv 2))))) (z05 (z0B (z58 PySem.F.plainAttrs_list PySem.F.slot_list_append PySem.F.type_list_append z1e (pv 5) (z00 (z0v z1a (z0v z1P (pv 4) z08) (pv 2)) z03)))))))) (z05 (z0k (pv 5))))))), ?_⟩
 refine ⟨_, rfl, _, _, rfl, rfl, ⟨by decide, by decide⟩, ?_⟩
 refine ⟨_, rfl, _, _, rfl, rfl, .inr ⟨by decide, by decide⟩, _, _, rfl, rfl, (by show (0 : Int) < 2147483647; decide), ?_⟩
 refine ⟨(by show 0 ≤ sizeLine; decide), fun l hl => ?_⟩
 refine ⟨_, rfl, _, rfl, by omega, by omega, ?_⟩
 refine z2J (lo := 0) (n := m.toNat) (fun i σ H' => ∃ (ns : List Int) (r mx : Int) (o : Option V), ns.length = i /\ (∀ x ∈ ns, 0 ≤ x /\ x < z) /\ H' = upd H l (.lst (ns.map V.int)) /\
  σ = [some (.int c), some (.int m), some (.int z), some (.int r), some (.int mx), some (.ref l), o]) ⟨[], _, _, _, rfl, (fun _ h => nomatch h), rfl, rfl⟩ (fun i σ H' hi hp => ?_) (fun σ H' hp => ?_)
 ·obtain ⟨ns, r, mx, o, hlen, hall, rfl, rfl⟩ := hp
  refine ⟨_, rfl, _, _, rfl, rfl, .inr ⟨by decide, by decide⟩, _, rfl, _, _, rfl, rfl, _, _, rfl, rfl, _, _, rfl, rfl, (by show (0 : Int) < 2147483647; decide), ?_⟩
  refine ⟨_, rfl, _, _, rfl, rfl, (by show (0 : Int) < 2; decide), rfl, _, rfl, ?_⟩
  have grow : ∀ y : Int, (∀ x ∈ ns ++ [y % z], 0 ≤ x /\ x < z) := fun y x hx => by
   rcases List.mem_append.mp hx with h | h
   ·exact hall x h
   ·rw [List.mem_singleton.mp h]
    exact ⟨Int.emod_nonneg _ (by omega), Int.emod_lt_of_pos _ z0⟩
  have put : ∀ y : Int, upd (upd H l (.lst (ns.map V.int))) l (.lst (ns.map V.int ++ [.int (y % z)])) = upd H l (.lst ((ns ++ [y % z]).map V.int)) := fun y => by
   rw [z4U, List.map_append]
   rfl
  refine ite2 (fun _ => ?_) (fun _ => ?_)
  ·refine ⟨_, rfl, .inl ⟨rfl, _, SqL.of z02⟩, _, rfl, _, rfl, _, _, rfl, rfl, z0, l, _, _, rfl, rfl, z02, y3D (n := i) (by omega) (by omega), ?_⟩
   refine ⟨_, rfl, _, rfl, _, _, rfl, rfl, ⟨z0, z1⟩, ?_⟩
   exact ⟨ns ++ [r % z], _, _, _, by rw [List.length_append, hlen]; rfl, grow r, put r, rfl⟩
  ·refine ⟨_, rfl, .inl ⟨rfl, _, SqL.of z02⟩, _, rfl, _, _, rfl, rfl, ⟨by decide, by decide⟩, _, rfl, _, _, rfl, rfl, z0, l, _, _, rfl, rfl, z02, y3D (n := i) (by omega) (by omega), ?_⟩
   exact ⟨ns ++ [_ % z], _, _, _, by rw [List.length_append, hlen]; rfl, grow _, put _, rfl⟩
 ·obtain ⟨ns, r, mx, o, hlen, hall, rfl, rfl⟩ := hp
  exact ⟨_, rfl, q l ns _ hl (z01 hl _) z02 hlen hall⟩
theorem y47 (x : Int) (ns : List Int) : inV (.int x) (ns.map V.int) = decide (x ∈ ns) := by
 unfold inV
 rw [Bool.eq_iff_iff, List.any_map, List.any_eq_true, decide_eq_true_eq]
 constructor
 ·rintro ⟨y, hy, e⟩
  have e' : (y == x) = true := e
  rw [<- eq_of_beq e']
  exact hy
 ·intro h
  exact ⟨x, h, show (x == x) = true from beq_self_eq_true x⟩
theorem y2n (ns : List Int) : (ns.map V.int).all z20 = true := by
 rw [List.all_map, List.all_eq_true]
 intro x _
 rfl
def z19 (ns : List Int) : List Int := (upI 1 60).filter fun x => decide (x ∉ ns) && decide (∃ y ∈ ns, x < y)
theorem z1h {ns : List Int} {x : Int} : x ∈ z19 ns ↔ (1 ≤ x /\ x < 1 + 60) /\ x ∉ ns /\ ∃ y ∈ ns, x < y := by
 unfold z19
 rw [List.mem_filter, z0P, Bool.and_eq_true, decide_eq_true_eq, decide_eq_true_eq]
 rfl
theorem z3n (ns : List Int) : (z19 ns).Pairwise (· < ·) := (z1A 1 60).filter _
theorem z3g (ns : List Int) : (z19 ns).length ≤ 60 := by
 have h := List.length_filter_le (fun x => decide (x ∉ ns) && decide (∃ y ∈ ns, x < y)) (upI 1 60)
 rw [z0E] at h
 exact h
theorem y2O {ns : List Int} {m : Int} (hm : m ∈ ns) (hall : ∀ x ∈ ns, 1 ≤ x /\ x ≤ 60) (top : ∀ y ∈ ns, y ≤ m) : (upI 1 (m + 1 - 1).toNat).filter (fun x => !decide (x ∈ ns)) = z19 ns :=
 z2e ((z1A _ _).filter _) (z3n _) fun x => by
  have hm' := hall m hm
  rw [List.mem_filter, z0P, z1h, Bool.not_eq_true', decide_eq_false_iff_not]
  constructor
  ·rintro ⟨⟨a, b⟩, c⟩
   refine ⟨by omega, c, m, hm, ?_⟩
   have : x ≠ m := fun e => c (e ▸ hm)
   omega
  ·rintro ⟨a, b, y, hy, c⟩
   have := top y hy
   exact ⟨by omega, b⟩
theorem y2Z : z19 [] = [] := by
 refine z2e (z3n _) .nil fun x => ?_
 rw [z1h]
 constructor
 ·rintro ⟨_, _, y, hy, _⟩
  cases hy
 ·intro h
  cases h
theorem SqI.keep {K : PySem.W.Frag} {H H' : Hp} {a : Addr} {ns : List Int} (e : Same H H') (h : SqI K H a ns) : SqI K H' a ns := by
 rcases h with h | h
 ·exact .inl (e.seq h)
 ·rcases h with (h | ⟨o, h⟩) | h
  ·exact .inr (.inl (.inl (e _ _ h)))
  ·exact .inr (.inl (.inr ⟨o, e _ _ h⟩))
  ·exact .inr (.inr h)
theorem z88 {c : Int -> Bool} {t : Int} : ∀ {l : List Int}, l.Pairwise (· < ·) -> t ∈ l -> c t = true -> (∀ y ∈ l, c y = true -> t ≤ y) -> l.find? c = some t
 | [], _, h, _, _ => by cases h
 | x :: r, p, h, hc, hm => by
  rw [List.pairwise_cons] at p
  rw [List.find?_cons]
  rcases List.mem_cons.mp h with rfl | h
  ·rw [hc]
  ·cases e : c x with
   | true =>
    have h1 := p.1 t h
    have h2 := hm x List.mem_cons_self e
    omega
   | false => exact z88 p.2 h hc fun y hy => hm y (List.mem_cons_of_mem _ hy)
theorem y3x {c : Int -> Bool} {t : Int} : ∀ {l : List Int}, l.Pairwise (· < ·) -> l.find? c = some t -> t ∈ l /\ c t = true /\ ∀ y ∈ l, c y = true -> t ≤ y
 | [], _, h => by cases h
 | x :: r, p, h => by
  rw [List.pairwise_cons] at p
  rw [List.find?_cons] at h
  cases e : c x with
  | true =>
   rw [e] at h
   have h' : x = t := Option.some.inj h
   subst h'
   refine ⟨List.mem_cons_self, e, fun y hy _ => ?_⟩
   rcases List.mem_cons.mp hy with rfl | hy
   ·exact Int.le_refl _
   ·have := p.1 y hy
    omega
  | false =>
   rw [e] at h
   obtain ⟨h1, h2, h3⟩ := y3x p.2 h
   refine ⟨List.mem_cons_of_mem _ h1, h2, fun y hy hc => ?_⟩
   rcases List.mem_cons.mp hy with rfl | hy
   ·rw [e] at hc
    cases hc
   ·exact h3 y hy hc
def y1I (ns : List Int) (n r : Int) (y : Int) : Bool := decide (n < y) && decide (y - r ≤ n) && decide (y ∈ ns)
def z1y (ns : List Int) (n r : Int) : Int := ((upI 1 60).find? (y1I ns n r)).getD 0
theorem z4b {ns : List Int} {n r y : Int} : y1I ns n r y = true ↔ n < y /\ y - r ≤ n /\ y ∈ ns := by
 unfold y1I
 rw [Bool.and_eq_true, Bool.and_eq_true, decide_eq_true_eq, decide_eq_true_eq, decide_eq_true_eq, and_assoc]
theorem y4D {ns : List Int} {n r t : Int} (hall : ∀ x ∈ ns, 1 ≤ x /\ x ≤ 60) (ht : t ∈ ns) (h1 : n < t) (h2 : t - r ≤ n) (hm : ∀ y ∈ ns, n < y -> y - r ≤ n -> t ≤ y) : z1y ns n r = t := by
 unfold z1y
 rw [z88 (z1A 1 60) (t := t) (z0P.mpr (by have := hall t ht; omega)) (z4b.mpr ⟨h1, h2, ht⟩) fun y _ hy => by
  obtain ⟨a, b, c⟩ := z4b.mp hy
  exact hm y c a b]
 rfl
theorem y1e {ns : List Int} {n r : Int} (h : ∀ y ∈ ns, n < y -> ¬ y - r ≤ n) : z1y ns n r = 0 := by
 unfold z1y
 have e : (upI 1 60).find? (y1I ns n r) = none := List.find?_eq_none.mpr fun y _ hy => by
  obtain ⟨a, b, c⟩ := z4b.mp hy
  exact h y c a b
 rw [e]
 rfl
def y53 (K : PySem.W.Frag) : Sp := fun vs H Q _ => ∃ (r : Addr) (ns : List Int) (c : Int), vs = [.ref r, .int c] /\ SqL K H r (ns.map V.int) /\ ns.length ≤ 60 /\
 ∀ (l : Addr) (ts : List Int) (H' : Hp), H l = none -> Same H H' -> H' l = some (.lst (ts.map V.int)) -> (∀ x, x ∈ ts ↔ x ∈ ns) -> ts.length ≤ 2 * ns.length -> Q (.ref l) H'
theorem y2C (ts : List Int) (i : Nat) (x : Int) : (ts.map V.int).take i ++ V.int x :: (ts.map V.int).drop i = (ts.take i ++ x :: ts.drop i).map V.int := by
 rw [List.map_append, List.map_cons, List.map_take, List.map_drop]
theorem y0c {ts : List Int} {i : Nat} {x y : Int} : y ∈ ts.take i ++ x :: ts.drop i ↔ y = x \/ y ∈ ts := by
 rw [List.mem_append, List.mem_cons]
 constructor
 ·rintro (h | h | h)
  ·exact .inr (List.mem_of_mem_take h)
  ·exact .inl h
  ·exact .inr (List.mem_of_mem_drop h)
 ·rintro (h | h)
  ·exact .inr (.inl h)
  ·rw [<- List.take_append_drop i ts, List.mem_append] at h
   rcases h with h | h
   ·exact .inl h
   ·exact .inr (.inr h)
theorem y2P {ts : List Int} {i : Nat} {x : Int} (h : i ≤ ts.length) : (ts.take i ++ x :: ts.drop i).length = ts.length + 1 := by
 rw [List.length_append, List.length_cons, List.length_take, List.length_drop]
 omega
theorem y5x (M : Bl mg) (F : Fun K "_law_shuffled" "_law_shuffled" z2Y f fd) (G_law_row : Cal P w K mg base 1 "_law_row" z3Y y4g) : FnOk P w K mg base CX0 2 f fd z2T (y53 K) := by
 have nd := z4k.nd
 refine F.ok z4k (fun vs H Q E h => ?_) (fun cdv A outer s H vs Q E hr h => ?_)
 ·obtain ⟨r, ns, c, rfl, _⟩ := h
  rfl
 obtain ⟨r, ns, c, rfl, hS, hn, q⟩ := h
 refine ⟨_, (z04 (z0p (i := 2) nd rfl (Or.inl rfl) (z0h G_law_row (rm hr) rfl (z00 (pv 1) (z00 (z0j z0a rfl M.len PySem.boot_len (z00 (pv 0) z03)) (z00 z08 z03))))) (z04 (z0p (i := 3) nd rfl (Or.inl rfl) (z2l z03)) (z04 (z1i PassesOwn.never rfl (z1Z rfl M.range (z00 (z0j z0a rfl M.len PySem.boot_len (z00 (pv 0) z03)) z03)) (z0m (i := 4) nd rfl (Or.inl rfl)) (z04 (z0B (z58 PySem.F.plainAttrs_list PySem.F.slot_list_insert PySem.F.type_list_insert z9c (pv 3) (z00 (z0v z1a (z1q z1w (pv 2) (pv 4) (fun _ _ => rfl)) (z0v z1F (pv 4) z08)) (z00 (z1q z1w (pv 0) (pv 4) (fun _ _ => rfl)) z03)))) (z05 (z0S (z0l y5Y (z1q z1w (pv 2) (pv 4) (fun _ _ => rfl)) z08 (z0u _)) (z05 (z0B (z58 PySem.F.plainAttrs_list PySem.F.slot_list_insert PySem.F.type_list_insert z9c (pv 3) (z00 (z0v z1a (z1q z1w (pv 2) (pv 4) (fun _ _ => rfl)) (z0v z1F (pv 4) z08)) (z00 (z1q z1w (pv 0) (pv 4) (fun _ _ => rfl)) z03))))) z0t)))) (z05 (z0k (pv 3)))))), ?_⟩
 have hl0 : (ns.map V.int).length = ns.length := List.length_map _
 refine ⟨_, rfl, _, rfl, r, _, rfl, .inl hS, _, _, _, rfl, by omega, by omega, by decide, by decide, fun lf fs H1 nlf s1 e1 len1 all1 => ?_⟩
 have len1' : fs.length = ns.length := by rw [len1, hl0]; rfl
 refine ⟨(by show 0 ≤ sizeLine; decide), fun l hl => ?_⟩
 have nl : lf ≠ l := z0i e1 hl
 refine ⟨_, rfl, r, _, rfl, .inl ((s1.trans (z01 hl _)).seq hS), _, rfl, by omega, by omega, ?_⟩
 refine z2J (lo := 0) (n := (((ns.map V.int).length : Nat) : Int).toNat) (fun i σ H' => ∃ (ts : List Int) (o : Option V), (∀ x, x ∈ ts ↔ x ∈ ns.take i) /\ i ≤ ts.length /\ ts.length ≤ 2 * i /\ H' = upd H1 l (.lst (ts.map V.int)) /\
  σ = [some (.ref r), some (.int c), some (.ref lf), some (.ref l), o]) ⟨[], _, fun x => Iff.rfl, Nat.le_refl 0, Nat.le_refl 0, rfl, rfl⟩ (fun i σ H' hi hp => ?_) (fun σ H' hp => ?_)
 ·obtain ⟨ts, o, hm, hlo, hhi, rfl, rfl⟩ := hp
  have hi' : i < ns.length := by
   have : (((ns.map V.int).length : Nat) : Int).toNat = ns.length := by rw [hl0]; rfl
   omega
  have ei : (0 : Int) + (i : Int) = (i : Int) := Int.zero_add _
  have hif : (i : Int) < (fs.length : Int) := by omega
  have gs : ∀ o : HO, Same H1 (upd H1 l o) := fun o => z01 hl o
  have fget : ∀ {o : HO}, SqL K (upd H1 l o) lf (fs.map V.int) := fun {o} => SqL.of (gs o _ _ e1)
  have rget : ∀ {o : HO}, SqL K (upd H1 l o) r (ns.map V.int) := fun {o} => (s1.trans (gs o)).seq hS
  have atf : atI (fs.map V.int) ((0 : Int) + (i : Int)) = some (.int (fs.getD i 0)) := by
   rw [ei]
   exact z8Z (ns := fs) (k := (i : Int)) (by omega) hif
  have atn : atI (ns.map V.int) ((0 : Int) + (i : Int)) = some (.int (ns.getD i 0)) := by
   rw [ei]
   exact z8Z (ns := ns) (k := (i : Int)) (by omega) (by omega)
  have hget : ns[i]? = some (ns.getD i 0) := by
   rw [List.getD_eq_getElem?_getD, List.getElem?_eq_getElem hi']
   rfl
  have hmem : ∀ x, x ∈ ns.take (i + 1) ↔ x = ns.getD i 0 \/ x ∈ ns.take i := fun x => by
   rw [z0q hget, List.mem_append, List.mem_singleton]
   exact Or.comm
  have b1 : 0 ≤ fs.getD i 0 % ((0 : Int) + (i : Int) + 1) /\ fs.getD i 0 % ((0 : Int) + (i : Int) + 1) ≤ (i : Int) := by
   have := Int.emod_nonneg (fs.getD i 0) (show (0 : Int) + (i : Int) + 1 ≠ 0 by omega)
   have := Int.emod_lt_of_pos (fs.getD i 0) (show (0 : Int) < (0 : Int) + (i : Int) + 1 by omega)
   omega
  have b2 : 0 ≤ fs.getD i 0 % ((0 : Int) + (i : Int) + 2) /\ fs.getD i 0 % ((0 : Int) + (i : Int) + 2) ≤ (i : Int) + 1 := by
   have := Int.emod_nonneg (fs.getD i 0) (show (0 : Int) + (i : Int) + 2 ≠ 0 by omega)
   have := Int.emod_lt_of_pos (fs.getD i 0) (show (0 : Int) < (0 : Int) + (i : Int) + 2 by omega)
   omega
  have hlen : (ts.map V.int).length = ts.length := List.length_map _
  refine ⟨_, rfl, .inl ⟨rfl, _, SqL.of z02⟩, _, rfl, _, rfl, lf, _, _, _, rfl, rfl, fget, atf, _, rfl, _, _, rfl, rfl, _, _, rfl, rfl, (by omega), _, rfl, _, rfl, r, _, _, _, rfl, rfl, rget, atn, l, _, _, _, rfl, rfl, z02, b1.1, by omega, z0g (by omega), ?_⟩
  rw [z4U, y2C]
  have hlen2 := y2P (ts := ts) (i := (fs.getD i 0 % ((0 : Int) + (i : Int) + 1)).toNat) (x := ns.getD i 0) (by omega)
  refine ⟨_, rfl, _, rfl, lf, _, _, _, rfl, rfl, fget, atf, _, _, rfl, rfl, _, rfl, ?_⟩
  refine ite2 (fun _ => ?_) (fun _ => ?_)
  ·refine ⟨_, rfl, .inl ⟨rfl, _, SqL.of z02⟩, _, rfl, _, rfl, lf, _, _, _, rfl, rfl, fget, atf, _, rfl, _, _, rfl, rfl, _, _, rfl, rfl, (by omega), _, rfl, _, rfl, r, _, _, _, rfl, rfl, rget, atn, l, _, _, _, rfl, rfl, z02, b2.1, ?_, ?_, ?_⟩
   ·rw [List.length_map, hlen2]
    omega
   ·rw [List.length_map, hlen2]
    exact z0g (by omega)
   ·rw [z4U, y2C]
    have hlen3 := y2P (ts := ts.take (fs.getD i 0 % ((0 : Int) + (i : Int) + 1)).toNat ++ ns.getD i 0 :: ts.drop (fs.getD i 0 % ((0 : Int) + (i : Int) + 1)).toNat) (i := (fs.getD i 0 % ((0 : Int) + (i : Int) + 2)).toNat) (x := ns.getD i 0) (by rw [hlen2]; omega)
    refine ⟨_, _, fun x => ?_, ?_, ?_, rfl, rfl⟩
    ·rw [y0c, y0c, hmem, hm]
     constructor
     ·rintro (h | h | h)
      ·exact .inl h
      ·exact .inl h
      ·exact .inr h
     ·rintro (h | h)
      ·exact .inl h
      ·exact .inr (.inr h)
    ·rw [hlen3, hlen2]
     omega
    ·rw [hlen3, hlen2]
     omega
  ·refine ⟨_, _, fun x => ?_, ?_, ?_, rfl, rfl⟩
   ·rw [y0c, hmem, hm]
   ·rw [hlen2]
    omega
   ·rw [hlen2]
    omega
 ·obtain ⟨ts, o, hm, hlo, hhi, rfl, rfl⟩ := hp
  have e : (((ns.map V.int).length : Nat) : Int).toNat = ns.length := by rw [hl0]; rfl
  rw [e] at hm hhi
  rw [List.take_length] at hm
  exact ⟨_, rfl, q l ts _ (s1.free hl) (s1.trans (z01 hl _)) z02 hm hhi⟩
def sgL : List Nat := (("mM ~aA0.xX_9" : Str).cps.toList)
theorem z9V : sgL.length = 12 := by decide +kernel
theorem y2b : sgL.Nodup := by decide +kernel
abbrev farS : Str := "a stranger of twenty"
abbrev z8Y : Str := "a long stem of them"
structure Nms (nm : List Str) : Prop where
 nd : nm.Nodup
 lo : ∀ x ∈ nm, 1 ≤ x.length
 hi : ∀ x ∈ nm, x.length ≤ 20
 far : farS ∉ nm
theorem z9M (a b : Str) : (a ++ b).cps.toList = a.cps.toList ++ b.cps.toList := by
 show (a.cps ++ b.cps).toList = _
 simp
theorem y66 (c : Nat) : (⟨#[c]⟩ : Str).cps.toList = [c] := rfl
theorem z3S {α β : Type} {g : α -> β} : ∀ {l : List α}, l.Nodup -> (∀ x ∈ l, ∀ y ∈ l, g x = g y -> x = y) -> (l.map g).Nodup
 | [], _, _ => List.nodup_nil
 | x :: r, n, h => by
  rw [List.nodup_cons] at n
  rw [List.map_cons, List.nodup_cons]
  refine ⟨fun hm => ?_, z3S n.2 fun a ha b hb => h a (List.mem_cons_of_mem _ ha) b (List.mem_cons_of_mem _ hb)⟩
  obtain ⟨y, hy, e⟩ := List.mem_map.mp hm
  have := h x List.mem_cons_self y (List.mem_cons_of_mem _ hy) e.symm
  exact n.1 (this ▸ hy)
theorem z9b (lo : Int) (n : Nat) : (upI lo n).Nodup := (z1A lo n).imp fun {a b} h => by omega
theorem y0V {t a b : Int} (ht : 0 ≤ t) (ht2 : t < 12) (a0 : 0 ≤ a) (a1 : a < 12) (b0 : 0 ≤ b) (b1 : b < 12) (h : (t + a) % 12 = (t + b) % 12) : a = b := by omega
def repN (c : Nat) (t k : Int) : Str := repS ⟨#[c]⟩ (1 + (t + k) % 12).toNat
theorem z5p (c : Nat) (t k : Int) : (repN c t k).length = (1 + (t + k) % 12).toNat := by
 unfold repN
 rw [<- z1v]
 show ((List.replicate _ [c]).flatten.toArray).toList.length = _
 simp
theorem y6e (c : Nat) {t : Int} (h0 : 0 ≤ t) (h1 : t < 12) {m : Nat} (hm : m ≤ 12) : Nms ((upI 0 m).map (repN c t)) where
 nd := z3S (z9b _ _) fun a ha b hb e => by
  have ha' := z0P.mp ha
  have hb' := z0P.mp hb
  have e2 := congrArg Str.length e
  rw [z5p, z5p] at e2
  exact y0V h0 h1 (by omega) (by omega) (by omega) (by omega) (by omega)
 lo := fun x hx => by
  obtain ⟨k, hk, rfl⟩ := List.mem_map.mp hx
  rw [z5p]
  omega
 hi := fun x hx => by
  obtain ⟨k, hk, rfl⟩ := List.mem_map.mp hx
  rw [z5p]
  omega
 far := fun hx => by
  obtain ⟨k, hk, e⟩ := List.mem_map.mp hx
  have e2 := congrArg Str.length e
  rw [z5p] at e2
  have e3 : farS.length = 20 := by decide +kernel
  omega
def z8U (st : Str) (sp : Int) (t k : Int) : Str := cutS st none (some sp) ++ ⟨#[sgL.getD ((t + k) % 12).toNat 0]⟩ ++ cutS st (some sp) none
theorem y0y {n d : Nat} {v : Int} (h0 : 0 ≤ v) (h1 : v ≤ n) : HT.sIx n d (some v) = v.toNat := by
 show (if v < 0 then (v + (n : Int)).toNat else min v.toNat n) = _
 rw [if_neg (by omega), Nat.min_eq_left (by omega)]
theorem y5a (st : Str) {sp : Int} (h0 : 0 ≤ sp) (h1 : sp ≤ st.length) : (cutS st none (some sp)).cps.toList = st.cps.toList.take sp.toNat := by
 show ((st.cps.toList.drop 0).take (HT.sIx st.length st.length (some sp) - 0)) = _
 rw [y0y h0 h1, List.drop_zero, Nat.sub_zero]
theorem y59 (st : Str) {sp : Int} (h0 : 0 ≤ sp) (h1 : sp ≤ st.length) : (cutS st (some sp) none).cps.toList = st.cps.toList.drop sp.toNat := by
 show ((st.cps.toList.drop (HT.sIx st.length 0 (some sp))).take (st.length - HT.sIx st.length 0 (some sp))) = _
 rw [y0y h0 h1, List.take_of_length_le]
 rw [List.length_drop, z1v]
 exact Nat.le_refl _
theorem z5r (st : Str) {sp : Int} (h0 : 0 ≤ sp) (h1 : sp ≤ st.length) (t k : Int) : (z8U st sp t k).cps.toList = st.cps.toList.take sp.toNat ++ sgL.getD ((t + k) % 12).toNat 0 :: st.cps.toList.drop sp.toNat := by
 unfold z8U
 rw [z9M, z9M, y5a st h0 h1, y59 st h0 h1, y66, List.append_assoc]
 rfl
theorem z72 (st : Str) {sp : Int} (h0 : 0 ≤ sp) (h1 : sp ≤ st.length) (t k : Int) : (z8U st sp t k).length = st.length + 1 := by
 rw [<- z1v, z5r st h0 h1, List.length_append, List.length_cons, List.length_take, List.length_drop, z1v]
 omega
theorem y4d : ∀ s < 20, ∀ i < 12, z8Y.cps.toList.take s ++ sgL.getD i 0 :: z8Y.cps.toList.drop s ≠ farS.cps.toList := by decide +kernel
theorem y3T {st : Str} (hst : st = "" \/ st = "row" \/ st = z8Y) {sp : Int} (h0 : 0 ≤ sp) (h1 : sp ≤ st.length) {t : Int} (t0 : 0 ≤ t) (t1 : t < 12) {m : Nat} (hm : m ≤ 12) : Nms ((upI 0 m).map (z8U st sp t)) where
 nd := z3S (z9b _ _) fun a ha b hb e => by
  have ha' := z0P.mp ha
  have hb' := z0P.mp hb
  have e2 : (z8U st sp t a).cps.toList = (z8U st sp t b).cps.toList := congrArg (fun z : Str => z.cps.toList) e
  rw [z5r st h0 h1, z5r st h0 h1] at e2
  have e3 := List.append_cancel_left e2
  have e4 : sgL.getD ((t + a) % 12).toNat 0 = sgL.getD ((t + b) % 12).toNat 0 := (List.cons.inj e3).1
  have l1 : ((t + a) % 12).toNat < sgL.length := by rw [z9V]; omega
  have l2 : ((t + b) % 12).toNat < sgL.length := by rw [z9V]; omega
  rw [List.getD_eq_getElem?_getD, List.getElem?_eq_getElem l1, List.getD_eq_getElem?_getD, List.getElem?_eq_getElem l2] at e4
  have e5 := (List.getElem_inj y2b).mp e4
  exact y0V t0 t1 (by omega) (by omega) (by omega) (by omega) (by omega)
 lo := fun x hx => by
  obtain ⟨k, hk, rfl⟩ := List.mem_map.mp hx
  rw [z72 st h0 h1]
  omega
 hi := fun x hx => by
  obtain ⟨k, hk, rfl⟩ := List.mem_map.mp hx
  rw [z72 st h0 h1]
  have l1 : ("" : Str).length = 0 := by decide +kernel
  have l2 : ("row" : Str).length = 3 := by decide +kernel
  have l3 : z8Y.length = 19 := by decide +kernel
  rcases hst with rfl | rfl | rfl <;> omega
 far := fun hx => by
  obtain ⟨k, hk, e⟩ := List.mem_map.mp hx
  have l1 : ("" : Str).length = 0 := by decide +kernel
  have l2 : ("row" : Str).length = 3 := by decide +kernel
  have l3 : z8Y.length = 19 := by decide +kernel
  have l4 : farS.length = 20 := by decide +kernel
  have e2 := congrArg Str.length e
  rw [z72 st h0 h1] at e2
  rcases hst with rfl | rfl | rfl
  ·omega
  ·omega
  ·have e3 : (z8U z8Y sp t k).cps.toList = farS.cps.toList := congrArg (fun z : Str => z.cps.toList) e
   rw [z5r z8Y h0 h1] at e3
   exact y4d sp.toNat (by omega) ((t + k) % 12).toNat (by omega) e3
def y3f : Sp := fun vs H Q _ => ∃ c m : Int, vs = [.int c, .int m] /\ 0 ≤ m /\ m ≤ 12 /\
 ∀ (l : Addr) (nm : List Str) (H' : Hp), H l = none -> Same H H' -> H' l = some (.lst (nm.map V.str)) -> nm.length = m.toNat -> Nms nm -> Q (.ref l) H'
theorem y0j {f : Int -> V} (l : List Int) : z33 (fun _ => true) f l = l.map f := by
 unfold z33
 rw [List.filter_eq_self.mpr fun _ _ => rfl]
theorem y3Z (M : Bl mg) (F : Fun K "_law_named" "_law_named" z4P f fd) : FnOk P w K mg base CX0 1 f fd z4N y3f := by
 have nd := z6i.nd
 refine F.ok z6i (fun vs H Q E h => ?_) (fun cdv A outer s H vs Q E hr h => ?_)
 ·obtain ⟨c, m, rfl, _⟩ := h
  rfl
 obtain ⟨c, m, rfl, m0, m1, q⟩ := h
 refine ⟨_, (z04 (z0p (i := 2) nd rfl (Or.inr rfl) z75) (z04 (z0p (i := 3) nd rfl (Or.inr rfl) (z0v z1a (z0v z1P (pv 0) z08) z08)) (z04 (z0S (z0l z3A (z0v z1a (pv 0) z08) z08 (z0u _)) (z05 (z0k (z1c ["_law_k"] ["_law_cell", "_law_turn"] [0, 3] rfl (z0w rfl (by decide +kernel) rfl (by decide +kernel) rfl rfl) (z1Z rfl M.range (z00 (pv 1) z03)) (fun _ _ _ _ _ => (z0m (i := 0) (show ((["_law_k"] : List PySem.Str) ++ (["_law_cell", "_law_turn"] : List PySem.Str)).Nodup from by decide +kernel) rfl (Or.inl rfl))) (z0x (by decide)) z0c (fun _ _ _ _ _ => z1N) (fun _ _ _ _ _ => (z0v y1q (z1q y33 z75 (z0v z1a (z0v z1P (pv 1) z08) z08) (fun _ _ => rfl)) (z0v z1F z08 (z0v z1a (z0v z1F (pv 2) (pv 0)) z08))))))) z0t) (z04 (z0p (i := 4) nd rfl (Or.inr rfl) (z1q z1w (z2l (z00 z75 (z00 z75 (z00 z75 z03)))) (z0v z1a (pv 0) z08) (fun _ _ => rfl))) (z04 (z0p (i := 5) nd rfl (Or.inr rfl) (z0v z1a (z0v z1P (pv 0) z08) (z0v z1F (z0j z9j rfl M.len PySem.boot_len (z00 (pv 4) z03)) z08))) (z05 (z0k (z1c ["_law_k"] ["_law_stem", "_law_signs", "_law_spot", "_law_turn"] [4, 2, 5, 3] rfl (z0w rfl (by decide +kernel) rfl (by decide +kernel) rfl rfl) (z1Z rfl M.range (z00 (pv 1) z03)) (fun _ _ _ _ _ => (z0m (i := 0) (show ((["_law_k"] : List PySem.Str) ++ (["_law_stem", "_law_signs", "_law_spot", "_law_turn"] : List PySem.Str)).Nodup from by decide +kernel) rfl (Or.inl rfl))) (z0x (by decide)) z0c (fun _ _ _ _ _ => z1N) (fun _ _ _ _ _ => (z0v z8e (z0v z8e (z2P y5c (pv 1) z3U (z3T (pv 3))) (z1q y33 (pv 2) (z0v z1a (z0v z1F (pv 4) (pv 0)) z08) (fun _ _ => rfl))) (z2P y5c (pv 1) (z3T (pv 3)) z3U))))))))))), ?_⟩
 have t0 : 0 ≤ c / 4 % 12 := Int.emod_nonneg _ (by decide)
 have t1 : c / 4 % 12 < 12 := Int.emod_lt_of_pos _ (by decide)
 refine ⟨_, rfl, _, _, rfl, rfl, ⟨by decide, by decide⟩, _, _, rfl, rfl, (by show (0 : Int) < 12; decide), ?_⟩
 refine ⟨_, rfl, _, _, rfl, rfl, (by show (0 : Int) < 4; decide), rfl, _, rfl, ?_⟩
 refine ite2 (fun _ => ?_) (fun cn => ?_)
 ·obtain ⟨sg, hsg⟩ : ∃ sg, atI (("a ~" : Str).cps.toList) (c / 48 % 3) = some sg := by
   have h0 : 0 ≤ c / 48 % 3 := Int.emod_nonneg _ (by decide)
   have h1 : c / 48 % 3 < 3 := Int.emod_lt_of_pos _ (by decide)
   have ek : c / 48 % 3 = (((c / 48 % 3).toNat : Nat) : Int) := by omega
   have hl : (("a ~" : Str).cps.toList).length = 3 := by decide +kernel
   rw [ek]
   exact ⟨_, z1d (List.getElem?_eq_getElem (by rw [hl]; omega))⟩
  refine ⟨_, rfl, _, rfl, by omega, by omega, ?_⟩
  refine z8D (lo := 0) (n := m.toNat) (fun _ => true) (fun k => .str (repN sg (c / 4 % 12) k)) (by omega) (fun k ys N k0 k1 hN => ?_) ?_
  ·refine ⟨_, rfl, _, _, rfl, rfl, ⟨by decide, by decide⟩, _, _, rfl, rfl, (by show (0 : Int) < 3; decide), _, _, sg, rfl, rfl, (by decide +kernel), hsg, ?_⟩
   refine ⟨_, rfl, _, rfl, _, _, rfl, rfl, _, _, rfl, rfl, (by show (0 : Int) < 12; decide), _, _, rfl, rfl, _, _, rfl, rfl, ?_, ?_, ?_, ?_⟩
   ·have := Int.emod_nonneg (c / 4 % 12 + k) (show (12 : Int) ≠ 0 by decide)
    omega
   ·have := Int.emod_lt_of_pos (c / 4 % 12 + k) (show (0 : Int) < 12 by decide)
    omega
   ·show 1 ≤ 1000
    decide
   ·exact hN
  ·intro D hD
   rw [y0j]
   refine q D ((upI 0 m.toNat).map (repN sg (c / 4 % 12))) _ hD (z01 hD _) ?_ (by rw [List.length_map, z0E]) (y6e sg t0 t1 (by omega))
   rw [z02, List.map_map]
   rfl
 ·have c4 : c % 4 = 0 \/ c % 4 = 1 \/ c % 4 = 2 := by
   have h1 := Int.emod_nonneg c (show (4 : Int) ≠ 0 by decide)
   have h2 := Int.emod_lt_of_pos c (show (0 : Int) < 4 by decide)
   have h3 : c % 4 ≠ 3 := fun e => cn (decide_eq_true (congrArg V.int e))
   omega
  obtain ⟨st, hat, hst⟩ : ∃ st : Str, atI [V.str "", V.str "row", V.str "a long stem of them"] (c % 4) = some (.str st) /\ (st = "" \/ st = "row" \/ st = z8Y) := by
   rcases c4 with e | e | e <;> rw [e]
   ·exact ⟨_, rfl, .inl rfl⟩
   ·exact ⟨_, rfl, .inr (.inl rfl)⟩
   ·exact ⟨_, rfl, .inr (.inr rfl)⟩
  have stl : st.length ≤ 19 := by
   have l1 : ("" : Str).length = 0 := by decide +kernel
   have l2 : ("row" : Str).length = 3 := by decide +kernel
   have l3 : z8Y.length = 19 := by decide +kernel
   rcases hst with rfl | rfl | rfl <;> omega
  refine ⟨(by show 3 ≤ sizeLine; decide), fun p hp => ⟨_, rfl, _, _, rfl, rfl, (by show (0 : Int) < 4; decide), p, _, _, _, rfl, rfl, SqL.of z02, hat, ?_⟩⟩
  refine ⟨_, rfl, _, _, rfl, rfl, ⟨by decide, by decide⟩, _, rfl, st, rfl, z8Q (by omega), _, _, rfl, rfl, _, _, rfl, rfl, by omega, ?_⟩
  have s0 : 0 ≤ c / 48 % ((st.length : Int) + 1) := Int.emod_nonneg _ (by omega)
  have s1 : c / 48 % ((st.length : Int) + 1) ≤ (st.length : Int) := by
   have := Int.emod_lt_of_pos (c / 48) (show (0 : Int) < (st.length : Int) + 1 by omega)
   omega
  refine ⟨_, rfl, _, rfl, by omega, by omega, ?_⟩
  refine z8D (lo := 0) (n := m.toNat) (fun _ => true) (fun k => .str (z8U st (c / 48 % ((st.length : Int) + 1)) (c / 4 % 12) k)) (by omega) (fun k ys N k0 k1 hN => ?_) ?_
  ·have i0 := Int.emod_nonneg (c / 4 % 12 + k) (show (12 : Int) ≠ 0 by decide)
   have i1 := Int.emod_lt_of_pos (c / 4 % 12 + k) (show (0 : Int) < 12 by decide)
   have hsg : atI (("mM ~aA0.xX_9" : Str).cps.toList) ((c / 4 % 12 + k) % 12) = some (sgL.getD ((c / 4 % 12 + k) % 12).toNat 0) := by
    have ek : (c / 4 % 12 + k) % 12 = ((((c / 4 % 12 + k) % 12).toNat : Nat) : Int) := by omega
    have l1 : ((c / 4 % 12 + k) % 12).toNat < sgL.length := by rw [z9V]; omega
    have q1 : atI sgL ((((c / 4 % 12 + k) % 12).toNat : Nat) : Int) = some (sgL.getD ((c / 4 % 12 + k) % 12).toNat 0) := z1d (by
     rw [List.getD_eq_getElem?_getD, List.getElem?_eq_getElem l1]
     rfl)
    rw [<- ek] at q1
    exact q1
   have la : (cutS st none (some (c / 48 % ((st.length : Int) + 1)))).length ≤ 19 := by
    rw [<- z1v, y5a st s0 s1, List.length_take, z1v]
    omega
   have lb : (cutS st (some (c / 48 % ((st.length : Int) + 1))) none).length ≤ 19 := by
    rw [<- z1v, y59 st s0 s1, List.length_drop, z1v]
    omega
   have lc : ∀ (x : Nat), (⟨#[x]⟩ : Str).length = 1 := fun _ => rfl
   have lab : ∀ (x : Nat), (cutS st none (some (c / 48 % ((st.length : Int) + 1))) ++ (⟨#[x]⟩ : Str)).length ≤ 20 := fun x => by
    rw [<- z1v, z9M, List.length_append, z1v, z1v, lc]
    omega
   refine ⟨_, rfl, _, rfl, _, rfl, st, rfl, z8Q (by omega), ?_⟩
   refine ⟨_, rfl, _, rfl, _, rfl, _, _, rfl, rfl, _, _, rfl, rfl, (by show (0 : Int) < 12; decide), _, _, _, rfl, rfl, (by decide +kernel), hsg, ?_⟩
   refine ⟨_, _, rfl, rfl, z8Q (by rw [lc]; omega), ?_⟩
   refine ⟨_, rfl, _, rfl, _, rfl, st, rfl, z8Q (by omega), _, _, rfl, rfl, z8Q (by have := lab (sgL.getD ((c / 4 % 12 + k) % 12).toNat 0); omega), ?_⟩
   exact hN
  ·intro D hD
   rw [y0j]
   refine q D ((upI 0 m.toNat).map (z8U st (c / 48 % ((st.length : Int) + 1)) (c / 4 % 12))) _ ((z01 hp _).free hD) ((z01 hp _).trans (z01 hD _)) ?_ (by rw [List.length_map, z0E]) (y3T hst s0 s1 t0 t1 (by omega))
   rw [z02, List.map_map]
   rfl
def z40 : Sp := fun vs H Q _ => ∃ t : Int, vs = [.int t] /\ 0 ≤ t /\ t < 1000000 /\ Q (.int (2 ^ t.toNat)) H
theorem y1v (M : Bl mg) (F : Fun K "_law_doubled" "_law_doubled" z3s f fd) : FnOk P w K mg base CX0 1 f fd z3z z40 := by
 have nd := z4B.nd
 refine F.ok z4B (fun vs H Q E h => ?_) (fun cdv A outer s H vs Q E hr h => ?_)
 ·obtain ⟨t, rfl, _⟩ := h
  rfl
 obtain ⟨t, rfl, t0, t1, q⟩ := h
 refine ⟨_, (z04 (z0p (i := 1) nd rfl (Or.inl rfl) z08) (z04 (z1i PassesOwn.never rfl (z1Z rfl M.range (z00 (pv 0) z03)) (z0m (i := 2) nd rfl (Or.inl rfl)) (z05 (z0p (i := 1) nd rfl (Or.inl rfl) (z0v z4E (pv 1) z08)))) (z05 (z0k (pv 1))))), ?_⟩
 refine ⟨_, rfl, _, rfl, by omega, by omega, ?_⟩
 refine z2J (lo := 0) (n := t.toNat) (fun i σ H' => H' = H /\ ∃ o, σ = [some (.int t), some (.int (2 ^ i)), o]) ⟨rfl, _, rfl⟩ (fun i σ H' hi hp => ?_) (fun σ H' hp => ?_)
 ·obtain ⟨rfl, o, rfl⟩ := hp
  refine ⟨_, rfl, _, _, rfl, rfl, .inr ⟨by decide, by decide⟩, rfl, some (.int (0 + (i : Int))), ?_⟩
  rw [Int.pow_succ]
  rfl
 ·obtain ⟨rfl, o, rfl⟩ := hp
  exact ⟨_, rfl, q⟩
def z90 (H : Hp) (l : Addr) (v : V) (s : List Str) : Prop := ∃ a, v = .ref a /\ a ≠ l /\ H a = some (.lst (s.map V.str))
theorem z90.keep {H H' : Hp} (g : Same H H') {l : Addr} {v : V} {s : List Str} (h : z90 H l v s) : z90 H' l v s := let ⟨a, e, n, q⟩ := h; ⟨a, e, n, g _ _ q⟩
theorem z90.over {H : Hp} {l : Addr} {o : HO} {v : V} {s : List Str} (h : z90 H l v s) : z90 (upd H l o) l v s := let ⟨a, e, n, q⟩ := h; ⟨a, e, n, by rw [z0d n]; exact q⟩
abbrev z23 (H : Hp) (l : Addr) : List V -> List (List Str) -> Prop := Paired (z90 H l)
theorem z23.keep {H H' : Hp} (g : Same H H') {l : Addr} : ∀ {xs : List V} {ss : List (List Str)}, z23 H l xs ss -> z23 H' l xs ss
 | _, _, .nil => .nil
 | _, _, .cons r t => .cons (r.keep g) (z23.keep g t)
theorem z23.over {H : Hp} {l : Addr} {o : HO} : ∀ {xs : List V} {ss : List (List Str)}, z23 H l xs ss -> z23 (upd H l o) l xs ss
 | _, _, .nil => .nil
 | _, _, .cons r t => .cons r.over (z23.over t)
theorem z23.len {H : Hp} {l : Addr} : ∀ {xs : List V} {ss : List (List Str)}, z23 H l xs ss -> xs.length = ss.length
 | _, _, .nil => rfl
 | _, _, .cons _ t => by rw [List.length_cons, List.length_cons, z23.len t]
theorem z23.get {H : Hp} {l : Addr} : ∀ {xs : List V} {ss : List (List Str)}, z23 H l xs ss -> ∀ (i : Nat) (s : List Str), ss[i]? = some s -> ∃ v, xs[i]? = some v /\ z90 H l v s
 | _, _, .nil, i, s, e => by simp at e
 | _, _, .cons r t, 0, s, e => by
  simp at e
  subst e
  exact ⟨_, rfl, r⟩
 | _, _, .cons r t, i + 1, s, e => by
  obtain ⟨v, h1, h2⟩ := z23.get t i s (by simpa using e)
  exact ⟨v, by simpa using h1, h2⟩
theorem z2j (ns : List Str) : (ns.map V.str).all z20 = true := by
 rw [List.all_map, List.all_eq_true]
 intro x _
 rfl
theorem y5A {ns : List Str} {k : Int} (h0 : 0 ≤ k) (h : k < (ns.length : Int)) : ∃ x, ns[k.toNat]? = some x /\ atI (ns.map V.str) k = some (.str x) := by
 have hk : k.toNat < ns.length := by omega
 have ek : k = ((k.toNat : Nat) : Int) := by omega
 have q : atI (ns.map V.str) ((k.toNat : Nat) : Int) = some (.str ns[k.toNat]) := z1d (by rw [List.getElem?_map, List.getElem?_eq_getElem hk]; rfl)
 rw [<- ek] at q
 exact ⟨_, List.getElem?_eq_getElem hk, q⟩
def y5g (K : PySem.W.Frag) : Sp := fun vs H Q _ => ∃ (ln : Addr) (nm : List Str) (c m : Int), vs = [.ref ln, .int c, .int m] /\ SqL K H ln (nm.map V.str) /\ 1 ≤ nm.length /\ nm.length ≤ 12 /\ 0 ≤ m /\ m ≤ 900 /\
 ∀ (l : Addr) (xs : List V) (ss : List (List Str)) (H' : Hp), H l = none -> Same H H' -> H' l = some (.lst xs) -> z23 H' l xs ss -> ss.length = m.toNat -> (∀ s ∈ ss, s.Sublist nm) -> Q (.ref l) H'
theorem two_pow_le {n : Nat} (h : n ≤ 12) : (1 : Int) ≤ 2 ^ n /\ (2 : Int) ^ n ≤ 4096 := by
 have : ∀ k ≤ 12, (1 : Int) ≤ 2 ^ k /\ (2 : Int) ^ k ≤ 4096 := by decide
 exact this n h
theorem y67 (M : Bl mg) (F : Fun K "_law_sets" "_law_sets" z5O f fd) (G_law_row : Cal P w K mg base 1 "_law_row" z3Y y4g) (G_law_doubled : Cal P w K mg base 1 "_law_doubled" z3z z40) :
  FnOk P w K mg base CX0 2 f fd z5V (y5g K) := by
 have nd := z7H.nd
 refine F.ok z7H (fun vs H Q E h => ?_) (fun cdv A outer s H vs Q E hr h => ?_)
 ·obtain ⟨ln, nm, c, m, rfl, _⟩ := h
  rfl
 obtain ⟨ln, nm, c, m, rfl, hS, n1, n2, m0, m1, q⟩ := h
 refine ⟨_, (z04 (z0p (i := 3) nd rfl (Or.inl rfl) (z0h G_law_doubled (rm hr) rfl (z00 (z0j z0a rfl M.len PySem.boot_len (z00 (pv 0) z03)) z03))) (z04 (z0p (i := 4) nd rfl (Or.inl rfl) (z2l z03)) (z04 (z1i PassesOwn.never rfl (z24 (z0h G_law_row (rm hr) rfl (z00 (pv 1) (z00 (pv 2) (z00 (z0v z4E z08 (pv 3)) z03))))) (z0m (i := 5) nd rfl (Or.inl rfl)) (z04 (z0p (i := 6) nd rfl (Or.inl rfl) (z0v z1a (pv 5) (pv 3))) (z04 (z0p (i := 7) nd rfl (Or.inl rfl) (z2l z03)) (z04 (z1i PassesOwn.never rfl (z24 (pv 0)) (z0m (i := 8) nd rfl (Or.inl rfl)) (z04 (z0S (z0l z3A (z0v z1a (pv 6) z08) z08 (z0u _)) (z05 (z0B (z58 PySem.F.plainAttrs_list PySem.F.slot_list_append PySem.F.type_list_append z1e (pv 7) (z00 (pv 8) z03)))) z0t) (z05 (z0p (i := 6) nd rfl (Or.inl rfl) (z0v z1P (pv 6) z08))))) (z04 (z0S (z0l z3A (z0v z1P (pv 5) (pv 3)) z08 (z0u _)) (z05 (z0p (i := 7) nd rfl (Or.inl rfl) (z2l (z00 (z1q z1w (pv 0) (z0v z1a (pv 5) (z0j z0a rfl M.len PySem.boot_len (z00 (pv 0) z03))) (fun _ _ => rfl)) z03)))) z0t) (z04 (z0S (z0l z3A (z0v z1P (pv 5) (pv 3)) z08 (z0u _)) (z05 (z0p (i := 7) nd rfl (Or.inl rfl) (z2l z03))) z0t) (z04 (z0S (z0l z3A (z0v z1P (pv 5) (pv 3)) z08 (z0u _)) (z05 (z0p (i := 7) nd rfl (Or.inl rfl) (z0r z4l rfl M.list PyProof.Rows.boot_list (z00 (pv 0) z03)))) z0t) (z05 (z0B (z58 PySem.F.plainAttrs_list PySem.F.slot_list_append PySem.F.type_list_append z1e (pv 4) (z00 (pv 7) z03))))))))))) (z05 (z0k (pv 4)))))), ?_⟩
 have hl0 : (nm.map V.str).length = nm.length := List.length_map _
 refine ⟨_, rfl, ln, _, rfl, .inl hS, _, rfl, by omega, by omega, ?_⟩
 have pw := two_pow_le n2
 rw [hl0]
 have ez : (2 : Int) ^ (((nm.length : Nat) : Int).toNat) = 2 ^ nm.length := rfl
 rw [ez]
 generalize hz : (2 : Int) ^ nm.length = z at pw ⊢
 refine ⟨(by show 0 ≤ sizeLine; decide), fun l hl => ?_⟩
 refine ⟨_, rfl, _, rfl, _, rfl, _, _, rfl, rfl, .inl ⟨by decide, by decide⟩, c, m, 4 * z, rfl, m0, m1, by omega, by omega, fun lf fs H1 nlf s1 e1 len1 all1 => ?_⟩
 have sl := z01 (H := H) hl (.lst [])
 have nl : lf ≠ l := fun e => by rw [e, z02] at nlf; cases nlf
 have el1 : H1 l = some (.lst []) := s1 _ _ z02
 refine ⟨lf, rfl, ⟨_, SqL.of e1⟩, ?_⟩
 refine z2g (xs := fs.map V.int) (fun i σ H' => ∃ (xs : List V) (ss : List (List Str)) (o1 o2 o3 o4 : Option V), H' l = some (.lst xs) /\ z23 H' l xs ss /\ ss.length = i /\ (∀ s ∈ ss, s.Sublist nm) /\ H' lf = some (.lst (fs.map V.int)) /\ Same H H' /\
  σ = [some (.ref ln), some (.int c), some (.int m), some (.int z), some (.ref l), o1, o2, o3, o4]) ⟨[], [], _, _, _, _, el1, .nil, rfl, (fun _ h => nomatch h), e1, sl.trans s1, rfl⟩ (fun i σ H' hi hp => ?_) (fun i x σ H' hx hp => ?_) (fun σ H' hp => ?_)
 ·obtain ⟨xs, ss, o1, o2, o3, o4, _, _, _, _, h2, _⟩ := hp
  exact SqL.of h2
 ·obtain ⟨xs, ss, o1, o2, o3, o4, p1, p2, p3, p4, p5, p6, rfl⟩ := hp
  rw [List.getElem?_map] at hx
  cases ef : fs[i]? with
  | none => rw [ef] at hx; cases hx
  | some g =>
   rw [ef] at hx
   cases hx
   have hg := all1 g (List.mem_of_getElem? ef)
   have hi : i < fs.length := (List.getElem?_eq_some_iff.mp ef).1
   have lx := p2.len
   have cd : CDiv g z := ⟨by omega, by omega⟩
   refine ⟨_, rfl, _, rfl, _, _, rfl, rfl, (by omega), ?_⟩
   refine ⟨(by show 0 ≤ sizeLine; decide), fun a ha => ?_⟩
   have nal : a ≠ l := fun e => by rw [e, p1] at ha; cases ha
   have naf : a ≠ lf := fun e => by rw [e, p5] at ha; cases ha
   refine ⟨_, rfl, ln, rfl, ⟨_, (p6.trans (z01 ha _)).seq hS⟩, ?_⟩
   refine z2g (xs := nm.map V.str) (fun k σ H2 => ∃ (ch : List Str) (mk : Int) (o4 : Option V), ch.Sublist (nm.take k) /\ H2 = upd H' a (.lst (ch.map V.str)) /\
    σ = [some (.ref ln), some (.int c), some (.int m), some (.int z), some (.ref l), some (.int g), some (.int mk), some (.ref a), o4]) ⟨[], _, _, List.Sublist.refl _, rfl, rfl⟩ (fun k σ H2 hk hp => ?_) (fun k y σ H2 hy hp => ?_) (fun σ H2 hp => ?_)
   ·obtain ⟨ch, mk, o4, _, rfl, _⟩ := hp
    exact (p6.trans (z01 ha _)).seq hS
   ·obtain ⟨ch, mk, o4, hch, rfl, rfl⟩ := hp
    rw [List.getElem?_map] at hy
    cases en : nm[k]? with
    | none => rw [en] at hy; cases hy
    | some nk =>
     rw [en] at hy
     cases hy
     have tk := z0q en
     have hcl : ch.length ≤ 12 := by
      have := hch.length_le
      rw [List.length_take] at this
      omega
     refine ⟨_, rfl, _, _, rfl, rfl, (by show (0 : Int) < 2; decide), rfl, _, rfl, ?_⟩
     refine ite2 (fun _ => ?_) (fun _ => ?_)
     ·refine ⟨_, rfl, .inl ⟨rfl, _, SqL.of z02⟩, _, rfl, a, _, _, rfl, rfl, z02, z0g (by rw [List.length_map]; omega), ?_⟩
      refine ⟨_, rfl, _, _, rfl, rfl, ⟨by decide, by decide⟩, ch ++ [nk], _, some (.str nk), ?_, ?_, rfl⟩
      ·rw [tk]
       exact hch.append (List.Sublist.refl _)
      ·rw [z4U, List.map_append]
       rfl
     ·refine ⟨_, rfl, _, _, rfl, rfl, ⟨by decide, by decide⟩, ch, _, some (.str nk), ?_, rfl, rfl⟩
      rw [tk]
      exact hch.trans (List.sublist_append_left _ _)
   ·obtain ⟨ch, mk, o4, hch, rfl, rfl⟩ := hp
    rw [List.length_map, List.take_length] at hch
    have fin : ∀ (b : Addr) (cs : List Str) (H3 : Hp) (o2 o4 : Option V), cs.Sublist nm -> b ≠ l -> H3 b = some (.lst (cs.map V.str)) -> Same (upd H' a (.lst (ch.map V.str))) H3 ->
      ∃ (xs' : List V) (ss' : List (List Str)) (o1' o2' o3' o4' : Option V), upd H3 l (.lst (xs ++ [.ref b])) l = some (.lst xs') /\ z23 (upd H3 l (.lst (xs ++ [.ref b]))) l xs' ss' /\ ss'.length = i + 1 /\ (∀ s ∈ ss', s.Sublist nm) /\
       upd H3 l (.lst (xs ++ [.ref b])) lf = some (.lst (fs.map V.int)) /\ Same H (upd H3 l (.lst (xs ++ [.ref b]))) /\
       ([some (.ref ln), some (.int c), some (.int m), some (.int z), some (.ref l), some (.int g), o2, some (.ref b), o4] : St) = [some (.ref ln), some (.int c), some (.int m), some (.int z), some (.ref l), o1', o2', o3', o4'] := by
     intro b cs H3 o2 o4 hcs hb hb3 g3
     have g4 : Same H' H3 := (z01 ha _).trans g3
     refine ⟨_, ss ++ [cs], _, _, _, _, z02, ?_, by rw [List.length_append, p3]; rfl, fun s' hs' => ?_, ?_, z3J (p6.trans g4) hl, rfl⟩
     ·exact Paired.snoc (p2.keep g4).over ⟨b, rfl, hb, by rw [z0d hb]; exact hb3⟩
     ·rcases List.mem_append.mp hs' with h | h
      ·exact p4 s' h
      ·rw [List.mem_singleton.mp h]
       exact hcs
     ·rw [z0d nl]
      exact g4 _ _ p5
    have el : ∀ {H3 : Hp}, Same (upd H' a (.lst (ch.map V.str))) H3 -> H3 l = some (.lst xs) := fun {H3} g3 => g3 _ _ ((z01 ha _) _ _ p1)
    have app : ∀ {H3 : Hp}, Same (upd H' a (.lst (ch.map V.str))) H3 -> xs.length < sizeLine := fun _ => z0g (by omega)
    refine ⟨_, rfl, _, rfl, _, _, rfl, rfl, cd, rfl, _, rfl, ?_⟩
    refine ite2 (fun d1 => ?_) (fun d1 => ?_)
    ·obtain ⟨x1, hx1, ax1⟩ := y5A (ns := nm) (k := g % (((nm.map V.str).length : Nat) : Int)) (Int.emod_nonneg _ (by omega)) (by rw [hl0]; exact Int.emod_lt_of_pos _ (by omega))
     have q1 : g / z = 1 := V.int.inj (z0H d1)
     refine ⟨_, rfl, _, rfl, _, rfl, ln, _, rfl, .inl ((p6.trans (z01 ha _)).seq hS), _, _, rfl, rfl, (by rw [hl0]; omega), ln, _, _, _, rfl, rfl, (p6.trans (z01 ha _)).seq hS, ax1, (by show 1 ≤ sizeLine; decide), fun b1 hb1 => ?_⟩
     have g1 := z01 hb1 (.lst [.str x1])
     have sub1 : [x1].Sublist nm := List.singleton_sublist.mpr (List.mem_of_getElem? hx1)
     refine ⟨_, rfl, _, rfl, _, _, rfl, rfl, cd, rfl, _, rfl, ?_⟩
     refine ite2 (fun d => absurd (show g / z = 2 from V.int.inj (z0H d)) (by omega)) (fun _ => ⟨_, rfl, _, rfl, _, _, rfl, rfl, cd, rfl, _, rfl, ?_⟩)
     refine ite2 (fun d => absurd (show g / z = 3 from V.int.inj (z0H d)) (by omega)) (fun _ => ?_)
     refine ⟨_, rfl, .inl ⟨rfl, _, SqL.of (el g1)⟩, _, rfl, l, _, _, rfl, rfl, el g1, app g1, ?_⟩
     exact fin b1 [x1] _ _ _ sub1 (fun e => by rw [e, (z01 ha (.lst (ch.map V.str))) _ _ p1] at hb1; cases hb1) z02 g1
    ·refine ⟨_, rfl, _, rfl, _, _, rfl, rfl, cd, rfl, _, rfl, ?_⟩
     refine ite2 (fun d2 => ?_) (fun d2 => ?_)
     ·have q2 : g / z = 2 := V.int.inj (z0H d2)
      refine ⟨(by show 0 ≤ sizeLine; decide), fun b1 hb1 => ?_⟩
      have g1 := z01 hb1 (.lst [])
      refine ⟨_, rfl, _, rfl, _, _, rfl, rfl, cd, rfl, _, rfl, ?_⟩
      refine ite2 (fun d => absurd (show g / z = 3 from V.int.inj (z0H d)) (by omega)) (fun _ => ?_)
      refine ⟨_, rfl, .inl ⟨rfl, _, SqL.of (el g1)⟩, _, rfl, l, _, _, rfl, rfl, el g1, app g1, ?_⟩
      exact fin b1 [] _ _ _ (List.nil_sublist _) (fun e => by rw [e, (z01 ha (.lst (ch.map V.str))) _ _ p1] at hb1; cases hb1) z02 g1
     ·refine ⟨_, rfl, _, rfl, _, _, rfl, rfl, cd, rfl, _, rfl, ?_⟩
      refine ite2 (fun d3 => ?_) (fun d3 => ?_)
      ·refine ⟨_, rfl, ln, _, rfl, .inl ((p6.trans (z01 ha _)).seq hS), fun b1 hb1 => ?_⟩
       have g1 := z01 hb1 (.lst (nm.map V.str))
       refine ⟨_, rfl, .inl ⟨rfl, _, SqL.of (el g1)⟩, _, rfl, l, _, _, rfl, rfl, el g1, app g1, ?_⟩
       exact fin b1 nm _ _ _ (List.Sublist.refl _) (fun e => by rw [e, (z01 ha (.lst (ch.map V.str))) _ _ p1] at hb1; cases hb1) z02 g1
      ·refine ⟨_, rfl, .inl ⟨rfl, _, SqL.of (el (Same.refl _))⟩, _, rfl, l, _, _, rfl, rfl, el (Same.refl _), app (Same.refl _), ?_⟩
       exact fin a ch _ _ _ hch nal z02 (Same.refl _)
 ·obtain ⟨xs, ss, o1, o2, o3, o4, p1, p2, p3, p4, p5, p6, rfl⟩ := hp
  rw [List.length_map] at p3
  exact ⟨_, rfl, q l xs ss _ hl p6 p1 p2 (by rw [p3, len1]) p4⟩
abbrev Row := List (Str × Int)
def z8V (p : Str × Int) : DV := .tup [.str p.1, .int p.2]
def rowD (r : Row) : DV := .tup (r.map z8V)
theorem y3d {H : Hp} {a : Addr} {x : Str} {z : Int} (h : H a = some (.tup [.str x, .int z])) : Tell H (z8V (x, z)) (.ref a) := z0e h (by show 2 ≤ 1000000; decide) (.cons (z1J x) (.cons (z0F z) .nil))
theorem y4Y {xs : List V} : ∀ ys, HO.lst xs ≠ .tup ys := fun _ e => by cases e
def y39 : Sp := fun vs H Q _ => ∃ g p : Int, vs = [.int g, .int p] /\ ∀ r, 0 ≤ r -> r ≤ 1000000 -> Q (.int r) H
theorem y44 (F : Fun K "_law_value" "_law_value" z4V f fd) : FnOk P w K mg base CX0 1 f fd z53 y39 := by
 have nd := z6y.nd
 refine F.ok z6y (fun vs H Q E h => ?_) (fun cdv A outer s H vs Q E hr h => ?_)
 ·obtain ⟨g, p, rfl, _⟩ := h
  rfl
 obtain ⟨g, p, rfl, q⟩ := h
 refine ⟨_, (z04 (z0S (z0l z3A (z0v z1P (pv 0) z08) z08 (z0u _)) (z05 (z0k (z0v z1a (z0v z1F (pv 0) (z0v z4E z08 (pv 1))) z08))) z0t) (z04 (z0S (z0l z3A (z0v z1P (pv 0) z08) z08 (z0u _)) (z05 (z0k (z0v z4E z08 (z0v z1a (z0v z1F (pv 0) (pv 1)) z08)))) z0t) (z05 (z0k (z0v z1a (z0v z1F (pv 0) (pv 1)) z08))))), ?_⟩
 refine ⟨_, rfl, _, _, rfl, rfl, ⟨by decide, by decide⟩, rfl, _, rfl, ?_⟩
 refine ite2 (fun _ => ?_) (fun _ => ?_)
 ·refine ⟨_, rfl, _, rfl, _, _, rfl, rfl, .inl ⟨by decide, by decide⟩, _, _, rfl, rfl, _, _, rfl, rfl, (by show (0 : Int) < 1000001; decide), ?_⟩
  have h1 := Int.emod_nonneg (g + 7 * p) (show (1000001 : Int) ≠ 0 by decide)
  have h2 := Int.emod_lt_of_pos (g + 7 * p) (show (0 : Int) < 1000001 by decide)
  exact q _ h1 (by omega)
 ·refine ⟨_, rfl, _, _, rfl, rfl, ⟨by decide, by decide⟩, rfl, _, rfl, ?_⟩
  have h1 := Int.emod_nonneg (g + p) (show (2 : Int) ≠ 0 by decide)
  have h2 := Int.emod_lt_of_pos (g + p) (show (0 : Int) < 2 by decide)
  refine ite2 (fun _ => ?_) (fun _ => ?_)
  ·refine ⟨_, rfl, _, rfl, _, _, rfl, rfl, _, _, rfl, rfl, (by show (0 : Int) < 2; decide), _, _, rfl, rfl, .inl ⟨by decide, by decide⟩, ?_⟩
   exact q _ (by omega) (by omega)
  ·refine ⟨_, rfl, _, rfl, _, _, rfl, rfl, _, _, rfl, rfl, (by show (0 : Int) < 2; decide), ?_⟩
   exact q _ h1 (by omega)
structure Rws (nm : List Str) (rows : List Row) : Prop where
 sub : ∀ r ∈ rows, (r.map Prod.fst).Sublist nm
 val : ∀ r ∈ rows, ∀ p ∈ r, 0 ≤ p.2 /\ p.2 ≤ 1000000
def y0P : Sp := fun vs H Q _ => ∃ (l : Addr) (xs : List V) (ss : List (List Str)) (c : Int), vs = [.ref l, .int c] /\ H l = some (.lst xs) /\ z23 H l xs ss /\ ss.length ≤ 900 /\ (∀ s ∈ ss, s.length ≤ 12) /\
 ∀ (lr : Addr) (us : List V) (rows : List Row) (H' : Hp), H lr = none -> Same H H' -> H' lr = some (.lst us) -> z09 H' (rows.map rowD) us -> rows.map (fun r => r.map Prod.fst) = ss -> (∀ r ∈ rows, ∀ p ∈ r, 0 ≤ p.2 /\ p.2 ≤ 1000000) -> Q (.ref lr) H'
theorem y2R (M : Bl mg) (F : Fun K "_law_valued" "_law_valued" z4g f fd) (G_law_row : Cal P w K mg base 1 "_law_row" z3Y y4g) (G_law_value : Cal P w K mg base 1 "_law_value" z53 y39) :
  FnOk P w K mg base CX0 2 f fd z3W y0P := by
 have nd := z5y.nd
 refine F.ok z5y (fun vs H Q E h => ?_) (fun cdv A outer s H vs Q E hr h => ?_)
 ·obtain ⟨l, xs, ss, c, rfl, _⟩ := h
  rfl
 obtain ⟨l, xs, ss, c, rfl, hL, hSs, n0, n1, q⟩ := h
 refine ⟨_, (z04 (z0p (i := 2) nd rfl (Or.inl rfl) (z0h G_law_row (rm hr) rfl (z00 (pv 1) (z00 (z0j z0a rfl M.len PySem.boot_len (z00 (pv 0) z03)) (z00 z08 z03))))) (z04 (z0p (i := 3) nd rfl (Or.inl rfl) (z2l z03)) (z04 (z1i PassesOwn.never rfl (z1Z rfl M.range (z00 (z0j z0a rfl M.len PySem.boot_len (z00 (pv 0) z03)) z03)) (z0m (i := 4) nd rfl (Or.inl rfl)) (z04 (z0p (i := 5) nd rfl (Or.inl rfl) (z2l z03)) (z04 (z1i PassesOwn.never rfl (z1Z rfl M.range (z00 (z0j z0a rfl M.len PySem.boot_len (z00 (z1q z1w (pv 0) (pv 4) (fun _ _ => rfl)) z03)) z03)) (z0m (i := 6) nd rfl (Or.inl rfl)) (z05 (z0B (z58 PySem.F.plainAttrs_list PySem.F.slot_list_append PySem.F.type_list_append z1e (pv 5) (z00 (z0z (z00 (z1q z1w (z1q z1w (pv 0) (pv 4) (fun _ _ => rfl)) (pv 6) (fun _ _ => rfl)) (z00 (z0h G_law_value (rm hr) rfl (z00 (z1q z1w (pv 2) (pv 4) (fun _ _ => rfl)) (z00 (pv 6) z03))) z03))) z03))))) (z05 (z0B (z58 PySem.F.plainAttrs_list PySem.F.slot_list_append PySem.F.type_list_append z1e (pv 3) (z00 (z0r z0o rfl M.tuple PyProof.Rows.boot_tuple (z00 (pv 5) z03)) z03))))))) (z05 (z0k (pv 3)))))), ?_⟩
 have hl0 := hSs.len
 refine ⟨_, rfl, _, rfl, l, _, rfl, .inl (SqL.of hL), _, _, _, rfl, by omega, by omega, by decide, by decide, fun lf fs H1 nlf s1 e1 len1 all1 => ?_⟩
 have len1' : fs.length = ss.length := by rw [len1, hl0]; rfl
 refine ⟨(by show 0 ≤ sizeLine; decide), fun lr hlr => ?_⟩
 have nr : lf ≠ lr := z0i e1 hlr
 have nlr0 : H lr = none := s1.free hlr
 refine ⟨_, rfl, l, _, rfl, .inl (SqL.of ((s1.trans (z01 hlr _)) _ _ hL)), _, rfl, by omega, by omega, ?_⟩
 refine z2J (lo := 0) (n := ((xs.length : Nat) : Int).toNat) (fun i σ H' => ∃ (us : List V) (rows : List Row) (o1 o2 o3 : Option V), H' lr = some (.lst us) /\ z09 H' (rows.map rowD) us /\ rows.map (fun r => r.map Prod.fst) = ss.take i /\ (∀ r ∈ rows, ∀ p ∈ r, 0 ≤ p.2 /\ p.2 ≤ 1000000) /\ Same H1 H' /\
  σ = [some (.ref l), some (.int c), some (.ref lf), some (.ref lr), o1, o2, o3]) ⟨[], [], _, _, _, z02, .nil, rfl, (fun _ h => nomatch h), z01 hlr _, rfl⟩ (fun i σ H' hi hp => ?_) (fun σ H' hp => ?_)
 ·obtain ⟨us, rows, o1, o2, o3, p1, p2, p3, p4, p5, rfl⟩ := hp
  have hi' : i < ss.length := by
   have : ((xs.length : Nat) : Int).toNat = xs.length := rfl
   omega
  have ei : (0 : Int) + (i : Int) = (i : Int) := Int.zero_add _
  have es : ss[i]? = some ss[i] := List.getElem?_eq_getElem hi'
  generalize ss[i] = sI at es
  have hsI := n1 sI (List.mem_of_getElem? es)
  obtain ⟨v, hv, a, rfl, na, ha⟩ := hSs.get i sI es
  have lus := p2.length
  rw [List.length_map] at lus
  have lrows : rows.length = i := by
   have := congrArg List.length p3
   rw [List.length_map, List.length_take] at this
   omega
  have atv : atI xs ((0 : Int) + (i : Int)) = some (.ref a) := by rw [ei]; exact z1d hv
  have gl : ∀ {H2 : Hp}, Same H' H2 -> H2 l = some (.lst xs) /\ H2 a = some (.lst (sI.map V.str)) /\ H2 lf = some (.lst (fs.map V.int)) := fun {H2} g => ⟨(s1.trans (p5.trans g)) _ _ hL, (s1.trans (p5.trans g)) _ _ ha, (p5.trans g) _ _ e1⟩
  refine ⟨(by show 0 ≤ sizeLine; decide), fun lo hlo => ?_⟩
  have go := z01 (H := H') hlo (.lst [])
  refine ⟨_, rfl, _, rfl, l, _, _, _, rfl, rfl, SqL.of (gl go).1, atv, a, _, rfl, .inl (SqL.of (gl go).2.1), _, rfl, by omega, by rw [List.length_map]; omega, ?_⟩
  have hls : (sI.map V.str).length = sI.length := List.length_map _
  refine z2J (lo := 0) (n := (((sI.map V.str).length : Nat) : Int).toNat) (fun j σ H2 => ∃ (zs : List V) (row : Row) (o3 : Option V), H2 lo = some (.lst zs) /\ z09 H2 (row.map z8V) zs /\ row.map Prod.fst = sI.take j /\ (∀ p ∈ row, 0 ≤ p.2 /\ p.2 ≤ 1000000) /\ Same H' H2 /\
   σ = [some (.ref l), some (.int c), some (.ref lf), some (.ref lr), some (.int (0 + (i : Int))), some (.ref lo), o3]) ⟨[], [], _, z02, .nil, rfl, (fun _ h => nomatch h), go, rfl⟩ (fun j σ H2 hj hp => ?_) (fun σ H2 hp => ?_)
  ·obtain ⟨zs, row, o3, r1, r2, r3, r4, r5, rfl⟩ := hp
   have hj' : j < sI.length := by
    have : (((sI.map V.str).length : Nat) : Int).toNat = sI.length := by rw [hls]; rfl
    omega
   have ej : (0 : Int) + (j : Int) = (j : Int) := Int.zero_add _
   have ex : sI[j]? = some sI[j] := List.getElem?_eq_getElem hj'
   generalize sI[j] = x at ex
   have atx : atI (sI.map V.str) ((0 : Int) + (j : Int)) = some (.str x) := by
    rw [ej]
    exact z1d (by rw [List.getElem?_map, ex]; rfl)
   have atf : atI (fs.map V.int) ((0 : Int) + (i : Int)) = some (.int (fs.getD i 0)) := by
    rw [ei]
    exact z8Z (ns := fs) (k := (i : Int)) (by omega) (by omega)
   have lrow : row.length = j := by
    have := congrArg List.length r3
    rw [List.length_map, List.length_take] at this
    omega
   have lz := r2.length
   rw [List.length_map] at lz
   refine ⟨_, rfl, .inl ⟨rfl, _, SqL.of r1⟩, _, rfl, _, rfl, l, _, _, _, rfl, rfl, SqL.of (gl r5).1, atv, _, rfl, a, _, _, _, rfl, rfl, SqL.of (gl r5).2.1, atx, ?_⟩
   refine ⟨_, rfl, _, rfl, lf, _, _, _, rfl, rfl, SqL.of (gl r5).2.2, atf, _, rfl, _, _, rfl, fun z z0 z1 => ⟨(by show 2 ≤ sizeLine; decide), fun t ht => ?_⟩⟩
   have gt := z01 (H := H2) ht (.tup [.str x, .int z])
   refine ⟨lo, zs, _, rfl, rfl, gt _ _ r1, z0g (by omega), ?_⟩
   refine ⟨_, row ++ [(x, z)], some (.int (0 + (j : Int))), z02, ?_, ?_, fun p hp => ?_, z3J (r5.trans gt) hlo, rfl⟩
   ·rw [List.map_append]
    exact z09.over (gt _ _ r1) y4Y _ _ (z09.snoc (z09.keep gt _ _ r2) (y3d z02))
   ·rw [List.map_append, r3, z0q ex]
    rfl
   ·rcases List.mem_append.mp hp with h | h
    ·exact r4 p h
    ·rw [List.mem_singleton.mp h]
     exact ⟨z0, z1⟩
  ·obtain ⟨zs, row, o3, r1, r2, r3, r4, r5, rfl⟩ := hp
   have er : (((sI.map V.str).length : Nat) : Int).toNat = sI.length := by rw [hls]; rfl
   rw [er, List.take_length] at r3
   have lrow : row.length ≤ 12 := by
    have := congrArg List.length r3
    rw [List.length_map] at this
    omega
   refine ⟨_, rfl, .inl ⟨rfl, _, SqL.of (r5 _ _ p1)⟩, _, rfl, lo, _, rfl, .inl ⟨SqL.of r1, fun t ht => ?_⟩⟩
   have gt := z01 (H := H2) ht (.tup zs)
   have el := (r5.trans gt) _ _ p1
   refine ⟨lr, us, _, rfl, rfl, el, z0g (by omega), ?_⟩
   refine ⟨_, rows ++ [row], _, _, _, z02, ?_, ?_, fun r hr' => ?_, z3J (p5.trans (r5.trans gt)) hlr, rfl⟩
   ·rw [List.map_append]
    refine z09.over el y4Y _ _ (z09.snoc (z09.keep (r5.trans gt) _ _ p2) (z0e z02 ?_ (z09.keep gt _ _ r2)))
    rw [List.length_map]
    omega
   ·rw [List.map_append, p3, z0q es]
    exact congrArg (ss.take i ++ ·) (congrArg (fun z => [z]) r3)
   ·rcases List.mem_append.mp hr' with h | h
    ·exact p4 r h
    ·rw [List.mem_singleton.mp h]
     exact r4
 ·obtain ⟨us, rows, o1, o2, o3, p1, p2, p3, p4, p5, rfl⟩ := hp
  have er : ((xs.length : Nat) : Int).toNat = ss.length := by rw [hl0]; rfl
  rw [er, List.take_length] at p3
  exact ⟨_, rfl, q lr us rows _ nlr0 (s1.trans p5) p1 p2 p3 p4⟩
def y2l (K : PySem.W.Frag) : Sp := fun vs H Q _ => ∃ (a : Addr) (ns : List Int), vs = [.ref a] /\ SqL K H a (ns.map V.int) /\
 ∀ (l : Addr) (nm : List Str) (H' : Hp), H l = none -> Same H H' -> H' l = some (.lst (nm.map V.str)) -> 1 ≤ nm.length -> nm.length ≤ 12 -> Nms nm -> Q (.ref l) H'
theorem y4I (F : Fun K "_law_names" "_law_names" z4R f fd) (G_law_at : Cal P w K mg base 1 "_law_at" z5k (spAt K)) (G_law_pick : Cal P w K mg base 1 "_law_pick" z3h y0X)
  (G_law_named : Cal P w K mg base 1 "_law_named" z4N y3f) : FnOk P w K mg base CX0 2 f fd z56 (y2l K) := by
 have nd := z6B.nd
 refine F.ok z6B (fun vs H Q E h => ?_) (fun cdv A outer s H vs Q E hr h => ?_)
 ·obtain ⟨a, ns, rfl, _⟩ := h
  rfl
 obtain ⟨a, ns, rfl, hS, q⟩ := h
 refine ⟨_, (z05 (z0k (z0h G_law_named (rm hr) rfl (z00 (z0v z1P (z0h G_law_at (rm hr) rfl (z00 (pv 0) (z00 z08 z03))) z08) (z00 (z0v z1F z08 (z0h G_law_pick (rm hr) rfl (z00 (z0v z1a (z0h G_law_at (rm hr) rfl (z00 (pv 0) (z00 z08 z03))) z08) (z00 z08 z03)))) z03))))), ?_⟩
 refine ⟨_, rfl, a, ns, 0, rfl, hS, Int.le_refl 0, _, _, rfl, rfl, ⟨by decide, by decide⟩, ?_⟩
 refine ⟨_, rfl, a, ns, 0, rfl, hS, Int.le_refl 0, _, _, rfl, rfl, (by show (0 : Int) < 24; decide), _, _, rfl, (by decide), fun r h0 h1 => ⟨_, _, rfl, rfl, ?_⟩⟩
 exact ⟨_, _, rfl, by omega, by omega, fun l nm H' nl g e len N => q l nm H' nl g e (by omega) (by omega) N⟩
def z9h (K : PySem.W.Frag) : Sp := fun vs H Q _ => ∃ (a ln : Addr) (ns : List Int) (nm : List Str), vs = [.ref a, .ref ln] /\ SqL K H a (ns.map V.int) /\ SqL K H ln (nm.map V.str) /\ 1 ≤ nm.length /\ nm.length ≤ 12 /\
 ∀ (lr : Addr) (us : List V) (rows : List Row) (H' : Hp), H lr = none -> Same H H' -> H' lr = some (.lst us) -> z09 H' (rows.map rowD) us -> rows.length ≤ 60 -> Rws nm rows -> Q (.ref lr) H'
theorem y19 (F : Fun K "_law_numbers" "_law_numbers" z3t f fd) (G_law_at : Cal P w K mg base 1 "_law_at" z5k (spAt K)) (G_law_pick : Cal P w K mg base 1 "_law_pick" z3h y0X)
  (G_law_sets : Cal P w K mg base 2 "_law_sets" z5V (y5g K)) (G_law_valued : Cal P w K mg base 2 "_law_valued" z3W y0P) : FnOk P w K mg base CX0 3 f fd z3C (z9h K) := by
 have nd := z4I.nd
 refine F.ok z4I (fun vs H Q E h => ?_) (fun cdv A outer s H vs Q E hr h => ?_)
 ·obtain ⟨a, ln, ns, nm, rfl, _⟩ := h
  rfl
 obtain ⟨a, ln, ns, nm, rfl, hS, hN, n1, n2, q⟩ := h
 refine ⟨_, (z04 (z0p (i := 2) nd rfl (Or.inl rfl) (z0h G_law_pick (rm hr) rfl (z00 (z0h G_law_at (rm hr) rfl (z00 (pv 0) (z00 z08 z03))) (z00 z08 z03)))) (z04 (z0p (i := 3) nd rfl (Or.inl rfl) (z0h G_law_sets (rm hr) rfl (z00 (pv 1) (z00 (z0h G_law_at (rm hr) rfl (z00 (pv 0) (z00 z08 z03))) (z00 (pv 2) z03))))) (z05 (z0k (z0h G_law_valued (rm hr) rfl (z00 (pv 3) (z00 (z0h G_law_at (rm hr) rfl (z00 (pv 0) (z00 z08 z03))) z03))))))), ?_⟩
 refine ⟨_, rfl, a, ns, 1, rfl, hS, by decide, _, _, rfl, (by decide), fun r h0 h1 => ?_⟩
 refine ⟨_, rfl, _, rfl, a, ns, 2, rfl, hS, by decide, _, rfl, ln, nm, _, r, rfl, hN, n1, n2, h0, by omega, fun l xs ss H1 nl g1 e1 st len sub => ?_⟩
 refine ⟨_, rfl, _, rfl, a, ns, 3, rfl, g1.seq hS, by decide, l, xs, ss, _, rfl, e1, st, by omega, fun s hs => Nat.le_trans (sub s hs).length_le n2, fun lr us rows H2 nlr g2 e2 tl hm hv => ?_⟩
 refine q lr us rows H2 (g1.free nlr) (g1.trans g2) e2 tl ?_ ⟨fun r hr' => ?_, hv⟩
 ·have := congrArg List.length hm
  rw [List.length_map] at this
  omega
 ·have : r.map Prod.fst ∈ ss := by rw [<- hm]; exact List.mem_map_of_mem hr'
  exact sub _ this
def nmsD (s : List Str) : DV := .tup (s.map DV.str)
def dnI (hi : Int) (j : Nat) : List Int := (List.range j).map fun (k : Nat) => hi - (k : Int)
theorem y40 (hi : Int) (j : Nat) : dnI hi (j + 1) = dnI hi j ++ [hi - (j : Int)] := by
 unfold dnI
 rw [List.range_succ, List.map_append]
 rfl
theorem y01 (hi : Int) (j : Nat) : (dnI hi j).length = j := by unfold dnI; rw [List.length_map, List.length_range]
theorem z7x {hi : Int} {j : Nat} {x : Int} : x ∈ dnI hi j ↔ hi - j < x /\ x ≤ hi := by
 unfold dnI
 rw [List.mem_map]
 constructor
 ·rintro ⟨k, hk, rfl⟩
  have := List.mem_range.mp hk
  omega
 ·rintro ⟨h1, h2⟩
  exact ⟨(hi - x).toNat, List.mem_range.mpr (by omega), by omega⟩
def z0R (r : Row) : List Str := r.map Prod.fst
def z0J (rows : List Row) (n : Int) : Row := rows.getD (n - 1).toNat []
def y1C (rows : List Row) (k : Int) : DV := .tup [.int k, nmsD (z0R (z0J rows k))]
def z6a (n r : Int) : List Int := (dnI (n - 1) (n - 1).toNat).filter fun k => decide (n - k ≤ r)
def y3N (rows : List Row) (n r : Int) : DV := .tup ((z6a n r).map (y1C rows))
def z0M (rows : List Row) (n r : Int) : DV := .tup [.int n, rowD (z0J rows n), y3N rows n r]
theorem y36 {H : Hp} {rows : List Row} {us : List V} (h : z09 H (rows.map rowD) us) {k : Int} (k0 : 1 ≤ k) (k1 : k ≤ rows.length) : ∃ v, us[(k - 1).toNat]? = some v /\ atI us (k - 1) = some v /\ Tell H (rowD (z0J rows k)) v := by
 have hk : (k - 1).toNat < rows.length := by omega
 obtain ⟨v, e, t⟩ := h.get (k - 1).toNat (rowD (z0J rows k)) (by
  unfold z0J
  rw [List.getElem?_map, List.getD_eq_getElem?_getD, List.getElem?_eq_getElem hk]
  rfl)
 have ek : k - 1 = (((k - 1).toNat : Nat) : Int) := by omega
 exact ⟨v, e, by rw [ek]; exact z1d e, t⟩
theorem z59 {H : Hp} : ∀ {r : Row} {xs : List V}, z09 H (r.map z8V) xs -> ∀ (i : Nat) (x : V), xs[i]? = some x -> ∃ (p : Str × Int) (a : Addr), r[i]? = some p /\ x = .ref a /\ H a = some (.tup [.str p.1, .int p.2]) := by
 intro r xs h i x e
 obtain ⟨d, e1, t⟩ := h.at i x e
 rw [List.getElem?_map] at e1
 cases er : r[i]? with
 | none => rw [er] at e1; cases e1
 | some p =>
  rw [er] at e1
  have e2 : z8V p = d := Option.some.inj e1
  subst e2
  obtain ⟨a, ys, rfl, h1, _, h2⟩ := z0f t
  obtain ⟨y1, r1, rfl, t1, h3⟩ := z0b h2
  obtain ⟨y2, r2, rfl, t2, h4⟩ := z0b h3
  have := z0D h4
  subst this
  rw [z2M t1, z0Y t2] at h1
  exact ⟨p, a, rfl, rfl, h1⟩
structure GoodN (zs : List Str) : Prop where
 lo : 1 ≤ zs.length
 hi : zs.length ≤ 12
 nd : zs.Nodup
def SqN (K : PySem.W.Frag) (H : Hp) (p : Addr) (zs : List Str) : Prop := SqL K H p (zs.map V.str) \/ SqT K H p (zs.map V.str)
theorem SqN.keep {K : PySem.W.Frag} {H H' : Hp} {p : Addr} {zs : List Str} (h : Same H H') (x : SqN K H p zs) : SqN K H' p zs := x.imp (fun q => h.seq q) fun q => z5l h q
def z81 (K : PySem.W.Frag) : Sp := fun vs H Q _ => ∃ (p : Addr) (zs : List Str), vs = [.ref p] /\ SqN K H p zs /\ GoodN zs /\ ∀ H', Same H H' -> Q .non H'
theorem z9Q (M : Bl mg) (F : Fun K "refuse_bad_names" "refuse_bad_names" z25 f fd) : FnOk P w K mg base CX0 1 f fd z26 (z81 K) := by
 have nd := z2S.nd
 refine F.ok z2S (fun vs H Q E h => ?_) (fun cdv A outer s H vs Q E hr h => ?_)
 ·obtain ⟨p, zs, rfl, _⟩ := h
  rfl
 ·obtain ⟨p, zs, rfl, hp, g, k⟩ := h
  refine ⟨_, (z04 (z0S (z0l z8r (z0j z0a rfl M.len PySem.boot_len (z00 (pv 0) z03)) z08 (z0u _)) (z05 z1b) z0t) (z04 (z0S (z0l z4v (z0j z0a rfl M.len PySem.boot_len (z00 (pv 0) z03)) (z28 rfl M.MOST_NAMES) (z0u _)) (z05 z1b) z0t) (z05 (z0S (z0l z8K (z0j z5x rfl M.len PySem.boot_len (z00 (z0r (z4z rfl) rfl M.set PyProof.Rows.boot_set (z00 (pv 0) z03)) z03)) (z0j z0a rfl M.len PySem.boot_len (z00 (pv 0) z03)) (z0u _)) (z05 z1b) z0t)))), ?_⟩
  have := g.lo
  have := g.hi
  have el : (zs.map V.str).length = zs.length := List.length_map _
  refine ⟨_, rfl, p, _, rfl, hp, _, _, rfl, rfl, _, rfl, ite2 (fun q => absurd (z0H q) (by omega)) fun _ => ?_⟩
  refine ⟨_, rfl, p, _, rfl, hp, _, _, rfl, rfl, _, rfl, ite2 (fun q => absurd (z0H q) (by omega)) fun _ => ?_⟩
  refine ⟨_, rfl, p, zs, rfl, hp, by omega, fun l hl => ⟨l, zs, rfl, z02, by omega, _, rfl, p, zs.map V.str, rfl, SqN.keep (z01 hl _) hp, rfl, _, rfl, ?_⟩⟩
  refine y6z ?_ (k _ (z01 hl _))
  rw [y2o g.nd, el]
def z8m : Sp := fun vs H Q _ => ∃ r : Int, vs = [.int r] /\ 0 ≤ r /\ r ≤ 10 /\ Q .non H
theorem y0g (M : Bl mg) (F : Fun K "refuse_bad_reach" "refuse_bad_reach" z27 f fd) : FnOk P w K mg base CX0 1 f fd z2b z8m := by
 have nd := z2O.nd
 refine F.ok z2O (fun vs H Q E h => ?_) (fun cdv A outer s H vs Q E hr h => ?_)
 ·obtain ⟨r, rfl, _⟩ := h
  rfl
 ·obtain ⟨r, rfl, r0, r1, k⟩ := h
  refine ⟨_, (z05 (z0S (PW.pt (z7E (z0l z8r (pv 0) z08 (z0u _)) (z41 (z0l z4v (pv 0) (z28 rfl M.MOST_REACH) (z0u _))))) (z05 z1b) z0t)), ?_⟩
  refine ⟨_, rfl, _, _, rfl, rfl, _, rfl, ite2 (fun q => absurd (z0H q) (by omega)) fun _ => ?_⟩
  exact ⟨_, rfl, _, _, rfl, rfl, _, rfl, ite2 (fun q => absurd (z0H q) (by omega)) fun _ => k⟩
def HdN (K : PySem.W.Frag) (H : Hp) (p : Addr) (zs : List Str) : Prop := SqL K H p (zs.map V.str) \/ H p = some (.tup (zs.map V.str))
theorem HdN.sq {K : PySem.W.Frag} {H : Hp} {p : Addr} {zs : List Str} (h : HdN K H p zs) : SqN K H p zs := h.imp id SqT.of
theorem HdN.keep {K : PySem.W.Frag} {H H' : Hp} {p : Addr} {zs : List Str} (s : Same H H') (h : HdN K H p zs) : HdN K H' p zs := h.imp (fun q => s.seq q) fun q => s _ _ q
def z5Z (K : PySem.W.Frag) : Sp := fun vs H Q _ => ∃ (p : Addr) (zs : List Str) (r : Int), vs = [.ref p, .int r] /\ HdN K H p zs /\ GoodN zs /\ 0 ≤ r /\ r ≤ 10 /\ ∀ (l : Addr) (H' : Hp), Same H H' -> H' l = some (.tup (zs.map V.str)) -> Q (.ref l) H'
theorem z9W (M : Bl mg) (F : Fun K "bulletin_names" "bulletin_names" z2z f fd) (Grefuse_bad_names : Cal P w K mg base 1 "refuse_bad_names" z26 (z81 K)) (Grefuse_bad_reach : Cal P w K mg base 1 "refuse_bad_reach" z2b z8m) :
  FnOk P w K mg base CX0 2 f fd z1U (z5Z K) := by
 have nd := z3K.nd
 refine F.ok z3K (fun vs H Q E h => ?_) (fun cdv A outer s H vs Q E hr h => ?_)
 ·obtain ⟨p, zs, r, rfl, _⟩ := h
  rfl
 ·obtain ⟨p, zs, r, rfl, hp, g, r0, r1, k⟩ := h
  refine ⟨_, (z04 (z0B (z0h Grefuse_bad_names (rm hr) rfl (z00 (pv 0) z03))) (z04 (z0B (z0h Grefuse_bad_reach (rm hr) rfl (z00 (pv 1) z03))) (z05 (z0k (z0r z0o rfl M.tuple PyProof.Rows.boot_tuple (z00 (pv 0) z03)))))), ?_⟩
  refine ⟨_, rfl, p, zs, rfl, hp.sq, g, fun H1 s1 => ⟨_, rfl, r, rfl, r0, r1, _, rfl, p, zs.map V.str, rfl, ?_⟩⟩
  rcases hp.keep s1 with hq | hq
  ·exact .inl ⟨hq, fun l hl => k l _ (s1.trans (z01 hl _)) z02⟩
  ·exact .inr ⟨SqT.of hq, k p _ s1 hq⟩
def z0s (fp : List Addr) (H H' : Hp) : Prop := ∀ b o, H b = some o -> b ∉ fp -> H' b = some o
theorem z0s.of {fp : List Addr} {H H' : Hp} (h : Same H H') : z0s fp H H' := fun b o e _ => h b o e
theorem z0s.then {fp : List Addr} {H H1 H2 : Hp} (h : z0s fp H H1) (g : Same H1 H2) : z0s fp H H2 := fun b o e n => g b o (h b o e n)
def z54 (H : Hp) (fp : List Addr) : Prop := ∀ b ∈ fp, ∀ xs, H b ≠ some (.tup xs)
mutual
theorem Tell.but {fp : List Addr} {H H' : Hp} (s : z0s fp H H') (n : z54 H fp) : ∀ (d : DV) (x : V), Tell H d x -> Tell H' d x
 | .non, _, h => by unfold Tell at h ⊢; exact h
 | .bl _, _, h => by unfold Tell at h ⊢; exact h
 | .int _, _, h => by unfold Tell at h ⊢; exact h
 | .str _, _, h => by unfold Tell at h ⊢; exact h
 | .tup ds, _, h => by
  unfold Tell at h ⊢
  obtain ⟨a, xs, e, h1, h2, h3⟩ := h
  exact ⟨a, xs, e, s _ _ h1 (fun m => n a m xs h1), h2, z09.but s n ds xs h3⟩
theorem z09.but {fp : List Addr} {H H' : Hp} (s : z0s fp H H') (n : z54 H fp) : ∀ (ds : List DV) (xs : List V), z09 H ds xs -> z09 H' ds xs
 | [], _, h => by unfold z09 at h ⊢; exact h
 | d :: ds, _, h => by
  unfold z09 at h ⊢
  obtain ⟨x, r, e, h1, h2⟩ := h
  exact ⟨x, r, e, Tell.but s n d x h1, z09.but s n ds r h2⟩
end
theorem z9w {H : Hp} {x dx b : Addr} {o u v : HO} (nx : H x = none) (ndx : H dx = none) (h : H b = some o) : upd (upd H dx u) x v b = some o := by
 rw [z0d (z0i h nx), z0d (z0i h ndx)]
 exact h
theorem z7c {H H1 : Hp} {C x dx : Addr} (s : Same H H1) (nx : H1 x = none) (ndx : H1 dx = none) : Same H (upd (upd H1 dx (.own x)) x (.ins C dx [])) := fun _ _ e => z9w nx ndx (s _ _ e)
theorem z7I {H H1 H2 : Hp} {x : Addr} (b : z0s [x] H1 H2) (m : Same H H1) (nx : H x = none) : Same H H2 := fun c o e => b c o (m c o e) (by
 rw [List.mem_singleton]
 exact z0i e nx)
theorem z63 {H H1 : Hp} {x dx b : Addr} (m : Same H H1) (nx : H x = none) (ndx : H dx = none) (h : b = x \/ b = dx \/ H1 b = none) : H b = none := by
 rcases h with rfl | rfl | h
 ·exact nx
 ·exact ndx
 ·exact m.free h
theorem y37 {fp fp' fp2 : List Addr} {H7 H' GW : Hp} (bt : z0s fp H7 H') (ff : ∀ b ∈ fp', b ∈ fp \/ H7 b = none) (gW : Same H' GW) (hf2 : ∀ b ∈ fp2, b ∈ fp' \/ GW b = none) : ∀ b ∈ fp2, b ∈ fp \/ H7 b = none := fun b m => (hf2 b m).elim (ff b) fun z => by
 cases e : H7 b with
 | none => exact .inr rfl
 | some o =>
  by_cases nb : b ∈ fp
  ·exact .inl nb
  ·rw [gW _ _ (bt b o e nb)] at z
   cases z
def z07 (had : List Int) : List Int := (upI 1 60).filter fun x => decide (x ∈ had)
def topL (had : List Int) : Int := (z07 had).getLastD 0
def addN (had : List Int) (n : Int) : List Int := if n ∈ had then had else had ++ [n]
theorem y0K {had : List Int} {n x : Int} : x ∈ addN had n ↔ x ∈ had \/ x = n := by
 unfold addN
 by_cases h : n ∈ had
 ·rw [if_pos h]
  exact ⟨.inl, fun q => q.elim id fun e => e ▸ h⟩
 ·rw [if_neg h, List.mem_append, List.mem_singleton]
theorem z0K {had : List Int} {x : Int} : x ∈ z07 had ↔ (1 ≤ x /\ x < 1 + 60) /\ x ∈ had := by
 unfold z07
 rw [List.mem_filter, z0P, decide_eq_true_eq]
 rfl
theorem z1Q (had : List Int) : (z07 had).Pairwise (· < ·) := (z1A 1 60).filter _
theorem z2I (had : List Int) : (z07 had).length ≤ 60 := by
 have h := List.length_filter_le (fun x => decide (x ∈ had)) (upI 1 60)
 rw [z0E] at h
 exact h
theorem y34 {ns ms : List Int} (nd : ns.Nodup) (hall : ∀ x ∈ ns, 1 ≤ x /\ x ≤ 60) (hp : ms.Perm ns) (hs : ms.Pairwise (· ≤ ·)) : ms = z07 ns := by
 have n2 : ms.Nodup := hp.nodup_iff.mpr nd
 have lt : ms.Pairwise (· < ·) := by
  have := List.pairwise_and_iff.mpr ⟨hs, n2⟩
  exact this.imp fun h => by
   have := h.1
   have := h.2
   omega
 refine z2e lt (z1Q _) fun x => ?_
 rw [z0K, hp.mem_iff]
 exact ⟨fun h => ⟨by have := hall x h; omega, h⟩, fun h => h.2⟩
abbrev ShP := Hp -> Addr -> List Addr -> List Str -> Int -> (Int -> DV) -> List Int -> Prop
structure ShOk (C : Addr) (ms : List Str) (Sh : ShP) : Prop where
 ins : ∀ {H p fp zs r iss had}, Sh H p fp zs r iss had -> ∃ dx fs, H p = some (.ins C dx fs) /\ ∀ m ∈ ms, fs.lookup m = none
 own : ∀ {H p fp zs r iss had}, Sh H p fp zs r iss had -> ∀ b ∈ fp, ∃ o, H b = some o /\ ∀ xs, o ≠ .tup xs
 keep : ∀ {H H' p fp gp zs r iss had}, Sh H p fp zs r iss had -> z0s gp H H' -> (∀ b ∈ gp, b ∉ fp) -> z54 H gp -> Sh H' p fp zs r iss had
theorem ShOk.same {C : Addr} {ms : List Str} {Sh : ShP} (O : ShOk C ms Sh) {H H' : Hp} {p : Addr} {fp : List Addr} {zs : List Str} {r : Int} {iss : Int -> DV} {had : List Int} (h : Sh H p fp zs r iss had) (s : Same H H') : Sh H' p fp zs r iss had :=
 O.keep (gp := []) h (.of s) (fun _ q => by cases q) fun _ q => by cases q
theorem ShOk.noTup {C : Addr} {ms : List Str} {Sh : ShP} (O : ShOk C ms Sh) {H : Hp} {p : Addr} {fp : List Addr} {zs : List Str} {r : Int} {iss : Int -> DV} {had : List Int} (h : Sh H p fp zs r iss had) : z54 H fp := fun b m xs e => by
 obtain ⟨o, e1, n⟩ := O.own h b m
 rw [e1] at e
 exact n xs (Option.some.inj e)
def y0Y (K : PySem.W.Frag) (C : Addr) (Sh : ShP) : Sp := fun vs H Q _ => ∃ (x dx pn : Addr) (zs : List Str) (r : Int), vs = [.ref x, .ref pn, .int r] /\ H x = some (.ins C dx []) /\ dx ≠ x /\ H dx = some (.own x) /\ HdN K H pn zs /\ GoodN zs /\ 0 ≤ r /\ r ≤ 10 /\
 ∀ (fp : List Addr) (H' : Hp), (∀ b ∈ fp, b = x \/ b = dx \/ H b = none) -> z0s [x] H H' -> (∀ iss, Sh H' x fp zs r iss []) -> Q .non H'
def y6K (Sh : ShP) : Sp := fun vs H Q _ => ∃ (p : Addr) (v : V) (fp : List Addr) (zs : List Str) (r : Int) (iss : Int -> DV) (had : List Int) (n : Int) (ds : List DV), vs = [.ref p, v] /\ Sh H p fp zs r iss had /\ Tell H (iss n) v /\ iss n = .tup (.int n :: ds) /\ 1 ≤ n /\ n ≤ 60 /\
 ∀ (fp' : List Addr) (H' : Hp), (∀ b ∈ fp', b ∈ fp \/ H b = none) -> z0s fp H H' -> Sh H' p fp' zs r iss (addN had n) -> Q (.bl (decide (n ∉ had))) H'
def z3b (Sh : ShP) : Sp := fun vs H Q _ => ∃ (p : Addr) (fp : List Addr) (zs : List Str) (r : Int) (iss : Int -> DV) (had : List Int), vs = [.ref p] /\ Sh H p fp zs r iss had /\
 ∀ (l : Addr) (H' : Hp), Same H H' -> H' l = some (.tup ((z07 had).map V.int)) -> Q (.ref l) H'
def y1s (Sh : ShP) : Sp := fun vs H Q _ => ∃ (p : Addr) (fp : List Addr) (zs : List Str) (r : Int) (iss : Int -> DV) (had : List Int), vs = [.ref p] /\ Sh H p fp zs r iss had /\ ∀ H', Same H H' -> Q (.int (topL had)) H'
def ShD (K : PySem.W.Frag) (C : Addr) : ShP := fun H p fp zs r iss had => ∃ (dx pn pd : Addr) (fs : List (Str × V)) (kvs : List (Key × V)), fp = [p, dx, pd] /\ H p = some (.ins C dx fs) /\ H dx = some (.own p) /\ H pn = some (.tup (zs.map V.str)) /\ H pd = some (.dK kvs) /\
 fs.lookup ("names" : Str) = some (V.ref pn) /\ fs.lookup ("reach" : Str) = some (V.int r) /\ fs.lookup ("issues" : Str) = some (V.ref pd) /\ (∀ m ∈ (["put", "had", "latest", "rows_of", "tail_of"] : List Str), fs.lookup m = none) /\
 kvs.map (·.1) = had.map Sum.inl /\ had.Nodup /\ (∀ n ∈ had, 1 ≤ n /\ n ≤ 60) /\ (∀ n v, (Sum.inl n, v) ∈ kvs -> Tell H (iss n) v) /\ GoodN zs /\ 0 ≤ r /\ r ≤ 10
theorem ShD.ins {K : PySem.W.Frag} {C : Addr} {H : Hp} {p : Addr} {fp : List Addr} {zs : List Str} {r : Int} {iss : Int -> DV} {had : List Int} (h : ShD K C H p fp zs r iss had) : ∃ dx fs, H p = some (.ins C dx fs) /\ ∀ m ∈ (["put", "had", "latest", "rows_of", "tail_of"] : List Str), fs.lookup m = none := by
 obtain ⟨dx, pn, pd, fs, kvs, e, h1, h2, h3, h4, l1, l2, l3, lm, _⟩ := h
 exact ⟨dx, fs, h1, lm⟩
theorem shOk {K : PySem.W.Frag} {C : Addr} : ShOk C ["put", "had", "latest"] (ShD K C) := by
 refine ⟨fun h => ?_, fun h b hb => ?_, fun h s out nt => ?_⟩
 ·obtain ⟨dx, fs, h1, lm⟩ := ShD.ins h
  refine ⟨dx, fs, h1, fun m hm => lm m ?_⟩
  simp only [List.mem_cons, List.not_mem_nil, or_false] at hm ⊢
  rcases hm with h | h | h <;> simp [h]
 ·obtain ⟨dx, pn, pd, fs, kvs, rfl, h1, h2, h3, h4, _⟩ := h
  rcases List.mem_cons.mp hb with rfl | hb
  ·exact ⟨_, h1, fun xs z => by cases z⟩
  rcases List.mem_cons.mp hb with rfl | hb
  ·exact ⟨_, h2, fun xs z => by cases z⟩
  rw [List.mem_singleton.mp hb]
  exact ⟨_, h4, fun xs z => by cases z⟩
 ·obtain ⟨dx, pn, pd, fs, kvs, rfl, h1, h2, h3, h4, l1, l2, l3, lm, kk, nd, all, tl, g⟩ := h
  exact ⟨dx, pn, pd, fs, kvs, rfl, s _ _ h1 (fun m => out _ m (by simp)), s _ _ h2 (fun m => out _ m (by simp)), s _ _ h3 (fun m => nt _ m _ h3), s _ _ h4 (fun m => out _ m (by simp)), l1, l2, l3, lm, kk, nd, all, fun n v hv => Tell.but s nt _ _ (tl n v hv), g⟩
theorem y2A {CShelf : Addr} (M : Bl mg) (T : TxShelf K mg CShelf) (F : Fun K "__init__" "Shelf.__init__" z2x f fd) (Gbulletin_names : Cal P w K mg base 2 "bulletin_names" z1U (z5Z K)) :
  FnOk P w K mg base CX0 3 f fd z2D (y0Y K CShelf (ShD K CShelf)) := by
 have nd := z3O.nd
 refine F.ok z3O (fun vs H Q E h => ?_) (fun cdv A outer s H vs Q E hr h => ?_)
 ·obtain ⟨x, dx, pn, zs, r, rfl, _⟩ := h
  rfl
 obtain ⟨x, dx, pn, zs, r, rfl, hx, ne, hdx, hn, g, r0, r1, k⟩ := h
 refine ⟨_, (z04 (z5G (pv 0) (z0h Gbulletin_names (rm hr) rfl (z00 (pv 1) (z00 (pv 2) z03))) rfl) (z04 (z5G (pv 0) (pv 2) rfl) (z05 (z5G (pv 0) y0F rfl)))), ?_⟩
 refine ⟨_, rfl, _, rfl, pn, zs, r, rfl, hn, g, r0, r1, fun l H1 s1 e1 => ?_⟩
 refine ⟨_, rfl, x, CShelf, dx, [], rfl, s1 _ _ hx, T.cl, T.n_names, by decide, ?_⟩
 have z1 := z1t "names" (.ref l) []
 have z2 := z1t "reach" (.int r) (putF "names" (.ref l) [])
 have z0 : ([] : List (Str × V)).length = 0 := rfl
 refine ⟨_, rfl, _, rfl, x, CShelf, dx, _, rfl, z02, T.cl, T.n_reach, (by omega), ?_⟩
 rw [z4U]
 intro pd hd
 have nx : x ≠ pd := z0i z02 hd
 have ndd : dx ≠ pd := z0i (show upd H1 x _ dx = some _ by rw [z0d ne]; exact s1 _ _ hdx) hd
 have nl : l ≠ x := z4t e1 (s1 _ _ hx) (fun z => by cases z)
 have nlp : l ≠ pd := z0i (show upd H1 x _ l = some _ by rw [z0d nl]; exact e1) hd
 have dfr : H1 pd = none := by rw [z0d (Ne.symm nx)] at hd; exact hd
 refine ⟨_, rfl, x, CShelf, dx, _, rfl, (by rw [z0d nx, z02]), T.cl, T.n_issues, (by omega), ?_⟩
 refine k [x, dx, pd] _ (fun b hb => ?_) (fun b o e nb => ?_) (fun iss => ⟨dx, l, pd, _, [], rfl, z02, ?_, ?_, ?_, ?_, ?_, ?_, ?_, rfl, .nil, fun _ q => (nomatch q), fun _ _ q => (nomatch q), g, r0, r1⟩)
 ·simp only [List.mem_cons, List.not_mem_nil, or_false] at hb
  rcases hb with rfl | rfl | rfl
  ·exact .inl rfl
  ·exact .inr (.inl rfl)
  ·exact .inr (.inr (s1.free dfr))
 ·rw [List.mem_singleton] at nb
  rw [z0d nb, z0d (z0i e (s1.free dfr)), z0d nb]
  exact s1 _ _ e
 ·rw [z0d ne, z0d ndd, z0d ne]
  exact s1 _ _ hdx
 ·rw [z0d nl, z0d nlp, z0d nl]
  exact e1
 ·rw [z0d (Ne.symm nx), z02]
 ·rw [z0n, if_neg (by decide +kernel), z0n, if_neg (by decide +kernel), z0n, if_pos rfl]
 ·rw [z0n, if_neg (by decide +kernel), z0n, if_pos rfl]
 ·rw [z0n, if_pos rfl]
 ·intro m hm
  simp only [List.mem_cons, List.not_mem_nil, or_false] at hm
  rcases hm with rfl | rfl | rfl | rfl | rfl <;> rw [z0n, if_neg (by decide +kernel), z0n, if_neg (by decide +kernel), z0n, if_neg (by decide +kernel)] <;> rfl
theorem y6m {α : Type} [DecidableEq α] : ∀ {l1 l2 : List α}, l1.Nodup -> (∀ x ∈ l1, x ∈ l2) -> l1.length ≤ l2.length
 | [], _, _, _ => Nat.zero_le _
 | x :: r, l2, nd, sub => by
  rw [List.nodup_cons] at nd
  have hx := sub x List.mem_cons_self
  have := y6m (l1 := r) (l2 := l2.erase x) nd.2 fun y hy => (List.mem_erase_of_ne (fun (e : y = x) => nd.1 (e ▸ hy))).mpr (sub y (List.mem_cons_of_mem _ hy))
  rw [List.length_erase_of_mem hx] at this
  have h0 := List.length_pos_of_mem hx
  rw [List.length_cons]
  omega
theorem y03 {had : List Int} (nd : had.Nodup) (all : ∀ n ∈ had, 1 ≤ n /\ n ≤ 60) : had.length ≤ 60 := by
 have h := y6m (l2 := upI 1 60) nd fun n hn => z0P.mpr (by have := all n hn; omega)
 rw [z0E] at h
 exact h
theorem z8C {kvs : List (Key × V)} {had : List Int} (kk : kvs.map (·.1) = had.map Sum.inl) (n : Int) : (valV kvs (Sum.inl n)).isSome = decide (n ∈ had) := by
 rw [<- z6N]
 have e : (kvs.any fun kv => decide (kv.1 = Sum.inl n)) = (kvs.map (·.1)).any fun k => decide (k = Sum.inl n) := by rw [List.any_map]; rfl
 rw [e, kk, List.any_map]
 by_cases h : n ∈ had
 ·rw [decide_eq_true h, List.any_eq_true]
  exact ⟨n, h, decide_eq_true rfl⟩
 ·rw [decide_eq_false h, List.any_eq_false]
  intro m hm z
  have e := of_decide_eq_true z
  cases e
  exact h hm
theorem y6j {CShelf : Addr} (M : Bl mg) (T : TxShelf K mg CShelf) (F : Fun K "put" "Shelf.put" z5W f fd) : FnOk P w K mg base CX0 1 f fd z62 (y6K (ShD K CShelf)) := by
 have nd := z7f.nd
 refine F.ok z7f (fun vs H Q E h => ?_) (fun cdv A outer s H vs Q E hr h => ?_)
 ·obtain ⟨p, v, fp, zs, r, iss, had, n, ds, rfl, _⟩ := h
  rfl
 obtain ⟨p, v, fp, zs, r, iss, had, n, ds, rfl, sh, tv, en, n1, n2, k⟩ := h
 have hu := z9L hr
 refine ⟨_, (z04 (z0p (i := 2) nd rfl (Or.inl rfl) (z1q z22 (pv 1) z08 (fun _ _ => rfl))) (z04 (z0S (z6q (y3t hu (pv 2) (z0A (pv 0) rfl))) (z05 (z0k z4Z)) z0t) (z04 (y04 hu (z0A (pv 0) rfl) (pv 2) (pv 1) rfl) (z05 (z0k z4Z))))), ?_⟩
 obtain ⟨dx, pn, pd, fs, kvs, rfl, h1, h2, h3, h4, l1, l2, l3, lm, kk, ndh, all, tl, g, r0, r1⟩ := sh
 rw [en] at tv
 obtain ⟨a, us, rfl, ea, _, tu⟩ := z0f tv
 obtain ⟨x0, ur, rfl, t0, _⟩ := z0b tu
 cases z0Y t0
 refine ⟨_, rfl, a, _, _, _, rfl, rfl, SqT.of ea, z1d rfl, ?_⟩
 refine ⟨_, rfl, _, rfl, p, CShelf, dx, fs, _, rfl, h1, T.cl, T.n_issues, l3, pd, _, rfl, DGet.k (k := Sum.inl n) h4, ?_⟩
 refine ⟨_, rfl, ?_⟩
 rw [z8C kk]
 have fr : ∀ b ∈ [p, dx, pd], ∃ o, H b = some o := fun b hb => by
  simp only [List.mem_cons, List.not_mem_nil, or_false] at hb
  rcases hb with rfl | rfl | rfl
  ·exact ⟨_, h1⟩
  ·exact ⟨_, h2⟩
  ·exact ⟨_, h4⟩
 refine ite2 (fun c => ?_) (fun c => ?_)
 ·have c' := z0H c
  have e := k [p, dx, pd] H (fun b hb => .inl hb) (fun b o e _ => e) ⟨dx, pn, pd, fs, kvs, rfl, h1, h2, h3, h4, l1, l2, l3, lm, by unfold addN; rw [if_pos c']; exact kk, by unfold addN; rw [if_pos c']; exact ndh, fun m hm => ?_, tl, g, r0, r1⟩
  ·rw [decide_eq_false (fun z => z c')] at e
   exact e
  ·unfold addN at hm
   rw [if_pos c'] at hm
   exact all m hm
 ·have c' := z6z c
  have lk : kvs.length ≤ 60 := by
   have e2 := congrArg List.length kk
   rw [List.length_map, List.length_map] at e2
   have := y03 ndh all
   omega
  have en' : valV kvs (Sum.inl n : Key) = none := by
   have := z8C kk n
   rw [decide_eq_false c'] at this
   cases e : valV kvs (Sum.inl n : Key) with
   | none => rfl
   | some v => rw [e] at this; cases this
  refine ⟨_, rfl, _, rfl, p, CShelf, dx, fs, _, rfl, h1, T.cl, T.n_issues, l3, _, rfl, pd, _, rfl, DPut.k (k := Sum.inl n) h4 (z0g (by omega)), ?_⟩
  rw [y0N _ en']
  have np : p ≠ pd := z4t h1 h4 (fun z => by cases z)
  have nx : dx ≠ pd := z4t h2 h4 (fun z => by cases z)
  have nn : pn ≠ pd := z4t h3 h4 (fun z => by cases z)
  have e := k [p, dx, pd] (upd H pd (.dK (kvs ++ [(Sum.inl n, .ref a)]))) (fun b hb => .inl hb) (fun b o e nb => by rw [z0d (fun z => nb (by rw [z]; simp))]; exact e)
   ⟨dx, pn, pd, fs, _, rfl, by rw [z0d np]; exact h1, by rw [z0d nx]; exact h2, by rw [z0d nn]; exact h3, z02, l1, l2, l3, lm, ?_, ?_, fun m hm => ?_, fun m v hv => ?_, g, r0, r1⟩
  ·rw [decide_eq_true c'] at e
   exact e
  ·unfold addN
   rw [if_neg c', List.map_append, List.map_append, kk]
   rfl
  ·unfold addN
   rw [if_neg c', List.nodup_append]
   exact ⟨ndh, by simp, fun x hx y hy z => by rw [List.mem_singleton] at hy; subst hy; subst z; exact c' hx⟩
  ·rcases y0K.mp hm with h | rfl
   ·exact all m h
   ·omega
  ·refine Tell.over h4 (fun _ z => by cases z) _ _ ?_
   rcases List.mem_append.mp hv with h | h
   ·exact tl m v h
   ·rw [List.mem_singleton] at h
    cases h
    rw [en]
    exact tv
theorem y3Q {CShelf : Addr} (M : Bl mg) (T : TxShelf K mg CShelf) (F : Fun K "had" "Shelf.had" z5J f fd) : FnOk P w K mg base CX0 1 f fd z16 (z3b (ShD K CShelf)) := by
 have nd := z7o.nd
 refine F.ok z7o (fun vs H Q E h => ?_) (fun cdv A outer s H vs Q E hr h => ?_)
 ·obtain ⟨p, fp, zs, r, iss, had, rfl, _⟩ := h
  rfl
 obtain ⟨p, fp, zs, r, iss, had, rfl, sh, k⟩ := h
 refine ⟨_, (z05 (z0k (z0r z0o rfl M.tuple PyProof.Rows.boot_tuple (z00 (z0j (z3M rfl) rfl M.sorted PyProof.Rows.boot_sorted (z00 (z0A (pv 0) rfl) z03)) z03)))), ?_⟩
 obtain ⟨dx, pn, pd, fs, kvs, rfl, h1, h2, h3, h4, l1, l2, l3, lm, kk, ndh, all, tl, g, r0, r1⟩ := sh
 refine ⟨_, rfl, p, CShelf, dx, fs, _, rfl, h1, T.cl, T.n_issues, l3, pd, kvs, had, rfl, h4, kk, Nat.lt_of_le_of_lt (y03 ndh all) (by decide), fun l ms hl hp hs => ?_⟩
 rw [y34 ndh all hp hs]
 exact ⟨l, _, rfl, .inl ⟨SqL.of z02, fun t ht => k t _ ((z01 hl _).trans (z01 ht _)) z02⟩⟩
theorem y4i {had : List Int} {m : Int} (hm : m ∈ z07 had) (hb : ∀ y ∈ z07 had, y ≤ m) : m = topL had := by
 unfold topL
 have ne : z07 had ≠ [] := fun z => by rw [z] at hm; cases hm
 have e : (z07 had).getLastD 0 = (z07 had).getLast ne := by rw [List.getLastD_eq_getLast?, List.getLast?_eq_some_getLast ne] <;> rfl
 rw [e]
 have h1 := hb _ (List.getLast_mem ne)
 have d : z07 had = (z07 had).dropLast ++ [(z07 had).getLast ne] := (List.dropLast_concat_getLast ne).symm
 have rs := z1Q had
 rw [d] at hm rs
 rcases List.mem_append.mp hm with h | h
 ·have := (List.pairwise_append.mp rs).2.2 m h _ (List.mem_singleton.mpr rfl)
  omega
 ·exact List.mem_singleton.mp h
theorem y29 {CShelf : Addr} (M : Bl mg) (T : TxShelf K mg CShelf) (F : Fun K "latest" "Shelf.latest" z3F f fd) (GShelf_had : MCal P w K mg base 1 CShelf "had" z16 (z3b (ShD K CShelf))) : FnOk P w K mg base CX0 2 f fd z5d (y1s (ShD K CShelf)) := by
 have nd := z4G.nd
 refine F.ok z4G (fun vs H Q E h => ?_) (fun cdv A outer s H vs Q E hr h => ?_)
 ·obtain ⟨p, fp, zs, r, iss, had, rfl, _⟩ := h
  rfl
 obtain ⟨p, fp, zs, r, iss, had, rfl, sh, k⟩ := h
 refine ⟨_, (z05 (z0k (y1O rfl rfl M.max (z00 (z1I GShelf_had (rm hr) (pv 0)) z03) (z8P z08 y0I)))), ?_⟩
 obtain ⟨dx, fs, h1, lm⟩ := shOk.ins sh
 refine ⟨_, rfl, p, dx, fs, rfl, h1, lm _ (by simp), p, fp, zs, r, iss, had, rfl, sh, fun l H1 s1 e1 => ?_⟩
 refine ⟨l, z07 had, _, rfl, rfl, .inr (SqT.of e1), fun z => ?_, fun m hm hb => ?_⟩
 ·have e : topL had = 0 := by unfold topL; rw [z]; rfl
  have := k H1 s1
  rw [e] at this
  exact this
 ·rw [y4i hm hb]
  exact k H1 s1
def gapD (ns : List Int) (rows : List Row) (r n : Int) : DV := .tup [.int n, .int (z1y ns n r), if z1y ns n r = 0 then .tup [] else nmsD (z0R (z0J rows n))]
def z7P (ns : List Int) (rows : List Row) (r : Int) : List DV := (z19 ns).map (gapD ns rows r)
def valL (w : Row) (z : Str) : Option Int := w.foldl (fun acc p => if p.1 = z then some p.2 else acc) none
theorem z9i (w : Row) (p : Str × Int) (z : Str) : valL (w ++ [p]) z = if p.1 = z then some p.2 else valL w z := by
 unfold valL
 rw [List.foldl_append]
 rfl
def z0I (ms : List Int) (rows : List Row) (z : Str) : Option (Int × Int) := ms.foldl (fun acc n => match valL (z0J rows n) z with | some v => some (n, v) | none => acc) none
theorem y1K (ms : List Int) (n : Int) (rows : List Row) (z : Str) : z0I (ms ++ [n]) rows z = match valL (z0J rows n) z with | some v => some (n, v) | none => z0I ms rows z := by
 unfold z0I
 rw [List.foldl_append]
 rfl
def y38 : Option (Int × Int) -> DV
 | some (n, v) => .tup [.int n, .int v]
 | none => .tup [.int 0, .non]
def z15 (o : Option (Int × Int)) : Int := (o.map Prod.fst).getD 0
def y4k : Option (Int × Int) -> DV
 | some (_, v) => .int v
 | none => .non
theorem z3r {H : Hp} {o : Option (Int × Int)} {v : V} (h : Tell H (y38 o) v) : ∃ (a : Addr) (y : V), v = .ref a /\ H a = some (.tup [.int (z15 o), y]) /\ Tell H (y4k o) y := by
 cases o with
 | none =>
  obtain ⟨a, xs, rfl, ha, _, ta⟩ := z0f (show Tell H (.tup [.int 0, .non]) v from h)
  obtain ⟨y1, r1, rfl, t1, h3⟩ := z0b ta
  obtain ⟨y2, r2, rfl, t2, h4⟩ := z0b h3
  have := z0D h4
  subst this
  rw [z0Y t1] at ha
  exact ⟨a, y2, rfl, ha, t2⟩
 | some p =>
  obtain ⟨n, x⟩ := p
  obtain ⟨a, xs, rfl, ha, _, ta⟩ := z0f (show Tell H (.tup [.int n, .int x]) v from h)
  obtain ⟨y1, r1, rfl, t1, h3⟩ := z0b ta
  obtain ⟨y2, r2, rfl, t2, h4⟩ := z0b h3
  have := z0D h4
  subst this
  rw [z0Y t1] at ha
  exact ⟨a, y2, rfl, ha, t2⟩
theorem y49 (x : Str) (ns : List Str) : inV (.str x) (ns.map V.str) = decide (x ∈ ns) := by
 unfold inV
 rw [Bool.eq_iff_iff, List.any_map, List.any_eq_true, decide_eq_true_eq]
 constructor
 ·rintro ⟨y, hy, e⟩
  have : y = x := by simpa [eqV] using e
  exact this ▸ hy
 ·intro h
  exact ⟨x, h, by simp [eqV]⟩
def z3L (ns : List Int) (rows : List Row) (r n : Int) : List Str := if z1y ns n r = 0 then [] else z0R (z0J rows n)
theorem y5P (ns : List Int) (rows : List Row) (r n : Int) : gapD ns rows r n = .tup [.int n, .int (z1y ns n r), nmsD (z3L ns rows r n)] := by
 unfold gapD z3L
 by_cases h : z1y ns n r = 0
 ·rw [if_pos h, if_pos h]
  rfl
 ·rw [if_neg h, if_neg h]
def z96 (ns : List Int) (rows : List Row) (r num : Int) (z : Str) : List Int := (z19 ns).filter fun n => decide (num < n) && decide (z ∈ z3L ns rows r n)
def y4P (ns : List Int) (rows : List Row) (r num : Int) (z : Str) : DV := .tup ((z96 ns rows r num z).map fun n => .tup [.int n, .int (z1y ns n r)])
theorem y1k (ns : List Int) (rows : List Row) (r num : Int) (z : Str) : (z96 ns rows r num z).length ≤ 60 := Nat.le_trans (List.length_filter_le _ _) (z3g ns)
theorem z9D {H : Hp} {ns : List Int} {rows : List Row} {r : Int} {zs : List V} (h : z09 H (z7P ns rows r) zs) {i : Nat} {x : V} (e : zs[i]? = some x) :
  ∃ (n : Int) (a b : Addr), (z19 ns)[i]? = some n /\ x = .ref a /\ H a = some (.tup [.int n, .int (z1y ns n r), .ref b]) /\ H b = some (.tup ((z3L ns rows r n).map V.str)) := by
 obtain ⟨d, e1, t⟩ := h.at i x e
 unfold z7P at e1
 rw [List.getElem?_map] at e1
 cases er : (z19 ns)[i]? with
 | none => rw [er] at e1; cases e1
 | some n =>
  rw [er] at e1
  have e2 : gapD ns rows r n = d := Option.some.inj e1
  rw [y5P] at e2
  subst e2
  obtain ⟨a, ys, rfl, h1, _, h2⟩ := z0f t
  obtain ⟨y1, r1, rfl, t1, h3⟩ := z0b h2
  obtain ⟨y2, r2, rfl, t2, h4⟩ := z0b h3
  obtain ⟨y3, r3, rfl, t3, h5⟩ := z0b h4
  have := z0D h5
  subst this
  obtain ⟨b, ws, rfl, hb, _, tb⟩ := z0f t3
  rw [z0Y t1, z0Y t2] at h1
  rw [z1k tb] at hb
  exact ⟨n, a, b, rfl, rfl, h1, hb⟩
theorem y3e {H : Hp} {ns : List Int} {rows : List Row} {r : Int} {zs : List V} (h : z09 H (z7P ns rows r) zs) : zs.length = (z19 ns).length := by
 rw [h.length]
 unfold z7P
 rw [List.length_map]
def z5w (ns : List Int) (r num : Int) : List Int := (z19 ns).filter fun n => decide (num < n) && decide (z1y ns n r = 0)
def z1j (ns : List Int) (rows : List Row) (r num : Int) (z : Str) : Str := if 0 < (z96 ns rows r num z).length then "stale" else if z5w ns r num = [] then "sure" else "open"
def tabD (ns : List Int) (rows : List Row) (r : Int) (z : Str) : DV := .tup [.str z, .str (z1j ns rows r (z15 (z0I (z07 ns) rows z)) z), .int (z15 (z0I (z07 ns) rows z)), y4k (z0I (z07 ns) rows z)]
def y2H (nm : List Str) (ns : List Int) (rows : List Row) (r : Int) : DV := .tup (nm.map (tabD ns rows r))
theorem y3K {ds : List DV} {n : Nat} (h : ∀ d ∈ ds, d.deep ≤ n) : DV.deeps ds ≤ n := by
 induction ds with
 | nil => unfold DV.deeps; exact Nat.zero_le _
 | cons d r ih =>
  unfold DV.deeps
  exact Nat.max_le.mpr ⟨h d List.mem_cons_self, ih fun x hx => h x (List.mem_cons_of_mem _ hx)⟩
theorem z2L {ds : List DV} {n : Nat} (h : ∀ d ∈ ds, d.deep ≤ n) : (DV.tup ds).deep ≤ n + 1 := by
 unfold DV.deep
 exact Nat.succ_le_succ (y3K h)
theorem z6J (i : Int) (n : Nat) : (DV.int i).deep ≤ n := by unfold DV.deep; exact Nat.zero_le _
theorem z6L (i : Str) (n : Nat) : (DV.str i).deep ≤ n := by unfold DV.deep; exact Nat.zero_le _
theorem y4M (s : List Str) : (nmsD s).deep ≤ 1 := z2L fun d hd => by
 obtain ⟨x, _, rfl⟩ := List.mem_map.mp hd
 exact z6L _ _
theorem z8c {rows : List Row} {j : Nat} {k : Int} (h0 : 1 ≤ k) (h : k ≤ j) : z0J (rows.take j) k = z0J rows k := by
 unfold z0J
 have hk : (k - 1).toNat < j := by omega
 rw [List.getD_eq_getElem?_getD, List.getD_eq_getElem?_getD, List.getElem?_take, if_pos hk]
theorem y05 {rows : List Row} {j : Nat} {n r : Int} (h0 : 1 ≤ n) (h : n ≤ j) : z0M (rows.take j) n r = z0M rows n r := by
 unfold z0M y3N
 rw [z8c h0 h]
 have e : (z6a n r).map (y1C (rows.take j)) = (z6a n r).map (y1C rows) := List.map_congr_left fun k hk => by
  unfold z6a at hk
  rw [List.mem_filter, z7x] at hk
  unfold y1C
  rw [z8c (by omega) (by omega)]
 rw [e]
abbrev OfP := Hp -> Addr -> List Addr -> List Str -> Int -> List Row -> Prop
structure OfOk (C : Addr) (ms : List Str) (Of : OfP) : Prop where
 ins : ∀ {H p fp zs r rows}, Of H p fp zs r rows -> ∃ dx fs, H p = some (.ins C dx fs) /\ ∀ m ∈ ms, fs.lookup m = none
 own : ∀ {H p fp zs r rows}, Of H p fp zs r rows -> ∀ b ∈ fp, ∃ o, H b = some o /\ ∀ xs, o ≠ .tup xs
 keep : ∀ {H H' p fp gp zs r rows}, Of H p fp zs r rows -> z0s gp H H' -> (∀ b ∈ gp, b ∉ fp) -> z54 H gp -> Of H' p fp zs r rows
theorem OfOk.same {C : Addr} {ms : List Str} {Of : OfP} (O : OfOk C ms Of) {H H' : Hp} {p : Addr} {fp : List Addr} {zs : List Str} {r : Int} {rows : List Row} (h : Of H p fp zs r rows) (s : Same H H') : Of H' p fp zs r rows :=
 O.keep (gp := []) h (.of s) (fun _ q => by cases q) fun _ q => by cases q
theorem OfOk.noTup {C : Addr} {ms : List Str} {Of : OfP} (O : OfOk C ms Of) {H : Hp} {p : Addr} {fp : List Addr} {zs : List Str} {r : Int} {rows : List Row} (h : Of H p fp zs r rows) : z54 H fp := fun b m xs e => by
 obtain ⟨o, e1, n⟩ := O.own h b m
 rw [e1] at e
 exact n xs (Option.some.inj e)
def z8s (K : PySem.W.Frag) (H : Hp) (fp : List Addr) (u : V) (p : Str × Int) : Prop := ∃ a, u = .ref a /\ (SqL K H a [.str p.1, .int p.2] \/ SqT K H a [.str p.1, .int p.2]) /\ a ∉ fp
def y2v (K : PySem.W.Frag) (H : Hp) (fp : List Addr) (v : V) (pr : Row) : Prop := ∃ a us, v = .ref a /\ SqP K H a us /\ a ∉ fp /\ Paired (z8s K H fp) us pr
def z18 (zs : List Str) (pr : Row) : Row := zs.filterMap fun z => pr.find? fun p => decide (p.1 = z)
structure GoodR (zs : List Str) (pr : Row) : Prop where
 nd : (pr.map Prod.fst).Nodup
 sub : ∀ p ∈ pr, p.1 ∈ zs
 val : ∀ p ∈ pr, 0 ≤ p.2 /\ p.2 ≤ 1000000
def y10 (K : PySem.W.Frag) (C : Addr) (Of : OfP) : Sp := fun vs H Q _ => ∃ (x dx pn : Addr) (zs : List Str) (r : Int), vs = [.ref x, .ref pn, .int r] /\ H x = some (.ins C dx []) /\ dx ≠ x /\ H dx = some (.own x) /\ HdN K H pn zs /\ GoodN zs /\ 0 ≤ r /\ r ≤ 10 /\
 ∀ (fp : List Addr) (H' : Hp), (∀ b ∈ fp, b = x \/ b = dx \/ H b = none) -> z0s [x] H H' -> Of H' x fp zs r [] -> Q .non H'
def z9m (K : PySem.W.Frag) (Of : OfP) : Sp := fun vs H Q _ => ∃ (p : Addr) (v : V) (fp : List Addr) (zs : List Str) (r : Int) (rows : List Row) (pr : Row), vs = [.ref p, v] /\ Of H p fp zs r rows /\ y2v K H fp v pr /\ GoodR zs pr /\ pr.length ≤ 12 /\ rows.length < 60 /\
 ∀ (fp' : List Addr) (H' : Hp), (∀ b ∈ fp', b ∈ fp \/ H b = none) -> z0s fp H H' -> Of H' p fp' zs r (rows ++ [z18 zs pr]) -> Q (.int (rows.length + 1)) H'
def z7X (Of : OfP) : Sp := fun vs H Q _ => ∃ (p : Addr) (fp : List Addr) (zs : List Str) (r : Int) (rows : List Row), vs = [.ref p] /\ Of H p fp zs r rows /\ ∀ H', Same H H' -> Q (.int rows.length) H'
def z5s (Of : OfP) : Sp := fun vs H Q _ => ∃ (p : Addr) (fp : List Addr) (zs : List Str) (r : Int) (rows : List Row) (n : Int), vs = [.ref p, .int n] /\ Of H p fp zs r rows /\ 1 ≤ n /\ n ≤ rows.length /\
 ∀ (v : V) (H' : Hp), Same H H' -> Tell H' (z0M rows n r) v -> Q v H'
theorem z2N {z : Str} {zs : List Str} {pr : Row} : z18 (z :: zs) pr = (match pr.find? fun p => decide (p.1 = z) with | some p => p :: z18 zs pr | none => z18 zs pr) := by
 unfold z18
 rw [List.filterMap_cons]
 cases pr.find? fun p => decide (p.1 = z) <;> rfl
theorem z6t {p : Str × Int} {w : Row} : ∀ {zs : List Str}, p.1 ∉ zs -> z18 zs (p :: w) = z18 zs w
 | [], _ => rfl
 | y :: ys, h => by
  rw [List.mem_cons, not_or] at h
  rw [z2N, z2N, List.find?_cons, decide_eq_false h.1, z6t h.2]
theorem z4M : ∀ {zs : List Str} {w : Row}, zs.Nodup -> (w.map Prod.fst).Sublist zs -> z18 zs w = w
 | [], w, _, h => by
  have : w.map Prod.fst = [] := List.sublist_nil.mp h
  rw [List.map_eq_nil_iff] at this
  rw [this]
  rfl
 | z :: zs, w, nd, h => by
  rw [List.nodup_cons] at nd
  generalize e : w.map Prod.fst = l at h
  cases h with
  | cons _ h =>
   subst e
   have no : w.find? (fun p => decide (p.1 = z)) = none := List.find?_eq_none.mpr fun p hp => by
    have : p.1 ∈ zs := h.subset (List.mem_map_of_mem hp)
    intro e
    exact nd.1 (of_decide_eq_true e ▸ this)
   rw [z2N, no]
   exact z4M nd.2 h
  | cons_cons _ h =>
   cases w with
   | nil => cases e
   | cons p w =>
    rw [List.map_cons] at e
    injection e with e1 e2
    subst e2
    rw [z2N, List.find?_cons, decide_eq_true e1, z6t (by rw [e1]; exact nd.1), z4M nd.2 h]
def tsN (n : Int) (j : Nat) : List Int := (dnI n j).filter fun k => decide (1 ≤ k)
def tsP (ss : List (List Str)) (k : Int) : DV := .tup [.int k, nmsD (ss.getD (k - 1).toNat [])]
def tsD (ss : List (List Str)) (r : Int) : DV := .tup ((tsN ss.length r.toNat).map (tsP ss))
theorem y5q (n : Int) (j : Nat) : (tsN n j).length ≤ j := by
 have h := List.length_filter_le (fun k => decide (1 ≤ k)) (dnI n j)
 rw [y01] at h
 exact h
def y5b (K : PySem.W.Frag) : Sp := fun vs H Q _ => ∃ (p : Addr) (xs : List V) (ss : List (List Str)) (r : Int), vs = [.ref p, .int r] /\ (SqL K H p xs \/ SqT K H p xs) /\ z09 H (ss.map nmsD) xs /\ ss.length ≤ 59 /\ (∀ s ∈ ss, s.length ≤ 12) /\ 0 ≤ r /\ r ≤ 10 /\
 ∀ (v : V) (H' : Hp), Same H H' -> Tell H' (tsD ss r) v -> Q v H'
def z9E : Sp := fun vs H Q _ => ∃ n r : Int, vs = [.int n, .int r] /\ 1 ≤ n /\ n ≤ 60 /\ 0 ≤ r /\ r ≤ 10 /\
 ∀ (l : Addr) (H' : Hp), Same H H' -> H' l = some (.tup (((upI 1 60).filter fun x => decide (x ≤ n) && decide (n - x ≤ r)).map V.int)) -> Q (.ref l) H'
theorem y14 {n r : Int} (h1 : 1 ≤ n) (h2 : n ≤ 60) (h3 : 0 ≤ r) (h4 : r ≤ 10) :
  rngV (if n - r > 1 then n - r else 1) (n + 1 - (if n - r > 1 then n - r else 1)).toNat = ((upI 1 60).filter fun x => decide (x ≤ n) && decide (n - x ≤ r)).map V.int := by
 rw [y5w]
 refine congrArg (List.map V.int) (z2e (z1A _ _) ((z1A _ _).filter _) fun x => ?_)
 rw [List.mem_filter, z0P, z0P, Bool.and_eq_true, decide_eq_true_eq, decide_eq_true_eq]
 split <;> omega
theorem y1l (M : Bl mg) (F : Fun K "reached_by" "reached_by" z5a f fd) : FnOk P w K mg base CX0 1 f fd z4S z9E := by
 have nd := z6A.nd
 refine F.ok z6A (fun vs H Q E h => ?_) (fun cdv A outer s H vs Q E hr h => ?_)
 ·obtain ⟨n, r, rfl, _⟩ := h
  rfl
 obtain ⟨n, r, rfl, h1, h2, h3, h4, q⟩ := h
 refine ⟨_, (z05 (z0k (z0r (z7T rfl) rfl M.tuple PyProof.Rows.boot_tuple (z00 (z0r z99 rfl M.range PyProof.Rows.boot_range (z00 (z0j (y2I rfl) rfl M.max PyProof.Rows.boot_max (z00 z08 (z00 (z0v z5q (pv 0) (pv 1)) z03))) (z00 (z0v z1F (pv 0) z08) z03))) z03)))), ?_⟩
 refine ⟨_, rfl, _, rfl, _, _, rfl, rfl, _, _, rfl, _, rfl, _, _, rfl, rfl, _, _, rfl, fun p hp => ?_⟩
 refine ⟨p, _, _, rfl, z02, ⟨?_, ?_, ?_, ?_⟩, ?_, fun l hl => ?_⟩
 ·split <;> omega
 ·split <;> omega
 ·omega
 ·omega
 ·split <;> omega
 ·refine q l _ ((z01 hp _).trans (z01 hl _)) ?_
  rw [z02, y14 h1 h2 h3 h4]
theorem z6Y (hi : Int) (j : Nat) : (dnI hi j).Pairwise (· > ·) := by
 unfold dnI
 rw [List.pairwise_map]
 exact List.pairwise_lt_range.imp fun h => by omega
theorem z6V {n : Int} {j : Nat} {x : Int} : x ∈ tsN n j ↔ 1 ≤ x /\ n - j < x /\ x ≤ n := by
 unfold tsN
 rw [List.mem_filter, z7x, decide_eq_true_eq]
 omega
theorem y5L (n : Int) (j : Nat) : (tsN n j).reverse.Pairwise (· < ·) := by
 rw [List.pairwise_reverse]
 exact ((z6Y n j).filter _).imp fun h => h
theorem y3E {n r : Int} (h0 : 0 ≤ n) (h1 : n ≤ 59) (r0 : 0 ≤ r) (r1 : r ≤ 10) : ((upI 1 60).filter fun x => decide (x ≤ n + 1) && decide (n + 1 - x ≤ r)) = (tsN n r.toNat).reverse ++ [n + 1] := by
 refine z2e ((z1A _ _).filter _) (List.pairwise_append.mpr ⟨y5L _ _, List.pairwise_singleton _ _, fun x hx y hy => ?_⟩) fun x => ?_
 ·rw [List.mem_reverse, z6V] at hx
  rw [List.mem_singleton] at hy
  omega
 ·rw [List.mem_filter, z0P, Bool.and_eq_true, decide_eq_true_eq, decide_eq_true_eq, List.mem_append, List.mem_reverse, z6V, List.mem_singleton]
  omega
theorem y5y (M : Bl mg) (F : Fun K "tail_for" "tail_for" z7y f fd) (Greached_by : Cal P w K mg base 1 "reached_by" z4S z9E) : FnOk P w K mg base CX0 2 f fd z6W (y5b K) := by
 have nd := z8i.nd
 refine F.ok z8i (fun vs H Q E h => ?_) (fun cdv A outer s H vs Q E hr h => ?_)
 ·obtain ⟨p, xs, ss, r, rfl, _⟩ := h
  rfl
 obtain ⟨p, xs, ss, r, rfl, hS, tS, l60, l12, r0, r1, k⟩ := h
 refine ⟨_, (z04 (z0p (i := 2) nd rfl (Or.inl rfl) (z0v z1F (z0j z0a rfl M.len PySem.boot_len (z00 (pv 0) z03)) z08)) (z04 (z0p (i := 3) nd rfl (Or.inl rfl) (z2P y55 (z0h Greached_by (rm hr) rfl (z00 (pv 2) (z00 (pv 1) z03))) z3U (z3T (y5Q y2x z08)))) (z05 (z0k (z0r z0o rfl M.tuple PyProof.Rows.boot_tuple (z00 (z1c ["earlier"] ["sets"] [0] rfl (z0w rfl (by decide +kernel) rfl (by decide +kernel) rfl rfl) (y4Q rfl M.reversed (z00 (pv 3) z03)) (fun _ _ _ _ _ => (z0m (i := 0) (show ((["earlier"] : List PySem.Str) ++ (["sets"] : List PySem.Str)).Nodup from by decide +kernel) rfl (Or.inl rfl))) (z0x (by decide)) z0c (fun _ _ _ _ _ => z1N) (fun _ _ _ _ _ => (z0z (z00 (pv 0) (z00 (z0r (z4x (K := K) rfl) rfl M.tuple PyProof.Rows.boot_tuple (z00 (z1q (r := rIx K) y6q (pv 1) (z0v z5q (pv 0) z08) (fun _ _ => rfl)) z03)) z03))))) z03)))))), ?_⟩
 have lx : xs.length = ss.length := by rw [tS.length, List.length_map]
 have lx' : (xs.length : Int) = ss.length := by omega
 refine ⟨_, rfl, p, xs, rfl, hS, _, _, rfl, rfl, ?_⟩
 refine ⟨_, rfl, _, rfl, (xs.length : Int) + 1, r, rfl, by omega, by omega, r0, r1, fun l H1 s1 e1 => ?_⟩
 rw [lx', y3E (by omega) (by omega) r0 r1] at e1
 have eL : (((tsN ss.length r.toNat).reverse ++ [(ss.length : Int) + 1]).map V.int).length = (tsN ss.length r.toNat).length + 1 := by
  rw [List.length_map, List.length_append, List.length_reverse]
  rfl
 have sx : HT.sIx (((tsN ss.length r.toNat).reverse ++ [(ss.length : Int) + 1]).map V.int).length (((tsN ss.length r.toNat).reverse ++ [(ss.length : Int) + 1]).map V.int).length (some (-1)) = (tsN ss.length r.toNat).length := by
  rw [eL]
  show (if (-1 : Int) < 0 then (-1 + (((tsN ss.length r.toNat).length + 1 : Nat) : Int)).toNat else min (-1 : Int).toNat ((tsN ss.length r.toNat).length + 1)) = _
  rw [if_pos (by decide)]
  omega
 have cut : cutV (((tsN ss.length r.toNat).reverse ++ [(ss.length : Int) + 1]).map V.int) none (some (-1)) = (tsN ss.length r.toNat).reverse.map V.int := by
  unfold cutV
  rw [sx]
  show List.take ((tsN ss.length r.toNat).length - 0) (List.drop 0 _) = _
  rw [List.drop_zero, Nat.sub_zero, List.map_append, List.take_left' (by rw [List.length_map, List.length_reverse])]
 refine ⟨_, rfl, -1, rfl, l, _, rfl, SqT.of e1, ?_, fun a ha => ?_⟩
 ·rintro ⟨_, z⟩
  rw [sx, eL] at z
  omega
 rw [cut]
 have s2 := s1.trans (z01 ha (.tup ((tsN ss.length r.toNat).reverse.map V.int)))
 have e2 : upd H1 a (.tup ((tsN ss.length r.toNat).reverse.map V.int)) a = some (.tup ((tsN ss.length r.toNat).reverse.map V.int)) := z02
 generalize upd H1 a (.tup ((tsN ss.length r.toNat).reverse.map V.int)) = H2 at s2 e2
 have le := y5q ss.length r.toNat
 have lr : ((tsN ss.length r.toNat).reverse.map V.int).length = (tsN ss.length r.toNat).length := by rw [List.length_map, List.length_reverse]
 refine ⟨_, rfl, a, _, rfl, SqT.of e2, ?_⟩
 refine y3V (fun i ys H' => Same H2 H' /\ z09 H' (((tsN ss.length r.toNat).take i).map (tsP ss)) ys) ⟨Same.refl _, by rw [List.take_zero]; exact .nil⟩ (fun i ys H' hi hp => ?_) (fun i x ys H' hx hp => ?_) (fun ys H' hp => ?_)
 ·obtain ⟨g, t⟩ := hp
  refine ⟨SqT.of (g _ _ e2), z0g ?_⟩
  rw [t.length, List.length_map, List.length_take]
  omega
 ·obtain ⟨g, t⟩ := hp
  rw [<- List.map_reverse, List.reverse_reverse, List.getElem?_map] at hx
  obtain ⟨m, hm, rfl⟩ := Option.map_eq_some_iff.mp hx
  have hb := z6V.mp (List.mem_of_getElem? hm)
  have hk : (m - 1).toNat < ss.length := by omega
  have t2 := z09.keep (s2.trans g) _ _ tS
  obtain ⟨v, ev, tv⟩ := t2.get (m - 1).toNat (nmsD (ss.getD (m - 1).toNat [])) (by
   rw [List.getElem?_map, List.getD_eq_getElem?_getD, List.getElem?_eq_getElem hk]
   rfl)
  have av : atI xs (m - 1) = some v := by
   have e : m - 1 = (((m - 1).toNat : Nat) : Int) := by omega
   rw [e]
   exact z1d ev
  obtain ⟨b, us, rfl, eb, _, _⟩ := z0f tv
  refine ⟨_, rfl, _, rfl, _, rfl, _, _, rfl, rfl, ?_⟩
  have go : ∀ (z : Tell H' (nmsD (ss.getD (m - 1).toNat [])) (.ref b)), y4S K [.ref b] H' fun x H3 => [V.int m, x].length ≤ sizeLine /\ ∀ q, H3 q = none -> Same H2 (upd H3 q (.tup [.int m, x])) /\ z09 (upd H3 q (.tup [.int m, x])) (((tsN ss.length r.toNat).take (i + 1)).map (tsP ss)) (ys ++ [.ref q]) := fun z =>
   ⟨b, us, rfl, .inr ⟨SqT.of eb, by show 2 ≤ sizeLine; decide, fun q hq => ⟨g.trans (z01 hq _), by
    rw [List.take_add_one, hm, List.map_append]
    exact z09.snoc (z09.keep (z01 hq _) _ _ t) (z0e z02 (by show 2 ≤ 1000000; decide) (.cons (z0F _) (.cons (Tell.keep (z01 hq _) _ _ z) .nil)))⟩⟩⟩
  rcases hS with hS | hS
  ·exact .inl ⟨p, xs, _, .ref b, rfl, rfl, (s2.trans g).seq hS, av, go tv⟩
  ·exact .inr (.inl ⟨p, xs, _, .ref b, rfl, rfl, z5l (s2.trans g) hS, av, go tv⟩)
 ·obtain ⟨g, t⟩ := hp
  rw [lr, List.take_length] at t
  intro D hD
  refine ⟨D, ys, rfl, .inl ⟨SqL.of z02, fun q hq => k _ _ (s2.trans (g.trans ((z01 hD _).trans (z01 hq _)))) (z0e z02 ?_ (z09.keep ((z01 hD _).trans (z01 hq _)) _ _ t))⟩⟩
  rw [List.length_map]
  omega
def kvR (p : Str × Int) : Key × V := (Sum.inr p.1, .int p.2)
def y5k (K : PySem.W.Frag) : Sp := fun vs H Q _ => ∃ (p : Addr) (zs : List Str) (z : Str), vs = [.ref p, .str z] /\ SqN K H p zs /\ z ∈ zs /\ Q .non H
theorem z91 (x : Str) (ns : List Str) : inV (.str x) (ns.map V.str) = decide (x ∈ ns) := by
 unfold inV
 rw [Bool.eq_iff_iff, List.any_map, List.any_eq_true, decide_eq_true_eq]
 constructor
 ·rintro ⟨y, hy, e⟩
  have : y = x := by simpa [eqV] using e
  exact this ▸ hy
 ·intro h
  exact ⟨x, h, by simp [eqV]⟩
theorem y6G (M : Bl mg) (F : Fun K "refuse_unknown_name" "refuse_unknown_name" z1D f fd) : FnOk P w K mg base CX0 1 f fd z14 (y5k K) := by
 have nd := z2i.nd
 refine F.ok z2i (fun vs H Q E h => ?_) (fun cdv A outer s H vs Q E hr h => ?_)
 ·obtain ⟨p, zs, z, rfl, _⟩ := h
  rfl
 obtain ⟨p, zs, z, rfl, hp, hz, k⟩ := h
 refine ⟨_, (z05 (z0S (z0l z6w (pv 1) (pv 0) (by with_unfolding_all rfl)) (z05 z1b) z0t)), ?_⟩
 refine ⟨_, rfl, _, rfl, p, _, rfl, hp, rfl, z2j zs, _, rfl, ?_⟩
 rw [if_pos rfl, z91, decide_eq_true hz]
 exact ite2 (fun c => absurd c (by decide)) fun _ => k
def y0o : Sp := fun vs H Q _ => ∃ v : Int, vs = [.int v] /\ 0 ≤ v /\ v ≤ 1000000 /\ Q .non H
theorem y1M (M : Bl mg) (F : Fun K "refuse_bad_value" "refuse_bad_value" z2a f fd) : FnOk P w K mg base CX0 1 f fd z29 y0o := by
 have nd := z2Q.nd
 refine F.ok z2Q (fun vs H Q E h => ?_) (fun cdv A outer s H vs Q E hr h => ?_)
 ·obtain ⟨r, rfl, _⟩ := h
  rfl
 obtain ⟨r, rfl, r0, r1, k⟩ := h
 refine ⟨_, (z05 (z0S (PW.pt (z7E (z0l z8r (pv 0) z08 (z0u _)) (z41 (z0l z4v (pv 0) (z28 rfl M.MOST_VALUE) (z0u _))))) (z05 z1b) z0t)), ?_⟩
 refine ⟨_, rfl, _, _, rfl, rfl, _, rfl, ite2 (fun q => absurd (z0H q) (by omega)) fun _ => ?_⟩
 exact ⟨_, rfl, _, _, rfl, rfl, _, rfl, ite2 (fun q => absurd (z0H q) (by omega)) fun _ => k⟩
def z2p (K : PySem.W.Frag) (H : Hp) (u : V) (p : Str × Int) : Prop := ∃ a, u = .ref a /\ (SqL K H a [.str p.1, .int p.2] \/ SqT K H a [.str p.1, .int p.2])
theorem z2p.keep {K : PySem.W.Frag} {H H' : Hp} (s : Same H H') : ∀ {us : List V} {pr : Row}, Paired (z2p K H) us pr -> Paired (z2p K H') us pr
 | _, _, .nil => .nil
 | _, _, .cons ⟨a, e, h⟩ t => .cons ⟨a, e, h.imp (fun q => s.seq q) fun q => z5l s q⟩ (z2p.keep s t)
theorem z2p.at {K : PySem.W.Frag} {H : Hp} : ∀ {us : List V} {pr : Row}, Paired (z2p K H) us pr -> ∀ (i : Nat) (x : V), us[i]? = some x -> ∃ p, pr[i]? = some p /\ z2p K H x p
 | _, _, .nil, i, x, e => by simp at e
 | _, _, .cons r t, 0, x, e => by
  simp at e
  subst e
  exact ⟨_, rfl, r⟩
 | _, _, .cons r t, i + 1, x, e => by
  obtain ⟨y, h1, h2⟩ := z2p.at t i x (by simpa using e)
  exact ⟨y, by simpa using h1, h2⟩
theorem z2p.pairs {K : PySem.W.Frag} {H : Hp} : ∀ {us : List V} {pr : Row}, Paired (z2p K H) us pr -> Paired (y1W K H) us (pr.map kvR)
 | _, _, .nil => .nil
 | _, _, .cons ⟨a, e, h⟩ t => .cons ⟨a, e, h⟩ (z2p.pairs t)
theorem z2p.of {K : PySem.W.Frag} {H : Hp} {fp : List Addr} : ∀ {us : List V} {pr : Row}, Paired (z8s K H fp) us pr -> Paired (z2p K H) us pr
 | _, _, .nil => .nil
 | _, _, .cons ⟨a, e, h, _⟩ t => .cons ⟨a, e, h⟩ (z2p.of t)
theorem SqP.or {K : PySem.W.Frag} {H : Hp} {a : Addr} {us : List V} (h : SqP K H a us) : SqL K H a us \/ SqT K H a us := h.imp id SqT.of
theorem SqP.keep {K : PySem.W.Frag} {H H' : Hp} {a : Addr} {us : List V} (s : Same H H') (h : SqP K H a us) : SqP K H' a us := h.imp (fun q => s.seq q) fun q => s _ _ q
def z9x (K : PySem.W.Frag) : Sp := fun vs H Q _ => ∃ (pn a : Addr) (zs : List Str) (us : List V) (pr : Row), vs = [.ref pn, .ref a] /\ SqN K H pn zs /\ SqP K H a us /\ Paired (z2p K H) us pr /\ GoodR zs pr /\ pr.length ≤ 12 /\ ∀ H', Same H H' -> Q .non H'
theorem y1w (M : Bl mg) (F : Fun K "refuse_bad_rows" "refuse_bad_rows" z2o f fd) (Grefuse_unknown_name : Cal P w K mg base 1 "refuse_unknown_name" z14 (y5k K))
  (Grefuse_bad_value : Cal P w K mg base 1 "refuse_bad_value" z29 y0o) : FnOk P w K mg base CX0 2 f fd z2s (z9x K) := by
 have nd := z3e.nd
 refine F.ok z3e (fun vs H Q E h => ?_) (fun cdv A outer s H vs Q E hr h => ?_)
 ·obtain ⟨pn, a, zs, us, pr, rfl, _⟩ := h
  rfl
 obtain ⟨pn, a, zs, us, pr, rfl, hn, ha, hp, g, l12, k⟩ := h
 refine ⟨_, (z04 (z76 (i := 2) ["name", "value"] [] [] rfl nd rfl (Or.inl rfl) (z0w rfl (by decide +kernel) rfl (by decide +kernel) rfl rfl) (y26 (pv 1)) (fun _ _ _ _ _ => (y2p (K := K) (n := 2) rfl rfl (z0V (z0m (i := 0) (show ((["name", "value"] : List PySem.Str) ++ ([] : List PySem.Str)).Nodup from by decide +kernel) rfl (Or.inl rfl)) (z0V (z0m (i := 1) (show ((["name", "value"] : List PySem.Str) ++ ([] : List PySem.Str)).Nodup from by decide +kernel) rfl (Or.inl rfl)) z3Z)))) (y6a (z1x (z0x (by decide)) z0c (z1x (z0x (by decide)) z0c z5T z0Q) (z0C z0c z0Q))) (y3L (z0C z0c (z0C z0c z0Q))) (fun _ _ _ _ _ => z1N) (fun _ _ _ _ _ => (pv 0))) (z04 (z1i PassesOwn.never rfl (z24 (pv 2)) (z0m (i := 3) nd rfl (Or.inl rfl)) (z05 (z0B (z0h Grefuse_unknown_name (rm hr) rfl (z00 (pv 0) (z00 (pv 3) z03)))))) (z04 (z0S (z0l z8K (z0j z5x rfl M.len PySem.boot_len (z00 (z0r (z4z rfl) rfl M.set PyProof.Rows.boot_set (z00 (pv 2) z03)) z03)) (z0j z0a rfl M.len PySem.boot_len (z00 (pv 2) z03)) (z0u _)) (z05 z1b) z0t) (z05 (z1i PassesOwn.never rfl (y26 (pv 1)) (y2p (K := K) (n := 2) rfl rfl (z0V (z0m (i := 3) nd rfl (Or.inl rfl)) (z0V (z0m (i := 4) nd rfl (Or.inl rfl)) z3Z))) (z05 (z0B (z0h Grefuse_bad_value (rm hr) rfl (z00 (pv 4) z03))))))))), ?_⟩
 obtain ⟨t, ht⟩ := SqS.of (SqP.or ha)
 have lu : us.length = pr.length := hp.length
 refine ⟨_, rfl, a, t, rfl, ⟨_, ht⟩, ?_⟩
 refine y0O (xs := us) (fun i ys H' => H' = H /\ ys = ((pr.take i).map Prod.fst).map V.str) ⟨rfl, rfl⟩ (fun i ys H' hi hq => ?_) (fun i x ys H' hx hq => ?_) (fun ys H' hq => ?_)
 ·obtain ⟨rfl, rfl⟩ := hq
  refine ⟨ht, z0g ?_⟩
  rw [List.length_map, List.length_map, List.length_take]
  omega
 ·obtain ⟨rfl, rfl⟩ := hq
  obtain ⟨p, ep, b, rfl, hb⟩ := z2p.at hp i x hx
  refine ⟨b, _, rfl, hb, rfl, _, _, rfl, _, _, rfl, rfl, ?_⟩
  refine ⟨_, rfl, rfl, ?_⟩
  rw [z0q ep, List.map_append, List.map_append]
  rfl
 obtain ⟨rfl, rfl⟩ := hq
 rw [lu, List.take_length]
 intro D hD
 have s1 := z01 hD (.lst ((pr.map Prod.fst).map V.str))
 have e1 : upd H' D (.lst ((pr.map Prod.fst).map V.str)) D = some (.lst ((pr.map Prod.fst).map V.str)) := z02
 generalize upd H' D (.lst ((pr.map Prod.fst).map V.str)) = H1 at s1 e1
 have hn1 := SqN.keep s1 hn
 have ht1 := SqS.keep s1 ht
 have hp1 := z2p.keep s1 hp
 refine ⟨_, rfl, D, rfl, ⟨_, SqL.of e1⟩, z2g (K := K) (a := D) (xs := (pr.map Prod.fst).map V.str) (fun i σ H2 => ∃ o : Option V, H2 = H1 /\ σ = [some (.ref pn), some (.ref a), some (.ref D), o, none]) ⟨none, rfl, rfl⟩ (fun i σ H2 _ ⟨_, e, _⟩ => e ▸ SqL.of e1) (fun i x σ H2 hx hq => ?_) (fun σ H2 hq => ?_)⟩
 ·obtain ⟨o, rfl, rfl⟩ := hq
  rw [List.getElem?_map] at hx
  obtain ⟨z, ez, rfl⟩ := Option.map_eq_some_iff.mp hx
  have hz : z ∈ zs := by
   obtain ⟨p, hpm, rfl⟩ := List.mem_map.mp (List.mem_of_getElem? ez)
   exact g.sub p hpm
  exact ⟨_, rfl, _, rfl, pn, zs, z, rfl, hn1, hz, _, rfl, rfl⟩
 obtain ⟨o, rfl, rfl⟩ := hq
 have lf : (pr.map Prod.fst).length = pr.length := List.length_map _
 refine ⟨_, rfl, D, pr.map Prod.fst, rfl, .inl (SqL.of e1), by omega, fun l hl => ⟨l, pr.map Prod.fst, rfl, z02, by omega, _, rfl, D, _, rfl, .inl (SqL.of (z01 hl _ _ _ e1)), rfl, _, rfl, ?_⟩⟩
 refine y6z (by rw [y2o g.nd, List.length_map (f := V.str)]) ?_
 have s2 := s1.trans (z01 hl (SetT P w l (pr.map Prod.fst)))
 have ht2 := SqS.keep (z01 hl (SetT P w l (pr.map Prod.fst))) ht1
 have hp2 := z2p.keep (z01 hl (SetT P w l (pr.map Prod.fst))) hp1
 refine ⟨_, rfl, a, t, rfl, ⟨_, ht2⟩, ?_⟩
 refine y63 (xs := us) (fun i σ H3 => ∃ o1 o2 : Option V, H3 = upd H2 l (SetT P w l (pr.map Prod.fst)) /\ σ = [some (.ref pn), some (.ref a), some (.ref D), o1, o2]) ⟨_, _, rfl, rfl⟩ (fun i σ H3 _ ⟨_, _, e, _⟩ => e ▸ ht2) (fun i x σ H3 hx hq => ?_) (fun σ H3 hq => ?_)
 ·obtain ⟨o1, o2, rfl, rfl⟩ := hq
  obtain ⟨p, ep, b, rfl, hb⟩ := z2p.at hp2 i x hx
  have hv := g.val p (List.mem_of_getElem? ep)
  refine ⟨b, _, rfl, hb, rfl, _, _, rfl, _, _, rfl, rfl, ?_⟩
  exact ⟨_, rfl, p.2, rfl, hv.1, hv.2, _, _, rfl, rfl⟩
 ·obtain ⟨o1, o2, rfl, rfl⟩ := hq
  exact k _ s2
def z9H (K : PySem.W.Frag) : Sp := fun vs H Q _ => ∃ (pn a : Addr) (zs : List Str) (us : List V) (pr : Row), vs = [.ref pn, .ref a] /\ SqN K H pn zs /\ zs.length ≤ 12 /\ SqP K H a us /\ Paired (z2p K H) us pr /\ (pr.map Prod.fst).Nodup /\ pr.length ≤ 12 /\ ∀ (v : V) (H' : Hp), Same H H' -> Tell H' (rowD (z18 zs pr)) v -> Q v H'
theorem z8p {z : Str} : ∀ {pr : Row}, valV (pr.map kvR) (Sum.inr z : Key) = (pr.find? fun p => decide (p.1 = z)).map fun p => V.int p.2
 | [] => rfl
 | p :: w => by
  rw [List.map_cons, List.find?_cons]
  by_cases e : p.1 = z
  ·rw [z5j (show (kvR p).1 = Sum.inr z by unfold kvR; rw [e]), decide_eq_true e]
   rfl
  ·rw [z5b (show ¬ (kvR p).1 = Sum.inr z from fun q => e (Sum.inr.inj q)), decide_eq_false e]
   exact z8p
theorem z94 (zs : List Str) (z : Str) (pr : Row) : z18 (zs ++ [z]) pr = z18 zs pr ++ (match pr.find? fun p => decide (p.1 = z) with | some p => [p] | none => []) := by
 unfold z18
 rw [List.filterMap_append, List.filterMap_cons]
 cases pr.find? fun p => decide (p.1 = z) <;> rfl
theorem z4X (zs : List Str) (pr : Row) : (z18 zs pr).length ≤ zs.length := List.length_filterMap_le _ _
theorem y1E (M : Bl mg) (F : Fun K "rows_in_order" "rows_in_order" z2U f fd) : FnOk P w K mg base CX0 1 f fd z3a (z9H K) := by
 have nd := z4e.nd
 refine F.ok z4e (fun vs H Q E h => ?_) (fun cdv A outer s H vs Q E hr h => ?_)
 ·obtain ⟨pn, a, zs, us, pr, rfl, _⟩ := h
  rfl
 obtain ⟨pn, a, zs, us, pr, rfl, hn, z12, ha, hp, ndr, l12, k⟩ := h
 have hu := z9L hr
 refine ⟨_, (z04 (z0p (i := 2) nd rfl (Or.inr rfl) (z0r (z4a (K := K) rfl rfl) rfl M.dict PyProof.Rows.boot_dict (z00 (pv 1) z03))) (z05 (z0k (z0r z0o rfl M.tuple PyProof.Rows.boot_tuple (z00 (z1c ["name"] ["values"] [2] rfl (z0w rfl (by decide +kernel) rfl (by decide +kernel) rfl rfl) (y26 (pv 0)) (fun _ _ _ _ _ => (z0m (i := 0) (show ((["name"] : List PySem.Str) ++ (["values"] : List PySem.Str)).Nodup from by decide +kernel) rfl (Or.inl rfl))) (z0x (by decide)) z0c (fun _ _ _ _ _ => (z3x (z6q (y3t hu (pv 0) (pv 1))))) (fun _ _ _ _ _ => (z0z (z00 (pv 0) (z00 (z69 hu (pv 1) (pv 0) (fun _ _ => rfl)) z03))))) z03))))), ?_⟩
 have lu : us.length = pr.length := hp.length
 refine ⟨_, rfl, a, us, pr.map kvR, rfl, ha, z2p.pairs hp, by omega, ?_, fun d hd => ?_⟩
 ·have e : (pr.map kvR).map (·.1) = (pr.map Prod.fst).map Sum.inr := by rw [List.map_map, List.map_map]; rfl
  rw [e, List.nodup_iff_pairwise_ne, List.pairwise_map]
  exact (List.nodup_iff_pairwise_ne.mp ndr).imp fun h e => h (Sum.inr.inj e)
 have s1 := z01 hd (.dK (pr.map kvR))
 have e1 : upd H d (.dK (pr.map kvR)) d = some (.dK (pr.map kvR)) := z02
 generalize upd H d (.dK (pr.map kvR)) = H1 at s1 e1
 obtain ⟨t, ht⟩ := SqS.of (SqN.keep s1 hn)
 refine ⟨_, rfl, pn, t, rfl, ⟨_, ht⟩, ?_⟩
 refine y0O (xs := zs.map V.str) (fun i ys H' => Same H1 H' /\ z09 H' ((z18 (zs.take i) pr).map z8V) ys) ⟨Same.refl _, by rw [List.take_zero]; exact .nil⟩ (fun i ys H' hi hq => ?_) (fun i x ys H' hx hq => ?_) (fun ys H' hq => ?_)
 ·obtain ⟨g, t'⟩ := hq
  refine ⟨SqS.keep g ht, z0g ?_⟩
  have := z4X (zs.take i) pr
  rw [List.length_take] at this
  rw [t'.length, List.length_map]
  omega
 ·obtain ⟨g, t'⟩ := hq
  rw [List.getElem?_map] at hx
  obtain ⟨z, ez, rfl⟩ := Option.map_eq_some_iff.mp hx
  refine ⟨_, rfl, _, rfl, d, _, rfl, DGet.k (k := Sum.inr z) (g _ _ e1), _, rfl, ?_⟩
  rw [z8p, z0q ez, z94]
  cases ev : pr.find? fun p => decide (p.1 = z) with
  | none =>
   refine iteF ⟨g, ?_⟩
   rw [List.append_nil]
   exact t'
  | some p =>
   have ep : p.1 = z := by
    have := List.find?_some ev
    exact of_decide_eq_true this
   refine iteT ⟨_, rfl, _, rfl, _, rfl, d, _, rfl, (show DGet _ d (kV (Sum.inr z)) (some (V.int p.2)) by rw [<- show valV (pr.map kvR) (Sum.inr z : Key) = some (V.int p.2) by rw [z8p, ev]; rfl]; exact DGet.k (g _ _ e1)), (by show 2 ≤ sizeLine; decide), fun q hq => ⟨g.trans (z01 hq _), ?_⟩⟩
   rw [List.map_append]
   refine z09.snoc (z09.keep (z01 hq _) _ _ t') ?_
   rw [<- ep]
   exact z0e z02 (by show 2 ≤ 1000000; decide) (.cons (z1J _) (.cons (z0F _) .nil))
 ·obtain ⟨g, t'⟩ := hq
  rw [List.length_map, List.take_length] at t'
  intro D hD
  refine ⟨D, ys, rfl, .inl ⟨SqL.of z02, fun q hq => k _ _ (s1.trans (g.trans ((z01 hD _).trans (z01 hq _)))) (z0e z02 ?_ (z09.keep ((z01 hD _).trans (z01 hq _)) _ _ t'))⟩⟩
  have := z4X zs pr
  rw [List.length_map]
  omega
def y00 : Sp := fun vs H Q _ => ∃ (a : Addr) (xs : List V) (w : Row), vs = [.ref a] /\ H a = some (.tup xs) /\ z09 H (w.map z8V) xs /\ w.length ≤ 12 /\ ∀ (l : Addr) (H' : Hp), Same H H' -> H' l = some (.tup ((z0R w).map V.str)) -> Q (.ref l) H'
theorem y4l (M : Bl mg) (F : Fun K "names_of_rows" "names_of_rows" z2W f fd) : FnOk P w K mg base CX0 1 f fd z2f y00 := by
 have nd := z46.nd
 refine F.ok z46 (fun vs H Q E h => ?_) (fun cdv A outer s H vs Q E hr h => ?_)
 ·obtain ⟨a, xs, w, rfl, _⟩ := h
  rfl
 obtain ⟨a, xs, w, rfl, ha, tw, l12, k⟩ := h
 refine ⟨_, (z05 (z0k (z0r z0o rfl M.tuple PyProof.Rows.boot_tuple (z00 (z1c ["name", "value"] [] [] rfl (z0w rfl (by decide +kernel) rfl (by decide +kernel) rfl rfl) (z1W (pv 0)) (fun _ _ _ _ _ => (z6Q (K := K) (n := 2) rfl rfl (z0V (z0m (i := 0) (show ((["name", "value"] : List PySem.Str) ++ ([] : List PySem.Str)).Nodup from by decide +kernel) rfl (Or.inl rfl)) (z0V (z0m (i := 1) (show ((["name", "value"] : List PySem.Str) ++ ([] : List PySem.Str)).Nodup from by decide +kernel) rfl (Or.inl rfl)) z3Z)))) (z6X (z1x (z0x (by decide)) z0c (z1x (z0x (by decide)) z0c z5T z0Q) (z0C z0c z0Q))) (z5A (z0C z0c (z0C z0c z0Q))) (fun _ _ _ _ _ => z1N) (fun _ _ _ _ _ => (pv 0))) z03)))), ?_⟩
 have lx : xs.length = w.length := by rw [tw.length, List.length_map]
 refine ⟨_, rfl, a, rfl, ⟨_, SqT.of ha⟩, ?_⟩
 refine z1z (xs := xs) (fun i ys H' => H' = H /\ ys = (z0R (w.take i)).map V.str) ⟨rfl, rfl⟩ (fun i ys H' hi hq => ?_) (fun i x ys H' hx hq => ?_) (fun ys H' hq => ?_)
 ·obtain ⟨rfl, rfl⟩ := hq
  refine ⟨SqT.of ha, z0g ?_⟩
  unfold z0R
  rw [List.length_map, List.length_map, List.length_take]
  omega
 ·obtain ⟨rfl, rfl⟩ := hq
  obtain ⟨p, b, ep, rfl, hb⟩ := z59 tw i x hx
  refine ⟨b, _, rfl, SqT.of hb, rfl, _, _, rfl, _, _, rfl, rfl, ?_⟩
  refine ⟨_, rfl, rfl, ?_⟩
  unfold z0R
  rw [z0q ep, List.map_append, List.map_append]
  rfl
 ·obtain ⟨rfl, rfl⟩ := hq
  rw [lx, List.take_length]
  intro D hD
  exact ⟨D, _, rfl, .inl ⟨SqL.of z02, fun q hq => k q _ ((z01 hD _).trans (z01 hq _)) z02⟩⟩
def OfD (K : PySem.W.Frag) (C : Addr) : OfP := fun H p fp zs r rows => ∃ (dx pn pl : Addr) (fs : List (Str × V)) (xs : List V), fp = [p, dx, pl] /\ H p = some (.ins C dx fs) /\ H dx = some (.own p) /\ H pn = some (.tup (zs.map V.str)) /\ H pl = some (.lst xs) /\
 fs.lookup ("names" : Str) = some (V.ref pn) /\ fs.lookup ("reach" : Str) = some (V.int r) /\ fs.lookup ("written" : Str) = some (V.ref pl) /\ (∀ m ∈ (["refuse_writing", "write", "latest", "issue"] : List Str), fs.lookup m = none) /\
 z09 H ((upI 1 rows.length).map fun n => z0M rows n r) xs /\ rows.length ≤ 60 /\ (∀ w ∈ rows, w.length ≤ 12) /\ GoodN zs /\ 0 ≤ r /\ r ≤ 10
theorem ofOk {K : PySem.W.Frag} {C : Addr} : OfOk C ["write", "latest", "issue"] (OfD K C) := by
 refine ⟨fun h => ?_, fun h b hb => ?_, fun h s out nt => ?_⟩
 ·obtain ⟨dx, pn, pl, fs, xs, e, h1, h2, h3, h4, l1, l2, l3, lm, _⟩ := h
  refine ⟨dx, fs, h1, fun m hm => lm m ?_⟩
  simp only [List.mem_cons, List.not_mem_nil, or_false] at hm ⊢
  rcases hm with h | h | h <;> simp [h]
 ·obtain ⟨dx, pn, pl, fs, xs, rfl, h1, h2, h3, h4, _⟩ := h
  rcases List.mem_cons.mp hb with rfl | hb
  ·exact ⟨_, h1, fun xs z => by cases z⟩
  rcases List.mem_cons.mp hb with rfl | hb
  ·exact ⟨_, h2, fun xs z => by cases z⟩
  rw [List.mem_singleton.mp hb]
  exact ⟨_, h4, fun xs z => by cases z⟩
 ·obtain ⟨dx, pn, pl, fs, xs, rfl, h1, h2, h3, h4, l1, l2, l3, lm, tl, g⟩ := h
  exact ⟨dx, pn, pl, fs, xs, rfl, s _ _ h1 (fun m => out _ m (by simp)), s _ _ h2 (fun m => out _ m (by simp)), s _ _ h3 (fun m => nt _ m _ h3), s _ _ h4 (fun m => out _ m (by simp)), l1, l2, l3, lm, z09.but s nt _ _ tl, g⟩
theorem y2S {COffice : Addr} (M : Bl mg) (T : TxOffice K mg COffice) (F : Fun K "__init__" "Office.__init__" z2m f fd) (Gbulletin_names : Cal P w K mg base 2 "bulletin_names" z1U (z5Z K)) :
  FnOk P w K mg base CX0 3 f fd z2r (y10 K COffice (OfD K COffice)) := by
 have nd := z3i.nd
 refine F.ok z3i (fun vs H Q E h => ?_) (fun cdv A outer s H vs Q E hr h => ?_)
 ·obtain ⟨x, dx, pn, zs, r, rfl, _⟩ := h
  rfl
 obtain ⟨x, dx, pn, zs, r, rfl, hx, ne, hdx, hn, g, r0, r1, k⟩ := h
 refine ⟨_, (z04 (z5G (pv 0) (z0h Gbulletin_names (rm hr) rfl (z00 (pv 1) (z00 (pv 2) z03))) rfl) (z04 (z5G (pv 0) (pv 2) rfl) (z05 (z5G (pv 0) (z2l z03) rfl)))), ?_⟩
 refine ⟨_, rfl, _, rfl, pn, zs, r, rfl, hn, g, r0, r1, fun l H1 s1 e1 => ?_⟩
 refine ⟨_, rfl, x, COffice, dx, [], rfl, s1 _ _ hx, T.cl, T.n_names, by decide, ?_⟩
 have z1 := z1t "names" (.ref l) []
 have z2 := z1t "reach" (.int r) (putF "names" (.ref l) [])
 have z0 : ([] : List (Str × V)).length = 0 := rfl
 refine ⟨_, rfl, _, rfl, x, COffice, dx, _, rfl, z02, T.cl, T.n_reach, (by omega), ?_⟩
 rw [z4U]
 refine ⟨(by show 0 ≤ sizeLine; decide), fun pd hd => ?_⟩
 have nx : x ≠ pd := z0i z02 hd
 have ndd : dx ≠ pd := z0i (show upd H1 x _ dx = some _ by rw [z0d ne]; exact s1 _ _ hdx) hd
 have nl : l ≠ x := z4t e1 (s1 _ _ hx) (fun z => by cases z)
 have nlp : l ≠ pd := z0i (show upd H1 x _ l = some _ by rw [z0d nl]; exact e1) hd
 have dfr : H1 pd = none := by rw [z0d (Ne.symm nx)] at hd; exact hd
 refine ⟨_, rfl, x, COffice, dx, _, rfl, (by rw [z0d nx, z02]), T.cl, T.n_written, (by omega), ?_⟩
 refine k [x, dx, pd] _ (fun b hb => ?_) (fun b o e nb => ?_) ⟨dx, l, pd, _, [], rfl, z02, ?_, ?_, ?_, ?_, ?_, ?_, ?_, .nil, by decide, fun _ q => (nomatch q), g, r0, r1⟩
 ·simp only [List.mem_cons, List.not_mem_nil, or_false] at hb
  rcases hb with rfl | rfl | rfl
  ·exact .inl rfl
  ·exact .inr (.inl rfl)
  ·exact .inr (.inr (s1.free dfr))
 ·rw [List.mem_singleton] at nb
  rw [z0d nb, z0d (z0i e (s1.free dfr)), z0d nb]
  exact s1 _ _ e
 ·rw [z0d ne, z0d ndd, z0d ne]
  exact s1 _ _ hdx
 ·rw [z0d nl, z0d nlp, z0d nl]
  exact e1
 ·rw [z0d (Ne.symm nx), z02]
 ·rw [z0n, if_neg (by decide +kernel), z0n, if_neg (by decide +kernel), z0n, if_pos rfl]
 ·rw [z0n, if_neg (by decide +kernel), z0n, if_pos rfl]
 ·rw [z0n, if_pos rfl]
 ·intro m hm
  simp only [List.mem_cons, List.not_mem_nil, or_false] at hm
  rcases hm with rfl | rfl | rfl | rfl <;> rw [z0n, if_neg (by decide +kernel), z0n, if_neg (by decide +kernel), z0n, if_neg (by decide +kernel)] <;> rfl
theorem z9U {COffice : Addr} (M : Bl mg) (T : TxOffice K mg COffice) (F : Fun K "latest" "Office.latest" z38 f fd) : FnOk P w K mg base CX0 1 f fd z32 (z7X (OfD K COffice)) := by
 have nd := z4i.nd
 refine F.ok z4i (fun vs H Q E h => ?_) (fun cdv A outer s H vs Q E hr h => ?_)
 ·obtain ⟨p, fp, zs, r, rows, rfl, _⟩ := h
  rfl
 obtain ⟨p, fp, zs, r, rows, rfl, of, k⟩ := h
 refine ⟨_, (z05 (z0k (z0j z0a rfl M.len PySem.boot_len (z00 (z0A (pv 0) rfl) z03)))), ?_⟩
 obtain ⟨dx, pn, pl, fs, xs, rfl, h1, h2, h3, h4, l1, l2, l3, lm, tl, r60, w12, g, r0, r1⟩ := of
 have lx : xs.length = rows.length := by rw [tl.length, List.length_map, z0E]
 refine ⟨_, rfl, p, COffice, dx, fs, _, rfl, h1, T.cl, T.n_written, l3, pl, xs, rfl, .inl (SqL.of h4), ?_⟩
 rw [lx]
 exact k H (Same.refl _)
theorem y1n {COffice : Addr} (M : Bl mg) (T : TxOffice K mg COffice) (F : Fun K "issue" "Office.issue" z3w f fd) : FnOk P w K mg base CX0 1 f fd z1V (z5s (OfD K COffice)) := by
 have nd := z4F.nd
 refine F.ok z4F (fun vs H Q E h => ?_) (fun cdv A outer s H vs Q E hr h => ?_)
 ·obtain ⟨p, fp, zs, r, rows, n, rfl, _⟩ := h
  rfl
 obtain ⟨p, fp, zs, r, rows, n, rfl, of, n1, n2, k⟩ := h
 refine ⟨_, (z04 (z0S (PW.pt (z7E (z0l z8r (pv 1) z08 (z0u _)) (z41 (z0l z4v (pv 1) (z0j z0a rfl M.len PySem.boot_len (z00 (z0A (pv 0) rfl) z03)) (z0u _))))) (z05 z1b) z0t) (z05 (z0k (z1q z1w (z0A (pv 0) rfl) (z0v z5q (pv 1) z08) (fun _ _ => rfl))))), ?_⟩
 obtain ⟨dx, pn, pl, fs, xs, rfl, h1, h2, h3, h4, l1, l2, l3, lm, tl, r60, w12, g, r0, r1⟩ := of
 have lx : xs.length = rows.length := by rw [tl.length, List.length_map, z0E]
 refine ⟨_, rfl, _, _, rfl, rfl, _, rfl, ite2 (fun q => absurd (z0H q) (by omega)) fun _ => ?_⟩
 refine ⟨_, rfl, _, rfl, p, COffice, dx, fs, _, rfl, h1, T.cl, T.n_written, l3, pl, xs, rfl, .inl (SqL.of h4), _, _, rfl, rfl, _, rfl, ite2 (fun q => absurd (z0H q) (by omega)) fun _ => ?_⟩
 have hk : (n - 1).toNat < rows.length := by omega
 obtain ⟨v, ev, tv⟩ := tl.get (n - 1).toNat (z0M rows n r) (by
  unfold upI
  rw [List.getElem?_map, List.getElem?_map, List.getElem?_range hk]
  show some (z0M rows (1 + ((n - 1).toNat : Int)) r) = _
  rw [show (1 : Int) + ((n - 1).toNat : Int) = n by omega])
 have av : atI xs (n - 1) = some v := by
  rw [show n - 1 = (((n - 1).toNat : Nat) : Int) by omega]
  exact z1d ev
 exact ⟨_, rfl, p, COffice, dx, fs, _, rfl, h1, T.cl, T.n_written, l3, _, rfl, _, _, rfl, rfl, pl, xs, _, v, rfl, rfl, SqL.of h4, av, k v H (Same.refl _) tv⟩
def z7n (K : PySem.W.Frag) (Of : OfP) : Sp := fun vs H Q _ => ∃ (p a : Addr) (fp : List Addr) (zs : List Str) (r : Int) (rows : List Row) (us : List V) (pr : Row), vs = [.ref p, .ref a] /\ Of H p fp zs r rows /\ SqP K H a us /\ Paired (z2p K H) us pr /\ GoodR zs pr /\ pr.length ≤ 12 /\ rows.length < 60 /\ ∀ H', Same H H' -> Q .non H'
theorem y1g {COffice : Addr} (M : Bl mg) (T : TxOffice K mg COffice) (F : Fun K "refuse_writing" "Office.refuse_writing" z1n f fd) (Grefuse_bad_rows : Cal P w K mg base 2 "refuse_bad_rows" z2s (z9x K)) :
  FnOk P w K mg base CX0 3 f fd z0U (z7n K (OfD K COffice)) := by
 have nd := z1S.nd
 refine F.ok z1S (fun vs H Q E h => ?_) (fun cdv A outer s H vs Q E hr h => ?_)
 ·obtain ⟨p, a, fp, zs, r, rows, us, pr, rfl, _⟩ := h
  rfl
 obtain ⟨p, a, fp, zs, r, rows, us, pr, rfl, of, ha, hp, g', l12, l60, k⟩ := h
 refine ⟨_, (z04 (z0S (z0l y5Y (z0j z0a rfl M.len PySem.boot_len (z00 (z0A (pv 0) rfl) z03)) (z28 rfl M.MOST_NUMBERS) (z0u _)) (z05 z1b) z0t) (z05 (z0B (z0h Grefuse_bad_rows (rm hr) rfl (z00 (z0A (pv 0) rfl) (z00 (pv 1) z03)))))), ?_⟩
 obtain ⟨dx, pn, pl, fs, xs, rfl, h1, h2, h3, h4, l1, l2, l3, lm, tl, r60, w12, g, r0, r1⟩ := of
 have lx : xs.length = rows.length := by rw [tl.length, List.length_map, z0E]
 refine ⟨_, rfl, p, COffice, dx, fs, _, rfl, h1, T.cl, T.n_written, l3, pl, xs, rfl, .inl (SqL.of h4), _, _, rfl, rfl, _, rfl, ite2 (fun q => absurd (z0H q) (by omega)) fun _ => ?_⟩
 exact ⟨_, rfl, p, COffice, dx, fs, _, rfl, h1, T.cl, T.n_names, l1, _, rfl, pn, a, zs, us, pr, rfl, .inr (SqT.of h3), ha, hp, g', l12, fun H' s => k H' s⟩
theorem z9Y (rows : List Row) (x : Row) {n r : Int} (n1 : 1 ≤ n) (n2 : n ≤ rows.length) : z0M (rows ++ [x]) n r = z0M rows n r := by
 have e := y05 (rows := rows ++ [x]) (j := rows.length) (r := r) n1 n2
 rw [List.take_left] at e
 exact e.symm
theorem y2h (m : Nat) (r : Int) (r0 : 0 ≤ r) : z6a ((m : Int) + 1) r = tsN m r.toNat := by
 have falls : ∀ {l1 l2 : List Int}, l1.Pairwise (· > ·) -> l2.Pairwise (· > ·) -> (∀ x, x ∈ l1 ↔ x ∈ l2) -> l1 = l2 := fun {l1 l2} p1 p2 h => by
  have e := z2e (l1 := l1.reverse) (l2 := l2.reverse) (List.pairwise_reverse.mpr p1) (List.pairwise_reverse.mpr p2) fun x => by rw [List.mem_reverse, List.mem_reverse]; exact h x
  have e2 := congrArg List.reverse e
  rw [List.reverse_reverse, List.reverse_reverse] at e2
  exact e2
 refine falls ((z6Y _ _).filter _) ((z6Y _ _).filter _) fun x => ?_
 rw [z6V]
 unfold z6a
 rw [List.mem_filter, z7x, decide_eq_true_eq]
 omega
theorem y2E (rows : List Row) (x : Row) (r : Int) (r0 : 0 ≤ r) : y3N (rows ++ [x]) ((rows.length : Int) + 1) r = tsD (rows.map z0R) r := by
 unfold y3N tsD
 rw [y2h _ _ r0, List.length_map]
 congr 1
 refine List.map_congr_left fun k hk => ?_
 have hk := z6V.mp hk
 unfold y1C tsP z0J
 have h1 : (k - 1).toNat < rows.length := by omega
 rw [List.getD_eq_getElem?_getD, List.getD_eq_getElem?_getD, List.getElem?_append_left h1, List.getElem?_map, List.getElem?_eq_getElem h1]
 rfl
theorem y1z {COffice : Addr} (M : Bl mg) (T : TxOffice K mg COffice) (F : Fun K "write" "Office.write" z3H f fd) (GOffice_refuse_writing : MCal P w K mg base 3 COffice "refuse_writing" z0U (z7n K (OfD K COffice)))
  (Gnames_of_rows : Cal P w K mg base 1 "names_of_rows" z2f y00) (Grows_in_order : Cal P w K mg base 1 "rows_in_order" z3a (z9H K)) (Gtail_for : Cal P w K mg base 2 "tail_for" z6W (y5b K)) :
  FnOk P w K mg base CX0 4 f fd z3p (z9m K (OfD K COffice)) := by
 have nd := z4D.nd
 refine F.ok z4D (fun vs H Q E h => ?_) (fun cdv A outer s H vs Q E hr h => ?_)
 ·obtain ⟨p, v, fp, zs, r, rows, pr, rfl, _⟩ := h
  rfl
 obtain ⟨p, v, fp, zs, r, rows, pr, rfl, of, ⟨a, us, rfl, ha, na, hp⟩, gr, l12, l60, k⟩ := h
 refine ⟨_, (z04 (z0B (z1X GOffice_refuse_writing (rm hr) (pv 0) (z00 (pv 1) z03))) (z04 (z0p (i := 2) nd rfl (Or.inl rfl) (z0v z1F (z0j z0a rfl M.len PySem.boot_len (z00 (z0A (pv 0) rfl) z03)) z08)) (z04 (z76 (i := 3) ["issue"] [] [] rfl nd rfl (Or.inl rfl) (z0w rfl (by decide +kernel) rfl (by decide +kernel) rfl rfl) (z24 (z0A (pv 0) rfl)) (fun _ _ _ _ _ => (z0m (i := 0) (show ((["issue"] : List PySem.Str) ++ ([] : List PySem.Str)).Nodup from by decide +kernel) rfl (Or.inl rfl))) (z0x (by decide)) z0c (fun _ _ _ _ _ => z1N) (fun _ _ _ _ _ => (z0h Gnames_of_rows (rm hr) rfl (z00 (z1q (r := rIxT K) z22 (pv 0) z08 (fun _ _ => rfl)) z03)))) (z04 (z0B (z58 PySem.F.plainAttrs_list PySem.F.slot_list_append PySem.F.type_list_append z1e (z0A (pv 0) rfl) (z00 (z0z (z00 (pv 2) (z00 (z0h Grows_in_order (rm hr) rfl (z00 (z0A (pv 0) rfl) (z00 (pv 1) z03))) (z00 (z0h Gtail_for (rm hr) rfl (z00 (pv 3) (z00 (z0A (pv 0) rfl) z03))) z03)))) z03))) (z05 (z0k (pv 2))))))), ?_⟩
 have hp' := z2p.of hp
 obtain ⟨dx, pn, pl, fs, xs, rfl, h1, h2, h3, h4, l1, l2, l3, lm, tl, r60, w12, g, r0, r1⟩ := id of
 have lx : xs.length = rows.length := by rw [tl.length, List.length_map, z0E]
 refine ⟨_, rfl, p, dx, fs, rfl, h1, lm _ (by simp), _, rfl, p, a, _, zs, r, rows, us, pr, rfl, of, ha, hp', gr, l12, l60, fun H1 s1 => ?_⟩
 refine ⟨_, rfl, p, COffice, dx, fs, _, rfl, s1 _ _ h1, T.cl, T.n_written, l3, pl, xs, rfl, .inl (SqL.of (s1 _ _ h4)), _, _, rfl, rfl, ?_⟩
 refine ⟨_, rfl, p, COffice, dx, fs, _, rfl, s1 _ _ h1, T.cl, T.n_written, l3, pl, rfl, ⟨_, SqL.of (s1 _ _ h4)⟩, ?_⟩
 refine z3X (xs := xs) (fun i ys H' => Same H1 H' /\ z09 H' (((rows.take i).map z0R).map nmsD) ys) ⟨Same.refl _, by rw [List.take_zero]; exact .nil⟩ (fun i ys H' hi hq => ?_) (fun i x ys H' hx hq => ?_) (fun ys H' hq => ?_)
 ·obtain ⟨gg, t⟩ := hq
  refine ⟨SqL.of (gg _ _ (s1 _ _ h4)), z0g ?_⟩
  rw [t.length, List.length_map, List.length_map, List.length_take]
  omega
 ·obtain ⟨gg, t⟩ := hq
  have hi : i < rows.length := by
   have := (List.getElem?_eq_some_iff.mp hx).1
   omega
  obtain ⟨d, ed, td⟩ := tl.at i x hx
  unfold upI at ed
  rw [List.getElem?_map, List.getElem?_map, List.getElem?_range hi] at ed
  have ed' : z0M rows (1 + (i : Int)) r = d := Option.some.inj ed
  subst ed'
  have ew : z0J rows (1 + (i : Int)) = rows[i] := by
   unfold z0J
   rw [show (1 + (i : Int) - 1).toNat = i by omega, List.getD_eq_getElem?_getD, List.getElem?_eq_getElem hi]
   rfl
  obtain ⟨b, bs, rfl, eb, _, tb⟩ := z0f td
  obtain ⟨x0, ur, rfl, t0, tb⟩ := z0b tb
  obtain ⟨x1, ur, rfl, t1, tb⟩ := z0b tb
  rw [ew] at t1
  obtain ⟨c, cs, rfl, ec, _, tc⟩ := z0f t1
  refine ⟨_, rfl, b, _, _, _, rfl, rfl, SqT.of (gg _ _ (s1 _ _ eb)), z1d rfl, c, cs, rows[i], rfl, gg _ _ (s1 _ _ ec), z09.keep (s1.trans gg) _ _ tc, w12 _ (List.getElem_mem hi), fun l H2 s2 e2 => ⟨gg.trans s2, ?_⟩⟩
  rw [z0q (List.getElem?_eq_getElem hi), List.map_append, List.map_append]
  refine z09.snoc (z09.keep s2 _ _ t) (z0e e2 ?_ (z3k _))
  have := w12 _ (List.getElem_mem hi)
  unfold z0R
  rw [List.length_map, List.length_map]
  omega
 obtain ⟨gg, t⟩ := hq
 rw [lx, List.take_length] at t
 intro D hD
 have s2 := s1.trans (gg.trans (z01 hD (.lst ys)))
 have eD : upd H' D (.lst ys) D = some (.lst ys) := z02
 have t2 := z09.keep (z01 hD (.lst ys)) _ _ t
 generalize upd H' D (.lst ys) = H2 at s2 eD t2
 have l60' : ((rows.map z0R)).length ≤ 59 := by rw [List.length_map]; omega
 refine ⟨_, rfl, p, COffice, dx, fs, _, rfl, s2 _ _ h1, T.cl, T.n_written, l3, .inl ⟨rfl, _, SqL.of (s2 _ _ h4)⟩, ?_⟩
 refine ⟨_, rfl, _, rfl, p, COffice, dx, fs, _, rfl, s2 _ _ h1, T.cl, T.n_names, l1, _, rfl, pn, a, zs, us, pr, rfl, .inr (SqT.of (s2 _ _ h3)), g.hi, SqP.keep s2 ha, z2p.keep s2 hp', gr.nd, l12, fun v1 H3 s3 tv1 => ?_⟩
 have s23 := s2.trans s3
 refine ⟨_, rfl, _, rfl, p, COffice, dx, fs, _, rfl, s23 _ _ h1, T.cl, T.n_reach, l2, D, ys, rows.map z0R, r, rfl, .inl (SqL.of (s3 _ _ eD)), z09.keep s3 _ _ t2, l60', ?_, r0, r1, fun v2 H4 s4 tv2 => ?_⟩
 ·intro w' hw'
  obtain ⟨w0, hw0, rfl⟩ := List.mem_map.mp hw'
  have := w12 w0 hw0
  unfold z0R
  rw [List.length_map]
  exact this
 refine ⟨(by show 3 ≤ sizeLine; decide), fun q hq => ?_⟩
 have s24 := s23.trans (s4.trans (z01 hq (.tup [V.int ((xs.length : Int) + 1), v1, v2])))
 have eq' : upd H4 q (.tup [V.int ((xs.length : Int) + 1), v1, v2]) q = some (.tup [V.int ((xs.length : Int) + 1), v1, v2]) := z02
 have tv1' := Tell.keep (s4.trans (z01 hq (.tup [V.int ((xs.length : Int) + 1), v1, v2]))) _ _ tv1
 have tv2' := Tell.keep (z01 hq (.tup [V.int ((xs.length : Int) + 1), v1, v2])) _ _ tv2
 generalize upd H4 q (.tup [V.int ((xs.length : Int) + 1), v1, v2]) = H5 at s24 eq' tv1' tv2'
 refine ⟨pl, xs, .ref q, rfl, rfl, s24 _ _ h4, z0g (by omega), ?_⟩
 refine ⟨_, rfl, ?_⟩
 have np : p ≠ pl := z4t h1 h4 (fun z => by cases z)
 have nx : dx ≠ pl := z4t h2 h4 (fun z => by cases z)
 have nn : pn ≠ pl := z4t h3 h4 (fun z => by cases z)
 have h5 := s24 _ _ h4
 have e := k [p, dx, pl] (upd H5 pl (.lst (xs ++ [.ref q]))) (fun b hb => .inl hb) (fun b o e nb => by rw [z0d (fun z => nb (by rw [z]; simp))]; exact s24 _ _ e)
  ⟨dx, pn, pl, fs, _, rfl, by rw [z0d np]; exact s24 _ _ h1, by rw [z0d nx]; exact s24 _ _ h2, by rw [z0d nn]; exact s24 _ _ h3, z02, l1, l2, l3, lm, ?_, ?_, ?_, g, r0, r1⟩
 ·rw [<- lx] at e
  exact e
 ·refine z09.over h5 (fun _ z => by cases z) _ _ ?_
  rw [List.length_append, List.length_singleton, z6G, List.map_append]
  have e1 : (upI 1 rows.length).map (fun n => z0M (rows ++ [z18 zs pr]) n r) = (upI 1 rows.length).map fun n => z0M rows n r := List.map_congr_left fun n hn => by
   have := z0P.mp hn
   exact z9Y rows _ (by omega) (by omega)
  rw [e1]
  refine z09.snoc (z09.keep s24 _ _ tl) ?_
  have en : (1 : Int) + (rows.length : Int) = (rows.length : Int) + 1 := by omega
  have er : z0J (rows ++ [z18 zs pr]) ((rows.length : Int) + 1) = z18 zs pr := by
   unfold z0J
   rw [show ((rows.length : Int) + 1 - 1).toNat = rows.length by omega, List.getD_eq_getElem?_getD, List.getElem?_concat_length]
   rfl
  show Tell H5 (z0M (rows ++ [z18 zs pr]) (1 + (rows.length : Int)) r) (.ref q)
  unfold z0M
  rw [en, er, y2E rows _ r r0]
  rw [lx] at eq'
  exact z0e eq' (by show 3 ≤ 1000000; decide) (.cons (z0F _) (.cons tv1' (.cons tv2' .nil)))
 ·rw [List.length_append, List.length_singleton]
  omega
 ·intro w' hw'
  rcases List.mem_append.mp hw' with hw' | hw'
  ·exact w12 w' hw'
  ·rw [List.mem_singleton] at hw'
   rw [hw']
   exact Nat.le_trans (z4X zs pr) g.hi
abbrev Deed := Option Int × Int
def z2V : Deed -> List V
 | (none, n) => [.str "write", .int n]
 | (some r, n) => [.str "deliver", .int r, .int n]
def z4C (H : Hp) (u : V) (d : Deed) : Prop := ∃ b, u = .ref b /\ H b = some (.tup (z2V d))
theorem z3j {H : Hp} {us : List V} {log : List Deed} (h : Paired (z4C H) us log) : us.length = log.length := by
 induction h with
 | nil => rfl
 | cons _ _ ih => rw [List.length_cons, List.length_cons, ih]
def gotL (log : List Deed) (rd : Int) : List Int := log.foldl (fun acc d => if d.1 = some rd then addN acc d.2 else acc) []
theorem y1T (log : List Deed) (d : Deed) (rd : Int) : gotL (log ++ [d]) rd = if d.1 = some rd then addN (gotL log rd) d.2 else gotL log rd := by
 unfold gotL
 rw [List.foldl_append]
 rfl
theorem y3W {log : List Deed} {rd n : Int} : n ∈ gotL log rd ↔ ((some rd, n) : Deed) ∈ log := by
 have go : ∀ (log : List Deed) (acc : List Int), n ∈ log.foldl (fun acc d => if d.1 = some rd then addN acc d.2 else acc) acc ↔ n ∈ acc \/ ((some rd, n) : Deed) ∈ log := by
  intro log
  induction log with
  | nil => intro acc; exact ⟨.inl, fun h => h.elim id fun q => (nomatch q)⟩
  | cons d log ih =>
   intro acc
   rw [List.foldl_cons, ih, List.mem_cons]
   obtain ⟨a, m⟩ := d
   by_cases c : a = some rd
   ·subst c
    rw [if_pos rfl, y0K, or_assoc]
    exact or_congr Iff.rfl (or_congr ⟨fun e => by rw [e], fun e => congrArg Prod.snd e⟩ Iff.rfl)
   ·rw [if_neg c]
    exact or_congr Iff.rfl ⟨.inr, fun h => h.elim (fun e => absurd (congrArg Prod.fst e).symm c) id⟩
 unfold gotL
 rw [go]
 exact ⟨fun h => h.elim (fun q => (nomatch q)) id, .inr⟩
abbrev BkP := Hp -> Addr -> List Addr -> List Str -> Int -> Int -> List Row -> List Deed -> Prop
structure BkOk (C : Addr) (ms : List Str) (Bk : BkP) : Prop where
 ins : ∀ {H p fp zs r k rows log}, Bk H p fp zs r k rows log -> ∃ dx fs, H p = some (.ins C dx fs) /\ ∀ m ∈ ms, fs.lookup m = none
 own : ∀ {H p fp zs r k rows log}, Bk H p fp zs r k rows log -> ∀ b ∈ fp, ∃ o, H b = some o /\ ∀ xs, o ≠ .tup xs
 keep : ∀ {H H' p fp gp zs r k rows log}, Bk H p fp zs r k rows log -> z0s gp H H' -> (∀ b ∈ gp, b ∉ fp) -> z54 H gp -> Bk H' p fp zs r k rows log
theorem BkOk.same {C : Addr} {ms : List Str} {Bk : BkP} (O : BkOk C ms Bk) {H H' : Hp} {p : Addr} {fp : List Addr} {zs : List Str} {r k : Int} {rows : List Row} {log : List Deed} (h : Bk H p fp zs r k rows log) (s : Same H H') : Bk H' p fp zs r k rows log :=
 O.keep (gp := []) h (.of s) (fun _ q => by cases q) fun _ q => by cases q
theorem BkOk.noTup {C : Addr} {ms : List Str} {Bk : BkP} (O : BkOk C ms Bk) {H : Hp} {p : Addr} {fp : List Addr} {zs : List Str} {r k : Int} {rows : List Row} {log : List Deed} (h : Bk H p fp zs r k rows log) : z54 H fp := fun b m xs e => by
 obtain ⟨o, e1, n⟩ := O.own h b m
 rw [e1] at e
 exact n xs (Option.some.inj e)
def y0l (K : PySem.W.Frag) (C : Addr) (Bk : BkP) : Sp := fun vs H Q _ => ∃ (x dx pn : Addr) (zs : List Str) (r k : Int), vs = [.ref x, .ref pn, .int r, .int k] /\ H x = some (.ins C dx []) /\ dx ≠ x /\ H dx = some (.own x) /\ HdN K H pn zs /\ GoodN zs /\ 0 ≤ r /\ r ≤ 10 /\ 1 ≤ k /\ k ≤ 10 /\
 ∀ (fp : List Addr) (H' : Hp), (∀ b ∈ fp, b = x \/ b = dx \/ H b = none) -> z0s [x] H H' -> Bk H' x fp zs r k [] [] -> Q .non H'
def z9z (K : PySem.W.Frag) (Bk : BkP) : Sp := fun vs H Q _ => ∃ (p : Addr) (v : V) (fp : List Addr) (zs : List Str) (r k : Int) (rows : List Row) (log : List Deed) (pr : Row), vs = [.ref p, v] /\ Bk H p fp zs r k rows log /\ y2v K H fp v pr /\ GoodR zs pr /\ pr.length ≤ 12 /\ rows.length < 60 /\ log.length < 400 /\
 ∀ (fp' : List Addr) (H' : Hp), (∀ b ∈ fp', b ∈ fp \/ H b = none) -> z0s fp H H' -> Bk H' p fp' zs r k (rows ++ [z18 zs pr]) (log ++ [(none, (rows.length : Int) + 1)]) -> Q (.int (rows.length + 1)) H'
def z7D (Bk : BkP) : Sp := fun vs H Q _ => ∃ (p : Addr) (fp : List Addr) (zs : List Str) (r k : Int) (rows : List Row) (log : List Deed) (rd n : Int), vs = [.ref p, .int rd, .int n] /\ Bk H p fp zs r k rows log /\ 1 ≤ rd /\ rd ≤ k /\ 1 ≤ n /\ n ≤ rows.length /\ log.length < 400 /\
 ∀ (H' : Hp), z0s fp H H' -> Bk H' p fp zs r k rows (log ++ [(some rd, n)]) -> Q (.bl (decide (((some rd, n) : Deed) ∉ log))) H'
def y2U (Bk : BkP) : Sp := fun vs H Q _ => ∃ (p : Addr) (fp : List Addr) (zs : List Str) (r k : Int) (rows : List Row) (log : List Deed), vs = [.ref p] /\ Bk H p fp zs r k rows log /\ Q (.int log.length) H
def dedV : Option Nat -> V
 | none => .non
 | some d => .int d
def z5m (Bk : BkP) (Sh : ShP) : Sp := fun vs H Q _ => ∃ (p : Addr) (fp : List Addr) (zs : List Str) (r k : Int) (rows : List Row) (log : List Deed) (rd : Int) (o : Option Nat), vs = [.ref p, .int rd, dedV o] /\ Bk H p fp zs r k rows log /\ 1 ≤ rd /\ rd ≤ k /\ (∀ d, o = some d -> d ≤ log.length) /\
 ∀ (x : Addr) (fq : List Addr) (H' : Hp), (∀ b ∈ fq, H b = none) -> Same H H' -> Sh H' x fq zs r (fun n => z0M rows n r) (gotL (log.take (o.getD log.length)) rd) -> Q (.ref x) H'
theorem DeedsAt.but {fp : List Addr} {H H' : Hp} {us : List V} {log : List Deed} (s : z0s fp H H') (n : z54 H fp) (h : Paired (z4C H) us log) : Paired (z4C H') us log :=
 L2.Paired.mapP h fun u d ⟨b, e, q⟩ => ⟨b, e, s _ _ q fun m => n b m _ q⟩
structure BkIn (K : PySem.W.Frag) (CB CO : Addr) (H : Hp) (p dx po pd : Addr) (fs : List (Str × V)) (fo : List Addr) (us : List V) (zs : List Str) (r k : Int) (rows : List Row) (log : List Deed) : Prop where
 hp : H p = some (.ins CB dx fs)
 hdx : H dx = some (.own p)
 of : OfD K CO H po fo zs r rows
 hd : H pd = some (.lst us)
 ds : Paired (z4C H) us log
 npo : p ∉ fo
 ndo : dx ∉ fo
 ndn : pd ∉ fo
 lo : fs.lookup ("office" : Str) = some (V.ref po)
 lr : fs.lookup ("readers" : Str) = some (V.int k)
 ld : fs.lookup ("done" : Str) = some (V.ref pd)
 lm : ∀ m ∈ (["refuse_unknown_reader", "refuse_further_deed", "write", "deliver", "latest", "issue", "deeds", "deed", "shelf"] : List Str), fs.lookup m = none
 l4 : log.length ≤ 400
 in1 : ∀ d ∈ log, 1 ≤ d.2 /\ d.2 ≤ rows.length
 k1 : 1 ≤ k
 k10 : k ≤ 10
def BkD (K : PySem.W.Frag) (CB CO : Addr) : BkP := fun H p fp zs r k rows log => ∃ (dx po pd : Addr) (fs : List (Str × V)) (fo : List Addr) (us : List V), fp = p :: dx :: pd :: fo /\ BkIn K CB CO H p dx po pd fs fo us zs r k rows log
theorem bkOk {K : PySem.W.Frag} {CB CO : Addr} : BkOk CB ["write", "deliver", "latest", "issue", "deeds", "deed", "shelf"] (BkD K CB CO) := by
 refine ⟨fun h => ?_, fun h b hb => ?_, fun h s out nt => ?_⟩
 ·obtain ⟨dx, po, pd, fs, fo, us, rfl, B⟩ := h
  refine ⟨dx, fs, B.hp, fun m hm => B.lm m ?_⟩
  exact List.mem_cons_of_mem _ (List.mem_cons_of_mem _ hm)
 ·obtain ⟨dx, po, pd, fs, fo, us, rfl, B⟩ := h
  rcases List.mem_cons.mp hb with rfl | hb
  ·exact ⟨_, B.hp, fun xs z => by cases z⟩
  rcases List.mem_cons.mp hb with rfl | hb
  ·exact ⟨_, B.hdx, fun xs z => by cases z⟩
  rcases List.mem_cons.mp hb with rfl | hb
  ·exact ⟨_, B.hd, fun xs z => by cases z⟩
  exact ofOk.own B.of b hb
 ·obtain ⟨dx, po, pd, fs, fo, us, rfl, B⟩ := h
  exact ⟨dx, po, pd, fs, fo, us, rfl, { B with
   hp := s _ _ B.hp fun m => out _ m (by simp)
   hdx := s _ _ B.hdx fun m => out _ m (by simp)
   of := ofOk.keep B.of s (fun b m z => out b m (by simp [z])) nt
   hd := s _ _ B.hd fun m => out _ m (by simp)
   ds := DeedsAt.but s nt B.ds }⟩
def z6j : Sp := fun vs H Q _ => ∃ k : Int, vs = [.int k] /\ 1 ≤ k /\ k ≤ 10 /\ Q .non H
theorem z8z (M : Bl mg) (F : Fun K "refuse_bad_readers" "refuse_bad_readers" z1K f fd) : FnOk P w K mg base CX0 1 f fd z1M z6j := by
 have nd := z2t.nd
 refine F.ok z2t (fun vs H Q E h => ?_) (fun cdv A outer s H vs Q E hr h => ?_)
 ·obtain ⟨r, rfl, _⟩ := h
  rfl
 ·obtain ⟨r, rfl, r0, r1, k⟩ := h
  refine ⟨_, (z05 (z0S (PW.pt (z7E (z0l z8r (pv 0) z08 (z0u _)) (z41 (z0l z4v (pv 0) (z28 rfl M.MOST_READERS) (z0u _))))) (z05 z1b) z0t)), ?_⟩
  refine ⟨_, rfl, _, _, rfl, rfl, _, rfl, ite2 (fun q => absurd (z0H q) (by omega)) fun _ => ?_⟩
  exact ⟨_, rfl, _, _, rfl, rfl, _, rfl, ite2 (fun q => absurd (z0H q) (by omega)) fun _ => k⟩
def z4W (Bk : BkP) : Sp := fun vs H Q _ => ∃ (p : Addr) (fp : List Addr) (zs : List Str) (r k : Int) (rows : List Row) (log : List Deed) (rd : Int), vs = [.ref p, .int rd] /\ Bk H p fp zs r k rows log /\ 1 ≤ rd /\ rd ≤ k /\ Q .non H
theorem z9e {CBook COffice : Addr} (M : Bl mg) (T : TxBook K mg CBook) (F : Fun K "refuse_unknown_reader" "Book.refuse_unknown_reader" z0T f fd) : FnOk P w K mg base CX0 1 f fd z0G (z4W (BkD K CBook COffice)) := by
 have nd := z1p.nd
 refine F.ok z1p (fun vs H Q E h => ?_) (fun cdv A outer s H vs Q E hr h => ?_)
 ·obtain ⟨p, fp, zs, r, k, rows, log, rd, rfl, _⟩ := h
  rfl
 obtain ⟨p, fp, zs, r, k, rows, log, rd, rfl, ⟨dx, po, pd, fs, fo, us, rfl, B⟩, r1, r2, q⟩ := h
 refine ⟨_, (z05 (z0S (PW.pt (z7E (z0l z8r (pv 1) z08 (z0u _)) (z41 (z0l z4v (pv 1) (z0A (pv 0) rfl) (z0u _))))) (z05 z1b) z0t)), ?_⟩
 refine ⟨_, rfl, _, _, rfl, rfl, _, rfl, ite2 (fun q => absurd (z0H q) (by omega)) fun _ => ?_⟩
 exact ⟨_, rfl, _, rfl, p, CBook, dx, fs, _, rfl, B.hp, T.cl, T.n_readers, B.lr, _, _, rfl, rfl, _, rfl, ite2 (fun q => absurd (z0H q) (by omega)) fun _ => q⟩
def z7L (Bk : BkP) : Sp := fun vs H Q _ => ∃ (p : Addr) (fp : List Addr) (zs : List Str) (r k : Int) (rows : List Row) (log : List Deed), vs = [.ref p] /\ Bk H p fp zs r k rows log /\ log.length < 400 /\ Q .non H
theorem y12 {CBook COffice : Addr} (M : Bl mg) (T : TxBook K mg CBook) (F : Fun K "refuse_further_deed" "Book.refuse_further_deed" z11 f fd) : FnOk P w K mg base CX0 1 f fd z0L (z7L (BkD K CBook COffice)) := by
 have nd := z1C.nd
 refine F.ok z1C (fun vs H Q E h => ?_) (fun cdv A outer s H vs Q E hr h => ?_)
 ·obtain ⟨p, fp, zs, r, k, rows, log, rfl, _⟩ := h
  rfl
 obtain ⟨p, fp, zs, r, k, rows, log, rfl, ⟨dx, po, pd, fs, fo, us, rfl, B⟩, l4, q⟩ := h
 refine ⟨_, (z05 (z0S (z0l y5Y (z0j z0a rfl M.len PySem.boot_len (z00 (z0A (pv 0) rfl) z03)) (z28 rfl M.MOST_DEEDS) (z0u _)) (z05 z1b) z0t)), ?_⟩
 have lu := z3j B.ds
 exact ⟨_, rfl, p, CBook, dx, fs, _, rfl, B.hp, T.cl, T.n_done, B.ld, pd, us, rfl, .inl (SqL.of B.hd), _, _, rfl, rfl, _, rfl, ite2 (fun q => absurd (z0H q) (by omega)) fun _ => q⟩
theorem y1j {CBook COffice : Addr} (M : Bl mg) (T : TxBook K mg CBook) (F : Fun K "deeds" "Book.deeds" z4Q f fd) : FnOk P w K mg base CX0 1 f fd z7m (y2U (BkD K CBook COffice)) := by
 have nd := z6s.nd
 refine F.ok z6s (fun vs H Q E h => ?_) (fun cdv A outer s H vs Q E hr h => ?_)
 ·obtain ⟨p, fp, zs, r, k, rows, log, rfl, _⟩ := h
  rfl
 obtain ⟨p, fp, zs, r, k, rows, log, rfl, ⟨dx, po, pd, fs, fo, us, rfl, B⟩, q⟩ := h
 refine ⟨_, (z05 (z0k (z0j z0a rfl M.len PySem.boot_len (z00 (z0A (pv 0) rfl) z03)))), ?_⟩
 have lu := z3j B.ds
 refine ⟨_, rfl, p, CBook, dx, fs, _, rfl, B.hp, T.cl, T.n_done, B.ld, pd, us, rfl, .inl (SqL.of B.hd), ?_⟩
 rw [lu]
 exact q
theorem y1S {CBook COffice : Addr} (M : Bl mg) (T : TxBook K mg CBook) (F : Fun K "__init__" "Book.__init__" z37 f fd) (GOffice : Mkr P w K mg base 3 COffice "Office" z2r (y10 K COffice (OfD K COffice)))
  (Grefuse_bad_readers : Cal P w K mg base 1 "refuse_bad_readers" z1M z6j) : FnOk P w K mg base CX0 6 f fd z36 (y0l K CBook (BkD K CBook COffice)) := by
 have nd := z3V.nd
 refine F.ok z3V (fun vs H Q E h => ?_) (fun cdv A outer s H vs Q E hr h => ?_)
 ·obtain ⟨x, dx, pn, zs, r, k, rfl, _⟩ := h
  rfl
 obtain ⟨x, dx, pn, zs, r, k, rfl, hx, ne, hdx, hn, g, r0, r1, k1, k10, q⟩ := h
 refine ⟨_, (z04 (z5G (pv 0) (y3A GOffice (rm hr) rfl (z00 (pv 1) (z00 (pv 2) z03))) rfl) (z04 (z0B (z0h Grefuse_bad_readers (rm hr) rfl (z00 (pv 3) z03))) (z04 (z5G (pv 0) (pv 3) rfl) (z05 (z5G (pv 0) (z2l z03) rfl))))), ?_⟩
 refine ⟨_, rfl, _, rfl, fun po dxo nx ndx neo => ?_⟩
 have m1 := z7c (C := COffice) (Same.refl H) nx ndx
 refine ⟨po, dxo, pn, zs, r, rfl, z02, neo, by rw [z0d neo, z02], HdN.keep m1 hn, g, r0, r1, fun fo H1 ff sb of => ⟨rfl, ?_⟩⟩
 have s1 : Same H H1 := z7I sb m1 nx
 have f1 : ∀ b ∈ fo, H b = none := fun b hb => z63 m1 nx ndx (ff b hb)
 refine ⟨_, rfl, x, CBook, dx, [], rfl, s1 _ _ hx, T.cl, T.n_office, by decide, ?_⟩
 have z1 := z1t "office" (.ref po) []
 have z2 := z1t "readers" (.int k) (putF "office" (.ref po) [])
 have z0 : ([] : List (Str × V)).length = 0 := rfl
 refine ⟨_, rfl, k, rfl, k1, k10, ?_⟩
 refine ⟨_, rfl, _, rfl, x, CBook, dx, _, rfl, z02, T.cl, T.n_readers, (by omega), ?_⟩
 rw [z4U]
 refine ⟨(by show 0 ≤ sizeLine; decide), fun pd hd => ?_⟩
 have nxp : x ≠ pd := z0i z02 hd
 have dfr : H1 pd = none := by rw [z0d (Ne.symm nxp)] at hd; exact hd
 have ndd : dx ≠ pd := z0i (s1 _ _ hdx) dfr
 have out : ∀ {b : Addr} {o : HO}, H b = some o -> b ∉ fo := fun e m => by rw [f1 _ m] at e; cases e
 refine ⟨_, rfl, x, CBook, dx, _, rfl, (by rw [z0d nxp, z02]), T.cl, T.n_done, (by omega), ?_⟩
 have sx : z0s [x] H1 (upd (upd (upd H1 x (.ins CBook dx (putF "readers" (.int k) (putF "office" (.ref po) [])))) pd (.lst [])) x (.ins CBook dx (putF "done" (.ref pd) (putF "readers" (.int k) (putF "office" (.ref po) []))))) := fun b o e nb => by
  rw [List.mem_singleton] at nb
  rw [z0d nb, z0d (z0i e dfr), z0d nb]
  exact e
 refine q (x :: dx :: pd :: fo) _ (fun b hb => ?_) (fun b o e nb => sx b o (s1 _ _ e) nb) ⟨dx, po, pd, _, fo, [], rfl, ⟨z02, ?_, ?_, ?_, .nil, out hx, out hdx, ?_, ?_, ?_, ?_, ?_, by decide, fun _ q => (nomatch q), k1, k10⟩⟩
 ·rcases List.mem_cons.mp hb with rfl | hb
  ·exact .inl rfl
  rcases List.mem_cons.mp hb with rfl | hb
  ·exact .inr (.inl rfl)
  rcases List.mem_cons.mp hb with rfl | hb
  ·exact .inr (.inr (s1.free dfr))
  ·exact .inr (.inr (f1 b hb))
 ·exact sx _ _ (s1 _ _ hdx) (by rw [List.mem_singleton]; exact ne)
 ·refine ofOk.keep of sx (fun b m => ?_) fun b m xs e => ?_
  ·rw [List.mem_singleton.mp m]
   exact out hx
  ·rw [List.mem_singleton.mp m, s1 _ _ hx] at e
   cases e
 ·rw [z0d (Ne.symm nxp), z02]
 ·intro m
  obtain ⟨o, e, _⟩ := ofOk.own of pd m
  rw [dfr] at e
  cases e
 ·rw [z0n, if_neg (by decide +kernel), z0n, if_neg (by decide +kernel), z0n, if_pos rfl]
 ·rw [z0n, if_neg (by decide +kernel), z0n, if_pos rfl]
 ·rw [z0n, if_pos rfl]
 ·intro m hm
  simp only [List.mem_cons, List.not_mem_nil, or_false] at hm
  rcases hm with rfl | rfl | rfl | rfl | rfl | rfl | rfl | rfl | rfl <;> rw [z0n, if_neg (by decide +kernel), z0n, if_neg (by decide +kernel), z0n, if_neg (by decide +kernel)] <;> rfl
theorem y4Z {K : PySem.W.Frag} {CB CO : Addr} {H H1 : Hp} {p dx po pd t : Addr} {fs : List (Str × V)} {fo fo' : List Addr} {us : List V} {zs : List Str} {r k : Int} {rows rows' : List Row} {log : List Deed} {d : Deed} (B : BkIn K CB CO H p dx po pd fs fo us zs r k rows log)
  (sb : z0s fo H H1) (of : OfD K CO H1 po fo' zs r rows') (ff : ∀ b ∈ fo', b ∈ fo \/ H b = none) (ht : H1 t = some (.tup (z2V d))) (hl : rows.length ≤ rows'.length) (hd1 : 1 ≤ d.2 /\ d.2 ≤ rows'.length) (l4 : log.length < 400) :
  z0s (p :: dx :: pd :: fo) H (upd H1 pd (.lst (us ++ [.ref t]))) /\ BkD K CB CO (upd H1 pd (.lst (us ++ [.ref t]))) p (p :: dx :: pd :: fo') zs r k rows' (log ++ [d]) := by
 have ntf : z54 H fo := ofOk.noTup B.of
 have hd' := sb _ _ B.hd B.ndn
 have out : ∀ {b : Addr} {o : HO}, H b = some o -> b ∉ fo -> b ∉ fo' := fun e n m => (ff _ m).elim n fun z => by rw [z] at e; cases e
 have s2 : z0s [pd] H1 (upd H1 pd (.lst (us ++ [.ref t]))) := fun b o e nb => by
  rw [List.mem_singleton] at nb
  rw [z0d nb]
  exact e
 have nt2 : z54 H1 [pd] := fun b m xs e => by
  rw [List.mem_singleton.mp m, hd'] at e
  cases e
 have npd : p ≠ pd := z4t B.hp B.hd (fun z => by cases z)
 have ndd : dx ≠ pd := z4t B.hdx B.hd (fun z => by cases z)
 refine ⟨fun b o e nb => ?_, dx, po, pd, fs, fo', us ++ [.ref t], rfl, { B with
  hp := by rw [z0d npd]; exact sb _ _ B.hp B.npo
  hdx := by rw [z0d ndd]; exact sb _ _ B.hdx B.ndo
  of := ofOk.keep of s2 (fun b m => by rw [List.mem_singleton.mp m]; exact out B.hd B.ndn) nt2
  hd := z02
  ds := ?_
  npo := out B.hp B.npo
  ndo := out B.hdx B.ndo
  ndn := out B.hd B.ndn
  l4 := by rw [List.length_append]; exact l4
  in1 := fun x hx => ?_ }⟩
 ·rw [List.mem_cons, List.mem_cons, List.mem_cons, not_or, not_or, not_or] at nb
  rw [z0d nb.2.2.1]
  exact sb _ _ e nb.2.2.2
 ·exact Paired.snoc (DeedsAt.but s2 nt2 (DeedsAt.but sb ntf B.ds)) ⟨t, rfl, s2 _ _ ht fun m => nt2 t m _ ht⟩
 ·rcases List.mem_append.mp hx with hx | hx
  ·have := B.in1 x hx
   omega
  ·rw [List.mem_singleton.mp hx]
   exact hd1
theorem y1G {CBook COffice : Addr} (M : Bl mg) (T : TxBook K mg CBook) (F : Fun K "write" "Book.write" z51 f fd) (GOffice_refuse_writing : MCal P w K mg base 3 COffice "refuse_writing" z0U (z7n K (OfD K COffice)))
  (GOffice_write : MCal P w K mg base 4 COffice "write" z3p (z9m K (OfD K COffice))) (GBook_refuse_further_deed : MCal P w K mg base 1 CBook "refuse_further_deed" z0L (z7L (BkD K CBook COffice))) :
  FnOk P w K mg base CX0 5 f fd z55 (z9z K (BkD K CBook COffice)) := by
 have nd := z6x.nd
 refine F.ok z6x (fun vs H Q E h => ?_) (fun cdv A outer s H vs Q E hr h => ?_)
 ·obtain ⟨p, v, fp, zs, r, k, rows, log, pr, rfl, _⟩ := h
  rfl
 obtain ⟨p, v, fp, zs, r, k, rows, log, pr, rfl, bk, ⟨a, vs, rfl, ha, na, hpr⟩, gr, l12, l60, l4, q⟩ := h
 refine ⟨_, (z04 (z0B (z1X GOffice_refuse_writing (rm hr) (z0A (pv 0) rfl) (z00 (pv 1) z03))) (z04 (z0B (z1I GBook_refuse_further_deed (rm hr) (pv 0))) (z04 (z0p (i := 2) nd rfl (Or.inl rfl) (z1X GOffice_write (rm hr) (z0A (pv 0) rfl) (z00 (pv 1) z03))) (z04 (z0B (z58 PySem.F.plainAttrs_list PySem.F.slot_list_append PySem.F.type_list_append z1e (z0A (pv 0) rfl) (z00 (z0z (z00 (z1B rfl M.WRITE) (z00 (pv 2) z03))) z03))) (z05 (z0k (pv 2))))))), ?_⟩
 obtain ⟨dx, po, pd, fs, fo, us, rfl, B⟩ := id bk
 have no : ∀ {b : Addr}, b ∉ p :: dx :: pd :: fo -> b ∉ fo := fun n m => n (by simp [m])
 have hand : Paired (z8s K H fo) vs pr := L2.Paired.mapP hpr fun u x ⟨b, e, q, n⟩ => ⟨b, e, q, no n⟩
 obtain ⟨dxo, pno, plo, fso, xso, efo, h1, h2, h3, h4, l1, l2, l3, lmo, _⟩ := id B.of
 refine ⟨_, rfl, p, CBook, dx, fs, _, rfl, B.hp, T.cl, T.n_office, B.lo, po, dxo, fso, rfl, h1, lmo _ (by simp), _, rfl, po, a, fo, zs, r, rows, vs, pr, rfl, B.of, ha, z2p.of hand, gr, l12, l60, fun H1 s1 => ?_⟩
 refine ⟨_, rfl, p, dx, fs, rfl, s1 _ _ B.hp, B.lm _ (by simp), p, _, zs, r, k, rows, log, rfl, bkOk.same bk s1, l4, ?_⟩
 have ha1 : y2v K H1 fo (.ref a) pr := ⟨a, vs, rfl, SqP.keep s1 ha, no na, L2.Paired.mapP hand fun u x ⟨b, e, q, n⟩ => ⟨b, e, q.imp (fun z => s1.seq z) fun z => z5l s1 z, n⟩⟩
 refine ⟨_, rfl, p, CBook, dx, fs, _, rfl, s1 _ _ B.hp, T.cl, T.n_office, B.lo, po, dxo, fso, rfl, s1 _ _ h1, lmo _ (by simp), _, rfl, po, .ref a, fo, zs, r, rows, pr, rfl, ofOk.same B.of s1, ha1, gr, l12, l60, fun fo' H2 ff sb of2 => ?_⟩
 have sb2 : z0s fo H H2 := fun b o e n => sb _ _ (s1 _ _ e) n
 have lu := z3j B.ds
 refine ⟨_, rfl, p, CBook, dx, fs, _, rfl, sb2 _ _ B.hp B.npo, T.cl, T.n_done, B.ld, .inl ⟨rfl, _, SqL.of (sb2 _ _ B.hd B.ndn)⟩, ?_⟩
 refine ⟨_, rfl, (by show 2 ≤ sizeLine; decide), fun t ht => ⟨pd, us, _, rfl, rfl, z01 ht _ _ _ (sb2 _ _ B.hd B.ndn), z0g (by omega), ?_⟩⟩
 have s3 := z01 ht (.tup [V.str "write", V.int ((rows.length : Int) + 1)])
 have et : upd H2 t (.tup [V.str "write", V.int ((rows.length : Int) + 1)]) t = some (.tup (z2V (none, (rows.length : Int) + 1))) := z02
 have sb3 : z0s fo H (upd H2 t (.tup [V.str "write", V.int ((rows.length : Int) + 1)])) := fun b o e n => s3 _ _ (sb2 _ _ e n)
 have of3 := ofOk.same of2 s3
 obtain ⟨g1, g2⟩ := y4Z B sb3 of3 (fun b m => (ff b m).imp id fun z => s1.free z) et (by rw [List.length_append]; omega) ⟨by show (1 : Int) ≤ rows.length + 1; omega, by show ((rows.length : Int) + 1) ≤ _; rw [List.length_append]; exact Int.le_refl _⟩ l4
 refine ⟨_, rfl, q (p :: dx :: pd :: fo') _ (fun b hb => ?_) g1 g2⟩
 rcases List.mem_cons.mp hb with rfl | hb
 ·exact .inl (by simp)
 rcases List.mem_cons.mp hb with rfl | hb
 ·exact .inl (by simp)
 rcases List.mem_cons.mp hb with rfl | hb
 ·exact .inl (by simp)
 exact (ff b hb).imp (fun z => by simp [z]) fun z => s1.free z
theorem y3c (d : Deed) (rd n : Int) : z2K (z2V d) (z2V (some rd, n)) = decide (d = (some rd, n)) := by
 obtain ⟨a, m⟩ := d
 cases a with
 | none =>
  rw [decide_eq_false (fun e => by cases e)]
  rfl
 | some r =>
  show (eqV (.str "deliver") (.str "deliver") && (eqV (.int r) (.int rd) && (eqV (.int m) (.int n) && true))) = _
  rw [z8B rfl, Bool.true_and, Bool.and_true, Bool.eq_iff_iff, Bool.and_eq_true, decide_eq_true_eq]
  show (r == rd) = true /\ (m == n) = true ↔ _
  rw [beq_iff_eq, beq_iff_eq]
  exact ⟨fun h => by rw [h.1, h.2], fun h => by cases h; exact ⟨rfl, rfl⟩⟩
theorem y4B (log : List Deed) (rd n : Int) : (!(log.map z2V).any fun ys => z2K ys (z2V (some rd, n))) = decide (((some rd, n) : Deed) ∉ log) := by
 rw [List.any_map, Bool.eq_iff_iff, Bool.not_eq_true', decide_eq_true_eq, List.any_eq_false]
 refine ⟨fun h m => h _ m ?_, fun h d hd e => h ?_⟩
 ·show z2K _ _ = true
  rw [y3c]
  exact decide_eq_true rfl
 ·have e' : z2K (z2V d) (z2V (some rd, n)) = true := e
  rw [y3c] at e'
  rw [<- of_decide_eq_true e']
  exact hd
theorem z9u (d : Deed) : (z2V d).all z20 = true := by
 obtain ⟨a, m⟩ := d
 cases a <;> rfl
theorem z9K {CBook COffice : Addr} (M : Bl mg) (T : TxBook K mg CBook) (F : Fun K "deliver" "Book.deliver" z3G f fd) (GOffice_issue : MCal P w K mg base 1 COffice "issue" z1V (z5s (OfD K COffice)))
  (GBook_refuse_unknown_reader : MCal P w K mg base 1 CBook "refuse_unknown_reader" z0G (z4W (BkD K CBook COffice))) (GBook_refuse_further_deed : MCal P w K mg base 1 CBook "refuse_further_deed" z0L (z7L (BkD K CBook COffice))) :
  FnOk P w K mg base CX0 5 f fd z3y (z7D (BkD K CBook COffice)) := by
 have nd := z4w.nd
 refine F.ok z4w (fun vs H Q E h => ?_) (fun cdv A outer s H vs Q E hr h => ?_)
 ·obtain ⟨p, fp, zs, r, k, rows, log, rd, n, rfl, _⟩ := h
  rfl
 obtain ⟨p, fp, zs, r, k, rows, log, rd, n, rfl, bk, r1, r2, n1, n2, l4, q⟩ := h
 have hu := z9L hr
 refine ⟨_, (z04 (z0B (z1X GOffice_issue (rm hr) (z0A (pv 0) rfl) (z00 (pv 2) z03))) (z04 (z0B (z1X GBook_refuse_unknown_reader (rm hr) (pv 0) (z00 (pv 1) z03))) (z04 (z0B (z1I GBook_refuse_further_deed (rm hr) (pv 0))) (z04 (z0p (i := 3) nd rfl (Or.inl rfl) (z0z (z00 (z1B rfl M.DELIVER) (z00 (pv 1) (z00 (pv 2) z03))))) (z04 (z0p (i := 4) nd rfl (Or.inl rfl) (z8G (y3i hu) (pv 3) (z0A (pv 0) rfl) (by with_unfolding_all rfl))) (z04 (z0B (z58 PySem.F.plainAttrs_list PySem.F.slot_list_append PySem.F.type_list_append z1e (z0A (pv 0) rfl) (z00 (pv 3) z03))) (z05 (z0k (pv 4))))))))), ?_⟩
 obtain ⟨dx, po, pd, fs, fo, us, rfl, B⟩ := id bk
 obtain ⟨dxo, pno, plo, fso, xso, efo, h1, h2, h3, h4, l1, l2, l3, lmo, _⟩ := id B.of
 refine ⟨_, rfl, p, CBook, dx, fs, _, rfl, B.hp, T.cl, T.n_office, B.lo, po, dxo, fso, rfl, h1, lmo _ (by simp), _, rfl, po, fo, zs, r, rows, n, rfl, B.of, n1, n2, fun v H1 s1 _ => ?_⟩
 have bk1 := bkOk.same bk s1
 refine ⟨_, rfl, p, dx, fs, rfl, s1 _ _ B.hp, B.lm _ (by simp), _, rfl, p, _, zs, r, k, rows, log, rd, rfl, bk1, r1, r2, ?_⟩
 refine ⟨_, rfl, p, dx, fs, rfl, s1 _ _ B.hp, B.lm _ (by simp), p, _, zs, r, k, rows, log, rfl, bk1, l4, ?_⟩
 refine ⟨_, rfl, _, rfl, (by show 3 ≤ sizeLine; decide), fun t ht => ?_⟩
 have s2 := s1.trans (z01 ht (.tup [V.str "deliver", V.int rd, V.int n]))
 have et : upd H1 t (.tup [V.str "deliver", V.int rd, V.int n]) t = some (.tup (z2V (some rd, n))) := z02
 generalize upd H1 t (.tup [V.str "deliver", V.int rd, V.int n]) = H2 at s2 et
 have lu := z3j B.ds
 have prs : Paired (fun u ys => ∃ b, u = .ref b /\ SqT K H2 b ys /\ ys.all z20 = true) us (log.map z2V) := by
  have go : ∀ {us : List V} {log : List Deed}, Paired (z4C H) us log -> Paired (fun u ys => ∃ b, u = .ref b /\ SqT K H2 b ys /\ ys.all z20 = true) us (log.map z2V) := by
   intro us log h
   induction h with
   | nil => exact .nil
   | cons h t ih =>
    obtain ⟨b, e, q⟩ := h
    exact .cons ⟨b, e, SqT.of (s2 _ _ q), z9u _⟩ ih
  exact go B.ds
 refine ⟨_, rfl, _, rfl, p, CBook, dx, fs, _, rfl, s2 _ _ B.hp, T.cl, T.n_done, B.ld, t, pd, _, us, _, rfl, rfl, SqT.of et, z9u _, SqL.of (s2 _ _ B.hd), prs, ?_⟩
 rw [y4B]
 refine ⟨_, rfl, p, CBook, dx, fs, _, rfl, s2 _ _ B.hp, T.cl, T.n_done, B.ld, .inl ⟨rfl, _, SqL.of (s2 _ _ B.hd)⟩, _, rfl, pd, us, _, rfl, rfl, s2 _ _ B.hd, z0g (by omega), ?_⟩
 obtain ⟨g1, g2⟩ := y4Z B (.of s2) (ofOk.same B.of s2) (fun b m => .inl m) et (Nat.le_refl _) ⟨n1, n2⟩ l4
 exact ⟨_, rfl, q _ g1 g2⟩
theorem y51 {xs : List V} {k : Nat} (h : k ≤ xs.length) : cutV xs none (some (k : Int)) = xs.take k := by
 unfold cutV
 have e1 : HT.sIx xs.length 0 none = 0 := rfl
 have e2 : HT.sIx xs.length xs.length (some (k : Int)) = k := by
  rw [HT.z8W, Nat.min_eq_left h]
 rw [e1, e2, List.drop_zero, Nat.sub_zero]
theorem y4z {H : Hp} : ∀ {us : List V} {log : List Deed}, Paired (z4C H) us log -> ∀ (c i : Nat) (u : V), (us.take c)[i]? = some u -> ∃ d, (log.take c)[i]? = some d /\ z4C H u d := by
 intro us log h
 induction h with
 | nil => intro c i u e; rw [List.take_nil] at e; simp at e
 | cons h t ih =>
  intro c i u e
  cases c with
  | zero => simp at e
  | succ c =>
   rw [List.take_succ_cons] at e ⊢
   cases i with
   | zero =>
    simp at e
    subst e
    exact ⟨_, rfl, h⟩
   | succ i =>
    obtain ⟨d, q1, q2⟩ := ih c i u (by simpa using e)
    exact ⟨d, by simpa using q1, q2⟩
theorem y4w (d : Deed) (rd : Int) : z2K ((z2V d).take 2) [.str "deliver", .int rd] = decide (d.1 = some rd) := by
 obtain ⟨a, m⟩ := d
 cases a with
 | none =>
  rw [decide_eq_false (fun e => by cases e)]
  rfl
 | some r =>
  show (eqV (.str "deliver") (.str "deliver") && (eqV (.int r) (.int rd) && true)) = _
  rw [z8B rfl, Bool.true_and, Bool.and_true, Bool.eq_iff_iff, decide_eq_true_eq]
  show (r == rd) = true ↔ _
  rw [beq_iff_eq]
  exact ⟨fun h => by rw [h], fun h => Option.some.inj h⟩
theorem z8d {CBook COffice CShelf T0 : Addr} {items : Array Value} (M : Bl mg) (T : TxBook K mg CBook) (TO : TxOffice K mg COffice) (F : FunD K "shelf" "Book.shelf" z4T f fd T0 items) (GOffice_issue : MCal P w K mg base 1 COffice "issue" z1V (z5s (OfD K COffice)))
  (GBook_refuse_unknown_reader : MCal P w K mg base 1 CBook "refuse_unknown_reader" z0G (z4W (BkD K CBook COffice))) (GShelf : Mkr P w K mg base 3 CShelf "Shelf" z2D (y0Y K CShelf (ShD K CShelf)))
  (GShelf_put : MCal P w K mg base 1 CShelf "put" z62 (y6K (ShD K CShelf))) : FnOk P w K mg base CX0 6 f fd z2y (z5m (BkD K CBook COffice) (ShD K CShelf)) := by
 have nd := z6g.nd
 refine F.ok z6g (fun vs H Q E h => ?_) (fun cdv A outer s H vs Q E hr h => ?_)
 ·obtain ⟨p, fp, zs, r, k, rows, log, rd, o, rfl, _⟩ := h
  rfl
 obtain ⟨p, fp, zs, r, k, rows, log, rd, o, rfl, bk, r1, r2, od, q⟩ := h
 refine ⟨_, (z04 (z0p (i := 3) nd rfl (Or.inl rfl) (z3E (z6q (z6R (pv 2))) (z0j z0a rfl M.len PySem.boot_len (z00 (z0A (pv 0) rfl) z03)) (pv 2))) (z04 (z0S (PW.pt (z7E (z0l z8r (pv 3) z08 (z0u _)) (z41 (z0l z4v (pv 3) (z0j z0a rfl M.len PySem.boot_len (z00 (z0A (pv 0) rfl) z03)) (z0u _))))) (z05 z1b) z0t) (z04 (z0B (z1X GBook_refuse_unknown_reader (rm hr) (pv 0) (z00 (pv 1) z03))) (z04 (z0p (i := 4) nd rfl (Or.inl rfl) (y3A GShelf (rm hr) rfl (z00 (z0A (z0A (pv 0) rfl) rfl) (z00 (z0A (z0A (pv 0) rfl) rfl) z03)))) (z04 (z1i PassesOwn.never rfl (z24 (z2P y3B (z0A (pv 0) rfl) z3U (z3T (pv 3)))) (z0m (i := 5) nd rfl (Or.inl rfl)) (z05 (z0S (z0l (y31 hr.units0) (z2P y2d (pv 5) z3U (z3T z08)) (z0z (z00 (z1B rfl M.DELIVER) (z00 (pv 1) z03))) (z0u _)) (z05 (z0B (z1X GShelf_put (rm hr) (pv 4) (z00 (z1X GOffice_issue (rm hr) (z0A (pv 0) rfl) (z00 (z1q z22 (pv 5) z08 (fun _ _ => rfl)) z03)) z03)))) z0t))) (z05 (z0k (pv 4)))))))), ?_⟩
 obtain ⟨dx, po, pd, fs, fo, us, rfl, B⟩ := id bk
 obtain ⟨dxo, pno, plo, fso, xso, efo, h1, h2, h3, h4, l1, l2, l3, lmo, _, _, _, g, r0, r10⟩ := id B.of
 have lu := z3j B.ds
 have cle : o.getD log.length ≤ log.length := by
  cases o with
  | none => exact Nat.le_refl _
  | some d => exact od d rfl
 have beh : ∀ (Qk : VK), Qk (.int (o.getD log.length : Nat)) H -> tIf (tB (tIsN (tVar 2))) (tCB (fun xs H_1 Q => ∃ p ys, xs = [V.ref p] /\ (SqL K H_1 p ys \/ SqT K H_1 p ys) /\ Q (V.int ys.length) H_1) (y4b (tFld K (tVar 0) "done") tNil)) (tVar 2) (z5u ["self", "reader", "deed", "behind", "told", "past"] [.ref p, .int rd, dedV o]) H Qk := fun Qk hq => by
  cases o with
  | none =>
   refine ⟨_, rfl, _, rfl, iteT ⟨_, rfl, p, CBook, dx, fs, _, rfl, B.hp, T.cl, T.n_done, B.ld, pd, us, rfl, .inl (SqL.of B.hd), ?_⟩⟩
   rw [lu]
   exact hq
  | some d => exact ⟨_, rfl, _, rfl, iteF ⟨_, rfl, hq⟩⟩
 refine beh _ ?_
 generalize o.getD log.length = c at cle q
 clear beh
 refine ⟨_, rfl, _, _, rfl, rfl, _, rfl, ite2 (fun q => absurd (z0H q) (by omega)) fun _ => ⟨_, rfl, _, rfl, p, CBook, dx, fs, _, rfl, B.hp, T.cl, T.n_done, B.ld, pd, us, rfl, .inl (SqL.of B.hd), _, _, rfl, rfl, _, rfl, ite2 (fun q => absurd (z0H q) (by omega)) fun _ => ?_⟩⟩
 refine ⟨_, rfl, p, dx, fs, rfl, B.hp, B.lm _ (by simp), _, rfl, p, _, zs, r, k, rows, log, rd, rfl, bk, r1, r2, ?_⟩
 refine ⟨_, rfl, p, CBook, dx, fs, _, rfl, B.hp, T.cl, T.n_office, B.lo, po, COffice, dxo, fso, _, rfl, h1, TO.cl, TO.n_names, l1, _, rfl, p, CBook, dx, fs, _, rfl, B.hp, T.cl, T.n_office, B.lo, po, COffice, dxo, fso, _, rfl, h1, TO.cl, TO.n_reach, l2, fun x dxs nx ndx ne => ?_⟩
 have m1 := z7c (C := CShelf) (Same.refl H) nx ndx
 refine ⟨x, dxs, pno, zs, r, rfl, z02, ne, by rw [z0d ne, z02], .inr (m1 _ _ h3), g, r0, r10, fun fq H1 ff sb sh => ⟨rfl, ?_⟩⟩
 have s1 : Same H H1 := z7I sb m1 nx
 have f1 : ∀ b ∈ fq, H b = none := fun b hb => z63 m1 nx ndx (ff b hb)
 have sh1 : ShD K CShelf H1 x fq zs r (fun n => z0M rows n r) [] := sh _
 refine ⟨_, rfl, p, CBook, dx, fs, _, rfl, s1 _ _ B.hp, T.cl, T.n_done, B.ld, _, rfl, _, rfl, pd, _, rfl, SqL.of (s1 _ _ B.hd), fun lq hlq => ?_⟩
 rw [y51 (by omega)]
 have s2 := s1.trans (z01 hlq (.lst (us.take c)))
 have e2 : upd H1 lq (.lst (us.take c)) lq = some (.lst (us.take c)) := z02
 have sh2 := shOk.same sh1 (z01 hlq (.lst (us.take c)))
 have f2 : lq ∉ fq := fun m => by
  obtain ⟨o, e, _⟩ := shOk.own sh1 lq m
  rw [hlq] at e
  cases e
 generalize upd H1 lq (.lst (us.take c)) = H2 at s2 e2 sh2
 have nt2 : z54 H2 fq := shOk.noTup sh2
 have out : ∀ {b : Addr} {o : HO}, H b = some o -> b ∉ fq := fun e m => by rw [f1 _ m] at e; cases e
 have lt : (us.take c).length = c := by rw [List.length_take]; omega
 refine ⟨lq, rfl, ⟨_, SqL.of e2⟩, z2g (K := K) (a := lq) (xs := us.take c) (fun i σ H' => ∃ (fq' : List Addr) (o5 : Option V), z0s fq H2 H' /\ ShD K CShelf H' x fq' zs r (fun n => z0M rows n r) (gotL ((log.take c).take i) rd) /\ (∀ b ∈ fq', b ∈ fq \/ H2 b = none) /\
   σ = [some (.ref p), some (.int rd), some (dedV o), some (.int c), some (.ref x), o5]) ⟨fq, none, .of (Same.refl _), sh2, fun b m => .inl m, rfl⟩ (fun i σ H' _ ⟨_, _, bt, _⟩ => SqL.of (bt _ _ e2 f2)) ?_ ?_⟩
 ·rintro i u σ H' hi ⟨fq', o5, bt, shx, ffx, rfl⟩
  obtain ⟨d, ed, b, rfl, hb⟩ := y4z B.ds c i u hi
  have sk : ∀ {b : Addr} {o : HO}, H b = some o -> H' b = some o := fun e => bt _ _ (s2 _ _ e) (out e)
  have hin := B.in1 d (List.mem_of_mem_take (List.mem_of_getElem? ed))
  have l2d : 2 ≤ (z2V d).length := by
   obtain ⟨a, m⟩ := d
   cases a
   ·show 2 ≤ 2; decide
   ·show 2 ≤ 3; decide
  have cut : ∀ (Qk : VK), (∀ (t1 : Addr) (G : Hp), Same H' G -> G t1 = some (.tup ((z2V d).take 2)) -> Qk (.ref t1) G) -> rSlA K (.ref b) none (some 2) H' Qk := fun Qk hq => by
   refine ⟨b, _, rfl, SqT.of (sk hb), fun hw => hq b H' (Same.refl _) ?_, fun _ t1 ht1 => hq t1 _ (z01 ht1 _) ?_⟩
   ·rw [sk hb, List.take_of_length_le]
    have := hw.2
    have e : HT.sIx (z2V d).length (z2V d).length (some (2 : Int)) = min 2 (z2V d).length := HT.z8W _ _ 2
    omega
   ·rw [z02]
    exact congrArg (fun z => some (HO.tup z)) (y51 (k := 2) l2d)
  refine ⟨_, rfl, _, rfl, cut _ fun t1 G sG e1' => ⟨_, rfl, (by show 2 ≤ sizeLine; decide), fun t2 ht2 => ?_⟩⟩
  have s3 := sG.trans (z01 ht2 (.tup [V.str "deliver", V.int rd]))
  have e3 : upd G t2 (.tup [V.str "deliver", V.int rd]) t1 = some (.tup ((z2V d).take 2)) := z01 ht2 _ _ _ e1'
  have e4 : upd G t2 (.tup [V.str "deliver", V.int rd]) t2 = some (.tup [V.str "deliver", V.int rd]) := z02
  generalize upd G t2 (.tup [V.str "deliver", V.int rd]) = H3 at s3 e3 e4
  have fl : ((z2V d).take 2).all z20 = true := by
   obtain ⟨a, m⟩ := d
   cases a <;> rfl
  refine ⟨t1, t2, _, _, rfl, rfl, SqT.of e3, SqT.of e4, fl, rfl, _, rfl, ?_⟩
  rw [y4w, z0q ed, y1T]
  have sh3 := shOk.same shx s3
  refine ite2 (fun cc => ?_) (fun cc => ?_)
  ·have c' := z0H cc
   rw [if_pos c']
   obtain ⟨a, n⟩ := d
   have ea : a = some rd := c'
   subst ea
   obtain ⟨d1, g1, z1, w1⟩ := shOk.ins sh3
   refine ⟨_, rfl, x, d1, g1, rfl, z1, w1 _ (by simp), _, rfl, p, CBook, dx, fs, _, rfl, s3 _ _ (sk B.hp), T.cl, T.n_office, B.lo, po, dxo, fso, rfl, s3 _ _ (sk h1), lmo _ (by simp), _, rfl, b, _, 2, _, rfl, rfl, SqT.of (s3 _ _ (sk hb)), rfl, po, fo, zs, r, rows, n, rfl, ?_, hin.1, hin.2, fun v H4 s4 tv => ?_⟩
   ·exact ofOk.same (ofOk.keep (ofOk.same B.of s2) bt (fun b m z => by
     obtain ⟨o, e, _⟩ := ofOk.own B.of b z
     exact out e m) nt2) s3
   have n60 : rows.length ≤ 60 := by
    obtain ⟨_, _, _, _, _, _, _, _, _, _, _, _, _, _, _, n60, _⟩ := B.of
    exact n60
   refine ⟨x, v, fq', zs, r, _, _, n, _, rfl, shOk.same sh3 s4, tv, rfl, hin.1, by have := hin.2; have : n ≤ rows.length := this; omega, fun fq2 H5 ff5 sb5 sh5 => ?_⟩
   have g4 := s3.trans s4
   exact ⟨fq2, _, (fun b o e nb => sb5 b o (g4 _ _ (bt b o e nb)) fun m => (ffx b m).elim nb fun z => by rw [e] at z; cases z), sh5, y37 bt ffx g4 ff5, rfl⟩
  ·have c' := z6z cc
   rw [if_neg c']
   exact ⟨fq', _, fun b o e nb => s3 _ _ (bt b o e nb), sh3, ffx, rfl⟩
 ·rintro σ H' ⟨fq', o5, bt, shx, ffx, rfl⟩
  rw [lt, List.take_take, Nat.min_self] at shx
  exact ⟨_, rfl, q x fq' H' (fun b m => (ffx b m).elim (f1 b) fun z => s2.free z) (fun b o e => bt _ _ (s2 _ _ e) (out e)) shx⟩
def HT (H : Hp) (u : V) (p : Str × Int) : Prop := ∃ b, u = .ref b /\ H b = some (.tup [.str p.1, .int p.2])
theorem HT.keep {H H' : Hp} (g : Same H H') : ∀ {us : List V} {pr : Row}, Paired (HT H) us pr -> Paired (HT H') us pr
 | _, _, .nil => .nil
 | _, _, .cons ⟨b, e, h⟩ t => .cons ⟨b, e, g _ _ h⟩ (HT.keep g t)
theorem HT.hand {K : PySem.W.Frag} {H : Hp} {fp : List Addr} (no : z54 H fp) : ∀ {us : List V} {pr : Row}, Paired (HT H) us pr -> Paired (z8s K H fp) us pr
 | _, _, .nil => .nil
 | _, _, .cons ⟨b, e, h⟩ t => .cons ⟨b, e, .inr (SqT.of h), fun m => no b m _ h⟩ (HT.hand no t)
def wlog (n : Nat) : List Deed := (upI 1 n).map fun k => (none, k)
theorem y21 (i : Nat) : wlog (i + 1) = wlog i ++ [(none, (i : Int) + 1)] := by
 unfold wlog
 rw [z6G, List.map_append, Int.add_comm]
 rfl
theorem y0u (i : Nat) : (wlog i).length = i := by
 unfold wlog
 rw [List.length_map, z0E]
theorem y3s {ns ms : List Int} (h : ∀ x, x ∈ ns ↔ x ∈ ms) (hall : ∀ x ∈ ms, 1 ≤ x /\ x ≤ 60) (x : Int) : x ∈ z07 ns ↔ x ∈ ms := by
 rw [z0K, h]
 exact ⟨fun q => q.2, fun q => ⟨by have := hall x q; omega, q⟩⟩
theorem y0T {H : Hp} : ∀ {w : Row} {xs : List V}, z09 H (w.map z8V) xs -> Paired (HT H) xs w
 | [], xs, h => by
  rw [z0D h]
  exact .nil
 | p :: w, xs, h => by
  obtain ⟨x, r, rfl, t, h'⟩ := z0b h
  obtain ⟨a, us, rfl, ea, _, tu⟩ := z0f (show Tell H (.tup [.str p.1, .int p.2]) x from t)
  obtain ⟨y1, r1, rfl, t1, h3⟩ := z0b tu
  obtain ⟨y2, r2, rfl, t2, h4⟩ := z0b h3
  have := z0D h4
  subst this
  rw [z2M t1, z0Y t2] at ea
  exact .cons ⟨a, rfl, ea⟩ (y0T h')
def y4O (Sh : ShP) : Sp := fun vs H Q _ => ∃ (x : Addr) (fp : List Addr) (nm : List Str) (r : Int) (rows : List Row) (had : List Int), vs = [.ref x] /\ Sh H x fp nm r (fun n => z0M rows n r) had /\ GoodN nm /\ Rws nm rows /\ rows.length ≤ 60 /\ (∀ n ∈ had, 1 ≤ n /\ n ≤ rows.length) /\ 0 ≤ r /\ r ≤ 10 /\
 ∀ (v : V) (H' : Hp), Same H H' -> Tell H' (y2H nm (z07 had) rows r) v -> Q v H'
theorem y1m (nm : List Str) (ns : List Int) (rows : List Row) (r : Int) : (y2H nm ns rows r).deep ≤ 2 := z2L fun d hd => by
 obtain ⟨z, _, rfl⟩ := List.mem_map.mp hd
 unfold tabD
 refine z2L fun d hd => ?_
 rcases List.mem_cons.mp hd with rfl | hd
 ·exact z6L _ _
 rcases List.mem_cons.mp hd with rfl | hd
 ·exact z6L _ _
 rcases List.mem_cons.mp hd with rfl | hd
 ·exact z6J _ _
 rw [List.mem_singleton.mp hd]
 cases z0I (z07 ns) rows z with
 | none => unfold y4k DV.deep; exact Nat.zero_le _
 | some p => exact z6J _ _
def z6I (Sh : ShP) : Sp := fun vs H Q _ => ∃ (x : Addr) (fp : List Addr) (nm : List Str) (r : Int) (rows : List Row) (had : List Int), vs = [.ref x] /\ Sh H x fp nm r (fun n => z0M rows n r) had /\ GoodN nm /\ Rws nm rows /\ rows.length ≤ 60 /\ (∀ n ∈ had, 1 ≤ n /\ n ≤ rows.length) /\ 0 ≤ r /\ r ≤ 10 /\
 ∀ (v : V) (H' : Hp), Same H H' -> Tell H' (.tup (z7P (z07 had) rows r)) v -> Q v H'
def y56 (K : PySem.W.Frag) : Sp := fun vs H Q _ => ∃ (p : Addr) (ns : List Int), vs = [.ref p] /\ SqI K H p ns /\ (∀ x ∈ ns, 1 ≤ x /\ x ≤ 60) /\
 ∀ (l : Addr) (H' : Hp), H l = none -> Same H H' -> H' l = some (.tup ((z19 ns).map V.int)) -> Q (.ref l) H'
theorem y5i (M : Bl mg) (F : Fun K "lacking_numbers" "lacking_numbers" z2n f fd) : FnOk P w K mg base CX0 1 f fd z2q (y56 K) := by
 have nd := z3m.nd
 refine F.ok z3m (fun vs H Q E h => ?_) (fun cdv A outer s H vs Q E hr h => ?_)
 ·obtain ⟨p, ns, rfl, _⟩ := h
  rfl
 obtain ⟨p, ns, rfl, hS, hall, q⟩ := h
 refine ⟨_, (z04 (z0p (i := 1) nd rfl (Or.inl rfl) (y1O rfl rfl M.max (z00 (pv 0) z03) (z8P z08 y0I))) (z05 (z0k (z0r z0o rfl M.tuple PyProof.Rows.boot_tuple (z00 (z1c ["number"] ["had"] [0] rfl (z0w rfl (by decide +kernel) rfl (by decide +kernel) rfl rfl) (y35 rfl M.range (z00 z08 (z00 (z0v z1F (pv 1) z08) z03))) (fun _ _ _ _ _ => (z0m (i := 0) (show ((["number"] : List PySem.Str) ++ (["had"] : List PySem.Str)).Nodup from by decide +kernel) rfl (Or.inl rfl))) (z0x (by decide)) z0c (fun _ _ _ _ _ => (z3x (z0l (r := rIn K true) z6w (pv 0) (pv 1) (by with_unfolding_all rfl)))) (fun _ _ _ _ _ => (pv 0))) z03))))), ?_⟩
 refine ⟨_, rfl, p, ns, .int 0, rfl, rfl, hS, fun hnil => ?_, fun m hm top => ?_⟩
 ·subst hnil
  refine ⟨_, rfl, _, _, rfl, rfl, _, _, rfl, ⟨by decide, by decide, by decide, by decide⟩, ?_⟩
  refine z8D (lo := 1) (n := 0) (fun _ => true) (fun k => .int k) (by decide) (fun k ys N k0 k1 hN => by omega) ?_
  intro D hD
  refine ⟨D, _, rfl, .inl ⟨SqL.of z02, fun l hl => ?_⟩⟩
  have h1 : H l = none := (z01 hD _).free hl
  refine q l _ h1 ((z01 hD _).trans (z01 hl _)) ?_
  rw [z02, y2Z]
  rfl
 ·have hm' := hall m hm
  refine ⟨_, rfl, _, _, rfl, rfl, _, _, rfl, ⟨by decide, by decide, by omega, by omega⟩, ?_⟩
  refine z8D (lo := 1) (n := (m + 1 - 1).toNat) (fun k => !decide (k ∈ ns)) (fun k => .int k) (by omega) (fun k ys N k0 k1 hN => ?_) ?_
  ·refine ⟨_, rfl, _, rfl, p, _, rfl, hS, rfl, y2n ns, _, rfl, ?_⟩
   rw [if_pos rfl, y47]
   refine ite2 (fun c => ?_) (fun c => ?_)
   ·rw [if_pos c] at hN
    exact ⟨_, rfl, hN⟩
   ·rw [if_neg c] at hN
    exact hN
  ·intro D hD
   refine ⟨D, _, rfl, .inl ⟨SqL.of z02, fun l hl => ?_⟩⟩
   have h1 : H l = none := (z01 hD _).free hl
   refine q l _ h1 ((z01 hD _).trans (z01 hl _)) ?_
   rw [z02]
   have e : z33 (fun k => !decide (k ∈ ns)) (fun k => V.int k) (upI 1 (m + 1 - 1).toNat) = (z19 ns).map V.int := by
    unfold z33
    rw [y2O hm hall top]
   rw [e]
def y0S (K : PySem.W.Frag) : Sp := fun vs H Q _ => ∃ (p : Addr) (ns : List Int) (n r : Int), vs = [.ref p, .int n, .int r] /\ SqI K H p ns /\ (∀ x ∈ ns, 1 ≤ x /\ x ≤ 60) /\ ns.length ≤ 900 /\
 ∀ H', Same H H' -> Q (.int (z1y ns n r)) H'
theorem y23 (M : Bl mg) (F : Fun K "teller_of" "teller_of" z5R f fd) : FnOk P w K mg base CX0 1 f fd z67 (y0S K) := by
 have nd := z7J.nd
 refine F.ok z7J (fun vs H Q E h => ?_) (fun cdv A outer s H vs Q E hr h => ?_)
 ·obtain ⟨p, ns, n, r, rfl, _⟩ := h
  rfl
 obtain ⟨p, ns, n, r, rfl, hS, hall, hlen, q⟩ := h
 have fin : ∀ D, H D = none -> (z33 (fun y => decide (n < y) && decide (y - r ≤ n)) (fun y => V.int y) ns = (ns.filter fun y => decide (n < y) && decide (y - r ≤ n)).map V.int) := fun _ _ => rfl
 have none' : (ns.filter fun y => decide (n < y) && decide (y - r ≤ n)) = [] -> z1y ns n r = 0 := fun e => y1e fun y hy h1 h2 => by
  have : y ∈ ns.filter fun y => decide (n < y) && decide (y - r ≤ n) := List.mem_filter.mpr ⟨hy, by rw [decide_eq_true h1, decide_eq_true h2]; rfl⟩
  rw [e] at this
  cases this
 have some' : ∀ m, m ∈ (ns.filter fun y => decide (n < y) && decide (y - r ≤ n)) -> (∀ y ∈ (ns.filter fun y => decide (n < y) && decide (y - r ≤ n)), m ≤ y) -> z1y ns n r = m := fun m hm hl => by
  rw [List.mem_filter, Bool.and_eq_true, decide_eq_true_eq, decide_eq_true_eq] at hm
  exact y4D hall hm.1 hm.2.1 hm.2.2 fun y hy h1 h2 => hl y (List.mem_filter.mpr ⟨hy, by rw [decide_eq_true h1, decide_eq_true h2]; rfl⟩)
 rcases hS with hS | hS
 ·refine ⟨_, (z04 (z76 (i := 3) ["above"] ["number", "reach"] [1, 2] rfl nd rfl (Or.inl rfl) (z0w rfl (by decide +kernel) rfl (by decide +kernel) rfl rfl) (z24 (pv 0)) (fun _ _ _ _ _ => (z0m (i := 0) (show ((["above"] : List PySem.Str) ++ (["number", "reach"] : List PySem.Str)).Nodup from by decide +kernel) rfl (Or.inl rfl))) (z0x (by decide)) z0c (fun _ _ _ _ _ => (z3x (PW.pt (y0R (z0l z4v (pv 0) (pv 1) (z0u _)) (z8R (z0l y6y (z0v z5q (pv 0) (pv 2)) (pv 1) (z0u _))))))) (fun _ _ _ _ _ => (pv 0))) (z05 (z0k (y1Z rfl rfl M.min (z00 (pv 3) z03) (z8P z08 y0I))))), ?_⟩
  refine ⟨_, rfl, p, rfl, ⟨_, hS⟩, ?_⟩
  refine y3g (ns := ns) (fun y => decide (n < y) && decide (y - r ≤ n)) (fun y => .int y) hS (by omega) (fun y ys N hy hN => ?_) (fun D hD => ?_)
  ·refine ⟨_, rfl, _, rfl, _, _, rfl, rfl, _, rfl, ?_⟩
   refine ite2 (fun c => ?_) (fun c => ?_)
   ·refine ⟨_, rfl, _, rfl, _, _, rfl, rfl, _, rfl, _, _, rfl, rfl, _, rfl, ?_⟩
    rw [c, Bool.true_and] at hN
    refine ite2 (fun c2 => ?_) (fun c2 => ?_)
    ·rw [if_pos c2] at hN
     exact ⟨_, rfl, hN⟩
    ·rw [if_neg c2] at hN
     exact hN
   ·rw [Bool.eq_false_iff.mpr c, Bool.false_and] at hN
    exact iteF hN
  ·refine ⟨_, rfl, D, _, .int 0, rfl, rfl, .inl (SqL.of z02), fun e => ?_, fun m hm hl => ?_⟩
   ·have := q _ (z01 hD (.lst (z33 (fun y => decide (n < y) && decide (y - r ≤ n)) (fun y => V.int y) ns)))
    rw [none' e] at this
    exact this
   ·have := q _ (z01 hD (.lst (z33 (fun y => decide (n < y) && decide (y - r ≤ n)) (fun y => V.int y) ns)))
    rw [some' m hm hl] at this
    exact this
 ·refine ⟨_, (z04 (z76 (i := 3) ["above"] ["number", "reach"] [1, 2] rfl nd rfl (Or.inl rfl) (z0w rfl (by decide +kernel) rfl (by decide +kernel) rfl rfl) (z1W (pv 0)) (fun _ _ _ _ _ => (z0m (i := 0) (show ((["above"] : List PySem.Str) ++ (["number", "reach"] : List PySem.Str)).Nodup from by decide +kernel) rfl (Or.inl rfl))) (z0x (by decide)) z0c (fun _ _ _ _ _ => (z3x (PW.pt (y0R (z0l z4v (pv 0) (pv 1) (z0u _)) (z8R (z0l y6y (z0v z5q (pv 0) (pv 2)) (pv 1) (z0u _))))))) (fun _ _ _ _ _ => (pv 0))) (z05 (z0k (y1Z rfl rfl M.min (z00 (pv 3) z03) (z8P z08 y0I))))), ?_⟩
  refine ⟨_, rfl, p, rfl, ⟨_, hS⟩, ?_⟩
  refine z8k (ns := ns) (fun y => decide (n < y) && decide (y - r ≤ n)) (fun y => .int y) hS (by omega) (fun y ys N hy hN => ?_) (fun D hD => ?_)
  ·refine ⟨_, rfl, _, rfl, _, _, rfl, rfl, _, rfl, ?_⟩
   refine ite2 (fun c => ?_) (fun c => ?_)
   ·refine ⟨_, rfl, _, rfl, _, _, rfl, rfl, _, rfl, _, _, rfl, rfl, _, rfl, ?_⟩
    rw [c, Bool.true_and] at hN
    refine ite2 (fun c2 => ?_) (fun c2 => ?_)
    ·rw [if_pos c2] at hN
     exact ⟨_, rfl, hN⟩
    ·rw [if_neg c2] at hN
     exact hN
   ·rw [Bool.eq_false_iff.mpr c, Bool.false_and] at hN
    exact iteF hN
  ·refine ⟨_, rfl, D, _, .int 0, rfl, rfl, .inl (SqL.of z02), fun e => ?_, fun m hm hl => ?_⟩
   ·have := q _ (z01 hD (.lst (z33 (fun y => decide (n < y) && decide (y - r ≤ n)) (fun y => V.int y) ns)))
    rw [none' e] at this
    exact this
   ·have := q _ (z01 hD (.lst (z33 (fun y => decide (n < y) && decide (y - r ≤ n)) (fun y => V.int y) ns)))
    rw [some' m hm hl] at this
    exact this
def Pr (H : Hp) (u : V) (p : Int × Int) : Prop := ∃ a, u = .ref a /\ H a = some (.tup [.int p.1, .int p.2])
theorem Pr.keep {H H' : Hp} (s : Same H H') {u : V} {p : Int × Int} (h : Pr H u p) : Pr H' u p := let ⟨a, e, q⟩ := h; ⟨a, e, s _ _ q⟩
abbrev Prs (H : Hp) : List V -> List (Int × Int) -> Prop := Paired (Pr H)
theorem Prs.keep {H H' : Hp} (s : Same H H') : ∀ {xs : List V} {ps : List (Int × Int)}, Prs H xs ps -> Prs H' xs ps
 | _, _, .nil => .nil
 | _, _, .cons r t => .cons (r.keep s) (Prs.keep s t)
theorem Prs.get {H : Hp} : ∀ {xs : List V} {ps : List (Int × Int)}, Prs H xs ps -> ∀ (i : Nat) (u : V), xs[i]? = some u -> ∃ p, ps[i]? = some p /\ Pr H u p
 | _, _, .nil, i, u, e => by simp at e
 | _, _, .cons r t, 0, u, e => by
  simp at e
  subst e
  exact ⟨_, rfl, r⟩
 | _, _, .cons r t, i + 1, u, e => by
  obtain ⟨p, h1, h2⟩ := Prs.get t i u (by simpa using e)
  exact ⟨p, by simpa using h1, h2⟩
theorem Prs.snoc {H : Hp} {xs : List V} {ps : List (Int × Int)} {u : V} {p : Int × Int} (h : Prs H xs ps) (q : Pr H u p) : Prs H (xs ++ [u]) (ps ++ [p]) := Paired.snoc h q
theorem Prs.len {H : Hp} : ∀ {xs : List V} {ps : List (Int × Int)}, Prs H xs ps -> xs.length = ps.length
 | _, _, .nil => rfl
 | _, _, .cons _ t => by rw [List.length_cons, List.length_cons, Prs.len t]
def lwtL (ns : List Int) (r : Int) : List (Int × Int) := (z19 ns).map fun n => (n, z1y ns n r)
def z1R (ns : List Int) (r : Int) : List Int := ((lwtL ns r).filter fun q => decide (q.2 = 0)).map Prod.fst
def y5G (K : PySem.W.Frag) : Sp := fun vs H Q _ => ∃ (p : Addr) (ns : List Int) (r : Int), vs = [.ref p, .int r] /\ SqI K H p ns /\ (∀ x ∈ ns, 1 ≤ x /\ x ≤ 60) /\ ns.length ≤ 900 /\
 ∀ (l : Addr) (xs : List V) (H' : Hp), Same H H' -> H' l = some (.tup xs) -> Prs H' xs (lwtL ns r) -> Q (.ref l) H'
theorem y6B (M : Bl mg) (F : Fun K "lacking_with_tellers" "lacking_with_tellers" z1r f fd) (Glacking_numbers : Cal P w K mg base 1 "lacking_numbers" z2q (y56 K))
  (Gteller_of : Cal P w K mg base 1 "teller_of" z67 (y0S K)) : FnOk P w K mg base CX0 2 f fd z0Z (y5G K) := by
 have nd := z21.nd
 refine F.ok z21 (fun vs H Q E h => ?_) (fun cdv A outer s H vs Q E hr h => ?_)
 ·obtain ⟨p, ns, r, rfl, _⟩ := h
  rfl
 obtain ⟨p, ns, r, rfl, hS, hall, hlen, q⟩ := h
 refine ⟨_, (z05 (z0k (z0r z0o rfl M.tuple PyProof.Rows.boot_tuple (z00 (z1c ["number"] ["had", "reach"] [0, 1] rfl (z0w rfl (by decide +kernel) rfl (by decide +kernel) rfl rfl) (z1W (z0h Glacking_numbers (rm hr) rfl (z00 (pv 0) z03))) (fun _ _ _ _ _ => (z0m (i := 0) (show ((["number"] : List PySem.Str) ++ (["had", "reach"] : List PySem.Str)).Nodup from by decide +kernel) rfl (Or.inl rfl))) (z0x (by decide)) z0c (fun _ _ _ _ _ => z1N) (fun _ _ _ _ _ => (z0z (z00 (pv 0) (z00 (z0h Gteller_of (rm hr) rfl (z00 (pv 1) (z00 (pv 0) (z00 (pv 2) z03)))) z03))))) z03)))), ?_⟩
 refine ⟨_, rfl, p, ns, rfl, hS, hall, fun lt H1 nlt s1 e1 => ⟨lt, rfl, ⟨_, SqT.of e1⟩, ?_⟩⟩
 have ll := z3g ns
 refine z1z (xs := (z19 ns).map V.int) (fun i ys H' => Same H1 H' /\ Prs H' ys (((z19 ns).take i).map fun n => (n, z1y ns n r))) ⟨Same.refl _, .nil⟩ (fun i ys H' hi hp => ?_) (fun i x ys H' hx hp => ?_) (fun ys H' hp => ?_)
 ·obtain ⟨g, pr⟩ := hp
  refine ⟨SqT.of (g _ _ e1), z0g ?_⟩
  rw [pr.len, List.length_map, List.length_take]
  omega
 ·obtain ⟨g, pr⟩ := hp
  rw [List.getElem?_map] at hx
  cases e : (z19 ns)[i]? with
  | none => rw [e] at hx; cases hx
  | some n =>
   rw [e] at hx
   cases hx
   refine ⟨_, rfl, _, rfl, _, rfl, _, rfl, p, ns, n, r, rfl, SqI.keep (s1.trans g) hS, hall, hlen, fun H2 g2 => ⟨(by show 2 ≤ sizeLine; decide), fun t ht => ?_⟩⟩
   refine ⟨g.trans (g2.trans (z01 ht _)), ?_⟩
   rw [z0q e, List.map_append]
   exact Prs.snoc (pr.keep (g2.trans (z01 ht _))) ⟨t, rfl, z02⟩
 ·obtain ⟨g, pr⟩ := hp
  rw [List.length_map, List.take_length] at pr
  intro D hD
  refine ⟨D, _, rfl, .inl ⟨SqL.of z02, fun l hl => ?_⟩⟩
  exact q l ys _ (s1.trans (g.trans ((z01 hD _).trans (z01 hl _)))) z02 (pr.keep ((z01 hD _).trans (z01 hl _)))
def y0m (K : PySem.W.Frag) : Sp := fun vs H Q _ => ∃ (p : Addr) (ns : List Int) (r : Int), vs = [.ref p, .int r] /\ SqI K H p ns /\ (∀ x ∈ ns, 1 ≤ x /\ x ≤ 60) /\ ns.length ≤ 900 /\
 ∀ (l : Addr) (H' : Hp), Same H H' -> H' l = some (.tup ((z1R ns r).map V.int)) -> Q (.ref l) H'
theorem y3a (ns : List Int) (r : Int) : (lwtL ns r).length ≤ 60 := by
 unfold lwtL
 rw [List.length_map]
 exact z3g ns
theorem y6h (M : Bl mg) (F : Fun K "dark_numbers" "dark_numbers" z3v f fd) (Glacking_with_tellers : Cal P w K mg base 2 "lacking_with_tellers" z0Z (y5G K)) : FnOk P w K mg base CX0 3 f fd z1Y (y0m K) := by
 have nd := z4L.nd
 refine F.ok z4L (fun vs H Q E h => ?_) (fun cdv A outer s H vs Q E hr h => ?_)
 ·obtain ⟨p, ns, r, rfl, _⟩ := h
  rfl
 obtain ⟨p, ns, r, rfl, hS, hall, hlen, q⟩ := h
 refine ⟨_, (z05 (z0k (z0r z0o rfl M.tuple PyProof.Rows.boot_tuple (z00 (z1c ["number", "teller"] [] [] rfl (z0w rfl (by decide +kernel) rfl (by decide +kernel) rfl rfl) (z1W (z0h Glacking_with_tellers (rm hr) rfl (z00 (pv 0) (z00 (pv 1) z03)))) (fun _ _ _ _ _ => (z6Q (K := K) (n := 2) rfl rfl (z0V (z0m (i := 0) (show ((["number", "teller"] : List PySem.Str) ++ ([] : List PySem.Str)).Nodup from by decide +kernel) rfl (Or.inl rfl)) (z0V (z0m (i := 1) (show ((["number", "teller"] : List PySem.Str) ++ ([] : List PySem.Str)).Nodup from by decide +kernel) rfl (Or.inl rfl)) z3Z)))) (z6X (z1x (z0x (by decide)) z0c (z1x (z0x (by decide)) z0c z5T z0Q) (z0C z0c z0Q))) (z5A (z0C z0c (z0C z0c z0Q))) (fun _ _ _ _ _ => (z3x (z0l z3A (pv 1) z08 (z0u _)))) (fun _ _ _ _ _ => (pv 0))) z03)))), ?_⟩
 refine ⟨_, rfl, _, rfl, p, ns, r, rfl, hS, hall, hlen, fun lt xs H1 s1 e1 pr1 => ⟨lt, rfl, ⟨_, SqT.of e1⟩, ?_⟩⟩
 have ll := y3a ns r
 have lx := pr1.len
 refine z1z (xs := xs) (fun i ys H' => H' = H1 /\ ys = (((lwtL ns r).take i).filter fun q => decide (q.2 = 0)).map fun q => V.int q.1) ⟨rfl, rfl⟩ (fun i ys H' hi hp => ?_) (fun i x ys H' hx hp => ?_) (fun ys H' hp => ?_)
 ·obtain ⟨rfl, rfl⟩ := hp
  refine ⟨SqT.of e1, z0g ?_⟩
  have h1 := List.length_filter_le (fun q : Int × Int => decide (q.2 = 0)) ((lwtL ns r).take i)
  rw [List.length_map]
  rw [List.length_take] at h1
  omega
 ·obtain ⟨rfl, rfl⟩ := hp
  obtain ⟨⟨n, t⟩, e, a, rfl, ha⟩ := pr1.get i x hx
  refine ⟨a, _, rfl, SqT.of ha, rfl, _, _, rfl, _, _, rfl, rfl, ?_⟩
  refine ⟨_, rfl, rfl, _, rfl, ?_⟩
  rw [z0q e, List.filter_append, List.filter_cons, List.map_append]
  refine ite2 (fun c => ?_) (fun c => ?_)
  ·have c' : decide (t = 0) = true := decide_eq_true (V.int.inj (z0H c))
   refine ⟨_, rfl, rfl, ?_⟩
   rw [if_pos c']
   rfl
  ·have c' : ¬ decide (t = 0) = true := fun z => c (decide_eq_true (congrArg V.int (z0H z)))
   refine ⟨rfl, ?_⟩
   rw [if_neg c']
   simp
 ·obtain ⟨rfl, rfl⟩ := hp
  rw [lx, List.take_length]
  intro D hD
  refine ⟨D, _, rfl, .inl ⟨SqL.of z02, fun l hl => ?_⟩⟩
  refine q l _ (s1.trans ((z01 hD _).trans (z01 hl _))) ?_
  rw [z02]
  unfold z1R
  rw [List.map_map]
  rfl
theorem z5B (ns : List Int) (r : Int) : (z1R ns r).length ≤ 60 := by
 have h := List.length_filter_le (fun q : Int × Int => decide (q.2 = 0)) (lwtL ns r)
 have := y3a ns r
 unfold z1R
 rw [List.length_map]
 omega
def z0N (ns : List Int) (r b : Int) : List Int := (z1R ns r).filter fun y => decide (b < y)
def z6F (K : PySem.W.Frag) : Sp := fun vs H Q _ => ∃ (p : Addr) (ns : List Int) (r b : Int), vs = [.ref p, .int r, .int b] /\ SqI K H p ns /\ (∀ x ∈ ns, 1 ≤ x /\ x ≤ 60) /\ ns.length ≤ 900 /\
 ∀ (l : Addr) (H' : Hp), Same H H' -> H' l = some (.tup ((z0N ns r b).map V.int)) -> Q (.ref l) H'
theorem y2y (M : Bl mg) (F : Fun K "dark_numbers_behind" "dark_numbers_behind" z1E f fd) (Gdark_numbers : Cal P w K mg base 3 "dark_numbers" z1Y (y0m K)) : FnOk P w K mg base CX0 4 f fd z0O (z6F K) := by
 have nd := z2h.nd
 refine F.ok z2h (fun vs H Q E h => ?_) (fun cdv A outer s H vs Q E hr h => ?_)
 ·obtain ⟨p, ns, r, b, rfl, _⟩ := h
  rfl
 obtain ⟨p, ns, r, b, rfl, hS, hall, hlen, q⟩ := h
 refine ⟨_, (z05 (z0k (z0r z0o rfl M.tuple PyProof.Rows.boot_tuple (z00 (z1c ["number"] ["behind"] [2] rfl (z0w rfl (by decide +kernel) rfl (by decide +kernel) rfl rfl) (z1W (z0h Gdark_numbers (rm hr) rfl (z00 (pv 0) (z00 (pv 1) z03)))) (fun _ _ _ _ _ => (z0m (i := 0) (show ((["number"] : List PySem.Str) ++ (["behind"] : List PySem.Str)).Nodup from by decide +kernel) rfl (Or.inl rfl))) (z0x (by decide)) z0c (fun _ _ _ _ _ => (z3x (z0l z4v (pv 0) (pv 1) (z0u _)))) (fun _ _ _ _ _ => (pv 0))) z03)))), ?_⟩
 refine ⟨_, rfl, _, rfl, p, ns, r, rfl, hS, hall, hlen, fun lt H1 s1 e1 => ⟨lt, rfl, ⟨_, SqT.of e1⟩, ?_⟩⟩
 have ll := z5B ns r
 refine z8k (ns := z1R ns r) (fun y => decide (b < y)) (fun y => .int y) (SqT.of e1) (by omega) (fun y ys N hy hN => ?_) (fun D hD => ?_)
 ·refine ⟨_, rfl, _, rfl, _, _, rfl, rfl, _, rfl, ?_⟩
  refine ite2 (fun c => ?_) (fun c => ?_)
  ·rw [if_pos c] at hN
   exact ⟨_, rfl, hN⟩
  ·rw [if_neg c] at hN
   exact hN
 ·exact ⟨D, _, rfl, .inl ⟨SqL.of z02, fun l hl => q l _ (s1.trans ((z01 hD _).trans (z01 hl _))) z02⟩⟩
def y0L (Sh : ShP) : Sp := fun vs H Q _ => ∃ (p : Addr) (fp : List Addr) (zs : List Str) (r : Int) (iss : Int -> DV) (had : List Int) (n : Int) (d0 d1 d2 : DV), vs = [.ref p, .int n] /\ Sh H p fp zs r iss had /\ n ∈ had /\ iss n = .tup [d0, d1, d2] /\ ∀ v, Tell H d2 v -> Q v H
theorem z6M {kvs : List (Key × V)} {had : List Int} (kk : kvs.map (·.1) = had.map Sum.inl) {n : Int} (h : n ∈ had) : ∃ v, valV kvs (Sum.inl n : Key) = some v /\ ((Sum.inl n : Key), v) ∈ kvs := by
 have e := z8C kk n
 rw [decide_eq_true h] at e
 cases ev : valV kvs (Sum.inl n : Key) with
 | none => rw [ev] at e; cases e
 | some v =>
  refine ⟨v, rfl, ?_⟩
  unfold valV at ev
  obtain ⟨⟨k, u⟩, hf, rfl⟩ := Option.map_eq_some_iff.mp ev
  have h1 := List.mem_of_find?_eq_some hf
  have h2 := List.find?_some hf
  simp only [decide_eq_true_eq] at h2
  rw [h2] at h1
  exact h1
theorem y2m {CShelf : Addr} (M : Bl mg) (T : TxShelf K mg CShelf) (F : Fun K "tail_of" "Shelf.tail_of" z35 f fd) : FnOk P w K mg base CX0 1 f fd z31 (y0L (ShD K CShelf)) := by
 have nd := z44.nd
 refine F.ok z44 (fun vs H Q E h => ?_) (fun cdv A outer s H vs Q E hr h => ?_)
 ·obtain ⟨p, fp, zs, r, iss, had, n, d0, d1, d2, rfl, _⟩ := h
  rfl
 obtain ⟨p, fp, zs, r, iss, had, n, d0, d1, d2, rfl, sh, hn, en, k⟩ := h
 have hu := z9L hr
 refine ⟨_, (z05 (z0k (z1q z22 (z69 hu (z0A (pv 0) rfl) (pv 1) (fun _ _ => rfl)) z08 (fun _ _ => rfl)))), ?_⟩
 obtain ⟨dx, pn, pd, fs, kvs, rfl, h1, h2, h3, h4, l1, l2, l3, lm, kk, ndh, all, tl, g, r0, r1⟩ := sh
 obtain ⟨v, ev, mv⟩ := z6M kk hn
 have tv := tl n v mv
 rw [en] at tv
 obtain ⟨a, us, rfl, ea, _, tu⟩ := z0f tv
 obtain ⟨x0, ur, rfl, t0, tu⟩ := z0b tu
 obtain ⟨x1, ur, rfl, t1, tu⟩ := z0b tu
 obtain ⟨x2, ur, rfl, t2, tu⟩ := z0b tu
 refine ⟨_, rfl, p, CShelf, dx, fs, _, rfl, h1, T.cl, T.n_issues, l3, _, rfl, pd, _, rfl, (by rw [<- ev]; exact DGet.k (k := Sum.inl n) h4), ?_⟩
 exact ⟨a, _, _, x2, rfl, rfl, SqT.of ea, z1d rfl, k x2 t2⟩
theorem y48 (n r : Int) : (z6a n r).Nodup := by
 have h : (dnI (n - 1) (n - 1).toNat).Nodup := by
  unfold dnI
  rw [List.nodup_iff_pairwise_ne, List.pairwise_map]
  exact List.pairwise_lt_range.imp fun h => by omega
 exact h.filter _
theorem y2w {n r k : Int} : k ∈ z6a n r ↔ 1 ≤ k /\ k < n /\ n - k ≤ r := by
 unfold z6a
 rw [List.mem_filter, z7x, decide_eq_true_eq]
 omega
theorem z8b {K : PySem.W.Frag} {H : Hp} {rows : List Row} : ∀ {ks : List Int} {xs : List V}, z09 H (ks.map (y1C rows)) xs -> ∃ kvs : List (Key × V), Paired (y1W K H) xs kvs /\ kvs.map (·.1) = ks.map Sum.inl /\ ∀ k v, ((Sum.inl k : Key), v) ∈ kvs -> Tell H (nmsD (z0R (z0J rows k))) v
 | [], xs, h => by
  rw [z0D h]
  exact ⟨[], .nil, rfl, fun _ _ q => (nomatch q)⟩
 | k :: ks, xs, h => by
  obtain ⟨x, r, rfl, t, h⟩ := z0b h
  obtain ⟨kvs, p1, p2, p3⟩ := z8b h
  obtain ⟨a, us, rfl, ea, _, tu⟩ := z0f t
  obtain ⟨x0, ur, rfl, t0, tu⟩ := z0b tu
  obtain ⟨x1, ur, rfl, t1, tu⟩ := z0b tu
  have := z0D tu
  subst this
  cases z0Y t0
  refine ⟨(Sum.inl k, x1) :: kvs, .cons ⟨a, rfl, .inr (SqT.of ea)⟩ p1, by rw [List.map_cons, List.map_cons, p2], fun m v hv => ?_⟩
  rcases List.mem_cons.mp hv with e | hv
  ·cases e
   exact t1
  ·exact p3 m v hv
def y5t (rows : List Row) (n t : Int) : DV := if t = 0 then .tup [] else nmsD (z0R (z0J rows n))
def y4U (Sh : ShP) : Sp := fun vs H Q _ => ∃ (x : Addr) (n t : Int) (fp : List Addr) (nm : List Str) (r : Int) (rows : List Row) (had : List Int), vs = [.ref x, .int n, .int t] /\ Sh H x fp nm r (fun n => z0M rows n r) had /\ (t ≠ 0 -> t ∈ had /\ t ≤ 60 /\ n ∈ z6a t r) /\
 ∀ (v : V) (H' : Hp), Same H H' -> Tell H' (y5t rows n t) v -> Q v H'
theorem y5v {CShelf : Addr} (M : Bl mg) (T : TxShelf K mg CShelf) (F : Fun K "names_told_of" "names_told_of" z2Z f fd) (GShelf_tail_of : MCal P w K mg base 1 CShelf "tail_of" z31 (y0L (ShD K CShelf))) :
  FnOk P w K mg base CX0 2 f fd z30 (y4U (ShD K CShelf)) := by
 have nd := z42.nd
 refine F.ok z42 (fun vs H Q E h => ?_) (fun cdv A outer s H vs Q E hr h => ?_)
 ·obtain ⟨x, n, t, fp, nm, r, rows, had, rfl, _⟩ := h
  rfl
 obtain ⟨x, n, t, fp, nm, r, rows, had, rfl, sh, ht, k⟩ := h
 have hu := z9L hr
 refine ⟨_, (z04 (z0S (z0l z3A (pv 2) z08 (z0u _)) (z05 (z0k (z0z z03))) z0t) (z05 (z0k (z69 hu (z0r (z4a (K := K) rfl rfl) rfl M.dict PyProof.Rows.boot_dict (z00 (z1X GShelf_tail_of (rm hr) (pv 0) (z00 (pv 2) z03)) z03)) (pv 1) (fun _ _ => rfl))))), ?_⟩
 refine ⟨_, rfl, rfl, _, rfl, ite2 (fun c => ?_) (fun c => ?_)⟩
 ·have c' : t = 0 := V.int.inj (z0H c)
  refine ⟨(by show 0 ≤ sizeLine; decide), fun l hl => k _ _ (z01 hl _) ?_⟩
  unfold y5t
  rw [if_pos c']
  exact z0e z02 (by show 0 ≤ 1000000; decide) .nil
 ·have c' : t ≠ 0 := fun z => c (decide_eq_true (congrArg V.int z))
  obtain ⟨th, t60, tn⟩ := ht c'
  obtain ⟨dx, fs, h1, lm⟩ : ∃ dx fs, H x = some (.ins CShelf dx fs) /\ fs.lookup ("tail_of" : Str) = none := by
   obtain ⟨dx, pn, pd, fs, kvs, _, h1, _, _, _, _, _, _, lm, _⟩ := sh
   exact ⟨dx, fs, h1, lm _ (by simp)⟩
  refine ⟨_, rfl, x, dx, fs, rfl, h1, lm, _, rfl, x, fp, nm, r, _, had, t, _, _, _, rfl, sh, th, rfl, fun v tv => ?_⟩
  obtain ⟨a, us, rfl, ea, _, tu⟩ := z0f tv
  obtain ⟨kvs, p1, p2, p3⟩ := z8b (K := K) tu
  have lu : us.length ≤ 1000 := by
   rw [tu.length, List.length_map]
   unfold z6a
   have := List.length_filter_le (fun k => decide (t - k ≤ r)) (dnI (t - 1) (t - 1).toNat)
   rw [y01] at this
   omega
  refine ⟨a, us, kvs, rfl, .inr ea, p1, lu, ?_, fun l hl => ?_⟩
  ·rw [p2]
   rw [List.nodup_iff_pairwise_ne, List.pairwise_map]
   exact (List.nodup_iff_pairwise_ne.mp (y48 t r)).imp fun h e => h (Sum.inl.inj e)
  ·obtain ⟨v, ev, mv⟩ := z6M p2 tn
   refine ⟨_, rfl, l, _, rfl, (by rw [<- ev]; exact DGet.k (k := Sum.inl n) z02), ?_⟩
   refine k v _ (z01 hl _) ?_
   unfold y5t
   rw [if_neg c']
   exact Tell.keep (z01 hl _) _ _ (p3 n v mv)
theorem y4E {had : List Int} {r n : Int} (h60 : ∀ n ∈ had, 1 ≤ n /\ n ≤ 60) (hn : n ∈ z19 (z07 had)) (h : z1y (z07 had) n r ≠ 0) : z1y (z07 had) n r ∈ had /\ z1y (z07 had) n r ≤ 60 /\ n ∈ z6a (z1y (z07 had) n r) r := by
 unfold z1y at h ⊢
 cases e : (upI 1 60).find? (y1I (z07 had) n r) with
 | none => rw [e] at h; exact absurd rfl h
 | some y =>
  obtain ⟨_, hc, _⟩ := y3x (z1A 1 60) e
  obtain ⟨a, b, c⟩ := z4b.mp hc
  have hy := (z0K.mp c).2
  have := h60 y hy
  have := (z1h.mp hn).1
  show y ∈ had /\ y ≤ 60 /\ n ∈ z6a y r
  exact ⟨hy, by omega, y2w.mpr (by omega)⟩
theorem y3r {CShelf : Addr} (M : Bl mg) (T : TxShelf K mg CShelf) (F : Fun K "gaps_of" "gaps_of" z8E f fd) (GShelf_had : MCal P w K mg base 1 CShelf "had" z16 (z3b (ShD K CShelf)))
  (Glacking_with_tellers : Cal P w K mg base 2 "lacking_with_tellers" z0Z (y5G K)) (Gnames_told_of : Cal P w K mg base 2 "names_told_of" z30 (y4U (ShD K CShelf))) :
  FnOk P w K mg base CX0 3 f fd z5n (z6I (ShD K CShelf)) := by
 have nd := z9a.nd
 refine F.ok z9a (fun vs H Q E h => ?_) (fun cdv A outer s H vs Q E hr h => ?_)
 ·obtain ⟨x, fp, nm, r, rows, had, rfl, _⟩ := h
  rfl
 obtain ⟨x, fp, nm, r, rows, had, rfl, sh, gn, rw', l60, hh, r0, r1, k⟩ := h
 refine ⟨_, (z04 (z0p (i := 1) nd rfl (Or.inl rfl) (z0h Glacking_with_tellers (rm hr) rfl (z00 (z1I GShelf_had (rm hr) (pv 0)) (z00 (z0A (pv 0) rfl) z03)))) (z05 (z0k (z0r z0o rfl M.tuple PyProof.Rows.boot_tuple (z00 (z1c ["number", "teller"] ["shelf"] [0] rfl (z0w rfl (by decide +kernel) rfl (by decide +kernel) rfl rfl) (z1W (pv 1)) (fun _ _ _ _ _ => (z6Q (K := K) (n := 2) rfl rfl (z0V (z0m (i := 0) (show ((["number", "teller"] : List PySem.Str) ++ (["shelf"] : List PySem.Str)).Nodup from by decide +kernel) rfl (Or.inl rfl)) (z0V (z0m (i := 1) (show ((["number", "teller"] : List PySem.Str) ++ (["shelf"] : List PySem.Str)).Nodup from by decide +kernel) rfl (Or.inl rfl)) z3Z)))) (z6X (z1x (z0x (by decide)) z0c (z1x (z0x (by decide)) z0c z5T z0Q) (z0C z0c z0Q))) (z5A (z0C z0c (z0C z0c z0Q))) (fun _ _ _ _ _ => z1N) (fun _ _ _ _ _ => (z0z (z00 (pv 0) (z00 (pv 1) (z00 (z0h Gnames_told_of (rm hr) rfl (z00 (pv 2) (z00 (pv 0) (z00 (pv 1) z03)))) z03)))))) z03))))), ?_⟩
 have h60 : ∀ n ∈ had, 1 ≤ n /\ n ≤ 60 := fun n hn => by have := hh n hn; omega
 obtain ⟨dx, fs, h1, lm, lr⟩ : ∃ dx fs, H x = some (.ins CShelf dx fs) /\ fs.lookup ("had" : Str) = none /\ fs.lookup ("reach" : Str) = some (V.int r) := by
  obtain ⟨dx, pn, pd, fs, kvs, _, h1, _, _, _, _, lr, _, lm, _⟩ := sh
  exact ⟨dx, fs, h1, lm _ (by simp), lr⟩
 refine ⟨_, rfl, x, dx, fs, rfl, h1, lm, x, fp, nm, r, _, had, rfl, sh, fun l H1 s1 e1 => ?_⟩
 refine ⟨_, rfl, x, CShelf, dx, fs, _, rfl, s1 _ _ h1, T.cl, T.n_reach, lr, l, z07 had, r, rfl, .inr (SqT.of e1), fun n hn => h60 n (z0K.mp hn).2, Nat.le_trans (z2I had) (by decide), fun lt xs H2 s2 e2 pr2 => ?_⟩
 have sh2 : ShD K CShelf H2 x fp nm r (fun n => z0M rows n r) had := shOk.same sh (s1.trans s2)
 have lx : xs.length = (z19 (z07 had)).length := by rw [pr2.len]; unfold lwtL; rw [List.length_map]
 have ll := z3g (z07 had)
 refine ⟨_, rfl, lt, rfl, ⟨_, SqT.of e2⟩, ?_⟩
 refine z1z (xs := xs) (fun i ys H' => Same H2 H' /\ z09 H' (((z19 (z07 had)).take i).map (gapD (z07 had) rows r)) ys) ⟨Same.refl _, by rw [List.take_zero]; exact .nil⟩ (fun i ys H' hi hp => ?_) (fun i y ys H' hy hp => ?_) (fun ys H' hp => ?_)
 ·obtain ⟨g, t⟩ := hp
  refine ⟨SqT.of (g _ _ e2), z0g ?_⟩
  rw [t.length, List.length_map, List.length_take]
  omega
 ·obtain ⟨g, t⟩ := hp
  obtain ⟨⟨n, tl⟩, e, a, rfl, ha⟩ := pr2.get i y hy
  unfold lwtL at e
  rw [List.getElem?_map] at e
  obtain ⟨m, em, e3⟩ := Option.map_eq_some_iff.mp e
  cases e3
  refine ⟨a, _, rfl, SqT.of (g _ _ ha), rfl, _, _, rfl, _, _, rfl, rfl, ?_⟩
  refine ⟨_, rfl, _, rfl, _, rfl, _, rfl, _, rfl, x, n, _, fp, nm, r, rows, had, rfl, shOk.same sh2 g, y4E h60 (List.mem_of_getElem? em), fun v H3 s3 tv => ?_⟩
  refine ⟨(by show 3 ≤ sizeLine; decide), fun q hq => ⟨g.trans (s3.trans (z01 hq _)), ?_⟩⟩
  rw [List.take_add_one, em, List.map_append]
  exact z09.snoc (z09.keep (s3.trans (z01 hq _)) _ _ t) (z0e z02 (by show 3 ≤ 1000000; decide) (.cons (z0F _) (.cons (z0F _) (.cons (Tell.keep (z01 hq _) _ _ tv) .nil))))
 ·obtain ⟨g, t⟩ := hp
  rw [lx, List.take_length] at t
  intro D hD
  refine ⟨D, ys, rfl, .inl ⟨SqL.of z02, fun q hq => k _ _ (s1.trans (s2.trans (g.trans ((z01 hD _).trans (z01 hq _))))) (z0e z02 ?_ (z09.keep ((z01 hD _).trans (z01 hq _)) _ _ t))⟩⟩
  unfold z7P
  rw [List.length_map]
  omega
def z8x (Sh : ShP) : Sp := fun vs H Q _ => ∃ (p : Addr) (fp : List Addr) (zs : List Str) (r : Int) (iss : Int -> DV) (had : List Int) (n : Int) (d0 d1 d2 : DV), vs = [.ref p, .int n] /\ Sh H p fp zs r iss had /\ n ∈ had /\ iss n = .tup [d0, d1, d2] /\ ∀ v, Tell H d1 v -> Q v H
theorem y3H {CShelf : Addr} (M : Bl mg) (T : TxShelf K mg CShelf) (F : Fun K "rows_of" "Shelf.rows_of" z2X f fd) : FnOk P w K mg base CX0 1 f fd z2d (z8x (ShD K CShelf)) := by
 have nd := z47.nd
 refine F.ok z47 (fun vs H Q E h => ?_) (fun cdv A outer s H vs Q E hr h => ?_)
 ·obtain ⟨p, fp, zs, r, iss, had, n, d0, d1, d2, rfl, _⟩ := h
  rfl
 obtain ⟨p, fp, zs, r, iss, had, n, d0, d1, d2, rfl, sh, hn, en, k⟩ := h
 have hu := z9L hr
 refine ⟨_, (z05 (z0k (z1q z22 (z69 hu (z0A (pv 0) rfl) (pv 1) (fun _ _ => rfl)) z08 (fun _ _ => rfl)))), ?_⟩
 obtain ⟨dx, pn, pd, fs, kvs, rfl, h1, h2, h3, h4, l1, l2, l3, lm, kk, ndh, all, tl, g, r0, r1⟩ := sh
 obtain ⟨v, ev, mv⟩ := z6M kk hn
 have tv := tl n v mv
 rw [en] at tv
 obtain ⟨a, us, rfl, ea, _, tu⟩ := z0f tv
 obtain ⟨x0, ur, rfl, t0, tu⟩ := z0b tu
 obtain ⟨x1, ur, rfl, t1, tu⟩ := z0b tu
 refine ⟨_, rfl, p, CShelf, dx, fs, _, rfl, h1, T.cl, T.n_issues, l3, _, rfl, pd, _, rfl, (by rw [<- ev]; exact DGet.k (k := Sum.inl n) h4), ?_⟩
 exact ⟨a, _, _, x1, rfl, rfl, SqT.of ea, z1d rfl, k x1 t1⟩
theorem z97 {K : PySem.W.Frag} {H : Hp} : ∀ {w : Row} {xs : List V}, z09 H (w.map z8V) xs -> Paired (y1W K H) xs (w.map kvR)
 | [], xs, h => by
  rw [z0D h]
  exact .nil
 | p :: w, xs, h => by
  obtain ⟨x, r, rfl, t, h'⟩ := z0b h
  obtain ⟨a, us, rfl, ea, _, tu⟩ := z0f t
  obtain ⟨x0, ur, rfl, t0, tu⟩ := z0b tu
  obtain ⟨x1, ur, rfl, t1, tu⟩ := z0b tu
  have := z0D tu
  subst this
  rw [z2M t0, z0Y t1] at ea
  exact .cons ⟨a, rfl, .inr (SqT.of ea)⟩ (z97 h')
theorem foldV (w : Row) (z : Str) : ∀ acc : Option Int, w.foldl (fun acc p => if p.1 = z then some p.2 else acc) acc = match valL w z with | some v => some v | none => acc := by
 unfold valL
 induction w with
 | nil => intro acc; rfl
 | cons p w ih =>
  intro acc
  rw [List.foldl_cons, List.foldl_cons, ih, ih (if p.1 = z then some p.2 else none)]
  cases w.foldl (fun acc p => if p.1 = z then some p.2 else acc) none with
  | some v => rfl
  | none =>
   by_cases h : p.1 = z
   ·rw [if_pos h, if_pos h]
   ·rw [if_neg h, if_neg h]
theorem z9q (p : Str × Int) (w : Row) (z : Str) : valL (p :: w) z = match valL w z with | some v => some v | none => if p.1 = z then some p.2 else none := by
 conv => lhs; unfold valL
 rw [List.foldl_cons, foldV]
theorem z9G {w : Row} {z : Str} (h : z ∉ w.map Prod.fst) : valL w z = none := by
 induction w with
 | nil => rfl
 | cons p w ih =>
  rw [List.map_cons, List.mem_cons, not_or] at h
  rw [z9q, ih h.2, if_neg (fun e => h.1 e.symm)]
theorem y0a {z : Str} : ∀ {w : Row}, (w.map Prod.fst).Nodup -> valV (w.map kvR) (Sum.inr z : Key) = (valL w z).map V.int
 | [], _ => rfl
 | p :: w, h => by
  rw [List.map_cons, List.nodup_cons] at h
  rw [List.map_cons, z9q]
  by_cases e : p.1 = z
  ·rw [z5j (show (kvR p).1 = Sum.inr z by unfold kvR; rw [e]), z9G (e ▸ h.1), if_pos e]
   rfl
  ·rw [z5b (show ¬ (kvR p).1 = Sum.inr z from fun q => e (Sum.inr.inj q)), y0a h.2, if_neg e]
   cases valL w z <;> rfl
theorem y6C {nm : List Str} {rows : List Row} (g : GoodN nm) (R : Rws nm rows) (n : Int) : ((z0J rows n).map Prod.fst).Nodup := by
 unfold z0J
 rw [List.getD_eq_getElem?_getD]
 cases e : rows[(n - 1).toNat]? with
 | none => exact .nil
 | some w => exact (R.sub w (List.mem_of_getElem? e)).nodup g.nd
theorem z9Z {nm : List Str} {rows : List Row} (g : GoodN nm) (R : Rws nm rows) (n : Int) : (z0J rows n).length ≤ 12 := by
 unfold z0J
 rw [List.getD_eq_getElem?_getD]
 cases e : rows[(n - 1).toNat]? with
 | none => exact Nat.zero_le _
 | some w =>
  have h := (R.sub w (List.mem_of_getElem? e)).length_le
  rw [List.length_map] at h
  exact Nat.le_trans h g.hi
def z3d (Sh : ShP) : Sp := fun vs H Q _ => ∃ (x : Addr) (z : Str) (fp : List Addr) (nm : List Str) (r : Int) (rows : List Row) (had : List Int), vs = [.ref x, .str z] /\ Sh H x fp nm r (fun n => z0M rows n r) had /\ z ∈ nm /\ GoodN nm /\ Rws nm rows /\
 ∀ (v : V) (H' : Hp), Same H H' -> Tell H' (y38 (z0I (z07 had) rows z)) v -> Q v H'
theorem y1f {CShelf : Addr} (M : Bl mg) (T : TxShelf K mg CShelf) (F : Fun K "held_for" "held_for" z7A f fd) (Grefuse_unknown_name : Cal P w K mg base 1 "refuse_unknown_name" z14 (y5k K))
  (GShelf_had : MCal P w K mg base 1 CShelf "had" z16 (z3b (ShD K CShelf))) (GShelf_rows_of : MCal P w K mg base 1 CShelf "rows_of" z2d (z8x (ShD K CShelf))) :
  FnOk P w K mg base CX0 2 f fd z2C (z3d (ShD K CShelf)) := by
 have nd := z7Z.nd
 refine F.ok z7Z (fun vs H Q E h => ?_) (fun cdv A outer s H vs Q E hr h => ?_)
 ·obtain ⟨x, z, fp, nm, r, rows, had, rfl, _⟩ := h
  rfl
 obtain ⟨x, z, fp, nm, r, rows, had, rfl, sh, hz, gn, R, k⟩ := h
 have hu := z9L hr
 refine ⟨_, (z04 (z0B (z0h Grefuse_unknown_name (rm hr) rfl (z00 (z0A (pv 0) rfl) (z00 (pv 1) z03)))) (z04 (z1i PassesOwn.never rfl (y4Q rfl M.reversed (z00 (z1I GShelf_had (rm hr) (pv 0)) z03)) (z0m (i := 2) nd rfl (Or.inl rfl)) (z04 (z0p (i := 3) nd rfl (Or.inl rfl) (z0r (z4a (K := K) rfl rfl) rfl M.dict PyProof.Rows.boot_dict (z00 (z1X GShelf_rows_of (rm hr) (pv 0) (z00 (pv 2) z03)) z03))) (z05 (z0S (z6q (y3t hu (pv 1) (pv 3))) (z05 (z0k (z0z (z00 (pv 2) (z00 (z69 hu (pv 3) (pv 1) (fun _ _ => rfl)) z03))))) z0t)))) (z05 (z0k (z0z (z00 z08 (z00 z9A z03))))))), ?_⟩
 obtain ⟨dx, pn, fs, h1, h3, ln, lh, lo⟩ : ∃ dx pn fs, H x = some (.ins CShelf dx fs) /\ H pn = some (.tup (nm.map V.str)) /\ fs.lookup ("names" : Str) = some (V.ref pn) /\ fs.lookup ("had" : Str) = none /\ fs.lookup ("rows_of" : Str) = none := by
  obtain ⟨dx, pn, pd, fs, kvs, _, h1, _, h3, _, l1, _, _, lm, _⟩ := sh
  exact ⟨dx, pn, fs, h1, h3, l1, lm _ (by simp), lm _ (by simp)⟩
 refine ⟨_, rfl, x, CShelf, dx, fs, _, rfl, h1, T.cl, T.n_names, ln, _, rfl, pn, nm, z, rfl, .inr (SqT.of h3), hz, ?_⟩
 refine ⟨_, rfl, x, dx, fs, rfl, h1, lh, x, fp, nm, r, _, had, rfl, sh, fun l H1 s1 e1 => ?_⟩
 refine ⟨l, _, rfl, SqT.of e1, ?_⟩
 have sh1 : ShD K CShelf H1 x fp nm r (fun n => z0M rows n r) had := shOk.same sh s1
 have L1 : ((z07 had).map V.int).length = (z07 had).length := List.length_map _
 refine y62 (fun i σ H' => ∃ (o1 o2 : Option V), Same H1 H' /\ z0I (z07 had) rows z = z0I ((z07 had).take ((z07 had).length - i)) rows z /\ σ = [some (.ref x), some (.str z), o1, o2])
  ⟨none, none, Same.refl _, by rw [Nat.sub_zero, List.take_length], rfl⟩ (fun i σ H' _ ⟨_, _, g, _⟩ => SqT.of (g _ _ e1)) (fun i y σ H' hy hp => ?_) (fun σ H' hp => ?_)
 ·obtain ⟨o1, o2, g, eh, rfl⟩ := hp
  rw [<- List.map_reverse, List.getElem?_map] at hy
  obtain ⟨n, hn, rfl⟩ := Option.map_eq_some_iff.mp hy
  have hi : i < (z07 had).length := by
   have := (List.getElem?_eq_some_iff.mp hn).1
   rw [List.length_reverse] at this
   exact this
  rw [List.getElem?_reverse hi] at hn
  have et : (z07 had).take ((z07 had).length - i) = (z07 had).take ((z07 had).length - (i + 1)) ++ [n] := by
   have e : (z07 had).length - i = ((z07 had).length - (i + 1)) + 1 := by omega
   rw [e]
   refine z0q ?_
   rw [show (z07 had).length - (i + 1) = (z07 had).length - 1 - i by omega]
   exact hn
  have nh : n ∈ had := (z0K.mp (List.mem_of_getElem? hn)).2
  refine ⟨_, rfl, x, dx, fs, rfl, g _ _ (s1 _ _ h1), lo, _, rfl, x, fp, nm, r, _, had, n, _, _, _, rfl, shOk.same sh1 g, nh, rfl, fun v tv => ?_⟩
  obtain ⟨a, us, rfl, ea, _, tu⟩ := z0f tv
  have ndw := y6C gn R n
  refine ⟨a, us, (z0J rows n).map kvR, rfl, .inr ea, z97 tu, ?_, ?_, fun d hd => ?_⟩
  ·rw [tu.length, List.length_map]
   have := z9Z gn R n
   omega
  ·have e : ((z0J rows n).map kvR).map (·.1) = ((z0J rows n).map Prod.fst).map Sum.inr := by rw [List.map_map, List.map_map]; rfl
   rw [e, List.nodup_iff_pairwise_ne, List.pairwise_map]
   exact (List.nodup_iff_pairwise_ne.mp ndw).imp fun h e => h (Sum.inr.inj e)
  refine ⟨_, rfl, _, rfl, d, _, rfl, DGet.k (k := Sum.inr z) z02, _, rfl, ?_⟩
  rw [y0a ndw]
  rw [et, y1K] at eh
  cases ev : valL (z0J rows n) z with
  | none =>
   rw [ev] at eh
   exact iteF ⟨_, _, g.trans (z01 hd _), eh, rfl⟩
  | some v =>
   rw [ev] at eh
   refine iteT ⟨_, rfl, _, rfl, _, rfl, d, _, rfl, (show DGet _ d (kV (Sum.inr z)) (some (V.int v)) by rw [<- show valV ((z0J rows n).map kvR) (Sum.inr z : Key) = some (V.int v) by rw [y0a ndw, ev]; rfl]; exact DGet.k z02), (by show 2 ≤ sizeLine; decide), fun q hq => k _ _ (s1.trans (g.trans ((z01 hd _).trans (z01 hq _)))) ?_⟩
   rw [eh]
   exact z0e z02 (by show 2 ≤ 1000000; decide) (.cons (z0F _) (.cons (z0F _) .nil))
 ·obtain ⟨o1, o2, g, eh, rfl⟩ := hp
  rw [L1, Nat.sub_self, List.take_zero] at eh
  refine ⟨(by show 2 ≤ sizeLine; decide), fun q hq => k _ _ (s1.trans (g.trans (z01 hq _))) ?_⟩
  rw [eh]
  exact z0e z02 (by show 2 ≤ 1000000; decide) (.cons (z0F _) (.cons z5D .nil))
def z5K (Sh : ShP) : Sp := fun vs H Q _ => ∃ (x : Addr) (z : Str) (fp : List Addr) (nm : List Str) (r : Int) (rows : List Row) (had : List Int), vs = [.ref x, .str z] /\ Sh H x fp nm r (fun n => z0M rows n r) had /\ z ∈ nm /\ GoodN nm /\ Rws nm rows /\ rows.length ≤ 60 /\ (∀ n ∈ had, 1 ≤ n /\ n ≤ rows.length) /\ 0 ≤ r /\ r ≤ 10 /\
 ∀ (v : V) (H' : Hp), Same H H' -> Tell H' (y4P (z07 had) rows r (z15 (z0I (z07 had) rows z)) z) v -> Q v H'
theorem y08 {CShelf : Addr} (M : Bl mg) (T : TxShelf K mg CShelf) (F : Fun K "set_again" "set_again" z5M f fd) (Gheld_for : Cal P w K mg base 2 "held_for" z2C (z3d (ShD K CShelf)))
  (Ggaps_of : Cal P w K mg base 3 "gaps_of" z5n (z6I (ShD K CShelf))) : FnOk P w K mg base CX0 4 f fd z4o (z5K (ShD K CShelf)) := by
 have nd := z6S.nd
 refine F.ok z6S (fun vs H Q E h => ?_) (fun cdv A outer s H vs Q E hr h => ?_)
 ·obtain ⟨x, z, fp, nm, r, rows, had, rfl, _⟩ := h
  rfl
 obtain ⟨x, z, fp, nm, r, rows, had, rfl, sh, hz, gn, R, l60, hh, r0, r1, k⟩ := h
 refine ⟨_, (z04 (z0p (i := 2) nd rfl (Or.inr rfl) (z1q z22 (z0h Gheld_for (rm hr) rfl (z00 (pv 0) (z00 (pv 1) z03))) z08 (fun _ _ => rfl))) (z05 (z0k (z0r z0o rfl M.tuple PyProof.Rows.boot_tuple (z00 (z1c ["number", "teller", "names"] ["held_from", "name"] [2, 1] rfl (z0w rfl (by decide +kernel) rfl (by decide +kernel) rfl rfl) (z1W (z0h Ggaps_of (rm hr) rfl (z00 (pv 0) z03))) (fun _ _ _ _ _ => (z6Q (K := K) (n := 3) rfl rfl (z0V (z0m (i := 0) (show ((["number", "teller", "names"] : List PySem.Str) ++ (["held_from", "name"] : List PySem.Str)).Nodup from by decide +kernel) rfl (Or.inl rfl)) (z0V (z0m (i := 1) (show ((["number", "teller", "names"] : List PySem.Str) ++ (["held_from", "name"] : List PySem.Str)).Nodup from by decide +kernel) rfl (Or.inl rfl)) (z0V (z0m (i := 2) (show ((["number", "teller", "names"] : List PySem.Str) ++ (["held_from", "name"] : List PySem.Str)).Nodup from by decide +kernel) rfl (Or.inl rfl)) z3Z))))) (z6X (z1x (z0x (by decide)) z0c (z1x (z0x (by decide)) z0c (z1x (z0x (by decide)) z0c z5T z0Q) (z0C z0c z0Q)) (z0C z0c (z0C z0c z0Q)))) (z5A (z0C z0c (z0C z0c (z0C z0c z0Q)))) (fun _ _ _ _ _ => (z3x (PW.pt (y0R (z0l z4v (pv 0) (pv 3) (z0u _)) (z8R (z0l (r := rIn K false) z9n (pv 4) (pv 2) (by with_unfolding_all rfl))))))) (fun _ _ _ _ _ => (z0z (z00 (pv 0) (z00 (pv 1) z03))))) z03))))), ?_⟩
 refine ⟨_, rfl, _, rfl, x, z, fp, nm, r, rows, had, rfl, sh, hz, gn, R, fun v H1 s1 tv => ?_⟩
 obtain ⟨a, y, rfl, ea, _⟩ := z3r tv
 refine ⟨a, _, _, _, rfl, rfl, SqT.of ea, z1d rfl, ?_⟩
 have sh1 := shOk.same sh s1
 refine ⟨_, rfl, x, fp, nm, r, rows, had, rfl, sh1, gn, R, l60, hh, r0, r1, fun u H2 s2 tu => ?_⟩
 obtain ⟨b, xs, rfl, eb, _, tb⟩ := z0f tu
 have lx := y3e tb
 have ll := z3g (z07 had)
 generalize z15 (z0I (z07 had) rows z) = num at *
 refine ⟨b, rfl, ⟨_, SqT.of eb⟩, ?_⟩
 refine z1z (xs := xs) (fun i ys H' => Same H2 H' /\ z09 H' ((((z19 (z07 had)).take i).filter fun n => decide (num < n) && decide (z ∈ z3L (z07 had) rows r n)).map fun n => .tup [.int n, .int (z1y (z07 had) n r)]) ys) ⟨Same.refl _, .nil⟩ (fun i ys H' hi hp => ?_) (fun i y ys H' hy hp => ?_) (fun ys H' hp => ?_)
 ·obtain ⟨g, t⟩ := hp
  refine ⟨SqT.of (g _ _ eb), z0g ?_⟩
  rw [t.length, List.length_map]
  have := List.length_filter_le (fun n => decide (num < n) && decide (z ∈ z3L (z07 had) rows r n)) ((z19 (z07 had)).take i)
  rw [List.length_take] at this
  omega
 ·obtain ⟨g, t⟩ := hp
  obtain ⟨n, c, d, en, rfl, ec, ed⟩ := z9D tb hy
  refine ⟨c, _, rfl, SqT.of (g _ _ ec), rfl, _, _, rfl, _, _, rfl, _, _, rfl, rfl, ?_⟩
  rw [z0q en, List.filter_append, List.filter_cons]
  refine ⟨_, rfl, _, rfl, _, _, rfl, rfl, _, rfl, ?_⟩
  have skip : ¬ (decide (num < n) && decide (z ∈ z3L (z07 had) rows r n)) = true -> Same H2 H' /\ z09 H' (((((z19 (z07 had)).take i).filter fun n => decide (num < n) && decide (z ∈ z3L (z07 had) rows r n)) ++ (if (decide (num < n) && decide (z ∈ z3L (z07 had) rows r n)) = true then n :: List.filter (fun n => decide (num < n) && decide (z ∈ z3L (z07 had) rows r n)) [] else List.filter (fun n => decide (num < n) && decide (z ∈ z3L (z07 had) rows r n)) [])).map fun n => .tup [.int n, .int (z1y (z07 had) n r)]) ys := fun c => by
   rw [if_neg c, List.filter_nil, List.append_nil]
   exact ⟨g, t⟩
  refine ite2 (fun c => ?_) (fun c => ?_)
  ·refine ⟨_, rfl, _, rfl, d, _, rfl, .inr (SqT.of (g _ _ ed)), rfl, z2j _, _, rfl, ?_⟩
   rw [if_neg Bool.false_ne_true, z91]
   refine ite2 (fun c2 => ?_) (fun c2 => ?_)
   ·refine ⟨_, rfl, _, rfl, (by show 2 ≤ sizeLine; decide), fun q hq => ⟨g.trans (z01 hq _), ?_⟩⟩
    rw [if_pos (by rw [Bool.and_eq_true]; exact ⟨c, c2⟩), List.filter_nil, List.map_append]
    exact z09.snoc (z09.keep (z01 hq _) _ _ t) (z0e z02 (by show 2 ≤ 1000000; decide) (.cons (z0F _) (.cons (z0F _) .nil)))
   ·exact skip (by rw [Bool.and_eq_true]; exact fun z => c2 z.2)
  ·exact skip (by rw [Bool.and_eq_true]; exact fun z => c z.1)
 ·obtain ⟨g, t⟩ := hp
  rw [lx, List.take_length] at t
  intro D hD
  refine ⟨D, ys, rfl, .inl ⟨SqL.of z02, fun q hq => k _ _ (s1.trans (s2.trans (g.trans ((z01 hD _).trans (z01 hq _))))) (z0e z02 ?_ (z09.keep ((z01 hD _).trans (z01 hq _)) _ _ t))⟩⟩
  rw [List.length_map]
  exact Nat.le_trans (y1k (z07 had) rows r num z) (by decide)
theorem z6P {ns : List Int} {r n : Int} : n ∈ z1R ns r ↔ n ∈ z19 ns /\ z1y ns n r = 0 := by
 unfold z1R lwtL
 rw [List.mem_map]
 constructor
 ·rintro ⟨⟨a, b⟩, h, rfl⟩
  rw [List.mem_filter, List.mem_map, decide_eq_true_eq] at h
  obtain ⟨⟨m, hm, e⟩, h2⟩ := h
  cases e
  exact ⟨hm, h2⟩
 ·rintro ⟨h1, h2⟩
  refine ⟨(n, z1y ns n r), ?_, rfl⟩
  rw [List.mem_filter, List.mem_map, decide_eq_true_eq]
  exact ⟨⟨n, h1, rfl⟩, h2⟩
theorem z6o {ns : List Int} {r num : Int} : z5w ns r num = [] ↔ ∀ n ∈ z1R ns r, n ≤ num := by
 unfold z5w
 rw [List.filter_eq_nil_iff]
 constructor
 ·intro h n hn
  obtain ⟨h1, h2⟩ := z6P.mp hn
  have := h n h1
  rw [Bool.and_eq_true, decide_eq_true_eq, decide_eq_true_eq] at this
  rcases Int.lt_or_le num n with q | q
  ·exact absurd ⟨q, h2⟩ this
  ·exact q
 ·intro h n hn
  rw [Bool.and_eq_true, decide_eq_true_eq, decide_eq_true_eq]
  rintro ⟨h1, h2⟩
  have := h n (z6P.mpr ⟨hn, h2⟩)
  omega
theorem z7F {ns : List Int} {r num : Int} : z0N ns r num = [] ↔ z5w ns r num = [] := by
 rw [z6o]
 unfold z0N
 rw [List.filter_eq_nil_iff]
 exact ⟨fun h n hn => Int.not_lt.mp fun z => h n hn (decide_eq_true z), fun h n hn z => by have := h n hn; have := of_decide_eq_true z; omega⟩
def z3f (Sh : ShP) : Sp := fun vs H Q _ => ∃ (x : Addr) (z : Str) (fp : List Addr) (nm : List Str) (r : Int) (rows : List Row) (had : List Int), vs = [.ref x, .str z] /\ Sh H x fp nm r (fun n => z0M rows n r) had /\ z ∈ nm /\ GoodN nm /\ Rws nm rows /\ rows.length ≤ 60 /\ (∀ n ∈ had, 1 ≤ n /\ n ≤ rows.length) /\ 0 ≤ r /\ r ≤ 10 /\
 ∀ (H' : Hp), Same H H' -> Q (.str (z1j (z07 had) rows r (z15 (z0I (z07 had) rows z)) z)) H'
theorem y1b {CShelf : Addr} (M : Bl mg) (T : TxShelf K mg CShelf) (F : Fun K "state_of" "state_of" z77 f fd) (Gheld_for : Cal P w K mg base 2 "held_for" z2C (z3d (ShD K CShelf)))
  (Gset_again : Cal P w K mg base 4 "set_again" z4o (z5K (ShD K CShelf))) (GShelf_had : MCal P w K mg base 1 CShelf "had" z16 (z3b (ShD K CShelf)))
  (Gdark_numbers_behind : Cal P w K mg base 4 "dark_numbers_behind" z0O (z6F K)) : FnOk P w K mg base CX0 5 f fd z2F (z3f (ShD K CShelf)) := by
 have nd := z80.nd
 refine F.ok z80 (fun vs H Q E h => ?_) (fun cdv A outer s H vs Q E hr h => ?_)
 ·obtain ⟨x, z, fp, nm, r, rows, had, rfl, _⟩ := h
  rfl
 obtain ⟨x, z, fp, nm, r, rows, had, rfl, sh, hz, gn, R, l60, hh, r0, r1, k⟩ := h
 refine ⟨_, (z04 (z0S (z0l z4v (z0j z0a rfl M.len PySem.boot_len (z00 (z0h Gset_again (rm hr) rfl (z00 (pv 0) (z00 (pv 1) z03))) z03)) z08 (z0u _)) (z05 (z0k (z1B rfl M.STALE))) z0t) (z04 (z0p (i := 2) nd rfl (Or.inl rfl) (z1q z22 (z0h Gheld_for (rm hr) rfl (z00 (pv 0) (z00 (pv 1) z03))) z08 (fun _ _ => rfl))) (z04 (z0p (i := 3) nd rfl (Or.inl rfl) (z0h Gdark_numbers_behind (rm hr) rfl (z00 (z1I GShelf_had (rm hr) (pv 0)) (z00 (z0A (pv 0) rfl) (z00 (pv 2) z03))))) (z05 (z0k (z3E (z0l z4v (z0j z0a rfl M.len PySem.boot_len (z00 (pv 3) z03)) z08 (z0u _)) (z1B rfl M.OPEN) (z1B rfl M.SURE))))))), ?_⟩
 refine ⟨_, rfl, _, rfl, x, z, fp, nm, r, rows, had, rfl, sh, hz, gn, R, l60, hh, r0, r1, fun v H1 s1 tv => ?_⟩
 obtain ⟨a, xs, rfl, ea, _, ta⟩ := z0f tv
 have lx := ta.length
 rw [List.length_map] at lx
 refine ⟨a, xs, rfl, .inr (SqT.of ea), _, _, rfl, rfl, _, rfl, ite2 (fun c => ?_) (fun c => ?_)⟩
 ·have c' := z0H c
  have e := k H1 s1
  unfold z1j at e
  rw [if_pos (by omega)] at e
  exact e
 ·have c' := z6z c
  have sh1 := shOk.same sh s1
  refine ⟨_, rfl, _, rfl, x, z, fp, nm, r, rows, had, rfl, sh1, hz, gn, R, fun v H2 s2 tv => ?_⟩
  obtain ⟨b, y, rfl, eb, _⟩ := z3r tv
  refine ⟨b, _, _, _, rfl, rfl, SqT.of eb, z1d rfl, ?_⟩
  have sh2 := shOk.same sh1 s2
  obtain ⟨dx, fs, h1, lm, lr⟩ : ∃ dx fs, H2 x = some (.ins CShelf dx fs) /\ fs.lookup ("had" : Str) = none /\ fs.lookup ("reach" : Str) = some (V.int r) := by
   obtain ⟨dx, pn, pd, fs, kvs, _, h1, _, _, _, _, lr, _, lm, _⟩ := sh2
   exact ⟨dx, fs, h1, lm _ (by simp), lr⟩
  have h60 : ∀ n ∈ z07 had, 1 ≤ n /\ n ≤ 60 := fun n hn => by have := hh n (z0K.mp hn).2; omega
  refine ⟨_, rfl, x, dx, fs, rfl, h1, lm, x, fp, nm, r, _, had, rfl, sh2, fun l H3 s3 e3 => ?_⟩
  refine ⟨_, rfl, x, CShelf, dx, fs, _, rfl, s3 _ _ h1, T.cl, T.n_reach, lr, _, rfl, l, z07 had, r, _, rfl, .inr (SqT.of e3), h60, Nat.le_trans (z2I had) (by decide), fun d H4 s4 e4 => ?_⟩
  have e := k H4 (s1.trans (s2.trans (s3.trans s4)))
  unfold z1j at e
  rw [if_neg (by omega)] at e
  refine ⟨_, rfl, d, _, rfl, .inr (SqT.of e4), _, _, rfl, rfl, _, rfl, ?_⟩
  rw [List.length_map]
  refine ite2 (fun c => ?_) (fun c => ?_)
  ·have c2 := z0H c
   rw [if_neg (fun z => by rw [z7F.mpr z] at c2; exact absurd c2 (by decide))] at e
   exact e
  ·have c2 := z6z c
   rw [if_pos (z7F.mp (List.length_eq_zero_iff.mp (by omega)))] at e
   exact e
theorem y1a (had : List Int) : z07 (z07 had) = z07 had := z2e (z1Q _) (z1Q _) fun x => by
 rw [z0K, z0K]
 exact ⟨fun h => h.2, fun h => ⟨h.1, h⟩⟩
def z7B (Sh : ShP) : Sp := fun vs H Q _ => ∃ (x : Addr) (z : Str) (fp : List Addr) (nm : List Str) (r : Int) (rows : List Row) (had : List Int), vs = [.ref x, .str z] /\ Sh H x fp nm r (fun n => z0M rows n r) had /\ z ∈ nm /\ GoodN nm /\ Rws nm rows /\ rows.length ≤ 60 /\ (∀ n ∈ had, 1 ≤ n /\ n ≤ rows.length) /\ 0 ≤ r /\ r ≤ 10 /\
 ∀ (q : Addr) (y : V) (H' : Hp), Same H H' -> H' q = some (.tup [.str (z1j (z07 had) rows r (z15 (z0I (z07 had) rows z)) z), .int (z15 (z0I (z07 had) rows z)), y]) -> Tell H' (y4k (z0I (z07 had) rows z)) y -> Q (.ref q) H'
theorem z93 {CShelf : Addr} (M : Bl mg) (F : Fun K "state_and_held" "state_and_held" z2B f fd) (Gheld_for : Cal P w K mg base 2 "held_for" z2C (z3d (ShD K CShelf)))
  (Gstate_of : Cal P w K mg base 5 "state_of" z2F (z3f (ShD K CShelf))) : FnOk P w K mg base CX0 6 f fd z2w (z7B (ShD K CShelf)) := by
 have nd := z3Q.nd
 refine F.ok z3Q (fun vs H Q E h => ?_) (fun cdv A outer s H vs Q E hr h => ?_)
 ·obtain ⟨x, z, fp, nm, r, rows, had, rfl, _⟩ := h
  rfl
 obtain ⟨x, z, fp, nm, r, rows, had, rfl, sh, hz, gn, R, l60, hh, r0, r1, k⟩ := h
 refine ⟨_, (z05 (z0k (z0v (y0w (K := K) rfl) (z0z (z00 (z0h Gstate_of (rm hr) rfl (z00 (pv 0) (z00 (pv 1) z03))) z03)) (z0h Gheld_for (rm hr) rfl (z00 (pv 0) (z00 (pv 1) z03)))))), ?_⟩
 refine ⟨_, rfl, _, rfl, x, z, fp, nm, r, rows, had, rfl, sh, hz, gn, R, l60, hh, r0, r1, fun H1 s1 => ?_⟩
 refine ⟨(by show 1 ≤ sizeLine; decide), fun a ha => ?_⟩
 have g2 := s1.trans (z01 ha (.tup [.str (z1j (z07 had) rows r (z15 (z0I (z07 had) rows z)) z)]))
 have e2 : upd H1 a (.tup [.str (z1j (z07 had) rows r (z15 (z0I (z07 had) rows z)) z)]) a = some (.tup [.str (z1j (z07 had) rows r (z15 (z0I (z07 had) rows z)) z)]) := z02
 generalize upd H1 a (.tup [.str (z1j (z07 had) rows r (z15 (z0I (z07 had) rows z)) z)]) = H2 at g2 e2
 refine ⟨_, rfl, _, rfl, x, z, fp, nm, r, rows, had, rfl, shOk.same sh g2, hz, gn, R, fun v H3 s3 tv => ?_⟩
 obtain ⟨b, y, rfl, eb, tb⟩ := z3r tv
 exact ⟨a, b, _, _, rfl, rfl, SqT.of (s3 _ _ e2), SqT.of eb, by simp, (by show 3 ≤ sizeLine; decide), fun z => (nomatch z), fun _ q hq => k q y _ (g2.trans (s3.trans (z01 hq _))) z02 (Tell.keep (z01 hq _) _ _ tb)⟩
theorem z9s {CShelf : Addr} (M : Bl mg) (T : TxShelf K mg CShelf) (F : Fun K "knowledge" "knowledge" z5Y f fd) (Gstate_and_held : Cal P w K mg base 6 "state_and_held" z2w (z7B (ShD K CShelf))) : FnOk P w K mg base CX0 7 f fd z5L (y4O (ShD K CShelf)) := by
 have nd := z7g.nd
 refine F.ok z7g (fun vs H Q E h => ?_) (fun cdv A outer s H vs Q E hr h => ?_)
 ·obtain ⟨x, fp, nm, r, rows, had, rfl, _⟩ := h
  rfl
 obtain ⟨x, fp, nm, r, rows, had, rfl, sh, gn, R, l60, hh, r0, r1, k⟩ := h
 refine ⟨_, (z05 (z0k (z0r z0o rfl M.tuple PyProof.Rows.boot_tuple (z00 (z1c ["name"] ["shelf"] [0] rfl (z0w rfl (by decide +kernel) rfl (by decide +kernel) rfl rfl) (z1W (z0A (pv 0) rfl)) (fun _ _ _ _ _ => (z0m (i := 0) (show ((["name"] : List PySem.Str) ++ (["shelf"] : List PySem.Str)).Nodup from by decide +kernel) rfl (Or.inl rfl))) (z0x (by decide)) z0c (fun _ _ _ _ _ => z1N) (fun _ _ _ _ _ => (z0v (y0w (K := K) rfl) (z0z (z00 (pv 0) z03)) (z0h Gstate_and_held (rm hr) rfl (z00 (pv 1) (z00 (pv 0) z03)))))) z03)))), ?_⟩
 obtain ⟨dx, pn, fs, h1, h3, ln⟩ : ∃ dx pn fs, H x = some (.ins CShelf dx fs) /\ H pn = some (.tup (nm.map V.str)) /\ fs.lookup ("names" : Str) = some (V.ref pn) := by
  obtain ⟨dx, pn, pd, fs, kvs, _, h1, _, h3, _, l1, _⟩ := sh
  exact ⟨dx, pn, fs, h1, h3, l1⟩
 have n12 := gn.hi
 refine ⟨_, rfl, x, CShelf, dx, fs, _, rfl, h1, T.cl, T.n_names, ln, pn, rfl, ⟨_, SqT.of h3⟩, ?_⟩
 refine z1z (xs := nm.map V.str) (fun i ys H' => Same H H' /\ z09 H' ((nm.take i).map (tabD (z07 had) rows r)) ys) ⟨Same.refl _, by rw [List.take_zero]; exact .nil⟩ (fun i ys H' hi hp => ?_) (fun i y ys H' hy hp => ?_) (fun ys H' hp => ?_)
 ·obtain ⟨g, t⟩ := hp
  refine ⟨SqT.of (g _ _ h3), z0g ?_⟩
  rw [t.length, List.length_map, List.length_take]
  omega
 ·obtain ⟨g, t⟩ := hp
  rw [List.getElem?_map] at hy
  obtain ⟨z, ez, rfl⟩ := Option.map_eq_some_iff.mp hy
  have hz := List.mem_of_getElem? ez
  have sh1 := shOk.same sh g
  refine ⟨_, rfl, (by show 1 ≤ sizeLine; decide), fun a ha => ?_⟩
  have g2 := z01 ha (.tup [.str z])
  have e2 : upd H' a (.tup [.str z]) a = some (.tup [.str z]) := z02
  generalize upd H' a (.tup [.str z]) = H2 at g2 e2
  refine ⟨_, rfl, _, rfl, x, z, fp, nm, r, rows, had, rfl, shOk.same sh1 g2, hz, gn, R, l60, hh, r0, r1, fun b y H3 s3 eb tb => ?_⟩
  refine ⟨a, b, _, _, rfl, rfl, SqT.of (s3 _ _ e2), SqT.of eb, by simp, (by show 4 ≤ sizeLine; decide), fun z => (nomatch z), fun _ q hq => ⟨g.trans (g2.trans (s3.trans (z01 hq _))), ?_⟩⟩
  rw [List.take_add_one, ez, List.map_append]
  refine z09.snoc (z09.keep (g2.trans (s3.trans (z01 hq _))) _ _ t) ?_
  unfold tabD
  rw [y1a]
  exact z0e z02 (by show 4 ≤ 1000000; decide) (.cons (z1J _) (.cons (z1J _) (.cons (z0F _) (.cons (Tell.keep (z01 hq _) _ _ tb) .nil))))
 ·obtain ⟨g, t⟩ := hp
  rw [List.length_map, List.take_length] at t
  intro D hD
  refine ⟨D, ys, rfl, .inl ⟨SqL.of z02, fun q hq => k _ _ (g.trans ((z01 hD _).trans (z01 hq _))) (z0e z02 ?_ (z09.keep ((z01 hD _).trans (z01 hq _)) _ _ t))⟩⟩
  rw [List.length_map]
  omega
def orP (acc : Option (Int × Int)) (n : Int) (v : Option Int) : Option (Int × Int) :=
 match acc with
 | some p => some p
 | none => v.map fun v => (n, v)
theorem z8j (n : Int) (ns : List Int) (rows : List Row) (z : Str) : z0I (n :: ns) rows z = orP (z0I ns rows z) n (valL (z0J rows n) z) := by
 have go : ∀ (ns : List Int) (acc : Option (Int × Int)), ns.foldl (fun acc n => match valL (z0J rows n) z with | some v => some (n, v) | none => acc) acc = match ns.foldl (fun acc n => match valL (z0J rows n) z with | some v => some (n, v) | none => acc) none with | some p => some p | none => acc := by
  intro ns
  induction ns with
  | nil => intro acc; rfl
  | cons n r ih =>
   intro acc
   rw [List.foldl_cons, List.foldl_cons, ih, ih (match valL (z0J rows n) z with | some v => some (n, v) | none => none)]
   cases r.foldl (fun acc n => match valL (z0J rows n) z with | some v => some (n, v) | none => acc) none with
   | some p => rfl
   | none => cases valL (z0J rows n) z <;> rfl
 unfold z0I
 rw [List.foldl_cons]
 refine (go ns _).trans ?_
 cases valL (z0J rows n) z <;> rfl
theorem z9k {rows : List Row} {z : Str} {n v : Int} : ∀ {ns : List Int}, z0I ns rows z = some (n, v) -> n ∈ ns
 | [], h => by cases h
 | m :: ns, h => by
  rw [z8j] at h
  cases e : z0I ns rows z with
  | some p =>
   rw [e] at h
   have : p = (n, v) := Option.some.inj h
   rw [this] at e
   exact List.mem_cons_of_mem _ (z9k e)
  | none =>
   rw [e] at h
   cases e2 : valL (z0J rows m) z with
   | none => rw [e2] at h; cases h
   | some x =>
    rw [e2] at h
    have : (m, x) = (n, v) := Option.some.inj h
    cases this
    exact List.mem_cons_self
theorem y5O (m : Nat) : (dnI (m : Int) m).reverse = upI 1 m := by
 refine List.ext_getElem? fun i => ?_
 have ld : (dnI (m : Int) m).length = m := y01 _ _
 by_cases h : i < m
 ·rw [List.getElem?_reverse (by rw [ld]; exact h), ld]
  unfold dnI upI
  rw [List.getElem?_map, List.getElem?_map, List.getElem?_range (by omega), List.getElem?_range h]
  show some ((m : Int) - ((m - 1 - i : Nat) : Int)) = some (1 + (i : Int))
  exact congrArg some (by omega)
 ·rw [List.getElem?_eq_none (by rw [List.length_reverse, ld]; omega), List.getElem?_eq_none (by rw [z0E]; omega)]
theorem y1D {w : Row} {z : Str} {j : Nat} {p : Str × Int} (nd : (w.map Prod.fst).Nodup) (h : w[j]? = some p) (e : p.1 = z) : valL (w.take j) z = none := by
 refine z9G fun m => ?_
 have t : w.take (j + 1) = w.take j ++ [p] := z0q h
 have n2 : ((w.take (j + 1)).map Prod.fst).Nodup := ((List.take_sublist _ _).map _).nodup nd
 rw [t, List.map_append, List.nodup_append] at n2
 exact n2.2.2 z m z (by rw [List.map_cons, e]; exact List.mem_cons_self) rfl
def y5d (K : PySem.W.Frag) : Sp := fun vs H Q _ => ∃ (lr : Addr) (us : List V) (rows : List Row) (m : Nat) (z : Str), vs = [.ref lr, .int m, .str z] /\ SqL K H lr us /\ z09 H (rows.map rowD) us /\ m ≤ rows.length /\ m ≤ 1000 /\ (∀ w ∈ rows, (w.map Prod.fst).Nodup) /\
 ∀ (v : V) (H' : Hp), Same H H' -> Tell H' (y38 (z0I (upI 1 m) rows z)) v -> Q v H'
theorem y4s (M : Bl mg) (F : Fun K "_law_last" "_law_last" z66 f fd) : FnOk P w K mg base CX0 1 f fd z5Q (y5d K) := by
 have nd := z74.nd
 refine F.ok z74 (fun vs H Q E h => ?_) (fun cdv A outer s H vs Q E hr h => ?_)
 ·obtain ⟨lr, us, rows, m, z, rfl, _⟩ := h
  rfl
 obtain ⟨lr, us, rows, m, z, rfl, hR, tl, hm, m1000, ndr, q⟩ := h
 refine ⟨_, (z04 (z0p (i := 3) nd rfl (Or.inl rfl) (z0z (z00 z08 (z00 z9A z03)))) (z04 (z1i PassesOwn.never rfl (y1V rfl M.range (z00 (pv 1) (z00 z08 (z00 (y5Q y2x z08) z03)))) (z0m (i := 4) nd rfl (Or.inl rfl)) (z05 (z1i PassesOwn.never rfl (z1W (z1q z1w (pv 0) (z0v z5q (pv 4) z08) (fun _ _ => rfl))) (z0m (i := 5) nd rfl (Or.inl rfl)) (z05 (z0S (PW.pt (y0R (z0l z3A (z1q z22 (pv 5) z08 (fun _ _ => rfl)) (pv 2) (z0u _)) (z8R (z0l z3A (z1q z22 (pv 3) z08 (fun _ _ => rfl)) z08 (z0u _))))) (z05 (z0p (i := 3) nd rfl (Or.inl rfl) (z0z (z00 (pv 4) (z00 (z1q z22 (pv 5) z08 (fun _ _ => rfl)) z03))))) z0t))))) (z05 (z0k (pv 3))))), ?_⟩
 refine ⟨(by show 2 ≤ sizeLine; decide), fun t0 ht0 => ?_⟩
 have s1 := z01 ht0 (.tup [V.int 0, V.non])
 have e1 : upd H t0 (.tup [V.int 0, V.non]) t0 = some (.tup [V.int 0, V.non]) := z02
 generalize upd H t0 (.tup [V.int 0, V.non]) = H1 at s1 e1
 refine ⟨_, rfl, _, rfl, (m : Int), 0, rfl, ⟨by omega, by omega, by decide, by decide⟩, ?_⟩
 have e0 : ((m : Int) - 0).toNat = m := by omega
 rw [e0]
 refine y4e (hi := (m : Int)) (n := m) (fun j σ H' => ∃ (hv : V) (o1 o2 : Option V), Same H1 H' /\ Tell H' (y38 (z0I (dnI m j).reverse rows z)) hv /\ σ = [some (.ref lr), some (.int m), some (.str z), some hv, o1, o2])
  ⟨.ref t0, none, none, Same.refl _, z0e e1 (by show 2 ≤ 1000000; decide) (.cons (z0F 0) (.cons z5D .nil)), rfl⟩ (fun j σ H' hj hp => ?_) (fun σ H' hp => ?_)
 ·obtain ⟨hv, o1, o2, g, th, rfl⟩ := hp
  have hn1 : 1 ≤ (m : Int) - (j : Int) := by omega
  have er : (dnI (m : Int) (j + 1)).reverse = ((m : Int) - (j : Int)) :: (dnI m j).reverse := by rw [y40, List.reverse_append]; rfl
  have pos : ∀ n v, z0I (dnI (m : Int) j).reverse rows z = some (n, v) -> 1 ≤ n := fun n v e => by
   have := z7x.mp (List.mem_reverse.mp (z9k e))
   omega
  have st : z0I (dnI (m : Int) (j + 1)).reverse rows z = orP (z0I (dnI (m : Int) j).reverse rows z) ((m : Int) - (j : Int)) (valL (z0J rows ((m : Int) - (j : Int))) z) := by rw [er, z8j]
  have hnm : (m : Int) - (j : Int) ≤ rows.length := by omega
  generalize z0I (dnI (m : Int) j).reverse rows z = acc at th pos st
  generalize (m : Int) - (j : Int) = n at hn1 hnm st
  obtain ⟨v, _, av, tv⟩ := y36 (z09.keep (s1.trans g) _ _ tl) (k := n) hn1 hnm
  obtain ⟨ar, xs, rfl, er', _, tp⟩ := z0f tv
  have lw : xs.length = (z0J rows n).length := by rw [tp.length, List.length_map]
  have ndw : ((z0J rows n).map Prod.fst).Nodup := by
   have hk : (n - 1).toNat < rows.length := by omega
   have : z0J rows n = rows[(n - 1).toNat] := by
    unfold z0J
    rw [List.getD_eq_getElem?_getD, List.getElem?_eq_getElem hk]
    rfl
   rw [this]
   exact ndr _ (List.getElem_mem hk)
  refine ⟨_, rfl, _, rfl, _, _, rfl, rfl, lr, us, _, _, rfl, rfl, (s1.trans g).seq hR, av, ar, rfl, ⟨_, SqT.of er'⟩, ?_⟩
  refine z50 (K := K) (a := ar) (xs := xs) (fun i σ H2' => ∃ (hv : V) (o2 : Option V), Same H' H2' /\ Tell H2' (y38 (orP acc n (valL ((z0J rows n).take i) z))) hv /\
    σ = [some (.ref lr), some (.int m), some (.str z), some hv, some (.int n), o2]) ⟨hv, o2, Same.refl _, by cases acc <;> exact th, rfl⟩ (fun j σ H2' _ ⟨_, _, g2, _⟩ => SqT.of (g2 _ _ er')) ?_ ?_
  ·rintro i y σ H2' hy ⟨hv2, o3, g2, th2, rfl⟩
   obtain ⟨pq, b, e1', rfl, e2'⟩ := z59 tp i y hy
   have sb : SqT K H2' b [V.str pq.1, V.int pq.2] := SqT.of (g2 _ _ e2')
   have tk : (z0J rows n).take (i + 1) = (z0J rows n).take i ++ [pq] := z0q e1'
   obtain ⟨ah, yh, rfl, eh, _⟩ := z3r th2
   refine ⟨_, rfl, b, _, 0, _, rfl, rfl, sb, rfl, _, rfl, rfl, _, rfl, ?_⟩
   refine ite2 (fun c => ?_) (fun c => ?_)
   ·have c' : pq.1 = z := by
     have := z0H c
     injection this
    refine ⟨_, rfl, ah, _, 0, _, rfl, rfl, SqT.of eh, rfl, rfl, _, rfl, ite2 (fun c2 => ?_) (fun c2 => ?_)⟩
    ·have c2' : z15 (orP acc n (valL ((z0J rows n).take i) z)) = 0 := by
      have := z0H c2
      injection this
     refine ⟨_, rfl, _, rfl, b, _, 1, _, rfl, rfl, sb, rfl, (by show 2 ≤ sizeLine; decide), fun t ht => ?_⟩
     refine ⟨.ref t, _, g2.trans (z01 ht _), ?_, rfl⟩
     cases acc with
     | some p =>
      have := pos p.1 p.2 rfl
      have : p.1 = 0 := c2'
      omega
     | none =>
      rw [tk, z9i, if_pos c']
      exact z0e z02 (by show 2 ≤ 1000000; decide) (.cons (z0F _) (.cons (z0F _) .nil))
    ·refine ⟨.ref ah, _, g2, ?_, rfl⟩
     cases acc with
     | some p => exact th2
     | none =>
      refine absurd ?_ (z6z c2)
      rw [y1D ndw e1' c']
      rfl
   ·have c' : ¬ pq.1 = z := fun e => z6z c (by rw [e])
    refine iteF ⟨.ref ah, _, g2, ?_, rfl⟩
    rw [tk, z9i, if_neg c']
    exact th2
  ·rintro σ H2' ⟨hv2, o3, g2, th2, rfl⟩
   rw [lw, List.take_length, <- st] at th2
   exact ⟨hv2, _, _, g.trans g2, th2, rfl⟩
 ·obtain ⟨hv, o1, o2, g, th, rfl⟩ := hp
  rw [y5O] at th
  exact ⟨_, rfl, q hv H' (s1.trans g) th⟩
def y6R : Deed -> DV
 | (none, n) => .tup [.str "write", .int n]
 | (some r, n) => .tup [.str "deliver", .int r, .int n]
theorem y2T {H : Hp} {u : V} {d : Deed} (h : z4C H u d) : Tell H (y6R d) u := by
 obtain ⟨b, rfl, e⟩ := h
 obtain ⟨a, n⟩ := d
 cases a with
 | none => exact z0e e (by show 2 ≤ 1000000; decide) (.cons (z1J _) (.cons (z0F _) .nil))
 | some r => exact z0e e (by show 3 ≤ 1000000; decide) (.cons (z1J _) (.cons (z0F _) (.cons (z0F _) .nil)))
theorem y3C {H : Hp} : ∀ {us : List V} {log : List Deed}, Paired (z4C H) us log -> ∀ (i : Nat) (d : Deed), log[i]? = some d -> ∃ u, us[i]? = some u /\ z4C H u d := by
 intro us log h
 induction h with
 | nil => intro i d e; simp at e
 | cons h t ih =>
  intro i d e
  cases i with
  | zero =>
   simp at e
   subst e
   exact ⟨_, rfl, h⟩
  | succ i =>
   obtain ⟨u, q1, q2⟩ := ih i d (by simpa using e)
   exact ⟨u, by simpa using q1, q2⟩
def y18 (Bk : BkP) : Sp := fun vs H Q _ => ∃ (p : Addr) (fp : List Addr) (zs : List Str) (r k : Int) (rows : List Row) (log : List Deed), vs = [.ref p] /\ Bk H p fp zs r k rows log /\ ∀ H', Same H H' -> Q (.int rows.length) H'
def y2j (Bk : BkP) : Sp := fun vs H Q _ => ∃ (p : Addr) (fp : List Addr) (zs : List Str) (r k : Int) (rows : List Row) (log : List Deed) (n : Int), vs = [.ref p, .int n] /\ Bk H p fp zs r k rows log /\ 1 ≤ n /\ n ≤ rows.length /\
 ∀ (v : V) (H' : Hp), Same H H' -> Tell H' (z0M rows n r) v -> Q v H'
def y4h (Bk : BkP) : Sp := fun vs H Q _ => ∃ (p : Addr) (fp : List Addr) (zs : List Str) (r k : Int) (rows : List Row) (log : List Deed) (i : Nat) (d : Deed), vs = [.ref p, .int ((i : Int) + 1)] /\ Bk H p fp zs r k rows log /\ log[i]? = some d /\
 ∀ v, Tell H (y6R d) v -> Q v H
theorem z9R {CBook COffice : Addr} (M : Bl mg) (T : TxBook K mg CBook) (F : Fun K "latest" "Book.latest" z4m f fd) (GOffice_latest : MCal P w K mg base 1 COffice "latest" z32 (z7X (OfD K COffice))) : FnOk P w K mg base CX0 2 f fd z6u (y18 (BkD K CBook COffice)) := by
 have nd := z5i.nd
 refine F.ok z5i (fun vs H Q E h => ?_) (fun cdv A outer s H vs Q E hr h => ?_)
 ·obtain ⟨p, fp, zs, r, k, rows, log, rfl, _⟩ := h
  rfl
 obtain ⟨p, fp, zs, r, k, rows, log, rfl, ⟨dx, po, pd, fs, fo, us, rfl, B⟩, q⟩ := h
 refine ⟨_, (z05 (z0k (z1I GOffice_latest (rm hr) (z0A (pv 0) rfl)))), ?_⟩
 obtain ⟨dxo, pno, plo, fso, xso, efo, h1, h2, h3, h4, l1, l2, l3, lmo, _⟩ := id B.of
 exact ⟨_, rfl, p, CBook, dx, fs, _, rfl, B.hp, T.cl, T.n_office, B.lo, po, dxo, fso, rfl, h1, lmo _ (by simp), po, fo, zs, r, rows, rfl, B.of, q⟩
theorem y1H {CBook COffice : Addr} (M : Bl mg) (T : TxBook K mg CBook) (F : Fun K "issue" "Book.issue" z52 f fd) (GOffice_issue : MCal P w K mg base 1 COffice "issue" z1V (z5s (OfD K COffice))) : FnOk P w K mg base CX0 2 f fd z7i (y2j (BkD K CBook COffice)) := by
 have nd := z6h.nd
 refine F.ok z6h (fun vs H Q E h => ?_) (fun cdv A outer s H vs Q E hr h => ?_)
 ·obtain ⟨p, fp, zs, r, k, rows, log, n, rfl, _⟩ := h
  rfl
 obtain ⟨p, fp, zs, r, k, rows, log, n, rfl, ⟨dx, po, pd, fs, fo, us, rfl, B⟩, n1, n2, q⟩ := h
 refine ⟨_, (z05 (z0k (z1X GOffice_issue (rm hr) (z0A (pv 0) rfl) (z00 (pv 1) z03)))), ?_⟩
 obtain ⟨dxo, pno, plo, fso, xso, efo, h1, h2, h3, h4, l1, l2, l3, lmo, _⟩ := id B.of
 exact ⟨_, rfl, p, CBook, dx, fs, _, rfl, B.hp, T.cl, T.n_office, B.lo, po, dxo, fso, rfl, h1, lmo _ (by simp), _, rfl, po, fo, zs, r, rows, n, rfl, B.of, n1, n2, q⟩
theorem y2g {CBook COffice : Addr} (M : Bl mg) (T : TxBook K mg CBook) (F : Fun K "deed" "Book.deed" z5S f fd) : FnOk P w K mg base CX0 1 f fd z84 (y4h (BkD K CBook COffice)) := by
 have nd := z7s.nd
 refine F.ok z7s (fun vs H Q E h => ?_) (fun cdv A outer s H vs Q E hr h => ?_)
 ·obtain ⟨p, fp, zs, r, k, rows, log, i, d, rfl, _⟩ := h
  rfl
 obtain ⟨p, fp, zs, r, k, rows, log, i, d, rfl, ⟨dx, po, pd, fs, fo, us, rfl, B⟩, ed, q⟩ := h
 refine ⟨_, (z04 (z0S (PW.pt (z7E (z0l z8r (pv 1) z08 (z0u _)) (z41 (z0l z4v (pv 1) (z0j z0a rfl M.len PySem.boot_len (z00 (z0A (pv 0) rfl) z03)) (z0u _))))) (z05 z1b) z0t) (z05 (z0k (z1q z1w (z0A (pv 0) rfl) (z0v z5q (pv 1) z08) (fun _ _ => rfl))))), ?_⟩
 have lu := z3j B.ds
 have hi := (List.getElem?_eq_some_iff.mp ed).1
 obtain ⟨u, eu, du⟩ := y3C B.ds i d ed
 have av : atI us ((i : Int) + 1 - 1) = some u := by
  rw [Int.add_sub_cancel]
  exact z1d eu
 refine ⟨_, rfl, _, _, rfl, rfl, _, rfl, ite2 (fun q => absurd (z0H q) (by omega)) fun _ => ?_⟩
 refine ⟨_, rfl, _, rfl, p, CBook, dx, fs, _, rfl, B.hp, T.cl, T.n_done, B.ld, pd, us, rfl, .inl (SqL.of B.hd), _, _, rfl, rfl, _, rfl, ite2 (fun q => absurd (z0H q) (by omega)) fun _ => ?_⟩
 exact ⟨_, rfl, p, CBook, dx, fs, _, rfl, B.hp, T.cl, T.n_done, B.ld, _, rfl, _, _, rfl, rfl, pd, us, _, u, rfl, rfl, SqL.of B.hd, av, q u (y2T du)⟩
def y3O (K : PySem.W.Frag) : Sp := fun vs H Q _ => ∃ (a : Addr) (ns : List Int), vs = [.ref a] /\ SqL K H a (ns.map V.int) /\ ns.length ≤ 63 /\ ∀ H', Q (.bl true) H'
theorem y52 {nm : List Str} {rows : List Row} (R : Rws nm rows) (h : nm.length ≤ 12) : ∀ w ∈ rows, w.length ≤ 12 := fun w hw => by
 have := (R.sub w hw).length_le
 rw [List.length_map] at this
 omega
theorem y0k {xs : List V} {k : Nat} (h : k ≤ xs.length) : cutV xs none (some (k : Int)) = xs.take k := by
 unfold cutV
 have e1 : HT.sIx xs.length 0 none = 0 := rfl
 have e2 : HT.sIx xs.length xs.length (some (k : Int)) = k := by
  rw [HT.z8W, Nat.min_eq_left h]
 rw [e1, e2, List.drop_zero, Nat.sub_zero]
theorem y45 {xs : List V} {k : Nat} (h : k ≤ xs.length) : cutV xs (some (k : Int)) none = xs.drop k := by
 unfold cutV
 have e1 : HT.sIx xs.length xs.length none = xs.length := rfl
 have e2 : HT.sIx xs.length 0 (some (k : Int)) = k := by
  rw [HT.z8W, Nat.min_eq_left h]
 rw [e1, e2, List.take_of_length_le]
 rw [List.length_drop]
 exact Nat.le_refl _
def optD : Option (List Str) -> DV
 | none => .non
 | some zs => nmsD zs
def z3c (hs : List Int) (rows : List Row) (r n : Int) : Option (List Str) := if n ∈ hs \/ z1y hs n r ≠ 0 then some (z0R (z0J rows n)) else none
def z0X (m : Nat) (hs : List Int) (rows : List Row) (r : Int) : List (Option (List Str)) := (upI 1 m).map (z3c hs rows r)
def z65 (had : List Int) (m : Nat) : Prop := ((m : Int) ∈ had \/ (had = [] /\ m = 0)) /\ ∀ y ∈ had, y ≤ (m : Int)
theorem z1l (m : Nat) (hs : List Int) (rows : List Row) (r : Int) : (z0X m hs rows r).length = m := by
 unfold z0X
 rw [List.length_map, z0E]
theorem z65.same {a b : List Int} {m : Nat} (h : z65 a m) (e : ∀ x, x ∈ b ↔ x ∈ a) : z65 b m := by
 refine ⟨?_, fun y hy => h.2 y ((e y).mp hy)⟩
 rcases h.1 with q | ⟨q, q0⟩
 ·exact .inl ((e _).mpr q)
 ·refine .inr ⟨List.eq_nil_iff_forall_not_mem.mpr fun x hx => ?_, q0⟩
  have := (e x).mp hx
  rw [q] at this
  cases this
theorem z65.le {a : List Int} {m : Nat} {k : Int} (h : z65 a m) (hk : 0 ≤ k) (ha : ∀ x ∈ a, x ≤ k) : (m : Int) ≤ k := by
 rcases h.1 with q | ⟨_, q⟩
 ·exact ha _ q
 ·omega
theorem y6I {nm : List Str} {rows : List Row} (R : Rws nm rows) (gn : GoodN nm) (n : Int) : (z0R (z0J rows n)).length ≤ 12 := by
 have := z9Z gn R n
 unfold z0R
 rw [List.length_map]
 exact this
def z8o (Sh : ShP) : Sp := fun vs H Q _ => ∃ (x : Addr) (fp : List Addr) (nm : List Str) (r : Int) (iss : Int -> DV) (had : List Int), vs = [.ref x] /\ Sh H x fp nm r iss had /\ (∀ n ∈ had, 1 ≤ n /\ n ≤ 60) /\
 ∀ (H' : Hp), Same H H' -> Q (.int (2 ^ ((z1R (z07 had) r).length * nm.length))) H'
theorem y6U (M : Bl mg) (F : Fun K "two_to_the" "two_to_the" z4Y f fd) : FnOk P w K mg base CX0 1 f fd z3D z40 := by
 have nd := z6k.nd
 refine F.ok z6k (fun vs H Q E h => ?_) (fun cdv A outer s H vs Q E hr h => ?_)
 ·obtain ⟨t, rfl, _⟩ := h
  rfl
 obtain ⟨t, rfl, t0, t1, q⟩ := h
 refine ⟨_, (z04 (z0p (i := 1) nd rfl (Or.inl rfl) z08) (z04 (z1i PassesOwn.never rfl (z1Z rfl M.range (z00 (pv 0) z03)) (z0m (i := 2) nd rfl (Or.inl rfl)) (z05 (z0p (i := 1) nd rfl (Or.inl rfl) (z0v z4E (pv 1) z08)))) (z05 (z0k (pv 1))))), ?_⟩
 refine ⟨_, rfl, _, rfl, by omega, by omega, ?_⟩
 refine z2J (lo := 0) (n := t.toNat) (fun i σ H' => H' = H /\ ∃ o, σ = [some (.int t), some (.int (2 ^ i)), o]) ⟨rfl, _, rfl⟩ (fun i σ H' hi hp => ?_) (fun σ H' hp => ?_)
 ·obtain ⟨rfl, o, rfl⟩ := hp
  refine ⟨_, rfl, _, _, rfl, rfl, .inr ⟨by decide, by decide⟩, rfl, some (.int (0 + (i : Int))), ?_⟩
  rw [Int.pow_succ]
  rfl
 ·obtain ⟨rfl, o, rfl⟩ := hp
  exact ⟨_, rfl, q⟩
theorem y4x {CShelf : Addr} (M : Bl mg) (T : TxShelf K mg CShelf) (F : Fun K "course_count" "course_count" z3q f fd) (GShelf_had : MCal P w K mg base 1 CShelf "had" z16 (z3b (ShD K CShelf)))
  (Gdark_numbers : Cal P w K mg base 3 "dark_numbers" z1Y (y0m K)) (Gtwo_to_the : Cal P w K mg base 1 "two_to_the" z3D z40) : FnOk P w K mg base CX0 4 f fd z1T (z8o (ShD K CShelf)) := by
 have nd := z4A.nd
 refine F.ok z4A (fun vs H Q E h => ?_) (fun cdv A outer s H vs Q E hr h => ?_)
 ·obtain ⟨x, fp, nm, r, iss, had, rfl, _⟩ := h
  rfl
 obtain ⟨x, fp, nm, r, iss, had, rfl, sh, hh, k⟩ := h
 refine ⟨_, (z04 (z0p (i := 1) nd rfl (Or.inl rfl) (z0h Gdark_numbers (rm hr) rfl (z00 (z1I GShelf_had (rm hr) (pv 0)) (z00 (z0A (pv 0) rfl) z03)))) (z05 (z0k (z0h Gtwo_to_the (rm hr) rfl (z00 (z0v z4E (z0j z0a rfl M.len PySem.boot_len (z00 (pv 1) z03)) (z0j z0a rfl M.len PySem.boot_len (z00 (z0A (pv 0) rfl) z03))) z03))))), ?_⟩
 obtain ⟨dx, pn, fs, h1, h3, ln, lr, lm, gn⟩ : ∃ dx pn fs, H x = some (.ins CShelf dx fs) /\ H pn = some (.tup (nm.map V.str)) /\ fs.lookup ("names" : Str) = some (V.ref pn) /\ fs.lookup ("reach" : Str) = some (V.int r) /\ fs.lookup ("had" : Str) = none /\ GoodN nm := by
  obtain ⟨dx, pn, pd, fs, kvs, _, h1, _, h3, _, l1, l2, _, lm, _, _, _, _, gn, _⟩ := sh
  exact ⟨dx, pn, fs, h1, h3, l1, l2, lm _ (by simp), gn⟩
 have h60 : ∀ n ∈ z07 had, 1 ≤ n /\ n ≤ 60 := fun n hn => hh n (z0K.mp hn).2
 refine ⟨_, rfl, x, dx, fs, rfl, h1, lm, x, fp, nm, r, _, had, rfl, sh, fun l H1 s1 e1 => ?_⟩
 refine ⟨_, rfl, x, CShelf, dx, fs, _, rfl, s1 _ _ h1, T.cl, T.n_reach, lr, l, z07 had, r, rfl, .inr (SqT.of e1), h60, Nat.le_trans (z2I had) (by decide), fun d H2 s2 e2 => ?_⟩
 have s12 := s1.trans s2
 have ld : ((z1R (z07 had) r).map V.int).length = (z1R (z07 had) r).length := List.length_map _
 have lm' : (nm.map V.str).length = nm.length := List.length_map _
 have l60 := z5B (z07 had) r
 have n12 := gn.hi
 have lt : (z1R (z07 had) r).length * nm.length ≤ 60 * 12 := Nat.mul_le_mul l60 n12
 refine ⟨_, rfl, d, _, rfl, .inr (SqT.of e2), _, rfl, x, CShelf, dx, fs, _, rfl, s12 _ _ h1, T.cl, T.n_names, ln, pn, _, rfl, .inr (SqT.of (s12 _ _ h3)), _, _, rfl, rfl, ?_, _, rfl, ?_, ?_, ?_⟩
 ·rw [ld]
  exact .inl ⟨by omega, by omega⟩
 ·exact Int.mul_nonneg (Int.natCast_nonneg _) (Int.natCast_nonneg _)
 ·rw [ld, lm', <- Int.natCast_mul]
  omega
 ·rw [ld, lm', <- Int.natCast_mul, Int.toNat_natCast]
  exact k H2 s12
theorem z6H (ns : List Int) (r : Int) : z1R ns r = (z19 ns).filter fun n => decide (z1y ns n r = 0) := by
 unfold z1R lwtL
 rw [List.filter_map, List.map_map]
 exact List.map_id _
structure PlanOk (ns : List Int) (r b : Int) (fs as : List Int) : Prop where
 len : fs.length = as.length
 fr : fs.Pairwise (· < ·)
 ar : as.Pairwise fun x y => x + r < y
 lack : ∀ x ∈ fs, x ∈ z19 ns
 cov : ∀ d ∈ z0N ns r b, ∃ x ∈ fs, d ≤ x /\ x ≤ d + r
 mem : ∀ a ∈ as, a ∈ z0N ns r b
def y2t (H : Hp) (v : V) (ns : List Int) (r b : Int) : Prop := ∃ (l lf la : Addr) (fs as : List Int), v = .ref l /\ H l = some (.tup [.ref lf, .ref la]) /\ H lf = some (.tup (fs.map V.int)) /\ H la = some (.tup (as.map V.int)) /\ PlanOk ns r b fs as
def y0H (K : PySem.W.Frag) : Sp := fun vs H Q _ => ∃ (p : Addr) (ns : List Int) (r b : Int), vs = [.ref p, .int r, .int b] /\ SqI K H p ns /\ (∀ x ∈ ns, 1 ≤ x /\ x ≤ 60) /\ ns.length ≤ 900 /\ 0 ≤ r /\
 ∀ (v : V) (H' : Hp), Same H H' -> y2t H' v ns r b -> Q v H'
theorem y1u {ns : List Int} {n r : Int} (hall : ∀ x ∈ ns, 1 ≤ x /\ x ≤ 60) (h : z1y ns n r = 0) : ∀ y ∈ ns, n < y -> ¬ y - r ≤ n := fun y hy h1 h2 => by
 unfold z1y at h
 cases e : (upI 1 60).find? (y1I ns n r) with
 | none => exact List.find?_eq_none.mp e y (z0P.mpr (by have := hall y hy; omega)) (z4b.mpr ⟨h1, h2, hy⟩)
 | some t =>
  rw [e] at h
  have := z0P.mp (List.mem_of_find?_eq_some e)
  have h' : t = 0 := h
  omega
theorem y1L {ns : List Int} {r n : Int} : n ∈ z1R ns r ↔ n ∈ z19 ns /\ z1y ns n r = 0 := by
 rw [z6H, List.mem_filter, decide_eq_true_eq]
theorem y2s {ns : List Int} {r n : Int} (hall : ∀ x ∈ ns, 1 ≤ x /\ x ≤ 60) (r0 : 0 ≤ r) (h : n ∈ z1R ns r) : n + r ∈ z19 ns := by
 obtain ⟨h1, h2⟩ := y1L.mp h
 have z := y1u hall h2
 obtain ⟨a, b, y, hy, c⟩ := z1h.mp h1
 have := hall y hy
 have := z y hy c
 refine z1h.mpr ⟨by omega, fun hn => ?_, y, hy, by omega⟩
 rcases Int.lt_or_le n (n + r) with q | q
 ·exact z _ hn q (by omega)
 ·have e : n + r = n := by omega
  rw [e] at hn
  exact b hn
structure Gr (ds : List Int) (r : Int) (as : List Int) : Prop where
 ar : as.Pairwise fun x y => x + r < y
 mem : ∀ a ∈ as, a ∈ ds
 cov : ∀ d ∈ ds, ∃ a ∈ as, a ≤ d /\ d ≤ a + r
theorem Gr.add {ds : List Int} {r d : Int} {as : List Int} (g : Gr ds r as) (h : ∀ a ∈ as, a + r < d) (r0 : 0 ≤ r) : Gr (ds ++ [d]) r (as ++ [d]) where
 ar := List.pairwise_append.mpr ⟨g.ar, List.pairwise_singleton _ _, fun x hx y hy => by rw [List.mem_singleton.mp hy]; exact h x hx⟩
 mem a ha := by
  rcases List.mem_append.mp ha with ha | ha
  ·exact List.mem_append_left _ (g.mem a ha)
  ·exact List.mem_append_right _ ha
 cov x hx := by
  rcases List.mem_append.mp hx with hx | hx
  ·obtain ⟨a, ha, q⟩ := g.cov x hx
   exact ⟨a, List.mem_append_left _ ha, q⟩
  ·rw [List.mem_singleton.mp hx]
   exact ⟨d, List.mem_append_right _ (List.mem_singleton.mpr rfl), Int.le_refl _, by omega⟩
theorem Gr.skip {ds : List Int} {r d a : Int} {as : List Int} (g : Gr ds r as) (ha : a ∈ as) (h1 : a ≤ d) (h2 : d ≤ a + r) : Gr (ds ++ [d]) r as where
 ar := g.ar
 mem a ha := List.mem_append_left _ (g.mem a ha)
 cov x hx := by
  rcases List.mem_append.mp hx with hx | hx
  ·exact g.cov x hx
  ·rw [List.mem_singleton.mp hx]
   exact ⟨a, ha, h1, h2⟩
theorem Gr.plan {ns : List Int} {r b : Int} {as : List Int} (g : Gr (z0N ns r b) r as) (hall : ∀ x ∈ ns, 1 ≤ x /\ x ≤ 60) (r0 : 0 ≤ r) : PlanOk ns r b (as.map (· + r)) as where
 len := List.length_map _
 fr := by
  rw [List.pairwise_map]
  exact g.ar.imp fun h => by omega
 ar := g.ar
 lack x hx := by
  obtain ⟨a, ha, rfl⟩ := List.mem_map.mp hx
  exact y2s hall r0 (List.mem_filter.mp (g.mem a ha)).1
 cov d hd := by
  obtain ⟨a, ha, h1, h2⟩ := g.cov d hd
  exact ⟨a + r, List.mem_map.mpr ⟨a, ha, rfl⟩, h2, by omega⟩
 mem := g.mem
theorem y1A {as : List Int} (h : as ≠ []) : ∃ (init : List Int) (z : Int), as = init ++ [z] := ⟨as.dropLast, as.getLast h, (List.dropLast_concat_getLast h).symm⟩
theorem y3q (M : Bl mg) (F : Fun K "fewest_numbers" "fewest_numbers" z2A f fd) (Gdark_numbers_behind : Cal P w K mg base 4 "dark_numbers_behind" z0O (z6F K)) : FnOk P w K mg base CX0 5 f fd z2E (y0H K) := by
 have nd := z3R.nd
 refine F.ok z3R (fun vs H Q E h => ?_) (fun cdv A outer s H vs Q E hr h => ?_)
 ·obtain ⟨p, ns, r, b, rfl, _⟩ := h
  rfl
 obtain ⟨p, ns, r, b, rfl, hS, hall, hlen, r0, q⟩ := h
 refine ⟨_, (z04 (z0p (i := 3) nd rfl (Or.inl rfl) (z2l z03)) (z04 (z0p (i := 4) nd rfl (Or.inl rfl) (z2l z03)) (z04 (z1i PassesOwn.never rfl (z1W (z0h Gdark_numbers_behind (rm hr) rfl (z00 (pv 0) (z00 (pv 1) (z00 (pv 2) z03))))) (z0m (i := 5) nd rfl (Or.inl rfl)) (z05 (z0S (PW.pt (z7E (z0l z3A (z0j z0a rfl M.len PySem.boot_len (z00 (pv 3) z03)) z08 (z0u _)) (z41 (z0l z4v (pv 5) (z1q z1w (pv 3) (y5Q y2x z08) (fun _ _ => rfl)) (z0u _))))) (z04 (z0B (z58 PySem.F.plainAttrs_list PySem.F.slot_list_append PySem.F.type_list_append z1e (pv 3) (z00 (z0v z1F (pv 5) (pv 1)) z03))) (z05 (z0B (z58 PySem.F.plainAttrs_list PySem.F.slot_list_append PySem.F.type_list_append z1e (pv 4) (z00 (pv 5) z03))))) z0t))) (z05 (z0k (z0z (z00 (z0r z0o rfl M.tuple PyProof.Rows.boot_tuple (z00 (pv 3) z03)) (z00 (z0r z0o rfl M.tuple PyProof.Rows.boot_tuple (z00 (pv 4) z03)) z03)))))))), ?_⟩
 refine ⟨(by show 0 ≤ sizeLine; decide), fun lf hlf => ⟨(by show 0 ≤ sizeLine; decide), fun la hla => ?_⟩⟩
 have s1 := (z01 hlf (.lst [])).trans (z01 hla (.lst []))
 have ef : upd (upd H lf (.lst [])) la (.lst []) lf = some (.lst []) := z01 hla _ _ _ z02
 have ea : upd (upd H lf (.lst [])) la (.lst []) la = some (.lst []) := z02
 have nfa : lf ≠ la := z0i z02 hla
 have hla' : H la = none := (z01 hlf _).free hla
 generalize upd (upd H lf (.lst [])) la (.lst []) = H1 at s1 ef ea
 refine ⟨_, rfl, _, rfl, _, rfl, p, ns, r, b, rfl, SqI.keep s1 hS, hall, hlen, fun lt H2 s2 e2 => ?_⟩
 have ld : (z0N ns r b).length ≤ 60 := Nat.le_trans (List.length_filter_le _ _) (z5B ns r)
 have rise : (z0N ns r b).Pairwise (· < ·) := by
  unfold z0N
  rw [z6H]
  exact ((z3n ns).filter _).filter _
 refine ⟨lt, rfl, ⟨_, SqT.of e2⟩, z50 (K := K) (a := lt) (xs := (z0N ns r b).map V.int) (fun i σ H' => ∃ (as : List Int) (o : Option V), Same H H' /\ H' lt = some (.tup ((z0N ns r b).map V.int)) /\ H' lf = some (.lst ((as.map (· + r)).map V.int)) /\ H' la = some (.lst (as.map V.int)) /\ as.length ≤ i /\ Gr ((z0N ns r b).take i) r as /\
  σ = [some (.ref p), some (.int r), some (.int b), some (.ref lf), some (.ref la), o]) ⟨[], none, s1.trans s2, e2, s2 _ _ ef, s2 _ _ ea, Nat.le_refl 0, ⟨.nil, fun _ h => (nomatch h), fun _ h => (nomatch h)⟩, rfl⟩ (fun i σ H' _ hp => ?_) (fun i x σ H' hx hp => ?_) (fun σ H' hp => ?_)⟩
 ·obtain ⟨as, o, g, e, _⟩ := hp
  exact SqT.of e
 ·obtain ⟨as, o, g, e, e3, e4, li, G, rfl⟩ := hp
  rw [List.getElem?_map] at hx
  obtain ⟨d, ed, rfl⟩ := Option.map_eq_some_iff.mp hx
  have hi : i < (z0N ns r b).length := (List.getElem?_eq_some_iff.mp ed).1
  have lm1 : ((as.map (· + r)).map V.int).length = as.length := by rw [List.length_map, List.length_map]
  have lm2 : (as.map V.int).length = as.length := List.length_map _
  have up : (∀ a ∈ as, a + r < d) -> ∃ (as' : List Int) (o : Option V), Same H (upd (upd H' lf (.lst ((as.map (· + r)).map V.int ++ [V.int (d + r)]))) la (.lst (as.map V.int ++ [V.int d]))) /\ upd (upd H' lf (.lst ((as.map (· + r)).map V.int ++ [V.int (d + r)]))) la (.lst (as.map V.int ++ [V.int d])) lt = some (.tup ((z0N ns r b).map V.int)) /\
    upd (upd H' lf (.lst ((as.map (· + r)).map V.int ++ [V.int (d + r)]))) la (.lst (as.map V.int ++ [V.int d])) lf = some (.lst ((as'.map (· + r)).map V.int)) /\ upd (upd H' lf (.lst ((as.map (· + r)).map V.int ++ [V.int (d + r)]))) la (.lst (as.map V.int ++ [V.int d])) la = some (.lst (as'.map V.int)) /\ as'.length ≤ i + 1 /\ Gr ((z0N ns r b).take (i + 1)) r as' /\
    [some (V.ref p), some (V.int r), some (V.int b), some (V.ref lf), some (V.ref la), some (V.int d)] = [some (V.ref p), some (V.int r), some (V.int b), some (V.ref lf), some (V.ref la), o] := fun h => by
   refine ⟨as ++ [d], _, z3J (z3J g hlf) hla', ?_, ?_, ?_, ?_, ?_, rfl⟩
   ·rw [z0d (z4t e e4 (by intro z; cases z)), z0d (z4t e e3 (by intro z; cases z))]
    exact e
   ·rw [z0d nfa, z02, List.map_append, List.map_append]
    rfl
   ·rw [z02, List.map_append]
    rfl
   ·rw [List.length_append]
    exact Nat.succ_le_succ li
   ·rw [z0q ed]
    exact G.add h r0
  refine ⟨_, rfl, lf, _, rfl, .inl (SqL.of e3), rfl, _, rfl, ?_⟩
  rw [lm1]
  refine ite2 (fun c => ?_) (fun c => ?_)
  ·have c0 : as = [] := List.length_eq_zero_iff.mp (by have := z0H c; injection this with this; omega)
   refine ⟨_, rfl, .inl ⟨rfl, _, SqL.of e3⟩, _, rfl, _, rfl, _, _, rfl, rfl, lf, _, _, rfl, rfl, e3, z0g (by omega), ?_⟩
   refine ⟨_, rfl, .inl ⟨rfl, _, SqL.of (by rw [z0d (Ne.symm nfa)]; exact e4)⟩, _, rfl, la, _, _, rfl, rfl, (by rw [z0d (Ne.symm nfa)]; exact e4), z0g (by omega), ?_⟩
   exact up fun a ha => by rw [c0] at ha; cases ha
  ·have c0 : as ≠ [] := fun z => c (by rw [z]; rfl)
   obtain ⟨init, z, ez⟩ := y1A c0
   refine ⟨_, rfl, _, rfl, _, rfl, lf, _, _, V.int (z + r), rfl, rfl, SqL.of e3, (by rw [ez, List.map_append, List.map_append]; exact y42 _ _), _, _, rfl, rfl, _, rfl, ?_⟩
   have hz : z ∈ as := by rw [ez]; exact List.mem_append_right _ (List.mem_singleton.mpr rfl)
   refine ite2 (fun c => ?_) (fun c => ?_)
   ·have c1 := z0H c
    refine ⟨_, rfl, .inl ⟨rfl, _, SqL.of e3⟩, _, rfl, _, rfl, _, _, rfl, rfl, lf, _, _, rfl, rfl, e3, z0g (by omega), ?_⟩
    refine ⟨_, rfl, .inl ⟨rfl, _, SqL.of (by rw [z0d (Ne.symm nfa)]; exact e4)⟩, _, rfl, la, _, _, rfl, rfl, (by rw [z0d (Ne.symm nfa)]; exact e4), z0g (by omega), ?_⟩
    refine up fun a ha => ?_
    have hp := G.ar
    rw [ez] at ha hp
    rcases List.mem_append.mp ha with h | h
    ·have := (List.pairwise_append.mp hp).2.2 a h z (List.mem_singleton.mpr rfl)
     omega
    ·rw [List.mem_singleton.mp h]
     exact c1
   ·have c1 := z6z c
    refine ⟨as, _, g, e, e3, e4, by omega, ?_, rfl⟩
    rw [z0q ed]
    refine G.skip hz ?_ (by omega)
    have h1 := G.mem z hz
    have h2 : ((z0N ns r b).take i ++ [d]).Pairwise (· < ·) := by
     rw [<- z0q ed]
     exact rise.sublist (List.take_sublist _ _)
    exact Int.le_of_lt ((List.pairwise_append.mp h2).2.2 z h1 d (List.mem_singleton.mpr rfl))
 ·obtain ⟨as, o, g, e, e3, e4, li, G, rfl⟩ := hp
  rw [List.length_map, List.take_length] at G
  refine ⟨_, rfl, lf, _, rfl, .inl ⟨SqL.of e3, fun t1 ht1 => ⟨_, rfl, la, _, rfl, .inl ⟨SqL.of (z01 ht1 _ _ _ e4), fun t2 ht2 => ⟨(by show 2 ≤ sizeLine; decide), fun t ht => ?_⟩⟩⟩⟩⟩
  exact q _ _ (g.trans ((z01 ht1 _).trans ((z01 ht2 _).trans (z01 ht _)))) ⟨t, t1, t2, _, _, rfl, z02, z01 ht _ _ _ (z01 ht2 _ _ _ z02), z01 ht _ _ _ z02, G.plan hall r0⟩
theorem y3Y {ms : List Int} {rows : List Row} {z : Str} (h : ∀ n ∈ ms, n ≤ 60) : z15 (z0I ms rows z) ≤ 60 := by
 have go : ∀ (ms : List Int) (acc : Option (Int × Int)), (∀ n ∈ ms, n ≤ 60) -> z15 acc ≤ 60 -> z15 (ms.foldl (fun acc n => match valL (z0J rows n) z with | some v => some (n, v) | none => acc) acc) ≤ 60 := by
  intro ms
  induction ms with
  | nil => intro acc _ h; exact h
  | cons n r ih =>
   intro acc hn h0
   rw [List.foldl_cons]
   refine ih _ (fun x hx => hn x (List.mem_cons_of_mem _ hx)) ?_
   cases valL (z0J rows n) z with
   | none => exact h0
   | some v => exact hn n List.mem_cons_self
 exact go ms none h (by decide)
def z5o (ns : List Int) (rows : List Row) (r : Int) (as : List Str) : List Int := (as.filter fun z => decide (z1j ns rows r (z15 (z0I ns rows z)) z = "open")).map fun z => z15 (z0I ns rows z)
def y4X (l : List Int) : Int := l.foldl min 61
theorem y0p {m : Int} : ∀ {l : List Int} {a : Int}, (m = a \/ m ∈ l) -> m ≤ a -> (∀ y ∈ l, m ≤ y) -> l.foldl min a = m
 | [], a, h, _, _ => by
  rcases h with h | h
  ·exact h.symm
  ·cases h
 | y :: l, a, h, ha, hl => by
  have hy := hl y List.mem_cons_self
  rw [List.foldl_cons]
  refine y0p ?_ (by omega) fun x hx => hl x (List.mem_cons_of_mem _ hx)
  rcases h with h | h
  ·exact .inl (by omega)
  ·rcases List.mem_cons.mp h with h | h
   ·exact .inl (by omega)
   ·exact .inr h
theorem y1c (ns : List Int) (rows : List Row) (r : Int) (as : List Str) (z : Str) : z5o ns rows r (as ++ [z]) = z5o ns rows r as ++ (if z1j ns rows r (z15 (z0I ns rows z)) z = "open" then [z15 (z0I ns rows z)] else []) := by
 unfold z5o
 rw [List.filter_append, List.map_append, List.filter_cons]
 by_cases c : z1j ns rows r (z15 (z0I ns rows z)) z = "open"
 ·rw [decide_eq_true c, if_pos rfl, if_pos c]
  rfl
 ·rw [decide_eq_false c, if_neg Bool.false_ne_true, if_neg c]
  rfl
def askV : Option Str -> V
 | none => .non
 | some z => .str z
def askL (nm : List Str) : Option Str -> List Str
 | none => nm
 | some z => [z]
def z4d (Sh : ShP) : Sp := fun vs H Q _ => ∃ (x : Addr) (o : Option Str) (fp : List Addr) (nm : List Str) (r : Int) (rows : List Row) (had : List Int), vs = [.ref x, askV o] /\ Sh H x fp nm r (fun n => z0M rows n r) had /\ (∀ z ∈ askL nm o, z ∈ nm) /\ GoodN nm /\ Rws nm rows /\ rows.length ≤ 60 /\ (∀ n ∈ had, 1 ≤ n /\ n ≤ rows.length) /\ 0 ≤ r /\ r ≤ 10 /\
 ∀ (v : V) (H' : Hp), Same H H' -> y2t H' v (z07 had) r (y4X (z5o (z07 had) rows r (askL nm o))) -> Q v H'
theorem y3h (ns : List Int) (r : Int) : PlanOk ns r 61 [] [] where
 len := rfl
 fr := .nil
 ar := .nil
 lack := fun _ h => (nomatch h)
 cov := fun d hd => by
  unfold z0N at hd
  rw [List.mem_filter, decide_eq_true_eq, z6H, List.mem_filter] at hd
  have := (z1h.mp hd.1.1).1
  omega
 mem := fun _ h => (nomatch h)
theorem z8g {CShelf T0 : Addr} {items : Array Value} (M : Bl mg) (T : TxShelf K mg CShelf) (F : FunD K "send_for" "send_for" z7t f fd T0 items) (Gheld_for : Cal P w K mg base 2 "held_for" z2C (z3d (ShD K CShelf)))
  (Gstate_of : Cal P w K mg base 5 "state_of" z2F (z3f (ShD K CShelf))) (GShelf_had : MCal P w K mg base 1 CShelf "had" z16 (z3b (ShD K CShelf)))
  (Gfewest_numbers : Cal P w K mg base 5 "fewest_numbers" z2E (y0H K)) : FnOk P w K mg base CX0 6 f fd z3l (z4d (ShD K CShelf)) := by
 have nd := z85.nd
 refine F.ok z85 (fun vs H Q E h => ?_) (fun cdv A outer s H vs Q E hr h => ?_)
 ·obtain ⟨x, o, fp, nm, r, rows, had, rfl, _⟩ := h
  rfl
 obtain ⟨x, o, fp, nm, r, rows, had, rfl, sh, ho, gn, R, l60, hh, r0, r1, k⟩ := h
 refine ⟨_, (z04 (z0p (i := 2) nd rfl (Or.inl rfl) (z3E (z6q (z6R (pv 1))) (z0A (pv 0) rfl) (z0z (z00 (pv 1) z03)))) (z04 (z76 (i := 3) ["one"] ["shelf"] [0] rfl nd rfl (Or.inl rfl) (z0w rfl (by decide +kernel) rfl (by decide +kernel) rfl rfl) (z1W (pv 2)) (fun _ _ _ _ _ => (z0m (i := 0) (show ((["one"] : List PySem.Str) ++ (["shelf"] : List PySem.Str)).Nodup from by decide +kernel) rfl (Or.inl rfl))) (z0x (by decide)) z0c (fun _ _ _ _ _ => (z3x (z0l z3A (z0h Gstate_of (rm hr) rfl (z00 (pv 1) (z00 (pv 0) z03))) (z1B rfl M.OPEN) (z0u _)))) (fun _ _ _ _ _ => (z1q (r := rIxT K) z22 (z0h Gheld_for (rm hr) rfl (z00 (pv 1) (z00 (pv 0) z03))) z08 (fun _ _ => rfl)))) (z04 (z0S (z0l z3A (z0j z0a rfl M.len PySem.boot_len (z00 (pv 3) z03)) z08 (z0u _)) (z05 (z0k (z0z (z00 (z0z z03) (z00 (z0z z03) z03))))) z0t) (z05 (z0k (z0h Gfewest_numbers (rm hr) rfl (z00 (z1I GShelf_had (rm hr) (pv 0)) (z00 (z0A (pv 0) rfl) (z00 (z0j (y1N rfl) rfl M.min PyProof.Rows.boot_min (z00 (pv 3) z03)) z03))))))))), ?_⟩
 obtain ⟨dx, pn, fs, h1, h3, ln, lr, lm⟩ : ∃ dx pn fs, H x = some (.ins CShelf dx fs) /\ H pn = some (.tup (nm.map V.str)) /\ fs.lookup ("names" : Str) = some (V.ref pn) /\ fs.lookup ("reach" : Str) = some (V.int r) /\ fs.lookup ("had" : Str) = none := by
  obtain ⟨dx, pn, pd, fs, kvs, _, h1, _, h3, _, l1, l2, _, lm, _⟩ := sh
  exact ⟨dx, pn, fs, h1, h3, l1, l2, lm _ (by simp)⟩
 have h60 : ∀ n ∈ z07 had, 1 ≤ n /\ n ≤ 60 := fun n hn => by have := hh n (z0K.mp hn).2; omega
 have n12 := gn.hi
 have la : (askL nm o).length ≤ 12 := by
  cases o with
  | none => exact n12
  | some z => show 1 ≤ 12; decide
 have asked : ∀ (Qk : VK), (∀ (ta : Addr) (H1 : Hp), Same H H1 -> H1 ta = some (.tup ((askL nm o).map V.str)) -> Qk (.ref ta) H1) -> tIf (tB (tIsN (tVar 1))) (tFld K (tVar 0) "names") (tTup (y4b (tVar 1) tNil)) (z5u ["shelf", "name", "asked", "held_from"] [.ref x, askV o]) H Qk := fun Qk hq => by
  cases o with
  | none => exact ⟨_, rfl, _, rfl, iteT ⟨_, rfl, x, CShelf, dx, fs, _, rfl, h1, T.cl, T.n_names, ln, hq pn H (Same.refl _) h3⟩⟩
  | some z => exact ⟨_, rfl, _, rfl, iteF ⟨_, rfl, (by show 1 ≤ sizeLine; decide), fun t ht => hq t _ (z01 ht _) z02⟩⟩
 refine asked _ fun ta H1 s1 e1 => ?_
 generalize hAs : askL nm o = as at *
 clear asked
 have sh1 := shOk.same sh s1
 refine ⟨_, rfl, ta, rfl, ⟨_, SqT.of e1⟩, ?_⟩
 refine z1z (xs := as.map V.str) (fun i ys H' => Same H1 H' /\ ys = (z5o (z07 had) rows r (as.take i)).map V.int) ⟨Same.refl _, rfl⟩ (fun i ys H' hi hp => ?_) (fun i y ys H' hy hp => ?_) (fun ys H' hp => ?_)
 ·obtain ⟨g, rfl⟩ := hp
  refine ⟨SqT.of (g _ _ e1), z0g ?_⟩
  unfold z5o
  rw [List.length_map, List.length_map]
  have h1 := List.length_filter_le (fun z => decide (z1j (z07 had) rows r (z15 (z0I (z07 had) rows z)) z = "open")) (as.take i)
  rw [List.length_take] at h1
  omega
 ·obtain ⟨g, rfl⟩ := hp
  rw [List.getElem?_map] at hy
  obtain ⟨z, ez, rfl⟩ := Option.map_eq_some_iff.mp hy
  have hz := ho z (List.mem_of_getElem? ez)
  have sh2 := shOk.same sh1 g
  refine ⟨_, rfl, _, rfl, x, z, fp, nm, r, rows, had, rfl, sh2, hz, gn, R, l60, hh, r0, r1, fun H2 s2 => ⟨rfl, _, rfl, ?_⟩⟩
  rw [z0q ez, y1c]
  refine ite2 (fun c => ?_) (fun c => ?_)
  ·have c' : z1j (z07 had) rows r (z15 (z0I (z07 had) rows z)) z = "open" := V.str.inj (z0H c)
   rw [if_pos c', List.map_append]
   refine ⟨_, rfl, _, rfl, x, z, fp, nm, r, rows, had, rfl, shOk.same sh2 s2, hz, gn, R, fun v H3 s3 tv => ?_⟩
   obtain ⟨b, y, rfl, eb, _⟩ := z3r tv
   exact ⟨b, _, _, _, rfl, rfl, SqT.of eb, z1d rfl, g.trans (s2.trans s3), rfl⟩
  ·have c' : ¬ z1j (z07 had) rows r (z15 (z0I (z07 had) rows z)) z = "open" := fun e => c (decide_eq_true (congrArg V.str e))
   rw [if_neg c', List.append_nil]
   exact ⟨g.trans s2, rfl⟩
 ·obtain ⟨g, rfl⟩ := hp
  rw [List.length_map, List.take_length]
  intro D hD
  have eD : upd H' D (.lst ((z5o (z07 had) rows r as).map V.int)) D = some (.lst ((z5o (z07 had) rows r as).map V.int)) := z02
  have s2 := s1.trans (g.trans (z01 hD (.lst ((z5o (z07 had) rows r as).map V.int))))
  generalize upd H' D (.lst ((z5o (z07 had) rows r as).map V.int)) = H2 at eD s2
  refine ⟨_, rfl, D, _, rfl, .inl (SqL.of eD), rfl, _, rfl, ?_⟩
  rw [List.length_map]
  refine ite2 (fun c => ?_) (fun c => ?_)
  ·have c0 : z5o (z07 had) rows r as = [] := List.length_eq_zero_iff.mp (by have := z0H c; injection this with this; omega)
   refine ⟨(by show 0 ≤ sizeLine; decide), fun t1 ht1 => ⟨(by show 0 ≤ sizeLine; decide), fun t2 ht2 => ⟨(by show 2 ≤ sizeLine; decide), fun t ht => ?_⟩⟩⟩
   refine k _ _ (s2.trans ((z01 ht1 _).trans ((z01 ht2 _).trans (z01 ht _)))) ⟨t, t1, t2, [], [], rfl, z02, z01 ht _ _ _ (z01 ht2 _ _ _ z02), z01 ht _ _ _ z02, ?_⟩
   rw [c0]
   exact y3h _ _
  ·have c0 : z5o (z07 had) rows r as ≠ [] := fun e => c (by rw [e]; rfl)
   have sh2 := shOk.same sh s2
   refine ⟨_, rfl, x, dx, fs, rfl, s2 _ _ h1, lm, x, fp, nm, r, _, had, rfl, sh2, fun l H3 s3 e3 => ?_⟩
   refine ⟨_, rfl, x, CShelf, dx, fs, _, rfl, s3 _ _ (s2 _ _ h1), T.cl, T.n_reach, lr, _, rfl, D, _, rfl, .inl (SqL.of (s3 _ _ eD)), c0, fun m hm hl => ?_⟩
   have em : y4X (z5o (z07 had) rows r as) = m := by
    refine y0p (.inr hm) ?_ hl
    unfold z5o at hm
    obtain ⟨z, _, rfl⟩ := List.mem_map.mp hm
    have := y3Y (rows := rows) (z := z) fun n hn => (h60 n hn).2
    omega
   refine ⟨l, z07 had, r, m, rfl, .inr (SqT.of e3), h60, Nat.le_trans (z2I had) (by decide), r0, fun v H4 s4 p4 => ?_⟩
   exact k v H4 (s2.trans (s3.trans s4)) (by rw [em]; exact p4)
def agC (k : Nat) (ns : List Int) (rows : List Row) (r : Int) (z : Str) : Int :=
 if z1j ns rows r (z15 (z0I ns rows z)) z = "stale" then 2 ^ ((z1R ns r).length * k) else 2 ^ ((z1R ns r).length * k) - 2 ^ ((z1R ns r).length * k - (z0N ns r (z15 (z0I ns rows z))).length)
def y0W (Sh : ShP) : Sp := fun vs H Q _ => ∃ (x : Addr) (z : Str) (fp : List Addr) (nm : List Str) (r : Int) (rows : List Row) (had : List Int), vs = [.ref x, .str z] /\ Sh H x fp nm r (fun n => z0M rows n r) had /\ z ∈ nm /\ GoodN nm /\ Rws nm rows /\ rows.length ≤ 60 /\ (∀ n ∈ had, 1 ≤ n /\ n ≤ rows.length) /\ 0 ≤ r /\ r ≤ 10 /\
 ∀ (H' : Hp), Same H H' -> Q (.int (agC nm.length (z07 had) rows r z)) H'
theorem y6b (a b : Nat) (h : b ≤ a) : (2 : Int) ^ a / 2 ^ b = 2 ^ (a - b) := by
 have e : (2 : Int) ^ a = 2 ^ (a - b) * 2 ^ b := by rw [<- Int.pow_add, Nat.sub_add_cancel h]
 rw [e]
 exact Int.mul_ediv_cancel _ (by have := Int.pow_pos (n := 2) (m := b) (by decide); omega)
theorem y5S {a b : Nat} (h : a ≤ b) : (2 : Int) ^ a ≤ 2 ^ b := by
 have := Nat.pow_le_pow_right (n := 2) (by decide) h
 exact_mod_cast this
theorem y2f {CShelf : Addr} (M : Bl mg) (T : TxShelf K mg CShelf) (F : Fun K "again_count" "again_count" z4c f fd) (Gheld_for : Cal P w K mg base 2 "held_for" z2C (z3d (ShD K CShelf)))
  (Gstate_of : Cal P w K mg base 5 "state_of" z2F (z3f (ShD K CShelf))) (GShelf_had : MCal P w K mg base 1 CShelf "had" z16 (z3b (ShD K CShelf)))
  (Gcourse_count : Cal P w K mg base 4 "course_count" z1T (z8o (ShD K CShelf))) (Gtwo_to_the : Cal P w K mg base 1 "two_to_the" z3D z40)
  (Gdark_numbers_behind : Cal P w K mg base 4 "dark_numbers_behind" z0O (z6F K)) : FnOk P w K mg base CX0 6 f fd z4j (y0W (ShD K CShelf)) := by
 have nd := z5c.nd
 refine F.ok z5c (fun vs H Q E h => ?_) (fun cdv A outer s H vs Q E hr h => ?_)
 ·obtain ⟨x, z, fp, nm, r, rows, had, rfl, _⟩ := h
  rfl
 obtain ⟨x, z, fp, nm, r, rows, had, rfl, sh, hz, gn, R, l60, hh, r0, r1, k⟩ := h
 refine ⟨_, (z04 (z0p (i := 2) nd rfl (Or.inl rfl) (z0h Gstate_of (rm hr) rfl (z00 (pv 0) (z00 (pv 1) z03)))) (z04 (z0p (i := 3) nd rfl (Or.inl rfl) (z0h Gcourse_count (rm hr) rfl (z00 (pv 0) z03))) (z04 (z0S (z0l z3A (pv 2) (z1B rfl M.STALE) (z0u _)) (z05 (z0k (pv 3))) z0t) (z04 (z0p (i := 4) nd rfl (Or.inl rfl) (z1q z22 (z0h Gheld_for (rm hr) rfl (z00 (pv 0) (z00 (pv 1) z03))) z08 (fun _ _ => rfl))) (z04 (z0p (i := 5) nd rfl (Or.inl rfl) (z0h Gdark_numbers_behind (rm hr) rfl (z00 (z1I GShelf_had (rm hr) (pv 0)) (z00 (z0A (pv 0) rfl) (z00 (pv 4) z03))))) (z04 (z0p (i := 6) nd rfl (Or.inl rfl) (z0v y4n (pv 3) (z0h Gtwo_to_the (rm hr) rfl (z00 (z0j z0a rfl M.len PySem.boot_len (z00 (pv 5) z03)) z03)))) (z05 (z0k (z0v z5q (pv 3) (pv 6)))))))))), ?_⟩
 have hh60 : ∀ n ∈ had, 1 ≤ n /\ n ≤ 60 := fun n hn => by have := hh n hn; omega
 have h60 : ∀ n ∈ z07 had, 1 ≤ n /\ n ≤ 60 := fun n hn => hh60 n (z0K.mp hn).2
 refine ⟨_, rfl, _, rfl, x, z, fp, nm, r, rows, had, rfl, sh, hz, gn, R, l60, hh, r0, r1, fun H1 s1 => ?_⟩
 have sh1 := shOk.same sh s1
 refine ⟨_, rfl, x, fp, nm, r, _, had, rfl, sh1, hh60, fun H2 s2 => ?_⟩
 have sh2 := shOk.same sh1 s2
 refine ⟨_, rfl, rfl, _, rfl, ite2 (fun c => ?_) (fun c => ?_)⟩
 ·have c' : z1j (z07 had) rows r (z15 (z0I (z07 had) rows z)) z = "stale" := V.str.inj (z0H c)
  have e := k H2 (s1.trans s2)
  unfold agC at e
  rw [if_pos c'] at e
  exact ⟨_, rfl, e⟩
 ·have c' : ¬ z1j (z07 had) rows r (z15 (z0I (z07 had) rows z)) z = "stale" := fun e => c (decide_eq_true (congrArg V.str e))
  refine ⟨_, rfl, _, rfl, x, z, fp, nm, r, rows, had, rfl, sh2, hz, gn, R, fun v H3 s3 tv => ?_⟩
  obtain ⟨b, y, rfl, eb, _⟩ := z3r tv
  refine ⟨b, _, _, _, rfl, rfl, SqT.of eb, z1d rfl, ?_⟩
  have sh3 := shOk.same sh2 s3
  obtain ⟨dx, fs, h1, lm, lr⟩ : ∃ dx fs, H3 x = some (.ins CShelf dx fs) /\ fs.lookup ("had" : Str) = none /\ fs.lookup ("reach" : Str) = some (V.int r) := by
   obtain ⟨dx, pn, pd, fs, kvs, _, h1, _, _, _, _, lr, _, lm, _⟩ := sh3
   exact ⟨dx, fs, h1, lm _ (by simp), lr⟩
  refine ⟨_, rfl, x, dx, fs, rfl, h1, lm, x, fp, nm, r, _, had, rfl, sh3, fun l H4 s4 e4 => ?_⟩
  refine ⟨_, rfl, x, CShelf, dx, fs, _, rfl, s4 _ _ h1, T.cl, T.n_reach, lr, _, rfl, l, z07 had, r, _, rfl, .inr (SqT.of e4), h60, Nat.le_trans (z2I had) (by decide), fun d H5 s5 e5 => ?_⟩
  have e := k H5 (s1.trans (s2.trans (s3.trans (s4.trans s5))))
  unfold agC at e
  rw [if_neg c'] at e
  have ld : ((z0N (z07 had) r (z15 (z0I (z07 had) rows z))).map V.int).length = (z0N (z07 had) r (z15 (z0I (z07 had) rows z))).length := List.length_map _
  have bd : (z0N (z07 had) r (z15 (z0I (z07 had) rows z))).length ≤ (z1R (z07 had) r).length := List.length_filter_le _ _
  have d60 := z5B (z07 had) r
  have lb : (z0N (z07 had) r (z15 (z0I (z07 had) rows z))).length ≤ (z1R (z07 had) r).length * nm.length := Nat.le_trans bd (Nat.le_mul_of_pos_right _ gn.lo)
  have p64 : (2 : Int) ^ (z0N (z07 had) r (z15 (z0I (z07 had) rows z))).length < 18446744073709551616 := Int.lt_of_le_of_lt (y5S (Nat.le_trans bd d60)) (by decide)
  refine ⟨_, rfl, _, rfl, d, _, rfl, .inr (SqT.of e5), _, rfl, by omega, by omega, ?_⟩
  rw [ld, Int.toNat_natCast]
  refine ⟨_, _, rfl, rfl, ⟨Int.pow_pos (by decide), p64⟩, _, rfl, _, rfl, _, _, rfl, rfl, ?_⟩
  rw [y6b _ _ lb]
  exact e
def z8A (Sh : ShP) : Sp := fun vs H Q _ => ∃ (x : Addr) (fp : List Addr) (nm : List Str) (r : Int) (rows : List Row) (had : List Int) (m : Nat), vs = [.ref x] /\ Sh H x fp nm r (fun n => z0M rows n r) had /\ GoodN nm /\ Rws nm rows /\ rows.length ≤ 60 /\ (∀ n ∈ had, 1 ≤ n /\ n ≤ rows.length) /\ 0 ≤ r /\ r ≤ 10 /\ z65 had m /\
 ∀ (v : V) (H' : Hp), Same H H' -> Tell H' (.tup ((z0X m (z07 had) rows r).map optD)) v -> Q v H'
theorem y0M {had : List Int} {m : Nat} (h60 : ∀ n ∈ had, 1 ≤ n /\ n ≤ 60) (t : z65 had m) : z07 (z07 had ++ z19 (z07 had)) = upI 1 m := z2e (z1Q _) (z1A _ _) fun x => by
 have inr : ∀ y, y ∈ z07 had ↔ y ∈ had := fun y => by
  rw [z0K]
  exact ⟨fun h => h.2, fun h => ⟨by have := h60 y h; omega, h⟩⟩
 rw [z0K, List.mem_append, z0P, z1h]
 constructor
 ·rintro ⟨h1, h | ⟨_, _, y, hy, h⟩⟩
  ·have := t.2 x ((inr x).mp h)
   omega
  ·have := t.2 y ((inr y).mp hy)
   omega
 ·rintro ⟨h1, h2⟩
  rcases t.1 with q | ⟨_, q⟩
  ·have := h60 _ q
   refine ⟨by omega, ?_⟩
   by_cases c : x ∈ z07 had
   ·exact .inl c
   ·refine .inr ⟨by omega, c, m, (inr _).mpr q, ?_⟩
    have : x ≠ (m : Int) := fun e => c (by rw [e]; exact (inr _).mpr q)
    omega
  ·omega
theorem y0B {kvs : List (Key × V)} {ks : List Int} (kk : kvs.map (·.1) = ks.map Sum.inl) {n : Int} (hn : n ∉ ks) (v : V) : putK kvs (Sum.inl n) v = kvs ++ [(Sum.inl n, v)] := by
 refine y0N _ ?_
 have := z8C kk n
 rw [decide_eq_false hn] at this
 cases e : valV kvs (Sum.inl n : Key) with
 | none => rfl
 | some v => rw [e] at this; cases this
theorem y4q {CShelf : Addr} (M : Bl mg) (F : Fun K "known_sets" "known_sets" z57 f fd) (GShelf_had : MCal P w K mg base 1 CShelf "had" z16 (z3b (ShD K CShelf))) (GShelf_rows_of : MCal P w K mg base 1 CShelf "rows_of" z2d (z8x (ShD K CShelf)))
  (Gnames_of_rows : Cal P w K mg base 1 "names_of_rows" z2f y00) (Ggaps_of : Cal P w K mg base 3 "gaps_of" z5n (z6I (ShD K CShelf))) : FnOk P w K mg base CX0 4 f fd z2H (z8A (ShD K CShelf)) := by
 have nd := z6c.nd
 refine F.ok z6c (fun vs H Q E h => ?_) (fun cdv A outer s H vs Q E hr h => ?_)
 ·obtain ⟨x, fp, nm, r, rows, had, m, rfl, _⟩ := h
  rfl
 obtain ⟨x, fp, nm, r, rows, had, m, rfl, sh, gn, R, l60, hh, r0, r10, it, k⟩ := h
 have hu := z9L hr
 refine ⟨_, (z04 (z0p (i := 1) nd rfl (Or.inr rfl) y0F) (z04 (z1i PassesOwn.never rfl (z1W (z1I GShelf_had (rm hr) (pv 0))) (z0m (i := 2) nd rfl (Or.inl rfl)) (z05 (y04 hu (pv 1) (pv 2) (z0h Gnames_of_rows (rm hr) rfl (z00 (z1X GShelf_rows_of (rm hr) (pv 0) (z00 (pv 2) z03)) z03)) rfl))) (z04 (z1i PassesOwn.never rfl (z1W (z0h Ggaps_of (rm hr) rfl (z00 (pv 0) z03))) (y4R rfl (z0V (z0m (i := 2) nd rfl (Or.inl rfl)) (z0V (z0m (i := 3) nd rfl (Or.inl rfl)) (z0V (z0m (i := 4) nd rfl (Or.inl rfl)) z3Z)))) (z05 (y04 hu (pv 1) (pv 2) (z3E (z0l z3A (pv 3) z08 (z0u _)) z9A (pv 4)) rfl))) (z05 (z0k (z0r z0o rfl M.tuple PyProof.Rows.boot_tuple (z00 (z1c ["number"] ["sets"] [1] rfl (z0w rfl (by decide +kernel) rfl (by decide +kernel) rfl rfl) (z24 (z0j (z3M rfl) rfl M.sorted PyProof.Rows.boot_sorted (z00 (pv 1) z03))) (fun _ _ _ _ _ => (z0m (i := 0) (show ((["number"] : List PySem.Str) ++ (["sets"] : List PySem.Str)).Nodup from by decide +kernel) rfl (Or.inl rfl))) (z0x (by decide)) z0c (fun _ _ _ _ _ => z1N) (fun _ _ _ _ _ => (z69 hu (pv 1) (pv 0) (fun _ _ => rfl)))) z03))))))), ?_⟩
 have h60 : ∀ n ∈ had, 1 ≤ n /\ n ≤ 60 := fun n hn => by have := hh n hn; omega
 have rl := z2I had
 have ll := z3g (z07 had)
 obtain ⟨dx, fs, h1, lm, lo⟩ : ∃ dx fs, H x = some (.ins CShelf dx fs) /\ fs.lookup ("had" : Str) = none /\ fs.lookup ("rows_of" : Str) = none := by
  obtain ⟨dx, pn, pd, fs, kvs, _, h1, _, _, _, _, lr, _, lm, _⟩ := sh
  exact ⟨dx, fs, h1, lm _ (by simp), lm _ (by simp)⟩
 intro d hd
 have s0 := z01 hd (.dK [])
 have e0 : upd H d (.dK []) d = some (.dK []) := z02
 generalize upd H d (.dK []) = H0 at s0 e0
 refine ⟨_, rfl, x, dx, fs, rfl, s0 _ _ h1, lm, x, fp, nm, r, _, had, rfl, shOk.same sh s0, fun l H1 s1 e1 => ?_⟩
 have s01 := s0.trans s1
 refine ⟨l, rfl, ⟨_, SqT.of e1⟩, z50 (K := K) (a := l) (xs := (z07 had).map V.int) (fun i σ G => ∃ (kvs : List (Key × V)) (o2 : Option V), Same H G /\ G l = some (.tup ((z07 had).map V.int)) /\ G d = some (.dK kvs) /\ kvs.map (·.1) = ((z07 had).take i).map Sum.inl /\ (∀ n v, (Sum.inl n, v) ∈ kvs -> Tell G (nmsD (z0R (z0J rows n))) v) /\
   σ = [some (.ref x), some (.ref d), o2, none, none]) ⟨[], none, s01, e1, s1 _ _ e0, by rw [List.take_zero]; rfl, fun _ _ q => (nomatch q), rfl⟩ (fun i σ G _ ⟨_, _, _, e, _⟩ => SqT.of e) ?_ ?_⟩
 ·rintro i y σ G hy ⟨kvs, o2, sG, elG, edG, kk, tk, rfl⟩
  rw [List.getElem?_map] at hy
  obtain ⟨n, en, rfl⟩ := Option.map_eq_some_iff.mp hy
  have nh : n ∈ had := (z0K.mp (List.mem_of_getElem? en)).2
  have lk : kvs.length ≤ 60 := by
   have := congrArg List.length kk
   rw [List.length_map, List.length_map, List.length_take] at this
   omega
  refine ⟨_, rfl, x, dx, fs, rfl, sG _ _ h1, lo, _, rfl, x, fp, nm, r, _, had, n, _, _, _, rfl, shOk.same sh sG, nh, rfl, fun v tv => ?_⟩
  obtain ⟨a, us, rfl, ea, _, tu⟩ := z0f tv
  refine ⟨a, us, z0J rows n, rfl, ea, tu, z9Z gn R n, fun q G1 s1' eq => ?_⟩
  refine ⟨_, rfl, _, rfl, d, _, rfl, DPut.k (k := Sum.inl n) (s1' _ _ edG) (z0g (by omega)), ?_⟩
  have nin : n ∉ (z07 had).take i := fun h => by
   have := (z1Q had)
   rw [<- List.take_append_drop (i + 1) (z07 had), z0q en] at this
   have := (List.pairwise_append.mp (List.pairwise_append.mp this).1).2.2 n h n (List.mem_singleton.mpr rfl)
   omega
  rw [y0B kk nin]
  have nl : l ≠ d := z4t elG edG (by intro z; cases z)
  refine ⟨_, _, z3J (sG.trans s1') hd, by rw [z0d nl]; exact s1' _ _ elG, z02, ?_, fun n' v' hv => ?_, rfl⟩
  ·rw [List.map_append, kk, z0q en, List.map_append]
   rfl
  ·refine Tell.over (s1' _ _ edG) (fun _ z => by cases z) _ _ ?_
   rcases List.mem_append.mp hv with h | h
   ·exact Tell.keep s1' _ _ (tk n' v' h)
   ·rw [List.mem_singleton] at h
    cases h
    exact z0e eq (by rw [List.length_map]; have := y6I R gn n; omega) (z3k _)
 rintro σ H2 ⟨kvs, o2, s2, _, ed2, kk2, tk2, rfl⟩
 rw [List.length_map, List.take_length] at kk2
 have sh2 := shOk.same sh s2
 refine ⟨_, rfl, x, fp, nm, r, rows, had, rfl, sh2, gn, R, l60, hh, r0, r10, fun gv H3 s3 tg => ?_⟩
 obtain ⟨ag, gz, rfl, eag, _, tgz⟩ := z0f tg
 have lgz : gz.length = (z19 (z07 had)).length := by
  rw [tgz.length]
  unfold z7P
  rw [List.length_map]
 have s23 := s2.trans s3
 refine ⟨ag, rfl, ⟨_, SqT.of eag⟩, z50 (K := K) (a := ag) (xs := gz) (fun i σ G => ∃ (kvs : List (Key × V)) (o2 o3 o4 : Option V), Same H G /\ G ag = some (.tup gz) /\ z09 G (z7P (z07 had) rows r) gz /\ G d = some (.dK kvs) /\ kvs.map (·.1) = (z07 had ++ (z19 (z07 had)).take i).map Sum.inl /\ (∀ n v, (Sum.inl n, v) ∈ kvs -> Tell G (optD (z3c (z07 had) rows r n)) v) /\
   σ = [some (.ref x), some (.ref d), o2, o3, o4]) ⟨kvs, _, _, _, s23, eag, tgz, s3 _ _ ed2, by rw [List.take_zero, List.append_nil]; exact kk2, fun n v hv => ?_, rfl⟩ (fun i σ G _ ⟨_, _, _, _, _, e, _⟩ => SqT.of e) ?_ ?_⟩
 ·have hm : n ∈ z07 had := by
   have : (Sum.inl n : Key) ∈ kvs.map (·.1) := List.mem_map.mpr ⟨_, hv, rfl⟩
   rw [kk2] at this
   obtain ⟨n', h, e⟩ := List.mem_map.mp this
   cases e
   exact h
  unfold z3c
  rw [if_pos (.inl hm)]
  exact Tell.keep s3 _ _ (tk2 n v hv)
 ·rintro i y σ G hy ⟨kvs, o2, o3, o4, sG, eaG, tG, edG, kk, tk, rfl⟩
  obtain ⟨n, a, b, en, rfl, ha, hb⟩ := z9D tG hy
  have hlk := List.mem_of_getElem? en
  have hin : n ∉ z07 had := (z1h.mp hlk).2.1
  have lk : kvs.length ≤ 120 := by
   have := congrArg List.length kk
   rw [List.length_map, List.length_map, List.length_append, List.length_take] at this
   omega
  have nin : n ∉ z07 had ++ (z19 (z07 had)).take i := fun h => by
   rcases List.mem_append.mp h with h | h
   ·exact hin h
   ·have := z3n (z07 had)
    rw [<- List.take_append_drop (i + 1) (z19 (z07 had)), z0q en] at this
    have := (List.pairwise_append.mp (List.pairwise_append.mp this).1).2.2 n h n (List.mem_singleton.mpr rfl)
    omega
  have nag : ag ≠ d := z4t eaG edG (by intro z; cases z)
  refine ⟨a, _, rfl, SqT.of ha, rfl, _, _, rfl, _, _, rfl, _, _, rfl, rfl, ?_⟩
  have fin : ∀ v, Tell G (optD (z3c (z07 had) rows r n)) v -> ∃ (kvs' : List (Key × V)) (o2 o3 o4 : Option V), Same H (upd G d (.dK (putK kvs (Sum.inl n) v))) /\ upd G d (.dK (putK kvs (Sum.inl n) v)) ag = some (.tup gz) /\ z09 (upd G d (.dK (putK kvs (Sum.inl n) v))) (z7P (z07 had) rows r) gz /\ upd G d (.dK (putK kvs (Sum.inl n) v)) d = some (.dK kvs') /\ kvs'.map (·.1) = (z07 had ++ (z19 (z07 had)).take (i + 1)).map Sum.inl /\ (∀ n' v', (Sum.inl n', v') ∈ kvs' -> Tell (upd G d (.dK (putK kvs (Sum.inl n) v))) (optD (z3c (z07 had) rows r n')) v') /\
    [some (V.ref x), some (.ref d), some (.int n), some (.int (z1y (z07 had) n r)), some (.ref b)] = [some (V.ref x), some (.ref d), o2, o3, o4] := fun v tv => by
   rw [y0B kk nin]
   refine ⟨_, _, _, _, z3J sG hd, by rw [z0d nag]; exact eaG, z09.over edG (fun _ z => by cases z) _ _ tG, z02, ?_, fun n' v' hv => ?_, rfl⟩
   ·rw [List.map_append, kk, z0q en, <- List.append_assoc, List.map_append (l₁ := z07 had ++ _)]
    rfl
   ·refine Tell.over edG (fun _ z => by cases z) _ _ ?_
    rcases List.mem_append.mp hv with h | h
    ·exact tk n' v' h
    ·rw [List.mem_singleton] at h
     cases h
     exact tv
  refine ⟨_, rfl, rfl, _, rfl, ?_⟩
  by_cases c : z1y (z07 had) n r = 0
  ·rw [decide_eq_true (congrArg V.int c)]
   refine iteT ⟨_, rfl, _, rfl, d, _, rfl, DPut.k (k := Sum.inl n) edG (z0g (by omega)), fin .non ?_⟩
   unfold z3c
   rw [if_neg (fun h => h.elim hin fun h => h c)]
   exact z5D
  ·rw [decide_eq_false (fun e => c (V.int.inj e))]
   refine iteF ⟨_, rfl, _, rfl, _, rfl, d, _, rfl, DPut.k (k := Sum.inl n) edG (z0g (by omega)), fin (.ref b) ?_⟩
   unfold z3c
   rw [if_pos (.inr c)]
   unfold z3L at hb
   rw [if_neg c] at hb
   exact z0e hb (by rw [List.length_map]; have := y6I R gn n; omega) (z3k _)
 rintro σ H4 ⟨kvs, p2, p3, p4, s4, _, _, ed4, kk4, tk4, rfl⟩
 rw [lgz, List.take_length] at kk4
 have hm60 : m ≤ 60 := by have := it.le (k := 60) (by decide) fun x hx => (h60 x hx).2; omega
 have knd : (z07 had ++ z19 (z07 had)).Nodup := List.nodup_append.mpr ⟨(z1Q had).imp fun h => Int.ne_of_lt h, (z3n _).imp fun h => Int.ne_of_lt h, fun a ha b hb e => (z1h.mp hb).2.1 (e ▸ ha)⟩
 have kall : ∀ n ∈ z07 had ++ z19 (z07 had), 1 ≤ n /\ n ≤ 60 := fun n hn => by
  rcases List.mem_append.mp hn with h | h
  ·exact h60 n (z0K.mp h).2
  ·have := (z1h.mp h).1
   omega
 refine ⟨_, rfl, d, kvs, z07 had ++ z19 (z07 had), rfl, ed4, kk4, Nat.lt_of_le_of_lt (y03 knd kall) (by decide), fun ls ms hls hp hs => ?_⟩
 have ems : ms = upI 1 m := by
  rw [y34 knd kall hp hs]
  exact y0M h60 it
 subst ems
 have s5 := z01 hls (.lst ((upI 1 m).map V.int))
 have e5 : upd H4 ls (.lst ((upI 1 m).map V.int)) ls = some (.lst ((upI 1 m).map V.int)) := z02
 have ed5 := s5 _ _ ed4
 generalize upd H4 ls (.lst ((upI 1 m).map V.int)) = H5 at s5 e5 ed5
 refine ⟨ls, rfl, ⟨_, SqL.of e5⟩, ?_⟩
 refine z3X (xs := (upI 1 m).map V.int) (fun i ys G => G = H5 /\ z09 H5 (((upI 1 m).take i).map fun n => optD (z3c (z07 had) rows r n)) ys) ⟨rfl, by rw [List.take_zero]; exact .nil⟩ (fun i ys G hi hp => ?_) (fun i y ys G hy hp => ?_) (fun ys G hp => ?_)
 ·obtain ⟨rfl, t⟩ := hp
  refine ⟨SqL.of e5, z0g ?_⟩
  rw [t.length, List.length_map, List.length_take, z0E]
  omega
 ·obtain ⟨rfl, t⟩ := hp
  rw [List.getElem?_map] at hy
  obtain ⟨n, en, rfl⟩ := Option.map_eq_some_iff.mp hy
  have hn : n ∈ z07 had ++ z19 (z07 had) := by
   have := List.mem_of_getElem? en
   rw [<- y0M h60 it] at this
   exact (z0K.mp this).2
  obtain ⟨v, ev, mv⟩ := z6M kk4 hn
  refine ⟨_, rfl, _, rfl, d, v, rfl, (by rw [<- ev]; exact DGet.k (k := Sum.inl n) ed5), rfl, ?_⟩
  rw [z0q en, List.map_append]
  exact z09.snoc t (Tell.keep s5 _ _ (tk4 n v mv))
 ·obtain ⟨rfl, t⟩ := hp
  rw [List.length_map, List.take_length] at t
  intro D hD
  refine ⟨D, ys, rfl, .inl ⟨SqL.of z02, fun q hq => k _ _ (s4.trans (s5.trans ((z01 hD _).trans (z01 hq _)))) (z0e z02 ?_ (z09.keep ((z01 hD _).trans (z01 hq _)) _ _ ?_))⟩⟩
  ·rw [List.length_map, z1l]
   omega
  ·unfold z0X
   rw [List.map_map]
   exact t
def z43 (c : List (List Str)) : DV := .tup (c.map nmsD)
def z8u (ks : List (Option (List Str))) : List (List Str) := ks.map fun o => o.getD []
def y3p (c : List (List Str)) (d : Nat) (z : Str) : List (List Str) := c.take (d - 1) ++ [[z]] ++ c.drop d
theorem z09.drop {H : Hp} : ∀ {ds : List DV} {xs : List V} (n : Nat), z09 H ds xs -> z09 H (ds.drop n) (xs.drop n)
 | _, _, 0, h => h
 | [], _, n + 1, h => by
  have := z0D h
  subst this
  exact .nil
 | d0 :: ds, _, n + 1, h => by
  obtain ⟨x0, r, rfl, h1, h2⟩ := z0b h
  exact z09.drop n h2
theorem y4N {had : List Int} {r : Int} {m : Nat} (h60 : ∀ n ∈ had, 1 ≤ n /\ n ≤ 60) (t : z65 had m) {d : Int} (hd : d ∈ z1R (z07 had) r) : 1 ≤ d /\ d < (m : Int) := by
 obtain ⟨h1, _⟩ := z6P.mp hd
 obtain ⟨h2, _, y, hy, h3⟩ := z1h.mp h1
 have := t.2 y (z0K.mp hy).2
 omega
theorem y2r {ns : List Int} {rows : List Row} {r num : Int} {z : Str} (h : z1j ns rows r num z = "open") : ∃ n ∈ z1R ns r, num < n := by
 unfold z1j at h
 split at h
 ·exact absurd h (by decide)
 ·split at h
  ·exact absurd h (by decide)
  ·rename_i c
   refine Classical.byContradiction fun q => c (z6o.mpr fun n hn => ?_)
   exact Int.not_lt.mp fun z => q ⟨n, hn, z⟩
def y6s (Sh : ShP) : Sp := fun vs H Q _ => ∃ (x : Addr) (z : Str) (fp : List Addr) (nm : List Str) (r : Int) (rows : List Row) (had : List Int) (m : Nat), vs = [.ref x, .str z] /\ Sh H x fp nm r (fun n => z0M rows n r) had /\ z ∈ nm /\ GoodN nm /\ Rws nm rows /\ rows.length ≤ 60 /\ (∀ n ∈ had, 1 ≤ n /\ n ≤ rows.length) /\ 0 ≤ r /\ r ≤ 10 /\ z65 had m /\
 (z1j (z07 had) rows r (z15 (z0I (z07 had) rows z)) z ≠ "open" -> ∀ H', Same H H' -> Q .non H') /\
 (z1j (z07 had) rows r (z15 (z0I (z07 had) rows z)) z = "open" -> ∀ (d : Nat), (d : Int) ∈ z1R (z07 had) r -> (∀ y ∈ z1R (z07 had) r, y ≤ (d : Int)) -> ∀ (v : V) (H' : Hp), Same H H' -> Tell H' (.tup [z43 (z8u (z0X m (z07 had) rows r)), z43 (y3p (z8u (z0X m (z07 had) rows r)) d z)]) v -> Q v H')
theorem z7Q {CShelf : Addr} (M : Bl mg) (T : TxShelf K mg CShelf) (F : Fun K "two_courses" "two_courses" z4f f fd) (Gstate_of : Cal P w K mg base 5 "state_of" z2F (z3f (ShD K CShelf))) (Gknown_sets : Cal P w K mg base 4 "known_sets" z2H (z8A (ShD K CShelf)))
  (GShelf_had : MCal P w K mg base 1 CShelf "had" z16 (z3b (ShD K CShelf))) (Gdark_numbers : Cal P w K mg base 3 "dark_numbers" z1Y (y0m K)) : FnOk P w K mg base CX0 6 f fd z49 (y6s (ShD K CShelf)) := by
 have nd := z5v.nd
 refine F.ok z5v (fun vs H Q E h => ?_) (fun cdv A outer s H vs Q E hr h => ?_)
 ·obtain ⟨x, z, fp, nm, r, rows, had, m, rfl, _⟩ := h
  rfl
 obtain ⟨x, z, fp, nm, r, rows, had, m, rfl, sh, hz, gn, R, l60, hh, r0, r10, it, k1, k2⟩ := h
 refine ⟨_, (z04 (z0S (z0l z8K (z0h Gstate_of (rm hr) rfl (z00 (pv 0) (z00 (pv 1) z03))) (z1B rfl M.OPEN) (z0u _)) (z05 (z0k z9A)) z0t) (z04 (z0p (i := 2) nd rfl (Or.inl rfl) (z0r z0o rfl M.tuple PyProof.Rows.boot_tuple (z00 (z1c ["known"] [] [] rfl (z0w rfl (by decide +kernel) rfl (by decide +kernel) rfl rfl) (z1W (z0h Gknown_sets (rm hr) rfl (z00 (pv 0) z03))) (fun _ _ _ _ _ => (z0m (i := 0) (show ((["known"] : List PySem.Str) ++ ([] : List PySem.Str)).Nodup from by decide +kernel) rfl (Or.inl rfl))) (z0x (by decide)) z0c (fun _ _ _ _ _ => z1N) (fun _ _ _ _ _ => (z3E (z6q (z6R (pv 0))) (z0z z03) (pv 0)))) z03))) (z04 (z0p (i := 3) nd rfl (Or.inl rfl) (z0j (y1P rfl) rfl M.max PyProof.Rows.boot_max (z00 (z0h Gdark_numbers (rm hr) rfl (z00 (z1I GShelf_had (rm hr) (pv 0)) (z00 (z0A (pv 0) rfl) z03))) z03))) (z04 (z0p (i := 4) nd rfl (Or.inl rfl) (z0v y0f (z0v y0f (z2P y2e (pv 2) z3U (z3T (z0v z5q (pv 3) z08))) (z0z (z00 (z0z (z00 (pv 1) z03)) z03))) (z2P y2e (pv 2) (z3T (pv 3)) z3U))) (z05 (z0k (z0z (z00 (pv 2) (z00 (pv 4) z03))))))))), ?_⟩
 have h60 : ∀ n ∈ had, 1 ≤ n /\ n ≤ 60 := fun n hn => by have := hh n hn; omega
 have h60r : ∀ n ∈ z07 had, 1 ≤ n /\ n ≤ 60 := fun n hn => h60 n (z0K.mp hn).2
 have hm60 : m ≤ 60 := by have := it.le (k := 60) (by decide) fun x hx => (h60 x hx).2; omega
 obtain ⟨dx, fs, h1, lm, lr⟩ : ∃ dx fs, H x = some (.ins CShelf dx fs) /\ fs.lookup ("had" : Str) = none /\ fs.lookup ("reach" : Str) = some (V.int r) := by
  obtain ⟨dx, pn, pd, fs, kvs, _, h1, _, _, _, _, lr, _, lm, _⟩ := sh
  exact ⟨dx, fs, h1, lm _ (by simp), lr⟩
 refine ⟨_, rfl, _, rfl, x, z, fp, nm, r, rows, had, rfl, sh, hz, gn, R, l60, hh, r0, r10, fun H1 s1 => ⟨rfl, _, rfl, ?_⟩⟩
 by_cases c : z1j (z07 had) rows r (z15 (z0I (z07 had) rows z)) z = "open"
 case neg =>
  rw [decide_eq_false (fun e => c (V.str.inj e))]
  exact iteT (k1 c H1 s1)
 rw [decide_eq_true (congrArg V.str c)]
 refine iteF ?_
 have sh1 := shOk.same sh s1
 refine ⟨_, rfl, x, fp, nm, r, rows, had, m, rfl, sh1, gn, R, l60, hh, r0, r10, it, fun kv H2 s2 tk => ?_⟩
 obtain ⟨ak, us, rfl, eak, _, tus⟩ := z0f tk
 have lus : us.length = m := by rw [tus.length, List.length_map, z1l]
 refine ⟨ak, rfl, ⟨_, SqT.of eak⟩, ?_⟩
 refine z1z (xs := us) (fun i ys G => Same H2 G /\ z09 G ((z8u ((z0X m (z07 had) rows r).take i)).map nmsD) ys) ⟨Same.refl _, by rw [List.take_zero]; exact .nil⟩ (fun i ys G hi hp => ?_) (fun i y ys G hy hp => ?_) (fun ys G hp => ?_)
 ·obtain ⟨g, t⟩ := hp
  refine ⟨SqT.of (g _ _ eak), z0g ?_⟩
  rw [t.length, List.length_map]
  unfold z8u
  rw [List.length_map, List.length_take, z1l]
  omega
 ·obtain ⟨g, t⟩ := hp
  obtain ⟨d, ed, td⟩ := tus.at i y hy
  rw [List.getElem?_map] at ed
  obtain ⟨o, eo, rfl⟩ := Option.map_eq_some_iff.mp ed
  have eb : z8u ((z0X m (z07 had) rows r).take (i + 1)) = z8u ((z0X m (z07 had) rows r).take i) ++ [o.getD []] := by
   unfold z8u
   rw [z0q eo, List.map_append]
   rfl
  rw [eb, List.map_append]
  cases o with
  | none =>
   have ey : y = .non := by
    unfold optD Tell at td
    exact td
   subst ey
   refine ⟨_, rfl, _, rfl, iteT ⟨(by show 0 ≤ sizeLine; decide), fun t0 ht0 => ⟨g.trans (z01 ht0 _), ?_⟩⟩⟩
   exact z09.snoc (z09.keep (z01 ht0 _) _ _ t) (z0e z02 (by decide) .nil)
  | some zs =>
   obtain ⟨b, ws, rfl, eb', lb, tb⟩ := z0f (show Tell H2 (nmsD zs) y from td)
   refine ⟨_, rfl, _, rfl, iteF ⟨_, rfl, g, ?_⟩⟩
   exact z09.snoc t (Tell.keep g _ _ td)
 obtain ⟨g, t⟩ := hp
 rw [lus, List.take_of_length_le (by rw [z1l]; exact Nat.le_refl _)] at t
 intro D hD
 refine ⟨D, ys, rfl, .inl ⟨SqL.of z02, fun an han => ?_⟩⟩
 have s3 := g.trans ((z01 hD (.lst ys)).trans (z01 han (.tup ys)))
 have t3 := z09.keep ((z01 hD (.lst ys)).trans (z01 han (.tup ys))) _ _ t
 have en : upd (upd G D (.lst ys)) an (.tup ys) an = some (.tup ys) := z02
 generalize upd (upd G D (.lst ys)) an (.tup ys) = H3 at s3 t3 en
 have lys : ys.length = m := by
  rw [t3.length, List.length_map]
  unfold z8u
  rw [List.length_map, z1l]
 have c13 := s2.trans s3
 have sh3 := shOk.same sh1 c13
 have h13 := (s1.trans c13) _ _ h1
 refine ⟨_, rfl, x, dx, fs, rfl, h13, lm, x, fp, nm, r, _, had, rfl, sh3, fun lh H4 s4 e4 => ?_⟩
 refine ⟨_, rfl, x, CShelf, dx, fs, _, rfl, s4 _ _ h13, T.cl, T.n_reach, lr, lh, z07 had, r, rfl, .inr (SqT.of e4), h60r, Nat.le_trans (z2I had) (by decide), fun ld H5 s5 e5 => ?_⟩
 obtain ⟨n0, hn0, _⟩ := y2r c
 refine ⟨ld, z1R (z07 had) r, rfl, .inr (SqT.of e5), List.ne_nil_of_mem hn0, fun dm hdm topd => ?_⟩
 have hdr := y4N h60 it hdm
 obtain ⟨d, rfl⟩ : ∃ d : Nat, dm = (d : Int) := ⟨dm.toNat, by omega⟩
 have s35 := s4.trans s5
 have en5 := s35 _ _ en
 have t5 := z09.keep s35 _ _ t3
 have ed1 : (d : Int) - 1 = ((d - 1 : Nat) : Int) := by omega
 have ltm : ∀ l : List V, l.length ≤ 60 -> l.length < sizeLine := fun l h => z0g (by omega)
 refine ⟨_, rfl, _, rfl, _, _, rfl, rfl, _, rfl, an, ys, rfl, en5, fun p1 H6 s6 e6 => ?_⟩
 rw [ed1, y0k (by rw [lys]; omega)] at e6
 refine ⟨_, rfl, (by show 1 ≤ sizeLine; decide), fun t1 ht1 => ⟨(by show 1 ≤ sizeLine; decide), fun t2 ht2 => ?_⟩⟩
 have s7 := (z01 ht1 (.tup [V.str z])).trans (z01 ht2 (.tup [V.ref t1]))
 have e7 : upd (upd H6 t1 (.tup [V.str z])) t2 (.tup [V.ref t1]) t2 = some (.tup [V.ref t1]) := z02
 have et1 := z01 ht2 (.tup [V.ref t1]) _ _ (show upd H6 t1 (.tup [V.str z]) t1 = _ from z02)
 generalize upd (upd H6 t1 (.tup [V.str z])) t2 (.tup [V.ref t1]) = H7 at s7 e7 et1
 refine ⟨p1, t2, _, _, rfl, rfl, s7 _ _ e6, e7, ?_, fun p3 H8 s8 e8 => ?_⟩
 ·rw [List.length_take]
  exact Nat.le_of_lt (z0g (by show min (d - 1) ys.length + 1 ≤ 1000; omega))
 have s58 := s6.trans (s7.trans s8)
 refine ⟨_, rfl, _, rfl, _, rfl, an, ys, rfl, s58 _ _ en5, fun p4 H9 s9 e9 => ?_⟩
 rw [y45 (by rw [lys]; omega)] at e9
 refine ⟨p3, p4, _, _, rfl, rfl, s9 _ _ e8, e9, ?_, fun p5 HA sA eA => ?_⟩
 ·rw [List.length_append, List.length_take, List.length_drop]
  exact Nat.le_of_lt (z0g (by show min (d - 1) ys.length + 1 + (ys.length - d) ≤ 1000; omega))
 have s5A := s58.trans (s9.trans sA)
 refine ⟨_, rfl, _, rfl, (by show 2 ≤ sizeLine; decide), fun tz htz => ?_⟩
 have sz := s5A.trans (z01 htz (.tup [V.ref an, V.ref p5]))
 have tyz := z09.keep sz _ _ t5
 refine k2 c d hdm topd (.ref tz) _ (s1.trans (c13.trans (s35.trans sz))) (z0e z02 (by show 2 ≤ 1000000; decide) (.cons (z0e (sz _ _ en5) ?_ tyz) (.cons (z0e (z01 htz _ _ _ eA) ?_ ?_) .nil)))
 ·rw [List.length_map, <- List.length_map (f := nmsD), <- tyz.length]
  omega
 ·rw [List.length_map]
  unfold y3p z8u
  rw [List.length_append, List.length_append, List.length_take, List.length_drop, List.length_map, z1l]
  show min (d - 1) m + 1 + (m - d) ≤ 1000000
  omega
 ·unfold y3p
  rw [List.map_append, List.map_append, List.map_take, List.map_drop]
  refine z09.append (z09.append (z09.take _ tyz) (.cons ?_ .nil)) (z09.drop _ tyz)
  exact z0e ((s8.trans (s9.trans (sA.trans (z01 htz _)))) _ _ et1) (by show 1 ≤ 1000000; decide) (.cons (z1J z) .nil)
def OkO (nm : List Str) (o : Option (List Str)) (zs : List Str) : Prop := zs.Sublist nm /\ ∀ ws, o = some ws -> zs = ws
def y4y (nm : List Str) (ks : List (Option (List Str))) (c : List (List Str)) : Prop := c.length = ks.length /\ ∀ (i : Nat) (o : Option (List Str)) (zs : List Str), ks[i]? = some o -> c[i]? = some zs -> OkO nm o zs
theorem z83 (a b : List Str) : z2K (a.map V.str) (b.map V.str) = decide (a = b) := by
 induction a generalizing b with
 | nil =>
  cases b with
  | nil => rfl
  | cons y b => exact (decide_eq_false (fun e => nomatch e)).symm
 | cons x a ih =>
  cases b with
  | nil => exact (decide_eq_false (fun e => nomatch e)).symm
  | cons y b =>
   show (x == y && z2K (a.map V.str) (b.map V.str)) = decide (x :: a = y :: b)
   rw [ih, Bool.eq_iff_iff, Bool.and_eq_true, decide_eq_true_eq, decide_eq_true_eq, beq_iff_eq, List.cons.injEq]
theorem z1k {H : Hp} : ∀ {l : List Str} {xs : List V}, z09 H (l.map DV.str) xs -> xs = l.map V.str
 | [], _, h => z0D h
 | i :: r, _, h => by
  obtain ⟨x, t, rfl, h1, h2⟩ := z0b h
  rw [z2M h1, z1k h2]
  rfl
theorem y5n {nm : List Str} {rows : List Row} (R : Rws nm rows) (n : Int) : (z0R (z0J rows n)).Sublist nm := by
 unfold z0J z0R
 rw [List.getD_eq_getElem?_getD]
 cases e : rows[(n - 1).toNat]? with
 | none => exact List.nil_sublist _
 | some w => exact R.sub w (List.mem_of_getElem? e)
theorem y4r {m : Nat} {hs : List Int} {rows : List Row} {r : Int} {i : Nat} {o : Option (List Str)} (h : (z0X m hs rows r)[i]? = some o) : i < m /\ o = z3c hs rows r (1 + (i : Int)) := by
 have hi := (List.getElem?_eq_some_iff.mp h).1
 rw [z1l] at hi
 refine ⟨hi, ?_⟩
 unfold z0X at h
 rw [List.getElem?_map, show (upI 1 m)[i]? = some (1 + (i : Int)) by unfold upI; rw [List.getElem?_map, List.getElem?_range hi]; rfl] at h
 exact (Option.some.inj h).symm
theorem z9N {hs : List Int} {rows : List Row} {r n : Int} {ws : List Str} (h : z3c hs rows r n = some ws) : ws = z0R (z0J rows n) /\ (n ∈ hs \/ z1y hs n r ≠ 0) := by
 unfold z3c at h
 split at h
 ·rename_i c
  exact ⟨(Option.some.inj h).symm, c⟩
 ·cases h
theorem y1F {nm zs : List Str} (nd : nm.Nodup) : zs.Sublist nm ↔ zs = nm.filter fun z => decide (z ∈ zs) := by
 constructor
 ·intro h
  induction h with
  | slnil => rfl
  | cons a h ih =>
   rw [List.nodup_cons] at nd
   rw [List.filter_cons, if_neg (fun z => nd.1 (h.subset (of_decide_eq_true z)))]
   exact ih nd.2
  | cons_cons a h ih =>
   rename_i l1 l2
   rw [List.nodup_cons] at nd
   rw [List.filter_cons, if_pos (decide_eq_true List.mem_cons_self)]
   congr 1
   refine (ih nd.2).trans (List.filter_congr fun z hz => ?_)
   rw [decide_eq_decide, List.mem_cons]
   exact ⟨.inr, fun h => h.elim (fun e => absurd (e ▸ hz) nd.1) id⟩
 ·intro h
  rw [h]
  exact List.filter_sublist
def y0E (K : PySem.W.Frag) : Sp := fun vs H Q _ => ∃ (pn pc : Addr) (nm zs : List Str), vs = [.ref pn, .ref pc] /\ SqT K H pn (nm.map V.str) /\ nm.Nodup /\ nm.length ≤ 12 /\ SqT K H pc (zs.map V.str) /\ ∀ H', Same H H' -> Q (.bl (decide (zs.Sublist nm))) H'
theorem y2c (M : Bl mg) (F : Fun K "is_choice" "is_choice" z64 f fd) : FnOk P w K mg base CX0 1 f fd z61 (y0E K) := by
 have nd := z7C.nd
 refine F.ok z7C (fun vs H Q E h => ?_) (fun cdv A outer s H vs Q E hr h => ?_)
 ·obtain ⟨pn, pc, nm, zs, rfl, _⟩ := h
  rfl
 obtain ⟨pn, pc, nm, zs, rfl, hN, ndn, n12, hC, q⟩ := h
 refine ⟨_, (z05 (z0k (z8G (y31 hr.units0) (pv 1) (z0r z0o rfl M.tuple PyProof.Rows.boot_tuple (z00 (z1c ["name"] ["chosen"] [1] rfl (z0w rfl (by decide +kernel) rfl (by decide +kernel) rfl rfl) (z1W (pv 0)) (fun _ _ _ _ _ => (z0m (i := 0) (show ((["name"] : List PySem.Str) ++ (["chosen"] : List PySem.Str)).Nodup from by decide +kernel) rfl (Or.inl rfl))) (z0x (by decide)) z0c (fun _ _ _ _ _ => (z3x (z0l (r := rIn K false) z9n (pv 0) (pv 1) (by with_unfolding_all rfl)))) (fun _ _ _ _ _ => (pv 0))) z03)) (z0u _)))), ?_⟩
 refine ⟨_, rfl, _, rfl, pn, rfl, ⟨_, hN⟩, ?_⟩
 refine z1z (xs := nm.map V.str) (fun i ys G => G = H /\ ys = ((nm.take i).filter fun z => decide (z ∈ zs)).map V.str) ⟨rfl, rfl⟩ (fun i ys G hi hp => ?_) (fun i y ys G hy hp => ?_) (fun ys G hp => ?_)
 ·obtain ⟨rfl, rfl⟩ := hp
  refine ⟨hN, z0g ?_⟩
  rw [List.length_map]
  have := List.length_filter_le (fun z => decide (z ∈ zs)) (nm.take i)
  rw [List.length_take] at this
  omega
 ·obtain ⟨rfl, rfl⟩ := hp
  rw [List.getElem?_map] at hy
  obtain ⟨z, ez, rfl⟩ := Option.map_eq_some_iff.mp hy
  refine ⟨_, rfl, _, rfl, pc, _, rfl, .inr hC, rfl, z2j zs, _, rfl, ?_⟩
  rw [if_neg Bool.false_ne_true, y49, z0q ez, List.filter_append, List.filter_cons]
  by_cases c : z ∈ zs
  ·rw [decide_eq_true c, if_pos rfl, List.map_append]
   exact iteT ⟨_, rfl, rfl, rfl⟩
  ·rw [decide_eq_false c, if_neg Bool.false_ne_true, List.filter_nil, List.append_nil]
   exact iteF ⟨rfl, rfl⟩
 ·obtain ⟨rfl, rfl⟩ := hp
  rw [List.length_map, List.take_length]
  intro D hD
  refine ⟨D, _, rfl, .inl ⟨SqL.of z02, fun t ht => ?_⟩⟩
  have s1 := (z01 hD (.lst ((nm.filter fun z => decide (z ∈ zs)).map V.str))).trans (z01 ht (.tup ((nm.filter fun z => decide (z ∈ zs)).map V.str)))
  refine ⟨pc, t, _, _, rfl, rfl, z5l s1 hC, SqT.of z02, z2j zs, z2j _, ?_⟩
  rw [z83]
  have := q _ s1
  rw [decide_eq_decide.mpr (y1F ndn)] at this
  exact this
def StO (nm : List Str) (o : Option (List Str)) (zs : List Str) : Bool := match o with
 | none => decide (zs.Sublist nm)
 | some ws => decide (zs = ws)
def y2k (K : PySem.W.Frag) : Sp := fun vs H Q _ => ∃ (pn pc : Addr) (v : V) (nm zs : List Str) (o : Option (List Str)), vs = [.ref pn, v, .ref pc] /\ SqT K H pn (nm.map V.str) /\ nm.Nodup /\ nm.length ≤ 12 /\ SqT K H pc (zs.map V.str) /\ Tell H (optD o) v /\ ∀ H', Same H H' -> Q (.bl (StO nm o zs)) H'
theorem y4v (M : Bl mg) (F : Fun K "may_stand" "may_stand" z5U f fd) (Gis_choice : Cal P w K mg base 1 "is_choice" z61 (y0E K)) : FnOk P w K mg base CX0 2 f fd z68 (y2k K) := by
 have nd := z7q.nd
 refine F.ok z7q (fun vs H Q E h => ?_) (fun cdv A outer s H vs Q E hr h => ?_)
 ·obtain ⟨pn, pc, v, nm, zs, o, rfl, _⟩ := h
  rfl
 obtain ⟨pn, pc, v, nm, zs, o, rfl, hN, ndn, n12, hC, tv, q⟩ := h
 refine ⟨_, (z05 (z0k (z3E (z6q (z6R (pv 1))) (z0h Gis_choice (rm hr) rfl (z00 (pv 0) (z00 (pv 2) z03))) (z8G (y31 hr.units0) (pv 2) (pv 1) (z0u _))))), ?_⟩
 cases o with
 | none =>
  have ev : v = .non := by
   unfold optD Tell at tv
   exact tv
  subst ev
  exact ⟨_, rfl, _, rfl, iteT ⟨_, rfl, _, rfl, pn, pc, nm, zs, rfl, hN, ndn, n12, hC, fun H' s' => q H' s'⟩⟩
 | some ws =>
  obtain ⟨b, us, rfl, eb, _, tb⟩ := z0f (show Tell H (.tup (ws.map DV.str)) v from tv)
  have e := z1k tb
  subst e
  refine ⟨_, rfl, _, rfl, iteF ⟨_, rfl, _, rfl, pc, b, _, _, rfl, rfl, hC, SqT.of eb, z2j zs, z2j ws, ?_⟩⟩
  rw [z83]
  exact q H (Same.refl _)
def y57 (Sh : ShP) : Sp := fun vs H Q _ => ∃ (x : Addr) (v : V) (fp : List Addr) (nm : List Str) (r : Int) (rows : List Row) (had : List Int) (m : Nat) (c : List (List Str)), vs = [.ref x, v] /\ Sh H x fp nm r (fun n => z0M rows n r) had /\ GoodN nm /\ Rws nm rows /\ rows.length ≤ 60 /\ (∀ n ∈ had, 1 ≤ n /\ n ≤ rows.length) /\ 0 ≤ r /\ r ≤ 10 /\ z65 had m /\ Tell H (z43 c) v /\
 (y4y nm (z0X m (z07 had) rows r) c -> ∀ H', Same H H' -> Q (.bl true) H') /\ (¬ y4y nm (z0X m (z07 had) rows r) c -> ∀ H', Same H H' -> Q (.bl false) H')
theorem y0t {nm : List Str} {rows : List Row} (R : Rws nm rows) {m : Nat} {hs : List Int} {r : Int} {c : List (List Str)} (hl : c.length = (z0X m hs rows r).length) :
  y4y nm (z0X m hs rows r) c ↔ (((z0X m hs rows r).zip c).map fun p => StO nm p.1 p.2).all id = true := by
 rw [List.all_eq_true]
 constructor
 ·intro h b hb
  obtain ⟨⟨o, zs⟩, hp, rfl⟩ := List.mem_map.mp hb
  obtain ⟨i, hi, e⟩ := List.getElem_of_mem hp
  rw [List.getElem_zip] at e
  rw [List.length_zip] at hi
  have h1 : (z0X m hs rows r)[i]? = some o := by rw [List.getElem?_eq_getElem (by omega)]; exact congrArg some (congrArg Prod.fst e)
  have h2 : c[i]? = some zs := by rw [List.getElem?_eq_getElem (by omega)]; exact congrArg some (congrArg Prod.snd e)
  obtain ⟨q1, q2⟩ := h.2 i o zs h1 h2
  show StO nm o zs = true
  cases o with
  | none => exact decide_eq_true q1
  | some ws => exact decide_eq_true (q2 ws rfl)
 ·intro h
  refine ⟨hl, fun i o zs h1 h2 => ?_⟩
  have hi1 := (List.getElem?_eq_some_iff.mp h1).1
  have hi2 := (List.getElem?_eq_some_iff.mp h2).1
  have hz : i < ((z0X m hs rows r).zip c).length := by rw [List.length_zip]; omega
  have e : ((z0X m hs rows r).zip c)[i] = (o, zs) := by
   rw [List.getElem_zip]
   rw [List.getElem?_eq_getElem hi1] at h1
   rw [List.getElem?_eq_getElem hi2] at h2
   rw [Option.some.inj h1, Option.some.inj h2]
  have hb : StO nm o zs = true := h (StO nm o zs) (List.mem_map.mpr ⟨(o, zs), by rw [<- e]; exact List.getElem_mem hz, rfl⟩)
  cases o with
  | none => exact ⟨of_decide_eq_true hb, fun _ h => by cases h⟩
  | some ws =>
   have ew : zs = ws := of_decide_eq_true hb
   refine ⟨?_, fun _ h => by cases h; exact ew⟩
   rw [ew, (z9N (y4r h1).2.symm).1]
   exact y5n R _
theorem y5E {CShelf : Addr} (M : Bl mg) (T : TxShelf K mg CShelf) (F : Fun K "fits" "fits" y5W f fd) (Gknown_sets : Cal P w K mg base 4 "known_sets" z2H (z8A (ShD K CShelf))) (Gmay_stand : Cal P w K mg base 2 "may_stand" z68 (y2k K)) : FnOk P w K mg base CX0 5 f fd y5z (y57 (ShD K CShelf)) := by
 have nd := y5f.nd
 refine F.ok y5f (fun vs H Q E h => ?_) (fun cdv A outer s H vs Q E hr h => ?_)
 ·obtain ⟨x, v, fp, nm, r, rows, had, m, c, rfl, _⟩ := h
  rfl
 obtain ⟨x, v, fp, nm, r, rows, had, m, c, rfl, sh, gn, R, l60, hh, r0, r10, it, tc, qt, qf⟩ := h
 refine ⟨_, (z04 (z0p (i := 2) nd rfl (Or.inl rfl) (z0h Gknown_sets (rm hr) rfl (z00 (pv 0) z03))) (z04 (z0S (z0l z8K (z0j z0a rfl M.len PySem.boot_len (z00 (pv 1) z03)) (z0j z0a rfl M.len PySem.boot_len (z00 (pv 2) z03)) (z0u _)) (z05 (z0k z4Z)) z0t) (z05 (z0k (z0j (y3P rfl) rfl M.all PyProof.Rows.boot_all (z00 (z1c ["known", "chosen"] ["shelf"] [0] rfl (z0w rfl (by decide +kernel) rfl (by decide +kernel) rfl rfl) (y6O rfl M.zip (z00 (pv 2) (z00 (pv 1) z03))) (fun _ _ _ _ _ => (z6Q (K := K) (n := 2) rfl rfl (z0V (z0m (i := 0) (show ((["known", "chosen"] : List PySem.Str) ++ (["shelf"] : List PySem.Str)).Nodup from by decide +kernel) rfl (Or.inl rfl)) (z0V (z0m (i := 1) (show ((["known", "chosen"] : List PySem.Str) ++ (["shelf"] : List PySem.Str)).Nodup from by decide +kernel) rfl (Or.inl rfl)) z3Z)))) (z6X (z1x (z0x (by decide)) z0c (z1x (z0x (by decide)) z0c z5T z0Q) (z0C z0c z0Q))) (z5A (z0C z0c (z0C z0c z0Q))) (fun _ _ _ _ _ => z1N) (fun _ _ _ _ _ => (z0h Gmay_stand (rm hr) rfl (z00 (y5U (K := K) rfl (pv 2) rfl) (z00 (pv 0) (z00 (pv 1) z03)))))) z03)))))), ?_⟩
 have h60 : ∀ n ∈ had, 1 ≤ n /\ n ≤ 60 := fun n hn => by have := hh n hn; omega
 have hm60 : m ≤ 60 := by have := it.le (k := 60) (by decide) fun x hx => (h60 x hx).2; omega
 obtain ⟨dx, pn, fs, h1, h3, ln⟩ : ∃ dx pn fs, H x = some (.ins CShelf dx fs) /\ H pn = some (.tup (nm.map V.str)) /\ fs.lookup ("names" : Str) = some (V.ref pn) := by
  obtain ⟨dx, pn, pd, fs, kvs, _, h1, _, h3, _, l1, _⟩ := sh
  exact ⟨dx, pn, fs, h1, h3, l1⟩
 refine ⟨_, rfl, x, fp, nm, r, rows, had, m, rfl, sh, gn, R, l60, hh, r0, r10, it, fun kv H1 s1 tk => ?_⟩
 obtain ⟨ak, us, rfl, eak, _, tus⟩ := z0f tk
 obtain ⟨ac, ws, rfl, eac, _, tws⟩ := z0f (show Tell H (.tup (c.map nmsD)) v from tc)
 have lus : us.length = (z0X m (z07 had) rows r).length := by rw [tus.length, List.length_map]
 have lws : ws.length = c.length := by rw [tws.length, List.length_map]
 have lk := z1l m (z07 had) rows r
 have eac1 := s1 _ _ eac
 refine ⟨_, rfl, ac, _, rfl, .inr (SqT.of eac1), _, rfl, ak, _, rfl, .inr (SqT.of eak), rfl, _, rfl, ?_⟩
 by_cases cl : c.length = (z0X m (z07 had) rows r).length
 case neg =>
  rw [decide_eq_false (fun e => cl (by injection e with e; omega))]
  exact iteT (qf (fun h => cl h.1) H1 s1)
 rw [decide_eq_true (by rw [lus, lws, cl])]
 refine iteF ?_
 refine ⟨_, rfl, _, rfl, ak, ac, us, ws, rfl, SqT.of eak, SqT.of eac1, by omega, ?_⟩
 refine y46 (xs := us) (ys := ws) (by omega) (fun i zs G => Same H1 G /\ zs = ((((z0X m (z07 had) rows r).zip c).take i).map fun p => StO nm p.1 p.2).map V.bl) ⟨Same.refl _, rfl⟩ (fun i zs G hi hp => ?_) (fun i y1 y2 zs G T' e1 e2 hT hp => ?_) (fun zs G hp => ?_)
 ·obtain ⟨g, rfl⟩ := hp
  refine ⟨SqT.of (g _ _ eak), SqT.of (g _ _ eac1), z0g ?_⟩
  rw [List.length_map, List.length_map, List.length_take]
  omega
 ·obtain ⟨g, rfl⟩ := hp
  have gT := g.trans (z01 hT (.tup [y1, y2]))
  obtain ⟨d, ed, td⟩ := tus.at i y1 e1
  rw [List.getElem?_map] at ed
  obtain ⟨o, eo, rfl⟩ := Option.map_eq_some_iff.mp ed
  obtain ⟨d2, ed2, td2⟩ := tws.at i y2 e2
  rw [List.getElem?_map] at ed2
  obtain ⟨zs2, ez2, rfl⟩ := Option.map_eq_some_iff.mp ed2
  obtain ⟨b, vs2, rfl, eb, _, tb⟩ := z0f (show Tell H (.tup (zs2.map DV.str)) y2 from td2)
  have e := z1k tb
  subst e
  have sG := s1.trans gT
  have ez : ((z0X m (z07 had) rows r).zip c)[i]? = some (o, zs2) := by
   rw [List.getElem?_zip_eq_some]
   exact ⟨eo, ez2⟩
  refine ⟨T', _, rfl, SqT.of z02, rfl, _, _, rfl, _, _, rfl, rfl, ?_⟩
  refine ⟨_, rfl, x, CShelf, dx, fs, _, rfl, sG _ _ h1, T.cl, T.n_names, ln, _, rfl, _, rfl, pn, b, y1, nm, zs2, o, rfl, SqT.of (sG _ _ h3), gn.nd, gn.hi, SqT.of (sG _ _ eb), Tell.keep gT _ _ td, fun G2 g2 => ⟨gT.trans g2, ?_⟩⟩
  rw [z0q ez, List.map_append, List.map_append]
  rfl
 ·obtain ⟨g, rfl⟩ := hp
  rw [List.take_of_length_le (by rw [List.length_zip]; omega)]
  intro D hD
  refine ⟨D, _, rfl, SqL.of z02, ?_⟩
  have sF := s1.trans (g.trans (z01 hD (.lst ((((z0X m (z07 had) rows r).zip c).map fun p => StO nm p.1 p.2).map V.bl))))
  by_cases cf : y4y nm (z0X m (z07 had) rows r) c
  ·rw [(y0t R cl).mp cf]
   exact qt cf _ sF
  ·rw [Bool.eq_false_iff.mpr fun h => cf ((y0t R cl).mpr h)]
   exact qf cf _ sF
def y2Y : Sp := fun _ _ _ _ => False
theorem z7N (M : Bl mg) (F : Fun K "every_choice" "every_choice" z5e f fd) : FnOk P w K mg base CX0 0 f fd z5f y2Y := by
 exact ⟨fun vs H Q E h => h.elim, fun A outer s H args us vs Q E _ _ _ _ h => h.elim⟩
def z9B (K : PySem.W.Frag) : Sp := fun vs H Q _ => ∃ (pc ph a : Addr) (xs : List V) (w : V), vs = [.ref pc, .ref ph] /\ H pc = some (.tup [.ref a]) /\ H a = some (.tup xs) /\ xs.length ≤ 100 /\ H ph = some (.tup [w]) /\
 ∀ (p b : Addr) (H' : Hp), Same H H' -> H' p = some (.tup [.ref b]) -> H' b = some (.tup (xs ++ [w])) -> Q (.ref p) H'
theorem y16 (M : Bl mg) (F : Fun K "one_number_further" "one_number_further" z1L f fd) : FnOk P w K mg base CX0 1 f fd z1O (z9B K) := by
 have nd := z2u.nd
 refine F.ok z2u (fun vs H Q E h => ?_) (fun cdv A outer s H vs Q E hr h => ?_)
 ·obtain ⟨pc, ph, a, xs, w, rfl, _⟩ := h
  rfl
 obtain ⟨pc, ph, a, xs, w, rfl, ec, ea, l100, eh, q⟩ := h
 refine ⟨_, (z04 (z0p (i := 2) nd rfl (Or.inl rfl) (z2l z03)) (z04 (z1i PassesOwn.never rfl (z1W (pv 1)) (z0m (i := 3) nd rfl (Or.inr rfl)) (z05 (z0B (z58 PySem.F.plainAttrs_list PySem.F.slot_list_extend PySem.F.type_list_extend y30 (pv 2) (z00 (z1c ["course"] ["choice"] [3] rfl (z0w rfl (by decide +kernel) rfl (by decide +kernel) rfl rfl) (z1W (pv 0)) (fun _ _ _ _ _ => (z0m (i := 0) (show ((["course"] : List PySem.Str) ++ (["choice"] : List PySem.Str)).Nodup from by decide +kernel) rfl (Or.inl rfl))) (z0x (by decide)) z0c (fun _ _ _ _ _ => z1N) (fun _ _ _ _ _ => (z0v y0f (pv 0) (z0z (z00 (pv 1) z03))))) z03))))) (z05 (z0k (z0r z0o rfl M.tuple PyProof.Rows.boot_tuple (z00 (pv 2) z03)))))), ?_⟩
 refine ⟨(by show 0 ≤ sizeLine; decide), fun lf hlf => ?_⟩
 have s0 := z01 hlf (.lst [])
 refine ⟨_, rfl, ph, rfl, ⟨_, SqT.of (s0 _ _ eh)⟩, z50 (K := K) (a := ph) (xs := [w]) (fun i σ G => ∃ (o3 : Option V) (ys : List V), Same H G /\ G lf = some (.lst ys) /\ ((i = 0 /\ ys = []) \/ (i = 1 /\ ∃ b, ys = [.ref b] /\ G b = some (.tup (xs ++ [w])))) /\ σ = [some (.ref pc), some (.ref ph), some (.ref lf), o3]) ⟨none, [], s0, z02, .inl ⟨rfl, rfl⟩, rfl⟩ (fun i σ G _ ⟨_, _, g, _⟩ => SqT.of (g _ _ eh)) ?_ ?_⟩
 ·rintro i y σ G hi ⟨o3, ys, g, eG, hy, rfl⟩
  obtain ⟨rfl, rfl⟩ : i = 0 /\ y = w := by
   match i, hi with
   | 0, hi => cases hi; exact ⟨rfl, rfl⟩
  obtain ⟨_, rfl⟩ : (0 = 0 /\ ys = []) := by
   rcases hy with h | ⟨h, _⟩
   ·exact h
   ·cases h
  refine ⟨_, rfl, .inl ⟨rfl, _, SqL.of eG⟩, _, rfl, pc, rfl, ⟨_, SqT.of (g _ _ ec)⟩, ?_⟩
  refine z1z (xs := [V.ref a]) (fun j zs G2 => Same G G2 /\ G2 lf = some (.lst []) /\ ((j = 0 /\ zs = []) \/ (j = 1 /\ ∃ b, zs = [.ref b] /\ G2 b = some (.tup (xs ++ [y]))))) ⟨Same.refl _, eG, .inl ⟨rfl, rfl⟩⟩ (fun j zs G2 hj hp => ?_) (fun j u zs G2 hu hp => ?_) (fun zs G2 hp => ?_)
  ·obtain ⟨g2, _, h⟩ := hp
   refine ⟨SqT.of (g2 _ _ (g _ _ ec)), z0g ?_⟩
   rcases h with ⟨_, rfl⟩ | ⟨_, b, rfl, _⟩
   ·exact Nat.zero_le _
   ·show 1 ≤ 1000
    decide
  ·obtain ⟨g2, e2, h⟩ := hp
   obtain ⟨rfl, rfl⟩ : j = 0 /\ u = .ref a := by
    match j, hu with
    | 0, hu => cases hu; exact ⟨rfl, rfl⟩
   obtain ⟨_, rfl⟩ : (0 = 0 /\ zs = []) := by
    rcases h with h | ⟨h, _⟩
    ·exact h
    ·cases h
   have cg := g.trans g2
   refine ⟨_, rfl, _, rfl, (by show 1 ≤ sizeLine; decide), fun t ht => ?_⟩
   have st := z01 ht (.tup [y])
   refine ⟨a, t, xs, [y], rfl, rfl, st _ _ (cg _ _ ea), z02, Nat.le_of_lt (z0g (by show xs.length + 1 ≤ 1000; omega)), fun b G3 g3 eb => ?_⟩
   exact ⟨g2.trans (st.trans g3), (st.trans g3) _ _ e2, .inr ⟨rfl, b, rfl, eb⟩⟩
  obtain ⟨g2, e2, h⟩ := hp
  obtain ⟨b, rfl, eb⟩ : ∃ b, zs = [.ref b] /\ G2 b = some (.tup (xs ++ [y])) := by
   rcases h with ⟨h, _⟩ | ⟨_, h⟩
   ·cases h
   ·exact h
  intro D hD
  have sD := z01 hD (.lst [V.ref b])
  have nl : ∀ {c : Addr} {o : HO}, H c = some o -> c ≠ lf := fun e => z0i e hlf
  refine ⟨lf, D, [], [.ref b], rfl, rfl, sD _ _ e2, z02, (by show 1 ≤ sizeLine; decide), ?_⟩
  have cg := (g.trans g2).trans sD
  refine ⟨_, [.ref b], fun c o e => by rw [z0d (nl e)]; exact cg c o e, z02, .inr ⟨rfl, b, rfl, ?_⟩, rfl⟩
  rw [z0d (fun z => by rw [z] at eb; rw [e2] at eb; cases eb)]
  exact sD _ _ eb
 ·rintro σ G ⟨o3, ys, g, eG, hy, rfl⟩
  obtain ⟨b, rfl, eb⟩ : ∃ b, ys = [.ref b] /\ G b = some (.tup (xs ++ [w])) := by
   rcases hy with ⟨h, _⟩ | ⟨_, h⟩
   ·cases h
   ·exact h
  exact ⟨_, rfl, lf, _, rfl, .inl ⟨SqL.of eG, fun t ht => q t b _ (g.trans (z01 ht _)) z02 (z01 ht _ _ _ eb)⟩⟩
def y0r (Sh : ShP) : Sp := fun vs H Q _ => ∃ (x : Addr) (fp : List Addr) (nm : List Str) (r : Int) (rows : List Row) (had : List Int) (m : Nat), vs = [.ref x] /\ Sh H x fp nm r (fun n => z0M rows n r) had /\ GoodN nm /\ Rws nm rows /\ rows.length ≤ 60 /\ (∀ n ∈ had, 1 ≤ n /\ n ≤ rows.length) /\ 0 ≤ r /\ r ≤ 10 /\ z65 had m /\
 z1R (z07 had) r = [] /\ (∀ o ∈ z0X m (z07 had) rows r, o ≠ none) /\ ∀ (p a : Addr) (us : List V) (H' : Hp), Same H H' -> H' p = some (.tup [.ref a]) -> H' a = some (.tup us) -> z09 H' ((z0X m (z07 had) rows r).map optD) us -> Q (.ref p) H'
theorem z7O {CShelf : Addr} (M : Bl mg) (T : TxShelf K mg CShelf) (F : Fun K "every_course" "every_course" z3I f fd) (Gcourse_count : Cal P w K mg base 5 "course_count" z1T (z8o (ShD K CShelf))) (Gknown_sets : Cal P w K mg base 5 "known_sets" z2H (z8A (ShD K CShelf)))
  (Gevery_choice : Cal P w K mg base 0 "every_choice" z5f y2Y) (Gone_number_further : Cal P w K mg base 1 "one_number_further" z1O (z9B K)) : FnOk P w K mg base CX0 6 f fd z3u (y0r (ShD K CShelf)) := by
 have nd := z4y.nd
 refine F.ok z4y (fun vs H Q E h => ?_) (fun cdv A outer s H vs Q E hr h => ?_)
 ·obtain ⟨x, fp, nm, r, rows, had, m, rfl, _⟩ := h
  rfl
 obtain ⟨x, fp, nm, r, rows, had, m, rfl, sh, gn, R, l60, hh, r0, r10, it, dk, kn, q⟩ := h
 refine ⟨_, (z04 (z0S (z0l z4v (z0h Gcourse_count (rm hr) rfl (z00 (pv 0) z03)) (z28 rfl M.MOST_COURSES) (z0u _)) (z05 z1b) z0t) (z04 (z0p (i := 1) nd rfl (Or.inl rfl) (z0z (z00 (z0z z03) z03))) (z04 (z1i PassesOwn.never rfl (z1W (z0h Gknown_sets (rm hr) rfl (z00 (pv 0) z03))) (z0m (i := 2) nd rfl (Or.inl rfl)) (z04 (z0p (i := 3) nd rfl (Or.inl rfl) (z3E (z6q (z6R (pv 2))) (z0h Gevery_choice (rm hr) rfl (z00 (z0A (pv 0) rfl) z03)) (z0z (z00 (pv 2) z03)))) (z05 (z0p (i := 1) nd rfl (Or.inl rfl) (z0h Gone_number_further (rm hr) rfl (z00 (pv 1) (z00 (pv 3) z03))))))) (z05 (z0k (pv 1)))))), ?_⟩
 have h60 : ∀ n ∈ had, 1 ≤ n /\ n ≤ 60 := fun n hn => by have := hh n hn; omega
 have hm60 : m ≤ 60 := by have := it.le (k := 60) (by decide) fun x hx => (h60 x hx).2; omega
 refine ⟨_, rfl, x, fp, nm, r, _, had, rfl, sh, h60, fun H1 s1 => ?_⟩
 rw [dk, List.length_nil, Nat.zero_mul]
 refine ⟨_, _, rfl, rfl, _, rfl, iteF ?_⟩
 refine ⟨(by show 0 ≤ sizeLine; decide), fun t0 ht0 => ⟨(by show 1 ≤ sizeLine; decide), fun t1 ht1 => ?_⟩⟩
 have st0 := z01 ht0 (.tup [])
 have st1 := z01 ht1 (.tup [V.ref t0])
 have e0 := st1 _ _ (z02 (H := H1) (a := t0) (o := .tup []))
 have e1 : upd (upd H1 t0 (.tup [])) t1 (.tup [V.ref t0]) t1 = some (.tup [V.ref t0]) := z02
 have c1 := s1.trans (st0.trans st1)
 generalize upd (upd H1 t0 (.tup [])) t1 (.tup [V.ref t0]) = H2 at e0 e1 c1
 refine ⟨_, rfl, x, fp, nm, r, rows, had, m, rfl, shOk.same sh c1, gn, R, l60, hh, r0, r10, it, fun kv H3 s3 tk => ?_⟩
 obtain ⟨ak, us, rfl, eak, _, tus⟩ := z0f tk
 have lus : us.length = m := by rw [tus.length, List.length_map, z1l]
 have c3 := c1.trans s3
 refine ⟨ak, rfl, ⟨_, SqT.of eak⟩, z50 (K := K) (a := ak) (xs := us) (fun i σ G => ∃ (p a : Addr) (o2 o3 : Option V), Same H3 G /\ G p = some (.tup [.ref a]) /\ G a = some (.tup (us.take i)) /\ σ = [some (.ref x), some (.ref p), o2, o3]) ⟨t1, t0, none, none, Same.refl _, s3 _ _ e1, by rw [List.take_zero]; exact s3 _ _ e0, rfl⟩ (fun i σ G _ ⟨_, _, _, _, g, _⟩ => SqT.of (g _ _ eak)) ?_ ?_⟩
 ·rintro i y σ G hi ⟨p, a, o2, o3, g, ep, ea, rfl⟩
  obtain ⟨d, ed, td⟩ := tus.at i y hi
  rw [List.getElem?_map] at ed
  obtain ⟨o, eo, rfl⟩ := Option.map_eq_some_iff.mp ed
  obtain ⟨b, rfl⟩ : ∃ b, y = .ref b := by
   cases o with
   | none => exact absurd rfl (kn none (List.mem_of_getElem? eo))
   | some ws =>
    obtain ⟨b, _, e, _⟩ := z0f (show Tell H3 (.tup (ws.map DV.str)) y from td)
    exact ⟨b, e⟩
  refine ⟨_, rfl, _, rfl, iteF ⟨_, rfl, (by show 1 ≤ sizeLine; decide), fun t ht => ?_⟩⟩
  have st := z01 ht (.tup [V.ref b])
  refine ⟨_, rfl, _, rfl, p, t, a, us.take i, .ref b, rfl, st _ _ ep, st _ _ ea, by rw [List.length_take]; omega, z02, fun p2 b2 G2 g2 ep2 eb2 => ?_⟩
  rw [<- z0q hi] at eb2
  exact ⟨p2, b2, _, _, g.trans (st.trans g2), ep2, eb2, rfl⟩
 ·rintro σ G ⟨p, a, o2, o3, g, ep, ea, rfl⟩
  rw [List.take_length] at ea
  exact ⟨_, rfl, q p a us G (c3.trans g) ep ea (z09.keep g _ _ tus)⟩
theorem y0U {l ms : List Int} (h1 : l.Pairwise (· < ·)) (h2 : ∀ x ∈ l, 1 ≤ x /\ x ≤ 60) (e : ∀ x, x ∈ ms ↔ x ∈ l) : z07 ms = l := z2e (z1Q _) h1 fun x => y3s e h2 x
theorem z8y (m : Nat) : z19 (upI 1 m) = [] := by
 refine List.eq_nil_iff_forall_not_mem.mpr fun x hx => ?_
 obtain ⟨⟨a, _⟩, b, y, hy, c⟩ := z1h.mp hx
 have := z0P.mp hy
 exact b (z0P.mpr (by omega))
theorem z7Y (m : Nat) (rows : List Row) (r num : Int) (z : Str) : z96 (upI 1 m) rows r num z = [] := by
 unfold z96
 rw [z8y]
 rfl
theorem z4p (m : Nat) (rows : List Row) (r num : Int) (z : Str) : z1j (upI 1 m) rows r num z = "sure" := by
 unfold z1j
 rw [z7Y, if_neg (by decide), if_pos]
 unfold z5w
 rw [z8y]
 rfl
theorem z5h (m : Nat) (r : Int) : z1R (upI 1 m) r = [] := by
 rw [z6H, z8y]
 rfl
theorem z8f {m : Nat} {rows : List Row} (hm : m ≤ rows.length) (r : Int) : z0X m (upI 1 m) rows r = ((rows.take m).map z0R).map some := by
 refine List.ext_getElem? fun i => ?_
 unfold z0X
 rw [List.getElem?_map, List.getElem?_map, List.getElem?_map]
 by_cases h : i < m
 ·have e : rows[i]? = some (z0J rows (1 + (i : Int))) := by
   have : i < rows.length := by omega
   unfold z0J
   rw [show (1 + (i : Int) - 1).toNat = i by omega, List.getD_eq_getElem?_getD, List.getElem?_eq_getElem this]
   rfl
  rw [List.getElem?_take_of_lt h, e, show (upI 1 m)[i]? = some (1 + (i : Int)) by unfold upI; rw [List.getElem?_map, List.getElem?_range h]; rfl]
  show some (z3c _ _ _ _) = _
  unfold z3c
  rw [if_pos (.inl (z0P.mpr (by omega)))]
  rfl
 ·rw [List.getElem?_eq_none (by rw [z0E]; omega), List.getElem?_eq_none (by rw [List.length_take]; omega)]
  rfl
theorem y3y {m : Nat} {r b : Int} {H : Hp} {v : V} (h : y2t H v (upI 1 m) r b) : Tell H (.tup [.tup [], .tup []]) v := by
 obtain ⟨l, lf, la, fs, as, rfl, h1, h2, h3, k⟩ := h
 have ha : as = [] := List.eq_nil_iff_forall_not_mem.mpr fun x hx => by
  have := k.mem x hx
  unfold z0N at this
  rw [z5h] at this
  cases this
 have hf : fs = [] := List.length_eq_zero_iff.mp (by rw [k.len, ha]; rfl)
 subst ha
 subst hf
 exact z0e h1 (by show 2 ≤ 1000000; decide) (.cons (z0e h2 (Nat.zero_le _) .nil) (.cons (z0e h3 (Nat.zero_le _) .nil) .nil))
theorem z4s (n : Nat) : (DV.tup []).deep ≤ n + 1 := z2L fun _ h => nomatch h
theorem z4n {a b : DV} {n : Nat} (ha : a.deep ≤ n) (hb : b.deep ≤ n) : (DV.tup [a, b]).deep ≤ n + 1 := z2L fun d hd => by
 rcases List.mem_cons.mp hd with rfl | hd
 ·exact ha
 ·rw [List.mem_singleton.mp hd]
  exact hb
def z86 (K : PySem.W.Frag) (Sh : ShP) : Sp := fun vs H Q _ => ∃ (x ln lr : Addr) (fp : List Addr) (nm : List Str) (r : Int) (us : List V) (rows : List Row) (had : List Int) (m : Nat), vs = [.ref x, .ref ln, .ref lr, .int m] /\
 Sh H x fp nm r (fun n => z0M rows n r) had /\ GoodN nm /\ Rws nm rows /\ rows.length ≤ 60 /\ m ≤ rows.length /\ 0 ≤ r /\ r ≤ 10 /\ H ln = some (.lst (nm.map V.str)) /\ (∀ n, n ∈ had ↔ n ∈ upI 1 m) /\
 H lr = some (.lst us) /\ z09 H (rows.map rowD) us /\ ∀ H', Same H H' -> Q (.bl true) H'
theorem z9P (M : Bl mg) (F : Fun K "_law_complete" "_law_complete" z39 f fd) {CShelf : Addr} {Sh : ShP} (OS : ShOk CShelf ["put", "had", "latest"] Sh) (G_law_same : Cal P w K mg base 5 "_law_same" z2c (z9p 5))
  (G_law_last : Cal P w K mg base 1 "_law_last" z5Q (y5d K)) (Gsend_for : Cal P w K mg base 8 "send_for" z3l (z4d Sh)) (Gsend_forD : CalD P w K mg base 8 "send_for" z3l (z4d Sh) [V.non])
  (Gagain_count : Cal P w K mg base 8 "again_count" z4j (y0W Sh)) (Gtwo_courses : Cal P w K mg base 8 "two_courses" z49 (y6s Sh)) (Gset_again : Cal P w K mg base 8 "set_again" z4o (z5K Sh)) (Gstate_of : Cal P w K mg base 8 "state_of" z2F (z3f Sh))
  (Gknowledge : Cal P w K mg base 8 "knowledge" z5L (y4O Sh)) (Ggaps_of : Cal P w K mg base 8 "gaps_of" z5n (z6I Sh)) (Gevery_course : Cal P w K mg base 8 "every_course" z3u (y0r Sh)) (Gcourse_count : Cal P w K mg base 8 "course_count" z1T (z8o Sh))
  (Gfits : Cal P w K mg base 8 "fits" y5z (y57 Sh)) : FnOk P w K mg base CX0 11 f fd z34 (z86 K Sh) := by
 have nd := z48.nd
 refine F.ok z48 (fun vs H Q E h => ?_) (fun cdv A outer s H vs Q E hr h => ?_)
 ·obtain ⟨x, ln, lr, fp, nm, r, us, rows, had, m, rfl, _⟩ := h
  rfl
 obtain ⟨x, ln, lr, fp, nm, r, us, rows, had, m, rfl, sh, gn, R, r60, mle, r0, r10, eN, mem, eR, tR, q⟩ := h
 refine ⟨_, (z04 (z0p (i := 4) nd rfl (Or.inl rfl) (z2l z03)) (z04 (z1i PassesOwn.never rfl (z24 (pv 1)) (z0m (i := 5) nd rfl (Or.inl rfl)) (z04 (z0p (i := 6) nd rfl (Or.inl rfl) (z0h G_law_last (rm hr) rfl (z00 (pv 2) (z00 (pv 3) (z00 (pv 5) z03))))) (z04 (z0B (z58 PySem.F.plainAttrs_list PySem.F.slot_list_append PySem.F.type_list_append z1e (pv 4) (z00 (z0z (z00 (pv 5) (z00 z75 (z00 (z1q z22 (pv 6) z08 (fun _ _ => rfl)) (z00 (z1q z22 (pv 6) z08 (fun _ _ => rfl)) z03))))) z03))) (z04 (z0p (i := 7) nd rfl (Or.inl rfl) (z0z (z00 (z0h Gsend_for (rm hr) rfl (z00 (pv 0) (z00 (pv 5) z03))) (z00 (z0h Gagain_count (rm hr) rfl (z00 (pv 0) (z00 (pv 5) z03))) (z00 (z0h Gtwo_courses (rm hr) rfl (z00 (pv 0) (z00 (pv 5) z03))) z03))))) (z04 (z0S (z7a (z6m (z0h G_law_same (rm hr) rfl (z00 (pv 7) (z00 (z0z (z00 (z0z (z00 (z0z z03) (z00 (z0z z03) z03))) (z00 z08 (z00 z9A z03)))) z03))))) (z05 (z0k z4Z)) z0t) (z05 (z0S (z7a (z6m (z0h G_law_same (rm hr) rfl (z00 (z0z (z00 (z0h Gset_again (rm hr) rfl (z00 (pv 0) (z00 (pv 5) z03))) (z00 (z0h Gstate_of (rm hr) rfl (z00 (pv 0) (z00 (pv 5) z03))) z03))) (z00 (z0z (z00 (z0z z03) (z00 z75 z03))) z03))))) (z05 (z0k z4Z)) z0t))))))) (z04 (z0p (i := 8) nd rfl (Or.inl rfl) (z0r z0o rfl M.tuple PyProof.Rows.boot_tuple (z00 (z1c ["_law_one"] [] [] rfl (z0w rfl (by decide +kernel) rfl (by decide +kernel) rfl rfl) (z24 (z2P y3B (pv 2) z3U (z3T (pv 3)))) (fun _ _ _ _ _ => (z0m (i := 0) (show ((["_law_one"] : List PySem.Str) ++ ([] : List PySem.Str)).Nodup from by decide +kernel) rfl (Or.inl rfl))) (z0x (by decide)) z0c (fun _ _ _ _ _ => z1N) (fun _ _ _ _ _ => (z0r (z4x (K := K) rfl) rfl M.tuple PyProof.Rows.boot_tuple (z00 (z1c ["_law_row_here"] [] [] rfl (z0w rfl (by decide +kernel) rfl (by decide +kernel) rfl rfl) (y5C (K := K) rfl (pv 0)) (fun _ _ _ _ _ => (z0m (i := 0) (show ((["_law_row_here"] : List PySem.Str) ++ ([] : List PySem.Str)).Nodup from by decide +kernel) rfl (Or.inl rfl))) (z0x (by decide)) z0c (fun _ _ _ _ _ => z1N) (fun _ _ _ _ _ => (z1q (r := rIxT K) z22 (pv 0) z08 (fun _ _ => rfl)))) z03)))) z03))) (z04 (z0S (z7a (z6m (z0h G_law_same (rm hr) rfl (z00 (z0z (z00 (z0h Gknowledge (rm hr) rfl (z00 (pv 0) z03)) (z00 (z0h Ggaps_of (rm hr) rfl (z00 (pv 0) z03)) z03))) (z00 (z0z (z00 (z0r z0o rfl M.tuple PyProof.Rows.boot_tuple (z00 (pv 4) z03)) (z00 (z0z z03) z03))) z03))))) (z05 (z0k z4Z)) z0t) (z04 (z0S (z7a (z6m (z0h G_law_same (rm hr) rfl (z00 (z0z (z00 (z0h Gevery_course (rm hr) rfl (z00 (pv 0) z03)) (z00 (z0h Gcourse_count (rm hr) rfl (z00 (pv 0) z03)) z03))) (z00 (z0z (z00 (z0z (z00 (pv 8) z03)) (z00 z08 z03))) z03))))) (z05 (z0k z4Z)) z0t) (z05 (z0k (z0h G_law_same (rm hr) rfl (z00 (z0z (z00 (y5R Gsend_forD (rm hr) rfl (z00 (pv 0) z03)) (z00 (z0h Gfits (rm hr) rfl (z00 (pv 0) (z00 (pv 8) z03))) z03))) (z00 (z0z (z00 (z0z (z00 (z0z z03) (z00 (z0z z03) z03))) (z00 z4Z z03))) z03)))))))))), ?_⟩
 have n12 := gn.hi
 have r12 := y52 R n12
 have lus : us.length = rows.length := by rw [tR.length, List.length_map]
 have hadr : ∀ n ∈ had, 1 ≤ n /\ n ≤ (rows.length : Int) := fun n hn => by have := z0P.mp ((mem n).mp hn); omega
 have h60' : ∀ n ∈ had, 1 ≤ n /\ n ≤ 60 := fun n hn => by have := hadr n hn; omega
 have h60 : ∀ n ∈ upI 1 m, 1 ≤ n /\ n ≤ 60 := fun n hn => h60' n ((mem n).mpr hn)
 have e1 : z07 had = upI 1 m := y0U (z1A _ _) h60 mem
 have e2 : z07 (upI 1 m) = upI 1 m := y0U (z1A _ _) h60 fun _ => Iff.rfl
 have it' : z65 had m := by
  refine z65.same (a := upI 1 m) ⟨?_, fun y hy => by have := z0P.mp hy; omega⟩ mem
  by_cases c : m = 0
  ·exact .inr ⟨by rw [c]; rfl, c⟩
  ·exact .inl (z0P.mpr (by omega))
 refine ⟨(by show 0 ≤ sizeLine; decide), fun ld hld => ?_⟩
 have s0 := z01 hld (.lst [])
 refine ⟨_, rfl, ln, rfl, ⟨_, SqL.of (s0 _ _ eN)⟩, z2g (K := K) (a := ln) (xs := nm.map V.str) (fun i σ G => ∃ (ts : List V) (o5 o6 o7 : Option V), Same H G /\ G ld = some (.lst ts) /\ z09 G ((nm.take i).map (tabD (upI 1 m) rows r)) ts /\
   σ = [some (.ref x), some (.ref ln), some (.ref lr), some (.int m), some (.ref ld), o5, o6, o7, none]) ⟨[], none, none, none, s0, z02, by rw [List.take_zero]; exact .nil, rfl⟩ (fun i σ G _ ⟨_, _, _, _, g, _⟩ => SqL.of (g _ _ eN)) ?_ ?_⟩
 ·rintro i y σ G hi ⟨ts, o5, o6, o7, g, eT, tT, rfl⟩
  rw [List.getElem?_map] at hi
  obtain ⟨z, hz, rfl⟩ := Option.map_eq_some_iff.mp hi
  have hzm := List.mem_of_getElem? hz
  have lts : ts.length ≤ 12 := by
   rw [tT.length, List.length_map, List.length_take]
   omega
  refine ⟨_, rfl, _, rfl, _, rfl, lr, us, rows, m, z, rfl, SqL.of (g _ _ eR), z09.keep g _ _ tR, mle, by omega, fun w hw => (R.sub w hw).nodup gn.nd, fun hv G1 g1 th => ?_⟩
  obtain ⟨ah, yv, rfl, eh, ty⟩ := z3r th
  have sah : SqT K G1 ah [V.int (z15 (z0I (upI 1 m) rows z)), yv] := SqT.of eh
  refine ⟨_, rfl, .inl ⟨rfl, _, SqL.of (g1 _ _ eT)⟩, _, rfl, _, rfl, ah, _, 0, _, rfl, rfl, sah, rfl, _, rfl, ah, _, 1, _, rfl, rfl, sah, rfl, (by show 4 ≤ sizeLine; decide), fun t ht => ?_⟩
  have st := z01 ht (.tup [V.str z, V.str "sure", V.int (z15 (z0I (upI 1 m) rows z)), yv])
  have g2 := g1.trans st
  have et : upd G1 t (.tup [V.str z, V.str "sure", V.int (z15 (z0I (upI 1 m) rows z)), yv]) t = some (.tup [V.str z, V.str "sure", V.int (z15 (z0I (upI 1 m) rows z)), yv]) := z02
  have ty2 := Tell.keep st _ _ ty
  generalize upd G1 t (.tup [V.str z, V.str "sure", V.int (z15 (z0I (upI 1 m) rows z)), yv]) = G2 at st g2 et ty2
  refine ⟨ld, _, _, rfl, rfl, g2 _ _ eT, z0g (by omega), ?_⟩
  have tT3 : z09 (upd G2 ld (.lst (ts ++ [.ref t]))) ((nm.take (i + 1)).map (tabD (upI 1 m) rows r)) (ts ++ [.ref t]) := by
   rw [z0q hz, List.map_append]
   refine z09.over (g2 _ _ eT) (fun _ e => by cases e) _ _ (z09.snoc (z09.keep g2 _ _ tT) ?_)
   show Tell G2 (tabD (upI 1 m) rows r z) _
   unfold tabD
   rw [e2, z4p]
   exact z0e et (by show 4 ≤ 1000000; decide) (.cons (z1J _) (.cons (z1J _) (.cons (z0F _) (.cons ty2 .nil))))
  have c3 : Same H (upd G2 ld (.lst (ts ++ [.ref t]))) := fun b o e => by
   rw [z0d (z0i e hld)]
   exact g2 _ _ (g b o e)
  have eT3 : upd G2 ld (.lst (ts ++ [V.ref t])) ld = some (.lst (ts ++ [V.ref t])) := z02
  generalize upd G2 ld (.lst (ts ++ [V.ref t])) = G3 at tT3 c3 eT3
  clear tT eT g1 g2 st et ty2 ty eh sah th
  refine ⟨_, rfl, _, rfl, x, some z, fp, nm, r, rows, had, rfl, OS.same sh c3, (fun y hy => by rw [List.mem_singleton.mp hy]; exact hzm), gn, R, r60, hadr, r0, r10, fun v1 G4 g4 p4 => ?_⟩
  rw [e1] at p4
  have c4 := c3.trans g4
  refine ⟨_, rfl, _, rfl, x, z, fp, nm, r, rows, had, rfl, OS.same sh c4, hzm, gn, R, r60, hadr, r0, r10, fun G5 g5 => ?_⟩
  have ea : agC nm.length (z07 had) rows r z = 0 := by
   unfold agC z0N
   rw [e1, z4p, if_neg (by decide), z5h]
   rw [List.length_nil, List.filter_nil, List.length_nil, Nat.zero_mul]
   rfl
  rw [ea]
  have c5 := c4.trans g5
  refine ⟨_, rfl, _, rfl, x, z, fp, nm, r, rows, had, m, rfl, OS.same sh c5, hzm, gn, R, r60, hadr, r0, r10, it', fun _ G6 g6 => ?_, fun hop => absurd hop (by rw [e1, z4p]; decide)⟩
  have c6 := c5.trans g6
  refine ⟨(by show 3 ≤ sizeLine; decide), fun t1 ht1 => ?_⟩
  have st1 := z01 ht1 (.tup [v1, V.int 0, V.non])
  refine ⟨_, rfl, (by show 0 ≤ sizeLine; decide), fun a1 ha1 => ⟨(by show 0 ≤ sizeLine; decide), fun a2 ha2 => ⟨(by show 2 ≤ sizeLine; decide), fun a3 ha3 => ⟨(by show 3 ≤ sizeLine; decide), fun a4 ha4 => ?_⟩⟩⟩⟩
  have sa1 := z01 ha1 (.tup [])
  have sa2 := z01 ha2 (.tup [])
  have sa3 := z01 ha3 (.tup [V.ref a1, V.ref a2])
  have sa4 := z01 ha4 (.tup [V.ref a3, V.int 0, V.non])
  have sa := sa1.trans (sa2.trans (sa3.trans sa4))
  have dd : (DV.tup [.tup [.tup [], .tup []], .int 0, .non]).deep ≤ 3 := z2L fun d hd => by
   rcases List.mem_cons.mp hd with rfl | hd
   ·exact z4n (z4s 0) (z4s 0)
   rcases List.mem_cons.mp hd with rfl | hd
   ·exact z6J _ _
   ·rw [List.mem_singleton.mp hd]
    unfold DV.deep
    exact Nat.zero_le _
  refine ⟨.ref t1, .ref a4, rfl, (z2v (.tup [.tup [.tup [], .tup []], .int 0, .non]) _ _ (z0e (sa _ _ z02) (by show 3 ≤ 1000000; decide) (.cons (Tell.keep (g5.trans (g6.trans (st1.trans sa))) _ _ (y3y p4)) (.cons (z0F _) (.cons z5D .nil))))
   (z0e z02 (by show 3 ≤ 1000000; decide) (.cons (z0e (sa4 _ _ z02) (by show 2 ≤ 1000000; decide) (.cons (z0e (sa4 _ _ (sa3 _ _ (sa2 _ _ z02))) (Nat.zero_le _) .nil) (.cons (z0e (sa4 _ _ (sa3 _ _ z02)) (Nat.zero_le _) .nil) .nil))) (.cons (z0F _) (.cons z5D .nil))))).mono (Nat.le_trans dd (by decide)), fun G7 g7 => ⟨_, rfl, iteF ?_⟩⟩
  have c7 := c6.trans (st1.trans (sa.trans g7))
  have k7 := g4.trans (g5.trans (g6.trans (st1.trans (sa.trans g7))))
  clear sa1 sa2 sa3 sa4 sa st1 p4 g7
  refine ⟨_, rfl, _, rfl, x, z, fp, nm, r, rows, had, rfl, OS.same sh c7, hzm, gn, R, r60, hadr, r0, r10, fun v8 G8 g8 t8 => ?_⟩
  have c8 := c7.trans g8
  have t8' : Tell G8 (.tup []) v8 := by
   have := t8
   unfold y4P at this
   rw [e1, z7Y] at this
   exact this
  refine ⟨_, rfl, _, rfl, x, z, fp, nm, r, rows, had, rfl, OS.same sh c8, hzm, gn, R, r60, hadr, r0, r10, fun G9 g9 => ⟨le2, fun b1 hb1 => ?_⟩⟩
  rw [e1, z4p]
  have sb1 := z01 hb1 (.tup [v8, V.str "sure"])
  refine ⟨(by show 0 ≤ sizeLine; decide), fun b2 hb2 => ⟨le2, fun b3 hb3 => ?_⟩⟩
  have sb2 := z01 hb2 (.tup [])
  have sb3 := z01 hb3 (.tup [V.ref b2, V.str "sure"])
  refine ⟨.ref b1, .ref b3, rfl, (z2v (.tup [.tup [], .str "sure"]) _ _ (z0e (sb3 _ _ (sb2 _ _ z02)) (by show 2 ≤ 1000000; decide) (.cons (Tell.keep (g9.trans (sb1.trans (sb2.trans sb3))) _ _ t8') (.cons (z1J _) .nil)))
   (z0e z02 (by show 2 ≤ 1000000; decide) (.cons (z0e (sb3 _ _ z02) (Nat.zero_le _) .nil) (.cons (z1J _) .nil)))).mono (Nat.le_trans (z4n (n := 1) (z4s 0) (z6L _ _)) (by decide)), fun GA gA => ⟨_, rfl, iteF ?_⟩⟩
  have kA := k7.trans (g8.trans (g9.trans (sb1.trans (sb2.trans (sb3.trans gA)))))
  exact ⟨_, _, _, _, c3.trans kA, kA _ _ eT3, z09.keep kA _ _ tT3, rfl⟩
 ·rintro σ G ⟨ts, o5, o6, o7, g, eT, tT, rfl⟩
  rw [List.length_map, List.take_length] at tT
  refine ⟨_, rfl, _, rfl, _, rfl, lr, us, rfl, SqL.of (g _ _ eR), fun lq hlq => ?_⟩
  rw [y0k (by omega)]
  have sq := z01 hlq (.lst (us.take m))
  have eq : upd G lq (.lst (us.take m)) lq = some (.lst (us.take m)) := z02
  generalize upd G lq (.lst (us.take m)) = G3 at sq eq
  have c3 := g.trans sq
  have tC3 := z09.keep c3 _ _ tR
  have lt : (us.take m).length = m := by rw [List.length_take]; omega
  refine ⟨lq, rfl, ⟨_, SqL.of eq⟩, ?_⟩
  refine z3X (xs := us.take m) (fun i ys G => Same G3 G /\ z09 G ((((rows.take m).map z0R).take i).map nmsD) ys) ⟨Same.refl _, .nil⟩ (fun i ys G hi hp => ?_) (fun i u ys G hu hp => ?_) (fun ys G4 hp => ?_)
  ·obtain ⟨gG, th⟩ := hp
   have := th.length
   rw [List.length_map, List.length_take] at this
   exact ⟨SqL.of (gG _ _ eq), z0g (by omega)⟩
  ·obtain ⟨gG, th⟩ := hp
   have hi : i < m := by
    have := (List.getElem?_eq_some_iff.mp hu).1
    omega
   rw [List.getElem?_take_of_lt hi] at hu
   obtain ⟨d, ed, td⟩ := (z09.keep gG _ _ tC3).at i u hu
   rw [List.getElem?_map] at ed
   obtain ⟨wr, ew, rfl⟩ := Option.map_eq_some_iff.mp ed
   have hw := List.mem_of_getElem? ew
   obtain ⟨ar, xs, rfl, er, _, tp⟩ := z0f td
   have lx : xs.length = wr.length := by rw [tp.length, List.length_map]
   have w12 := r12 wr hw
   refine ⟨_, rfl, ar, rfl, ⟨_, SqT.of er⟩, ?_⟩
   refine z1z (xs := xs) (fun j ys2 H2 => H2 = G /\ ys2 = ((z0R wr).take j).map V.str) ⟨rfl, rfl⟩ (fun j ys2 H2 hj hp => ?_) (fun j y2 ys2 H2 hy hp => ?_) (fun ys2 H2 hp => ?_)
   ·obtain ⟨rfl, rfl⟩ := hp
    refine ⟨SqT.of er, z0g ?_⟩
    rw [List.length_map, List.length_take]
    omega
   ·obtain ⟨rfl, rfl⟩ := hp
    obtain ⟨pq, b, e1', rfl, e2'⟩ := z59 tp j y2 hy
    refine ⟨_, rfl, b, _, 0, _, rfl, rfl, SqT.of e2', rfl, rfl, ?_⟩
    have e3 : (z0R wr)[j]? = some pq.1 := by
     unfold z0R
     rw [List.getElem?_map, e1']
     rfl
    rw [z0q e3, List.map_append]
    rfl
   obtain ⟨rfl, rfl⟩ := hp
   have ll : (z0R wr).take xs.length = z0R wr := List.take_of_length_le (by unfold z0R; rw [List.length_map]; omega)
   rw [ll]
   intro D hD
   refine ⟨D, _, rfl, .inl ⟨SqL.of z02, fun t ht => ?_⟩⟩
   have sT := (z01 hD (.lst ((z0R wr).map V.str))).trans (z01 ht (.tup ((z0R wr).map V.str)))
   have lw : (z0R wr).length ≤ 12 := by
    unfold z0R
    rw [List.length_map]
    exact w12
   have eT : upd (upd H2 D (.lst ((z0R wr).map V.str))) t (.tup ((z0R wr).map V.str)) t = some (.tup ((z0R wr).map V.str)) := z02
   generalize upd (upd H2 D (.lst ((z0R wr).map V.str))) t (.tup ((z0R wr).map V.str)) = H5 at sT eT
   refine ⟨gG.trans sT, ?_⟩
   have e4 : ((rows.take m).map z0R)[i]? = some (z0R wr) := by
    rw [List.getElem?_map, List.getElem?_take_of_lt hi, ew]
    rfl
   rw [z0q e4, List.map_append]
   exact (z09.keep sT _ _ th).snoc (z0e eT (by rw [List.length_map]; omega) (z3k _))
  obtain ⟨gG, th⟩ := hp
  rw [lt, List.take_of_length_le (by rw [List.length_map, List.length_take]; omega)] at th
  intro D hD
  refine ⟨D, _, rfl, .inl ⟨SqL.of z02, fun t ht => ?_⟩⟩
  have sT := (z01 hD (.lst ys)).trans (z01 ht (.tup ys))
  have eTt : upd (upd G4 D (.lst ys)) t (.tup ys) t = some (.tup ys) := z02
  generalize upd (upd G4 D (.lst ys)) t (.tup ys) = G5 at sT eTt
  have k5 := sq.trans (gG.trans sT)
  have c5 := g.trans k5
  have ttr : Tell G5 (z43 ((rows.take m).map z0R)) (.ref t) := z0e eTt (by rw [List.length_map, List.length_map, List.length_take]; omega) (z09.keep sT _ _ th)
  have eT5 := k5 _ _ eT
  have tT5 := z09.keep k5 _ _ tT
  clear th eTt sT gG k5 eT tT tC3 eq sq
  have dC : (z43 ((rows.take m).map z0R)).deep ≤ 2 := z2L fun d hd => by
   obtain ⟨zs, _, rfl⟩ := List.mem_map.mp hd
   exact y4M _
  refine ⟨_, rfl, x, fp, nm, r, rows, had, rfl, OS.same sh c5, gn, R, r60, hadr, r0, r10, fun v6 G6 g6 t6 => ?_⟩
  have c6 := c5.trans g6
  refine ⟨_, rfl, x, fp, nm, r, rows, had, rfl, OS.same sh c6, gn, R, r60, hadr, r0, r10, fun v7 G7 g7 t7 => ⟨le2, fun p1 hp1 => ?_⟩⟩
  rw [e1] at t6 t7
  have t7' : Tell G7 (.tup []) v7 := by
   have := t7
   unfold z7P at this
   rw [z8y] at this
   exact this
  have sp1 := z01 hp1 (.tup [v6, v7])
  have k7 := g6.trans (g7.trans sp1)
  refine ⟨_, rfl, ld, ts, rfl, .inl ⟨SqL.of (k7 _ _ eT5), fun p2 hp2 => ⟨(by show 0 ≤ sizeLine; decide), fun p3 hp3 => ⟨le2, fun p4 hp4 => ?_⟩⟩⟩⟩
  have sp2 := z01 hp2 (.tup ts)
  have sp3 := z01 hp3 (.tup [])
  have sp4 := z01 hp4 (.tup [V.ref p2, V.ref p3])
  have sp := sp2.trans (sp3.trans sp4)
  refine ⟨.ref p1, .ref p4, rfl, (z2v (.tup [y2H nm (upI 1 m) rows r, .tup []]) _ _ (z0e (sp _ _ z02) (by show 2 ≤ 1000000; decide) (.cons (Tell.keep (g7.trans (sp1.trans sp)) _ _ t6) (.cons (Tell.keep (sp1.trans sp) _ _ t7') .nil)))
   (z0e z02 (by show 2 ≤ 1000000; decide) (.cons (z0e (sp4 _ _ (sp3 _ _ z02)) (by rw [List.length_map]; omega) (z09.keep (k7.trans sp) _ _ tT5)) (.cons (z0e (sp4 _ _ z02) (Nat.zero_le _) .nil) .nil)))).mono (Nat.le_trans (z4n (y1m _ _ _ _) (z4s 1)) (by decide)), fun G8 g8 => ⟨_, rfl, iteF ?_⟩⟩
  have k8 := k7.trans (sp.trans g8)
  have c8 := c5.trans k8
  have ttr8 := Tell.keep k8 _ _ ttr
  clear t6 t7 t7' sp1 sp2 sp3 sp4 sp k7 g8 g6 g7 eT5 tT5 k8 ttr
  have kn : z0X m (z07 had) rows r = ((rows.take m).map z0R).map some := by rw [e1]; exact z8f mle r
  refine ⟨_, rfl, x, fp, nm, r, rows, had, m, rfl, OS.same sh c8, gn, R, r60, hadr, r0, r10, it', by rw [e1]; exact z5h m r, (fun o ho => by rw [kn] at ho; obtain ⟨zs, _, rfl⟩ := List.mem_map.mp ho; exact fun e => by cases e), fun pE aE uE G9 g9 eP eA tE => ?_⟩
  have tE' : Tell G9 (z43 ((rows.take m).map z0R)) (.ref aE) := by
   rw [kn, List.map_map] at tE
   exact z0e eA (by rw [List.length_map, List.length_map, List.length_take]; omega) tE
  have c9 := c8.trans g9
  refine ⟨_, rfl, x, fp, nm, r, _, had, rfl, OS.same sh c9, h60', fun GA gA => ⟨le2, fun p1 hp1 => ?_⟩⟩
  have one : (2 : Int) ^ ((z1R (z07 had) r).length * nm.length) = 1 := by
   rw [e1, z5h, List.length_nil, Nat.zero_mul]
   rfl
  rw [one]
  have sp1 := z01 hp1 (.tup [V.ref pE, V.int 1])
  refine ⟨_, rfl, (by show 1 ≤ sizeLine; decide), fun p2 hp2 => ⟨le2, fun p3 hp3 => ?_⟩⟩
  have sp2 := z01 hp2 (.tup [V.ref t])
  have sp3 := z01 hp3 (.tup [V.ref p2, V.int 1])
  have sp := sp1.trans (sp2.trans sp3)
  have dO : (DV.tup [z43 ((rows.take m).map z0R)]).deep ≤ 3 := z2L fun d hd => by
   rw [List.mem_singleton.mp hd]
   exact dC
  refine ⟨.ref p1, .ref p3, rfl, (z2v (.tup [.tup [z43 ((rows.take m).map z0R)], .int 1]) _ _ (z0e (sp3 _ _ (sp2 _ _ z02)) (by show 2 ≤ 1000000; decide) (.cons (z0e ((gA.trans sp) _ _ eP) (by show 1 ≤ 1000000; decide) (.cons (Tell.keep (gA.trans sp) _ _ tE') .nil)) (.cons (z0F _) .nil)))
   (z0e z02 (by show 2 ≤ 1000000; decide) (.cons (z0e (sp3 _ _ z02) (by show 1 ≤ 1000000; decide) (.cons (Tell.keep (g9.trans (gA.trans sp)) _ _ ttr8) .nil)) (.cons (z0F _) .nil)))).mono (Nat.le_trans (z4n dO (z6J _ _)) (by decide)), fun GB gB => ⟨_, rfl, iteF ?_⟩⟩
  have kB := g9.trans (gA.trans (sp.trans gB))
  have cB := c8.trans kB
  have ttrB := Tell.keep kB _ _ ttr8
  clear sp sp1 sp2 sp3 tE tE' eP eA ttr8
  refine ⟨_, rfl, x, none, fp, nm, r, rows, had, rfl, OS.same sh cB, fun y hy => hy, gn, R, r60, hadr, r0, r10, fun v1 GC gC pC => ?_⟩
  rw [e1] at pC
  have cC := cB.trans gC
  refine ⟨_, rfl, _, rfl, x, .ref t, fp, nm, r, rows, had, m, (rows.take m).map z0R, rfl, OS.same sh cC, gn, R, r60, hadr, r0, r10, it', Tell.keep gC _ _ ttrB, fun _ GD gD => ?_, fun hn => absurd ?_ hn⟩
  ·refine ⟨le2, fun q1 hq1 => ⟨(by show 0 ≤ sizeLine; decide), fun a1 ha1 => ⟨(by show 0 ≤ sizeLine; decide), fun a2 ha2 => ⟨le2, fun a3 ha3 => ⟨le2, fun a4 ha4 => ?_⟩⟩⟩⟩⟩
   have sq1 := z01 hq1 (.tup [v1, V.bl true])
   have sa1 := z01 ha1 (.tup [])
   have sa2 := z01 ha2 (.tup [])
   have sa3 := z01 ha3 (.tup [V.ref a1, V.ref a2])
   have sa4 := z01 ha4 (.tup [V.ref a3, V.bl true])
   have sa := sa1.trans (sa2.trans (sa3.trans sa4))
   have tb : ∀ {X : Hp} (b : Bool), Tell X (.bl b) (.bl b) := fun {X} b => by
    unfold Tell
    rfl
   exact ⟨.ref q1, .ref a4, rfl, (z2v (.tup [.tup [.tup [], .tup []], .bl true]) _ _ (z0e (sa _ _ z02) (by show 2 ≤ 1000000; decide) (.cons (Tell.keep (gD.trans (sq1.trans sa)) _ _ (y3y pC)) (.cons (tb true) .nil)))
    (z0e z02 (by show 2 ≤ 1000000; decide) (.cons (z0e (sa4 _ _ z02) (by show 2 ≤ 1000000; decide) (.cons (z0e (sa4 _ _ (sa3 _ _ (sa2 _ _ z02))) (Nat.zero_le _) .nil) (.cons (z0e (sa4 _ _ (sa3 _ _ z02)) (Nat.zero_le _) .nil) .nil))) (.cons (tb true) .nil)))).mono (Nat.le_trans (z4n (n := 2) (z4n (z4s 0) (z4s 0)) (by unfold DV.deep; exact Nat.zero_le _)) (by decide)), fun GE gE => q _ (cC.trans (gD.trans (sq1.trans (sa.trans gE))))⟩
  ·rw [e1]
   refine ⟨by rw [z1l, List.length_map, List.length_take]; omega, fun i o zs h1 h2 => ?_⟩
   rw [z8f mle r, List.getElem?_map, h2] at h1
   cases h1
   obtain ⟨w, hw, rfl⟩ := List.mem_map.mp (List.mem_of_getElem? h2)
   exact ⟨R.sub w (List.mem_of_mem_take hw), fun ws e => by cases e; rfl⟩
theorem y5M {nm : List Str} {rows : List Row} {w : Row} (R : Rws nm rows) (nd : nm.Nodup) (hw : w ∈ rows) : GoodR nm w /\ z18 nm w = w := by
 have sb := R.sub w hw
 exact ⟨⟨sb.nodup nd, fun p hp => sb.subset (List.mem_map_of_mem hp), fun p hp => R.val w hw p hp⟩, z4M nd sb⟩
theorem y6n (m : Nat) : rngV 1 m = (upI 1 m).map V.int := by
 unfold rngV upI
 rw [List.map_map]
 rfl
theorem y6W (M : Bl mg) (F : Fun K "law" "law" slaw f fd) {CBook CShelf : Addr} {Bk : BkP} {Sh : ShP} (O : BkOk CBook ["write", "deliver", "latest", "issue", "deeds", "deed", "shelf"] Bk) (OS : ShOk CShelf ["put", "had", "latest"] Sh)
  (G_law_at : Cal P w K mg base 1 "_law_at" z5k (spAt K)) (G_law_pick : Cal P w K mg base 1 "_law_pick" z3h y0X)
  (G_law_names : Cal P w K mg base 2 "_law_names" z56 (y2l K)) (G_law_numbers : Cal P w K mg base 3 "_law_numbers" z3C (z9h K))
  (G_law_shuffled : Cal P w K mg base 2 "_law_shuffled" z2T (y53 K)) (G_law_complete : Cal P w K mg base 11 "_law_complete" z34 (z86 K Sh))
  (GBook : Mkr P w K mg base 8 CBook "Book" z36 (y0l K CBook Bk)) (GBook_write : MCal P w K mg base 8 CBook "write" z55 (z9z K Bk)) (GBook_deliver : MCal P w K mg base 8 CBook "deliver" z3y (z7D Bk))
  (GBook_shelfD : MCalD P w K mg base 8 CBook "shelf" z2y (z5m Bk Sh) [V.non]) : FnOk P w K mg base CX0 14 f fd plaw (y3O K) := by
 have nd := y6L.nd
 refine F.ok y6L (fun vs H Q E h => ?_) (fun cdv A outer s H vs Q E hr h => ?_)
 ·obtain ⟨a, ns, rfl, _⟩ := h
  rfl
 obtain ⟨a, ns, rfl, hS, h63, q⟩ := h
 refine ⟨_, (z04 (z0p (i := 1) nd rfl (Or.inl rfl) (z0h G_law_names (rm hr) rfl (z00 (pv 0) z03))) (z04 (z0p (i := 2) nd rfl (Or.inl rfl) (z0h G_law_numbers (rm hr) rfl (z00 (pv 0) (z00 (pv 1) z03)))) (z04 (z0p (i := 3) nd rfl (Or.inl rfl) (z0h G_law_pick (rm hr) rfl (z00 (z0h G_law_at (rm hr) rfl (z00 (pv 0) (z00 z08 z03))) (z00 z08 z03)))) (z04 (z0p (i := 4) nd rfl (Or.inl rfl) (z0h G_law_pick (rm hr) rfl (z00 (z0h G_law_at (rm hr) rfl (z00 (pv 0) (z00 z08 z03))) (z00 (z0v z1F (z0j z0a rfl M.len PySem.boot_len (z00 (pv 2) z03)) z08) z03)))) (z04 (z0p (i := 5) nd rfl (Or.inl rfl) (y3A GBook (rm hr) rfl (z00 (z0r z4l rfl M.list PyProof.Rows.boot_list (z00 (pv 1) z03)) (z00 (pv 3) (z00 z08 z03))))) (z04 (z1i PassesOwn.never rfl (z24 (pv 2)) (z0m (i := 6) nd rfl (Or.inl rfl)) (z05 (z0B (z1X GBook_write (rm hr) (pv 5) (z00 (z0r z4l rfl M.list PyProof.Rows.boot_list (z00 (pv 6) z03)) z03))))) (z04 (z1i PassesOwn.never rfl (z24 (z2l (z00 z08 (z00 z08 z03)))) (z0m (i := 7) nd rfl (Or.inl rfl)) (z05 (z1i PassesOwn.never rfl (z24 (z0h G_law_shuffled (rm hr) rfl (z00 (z0r (z8w rfl) rfl M.list PyProof.Rows.boot_list (z00 (z0r z99 rfl M.range PyProof.Rows.boot_range (z00 z08 (z00 (z0v z1F (pv 4) z08) z03))) z03)) (z00 (z0h G_law_at (rm hr) rfl (z00 (pv 0) (z00 (z0v z1F z08 (pv 7)) z03))) z03)))) (z0m (i := 8) nd rfl (Or.inl rfl)) (z05 (z0B (z1X GBook_deliver (rm hr) (pv 5) (z00 (pv 7) (z00 (pv 8) z03)))))))) (z04 (z1i PassesOwn.never rfl (z24 (z2l (z00 z08 (z00 z08 z03)))) (z0m (i := 7) nd rfl (Or.inl rfl)) (z05 (z0S (z7a (z6m (z0h G_law_complete (rm hr) rfl (z00 (y4F GBook_shelfD (rm hr) (pv 5) (z00 (pv 7) z03)) (z00 (pv 1) (z00 (pv 2) (z00 (pv 4) z03))))))) (z05 (z0k z4Z)) z0t))) (z05 (z0k z4Z)))))))))), ?_⟩
 refine ⟨_, rfl, a, ns, rfl, hS, fun ln nm H1 nln s1 eN n1 n12 N => ?_⟩
 refine ⟨_, rfl, _, rfl, a, ln, ns, nm, rfl, s1.seq hS, SqL.of eN, n1, n12, fun lr us rows H2 nlr s2 eR tl r60 R => ?_⟩
 refine ⟨_, rfl, a, ns, 4, rfl, (s1.trans s2).seq hS, by decide, _, _, rfl, (by decide), fun r r0 r1 => ?_⟩
 have s12 := s1.trans s2
 have lus : us.length = rows.length := by rw [tl.length, List.length_map]
 refine ⟨_, rfl, a, ns, 5, rfl, s12.seq hS, by decide, _, rfl, lr, us, rfl, .inl (SqL.of eR), _, _, rfl, rfl, _, _, rfl, (by omega), fun lat m0 m1 => ?_⟩
 obtain ⟨m, rfl⟩ : ∃ m : Nat, lat = (m : Int) := ⟨lat.toNat, by omega⟩
 have mle : m ≤ rows.length := by omega
 have gn : GoodN nm := ⟨n1, n12, N.nd⟩
 have eN3 : H2 ln = some (.lst (nm.map V.str)) := s2 _ _ eN
 have eR3 : H2 lr = some (.lst us) := eR
 have tl3 : z09 H2 (rows.map rowD) us := tl
 refine ⟨_, rfl, ln, nm.map V.str, rfl, .inl (SqL.of eN3), fun l1 hl1 => ⟨_, rfl, fun x dx nx ndx ne => ?_⟩⟩
 have mm1 := z7c (C := CBook) (z01 hl1 (.lst (nm.map V.str))) nx ndx
 refine ⟨x, dx, l1, nm, r, 2, rfl, z02, ne, by rw [z0d ne, z02], .inl (SqL.of (z9w nx ndx z02)), gn, r0, by omega, by decide, by decide, fun fp H5 hfp b5 bk5 => ⟨rfl, ?_⟩⟩
 have s5 : Same H2 H5 := z7I b5 mm1 ((z01 hl1 _).free nx)
 have f5 : ∀ b ∈ fp, H2 b = none := fun b hb => z63 mm1 ((z01 hl1 _).free nx) ((z01 hl1 _).free ndx) (hfp b hb)
 have out : ∀ {b : Addr} {o : HO}, H2 b = some o -> b ∉ fp := fun e m => by rw [f5 _ m] at e; cases e
 have ntp : z54 H5 fp := O.noTup bk5
 have eR5 := s5 _ _ eR3
 have eN5 := s5 _ _ eN3
 have tl5 : z09 H5 (rows.map rowD) us := z09.keep s5 _ _ tl3
 refine ⟨_, rfl, lr, rfl, ⟨_, SqL.of eR5⟩, z2g (K := K) (a := lr) (xs := us) (fun i σ H' => ∃ (fp' : List Addr) (o : Option V), z0s fp H5 H' /\ Bk H' x fp' nm r 2 (rows.take i) (wlog i) /\ (∀ b ∈ fp', b ∈ fp \/ H5 b = none) /\
   σ = [some (.ref a), some (.ref ln), some (.ref lr), some (.int r), some (.int m), some (.ref x), o, none, none]) ⟨fp, none, .of (Same.refl _), bk5, fun b m => .inl m, rfl⟩ (fun i σ H' _ ⟨_, _, bt, _⟩ => SqL.of (bt _ _ eR5 (out eR3))) ?_ ?_⟩
 ·rintro i u σ H' hi ⟨fp', o, bt, bk, ff, rfl⟩
  obtain ⟨d, ed, td⟩ := (z09.but bt ntp _ _ tl5).at i u hi
  rw [List.getElem?_map] at ed
  obtain ⟨wr, ew, rfl⟩ := Option.map_eq_some_iff.mp ed
  have hw := List.mem_of_getElem? ew
  have hi' : i < rows.length := (List.getElem?_eq_some_iff.mp ew).1
  obtain ⟨ar, xs, rfl, er, _, tp⟩ := z0f td
  obtain ⟨d2, g2, z2, w2⟩ := O.ins bk
  refine ⟨_, rfl, x, d2, g2, rfl, z2, w2 _ (by simp), _, rfl, ar, xs, rfl, .inr (SqT.of er), fun l hl => ?_⟩
  have sl := z01 hl (.lst xs)
  have el : upd H' l (.lst xs) l = some (.lst xs) := z02
  have nl : l ∉ fp' := fun m => by
   obtain ⟨o, e, _⟩ := O.own bk l m
   rw [hl] at e
   cases e
  have bk' := O.same bk sl
  have hts := y0T (z09.keep sl _ _ tp)
  generalize upd H' l (.lst xs) = G at sl el bk' hts
  obtain ⟨good, ino⟩ := y5M R N.nd hw
  have lti : (rows.take i).length = i := by rw [List.length_take]; omega
  refine ⟨x, .ref l, fp', nm, r, 2, rows.take i, wlog i, wr, rfl, bk', ⟨l, xs, rfl, .inl (SqL.of el), nl, HT.hand (O.noTup bk') hts⟩, good, y52 R n12 wr hw, by omega, by rw [y0u]; omega, fun fp2 H6 hf2 b6 bk6 => ?_⟩
  rw [ino, lti, <- z0q ew, <- y21] at bk6
  exact ⟨fp2, _, (fun b o e nb => b6 b o (sl _ _ (bt b o e nb)) fun m => (ff b m).elim nb fun z => by rw [e] at z; cases z), bk6, y37 bt ff sl hf2, rfl⟩
 rintro σ H6 ⟨fp6, o6, bt6, bk6, ff6, rfl⟩
 rw [lus, List.take_length] at bk6
 have f6 : ∀ {b : Addr} {o : HO}, H2 b = some o -> b ∉ fp6 := fun e m => (ff6 _ m).elim (out e) fun z => by rw [s5 _ _ e] at z; cases z
 have eN6 := bt6 _ _ eN5 (out eN3)
 have eR6 := bt6 _ _ eR5 (out eR3)
 have tl6 : z09 H6 (rows.map rowD) us := z09.but bt6 ntp _ _ tl5
 have kN := f6 eN3
 have kR := f6 eR3
 have sqS : ∀ {G : Hp}, z0s fp6 H6 G -> SqL K G a (ns.map V.int) := fun {G} g => by
  rcases s12.seq hS with (h | ⟨o, h⟩) | h
  ·exact .inl (.inl (g _ _ (bt6 _ _ (s5 _ _ h) (out h)) (f6 h)))
  ·exact .inl (.inr ⟨o, g _ _ (bt6 _ _ (s5 _ _ h) (out h)) (f6 h)⟩)
  ·exact .inr h
 have own6 : ∀ {b : Addr}, H6 b = none -> b ∉ fp6 := fun e m => by
  obtain ⟨o, e', _⟩ := O.own bk6 _ m
  rw [e] at e'
  cases e'
 clear bt6 ff6 bk5 b5 hfp f5 tl5 tl3 tl eN eR eR3 eN3 eR5 eN5 s5 ntp hS s12 s1 s2 mm1 out f6
 have up60 : ∀ n ∈ upI 1 m, 1 ≤ n /\ n ≤ (rows.length : Int) := fun n hn => by have := z0P.mp hn; omega
 have rd2 : ∀ (i : Nat) (v : V), [V.int 1, V.int 2][i]? = some v -> i < 2 /\ v = .int ((i : Int) + 1) := fun i v e => by
  match i, e with
  | 0, e => cases e; exact ⟨by decide, rfl⟩
  | 1, e => cases e; exact ⟨by decide, rfl⟩
 refine ⟨(by show 2 ≤ sizeLine; decide), fun lL hlL => ?_⟩
 have kL := own6 hlL
 have s7 := z01 hlL (.lst [V.int 1, V.int 2])
 have eL : upd H6 lL (.lst [V.int 1, V.int 2]) lL = some (.lst [V.int 1, V.int 2]) := z02
 have bk7 := O.same bk6 s7
 have eN7 := s7 _ _ eN6
 have eR7 := s7 _ _ eR6
 have tl7 := z09.keep s7 _ _ tl6
 generalize upd H6 lL (.lst [V.int 1, V.int 2]) = H7 at s7 eL bk7 eN7 eR7 tl7
 have nt7 : z54 H7 fp6 := O.noTup bk7
 have sqK : ∀ {G : Hp}, z0s fp6 H7 G -> SqL K G a (ns.map V.int) := fun {G} g => sqS fun b o e nb => g b o (s7 b o e) nb
 refine ⟨lL, rfl, ⟨_, SqL.of eL⟩, z2g (K := K) (a := lL) (xs := [V.int 1, V.int 2]) (fun i σ G => ∃ (dl : List Deed) (p7 p8 : Option V), z0s fp6 H7 G /\ Bk G x fp6 nm r 2 rows (wlog rows.length ++ dl) /\ dl.length ≤ 120 * i /\ (∀ (rd n : Int), ((some rd, n) : Deed) ∈ dl ↔ (1 ≤ rd /\ rd ≤ (i : Int)) /\ n ∈ upI 1 m) /\
   σ = [some (.ref a), some (.ref ln), some (.ref lr), some (.int r), some (.int m), some (.ref x), o6, p7, p8]) ⟨[], none, none, .of (Same.refl _), (List.append_nil (wlog rows.length)).symm ▸ bk7, Nat.zero_le _, (fun rd n => Iff.intro (fun h => nomatch h) fun h => by omega), rfl⟩ (fun i σ G _ ⟨_, _, _, bt, _⟩ => SqL.of (bt _ _ eL kL)) ?_ ?_⟩
 ·rintro i y σ G hi ⟨dl, p7, p8, bt, bk, len, dm, rfl⟩
  obtain ⟨i2, rfl⟩ := rd2 i y hi
  refine ⟨_, rfl, _, _, rfl, rfl, 1, _, rfl, fun pr hpr => ⟨pr, 1, _, rfl, z02, ⟨by decide, by decide, by omega, by omega⟩, by omega, fun ll hll => ?_⟩⟩
  have spr := z01 hpr (.rng 1 ((m : Int) + 1))
  have sll := z01 hll (.lst (rngV 1 ((m : Int) + 1 - 1).toNat))
  have ell : upd (upd G pr (.rng 1 ((m : Int) + 1))) ll (.lst (rngV 1 ((m : Int) + 1 - 1).toNat)) ll = some (.lst ((upI 1 m).map V.int)) := by
   rw [z02, show ((m : Int) + 1 - 1).toNat = m by omega, y6n]
  have g2 := spr.trans sll
  have bk2 := O.same bk g2
  generalize upd (upd G pr (.rng 1 ((m : Int) + 1))) ll (.lst (rngV 1 ((m : Int) + 1 - 1).toNat)) = G2 at ell g2 bk2
  have bt2 : z0s fp6 H7 G2 := bt.then g2
  refine ⟨_, rfl, _, rfl, _, _, rfl, rfl, a, ns, 5 + ((i : Int) + 1), rfl, sqK bt2, by omega, ll, upI 1 m, _, rfl, SqL.of ell, by rw [z0E]; omega, fun ls ts G3 nls g3 eT memT lenT => ?_⟩
  have bk3 := O.same bk2 g3
  have kls : ls ∉ fp6 := fun mm => by
   obtain ⟨o, e, _⟩ := O.own bk2 ls mm
   rw [nls] at e
   cases e
  rw [z0E] at lenT
  refine ⟨ls, rfl, ⟨_, SqL.of eT⟩, z2g (K := K) (a := ls) (xs := ts.map V.int) (fun j σ G => ∃ (dl2 : List Deed) (p8 : Option V), z0s fp6 G3 G /\ Bk G x fp6 nm r 2 rows (wlog rows.length ++ dl2) /\ dl2.length ≤ 120 * i + j /\ (∀ (rd n : Int), ((some rd, n) : Deed) ∈ dl2 ↔ ((some rd, n) : Deed) ∈ dl \/ (rd = (i : Int) + 1 /\ n ∈ ts.take j)) /\
   σ = [some (.ref a), some (.ref ln), some (.ref lr), some (.int r), some (.int m), some (.ref x), o6, some (.int ((i : Int) + 1)), p8]) ⟨dl, _, .of (Same.refl _), bk3, len, (fun rd n => Iff.intro .inl fun h => h.elim id fun h => by rw [List.take_zero] at h; exact nomatch h.2), rfl⟩ (fun j σ G _ ⟨_, _, bt, _⟩ => SqL.of (bt _ _ eT kls)) ?_ ?_⟩
  ·rintro j y σ G4 hj ⟨dl2, p8', b4, bk4, len4, dm4, rfl⟩
   rw [List.getElem?_map] at hj
   obtain ⟨n, en, rfl⟩ := Option.map_eq_some_iff.mp hj
   have hn := up60 n ((memT n).mp (List.mem_of_getElem? en))
   have hj' := (List.getElem?_eq_some_iff.mp en).1
   have ll4 : (wlog rows.length ++ dl2).length < 400 := by
    rw [List.length_append, y0u]
    omega
   obtain ⟨d2, h2, z2, w2⟩ := O.ins bk4
   refine ⟨_, rfl, x, d2, h2, rfl, z2, w2 _ (by simp), _, rfl, _, rfl, x, fp6, nm, r, 2, rows, _, (i : Int) + 1, n, rfl, bk4, by omega, by omega, hn.1, hn.2, ll4, fun G5 b5 bk5 => ?_⟩
   rw [List.append_assoc] at bk5
   refine ⟨_, _, fun b o e nb => b5 b o (b4 b o e nb) nb, bk5, by rw [List.length_append]; exact Nat.succ_le_succ len4, fun rd k => ?_, rfl⟩
   rw [List.mem_append, dm4, List.mem_singleton, z0q en, List.mem_append, List.mem_singleton]
   constructor
   ·rintro ((h | ⟨h1, h2⟩) | h)
    ·exact .inl h
    ·exact .inr ⟨h1, .inl h2⟩
    ·cases h
     exact .inr ⟨rfl, .inr rfl⟩
   ·rintro (h | ⟨h1, h2 | h2⟩)
    ·exact .inl (.inl h)
    ·exact .inl (.inr ⟨h1, h2⟩)
    ·rw [h1, h2]
     exact .inr rfl
  ·rintro σ G4 ⟨dl2, p8', b4, bk4, len4, dm4, rfl⟩
   rw [List.length_map] at len4 dm4
   rw [List.take_length] at dm4
   refine ⟨dl2, _, _, fun b o e nb => b4 b o (g3 _ _ (bt2 b o e nb)) nb, bk4, by omega, fun rd k => ?_, rfl⟩
   rw [dm4, dm, memT]
   constructor
   ·rintro (⟨h1, h2⟩ | ⟨h1, h2⟩)
    ·exact ⟨by omega, h2⟩
    ·exact ⟨by omega, h2⟩
   ·rintro ⟨h1, h2⟩
    by_cases c : rd = (i : Int) + 1
    ·exact .inr ⟨c, h2⟩
    ·exact .inl ⟨by omega, h2⟩
 rintro σ HA ⟨dl, p7, p8, btA, bkA, lenA, dmA, rfl⟩
 have gm : ∀ (rd : Int), 1 ≤ rd -> rd ≤ 2 -> ∀ n, n ∈ gotL (wlog rows.length ++ dl) rd ↔ n ∈ upI 1 m := fun rd h1 h2 n => by
  rw [y3W, List.mem_append, dmA]
  constructor
  ·rintro (h | h)
   ·unfold wlog at h
    obtain ⟨k, _, e⟩ := List.mem_map.mp h
    cases e
   ·exact h.2
  ·exact fun h => .inr ⟨⟨h1, h2⟩, h⟩
 have eNA := btA _ _ eN7 kN
 have eRA := btA _ _ eR7 kR
 have tlA : z09 HA (rows.map rowD) us := z09.but btA nt7 _ _ tl7
 generalize wlog rows.length ++ dl = log at bkA gm
 clear dmA lenA btA tl7 eN7 eR7 bk7 nt7 sqK
 refine ⟨(by show 2 ≤ sizeLine; decide), fun lM hlM => ?_⟩
 have s8 := z01 hlM (.lst [V.int 1, V.int 2])
 have eM : upd HA lM (.lst [V.int 1, V.int 2]) lM = some (.lst [V.int 1, V.int 2]) := z02
 generalize upd HA lM (.lst [V.int 1, V.int 2]) = H8 at s8 eM
 refine ⟨lM, rfl, ⟨_, SqL.of eM⟩, z2g (K := K) (a := lM) (xs := [V.int 1, V.int 2]) (fun i σ G => ∃ (p7 : Option V), Same H8 G /\ σ = [some (.ref a), some (.ref ln), some (.ref lr), some (.int r), some (.int m), some (.ref x), o6, p7, p8]) ⟨_, Same.refl _, rfl⟩ (fun i σ G _ ⟨_, g, _⟩ => SqL.of (g _ _ eM)) ?_ ?_⟩
 ·rintro i y σ G hi ⟨q7, g, rfl⟩
  obtain ⟨i2, rfl⟩ := rd2 i y hi
  have c0 := s8.trans g
  have bkG := O.same bkA c0
  obtain ⟨d3, g3, z3, w3⟩ := O.ins bkG
  refine ⟨_, rfl, x, d3, g3, rfl, z3, w3 _ (by simp), _, rfl, x, fp6, nm, r, 2, rows, _, (i : Int) + 1, none, rfl, bkG, by omega, by omega, (fun d h => by cases h), fun x5 f5 HB fn5 sB sh5 => ?_⟩
  rw [show log.take (Option.getD none log.length) = log from List.take_length] at sh5
  have cB := c0.trans sB
  refine ⟨_, rfl, _, rfl, _, rfl, x5, ln, lr, f5, nm, r, us, rows, _, m, rfl, sh5, gn, R, r60, mle, r0, by omega, cB _ _ eNA, gm _ (by omega) (by omega), cB _ _ eRA, z09.keep cB _ _ tlA, fun HC sC => ⟨_, rfl, iteF ?_⟩⟩
  exact ⟨_, g.trans (sB.trans sC), rfl⟩
 ·rintro σ G ⟨q7, g, rfl⟩
  exact q _
end
theorem y6M {l : PySem.W.OpenLaw} {w : World} {K : PySem.W.Frag} {h : Heap} {mg : Str -> Option Value} {fa : Addr} (X : K.In h) (G : h.Ns mainGlobals mg) (hfa : mg "law" = some (.ref fa))
  {f0 f1 f2 f3 f4 f5 f6 f7 f8 f9 f10 f11 f12 f13 f14 f15 f16 f17 f18 f19 f20 f21 f22 f23 f24 f25 f26 f27 f28 f29 f30 f31 f32 f33 f34 f35 f36 f37 f38 f39 f40 f41 f42 f43 f44 f45 f46 f47 f48 f49 f50 f51 f52 f53 f54 f55 f56 f57 f58 f59 f60 f61 f62 f63 f64 f65 f66 f67 f68 f69 f70 f71 COffice CShelf CBook T54 T56 : Addr} {tMOST_NAMES tMOST_REACH tMOST_NUMBERS tMOST_VALUE tMOST_READERS tMOST_DEEDS tMOST_COURSES tSURE tSTALE tOPEN tWRITE tDELIVER : Tok}
  (cOffice : DfC K "Office" COffice)
  (cShelf : DfC K "Shelf" CShelf)
  (cBook : DfC K "Book" CBook)
  (nOffice_names : PySem.W.findIn K (.ref COffice) "names" = some none)
  (nOffice_reach : PySem.W.findIn K (.ref COffice) "reach" = some none)
  (nOffice_written : PySem.W.findIn K (.ref COffice) "written" = some none)
  (nShelf_names : PySem.W.findIn K (.ref CShelf) "names" = some none)
  (nShelf_reach : PySem.W.findIn K (.ref CShelf) "reach" = some none)
  (nShelf_issues : PySem.W.findIn K (.ref CShelf) "issues" = some none)
  (nBook_office : PySem.W.findIn K (.ref CBook) "office" = some none)
  (nBook_readers : PySem.W.findIn K (.ref CBook) "readers" = some none)
  (nBook_done : PySem.W.findIn K (.ref CBook) "done" = some none)
  (a0 : DfT K "lacking_numbers" z2n .none f0)
  (a1 : DfT K "reached_by" z5a .none f1)
  (a2 : DfT K "teller_of" z5R .none f2)
  (a3 : DfT K "lacking_with_tellers" z1r .none f3)
  (a4 : DfT K "dark_numbers" z3v .none f4)
  (a5 : DfT K "dark_numbers_behind" z1E .none f5)
  (a6 : DfT K "refuse_bad_names" z25 .none f6)
  (a7 : DfT K "refuse_bad_reach" z27 .none f7)
  (a8 : DfT K "bulletin_names" z2z .none f8)
  (a9 : DfT K "refuse_unknown_name" z1D .none f9)
  (a10 : DfT K "held_for" z7A .none f10)
  (a11 : DfT K "names_told_of" z2Z .none f11)
  (a12 : DfT K "gaps_of" z8E .none f12)
  (a13 : DfT K "set_again" z5M .none f13)
  (a14 : DfT K "state_of" z77 .none f14)
  (a15 : DfT K "state_and_held" z2B .none f15)
  (a16 : DfT K "knowledge" z5Y .none f16)
  (a17 : DfT K "tail_for" z7y .none f17)
  (a18 : DfT K "refuse_bad_value" z2a .none f18)
  (a19 : DfT K "refuse_bad_rows" z2o .none f19)
  (a20 : DfT K "rows_in_order" z2U .none f20)
  (a21 : DfT K "names_of_rows" z2W .none f21)
  (a22 : DfM K COffice "__init__" "Office.__init__" z2m .none f22)
  (a23 : DfM K COffice "refuse_writing" "Office.refuse_writing" z1n .none f23)
  (a24 : DfM K COffice "write" "Office.write" z3H .none f24)
  (a25 : DfM K COffice "latest" "Office.latest" z38 .none f25)
  (a26 : DfM K COffice "issue" "Office.issue" z3w .none f26)
  (a27 : DfT K "known_sets" z57 .none f27)
  (a28 : DfT K "is_choice" z64 .none f28)
  (a29 : DfT K "may_stand" z5U .none f29)
  (a30 : DfT K "fits" y5W .none f30)
  (a31 : DfT K "two_to_the" z4Y .none f31)
  (a32 : DfT K "course_count" z3q .none f32)
  (a33 : DfT K "again_count" z4c .none f33)
  (a34 : DfT K "every_choice" z5e .none f34)
  (a35 : DfT K "one_number_further" z1L .none f35)
  (a36 : DfT K "every_course" z3I .none f36)
  (a37 : DfT K "two_courses" z4f .none f37)
  (a38 : DfM K CShelf "__init__" "Shelf.__init__" z2x .none f38)
  (a39 : DfM K CShelf "put" "Shelf.put" z5W .none f39)
  (a40 : DfM K CShelf "had" "Shelf.had" z5J .none f40)
  (a41 : DfM K CShelf "latest" "Shelf.latest" z3F .none f41)
  (a42 : DfM K CShelf "rows_of" "Shelf.rows_of" z2X .none f42)
  (a43 : DfM K CShelf "tail_of" "Shelf.tail_of" z35 .none f43)
  (a44 : DfT K "refuse_bad_readers" z1K .none f44)
  (a45 : DfM K CBook "__init__" "Book.__init__" z37 .none f45)
  (a46 : DfM K CBook "refuse_unknown_reader" "Book.refuse_unknown_reader" z0T .none f46)
  (a47 : DfM K CBook "refuse_further_deed" "Book.refuse_further_deed" z11 .none f47)
  (a48 : DfM K CBook "write" "Book.write" z51 .none f48)
  (a49 : DfM K CBook "deliver" "Book.deliver" z3G .none f49)
  (a50 : DfM K CBook "latest" "Book.latest" z4m .none f50)
  (a51 : DfM K CBook "issue" "Book.issue" z52 .none f51)
  (a52 : DfM K CBook "deeds" "Book.deeds" z4Q .none f52)
  (a53 : DfM K CBook "deed" "Book.deed" z5S .none f53)
  (a54 : DfM K CBook "shelf" "Book.shelf" z4T (.ref T54) f54)
  (a55 : DfT K "fewest_numbers" z2A .none f55)
  (a56 : DfT K "send_for" z7t (.ref T56) f56)
  (a57 : DfT K "_law_at" z8n .none f57)
  (a58 : DfT K "_law_pick" z5I .none f58)
  (a59 : DfT K "_law_row" z7K .none f59)
  (a60 : DfT K "_law_same" z4q .none f60)
  (a61 : DfT K "_law_named" z4P .none f61)
  (a62 : DfT K "_law_doubled" z3s .none f62)
  (a63 : DfT K "_law_sets" z5O .none f63)
  (a64 : DfT K "_law_value" z4V .none f64)
  (a65 : DfT K "_law_valued" z4g .none f65)
  (a66 : DfT K "_law_shuffled" z2Y .none f66)
  (a67 : DfT K "_law_numbers" z3t .none f67)
  (a68 : DfT K "_law_names" z4R .none f68)
  (a69 : DfT K "_law_last" z66 .none f69)
  (a70 : DfT K "_law_complete" z39 .none f70)
  (a71 : DfT K "law" slaw .none f71)
  (d54 : DfD K T54 #[Value.none])
  (d56 : DfD K T56 #[Value.none])
  (zlen : PySem.W.nsIn K mainGlobals "len" = some none) (zrange : PySem.W.nsIn K mainGlobals "range" = some none) (ztuple : PySem.W.nsIn K mainGlobals "tuple" = some none) (zlist : PySem.W.nsIn K mainGlobals "list" = some none) (zmax : PySem.W.nsIn K mainGlobals "max" = some none) (zmin : PySem.W.nsIn K mainGlobals "min" = some none) (zsorted : PySem.W.nsIn K mainGlobals "sorted" = some none) (zisinstance : PySem.W.nsIn K mainGlobals "isinstance" = some none) (zbool : PySem.W.nsIn K mainGlobals "bool" = some none) (zint : PySem.W.nsIn K mainGlobals "int" = some none) (zstr : PySem.W.nsIn K mainGlobals "str" = some none) (zset : PySem.W.nsIn K mainGlobals "set" = some none) (zreversed : PySem.W.nsIn K mainGlobals "reversed" = some none) (zdict : PySem.W.nsIn K mainGlobals "dict" = some none) (zzip : PySem.W.nsIn K mainGlobals "zip" = some none) (zall : PySem.W.nsIn K mainGlobals "all" = some none) (vMOST_NAMES : PySem.W.nsIn K mainGlobals "MOST_NAMES" = some (some (.int 12 tMOST_NAMES))) (vMOST_REACH : PySem.W.nsIn K mainGlobals "MOST_REACH" = some (some (.int 10 tMOST_REACH))) (vMOST_NUMBERS : PySem.W.nsIn K mainGlobals "MOST_NUMBERS" = some (some (.int 60 tMOST_NUMBERS))) (vMOST_VALUE : PySem.W.nsIn K mainGlobals "MOST_VALUE" = some (some (.int 1000000 tMOST_VALUE))) (vMOST_READERS : PySem.W.nsIn K mainGlobals "MOST_READERS" = some (some (.int 10 tMOST_READERS))) (vMOST_DEEDS : PySem.W.nsIn K mainGlobals "MOST_DEEDS" = some (some (.int 400 tMOST_DEEDS))) (vMOST_COURSES : PySem.W.nsIn K mainGlobals "MOST_COURSES" = some (some (.int 4096 tMOST_COURSES))) (vSURE : PySem.W.nsIn K mainGlobals "SURE" = some (some (.str "sure" tSURE))) (vSTALE : PySem.W.nsIn K mainGlobals "STALE" = some (some (.str "stale" tSTALE))) (vOPEN : PySem.W.nsIn K mainGlobals "OPEN" = some (some (.str "open" tOPEN))) (vWRITE : PySem.W.nsIn K mainGlobals "WRITE" = some (some (.str "write" tWRITE))) (vDELIVER : PySem.W.nsIn K mainGlobals "DELIVER" = some (some (.str "deliver" tDELIVER))) :
  ∃ fd : FuncData, (∀ (s : Shared) (v : Value), BindsTo s fd ⟨[v], []⟩ [("_law_script", v)]) /\ ∀ base : Heap, K.In base -> base.Ns mainGlobals mg -> FnOk l.prog w K mg base CX0 14 fa fd ["_law_script"] (y3O K) := by
 have M : Bl mg := ⟨PySem.W.mg_none_of X G zlen, PySem.W.mg_none_of X G zrange, PySem.W.mg_none_of X G ztuple, PySem.W.mg_none_of X G zlist, PySem.W.mg_none_of X G zmax, PySem.W.mg_none_of X G zmin, PySem.W.mg_none_of X G zsorted, PySem.W.mg_none_of X G zisinstance, PySem.W.mg_none_of X G zbool, PySem.W.mg_none_of X G zint, PySem.W.mg_none_of X G zstr, PySem.W.mg_none_of X G zset, PySem.W.mg_none_of X G zreversed, PySem.W.mg_none_of X G zdict, PySem.W.mg_none_of X G zzip, PySem.W.mg_none_of X G zall, ⟨_, PySem.W.mg_of X G vMOST_NAMES⟩, ⟨_, PySem.W.mg_of X G vMOST_REACH⟩, ⟨_, PySem.W.mg_of X G vMOST_NUMBERS⟩, ⟨_, PySem.W.mg_of X G vMOST_VALUE⟩, ⟨_, PySem.W.mg_of X G vMOST_READERS⟩, ⟨_, PySem.W.mg_of X G vMOST_DEEDS⟩, ⟨_, PySem.W.mg_of X G vMOST_COURSES⟩, ⟨_, PySem.W.mg_of X G vSURE⟩, ⟨_, PySem.W.mg_of X G vSTALE⟩, ⟨_, PySem.W.mg_of X G vOPEN⟩, ⟨_, PySem.W.mg_of X G vWRITE⟩, ⟨_, PySem.W.mg_of X G vDELIVER⟩⟩
 have TOffice : TxOffice K mg COffice := ⟨cOffice.cls, cOffice.nm X G, nOffice_names, nOffice_reach, nOffice_written⟩
 have TShelf : TxShelf K mg CShelf := ⟨cShelf.cls, cShelf.nm X G, nShelf_names, nShelf_reach, nShelf_issues⟩
 have TBook : TxBook K mg CBook := ⟨cBook.cls, cBook.nm X G, nBook_office, nBook_readers, nBook_done⟩
 obtain ⟨_, Flacking_numbers⟩ := z0y X G a0
 obtain ⟨_, Freached_by⟩ := z0y X G a1
 obtain ⟨_, Fteller_of⟩ := z0y X G a2
 obtain ⟨_, Flacking_with_tellers⟩ := z0y X G a3
 obtain ⟨_, Fdark_numbers⟩ := z0y X G a4
 obtain ⟨_, Fdark_numbers_behind⟩ := z0y X G a5
 obtain ⟨_, Frefuse_bad_names⟩ := z0y X G a6
 obtain ⟨_, Frefuse_bad_reach⟩ := z0y X G a7
 obtain ⟨_, Fbulletin_names⟩ := z0y X G a8
 obtain ⟨_, Frefuse_unknown_name⟩ := z0y X G a9
 obtain ⟨_, Fheld_for⟩ := z0y X G a10
 obtain ⟨_, Fnames_told_of⟩ := z0y X G a11
 obtain ⟨_, Fgaps_of⟩ := z0y X G a12
 obtain ⟨_, Fset_again⟩ := z0y X G a13
 obtain ⟨_, Fstate_of⟩ := z0y X G a14
 obtain ⟨_, Fstate_and_held⟩ := z0y X G a15
 obtain ⟨_, Fknowledge⟩ := z0y X G a16
 obtain ⟨_, Ftail_for⟩ := z0y X G a17
 obtain ⟨_, Frefuse_bad_value⟩ := z0y X G a18
 obtain ⟨_, Frefuse_bad_rows⟩ := z0y X G a19
 obtain ⟨_, Frows_in_order⟩ := z0y X G a20
 obtain ⟨_, Fnames_of_rows⟩ := z0y X G a21
 obtain ⟨_, FOffice___init__⟩ := z9O cOffice a22
 obtain ⟨_, FOffice_refuse_writing⟩ := z1u a23
 obtain ⟨_, FOffice_write⟩ := z1u a24
 obtain ⟨_, FOffice_latest⟩ := z1u a25
 obtain ⟨_, FOffice_issue⟩ := z1u a26
 obtain ⟨_, Fknown_sets⟩ := z0y X G a27
 obtain ⟨_, Fis_choice⟩ := z0y X G a28
 obtain ⟨_, Fmay_stand⟩ := z0y X G a29
 obtain ⟨_, Ffits⟩ := z0y X G a30
 obtain ⟨_, Ftwo_to_the⟩ := z0y X G a31
 obtain ⟨_, Fcourse_count⟩ := z0y X G a32
 obtain ⟨_, Fagain_count⟩ := z0y X G a33
 obtain ⟨_, Fevery_choice⟩ := z0y X G a34
 obtain ⟨_, Fone_number_further⟩ := z0y X G a35
 obtain ⟨_, Fevery_course⟩ := z0y X G a36
 obtain ⟨_, Ftwo_courses⟩ := z0y X G a37
 obtain ⟨_, FShelf___init__⟩ := z9O cShelf a38
 obtain ⟨_, FShelf_put⟩ := z1u a39
 obtain ⟨_, FShelf_had⟩ := z1u a40
 obtain ⟨_, FShelf_latest⟩ := z1u a41
 obtain ⟨_, FShelf_rows_of⟩ := z1u a42
 obtain ⟨_, FShelf_tail_of⟩ := z1u a43
 obtain ⟨_, Frefuse_bad_readers⟩ := z0y X G a44
 obtain ⟨_, FBook___init__⟩ := z9O cBook a45
 obtain ⟨_, FBook_refuse_unknown_reader⟩ := z1u a46
 obtain ⟨_, FBook_refuse_further_deed⟩ := z1u a47
 obtain ⟨_, FBook_write⟩ := z1u a48
 obtain ⟨_, FBook_deliver⟩ := z1u a49
 obtain ⟨_, FBook_latest⟩ := z1u a50
 obtain ⟨_, FBook_issue⟩ := z1u a51
 obtain ⟨_, FBook_deeds⟩ := z1u a52
 obtain ⟨_, FBook_deed⟩ := z1u a53
 obtain ⟨_, FBook_shelf⟩ := y3M a54 d54
 have BBook_shelf := FBook_shelf.1.binds (ps := ["self", "reader", "deed"]) (ds := []) fun _ _ _ _ _ _ us hl => len3 (p := fun us => ∃ k, bindArgs _ ⟨us, []⟩ = seqItems? _ >>= k /\ k (some _) = pure (List.zip _ (us ++ []))) hl fun _ _ _ => ⟨_, rfl, rfl⟩
 have BBook_shelfD := FBook_shelf.1.binds (ps := ["self", "reader", "deed"]) (ds := [Value.none]) fun _ _ _ _ _ _ us hl => len2 (p := fun us => ∃ k, bindArgs _ ⟨us, []⟩ = seqItems? _ >>= k /\ k (some _) = pure (List.zip _ (us ++ [Value.none]))) (Nat.succ.inj (hl)) fun _ _ => ⟨_, rfl, rfl⟩
 obtain ⟨_, Ffewest_numbers⟩ := z0y X G a55
 obtain ⟨_, Fsend_for⟩ := y6c X G a56 d56
 have Bsend_for := Fsend_for.1.binds (ps := ["shelf", "name"]) (ds := []) fun _ _ _ _ _ _ us hl => len2 (p := fun us => ∃ k, bindArgs _ ⟨us, []⟩ = seqItems? _ >>= k /\ k (some _) = pure (List.zip _ (us ++ []))) hl fun _ _ => ⟨_, rfl, rfl⟩
 have Bsend_forD := Fsend_for.1.binds (ps := ["shelf", "name"]) (ds := [Value.none]) fun _ _ _ _ _ _ us hl => len1 (p := fun us => ∃ k, bindArgs _ ⟨us, []⟩ = seqItems? _ >>= k /\ k (some _) = pure (List.zip _ (us ++ [Value.none]))) (Nat.succ.inj (hl)) fun _ => ⟨_, rfl, rfl⟩
 obtain ⟨_, F_law_at⟩ := z0y X G a57
 obtain ⟨_, F_law_pick⟩ := z0y X G a58
 obtain ⟨_, F_law_row⟩ := z0y X G a59
 obtain ⟨_, F_law_same⟩ := z0y X G a60
 obtain ⟨_, F_law_named⟩ := z0y X G a61
 obtain ⟨_, F_law_doubled⟩ := z0y X G a62
 obtain ⟨_, F_law_sets⟩ := z0y X G a63
 obtain ⟨_, F_law_value⟩ := z0y X G a64
 obtain ⟨_, F_law_valued⟩ := z0y X G a65
 obtain ⟨_, F_law_shuffled⟩ := z0y X G a66
 obtain ⟨_, F_law_numbers⟩ := z0y X G a67
 obtain ⟨_, F_law_names⟩ := z0y X G a68
 obtain ⟨_, F_law_last⟩ := z0y X G a69
 obtain ⟨_, F_law_complete⟩ := z0y X G a70
 obtain ⟨_, Flaw⟩ := z0y X G a71
 have e := hfa.symm.trans Flaw.2
 cases e
 refine ⟨_, y3w Flaw.1, fun base _ _ => ?_⟩
 have C_same := y11 (P := l.prog) (w := w) (base := base) M F_law_same.1 (b2 F_law_same.1) F_law_same.2
 have cal := @calF l.prog w K mg base
 have mcl := @mclF l.prog w K mg base
 have mkr := @mkrF l.prog w K mg base
 have G_law_at := cal F_law_at (ok_at M F_law_at.1) (b2 F_law_at.1)
 have G_law_pick := cal F_law_pick (y5m F_law_pick.1) (b2 F_law_pick.1)
 have G_law_row := cal F_law_row (y6P M F_law_row.1) (b3 F_law_row.1)
 have G_law_named := cal F_law_named (y3Z M F_law_named.1) (b2 F_law_named.1)
 have G_law_doubled := cal F_law_doubled (y1v M F_law_doubled.1) (b1 F_law_doubled.1)
 have G_law_value := cal F_law_value (y44 F_law_value.1) (b2 F_law_value.1)
 have Grefuse_bad_names := cal Frefuse_bad_names (z9Q M Frefuse_bad_names.1) (b1 Frefuse_bad_names.1)
 have Grefuse_bad_reach := cal Frefuse_bad_reach (y0g M Frefuse_bad_reach.1) (b1 Frefuse_bad_reach.1)
 have GShelf_put := mcl TShelf.cl FShelf_put (y6j (CShelf := CShelf) M TShelf FShelf_put.1) (b2 FShelf_put.1)
 have GShelf_had := mcl TShelf.cl FShelf_had (y3Q (CShelf := CShelf) M TShelf FShelf_had.1) (b1 FShelf_had.1)
 have Greached_by := cal Freached_by (y1l M Freached_by.1) (b2 Freached_by.1)
 have Grefuse_unknown_name := cal Frefuse_unknown_name (y6G M Frefuse_unknown_name.1) (b2 Frefuse_unknown_name.1)
 have Grefuse_bad_value := cal Frefuse_bad_value (y1M M Frefuse_bad_value.1) (b1 Frefuse_bad_value.1)
 have Grows_in_order := cal Frows_in_order (y1E M Frows_in_order.1) (b2 Frows_in_order.1)
 have Gnames_of_rows := cal Fnames_of_rows (y4l M Fnames_of_rows.1) (b1 Fnames_of_rows.1)
 have GOffice_latest := mcl TOffice.cl FOffice_latest (z9U (COffice := COffice) M TOffice FOffice_latest.1) (b1 FOffice_latest.1)
 have GOffice_issue := mcl TOffice.cl FOffice_issue (y1n (COffice := COffice) M TOffice FOffice_issue.1) (b2 FOffice_issue.1)
 have Grefuse_bad_readers := cal Frefuse_bad_readers (z8z M Frefuse_bad_readers.1) (b1 Frefuse_bad_readers.1)
 have GBook_refuse_unknown_reader := mcl TBook.cl FBook_refuse_unknown_reader (z9e (CBook := CBook) (COffice := COffice) M TBook FBook_refuse_unknown_reader.1) (b2 FBook_refuse_unknown_reader.1)
 have GBook_refuse_further_deed := mcl TBook.cl FBook_refuse_further_deed (y12 (CBook := CBook) (COffice := COffice) M TBook FBook_refuse_further_deed.1) (b1 FBook_refuse_further_deed.1)
 have GBook_deeds := mcl TBook.cl FBook_deeds (y1j (CBook := CBook) (COffice := COffice) M TBook FBook_deeds.1) (b1 FBook_deeds.1)
 have Glacking_numbers := cal Flacking_numbers (y5i M Flacking_numbers.1) (b1 Flacking_numbers.1)
 have Gteller_of := cal Fteller_of (y23 M Fteller_of.1) (b3 Fteller_of.1)
 have GShelf_tail_of := mcl TShelf.cl FShelf_tail_of (y2m (CShelf := CShelf) M TShelf FShelf_tail_of.1) (b2 FShelf_tail_of.1)
 have GShelf_rows_of := mcl TShelf.cl FShelf_rows_of (y3H (CShelf := CShelf) M TShelf FShelf_rows_of.1) (b2 FShelf_rows_of.1)
 have G_law_last := cal F_law_last (y4s M F_law_last.1) (b3 F_law_last.1)
 have GBook_deed := mcl TBook.cl FBook_deed (y2g (CBook := CBook) (COffice := COffice) M TBook FBook_deed.1) (b2 FBook_deed.1)
 have Gtwo_to_the := cal Ftwo_to_the (y6U M Ftwo_to_the.1) (b1 Ftwo_to_the.1)
 have Gis_choice := cal Fis_choice (y2c M Fis_choice.1) (b2 Fis_choice.1)
 have Gevery_choice := cal Fevery_choice (z7N M Fevery_choice.1) (b1 Fevery_choice.1)
 have Gone_number_further := cal Fone_number_further (y16 M Fone_number_further.1) (b2 Fone_number_further.1)
 have G_law_shuffled := cal F_law_shuffled (y5x M F_law_shuffled.1 G_law_row.up) (b2 F_law_shuffled.1)
 have G_law_sets := cal F_law_sets (y67 M F_law_sets.1 G_law_row.up G_law_doubled.up) (b3 F_law_sets.1)
 have G_law_valued := cal F_law_valued (y2R M F_law_valued.1 G_law_row.up G_law_value.up) (b2 F_law_valued.1)
 have G_law_names := cal F_law_names (y4I F_law_names.1 G_law_at.up G_law_pick.up G_law_named.up) (b1 F_law_names.1)
 have Gbulletin_names := cal Fbulletin_names (z9W M Fbulletin_names.1 Grefuse_bad_names.up Grefuse_bad_reach.up) (b2 Fbulletin_names.1)
 have GShelf_latest := mcl TShelf.cl FShelf_latest (y29 (CShelf := CShelf) M TShelf FShelf_latest.1 GShelf_had.up) (b1 FShelf_latest.1)
 have Gtail_for := cal Ftail_for (y5y M Ftail_for.1 Greached_by.up) (b2 Ftail_for.1)
 have Grefuse_bad_rows := cal Frefuse_bad_rows (y1w M Frefuse_bad_rows.1 Grefuse_unknown_name.up Grefuse_bad_value.up) (b2 Frefuse_bad_rows.1)
 have GBook_deliver := mcl TBook.cl FBook_deliver (z9K (CBook := CBook) (COffice := COffice) M TBook FBook_deliver.1 GOffice_issue.up GBook_refuse_unknown_reader.up GBook_refuse_further_deed.up) (b3 FBook_deliver.1)
 have Glacking_with_tellers := cal Flacking_with_tellers (y6B M Flacking_with_tellers.1 Glacking_numbers.up Gteller_of.up) (b2 Flacking_with_tellers.1)
 have Gnames_told_of := cal Fnames_told_of (y5v (CShelf := CShelf) M TShelf Fnames_told_of.1 GShelf_tail_of.up) (b3 Fnames_told_of.1)
 have Gheld_for := cal Fheld_for (y1f (CShelf := CShelf) M TShelf Fheld_for.1 Grefuse_unknown_name.up GShelf_had.up GShelf_rows_of.up) (b2 Fheld_for.1)
 have GBook_latest := mcl TBook.cl FBook_latest (z9R (CBook := CBook) (COffice := COffice) M TBook FBook_latest.1 GOffice_latest.up) (b1 FBook_latest.1)
 have GBook_issue := mcl TBook.cl FBook_issue (y1H (CBook := CBook) (COffice := COffice) M TBook FBook_issue.1 GOffice_issue.up) (b2 FBook_issue.1)
 have Gmay_stand := cal Fmay_stand (y4v M Fmay_stand.1 Gis_choice.up) (b3 Fmay_stand.1)
 have G_law_numbers := cal F_law_numbers (y19 F_law_numbers.1 G_law_at.up G_law_pick.up G_law_sets.up G_law_valued.up) (b2 F_law_numbers.1)
 have GShelf := mkr TShelf.mgC FShelf___init__ (y2A (CShelf := CShelf) M TShelf FShelf___init__.1 Gbulletin_names.up) (b3 FShelf___init__.1)
 have GOffice := mkr TOffice.mgC FOffice___init__ (y2S (COffice := COffice) M TOffice FOffice___init__.1 Gbulletin_names.up) (b3 FOffice___init__.1)
 have GOffice_refuse_writing := mcl TOffice.cl FOffice_refuse_writing (y1g (COffice := COffice) M TOffice FOffice_refuse_writing.1 Grefuse_bad_rows.up) (b2 FOffice_refuse_writing.1)
 have Gdark_numbers := cal Fdark_numbers (y6h M Fdark_numbers.1 Glacking_with_tellers.up) (b2 Fdark_numbers.1)
 have Ggaps_of := cal Fgaps_of (y3r (CShelf := CShelf) M TShelf Fgaps_of.1 GShelf_had.up Glacking_with_tellers.up Gnames_told_of.up) (b1 Fgaps_of.1)
 have GOffice_write := mcl TOffice.cl FOffice_write (y1z (COffice := COffice) M TOffice FOffice_write.1 GOffice_refuse_writing.up Gnames_of_rows.up Grows_in_order.up Gtail_for.up) (b2 FOffice_write.1)
 have GBook := mkr TBook.mgC FBook___init__ (y1S (CBook := CBook) (COffice := COffice) M TBook FBook___init__.1 GOffice.up Grefuse_bad_readers.up) (b4 FBook___init__.1)
 have GBook_shelf : MCal l.prog w K mg base 6 CBook "shelf" z2y (z5m (BkD K CBook COffice) (ShD K CShelf)) := .mk' TBook.cl (z8d (CBook := CBook) (COffice := COffice) (CShelf := CShelf) M TBook TOffice FBook_shelf.1 GOffice_issue.up GBook_refuse_unknown_reader.up GShelf.up GShelf_put.up) BBook_shelf FBook_shelf.2
 have GBook_shelfD : MCalD l.prog w K mg base 6 CBook "shelf" z2y (z5m (BkD K CBook COffice) (ShD K CShelf)) [V.non] := .mk' (.cons rfl .nil) TBook.cl (z8d (CBook := CBook) (COffice := COffice) (CShelf := CShelf) M TBook TOffice FBook_shelf.1 GOffice_issue.up GBook_refuse_unknown_reader.up GShelf.up GShelf_put.up) BBook_shelfD FBook_shelf.2
 have Gdark_numbers_behind := cal Fdark_numbers_behind (y2y M Fdark_numbers_behind.1 Gdark_numbers.up) (b3 Fdark_numbers_behind.1)
 have Gset_again := cal Fset_again (y08 (CShelf := CShelf) M TShelf Fset_again.1 Gheld_for.up Ggaps_of.up) (b2 Fset_again.1)
 have Gcourse_count := cal Fcourse_count (y4x (CShelf := CShelf) M TShelf Fcourse_count.1 GShelf_had.up Gdark_numbers.up Gtwo_to_the.up) (b1 Fcourse_count.1)
 have Gknown_sets := cal Fknown_sets (y4q (CShelf := CShelf) M Fknown_sets.1 GShelf_had.up GShelf_rows_of.up Gnames_of_rows.up Ggaps_of.up) (b1 Fknown_sets.1)
 have GBook_write := mcl TBook.cl FBook_write (y1G (CBook := CBook) (COffice := COffice) M TBook FBook_write.1 GOffice_refuse_writing.up GOffice_write.up GBook_refuse_further_deed.up) (b2 FBook_write.1)
 have Gstate_of := cal Fstate_of (y1b (CShelf := CShelf) M TShelf Fstate_of.1 Gheld_for.up Gset_again.up GShelf_had.up Gdark_numbers_behind.up) (b2 Fstate_of.1)
 have Gfewest_numbers := cal Ffewest_numbers (y3q M Ffewest_numbers.1 Gdark_numbers_behind.up) (b3 Ffewest_numbers.1)
 have Gfits := cal Ffits (y5E (CShelf := CShelf) M TShelf Ffits.1 Gknown_sets.up Gmay_stand.up) (b2 Ffits.1)
 have Gevery_course := cal Fevery_course (z7O (CShelf := CShelf) M TShelf Fevery_course.1 Gcourse_count.up Gknown_sets.up Gevery_choice.up Gone_number_further.up) (b1 Fevery_course.1)
 have Gstate_and_held := cal Fstate_and_held (z93 (CShelf := CShelf) M Fstate_and_held.1 Gheld_for.up Gstate_of.up) (b2 Fstate_and_held.1)
 have Gsend_for : Cal l.prog w K mg base 6 "send_for" z3l (z4d (ShD K CShelf)) := .mk' (z8g (CShelf := CShelf) M TShelf Fsend_for.1 Gheld_for.up Gstate_of.up GShelf_had.up Gfewest_numbers.up) Bsend_for Fsend_for.1.kp Fsend_for.2
 have Gsend_forD : CalD l.prog w K mg base 6 "send_for" z3l (z4d (ShD K CShelf)) [V.non] := .mk' (.cons rfl .nil) (z8g (CShelf := CShelf) M TShelf Fsend_for.1 Gheld_for.up Gstate_of.up GShelf_had.up Gfewest_numbers.up) Bsend_forD Fsend_for.1.kp Fsend_for.2
 have Gagain_count := cal Fagain_count (y2f (CShelf := CShelf) M TShelf Fagain_count.1 Gheld_for.up Gstate_of.up GShelf_had.up Gcourse_count.up Gtwo_to_the.up Gdark_numbers_behind.up) (b2 Fagain_count.1)
 have Gtwo_courses := cal Ftwo_courses (z7Q (CShelf := CShelf) M TShelf Ftwo_courses.1 Gstate_of.up Gknown_sets.up GShelf_had.up Gdark_numbers.up) (b2 Ftwo_courses.1)
 have Gknowledge := cal Fknowledge (z9s (CShelf := CShelf) M TShelf Fknowledge.1 Gstate_and_held.up) (b1 Fknowledge.1)
 have G_law_complete := cal F_law_complete (z9P (CShelf := CShelf) (Sh := (ShD K CShelf)) M F_law_complete.1 shOk (C_same 5) G_law_last.up Gsend_for.up Gsend_forD.up Gagain_count.up Gtwo_courses.up Gset_again.up Gstate_of.up Gknowledge.up Ggaps_of.up Gevery_course.up Gcourse_count.up Gfits.up) (b4 F_law_complete.1)
 exact y6W M Flaw.1 bkOk shOk G_law_at.up G_law_pick.up G_law_names.up G_law_numbers.up G_law_shuffled.up G_law_complete.up GBook.up GBook_write.up GBook_deliver.up GBook_shelfD.up
theorem walk {l : PySem.W.OpenLaw} {q : Program} {loose : List Str} {XP : (Str -> Option Value) -> Heap -> Prop} {YP : World -> Heap -> Prop} {d : DefRec} {K : Params -> PySem.W.Frag} (hn : l.most = some 63) (hdf : d.params.defaults = [])
  (hY : ∀ (w : World) (h : Heap), YP w h -> (K w.params).In h)
  (F : ∀ (w : World) (mg : Str -> Option Value) (fa : Addr) (h : Heap), (K w.params).In h -> h.Ns mainGlobals mg -> mg d.name = some (.ref fa) ->
   ∃ fd : FuncData, (∀ (s : Shared) (u : Value), BindsTo s fd ⟨[u], []⟩ [("_law_script", u)]) /\ ∀ base : Heap, (K w.params).In base -> base.Ns mainGlobals mg -> FnOk l.prog w (K w.params) mg base CX0 14 fa fd ["_law_script"] (y3O (K w.params))) :
  PySem.W.WalkO q loose XP YP l.row.toRowW d [] (fun f vs => PySem.call f vs) :=
 L2.y5Z (n := 63) (k := 14) (x := "_law_script") (CX := fun _ => CX0) (sp := fun w => y3O (K w.params)) hn (by decide) hdf ⟨rfl, by decide, by decide⟩ hY F (fun _ _ a ns hl _ hS => ⟨a, ns, rfl, hS, hl, fun _ => rfl⟩) fun _ _ _ _ _ z => z
theorem walkX {q : Program} {loose : List Str} {XP : (Str -> Option Value) -> Heap -> Prop} {r : PySem.W.RowW} {d : DefRec} {kwd : List (Str × Expr)} {run : Value -> List Value -> Sem Value} {K : Params -> PySem.W.Frag} {ks : List Addr} {n t : Nat} (e : ∀ P, ks = (K P).map (·.1))
  (W : PySem.W.WalkO q loose XP (fun w h => (K w.params).In h) r d kwd run) : PySem.W.WalkX q loose XP (PySem.W.X.obsZ ks) (PySem.W.X.valZ K n t) r d kwd run :=
 fun w s₀ s₁ mg mb G y a o pm cd doc dV kV h1 h2 h3 h4 h5 h6 args vals as L g1 g2 g3 g4 g5 => W w s₀ s₁ mg mb G (PySem.W.InK.keeps w s₀.heap s₁.heap (PySem.W.X.z_facts e y).2.1 L.keeps) a o pm cd doc dV kV h1 h2 h3 h4 h5 h6 args vals as g1 g2 g3 g4 g5
end My
namespace PySem.W.Fast
def tw1000343906594379784:=()
def tw10028653919079265519:=()
def tw10032345159316558171:=()
def tw10049157040834788285:=()
def tw10085769252217255530:=()
def tw10089626942505420454:=()
def tw10089933572147792887:=()
def tw10099458045044970267:=()
def tw10120462054261792448:=()
def tw10139440201416196610:=()
def tw10244029438879900160:=()
def tw1030846895959154390:=()
def tw1031382942827330100:=()
def tw10343404323714299901:=()
def tw10350975666019585624:=()
def tw10388840839537561619:=()
def tw10400260258106075429:=()
def tw10407115373825315571:=()
def tw10441752188499792473:=()
def tw10494043704322190396:=()
def tw10494953054514840626:=()
def tw10498738032007842568:=()
def tw10506425687287578252:=()
def tw10514722983031590902:=()
def tw10546334740140429033:=()
def tw10579209428693898877:=()
def tw10702202339534030437:=()
def tw10746119273104977612:=()
def tw10773739661221441177:=()
def tw10780435121651090631:=()
def tw10801784042907950675:=()
def tw108060840416046235:=()
def tw10842314032288974057:=()
def tw10890580368625183434:=()
def tw10951574864986849105:=()
def tw10968810346507607120:=()
def tw11038624091121758365:=()
def tw1105065408554611618:=()
def tw11097640494061276424:=()
def tw1110687971278704559:=()
def tw11135268773093545472:=()
def tw11144552350528430107:=()
def tw11202706678137677146:=()
def tw11203399691974358606:=()
def tw11384924956469829091:=()
def tw11402891178115743676:=()
def tw11407015192596395353:=()
def tw11505803716394529377:=()
def tw11507465106018574270:=()
def tw1159412284116260136:=()
def tw11602469589424776151:=()
def tw11681139377473627359:=()
def tw11687672425869861682:=()
def tw11688500123463761012:=()
def tw11708768850205492676:=()
def tw1175012251204111225:=()
def tw11879267605604372293:=()
def tw11891092456997310285:=()
def tw11921976893327905622:=()
def tw12059647765686505992:=()
def tw12059884267382414388:=()
def tw12069234283009094477:=()
def tw12087785633735016082:=()
def tw12132263775145074217:=()
def tw12247670052812084178:=()
def tw12308079504859867099:=()
def tw12318916834299387242:=()
def tw1232715481946848515:=()
def tw12335452536147581760:=()
def tw1234561276863356382:=()
def tw12352788303717126181:=()
def tw1244111389847406242:=()
def tw12477819860478172562:=()
def tw1253501056780233315:=()
def tw12604366751564801386:=()
def tw12639935133389298613:=()
def tw12696730056038045748:=()
def tw12754550125718486669:=()
def tw12875956950425307764:=()
def tw12897107482184289343:=()
def tw12920636170003209225:=()
def tw12988308486905700882:=()
def tw1301050565596673163:=()
def tw13064804132442832683:=()
def tw13117465773698608377:=()
def tw13245220043016091436:=()
def tw13339273569007052921:=()
def tw13360694693361794644:=()
def tw13390799616356860779:=()
def tw13396561618914254281:=()
def tw13408213392638045253:=()
def tw1343326456125153959:=()
def tw13438886927986675608:=()
def tw13480380818448885687:=()
def tw13675136979460748762:=()
def tw13698144872064490830:=()
def tw13843658698957394445:=()
def tw13862619166238050571:=()
def tw13942864586667436752:=()
def tw13948952963439512865:=()
def tw13965265659654716099:=()
def tw13976592523307963334:=()
def tw13980506639946661391:=()
def tw14007418952740841108:=()
def tw14009254556648750266:=()
def tw14030947942453489366:=()
def tw14033055735361606683:=()
def tw1406357480034512531:=()
def tw14200481754012752219:=()
def tw14215318587828992241:=()
def tw14244965577244822797:=()
def tw14352311826055185864:=()
def tw14353134410002837102:=()
def tw14374787297508125977:=()
def tw14411229203283591028:=()
def tw14429510049832523827:=()
def tw14479737640014627999:=()
def tw14526700394951116077:=()
def tw14589332430087859053:=()
def tw14624046454995459906:=()
def tw14671036206099660702:=()
def tw1467809335336453902:=()
def tw14733182914345279769:=()
def tw14749861366525639595:=()
def tw14769123739597024497:=()
def tw14833010294906446352:=()
def tw14850059186468400425:=()
def tw14856626714195567555:=()
def tw14893122028400810214:=()
def tw14905365384448379881:=()
def tw15017583008879824289:=()
def tw1505421133438694431:=()
def tw15060980722911861360:=()
def tw15111065956983890296:=()
def tw15230341888906229957:=()
def tw15246722393453519326:=()
def tw15258876118504334197:=()
def tw15291293387706086794:=()
def tw15322148981774609935:=()
def tw15362770712098261104:=()
def tw15375784635496673754:=()
def tw15393013724999475843:=()
def tw15396251885692099450:=()
def tw15434213822110649469:=()
def tw15460710350798694083:=()
def tw15547354492212319362:=()
def tw15583181956681552234:=()
def tw15638147738081566643:=()
def tw15665460238676060167:=()
def tw15733926526938563545:=()
def tw15751716833117110149:=()
def tw15778458722647090615:=()
def tw15785369986957032002:=()
def tw15823546691929640718:=()
def tw15873381771809891313:=()
def tw15881858041568614967:=()
def tw1590679879271564322:=()
def tw15983377736942932637:=()
def tw16066609484393938474:=()
def tw16072802651243308614:=()
def tw16074769038101868210:=()
def tw16083888668874427167:=()
def tw16084230928036868173:=()
def tw16087582595897212164:=()
def tw16118075232719129469:=()
def tw16124947921910681444:=()
def tw16181998694652753686:=()
def tw16282604966643963220:=()
def tw16301510582212863563:=()
def tw16327626504227241674:=()
def tw16364334688001053346:=()
def tw16429713525606049490:=()
def tw1646185256746349220:=()
def tw16474951144832101845:=()
def tw16480185874840177317:=()
def tw16510666284423134578:=()
def tw16536646072787842380:=()
def tw16561387943234615896:=()
def tw16563863910435665813:=()
def tw16580516113960480635:=()
def tw1659946473324376097:=()
def tw16606491670824363764:=()
def tw16626992925526722333:=()
def tw16664493037551771889:=()
def tw16707575069084230436:=()
def tw1674925038887851883:=()
def tw16779661709130250295:=()
def tw16805950909966948766:=()
def tw16834747493026470457:=()
def tw16870988285663773376:=()
def tw16876627547290164408:=()
def tw16947232861502057304:=()
def tw16994402403419524216:=()
def tw17008658586030231823:=()
def tw17046839187740770013:=()
def tw17120276006679067156:=()
def tw17219434675243250785:=()
def tw17250977189571604146:=()
def tw1726602183629680942:=()
def tw17286327663553295463:=()
def tw17297325406881581082:=()
def tw17299719979493641032:=()
def tw17368346134415687005:=()
def tw17373130809429635450:=()
def tw17421750515563364112:=()
def tw17423339862485255990:=()
def tw17449732787797418149:=()
def tw17534127086105011159:=()
def tw17554357842200472449:=()
def tw17617875112432238241:=()
def tw17640678930399509694:=()
def tw17701058817228690259:=()
def tw17716320859705997496:=()
def tw17726048667385919207:=()
def tw17753232560342745790:=()
def tw17760707432648724117:=()
def tw17802360029404858925:=()
def tw17823143078564462160:=()
def tw17868979789380970176:=()
def tw17896312604862919928:=()
def tw17942410857170804179:=()
def tw17989157600617607745:=()
def tw18006572446195106995:=()
def tw1803296809544409377:=()
def tw18039469865817665388:=()
def tw18069916017564085008:=()
def tw18080756811118047113:=()
def tw18263270111586965363:=()
def tw18285292817667857799:=()
def tw1830158730058649117:=()
def tw18348828019107061134:=()
def tw18393551509127654812:=()
def tw18420272747168584501:=()
def tw2012085438736062060:=()
def tw2025465450848006604:=()
def tw2052544706195278013:=()
def tw2066260472711205557:=()
def tw2083755689452354189:=()
def tw2167107598760084873:=()
def tw2230685077230921428:=()
def tw226802935806638221:=()
def tw2288470829213694731:=()
def tw2299261659428218803:=()
def tw2304532433347876279:=()
def tw2306229317188507948:=()
def tw2319227908565058436:=()
def tw2348116587592821151:=()
def tw2395841536016548627:=()
def tw2427473871307423083:=()
def tw2441164954595167296:=()
def tw2446755017832203792:=()
def tw2450134494874280009:=()
def tw2615549106310926920:=()
def tw2695309321722039166:=()
def tw2731372232924966610:=()
def tw2737999141113909530:=()
def tw2763950602685511233:=()
def tw2796445897195907697:=()
def tw2837402121445637697:=()
def tw2839838043569921329:=()
def tw2875149708134062118:=()
def tw2905213961113015567:=()
def tw2952290890765548047:=()
def tw302055164047694901:=()
def tw3074242672436258049:=()
def tw3101558734287802499:=()
def tw3234200347522405823:=()
def tw3236145672688237873:=()
def tw3259767535279088951:=()
def tw3361823643358711788:=()
def tw3379773405574847443:=()
def tw339179232946681415:=()
def tw344529379185897676:=()
def tw3452302613291331242:=()
def tw3456324044551720893:=()
def tw3492307241379002734:=()
def tw3509191569838890329:=()
def tw3636266627270555690:=()
def tw3637764793594007467:=()
def tw3658213562032543745:=()
def tw3681937682490042210:=()
def tw3705544570655867117:=()
def tw371789545675007159:=()
def tw3833182554530684120:=()
def tw3870501593459897868:=()
def tw3943270995436840648:=()
def tw3957020308519898811:=()
def tw3970013752044245635:=()
def tw4073988716092707501:=()
def tw4176718396763808072:=()
def tw4191245583255653876:=()
def tw4253096484711793585:=()
def tw4291341191761938809:=()
def tw4321314544386061648:=()
def tw4326239932547865670:=()
def tw4343321566231022559:=()
def tw4426465960966512820:=()
def tw4444205157527052361:=()
def tw4478111153701870984:=()
def tw448738890935167325:=()
def tw4547936683900731667:=()
def tw4557709870803502919:=()
def tw4568389075173102064:=()
def tw4575706355616071426:=()
def tw4614697757648463401:=()
def tw4626398727345092086:=()
def tw4646179220525389404:=()
def tw4658988490707710874:=()
def tw4664420270897285974:=()
def tw4676539500304450591:=()
def tw4736837388621426751:=()
def tw4785813447070694706:=()
def tw4801485055148972755:=()
def tw4824768801860015703:=()
def tw4878907371012850361:=()
def tw4896056998706076508:=()
def tw4903184468377076879:=()
def tw4924840013513249728:=()
def tw4934358477079800219:=()
def tw4938199347138105302:=()
def tw5060623868577558973:=()
def tw5113540446897792146:=()
def tw5155772975010631222:=()
def tw5157109470804694611:=()
def tw5163300326403079381:=()
def tw5168440401650227308:=()
def tw5194852689955760837:=()
def tw5230200193211411095:=()
def tw5242376278430425590:=()
def tw5259527400987912893:=()
def tw5274806252395146394:=()
def tw5322580751510705591:=()
def tw536324414918467551:=()
def tw5366077118278244554:=()
def tw541496916915532755:=()
def tw5419247257975560729:=()
def tw5483026014875502028:=()
def tw548919534216788675:=()
def tw5494734914842630869:=()
def tw5498270686482664414:=()
def tw5564693815361481633:=()
def tw5584555379065051097:=()
def tw5605419888873559353:=()
def tw5634305960892817956:=()
def tw5657422718812358415:=()
def tw5704091800810995367:=()
def tw570602000288267666:=()
def tw5715263624220762782:=()
def tw5722766094048527673:=()
def tw5799113703270002159:=()
def tw5803084398288423807:=()
def tw5813281333088873701:=()
def tw5875749421725637715:=()
def tw5884157205655131081:=()
def tw59245544980837766:=()
def tw5931571809324723050:=()
def tw5943016917725186907:=()
def tw5951287260018277512:=()
def tw5993798740715587363:=()
def tw6036303678098499245:=()
def tw6088634353246662362:=()
def tw6130666460772068999:=()
def tw6177365812830542330:=()
def tw6196237223258169246:=()
def tw620857899722393889:=()
def tw6264298487318079551:=()
def tw6282088656666660381:=()
def tw6361812514652687869:=()
def tw6369726736536195893:=()
def tw6490280033758716609:=()
def tw6545610296361388397:=()
def tw6604064843604685105:=()
def tw6613394560628494385:=()
def tw6624030795516686509:=()
def tw6629315051693761930:=()
def tw6654036545965105721:=()
def tw6753909920241623890:=()
def tw6893684315202421559:=()
def tw6914840642520799047:=()
def tw6964389762675041887:=()
def tw7006151674112910055:=()
def tw7023561101067000714:=()
def tw7049130295021556996:=()
def tw7087408428762707234:=()
def tw7119819706033050213:=()
def tw7121435916884116251:=()
def tw7187185172654715040:=()
def tw720919544271607599:=()
def tw7212057836336360491:=()
def tw7230926822118620509:=()
def tw7281105228636314671:=()
def tw7300796574220966186:=()
def tw7337552123112407264:=()
def tw7341769611661784468:=()
def tw7378268447072581040:=()
def tw7475376779078068298:=()
def tw7633975408255373503:=()
def tw7736988917552375819:=()
def tw7761681348676219182:=()
def tw7767690478119923546:=()
def tw7808188425634258372:=()
def tw7913047354289220598:=()
def tw7977850539778367673:=()
def tw8012046400919115237:=()
def tw8020577363926097935:=()
def tw803757103141847902:=()
def tw809996226373831979:=()
def tw8123046081716214525:=()
def tw8173283218079789020:=()
def tw8175605442748603222:=()
def tw8176334269428590087:=()
def tw8237352722463209625:=()
def tw824878884105722393:=()
def tw8312765535961599001:=()
def tw8424066488998145519:=()
def tw8459095163156624838:=()
def tw8465184975571605210:=()
def tw8496204189106085531:=()
def tw8530410948644684016:=()
def tw8564409642791420396:=()
def tw8586481299636444740:=()
def tw8593853714704723865:=()
def tw8645612815603856878:=()
def tw8653217931528021121:=()
def tw8727712138687928268:=()
def tw8841887016608866334:=()
def tw8865534976345927574:=()
def tw8929001502528788730:=()
def tw8946008669442981249:=()
def tw8947641379673003468:=()
def tw8948061148239045540:=()
def tw8966840763663362534:=()
def tw8974403031418932939:=()
def tw9104150344948893262:=()
def tw910546950494115080:=()
def tw9205500474594284276:=()
def tw9279148490847067056:=()
def tw9376435618578356214:=()
def tw9409552578009839027:=()
def tw942545258712893076:=()
def tw9466755699474968964:=()
def tw9471095591341991563:=()
def tw9549279251923193668:=()
def tw9566432081073987688:=()
def tw9645971857814609549:=()
def tw9722877562359294842:=()
def tw973494778700702054:=()
def tw9741827164507865929:=()
def tw9796484030937816239:=()
def tw9804738083109552686:=()
def tw9811421827893848087:=()
def tw9841942910622510755:=()
def tw9893890815851566962:=()
def tw9896671702634376864:=()
def tw989766607217038736:=()
def tw9919035569834139831:=()
def tw991904520523366265:=()
def tw9983462460931332866:=()
def tw999456924545756655:=()
end PySem.W.Fast
open PySem PySem.W PyProof.Rows
set_option maxRecDepth 100000 in
set_option maxHeartbeats 0 in
theorem PySem.Challenge.cw_backissues_k41_whole_full_reader_holds : PySem.Challenge.rw_backissues_k41_whole_full_reader.Holds := by
 w_on; o_law; z_head; (case hw => w_witness2)
 k_fill
 refine My.walkX (fun _ => by kernel_rfl) ?_
 refine My.walk (l := PySem.Challenge.rw_backissues_k41_whole_full_reader) rfl rfl (fun w h Y => Y) ?F
 case F =>
  intro w mg fa h KX G hmg
  refine' My.y6M KX G hmg ?cOffice ?cShelf ?cBook ?nOffice_names ?nOffice_reach ?nOffice_written ?nShelf_names ?nShelf_reach ?nShelf_issues ?nBook_office ?nBook_readers ?nBook_done ?a0 ?a1 ?a2 ?a3 ?a4 ?a5 ?a6 ?a7 ?a8 ?a9 ?a10 ?a11 ?a12 ?a13 ?a14 ?a15 ?a16 ?a17 ?a18 ?a19 ?a20 ?a21 ?a22 ?a23 ?a24 ?a25 ?a26 ?a27 ?a28 ?a29 ?a30 ?a31 ?a32 ?a33 ?a34 ?a35 ?a36 ?a37 ?a38 ?a39 ?a40 ?a41 ?a42 ?a43 ?a44 ?a45 ?a46 ?a47 ?a48 ?a49 ?a50 ?a51 ?a52 ?a53 ?a54 ?a55 ?a56 ?a57 ?a58 ?a59 ?a60 ?a61 ?a62 ?a63 ?a64 ?a65 ?a66 ?a67 ?a68 ?a69 ?a70 ?a71 ?d54 ?d56 ?zlen ?zrange ?ztuple ?zlist ?zmax ?zmin ?zsorted ?zisinstance ?zbool ?zint ?zstr ?zset ?zreversed ?zdict ?zzip ?zall ?vMOST_NAMES ?vMOST_REACH ?vMOST_NUMBERS ?vMOST_VALUE ?vMOST_READERS ?vMOST_DEEDS ?vMOST_COURSES ?vSURE ?vSTALE ?vOPEN ?vWRITE ?vDELIVER
  case' cOffice | cShelf | cBook => exact ⟨by k_is, by k_is, by k_is, by k_is, by k_is, by k_is, by k_is⟩
  case' nOffice_names | nOffice_reach | nOffice_written | nShelf_names | nShelf_reach | nShelf_issues | nBook_office | nBook_readers | nBook_done => k_is
  case' a0 | a1 | a2 | a3 | a4 | a5 | a6 | a7 | a8 | a9 | a10 | a11 | a12 | a13 | a14 | a15 | a16 | a17 | a18 | a19 | a20 | a21 | a27 | a28 | a29 | a30 | a31 | a32 | a33 | a34 | a35 | a36 | a37 | a44 | a55 | a56 | a57 | a58 | a59 | a60 | a61 | a62 | a63 | a64 | a65 | a66 | a67 | a68 | a69 | a70 | a71 => exact ⟨by k_is, _, _, _, _, _, _, _, _, _, by k_is, by k_is, by k_is⟩
  case' a22 | a23 | a24 | a25 | a26 | a38 | a39 | a40 | a41 | a42 | a43 | a45 | a46 | a47 | a48 | a49 | a50 | a51 | a52 | a53 | a54 => exact ⟨by k_is, by k_is, _, _, _, _, _, _, _, _, _, by k_is, by k_is, by k_is⟩
  case' d54 | d56 => exact ⟨_, _, _, _, by k_is⟩
  case' zlen | zrange | ztuple | zlist | zmax | zmin | zsorted | zisinstance | zbool | zint | zstr | zset | zreversed | zdict | zzip | zall | vMOST_NAMES | vMOST_REACH | vMOST_NUMBERS | vMOST_VALUE | vMOST_READERS | vMOST_DEEDS | vMOST_COURSES | vSURE | vSTALE | vOPEN | vWRITE | vDELIVER => k_is