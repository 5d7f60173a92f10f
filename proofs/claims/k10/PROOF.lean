import PyProof.Rows.All
import Wide.All
import OpenK.AllK
import Wide.FinOn
import Lean
import PyProof.EqAt
import PyProof.EqKinds
import PyProof.TupleCall
import PyProof.WalksMore
import PyProof.ListRange
import PyProof.NeKinds
import PyProof.SliceStr2
import PyProof.StrOps2
import PyProof.Rows.SetFrom
import PyProof.MinMaxWalk
import KE.KRevIter
import KE.KDictList
import PyProof.AttrMiss
import PyProof.IsiH_list
import PyProof.IsiH_tuple
import KE.KDictOf
import PyProof.ZipIter
import PyProof.TupleIter
import PySem.Challenge.RW_backissues_k10_lists_apart
set_option Elab.async false
set_option linter.all false
set_option maxRecDepth 100000
namespace L2
open PySem PySem.Spec PyProof.Rows

abbrev Key := Sum Int Str
def keyIs : Key → Value → Bool
  | .inl k, v => Value.isInt k v
  | .inr x, v => Value.isStrOf x v
def keyH (w : World) : Key → Int
  | .inl k => hashInt k
  | .inr x => hashStr w x
theorem keyIs_shape : ∀ {k : Key} {v : Value}, keyIs k v = true → (∃ i t, k = Sum.inl i ∧ v = Value.int i t) ∨ (∃ x t, k = Sum.inr x ∧ v = Value.str x t)
  | .inl i, v, h => by
    obtain ⟨t, e⟩ := Value.isInt_shape (k := i) (v := v) h
    exact .inl ⟨i, t, rfl, e⟩
  | .inr x, v, h => by
    obtain ⟨t, e⟩ := Value.isStrOf_shape (x := x) (v := v) h
    exact .inr ⟨x, t, rfl, e⟩
theorem keyIs_int (i : Int) (t : Tok) : keyIs (.inl i) (.int i t) = true := by simp [keyIs, Value.isInt]
theorem keyIs_str (x : Str) (t : Tok) : keyIs (.inr x) (.str x t) = true := by simp [keyIs, Value.isStrOf]
theorem key_ll (a b : Int) : decide ((Sum.inl a : Key) = Sum.inl b) = (a == b) := by
  by_cases e : a = b
  · subst e; simp
  · have h : ¬ (Sum.inl a : Key) = Sum.inl b := fun q => e (Sum.inl.inj q)
    rw [decide_eq_false h]
    exact (beq_eq_false_iff_ne.mpr e).symm
theorem key_rr (a b : Str) : decide ((Sum.inr a : Key) = Sum.inr b) = decide (a = b) := by
  by_cases e : a = b
  · subst e; simp
  · have h : ¬ (Sum.inr a : Key) = Sum.inr b := fun q => e (Sum.inr.inj q)
    rw [decide_eq_false h, decide_eq_false e]
theorem key_lr (a : Int) (b : Str) : decide ((Sum.inl a : Key) = Sum.inr b) = false := decide_eq_false (fun q => nomatch q)
theorem key_rl (a : Str) (b : Int) : decide ((Sum.inr a : Key) = Sum.inl b) = false := decide_eq_false (fun q => nomatch q)

def mixKind (prog : Program) (w : World) : PySem.KeyKind prog w Key where
  is := keyIs
  hash := keyH w
  inj := fun v a b ha hb => by
    rcases keyIs_shape ha with ⟨i, t, rfl, rfl⟩ | ⟨x, t, rfl, rfl⟩
    · rcases keyIs_shape hb with ⟨j, u, rfl, e⟩ | ⟨y, u, rfl, e⟩
      · injection e with e1 _; rw [e1]
      · exact nomatch e
    · rcases keyIs_shape hb with ⟨j, u, rfl, e⟩ | ⟨y, u, rfl, e⟩
      · exact nomatch e
      · injection e with e1 _; rw [e1]
  byValue := fun k v h => by
    rcases keyIs_shape h with ⟨i, t, rfl, rfl⟩ | ⟨x, t, rfl, rfl⟩ <;> rfl
  pyHash := fun hv h => by
    rcases keyIs_shape hv with ⟨i, t, rfl, rfl⟩ | ⟨x, t, rfl, rfl⟩
    · exact wpAny_pyHash_int h
    · exact wpAny_pyHash_str h
  eqBool := fun hu hv h => by
    rcases keyIs_shape hu with ⟨i, t, rfl, rfl⟩ | ⟨x, t, rfl, rfl⟩
    · rcases keyIs_shape hv with ⟨j, u, rfl, rfl⟩ | ⟨y, u, rfl, rfl⟩
      · rw [key_ll] at h; exact wpAny_eqBool_int h
      · rw [key_lr] at h; exact SeqAt.EqAt.int_str i t y u _ _ _ _ h
    · rcases keyIs_shape hv with ⟨j, u, rfl, rfl⟩ | ⟨y, u, rfl, rfl⟩
      · rw [key_rl] at h; exact SeqAt.EqAt.str_int x t j u _ _ _ _ h
      · rw [key_rr] at h; exact wpAny_eqBool_str h
  «strs» := fun k x t v h => by
    rcases keyIs_shape h with ⟨i, u, rfl, e⟩ | ⟨y, u, rfl, e⟩
    · exact nomatch e
    · injection e with e1 _
      subst e1
      cases v <;> rfl

theorem mixKind_int (prog : Program) (w : World) (i : Int) (t : Tok) : (mixKind prog w).is (.inl i) (.int i t) = true := keyIs_int i t
theorem mixKind_str (prog : Program) (w : World) (x : Str) (t : Tok) : (mixKind prog w).is (.inr x) (.str x t) = true := keyIs_str x t
end L2

namespace L2
open PySem PySem.Spec PyProof.Rows

inductive V where
  | non | bl (b : Bool) | int (i : Int) | str (x : Str) | byt (b : Array UInt8) | flt (b : UInt64) | ref (a : Addr) | ty (n : String)
  deriving DecidableEq

def RelV : V → Value → Prop
  | .non, u => u = Value.none
  | .bl b, u => u = Value.bool b
  | .int i, u => ∃ t, u = Value.int i t
  | .str x, u => ∃ t, u = Value.str x t
  | .byt b, u => ∃ t, u = Value.bytes b t
  | .flt b, u => ∃ t, u = Value.float b t
  | .ref a, u => u = Value.ref a
  | .ty n, u => u = Value.type n

abbrev Vals : List V → List Value → Prop := Paired RelV
theorem Vals.length {xs : List V} {us : List Value} (r : Vals xs us) : xs.length = us.length := Paired.length r
theorem Vals.get : ∀ {xs : List V} {us : List Value} {i : Nat} {x : V}, Vals xs us → xs[i]? = some x → ∃ u, us[i]? = some u ∧ RelV x u
  | _, _, _, _, .nil, e => by simp at e
  | _, _, 0, _, .cons r _, e => by simp at e; subst e; exact ⟨_, rfl, r⟩
  | _, _, i + 1, x, .cons _ t, e => by
    obtain ⟨u, h1, h2⟩ := Vals.get (i := i) (x := x) t (by simpa using e)
    exact ⟨u, by simpa using h1, h2⟩
theorem Vals.set {x : V} {u : Value} (r : RelV x u) : ∀ {xs : List V} {us : List Value} (i : Nat), Vals xs us → Vals (xs.set i x) (us.set i u)
  | _, _, _, .nil => .nil
  | _, _, 0, .cons _ t => .cons r t
  | _, _, i + 1, .cons q t => .cons q (Vals.set r i t)
theorem Vals.append : ∀ {xs ys : List V} {us ws : List Value}, Vals xs us → Vals ys ws → Vals (xs ++ ys) (us ++ ws)
  | _, _, _, _, .nil, s => s
  | _, _, _, _, .cons r t, s => .cons r (Vals.append t s)
theorem Vals.take : ∀ {xs : List V} {us : List Value} (n : Nat), Vals xs us → Vals (xs.take n) (us.take n)
  | _, _, 0, _ => .nil
  | _, _, _ + 1, .nil => .nil
  | _, _, n + 1, .cons r t => .cons r (Vals.take n t)
theorem Vals.drop : ∀ {xs : List V} {us : List Value} (n : Nat), Vals xs us → Vals (xs.drop n) (us.drop n)
  | _, _, 0, r => r
  | _, _, _ + 1, .nil => .nil
  | _, _, n + 1, .cons _ t => Vals.drop n t
def RelO : Option V → Option Value → Prop
  | some v, some u => RelV v u
  | none, none => True
  | _, _ => False
def KV {κ : Type} : List (κ × V) → List (κ × Value) → Prop := Paired fun (p : κ × V) (q : κ × Value) => p.1 = q.1 ∧ RelV p.2 q.2

def kV : Key → V
  | .inl i => .int i
  | .inr x => .str x

inductive HO where
  /-- a list -/
  | lst (xs : List V)
  /-- a tuple (never changes) -/
  | tup (xs : List V)
  /-- a dict whose keys are ints and texts; one whose keys are tuples of ints and texts (the empty one is both) -/
  | dK (kvs : List (Key × V)) | dT (kvs : List (List Key × V))
  /-- a set of ints: its members, its size -/
  | set (S : Int → Bool) (n : Nat)
  /-- an instance of the class at C, its dict at dx, its attributes -/
  | ins (C dx : Addr) (fs : List (Str × V))
  /-- the dict of the instance at x -/
  | own (x : Addr)
  /-- the dict of an exception -/
  | xd (fs : List (Str × V))
  /-- a bound method, f of x -/
  | met (f x : Addr)
  /-- a range object lo, lo + 1, .. below hi -/
  | rng (lo hi : Int)
  /-- a thing that is known to the object (the script; a dict while a loop walks it): read, never written while it is so -/
  | frz (o : Obj) (u : HO)
  /-- a code object's table -/
  | tbl (ps : Array Value)
  /-- any other thing, by what is true of its one object (a def of one's own: SetO a S n := HO.ext fun h => ..) -/
  | ext (φ : Heap → Prop)

abbrev Hp := Addr → Option HO
def upd (H : Hp) (a : Addr) (o : HO) : Hp := fun b => if b = a then some o else H b
def PlT (h : Heap) (a : Addr) (items : Array Value) : Prop := ∃ o, h.get? a = some o ∧ o.cls = .type "tuple" ∧ (∃ n, o.data = .seq items n) ∧ o.dict = none
theorem PlT.tup {h : Heap} {a : Addr} {items : Array Value} (p : PlT h a items) : IsTup h a items := let ⟨o, e, c, d, _⟩ := p; ⟨o, e, c, d⟩
theorem PlT.new (h : Heap) (items : Array Value) : PlT (h.push { cls := .type "tuple", data := .seq items }) h.objs.size items := ⟨_, Heap.get?_push_size _ rfl, rfl, ⟨_, rfl⟩, rfl⟩
theorem upd_same {H : Hp} {a : Addr} {o : HO} : upd H a o a = some o := by unfold upd; rw [if_pos rfl]
theorem upd_ne {H : Hp} {a b : Addr} {o : HO} (h : b ≠ a) : upd H a o b = H b := by unfold upd; rw [if_neg h]
theorem upd_upd {H : Hp} {a : Addr} {o u : HO} : upd (upd H a o) a u = upd H a u := by
  funext b; unfold upd; split <;> rfl
theorem ne_of {H : Hp} {a b : Addr} {o u : HO} (h : H a = some o) (h' : H b = some u) (d : o ≠ u) : a ≠ b := by
  intro e; subst e; rw [h] at h'; exact d (Option.some.inj h')
theorem ne_of_none {H : Hp} {a b : Addr} {o : HO} (h : H a = some o) (h' : H b = none) : a ≠ b := by
  intro e; subst e; rw [h] at h'; cases h'

section
variable (P : Program) (w : World)
def ObjOk (H : Hp) (h : Heap) (a : Addr) : HO → Prop
  | .lst xs => xs.length ≤ sizeLine ∧ ∃ (its : List Value) (n : Nat), Vals xs its ∧ h.get? a = some { cls := .type "list", data := .seq its.toArray n }
  | .tup xs => xs.length ≤ sizeLine ∧ ∃ its : List Value, Vals xs its ∧ PlT h a its.toArray
  | .dK kvs => kvs.length ≤ sizeLine ∧ (a == sysModules) = false ∧ ∃ vs, KV kvs vs ∧ h.DictOf (mixKind P w) a vs
  | .dT kvs => kvs.length ≤ sizeLine ∧ (a == sysModules) = false ∧ ∃ xs : List (List Key × Addr × Value),
      Paired (fun (p : List Key × V) (q : List Key × Addr × Value) => p.1 = q.1 ∧ H q.2.1 = some (.tup (p.1.map kV)) ∧ RelV p.2 q.2.2) kvs xs ∧
      ∃ o es ep, h.get? a = some o ∧ o.ExactDict ∧ o.data = .dict es ep ∧ es.toList = xs.map (entryOfKey (tupleKind (mixKind P w))) ∧ (xs.map (·.1)).Nodup
  | .set S n => h.SetOf (intKind P w) a S n
  | .ins C dx fs => H dx = some (.own a) ∧ fs.length ≤ 1000 ∧ dx ≠ a ∧ h.get? a = some (PySem.W.instObj C dx) ∧
      ∃ mA, h.Ns1 dx mA ∧ (∀ f, RelO (fs.lookup f) (mA f)) ∧ PySem.Within mA (fs.map (·.1))
  | .own _ => ∃ o, h.get? a = some o
  | .xd fs => ∃ mA, h.Ns1 a mA ∧ ∀ f, RelO (fs.lookup f) (mA f)
  | .rng lo hi => ∃ t u v, h.get? a = some { cls := .type "range", data := .fields #[.int lo t, .int hi u, .int 1 v] }
  | .frz o u => h.get? a = some o ∧ ObjOk H h a u
  | .tbl ps => h.get? a = some { cls := .none, data := .fields ps }
  | .met f x => h.get? a = some (PySem.W.methodObj (.ref f) (.ref x))
  | .ext φ => φ h ∧ (∃ o, h.get? a = some o) ∧ ∀ h1 h2 : Heap, φ h1 → (∀ o, h1.get? a = some o → h2.get? a = some o) → φ h2
def HOk (H : Hp) (h : Heap) : Prop := ∀ a o, H a = some o → ObjOk P w H h a o
end

section
variable {P : Program} {w : World} {H H' : Hp} {h h' : Heap} {a : Addr} {o : HO}
theorem ObjOk.lt (x : ObjOk P w H h a o) : a < h.objs.size := by
  cases o with
  | lst xs => obtain ⟨_, _, _, _, e⟩ := x; exact Heap.lt_size e
  | tup xs => obtain ⟨_, _, _, o, e, _⟩ := x; exact Heap.lt_size e
  | dK kvs => obtain ⟨_, _, _, _, o, _, _, e, _⟩ := x; exact Heap.lt_size e
  | dT kvs => obtain ⟨_, _, _, _, o, _, _, e, _⟩ := x; exact Heap.lt_size e
  | set S n => obtain ⟨o, _, _, _, e, _⟩ := x; exact Heap.lt_size e
  | ins C dx fs => obtain ⟨_, _, _, e, _⟩ := x; exact Heap.lt_size e
  | own y => obtain ⟨_, e⟩ := x; exact Heap.lt_size e
  | xd fs => obtain ⟨_, ⟨_, _, _, e, _⟩, _⟩ := x; exact Heap.lt_size e
  | rng lo hi => obtain ⟨_, _, _, e⟩ := x; exact Heap.lt_size e
  | frz ob u => obtain ⟨e, _⟩ := x; exact Heap.lt_size e
  | tbl ps => exact Heap.lt_size (show h.get? a = some _ from x)
  | met f y => exact Heap.lt_size (show h.get? a = some _ from x)
  | ext φ => obtain ⟨_, ⟨_, e⟩, _⟩ := x; exact Heap.lt_size e
theorem Paired.mapP {α β : Type} {F G : α → β → Prop} : ∀ {l₁ : List α} {l₂ : List β}, Paired F l₁ l₂ → (∀ a b, F a b → G a b) → Paired G l₁ l₂
  | _, _, .nil, _ => .nil
  | _, _, .cons r t, f => .cons (f _ _ r) (Paired.mapP t f)
theorem ObjOk.stay (x : ObjOk P w H h a o) (k : ∀ b u, (b = a ∨ H b = some (.own a)) → h.get? b = some u → h'.get? b = some u)
    (ho : ∀ b, H b = some (.own a) → H' b = some (.own a)) (ht : ∀ b xs, H b = some (.tup xs) → H' b = some (.tup xs)) : ObjOk P w H' h' a o := by
  induction o with
  | lst xs => obtain ⟨z, its, n, r, e⟩ := x; exact ⟨z, its, n, r, k _ _ (.inl rfl) e⟩
  | tup xs => obtain ⟨z, its, r, ob, e, c⟩ := x; exact ⟨z, its, r, ob, k _ _ (.inl rfl) e, c⟩
  | dK kvs => obtain ⟨z, y, vs, r, ob, es, ep, e, c⟩ := x; exact ⟨z, y, vs, r, ob, es, ep, k _ _ (.inl rfl) e, c⟩
  | dT kvs =>
    obtain ⟨z, y, xs, r, ob, es, ep, e, c⟩ := x
    exact ⟨z, y, xs, Paired.mapP r fun p q z => ⟨z.1, ht _ _ z.2.1, z.2.2⟩, ob, es, ep, k _ _ (.inl rfl) e, c⟩
  | set S n => obtain ⟨ob, es, ep, t, e, c⟩ := x; exact ⟨ob, es, ep, t, k _ _ (.inl rfl) e, c⟩
  | ins C dx fs =>
    obtain ⟨d, z, ne, e, mA, ⟨od, es, ep, e2, c⟩, r⟩ := x
    exact ⟨ho _ d, z, ne, k _ _ (.inl rfl) e, mA, ⟨od, es, ep, k _ _ (.inr d) e2, c⟩, r⟩
  | own y => obtain ⟨ob, e⟩ := x; exact ⟨ob, k _ _ (.inl rfl) e⟩
  | xd fs => obtain ⟨mA, ⟨od, es, ep, e, c⟩, r⟩ := x; exact ⟨mA, ⟨od, es, ep, k _ _ (.inl rfl) e, c⟩, r⟩
  | rng lo hi => obtain ⟨t, u, v, e⟩ := x; exact ⟨t, u, v, k _ _ (.inl rfl) e⟩
  | frz ob u ih => obtain ⟨e, q⟩ := x; exact ⟨k _ _ (.inl rfl) e, ih q⟩
  | tbl ps =>
    have e : h.get? a = some { cls := .none, data := .fields ps } := x
    show h'.get? a = some { cls := .none, data := .fields ps }
    exact k a _ (.inl rfl) e
  | met f y =>
    have e : h.get? a = some (PySem.W.methodObj (.ref f) (.ref y)) := x
    show h'.get? a = some (PySem.W.methodObj (.ref f) (.ref y))
    exact k a _ (.inl rfl) e
  | ext φ => obtain ⟨p, ⟨o, e⟩, st⟩ := x; exact ⟨st _ _ p fun o q => k _ _ (.inl rfl) q, ⟨o, k _ _ (.inl rfl) e⟩, st⟩
theorem HOk.lt (x : HOk P w H h) (e : H a = some o) : a < h.objs.size := (x a o e).lt
theorem HOk.fresh (x : HOk P w H h) (e : h.objs.size ≤ a) : H a = none := by
  cases q : H a with
  | none => rfl
  | some u => exact absurd (Nat.lt_of_lt_of_le (x.lt q) e) (Nat.lt_irrefl _)
theorem HOk.kept (x : HOk P w H h) (k : ∀ b u, h.get? b = some u → h'.get? b = some u) : HOk P w H h' := fun a o e =>
  (x a o e).stay (fun b u _ q => k b u q) (fun _ q => q) fun _ _ q => q
theorem HOk.laid (x : HOk P w H h) (k : ∀ b u, h.get? b = some u → h'.get? b = some u) (hp : h.objs.size ≤ a) (new : ObjOk P w (upd H a o) h' a o) : HOk P w (upd H a o) h' := fun b u e => by
  have hn := x.fresh hp
  by_cases hb : b = a
  · subst hb; rw [upd_same] at e; cases e; exact new
  · rw [upd_ne hb] at e
    exact (x b u e).stay (fun c v _ q => k c v q) (fun c q => by rw [upd_ne (ne_of_none q hn)]; exact q) fun c xs q => by rw [upd_ne (ne_of_none q hn)]; exact q
end

def Rd (H : Hp) (a : Addr) (u : HO) : Prop := H a = some u ∨ ∃ o, H a = some (.frz o u)
theorem Rd.ok {P : Program} {w : World} {H : Hp} {h : Heap} {a : Addr} {u : HO} (r : Rd H a u) (x : HOk P w H h) : ObjOk P w H h a u := by
  rcases r with r | ⟨o, r⟩
  · exact x a u r
  · obtain ⟨_, q⟩ := x a _ r
    exact q
def Mut : Option HO → Prop
  | some (.lst _) => True
  | some (.dK _) => True
  | some (.dT _) => True
  | some (.set _ _) => True
  | some (.ins _ _ _) => True
  | some (.ext _) => True
  | _ => False
section
variable {P : Program} {w : World} {H : Hp} {h h' : Heap} {x e : Addr} {o' : HO}
theorem HOk.write (ok : HOk P w H h) (mu : Mut (H x)) (he : e = x ∨ H e = some (.own x)) (k : ∀ b u, b ≠ e → h.get? b = some u → h'.get? b = some u) (heo : ∃ u, h'.get? e = some u)
    (new : ObjOk P w (upd H x o') h' x o') : HOk P w (upd H x o') h' := fun b u q => by
  have nown : ∀ c y, H c = some (.own y) → c ≠ x := fun c y r z => by subst z; rw [r] at mu; exact mu
  have ntup : ∀ c xs, H c = some (.tup xs) → c ≠ x := fun c xs r z => by subst z; rw [r] at mu; exact mu
  by_cases hb : b = x
  · subst hb; rw [upd_same] at q; cases q; exact new
  · rw [upd_ne hb] at q
    by_cases hbe : b = e
    · have q' : H b = some (.own x) := by
        rcases he with z | z
        · exact absurd (hbe.trans z) hb
        · rw [hbe]; exact z
      rw [q] at q'; cases q'
      obtain ⟨v, hv⟩ := heo
      exact ⟨v, by rw [hbe]; exact hv⟩
    · refine (ok b u q).stay (fun c v hc r => k c v ?_ r) (fun c r => by rw [upd_ne (nown c b r)]; exact r) fun c xs r => by rw [upd_ne (ntup c xs r)]; exact r
      rcases hc with rfl | hc
      · exact hbe
      · rintro rfl
        rcases he with z | z
        · exact nown c b hc z
        · rw [hc] at z; cases z; exact hb rfl
end

structure Un (fs ex : List Addr) (H H' : Hp) (h h' : Heap) : Prop where
  keep : ∀ b o, h.get? b = some o → H b = none → b ∉ fs → b ∉ ex → h'.get? b = some o
  slot : ∀ b o, h.get? b = some o → H b = none → b ∈ fs → b ∉ ex → ∃ sl, h'.get? b = some { o with slots := sl }
  free : ∀ b o, h.get? b = some o → H b = none → b ∉ ex → H' b = none
  there : ∀ b o, h.get? b = some o → b ∉ ex → ∃ o', h'.get? b = some o'
  tups : ∀ b xs, H b = some (.tup xs) → H' b = some (.tup xs)
  frzs : ∀ b o u, H b = some (.frz o u) → H' b = some (.frz o u)
  tbls : ∀ b ps, H b = some (.tbl ps) → ∃ more, H' b = some (.tbl (ps ++ more))
section
variable {fs fs' ex ex' : List Addr} {H H1 H2 : Hp} {h h1 h2 h' : Heap} {a x e : Addr} {o : HO}
theorem Un.any (u : Un fs ex H H1 h h1) {b : Addr} {ob : Obj} (q : h.get? b = some ob) (n : H b = none) (hx : b ∉ ex) : ∃ sl, h1.get? b = some { ob with slots := sl } := by
  by_cases hb : b ∈ fs
  · exact u.slot b ob q n hb hx
  · exact ⟨ob.slots, u.keep b ob q n hb hx⟩
theorem Un.kept (k : ∀ b u, h.get? b = some u → h'.get? b = some u) : Un fs ex H H h h' :=
  ⟨fun b ob q _ _ _ => k b ob q, fun b ob q _ _ _ => ⟨ob.slots, k b ob q⟩, fun _ _ _ n _ => n, fun b ob q _ => ⟨ob, k b ob q⟩, fun _ _ q => q, fun _ _ _ q => q, fun _ ps q => ⟨#[], by rw [q]; simp⟩⟩
theorem Un.refl : Un fs ex H H h h := Un.kept fun _ _ q => q
theorem Un.laid (k : ∀ b u, h.get? b = some u → h'.get? b = some u) (hp : h.objs.size ≤ a) (hn : H a = none) : Un fs ex H (upd H a o) h h' where
  keep := fun b u q _ _ _ => k b u q
  slot := fun b u q _ _ _ => ⟨u.slots, k b u q⟩
  free := fun b u q n _ => by rw [upd_ne (Nat.ne_of_lt (Nat.lt_of_lt_of_le (Heap.lt_size q) hp))]; exact n
  there := fun b u q _ => ⟨u, k b u q⟩
  tups := fun b xs q => by rw [upd_ne (ne_of_none q hn)]; exact q
  frzs := fun b u xs q => by rw [upd_ne (ne_of_none q hn)]; exact q
  tbls := fun b ps q => ⟨#[], by rw [upd_ne (ne_of_none q hn), q]; simp⟩
theorem Un.write (mu : Mut (H x)) (he : e = x ∨ H e = some (.own x)) (k : ∀ b u, b ≠ e → h.get? b = some u → h'.get? b = some u) (heo : ∃ u, h'.get? e = some u) : Un fs ex H (upd H x o) h h' := by
  have hx : ∀ b, H b = none → b ≠ x := fun b n z => by subst z; rw [n] at mu; exact mu
  have hb : ∀ b, H b = none → b ≠ e := fun b n z => by
    subst z
    rcases he with r | r
    · exact hx b n r
    · rw [n] at r; cases r
  have hm : ∀ b u, H b = some u → ¬ Mut (some u) → b ≠ x := fun b u q nm z => by subst z; rw [q] at mu; exact nm mu
  refine ⟨fun b u q n _ _ => k b u (hb b n) q, fun b u q n _ _ => ⟨u.slots, k b u (hb b n) q⟩, fun b u q n _ => by rw [upd_ne (hx b n)]; exact n, fun b u q _ => ?_,
    fun b xs q => by rw [upd_ne (hm b _ q fun z => z)]; exact q, fun b u xs q => by rw [upd_ne (hm b _ q fun z => z)]; exact q, fun b ps q => ⟨#[], by rw [upd_ne (hm b _ q fun z => z), q]; simp⟩⟩
  by_cases hbe : b = e
  · subst hbe; exact heo
  · exact ⟨u, k b u hbe q⟩
end

def trk (h : Heap) (H : Hp) : List Addr := (List.range h.objs.size).filter fun a => (H a).isSome
def hidT (h : Heap) (H : Hp) : Heap := PySem.W.hideAll h (trk h H)
theorem hidT_size (h : Heap) (H : Hp) : (hidT h H).objs.size = h.objs.size := PySem.W.hideAll_size _ _
theorem hidT_get {h : Heap} {H : Hp} {b : Addr} {o : Obj} (e : h.get? b = some o) (n : H b = none) : (hidT h H).get? b = some o :=
  PySem.W.hideAll_get _ e fun hm => by
    have q : (H b).isSome = true := (List.mem_filter.mp hm).2
    rw [n] at q; simp at q
theorem of_hidT {h : Heap} {H : Hp} {b : Addr} {o : Obj} (e : (hidT h H).get? b = some o) : h.get? b = some o ∧ H b = none := by
  have e' : h.get? b = some o := PySem.W.of_hideAll (trk h H) e
  refine ⟨e', ?_⟩
  cases q : H b with
  | none => rfl
  | some x =>
    have hm : b ∈ trk h H := List.mem_filter.mpr ⟨List.mem_range.mpr (Heap.lt_size e'), by simp [q]⟩
    have z : (hidT h H).get? b = none := PySem.W.hideAll_none (trk h H) hm
    rw [z] at e; cases e

def allNews (g h : Heap) (L : Addr) : List (Addr × Obj) := (List.range h.objs.size).filterMap fun a => if a = L ∨ (g.get? a).isSome = true then none else (h.get? a).map fun o => (a, o)
def rest (g h : Heap) (L d : Addr) : List (Addr × Obj) := (allNews g h L).filter fun p => decide (p.1 ≠ d)
end L2

namespace L2
open PySem PySem.Spec PyProof.Rows

structure Mod (K : PySem.W.Frag) (mg : Str → Option Value) (base : Heap) : Prop where
  kin : K.In base
  glob : base.Ns mainGlobals mg
  blt : ∃ mb, base.Ns builtinsNs mb ∧ ∀ x : Str, x ≠ "__name__" → mb x = bootBuiltins x
  nolimit : base.NoLimit

structure Cx where
  prog : Program
  w : World
  K : PySem.W.Frag
  mg : Str → Option Value
  base : Heap
  A : Around
  N : List Str
  s₀ : Shared
  H₀ : Hp
  env : Env
  outer : List Env
  stack : List Env
  ex : List Addr
  fn : Str → Bool
  calm : Bool
  pn : List (Addr × Obj)
  xe : Value → Shared → Prop
def frs (l : List Env) : List Addr := l.filterMap (·.frame)
abbrev Cx.fs (X : Cx) : List Addr := frs X.outer

def Vis (sc : Scope) (x : Str) : Prop := sc.names.lookup x = some .local ∨ sc.names.lookup x = some .cell ∨ sc.names.lookup x = some .free
def Loc (sc : Scope) (x : Str) : Prop := sc.names.lookup x = some .local ∨ sc.names.lookup x = some .cell
def Look (env : Env) (h : Heap) (m : Str → Option Value) (x : Str) (u : Value) : Prop :=
  (env.kindOf x = some .local ∧ m x = some u) ∨ ((env.kindOf x = some .cell ∨ env.kindOf x = some .free) ∧ ∃ c, env.cells.lookup x = some c ∧ h.IsCell c (some u))

structure Cx.Ok (X : Cx) : Prop where
  mod : Mod X.K X.mg X.base
  kind : X.env.scope.kind = .function
  glob : X.env.globals = mainGlobals
  blt : X.env.builtins = builtinsNs
  above : X.s₀.heap.objs.size ≤ X.env.locals
  inj : ∀ x y c, X.env.cells.lookup x = some c → X.env.cells.lookup y = some c → x = y
  has : ∀ x, (X.env.kindOf x = some .cell ∨ X.env.kindOf x = some .free) → ∃ c, X.env.cells.lookup x = some c
  cab : ∀ x c, X.fn x = true → X.env.cells.lookup x = some c → X.s₀.heap.objs.size ≤ c
  hd : X.calm = true → X.A.handled = none
  frames : X.A.frames = some X.stack
  stk : X.stack = X.outer ∨ (X.stack = X.env :: X.outer ∧ X.env.frame = some X.env.locals)
  exf : ∀ b ∈ X.ex, b ≠ X.env.locals ∧ ∀ x c, X.env.cells.lookup x = some c → c ≠ b
  bs : ∀ b o, X.base.get? b = some o → X.s₀.heap.get? b = some o ∧ X.H₀ b = none
  bsz : X.base.objs.size ≤ X.s₀.heap.objs.size
  noex : ∀ b o, X.base.get? b = some o → b ∉ X.ex
  exfs : ∀ b ∈ X.ex, b ∉ X.fs
  funs : X.s₀.heap.FunFrames X.base X.outer
  frf : ∀ b ∈ X.fs, X.H₀ b = none

structure Inv (X : Cx) (pins : List (Addr × Obj)) (σ : List (Option V)) (H : Hp) (s : Shared) : Prop where
  ok : X.Ok
  os : s.os = X.s₀.os
  bare : AllBare s.gens
  base : Un X.fs X.ex X.H₀ H X.s₀.heap s.heap
  loc : ∃ m, s.heap.Ns X.env.locals m ∧ ∀ (i : Nat) (x : Str) (v : V), X.N[i]? = some x → σ[i]? = some (some v) → Vis X.env.scope x → ∃ u, RelV v u ∧ Look X.env s.heap m x u
  cell : ∀ x c, X.env.cells.lookup x = some c → ∃ v, s.heap.IsCell c v
  free : H X.env.locals = none
  freeC : ∀ x c, X.env.cells.lookup x = some c → H c = none
  pin : ∀ p ∈ X.pn ++ pins, s.heap.get? p.1 = some p.2 ∧ H p.1 = none ∧ p.1 ≠ X.env.locals ∧ p.1 ∉ X.fs ∧ ∀ v, p.2.data ≠ .cell v
  hok : HOk X.prog X.w H s.heap
  len : σ.length = X.N.length

section
variable {X : Cx} {pins : List (Addr × Obj)} {σ : List (Option V)} {H H' : Hp} {s : Shared} {h' : Heap}

theorem Cx.Ok.nofr (ok : X.Ok) {b : Addr} {o : Obj} (e : X.base.get? b = some o) : b ∉ X.fs := fun hb => by
  have := (ok.funs.mem hb).1
  rw [e] at this; cases this
theorem Inv.bs (I : Inv X pins σ H s) : ∀ b o, X.base.get? b = some o → s.heap.get? b = some o ∧ H b = none := fun b o e =>
  ⟨I.base.keep b o (I.ok.bs b o e).1 (I.ok.bs b o e).2 (I.ok.nofr e) (I.ok.noex b o e), I.base.free b o (I.ok.bs b o e).1 (I.ok.bs b o e).2 (I.ok.noex b o e)⟩
theorem Inv.bk (I : Inv X pins σ H s) : ∀ b o, X.base.get? b = some o → s.heap.get? b = some o := fun b o e => (I.bs b o e).1
theorem Inv.mod (I : Inv X pins σ H s) : Mod X.K X.mg X.base := I.ok.mod
theorem Inv.kIn (I : Inv X pins σ H s) : X.K.In s.heap := I.ok.mod.kin.keeps I.bk
theorem Inv.fr (I : Inv X pins σ H s) : ∃ m, Fr X.base X.env.locals s.heap m :=
  let ⟨m, hn, _⟩ := I.loc
  ⟨m, hn, I.bk, Nat.le_trans I.ok.bsz I.ok.above⟩
theorem Inv.lt (I : Inv X pins σ H s) : X.env.locals < s.heap.objs.size := let ⟨_, hn, _⟩ := I.loc; hn.lt
theorem Inv.sz (I : Inv X pins σ H s) : X.s₀.heap.objs.size ≤ s.heap.objs.size := Nat.le_trans I.ok.above (Nat.le_of_lt I.lt)
theorem Inv.nofs (I : Inv X pins σ H s) {a : Addr} (h : s.heap.objs.size ≤ a) : a ∉ X.fs := fun hb => by
  obtain ⟨_, o, ho, _⟩ := I.ok.funs.mem hb
  exact absurd (Nat.lt_of_lt_of_le (Heap.lt_size ho) (Nat.le_trans I.sz h)) (Nat.lt_irrefl _)
theorem Inv.cne (I : Inv X pins σ H s) : ∀ x c, X.env.cells.lookup x = some c → c ≠ X.env.locals := fun x c e z => by
  obtain ⟨v, o, ho, hd⟩ := I.cell x c e
  obtain ⟨m, ⟨o', es, ep, ho', hd', _⟩, _⟩ := I.loc
  rw [z, ho'] at ho; cases ho; rw [hd'] at hd; cases hd
theorem Inv.funs (I : Inv X pins σ H s) : s.heap.FunFrames X.base X.outer := by
  have all : ∀ (l : List Env), (∀ b ∈ frs l, b ∈ X.fs) → X.s₀.heap.FunFrames X.base l → s.heap.FunFrames X.base l := by
    intro l
    induction l with
    | nil => intro _ _; trivial
    | cons env r ih =>
      intro hs hl
      obtain ⟨hk, ⟨L, o, hf, hn, ho, hd⟩, hr⟩ := hl
      have hL : L ∈ X.fs := hs L (by unfold frs; rw [List.filterMap_cons, hf]; exact List.mem_cons_self)
      obtain ⟨sl, e⟩ := I.base.slot L o ho (I.ok.frf L hL) hL fun z => I.ok.exfs L z hL
      exact ⟨hk, ⟨L, _, hf, hn, e, hd⟩, ih (fun b hb => hs b (by unfold frs; rw [List.filterMap_cons, hf]; exact List.mem_cons_of_mem _ hb)) hr⟩
  exact all X.outer (fun _ hb => hb) I.ok.funs

theorem Inv.stack (I : Inv X pins σ H s) : s.heap.FunFrames X.base X.stack := by
  rcases I.ok.stk with e | ⟨e, hf⟩
  · rw [e]; exact I.funs
  · rw [e]
    obtain ⟨m, hn, _⟩ := I.loc
    refine .cons (by rw [I.ok.kind]; decide) hf hn ?_ I.funs
    exact Heap.get?_none_of_le (Nat.le_trans I.ok.bsz I.ok.above)
theorem Inv.stkSub (I : Inv X pins σ H s) : ∀ b ∈ frs X.stack, b ∈ X.env.locals :: X.fs := fun b hb => by
  rcases I.ok.stk with e | ⟨e, hf⟩
  · rw [e] at hb; exact List.mem_cons_of_mem _ hb
  · rw [e] at hb
    unfold frs at hb
    rw [List.filterMap_cons, hf] at hb
    exact hb
theorem Inv.stkFree (I : Inv X pins σ H s) : ∀ b ∈ frs X.stack, H b = none := fun b hb => by
  rcases List.mem_cons.mp (I.stkSub b hb) with e | hb
  · rw [e]; exact I.free
  · obtain ⟨_, o, ho, _⟩ := I.ok.funs.mem hb
    exact I.base.free b o ho (I.ok.frf b hb) fun z => I.ok.exfs b z hb

theorem Inv.step {g' : Array GenState} {t' : Nat} {d' : Drawn} {ch : List Addr} (I : Inv X pins σ H s)
    (hch : ∀ b ∈ ch, (b ∈ X.ex ∨ X.s₀.heap.objs.size ≤ b) ∧ b ≠ X.env.locals ∧ (∀ x c, X.env.cells.lookup x = some c → c ≠ b) ∧ ∀ p ∈ X.pn ++ pins, p.1 ≠ b)
    (keep : ∀ b o, b ≠ X.env.locals → b ∉ X.fs → b ∉ ch → s.heap.get? b = some o → H b = none → h'.get? b = some o)
    (slot : ∀ b o, b ≠ X.env.locals → b ∈ X.fs → b ∉ ch → s.heap.get? b = some o → H b = none → ∃ sl, h'.get? b = some { o with slots := sl }) (free : ∀ b o, b ∉ ch → s.heap.get? b = some o → H b = none → H' b = none)
    (there : ∀ b o, b ∉ ch → s.heap.get? b = some o → ∃ o', h'.get? b = some o')
    (tups : ∀ b xs, H b = some (.tup xs) → H' b = some (.tup xs)) (frzs : ∀ b o u, H b = some (.frz o u) → H' b = some (.frz o u)) (tbls : ∀ b ps, H b = some (.tbl ps) → ∃ more, H' b = some (.tbl (ps ++ more)))
    (ns : ∀ m, s.heap.Ns X.env.locals m → h'.Ns X.env.locals m) (hok : HOk X.prog X.w H' h') (hg : AllBare g') :
    Inv X pins σ H' { s with heap := h', gens := g', drawn := d', toks := t' } := by
  have neL : ∀ b o, X.s₀.heap.get? b = some o → b ≠ X.env.locals := fun b o e => Nat.ne_of_lt (Nat.lt_of_lt_of_le (Heap.lt_size e) I.ok.above)
  have neC : ∀ b o, X.s₀.heap.get? b = some o → b ∉ X.ex → b ∉ ch := fun b o e hx hb => by
    rcases (hch b hb).1 with z | z
    · exact hx z
    · exact absurd (Nat.lt_of_lt_of_le (Heap.lt_size e) z) (Nat.lt_irrefl _)
  have cellK : ∀ x c, X.env.cells.lookup x = some c → ∀ v, s.heap.IsCell c v → h'.IsCell c v := fun x c e v ⟨o, ho, hd⟩ => by
    have nch : c ∉ ch := fun z => (hch c z).2.2.1 x c e rfl
    by_cases hc : c ∈ X.fs
    · obtain ⟨sl, q⟩ := slot c o (I.cne x c e) hc nch ho (I.freeC x c e)
      exact ⟨_, q, hd⟩
    · exact ⟨o, keep c o (I.cne x c e) hc nch ho (I.freeC x c e), hd⟩
  refine ⟨I.ok, I.os, hg, ⟨fun b o e n hb hx => ?_, fun b o e n hb hx => ?_, fun b o e n hx => ?_, fun b o e hx => ?_, fun b xs e => tups b xs (I.base.tups b xs e), fun b o xs e => frzs b o xs (I.base.frzs b o xs e), fun b ps e => ?_⟩, ?_, fun x c e => ?_, ?_, fun x c e => ?_, fun p hp => ?_, hok, I.len⟩
  · exact keep b o (neL b o e) hb (neC b o e hx) (I.base.keep b o e n hb hx) (I.base.free b o e n hx)
  · obtain ⟨sl, e1⟩ := I.base.slot b o e n hb hx
    obtain ⟨sl', e2⟩ := slot b _ (neL b o e) hb (neC b o e hx) e1 (I.base.free b o e n hx)
    exact ⟨sl', e2⟩
  · obtain ⟨o', e1⟩ := I.base.there b o e hx
    exact free b o' (neC b o e hx) e1 (I.base.free b o e n hx)
  · obtain ⟨o', e1⟩ := I.base.there b o e hx
    exact there b o' (neC b o e hx) e1
  · obtain ⟨m1, e1⟩ := I.base.tbls b ps e
    obtain ⟨m2, e2⟩ := tbls b _ e1
    exact ⟨m1 ++ m2, by rw [e2, Array.append_assoc]⟩
  · obtain ⟨m, hn, hl⟩ := I.loc
    refine ⟨m, ns m hn, fun i x v e1 e2 e3 => ?_⟩
    obtain ⟨u, r, l⟩ := hl i x v e1 e2 e3
    refine ⟨u, r, ?_⟩
    rcases l with l | ⟨k, c, e, z⟩
    · exact .inl l
    · exact .inr ⟨k, c, e, cellK x c e _ z⟩
  · obtain ⟨v, z⟩ := I.cell x c e
    exact ⟨v, cellK x c e v z⟩
  · obtain ⟨m, ⟨o, _, _, ho, _⟩, _⟩ := I.loc
    exact free _ o (fun z => (hch _ z).2.1 rfl) ho I.free
  · obtain ⟨v, o, ho, hd⟩ := I.cell x c e
    exact free c o (fun z => (hch c z).2.2.1 x c e rfl) ho (I.freeC x c e)
  · obtain ⟨e, n, ne, nf, d⟩ := I.pin p hp
    have nch : p.1 ∉ ch := fun z => (hch p.1 z).2.2.2 p hp rfl
    exact ⟨keep p.1 p.2 ne nf nch e n, free p.1 p.2 nch e n, ne, nf, d⟩
theorem Inv.un {t' : Nat} (I : Inv X pins σ H s) (u : Un X.fs [] H H' s.heap h') (hok : HOk X.prog X.w H' h') : Inv X pins σ H' { s with heap := h', toks := t' } := by
  obtain ⟨m, ⟨o, es, ep, ho, r⟩, _⟩ := id I.loc
  obtain ⟨sl, hL⟩ := u.any ho I.free (by simp)
  exact I.step (g' := s.gens) (d' := s.drawn) (ch := []) (fun _ z => nomatch z) (fun b o _ hb _ e n => u.keep b o e n hb (by simp)) (fun b o _ hb _ e n => u.slot b o e n hb (by simp)) (fun b o _ e n => u.free b o e n (by simp)) (fun b o _ e => u.there b o e (by simp)) u.tups u.frzs u.tbls (fun m' hm => by
    obtain ⟨o', es', ep', ho', r'⟩ := hm
    rw [ho] at ho'; cases ho'
    exact ⟨_, es', ep', hL, r'⟩) hok I.bare
theorem Inv.call {g' : Array GenState} {t' : Nat} {d' : Drawn} {ch : List Addr} (I : Inv X pins σ H s) (u : Un (frs X.stack) ch H H' s.heap h') (hok : HOk X.prog X.w H' h') (hg : AllBare g')
    (hch : ∀ b ∈ ch, (b ∈ X.ex ∨ X.s₀.heap.objs.size ≤ b) ∧ b ≠ X.env.locals ∧ (∀ x c, X.env.cells.lookup x = some c → c ≠ b) ∧ ∀ p ∈ X.pn ++ pins, p.1 ≠ b) :
    Inv X pins σ H' { s with heap := h', gens := g', drawn := d', toks := t' } := by
  obtain ⟨m, ⟨o, es, ep, ho, r⟩, _⟩ := id I.loc
  obtain ⟨sl, hL⟩ := u.any ho I.free fun z => (hch _ z).2.1 rfl
  exact I.step (ch := ch) hch (fun b o hL hb hc e n => u.keep b o e n (fun z => (List.mem_cons.mp (I.stkSub b z)).elim hL hb) hc) (fun b o _ _ hc e n => u.any e n hc) (fun b o hc e n => u.free b o e n hc) (fun b o hc e => u.there b o e hc) u.tups u.frzs u.tbls (fun m' hm => by
    obtain ⟨o', es', ep', ho', r'⟩ := hm
    rw [ho] at ho'; cases ho'
    exact ⟨_, es', ep', hL, r'⟩) hok hg
theorem Inv.turned {t' : Nat} {it : Addr} (I : Inv X pins σ H s) (k : ∀ b o, b ≠ it → s.heap.get? b = some o → h'.get? b = some o) (hn : H it = none) (hL : it ≠ X.env.locals)
    (h1 : it ∈ X.ex ∨ X.s₀.heap.objs.size ≤ it) (h2 : ∀ x c, X.env.cells.lookup x = some c → c ≠ it) (h3 : ∀ p ∈ X.pn ++ pins, p.1 ≠ it) : Inv X pins σ H { s with heap := h', toks := t' } := by
  have nit : ∀ b u, H b = some u → b ≠ it := fun b u e z => by rw [z, hn] at e; cases e
  refine I.step (g' := s.gens) (d' := s.drawn) (ch := [it]) (fun b hb => ?_) (fun b o _ _ hc e _ => k b o (fun z => hc (by simp [z])) e) (fun b o _ _ hc e _ => ⟨o.slots, k b o (fun z => hc (by simp [z])) e⟩) (fun _ _ _ _ n => n)
    (fun b o hc e => ⟨o, k b o (fun z => hc (by simp [z])) e⟩) (fun _ _ e => e) (fun _ _ _ e => e) (fun b ps e => ⟨#[], by rw [e]; simp⟩) (fun m hm => ?_) (fun b u e => ?_) I.bare
  · have e : b = it := by simpa using hb
    subst e
    exact ⟨h1, hL, h2, h3⟩
  · obtain ⟨o, es, ep, ho, r⟩ := hm
    exact ⟨o, es, ep, k _ o (Ne.symm hL) ho, r⟩
  · refine (I.hok b u e).stay (fun c v hc q => k c v ?_ q) (fun _ q => q) fun _ _ q => q
    rcases hc with z | z
    · rw [z]; exact nit b u e
    · exact nit c _ z
theorem Inv.tok (I : Inv X pins σ H s) (t : Nat) : Inv X pins σ H { s with toks := t } := I.un (h' := s.heap) (t' := t) Un.refl I.hok
theorem Inv.kept {t' : Nat} (I : Inv X pins σ H s) (k : ∀ b u, s.heap.get? b = some u → h'.get? b = some u) : Inv X pins σ H { s with heap := h', toks := t' } := I.un (Un.kept k) (I.hok.kept k)
theorem Inv.laid {a : Addr} {o : HO} {t' : Nat} (I : Inv X pins σ H s) (k : ∀ b u, s.heap.get? b = some u → h'.get? b = some u) (hp : s.heap.objs.size ≤ a) (new : ObjOk X.prog X.w (upd H a o) h' a o) :
    Inv X pins σ (upd H a o) { s with heap := h', toks := t' } := I.un (Un.laid k hp (I.hok.fresh hp)) (I.hok.laid k hp new)
theorem Inv.write {x e : Addr} {o : HO} {t' : Nat} (I : Inv X pins σ H s) (mu : Mut (H x)) (he : e = x ∨ H e = some (.own x)) (k : ∀ b u, b ≠ e → s.heap.get? b = some u → h'.get? b = some u) (heo : ∃ u, h'.get? e = some u)
    (new : ObjOk X.prog X.w (upd H x o) h' x o) : Inv X pins σ (upd H x o) { s with heap := h', toks := t' } := I.un (Un.write mu he k heo) (I.hok.write mu he k heo new)
theorem Inv.weak {σ' : List (Option V)} (I : Inv X pins σ H s) (hl : σ'.length = σ.length) (w : ∀ (i : Nat) v, σ'[i]? = some (some v) → σ[i]? = some (some v)) : Inv X pins σ' H s :=
  ⟨I.ok, I.os, I.bare, I.base, let ⟨m, hn, hl'⟩ := I.loc; ⟨m, hn, fun i x v e1 e2 e3 => hl' i x v e1 (w i v e2) e3⟩, I.cell, I.free, I.freeC, I.pin, I.hok, hl.trans I.len⟩
theorem Inv.pins_of {pins' : List (Addr × Obj)} (I : Inv X pins σ H s) (h : ∀ p ∈ pins', s.heap.get? p.1 = some p.2 ∧ H p.1 = none ∧ p.1 ≠ X.env.locals ∧ p.1 ∉ X.fs ∧ ∀ v, p.2.data ≠ .cell v) : Inv X pins' σ H s :=
  ⟨I.ok, I.os, I.bare, I.base, I.loc, I.cell, I.free, I.freeC, fun p hp => (List.mem_append.mp hp).elim (fun z => I.pin p (List.mem_append_left _ z)) (h p), I.hok, I.len⟩

theorem nodup_ix {N : List Str} (hN : N.Nodup) {i j : Nat} {x : Str} (a : N[i]? = some x) (b : N[j]? = some x) : i = j := by
  obtain ⟨h1, e1⟩ := List.getElem?_eq_some_iff.mp a
  obtain ⟨h2, e2⟩ := List.getElem?_eq_some_iff.mp b
  exact (List.getElem_inj hN).mp (e1.trans e2.symm)

theorem store_ok2 {M : Model} {A : Around} {E : Value → Shared → Prop} {i : Nat} {x : Str} {v : V} {u : Value} {Q : Unit → Shared → Prop} (I : Inv X pins σ H s) (hN : X.N.Nodup) (hi : X.N[i]? = some x) (hx : Loc X.env.scope x) (r : RelV v u)
    (h : ∀ s', Inv X pins (σ.set i (some v)) H s' → (∃ a, Heap.SameBut a s.heap s'.heap ∧ (a = X.env.locals ∨ X.env.cells.lookup x = some a)) → Q () s') (hf : X.fn x = true ∨ X.env.scope.names.lookup x = some .local := by first | exact .inl rfl | exact .inr rfl | assumption) : wpAny M A (storeName X.env x u) Q E s := by
  obtain ⟨m, hn, hl⟩ := id I.loc
  have hcls : (X.env.scope.kind == .class || (X.env.scope.kind == .module && X.env.locals != X.env.globals)) = false := by rw [I.ok.kind]; rfl
  have hiσ : i < σ.length := by rw [I.len]; exact (List.getElem?_eq_some_iff.mp hi).1
  have cne := I.cne
  have tracked : ∀ {a : Addr} {h' : Heap}, (∃ o, s.heap.get? a = some o ∧ H a = none) → Heap.SameBut a s.heap h' → HOk X.prog X.w H h' := fun {a h'} ha hs b ob e => by
    obtain ⟨_, _, hfree⟩ := ha
    refine (I.hok b ob e).stay (fun c w' hc q => (hs.2 c ?_).trans q) (fun _ q => q) fun _ _ q => q
    rintro rfl
    rcases hc with rfl | hc
    · rw [hfree] at e; cases e
    · rw [hfree] at hc; cases hc
  rcases hx with hk | hk
  · refine wpAny_storeName_local hk hn (fun h' hn' hs => ?_) hcls
    obtain ⟨oL, _, _, hoL, _⟩ := id hn
    refine h _ ⟨I.ok, I.os, I.bare, ⟨fun b o e n hb hx => ?_, fun b o e n hb hx => ?_, I.base.free, fun b o e hx => ?_, I.base.tups, I.base.frzs, I.base.tbls⟩, ⟨_, hn', fun j y v' e1 e2 e3 => ?_⟩, fun y c e => ?_, I.free, I.freeC, fun p hp => ?_, tracked ⟨oL, hoL, I.free⟩ hs, by simpa using I.len⟩ ⟨_, hs, .inl rfl⟩
    · exact (hs.2 b (Nat.ne_of_lt (Nat.lt_of_lt_of_le (Heap.lt_size e) I.ok.above))).trans (I.base.keep b o e n hb hx)
    · obtain ⟨sl, e1⟩ := I.base.slot b o e n hb hx
      exact ⟨sl, (hs.2 b (Nat.ne_of_lt (Nat.lt_of_lt_of_le (Heap.lt_size e) I.ok.above))).trans e1⟩
    · obtain ⟨o', e1⟩ := I.base.there b o e hx
      exact ⟨o', (hs.2 b (Nat.ne_of_lt (Nat.lt_of_lt_of_le (Heap.lt_size e) I.ok.above))).trans e1⟩
    · by_cases hj : j = i
      · subst hj
        rw [hi] at e1; cases e1
        rw [List.getElem?_set_self hiσ] at e2
        cases e2
        exact ⟨u, r, .inl ⟨hk, by simp⟩⟩
      · rw [List.getElem?_set_ne (Ne.symm hj)] at e2
        obtain ⟨u', r', q⟩ := hl j y v' e1 e2 e3
        refine ⟨u', r', ?_⟩
        rcases q with ⟨k, e⟩ | ⟨k, c, e, z⟩
        · refine .inl ⟨k, ?_⟩
          have : y ≠ x := fun e => hj (nodup_ix hN e1 (e ▸ hi))
          simp [this, e]
        · exact .inr ⟨k, c, e, z.sameBut hs (cne y c e)⟩
    · obtain ⟨w', z⟩ := I.cell y c e
      exact ⟨w', z.sameBut hs (cne y c e)⟩
    · obtain ⟨e, n, ne, nf, d⟩ := I.pin p hp
      exact ⟨(hs.2 p.1 ne).trans e, n, ne, nf, d⟩
  · have hfn : X.fn x = true := by
      rcases hf with z | z
      · exact z
      · rw [z] at hk; cases hk
    obtain ⟨c, hc⟩ := I.ok.has x (.inl hk)
    obtain ⟨w', z⟩ := I.cell x c hc
    refine wpAny_storeName_cell I.ok.kind hk hc z (fun h' hc' hs => ?_)
    obtain ⟨oc, hoc, hocd⟩ := id z
    refine h { s with heap := h' } ⟨I.ok, I.os, I.bare, ⟨fun b o e n hb hx => ?_, fun b o e n hb hx => ?_, I.base.free, fun b o e hx => ?_, I.base.tups, I.base.frzs, I.base.tbls⟩, ⟨m, hn.sameBut hs (Ne.symm (cne x c hc)), fun j y v' e1 e2 e3 => ?_⟩, fun y c' e => ?_, I.free, I.freeC, fun p hp => ?_, tracked ⟨oc, hoc, I.freeC x c hc⟩ hs, by simpa using I.len⟩ ⟨c, hs, .inr hc⟩
    · exact (hs.2 b (Nat.ne_of_lt (Nat.lt_of_lt_of_le (Heap.lt_size e) (I.ok.cab x c hfn hc)))).trans (I.base.keep b o e n hb hx)
    · obtain ⟨sl, e1⟩ := I.base.slot b o e n hb hx
      exact ⟨sl, (hs.2 b (Nat.ne_of_lt (Nat.lt_of_lt_of_le (Heap.lt_size e) (I.ok.cab x c hfn hc)))).trans e1⟩
    · obtain ⟨o', e1⟩ := I.base.there b o e hx
      exact ⟨o', (hs.2 b (Nat.ne_of_lt (Nat.lt_of_lt_of_le (Heap.lt_size e) (I.ok.cab x c hfn hc)))).trans e1⟩
    · by_cases hj : j = i
      · subst hj
        rw [hi] at e1; cases e1
        rw [List.getElem?_set_self hiσ] at e2
        cases e2
        exact ⟨u, r, .inr ⟨.inl hk, c, hc, hc'⟩⟩
      · rw [List.getElem?_set_ne (Ne.symm hj)] at e2
        obtain ⟨u', r', q⟩ := hl j y v' e1 e2 e3
        refine ⟨u', r', ?_⟩
        rcases q with q | ⟨k, c', e, z'⟩
        · exact .inl q
        · refine .inr ⟨k, c', e, z'.sameBut hs ?_⟩
          rintro rfl
          exact hj (nodup_ix hN e1 (I.ok.inj _ _ _ e hc ▸ hi))
    · by_cases hcc : c' = c
      · subst hcc; exact ⟨_, hc'⟩
      · obtain ⟨w2, z2⟩ := I.cell y c' e
        exact ⟨w2, z2.sameBut hs hcc⟩
    · obtain ⟨e, n, ne, nf, d⟩ := I.pin p hp
      refine ⟨(hs.2 p.1 ?_).trans e, n, ne, nf, d⟩
      intro q
      rw [q, hoc] at e
      have q' : oc = p.2 := Option.some.inj e
      exact d w' (by rw [← q']; exact hocd)
theorem store_ok {M : Model} {A : Around} {E : Value → Shared → Prop} {i : Nat} {x : Str} {v : V} {u : Value} {Q : Unit → Shared → Prop} (I : Inv X pins σ H s) (hN : X.N.Nodup) (hi : X.N[i]? = some x) (hx : Loc X.env.scope x) (r : RelV v u)
    (h : ∀ s', Inv X pins (σ.set i (some v)) H s' → Q () s') (hf : X.fn x = true ∨ X.env.scope.names.lookup x = some .local := by first | exact .inl rfl | exact .inr rfl | assumption) : wpAny M A (storeName X.env x u) Q E s :=
  store_ok2 I hN hi hx r (fun s' I' _ => h s' I') hf
theorem Inv.call' {s' : Shared} {ch : List Addr} (I : Inv X pins σ H s) (ho : s'.os = s.os) (u : Un (frs X.stack) ch H H' s.heap s'.heap) (hok : HOk X.prog X.w H' s'.heap) (hg : AllBare s'.gens)
    (hch : ∀ b ∈ ch, (b ∈ X.ex ∨ X.s₀.heap.objs.size ≤ b) ∧ b ≠ X.env.locals ∧ (∀ x c, X.env.cells.lookup x = some c → c ≠ b) ∧ ∀ p ∈ X.pn ++ pins, p.1 ≠ b) : Inv X pins σ H' s' := by
  obtain ⟨h', g', d', t', o'⟩ := s'
  have e : o' = s.os := ho
  subst e
  exact I.call (g' := g') (t' := t') (d' := d') u hok hg hch
end

abbrev XK := Value → Option Addr → Hp → Prop
abbrev St := List (Option V)
abbrev VK := V → Hp → Prop
abbrev TE := St → Hp → VK → Prop
abbrev TT := St → Hp → (Bool → Hp → Prop) → Prop
abbrev TA := St → Hp → (List V → Hp → Prop) → Prop
structure Ends where
  nx : St → Hp → Prop
  rt : VK
  bk : St → Hp → Prop := fun _ _ => False
  ct : St → Hp → Prop := fun _ _ => False
abbrev TS := Ends → St → Hp → Prop

def EP (X : Cx) (pins : List (Addr × Obj)) (σ : St) (Q : VK) (u : Value) (s' : Shared) : Prop := ∃ v H', Inv X pins σ H' s' ∧ RelV v u ∧ Q v H'
def TP (X : Cx) (pins : List (Addr × Obj)) (σ : St) (Q : Bool → Hp → Prop) (b : Bool) (s' : Shared) : Prop := ∃ H', Inv X pins σ H' s' ∧ Q b H'
def AP (X : Cx) (pins : List (Addr × Obj)) (σ : St) (Q : List V → Hp → Prop) (us : List Value) (s' : Shared) : Prop := ∃ vs H', Inv X pins σ H' s' ∧ Vals vs us ∧ Q vs H'
def SP (X : Cx) (pins : List (Addr × Obj)) (D : Ends) (f : Flow) (s' : Shared) : Prop :=
  match f with
  | .next => ∃ σ' H', Inv X pins σ' H' s' ∧ D.nx σ' H'
  | .brk => ∃ σ' H', Inv X pins σ' H' s' ∧ D.bk σ' H'
  | .cont => ∃ σ' H', Inv X pins σ' H' s' ∧ D.ct σ' H'
  | .ret u => ∃ v σ' H', Inv X pins σ' H' s' ∧ RelV v u ∧ D.rt v H'

def PE (X : Cx) (e : Expr) (t : TE) : Prop :=
  ∀ (pins : List (Addr × Obj)) (s : Shared) (σ : St) (H : Hp) (Q : VK), Inv X pins σ H s → t σ H Q → wpAny (model X.prog X.w) X.A (eval e X.env) (EP X pins σ Q) X.xe s
def PT (X : Cx) (e : Expr) (t : TT) : Prop :=
  ∀ (pins : List (Addr × Obj)) (s : Shared) (σ : St) (H : Hp) (Q : Bool → Hp → Prop), Inv X pins σ H s → t σ H Q → wpAny (model X.prog X.w) X.A (isTrue e X.env (eval e X.env)) (TP X pins σ Q) X.xe s
def PW (X : Cx) (e : Expr) (t : TT) : Prop :=
  ∀ (whole : Sem Value) (pins : List (Addr × Obj)) (s : Shared) (σ : St) (H : Hp) (Q : Bool → Hp → Prop), Inv X pins σ H s → t σ H Q → wpAny (model X.prog X.w) X.A (isTrue e X.env whole) (TP X pins σ Q) X.xe s
theorem PW.pt {X : Cx} {e : Expr} {t : TT} (h : PW X e t) : PT X e t := h _
def PA (X : Cx) (es : List Expr) (t : TA) : Prop :=
  ∀ (pos : Pos) (pins : List (Addr × Obj)) (s : Shared) (σ : St) (H : Hp) (Q : List V → Hp → Prop), Inv X pins σ H s → t σ H Q → wpAny (model X.prog X.w) X.A (spliced (backTo pos (starEach es X.env))) (AP X pins σ Q) X.xe s
def PS (X : Cx) (st : Stmt) (t : TS) : Prop :=
  ∀ (pins : List (Addr × Obj)) (s : Shared) (σ : St) (H : Hp) (D : Ends), Inv X pins σ H s → t D σ H → wpAny (model X.prog X.w) X.A (exec st X.env) (SP X pins D) X.xe s
def PSs (X : Cx) (st : List Stmt) (t : TS) : Prop :=
  ∀ (pins : List (Addr × Obj)) (s : Shared) (σ : St) (H : Hp) (D : Ends), Inv X pins σ H s → t D σ H → wpAny (model X.prog X.w) X.A (execs st X.env) (SP X pins D) X.xe s
theorem thn {α : Type} {t : Sem α} {Q Q' : α → Shared → Prop} {M : Model} {A : Around} {E : Value → Shared → Prop} {s : Shared} (h : wpAny M A t Q E s) (hQ : ∀ a s, Q a s → Q' a s) : wpAny M A t Q' E s := wpAny_mono h hQ fun _ _ x => x
end L2

namespace L2
open PySem PySem.Spec PyProof.Rows
section
variable {X : Cx}

def tVar (i : Nat) : TE := fun σ H Q => ∃ v, σ[i]? = some (some v) ∧ Q v H
def tC (v : V) : TE := fun _ H Q => Q v H
theorem pe_var {i : Nat} {x : Str} {pos : Pos} (hN : X.N[i]? = some x) (hv : Vis X.env.scope x) (hd : (x == ("__debug__" : Str)) = false := by decide) (hcd : (x == ("__classdict__" : Str)) = false := by decide) : PE X (.Name x pos) (tVar i) := by
  intro pins s σ H Q I h
  obtain ⟨v, e, h⟩ := h
  obtain ⟨m, hn, hl⟩ := I.loc
  obtain ⟨u, r, l⟩ := hl i x v hN e hv
  have fin : EP X pins σ Q u s := ⟨v, H, I, r, h⟩
  rcases l with ⟨hk, hm⟩ | ⟨hk, c, hc, hcell⟩
  · exact wpAny_Name (wpAny_loadName_local I.ok.kind hk hn hm fin) hd
  · rcases hk with hk | hk
    · exact wpAny_Name (wpAny_loadName_cell I.ok.kind hk hc hcell fin) hd
    · exact wpAny_Name (wpAny_loadName_free I.ok.kind hk hc hcell fin hcd) hd
theorem pe_int {i j pos} : PE X (.Constant (.int i) j pos) (tC (.int i)) := fun _ _ _ H _ I h => wpAny_Constant_int ⟨.int i, H, I.tok _, ⟨_, rfl⟩, h⟩
theorem pe_bl {b j pos} : PE X (.Constant (.bool b) j pos) (tC (.bl b)) := fun _ _ _ H _ I h => Constant_bool ⟨.bl b, H, I, rfl, h⟩
theorem pe_non {j pos} : PE X (.Constant .none j pos) (tC .non) := fun _ _ _ H _ I h => Constant_none ⟨.non, H, I, rfl, h⟩
theorem pe_str {x j pos} : PE X (.Constant (.str x) j pos) (tC (.str x)) := fun _ _ _ H _ I h => Calls.Constant_str ⟨.str x, H, I.tok _, ⟨_, rfl⟩, h⟩

def Gl (X : Cx) (x : Str) : Prop := X.env.kindOf x = some .globalImplicit
theorem ld_glob {E : Value → Shared → Prop} {pins : List (Addr × Obj)} {s : Shared} {σ : St} {H : Hp} {x : Str} {u : Value} {pos : Pos} {Q : Value → Shared → Prop} (I : Inv X pins σ H s) (hg : Gl X x) (hm : X.mg x = some u) (h : Q u s)
    (hd : (x == ("__debug__" : Str)) = false := by decide) : wpAny (model X.prog X.w) X.A (eval (.Name x pos) X.env) Q E s :=
  Calls.Name_function_global I.ok.kind hg (Calls.loadGlobal_global (by rw [I.ok.glob]; exact I.mod.glob.keeps I.bk) hm h) hd
theorem ld_blt {E : Value → Shared → Prop} {pins : List (Addr × Obj)} {s : Shared} {σ : St} {H : Hp} {x : Str} {u : Value} {pos : Pos} {Q : Value → Shared → Prop} (I : Inv X pins σ H s) (hg : Gl X x) (hm : X.mg x = none) (hv : bootBuiltins x = some u) (h : Q u s)
    (hn : x ≠ "__name__" := by decide) (hd : (x == ("__debug__" : Str)) = false := by decide) : wpAny (model X.prog X.w) X.A (eval (.Name x pos) X.env) Q E s := by
  obtain ⟨mb, h1, h2⟩ := I.mod.blt
  exact Calls.Name_function_global I.ok.kind hg (Calls.loadGlobal_builtin (by rw [I.ok.glob]; exact I.mod.glob.keeps I.bk) hm (by rw [I.ok.blt]; exact h1.keeps I.bk) ((h2 x hn).trans hv) h) hd
theorem pe_glob {x : Str} {v : V} {u : Value} {pos : Pos} (hg : Gl X x) (hm : X.mg x = some u) (r : RelV v u) (hd : (x == ("__debug__" : Str)) = false := by decide) : PE X (.Name x pos) (tC v) :=
  fun _ _ _ H _ I h => ld_glob I hg hm ⟨v, H, I, r, h⟩ hd
theorem pe_bltn {x : Str} {v : V} {u : Value} {pos : Pos} (hg : Gl X x) (hm : X.mg x = none) (hv : bootBuiltins x = some u) (r : RelV v u) (hn : x ≠ "__name__" := by decide) (hd : (x == ("__debug__" : Str)) = false := by decide) : PE X (.Name x pos) (tC v) :=
  fun _ _ _ H _ I h => ld_blt I hg hm hv ⟨v, H, I, r, h⟩ hn hd

variable {a b : Expr} {ta tb : TE} {pos : Pos}
def PC (X : Cx) (op : CmpOp) (a b : Expr) (t : TE) : Prop :=
  ∀ (pins : List (Addr × Obj)) (s : Shared) (σ : St) (H : Hp) (Q : VK), Inv X pins σ H s → t σ H Q →
    wpAny (model X.prog X.w) X.A (eval a X.env) (fun v s₁ => wpAny (model X.prog X.w) X.A (eval b X.env) (fun u s₂ => wpAny (model X.prog X.w) X.A (compareOp op v u) (EP X pins σ Q) X.xe s₂) X.xe s₁) X.xe s
theorem nobehind (b : Expr) {op : CmpOp} (h : op ≠ .In) (h2 : op ≠ .NotIn) : behindInMarks op b = false := by
  have e1 : (op == CmpOp.In) = false := by cases op <;> first | rfl | exact absurd rfl h
  have e2 : (op == CmpOp.NotIn) = false := by cases op <;> first | rfl | exact absurd rfl h2
  cases b <;> simp [behindInMarks, e1, e2]
def tIsN (ta : TE) : TE := fun σ H Q => ta σ H fun x H1 => Q (.bl (decide (x = .non))) H1
theorem RelV.none_iff {x : V} {v : Value} (r : RelV x v) : (v == Value.none) = decide (x = .non) := by
  cases x with
  | non => cases r; rfl
  | bl _ => cases r; rfl
  | int _ => obtain ⟨t, rfl⟩ := r; rfl
  | str _ => obtain ⟨t, rfl⟩ := r; rfl
  | byt _ => obtain ⟨t, rfl⟩ := r; rfl
  | flt _ => obtain ⟨t, rfl⟩ := r; rfl
  | ref _ => cases r; rfl
  | ty _ => cases r; rfl
theorem pc_isN {j pos'} (ha : PE X a ta) : PC X .Is a (.Constant .none j pos') (tIsN ta) := by
  intro pins s σ H Q I h
  refine thn (ha pins s σ H _ I h) fun v s1 hz => ?_
  obtain ⟨x, H1, I1, r1, q1⟩ := hz
  exact Constant_none (is_none_gen ⟨.bl _, H1, I1, by rw [r1.none_iff]; rfl, q1⟩)
def tB (t : TE) : TT := fun σ H Q => t σ H fun x H1 => ∃ c, x = .bl c ∧ Q c H1
theorem pe_cmp {op : CmpOp} {t : TE} (h : PC X op a b t) (h1 : behindInMarks op b = false := by first | exact nobehind _ (by decide) (by decide) | rfl) : PE X (.Compare a [op] [b] pos) t := fun pins s σ H Q I hw => wpAny_Compare1 (h pins s σ H Q I hw) h1
theorem pt_cmp {op : CmpOp} {t : TE} (h : PC X op a b t) (h1 : behindInMarks op b = false := by first | exact nobehind _ (by decide) (by decide) | rfl) : PT X (.Compare a [op] [b] pos) (tB t) := by
  intro pins s σ H Q I hw
  refine wpAny_isTrue_Compare1 (thn (h pins s σ H _ I hw) fun v s1 h1 => thn h1 fun u s2 h2 => thn h2 fun c s3 hz => ?_) h1
  obtain ⟨x, H1, I1, r1, q1⟩ := hz
  obtain ⟨d, rfl, q⟩ := q1
  cases r1
  exact wpAny_truthy_bool ⟨H1, I1, q⟩
theorem pt_val {e : Expr} {t : TE} (h : PE X e t) (he : ∀ whole, isTrue e X.env whole = (do let v ← whole; standAt e.pos; holding [v] (truthy v)) := by intro _; rfl) : PT X e (tB t) := by
  intro pins s σ H Q I hw
  refine isTrue_plain (thn (h pins s σ H _ I hw) fun v s1 hz => ?_) (he _)
  obtain ⟨x, H1, I1, r1, q1⟩ := hz
  obtain ⟨d, rfl, q⟩ := q1
  cases r1
  exact wpAny_truthy_bool ⟨H1, I1, q⟩

variable {tA tB' : TT} {rest : List Expr}
def tAnd (t u : TT) : TT := fun σ H Q => t σ H fun c H1 => if c = true then u σ H1 Q else Q false H1
def tOr (t u : TT) : TT := fun σ H Q => t σ H fun c H1 => if c = true then Q true H1 else u σ H1 Q
def tNot (t : TT) : TT := fun σ H Q => t σ H fun c H1 => Q (!c) H1
theorem pw_and1 (ha : PT X a tA) : PW X (.BoolOp .And [a] pos) tA := by
  intro wh pins s σ H Q I h
  refine isTrue_and (thn (ha pins s σ H Q I h) fun c s1 e => ?_)
  cases c with
  | true => exact isTrue_and_nil e
  | false => exact e
theorem pw_or1 (ha : PT X a tA) : PW X (.BoolOp .Or [a] pos) tA := by
  intro wh pins s σ H Q I h
  refine isTrue_or (thn (ha pins s σ H Q I h) fun c s1 e => ?_)
  cases c with
  | false => exact isTrue_or_nil e
  | true => exact e
theorem pw_and (ha : PT X a tA) (hb : PW X (.BoolOp .And (b :: rest) pos) tB') : PW X (.BoolOp .And (a :: b :: rest) pos) (tAnd tA tB') := by
  intro wh pins s σ H Q I h
  refine isTrue_and (thn (ha pins s σ H _ I h) fun c s1 hz => ?_)
  obtain ⟨H1, I1, q1⟩ := hz
  cases c with
  | true => exact hb wh pins s1 σ H1 Q I1 q1
  | false => exact ⟨H1, I1, q1⟩
theorem pw_or (ha : PT X a tA) (hb : PW X (.BoolOp .Or (b :: rest) pos) tB') : PW X (.BoolOp .Or (a :: b :: rest) pos) (tOr tA tB') := by
  intro wh pins s σ H Q I h
  refine isTrue_or (thn (ha pins s σ H _ I h) fun c s1 hz => ?_)
  obtain ⟨H1, I1, q1⟩ := hz
  cases c with
  | true => exact ⟨H1, I1, q1⟩
  | false => exact hb wh pins s1 σ H1 Q I1 q1
theorem pt_not (ha : PT X a tA) : PT X (.UnaryOp .Not a pos) (tNot tA) := by
  intro pins s σ H Q I h
  exact isTrue_not (ha pins s σ H (fun c H1 => Q (!c) H1) I h)
def tIf (t : TT) (ta tb : TE) : TE := fun σ H Q => t σ H fun c H1 => if c = true then ta σ H1 Q else tb σ H1 Q
theorem pe_ifExp {c : Expr} (hc : PT X c tA) (ha : PE X a ta) (hb : PE X b tb) : PE X (.IfExp c a b pos) (tIf tA ta tb) := by
  intro pins s σ H Q I h
  refine wpAny_IfExp (thn (hc pins s σ H _ I h) fun d s1 hz => ?_)
  obtain ⟨H1, I1, q1⟩ := hz
  cases d with
  | true => exact ha pins s1 σ H1 Q I1 q1
  | false => exact hb pins s1 σ H1 Q I1 q1
end
end L2

namespace L2
open PySem PySem.Spec PyProof.Rows

def SqL (K : PySem.W.Frag) (H : Hp) (a : Addr) (xs : List V) : Prop :=
  Rd H a (.lst xs) ∨
    ∃ (o : Obj) (its : Array Value) (n : Nat), K.lookup a = some o ∧ o.cls = .type "list" ∧ o.dict = none ∧ o.data = .seq its n ∧ its.size ≤ sizeLine ∧ Vals xs its.toList
def SqT (K : PySem.W.Frag) (H : Hp) (a : Addr) (xs : List V) : Prop :=
  Rd H a (.tup xs) ∨
    ∃ (o : Obj) (its : Array Value) (n : Nat), K.lookup a = some o ∧ o.cls = .type "tuple" ∧ o.data = .seq its n ∧ its.size ≤ sizeLine ∧ Vals xs its.toList
def absV : Value → Option V
  | .none => some .non
  | .bool b => some (.bl b)
  | .int i _ => some (.int i)
  | .str x _ => some (.str x)
  | .bytes b _ => some (.byt b)
  | .float b _ => some (.flt b)
  | .ref a => some (.ref a)
  | .type n => some (.ty n)
  | _ => none
theorem RelV.abs {x : V} {u : Value} (r : RelV x u) : absV u = some x := by
  cases x with
  | non => cases r; rfl
  | bl _ => cases r; rfl
  | int _ => obtain ⟨t, rfl⟩ := r; rfl
  | str _ => obtain ⟨t, rfl⟩ := r; rfl
  | byt _ => obtain ⟨t, rfl⟩ := r; rfl
  | flt _ => obtain ⟨t, rfl⟩ := r; rfl
  | ref _ => cases r; rfl
  | ty _ => cases r; rfl
theorem RelV.inj {x y : V} {u : Value} (r : RelV x u) (q : RelV y u) : x = y := Option.some.inj (r.abs.symm.trans q.abs)
theorem Vals.inj : ∀ {xs ys : List V} {us : List Value}, Vals xs us → Vals ys us → xs = ys
  | _, _, _, .nil, .nil => rfl
  | _, _, _, .cons r t, .cons r' t' => by rw [r.inj r', Vals.inj t t']
section
variable {X : Cx} {pins : List (Addr × Obj)} {σ : St} {H : Hp} {s : Shared} {a : Addr} {xs ys : List V}
theorem SqL.of {K : PySem.W.Frag} (h : H a = some (.lst xs)) : SqL K H a xs := .inl (.inl h)
theorem SqT.of {K : PySem.W.Frag} (h : H a = some (.tup xs)) : SqT K H a xs := .inl (.inl h)
theorem Inv.list (I : Inv X pins σ H s) (h : SqL X.K H a xs) : ∃ its : List Value, Vals xs its ∧ PlainL s.heap a its.toArray ∧ xs.length ≤ sizeLine := by
  rcases h with h | ⟨o, its, n, hk, hc, hd, hs, hz, r⟩
  · obtain ⟨z, its, n, r, e⟩ := h.ok I.hok
    exact ⟨its, r, ⟨_, n, e, rfl, rfl, rfl⟩, z⟩
  · refine ⟨its.toList, r, ⟨o, n, I.kIn a o hk, hc, hd, by simpa using hs⟩, ?_⟩
    have e := r.length
    simp only [Array.length_toList] at e
    omega
theorem Inv.tuple (I : Inv X pins σ H s) (h : SqT X.K H a xs) : ∃ its : List Value, Vals xs its ∧ IsTup s.heap a its.toArray ∧ xs.length ≤ sizeLine := by
  rcases h with h | ⟨o, its, n, hk, hc, hs, hz, r⟩
  · obtain ⟨z, its, r, p⟩ := h.ok I.hok
    exact ⟨its, r, PlT.tup p, z⟩
  · refine ⟨its.toList, r, ⟨o, I.kIn a o hk, hc, n, by simpa using hs⟩, ?_⟩
    have e := r.length
    simp only [Array.length_toList] at e
    omega
theorem Inv.list_inj (I : Inv X pins σ H s) (h : SqL X.K H a xs) (h' : SqL X.K H a ys) : xs = ys := by
  obtain ⟨its, r, ⟨o, n, e, _, _, d⟩, _⟩ := I.list h
  obtain ⟨its', r', ⟨o', n', e', _, _, d'⟩, _⟩ := I.list h'
  rw [e] at e'; cases e'
  rw [d] at d'
  injection d' with d1 _
  have : its = its' := by simpa using congrArg Array.toList d1
  subst this
  exact r.inj r'
theorem Inv.tuple_inj (I : Inv X pins σ H s) (h : SqT X.K H a xs) (h' : SqT X.K H a ys) : xs = ys := by
  obtain ⟨its, r, ⟨o, e, _, n, d⟩, _⟩ := I.tuple h
  obtain ⟨its', r', ⟨o', e', _, n', d'⟩, _⟩ := I.tuple h'
  rw [e] at e'; cases e'
  rw [d] at d'
  injection d' with d1 _
  have : its = its' := by simpa using congrArg Array.toList d1
  subst this
  exact r.inj r'
end

abbrev Cx.wish (X : Cx) (E : Value → Shared → Prop) : Cx := { X with xe := E }
abbrev Cx.nox (X : Cx) : Cx := X.wish fun _ _ => False
theorem Cx.Ok.wish {X : Cx} (ok : X.Ok) (E : Value → Shared → Prop) : (X.wish E).Ok :=
  ⟨ok.mod, ok.kind, ok.glob, ok.blt, ok.above, ok.inj, ok.has, ok.cab, ok.hd, ok.frames, ok.stk, ok.exf, ok.bs, ok.bsz, ok.noex, ok.exfs, ok.funs, ok.frf⟩
theorem Cx.Ok.unwish {X : Cx} {E : Value → Shared → Prop} (ok : (X.wish E).Ok) : X.Ok :=
  ⟨ok.mod, ok.kind, ok.glob, ok.blt, ok.above, ok.inj, ok.has, ok.cab, ok.hd, ok.frames, ok.stk, ok.exf, ok.bs, ok.bsz, ok.noex, ok.exfs, ok.funs, ok.frf⟩
section
variable {X : Cx} {pins : List (Addr × Obj)} {σ : St} {H : Hp} {s : Shared} {E : Value → Shared → Prop}
theorem Inv.wish (I : Inv X pins σ H s) (E : Value → Shared → Prop) : Inv (X.wish E) pins σ H s := ⟨I.ok.wish E, I.os, I.bare, I.base, I.loc, I.cell, I.free, I.freeC, I.pin, I.hok, I.len⟩
theorem Inv.unwish (I : Inv (X.wish E) pins σ H s) : Inv X pins σ H s := ⟨I.ok.unwish, I.os, I.bare, I.base, I.loc, I.cell, I.free, I.freeC, I.pin, I.hok, I.len⟩
theorem SP.unwish {D : Ends} {f : Flow} {s' : Shared} (h : SP (X.wish E) pins D f s') : SP X pins D f s' := by
  cases f with
  | next => obtain ⟨σ', H', I, q⟩ := h; exact ⟨σ', H', I.unwish, q⟩
  | brk => obtain ⟨σ', H', I, q⟩ := h; exact ⟨σ', H', I.unwish, q⟩
  | cont => obtain ⟨σ', H', I, q⟩ := h; exact ⟨σ', H', I.unwish, q⟩
  | ret u => obtain ⟨v, σ', H', I, r, q⟩ := h; exact ⟨v, σ', H', I.unwish, r, q⟩
theorem PSs.nox {st : List Stmt} {t : TS} (h : PSs X.nox st t) : PSs X st t := fun pins s σ H D I hw =>
  wpAny_mono (h pins s σ H D (I.wish _) hw) (fun _ _ q => q.unwish) fun _ _ z => False.elim z
end

section
variable {X : Cx} {st : Stmt} {rest : List Stmt} {t u : TS} {e : Expr} {te : TE} {pos : Pos}
def tNext : TS := fun D σ H => D.nx σ H
def tSeq (t u : TS) : TS := fun D σ H => t { D with nx := u D } σ H
theorem pss_nil : PSs X [] tNext := fun _ _ σ H _ I h => wpAny_execs_nil ⟨σ, H, I, h⟩
theorem pss_cons (h1 : PS X st t) (h2 : PSs X rest u) : PSs X (st :: rest) (tSeq t u) := by
  intro pins s σ H D I h
  refine wpAny_execs_cons (thn (h1 pins s σ H { D with nx := u D } I h) fun f s1 q => ?_)
  cases f with
  | next =>
    obtain ⟨σ', H', I', q⟩ := q
    exact h2 pins s1 σ' H' D I' q
  | ret v => exact q
  | brk => exact q
  | cont => exact q
theorem pss_one (h1 : PS X st t) : PSs X [st] t := by
  intro pins s σ H D I h
  refine wpAny_execs_cons (thn (h1 pins s σ H D I h) fun f s1 q => ?_)
  cases f with
  | next => exact wpAny_execs_nil q
  | ret v => exact q
  | brk => exact q
  | cont => exact q
theorem Inv.quiet {pins : List (Addr × Obj)} {σ : St} {H : Hp} {s : Shared} (I : Inv X pins σ H s) : interactive X.env = false := by simp [interactive, I.ok.kind]
def tDrop (te : TE) : TS := fun D σ H => te σ H fun _ H1 => D.nx σ H1
theorem ps_expr (he : PE X e te) (hs : swapsWith e none pos.line X.env = pure false := by rfl) : PS X (.Expr e pos) (tDrop te) := by
  intro pins s σ H D I h
  exact wpAny_Expr_any (thn (he pins s σ H _ I h) fun v s1 ⟨x, H1, I1, r1, q1⟩ => ⟨σ, H1, I1, q1⟩) I.quiet hs
def tRet (te : TE) : TS := fun D σ H => te σ H D.rt
theorem ps_ret (he : PE X e te) : PS X (.Return (some e) pos) (tRet te) := by
  intro pins s σ H D I h
  exact wpAny_Return_some (thn (he pins s σ H _ I h) fun v s1 ⟨x, H1, I1, r1, q1⟩ => ⟨x, σ, H1, I1, r1, q1⟩)
def tIfS (c : TT) (t u : TS) : TS := fun D σ H => c σ H fun b H1 => if b = true then t D σ H1 else u D σ H1
theorem ps_if {c : Expr} {a b : List Stmt} {tc : TT} (hc : PT X c tc) (ha : PSs X a t) (hb : PSs X b u) : PS X (.If c a b pos) (tIfS tc t u) := by
  intro pins s σ H D I h
  refine wpAny_If (thn (hc pins s σ H _ I h) fun d s1 hz => ?_)
  obtain ⟨H1, I1, q1⟩ := hz
  cases d with
  | true => exact ha pins s1 σ H1 D I1 q1
  | false => exact hb pins s1 σ H1 D I1 q1
def tNever : TS := fun _ _ _ => False
theorem ps_never : PS X st tNever := fun _ _ _ _ _ _ h => h.elim
end

abbrev TG := V → St → Hp → (St → Hp → Prop) → Prop
abbrev TGs := List V → St → Hp → (St → Hp → Prop) → Prop
def PG (X : Cx) (target : Expr) (t : TG) : Prop :=
  ∀ (pins : List (Addr × Obj)) (s : Shared) (σ : St) (H : Hp) (v : V) (u : Value) (Q : St → Hp → Prop), Inv X pins σ H s → RelV v u → t v σ H Q →
    wpAny (model X.prog X.w) X.A (assign target X.env u) (fun _ s' => ∃ σ' H', Inv X pins σ' H' s' ∧ Q σ' H') X.xe s
def PGs (X : Cx) (ts : List Expr) (t : TGs) : Prop :=
  ∀ (pins : List (Addr × Obj)) (s : Shared) (σ : St) (H : Hp) (vs : List V) (us : List Value) (Q : St → Hp → Prop), Inv X pins σ H s → Vals vs us → t vs σ H Q →
    wpAny (model X.prog X.w) X.A (assignInOrder ((assignEach ts X.env).map (·.2)) us) (fun _ s' => ∃ σ' H', Inv X pins σ' H' s' ∧ Q σ' H') X.xe s
abbrev TSet := V → V → V → Hp → (Hp → Prop) → Prop
def PSet (X : Cx) (t : TSet) : Prop :=
  ∀ (pins : List (Addr × Obj)) (s : Shared) (σ : St) (H : Hp) (o i v : V) (ov iv u : Value) (Q : Hp → Prop), Inv X pins σ H s → RelV o ov → RelV i iv → RelV v u → t o i v H Q →
    wpAny (model X.prog X.w) X.A (setItem ov iv u) (fun _ s' => ∃ H', Inv X pins σ H' s' ∧ Q H') X.xe s
section
variable {X : Cx} {pos : Pos}
def gName (i : Nat) : TG := fun v σ H Q => Q (σ.set i (some v)) H
theorem pg_name {i : Nat} {x : Str} (hN : X.N.Nodup) (hi : X.N[i]? = some x) (hx : Loc X.env.scope x) (hf : X.fn x = true ∨ X.env.scope.names.lookup x = some .local := by first | exact .inl rfl | exact .inr rfl | assumption) : PG X (.Name x pos) (gName i) := by
  intro pins s σ H v u Q I r h
  exact wpAny_assign_Name (store_ok I hN hi hx r (fun s' I' => ⟨_, H, I', h⟩) hf)
def gNil : TGs := fun vs σ H Q => vs = [] ∧ Q σ H
def gCons (t : TG) (u : TGs) : TGs := fun vs σ H Q => ∃ v r, vs = v :: r ∧ t v σ H fun σ' H' => u r σ' H' Q
theorem pgs_nil : PGs X [] gNil := by
  intro pins s σ H vs us Q I r h
  obtain ⟨e, h⟩ := h
  subst e
  cases r
  exact assignInOrder_nil ⟨σ, H, I, h⟩
theorem pgs_cons {e : Expr} {es : List Expr} {t : TG} {u : TGs} (h1 : PG X e t) (h2 : PGs X es u)
    (hs : (assignEach (e :: es) X.env).map (·.2) = assign e X.env :: (assignEach es X.env).map (·.2) := by rfl) : PGs X (e :: es) (gCons t u) := by
  intro pins s σ H vs us Q I r h
  obtain ⟨v, vr, e1, h⟩ := h
  subst e1
  cases r with
  | cons r rr =>
    rw [hs]
    refine assignInOrder_cons (thn (h1 pins s σ H _ _ _ I r h) fun _ s1 hz => ?_)
    obtain ⟨σ1, H1, I1, q1⟩ := hz
    exact h2 pins s1 σ1 H1 _ _ Q I1 rr q1
def gTup (K : PySem.W.Frag) (n : Nat) (t : TGs) : TG := fun v σ H Q => ∃ a xs, v = .ref a ∧ SqT K H a xs ∧ xs.length = n ∧ t xs σ H Q
theorem pg_tup {es : List Expr} {k : Nat} {t : TGs} {n : Nat} (hc : X.calm = true) (h : PGs X es t)
    (hn : (assignEach es X.env).length = n := by rfl) (hst : (assignEach es X.env).findIdx? (·.1) = none := by rfl) : PG X (.Tuple es k pos) (gTup X.K n t) := by
  intro pins s σ H v u Q I r hw
  obtain ⟨a, xs, e1, hq, hl, hw⟩ := hw
  subst e1
  cases r
  obtain ⟨its, rv, ht, hz⟩ := I.tuple hq
  refine assign_Tuple_tuple (I.ok.hd hc) ht (by simp [hn, ← hl, rv.length]) hst fun h' hx => ?_
  have I1 : Inv X pins σ H { s with heap := h' } := I.kept (t' := s.toks) fun b o e => hx b o (Nat.ne_of_lt (Heap.lt_size e)) e
  exact h pins _ σ H xs _ Q I1 (by simpa using rv) hw
def gSub (to ti : TE) (t : TSet) : TG := fun v σ H Q => to σ H fun o H1 => ti σ H1 fun i H2 => t o i v H2 fun H3 => Q σ H3
theorem pg_sub {o i : Expr} {to ti : TE} {t : TSet} (ho : PE X o to) (hi : PE X i ti) (hs : PSet X t)
    (ha : ∀ v, assign (.Subscript o i pos) X.env v = (do
      let ov ← holding [v] (eval o X.env)
      let iv ← holding [v, ov] (eval i X.env)
      standAt pos
      holding [v, ov, iv] (setItem ov iv v)
      release [v, ov, iv] []) := by intro _; rfl) : PG X (.Subscript o i pos) (gSub to ti t) := by
  intro pins s σ H v u Q I r h
  rw [ha]
  refine wpAny_bind (wpAny_holding (thn (ho pins s σ H _ I h) fun ov s1 hz => ?_))
  obtain ⟨x, H1, I1, r1, q1⟩ := hz
  refine wpAny_bind (wpAny_holding (thn (hi pins s1 σ H1 _ I1 q1) fun iv s2 hz => ?_))
  obtain ⟨y, H2, I2, r2, q2⟩ := hz
  refine wpAny_bind (wpAny_standAt (wpAny_bind (wpAny_holding (thn (hs pins s2 σ H2 x y v ov iv u _ I2 r1 r2 r q2) fun _ s3 hz => ?_))))
  obtain ⟨H3, I3, q3⟩ := hz
  exact wpAny_release ⟨σ, H3, I3, q3⟩
def tAsg (te : TE) (g : TG) : TS := fun D σ H => te σ H fun x H1 => g x σ H1 D.nx
theorem ps_asg {tg e : Expr} {te : TE} {g : TG} (he : PE X e te) (hg : PG X tg g) (hs : swapsWithSole [tg] e pos.line X.env = pure false := by rfl) (hw : swappedStores [tg] e X.env = pure none := by rfl)
    (h1 : (assignEach [tg] X.env).map (·.2) = [assign tg X.env] := by rfl) : PS X (.Assign [tg] e pos) (tAsg te g) := by
  intro pins s σ H D I h
  refine wpAny_Assign_stores (thn (he pins s σ H _ I h) fun v s1 hz => ?_) hs hw
  obtain ⟨x, H1, I1, r1, q1⟩ := hz
  rw [h1]
  exact thn (hg pins s1 σ H1 x v _ I1 r1 q1) fun _ s2 q => q
theorem ps_set {i : Nat} {x : Str} {e : Expr} {te : TE} {pos' : Pos} (hN : X.N.Nodup) (hi : X.N[i]? = some x) (hx : Loc X.env.scope x) (he : PE X e te) (hs : swapsWith e (some (.Name x pos')) pos.line X.env = pure false := by rfl) (hf : X.fn x = true ∨ X.env.scope.names.lookup x = some .local := by first | exact .inl rfl | exact .inr rfl | assumption) :
    PS X (.Assign [.Name x pos'] e pos) (tAsg te (gName i)) := by
  intro pins s σ H D I h
  refine wpAny_Assign_Name (thn (he pins s σ H _ I h) fun v s1 hz => ?_) hs
  obtain ⟨y, H1, I1, r1, q1⟩ := hz
  exact store_ok I1 hN hi hx r1 (fun s2 I2 => ⟨_, H1, I2, q1⟩) hf
end

section
variable {X : Cx} {pos : Pos}
end

structure It where
  go : Nat → Hp → Prop
  yld : Nat → Hp → V → Hp → Prop
  stop : Nat → Hp → Prop
def FpOk (X : Cx) (pins : List (Addr × Obj)) (H : Hp) (b : Addr) : Prop :=
  H b = none ∧ b ≠ X.env.locals ∧ b ∉ X.fs ∧ (b ∈ X.ex ∨ X.s₀.heap.objs.size ≤ b) ∧ (∀ x c, X.env.cells.lookup x = some c → c ≠ b) ∧ ∀ p ∈ X.pn ++ pins, p.1 ≠ b
theorem Inv.fpOk {X : Cx} {pins : List (Addr × Obj)} {σ : St} {H H' : Hp} {s : Shared} {b : Addr} (I : Inv X pins σ H s) (hb : s.heap.objs.size ≤ b) (hn : H' b = none) : FpOk X pins H' b := by
  refine ⟨hn, Nat.ne_of_gt (Nat.lt_of_lt_of_le I.lt hb), I.nofs hb, .inr (Nat.le_trans I.sz hb), fun x c e z => ?_, fun p hp z => ?_⟩
  · obtain ⟨v, q⟩ := I.cell x c e
    exact absurd (Nat.lt_of_lt_of_le q.lt (by rw [z]; exact hb)) (Nat.lt_irrefl _)
  · exact absurd (Nat.lt_of_lt_of_le (Heap.lt_size (I.pin p hp).1) (by rw [z]; exact hb)) (Nat.lt_irrefl _)
structure Turn (P : Program) (w : World) (K : PySem.W.Frag) (tg : Expr) (J : It) (fp : List Addr) (it : Addr) (tn : Nat → Heap → Prop) : Prop where
  mem : it ∈ fp
  obj : ∀ i h, tn i h → ∀ b ∈ fp, ∃ o, h.get? b = some o ∧ ∀ v, o.data ≠ .cell v
  keep : ∀ i h h', tn i h → (∀ b ∈ fp, ∀ o, h.get? b = some o → h'.get? b = some o) → tn i h'
  item : ∀ (X : Cx), X.prog = P → X.w = w → X.K = K → X.calm = true → ∀ (i : Nat) (pins : List (Addr × Obj)) (s : Shared) (σ : St) (H : Hp) (E : Value → Shared → Prop), Inv X pins σ H s → (∀ b ∈ fp, FpOk X pins H b) → tn i s.heap → J.go i H →
    wpAny (model P w) X.A (pyNext (.ref it)) (fun r s1 => ∃ u, r = some u ∧
      wpAny (model P w) X.A (letOwnedTupleGo tg (.ref it) u) (fun _ s2 => ∃ x H', Inv X pins σ H' s2 ∧ RelV x u ∧ J.yld i H x H' ∧ tn (i + 1) s2.heap ∧ ∀ b ∈ fp, H' b = none) E s1) E s
  done : ∀ (X : Cx), X.prog = P → X.w = w → X.K = K → X.calm = true → ∀ (i : Nat) (pins : List (Addr × Obj)) (s : Shared) (σ : St) (H : Hp) (E : Value → Shared → Prop), Inv X pins σ H s → (∀ b ∈ fp, FpOk X pins H b) → tn i s.heap → J.stop i H →
    wpAny (model P w) X.A (pyNext (.ref it)) (fun r s1 => r = none ∧ Inv X pins σ H s1) E s
  self : ∀ (A : Around) (i : Nat) (s : Shared) (Q : Value → Shared → Prop) (E : Value → Shared → Prop), tn i s.heap → Q (.ref it) s → wpAny (model P w) A (pyIter (.ref it)) Q E s
abbrev TI := St → Hp → (It → Hp → Prop) → Prop
def PIE (X : Cx) (pins : List (Addr × Obj)) (σ : St) (tg : Expr) (R : It → Hp → Prop) (itv : Value) (s2 : Shared) : Prop :=
  ∃ (it : Addr) (fp : List Addr) (tn : Nat → Heap → Prop) (J : It) (H' : Hp), itv = .ref it ∧ Inv X pins σ H' s2 ∧ Turn X.prog X.w X.K tg J fp it tn ∧ tn 0 s2.heap ∧ (∀ b ∈ fp, FpOk X pins H' b) ∧ R J H'
def PI (X : Cx) (tg iter : Expr) (wi : TI) : Prop :=
  ∀ (pins : List (Addr × Obj)) (s : Shared) (σ : St) (H : Hp) (R : It → Hp → Prop), Inv X pins σ H s → wi σ H R →
    wpAny (model X.prog X.w) X.A (eval iter X.env) (fun v s1 => wpAny (model X.prog X.w) X.A (pyIter v) (PIE X pins σ tg R) X.xe s1) X.xe s

theorem go_of {M : Model} {A : Around} {E : Value → Shared → Prop} {s : Shared} {tg : Expr} {it : Addr} {u : Value} {o : Obj} {n : String} {vs : Array Value} {Q : Unit → Shared → Prop} (ho : s.heap.get? it = some o) (hc : o.cls = .type n) (hd : o.data = .fields vs)
    (hn : ["enumerate", "zip", "dict_itemiterator", "dict_reverseitemiterator", "odict_iterator", "itertools.zip_longest", "itertools.pairwise"].contains n = false) (hQ : Q () s) : wpAny M A (letOwnedTupleGo tg (.ref it) u) Q E s := by
  unfold letOwnedTupleGo
  cases tg <;> first
    | exact wpAny_pure hQ
    | (cases u <;> first
        | exact wpAny_pure hQ
        | (refine wpAny_bind (wpAny_load ho ?_)
           rw [hc, hd]
           show wpAny M A (if (["enumerate", "zip", "dict_itemiterator", "dict_reverseitemiterator", "odict_iterator", "itertools.zip_longest", "itertools.pairwise"].contains n && vs[0]? == some (rawInt _)) = true then _ else _) Q E s
           rw [if_neg (by intro h; rw [hn, Bool.false_and] at h; cases h)]
           exact wpAny_pure hQ))

def Itl (K : PySem.W.Frag) (a : Addr) : It :=
  ⟨fun i H => ∃ xs x, SqL K H a xs ∧ xs[i]? = some x, fun i H x H' => H' = H ∧ ∀ xs, SqL K H a xs → xs[i]? = some x, fun i H => ∃ xs, SqL K H a xs ∧ xs.length ≤ i⟩
def Itt (K : PySem.W.Frag) (a : Addr) : It :=
  ⟨fun i H => ∃ xs x, SqT K H a xs ∧ xs[i]? = some x, fun i H x H' => H' = H ∧ ∀ xs, SqT K H a xs → xs[i]? = some x, fun i H => ∃ xs, SqT K H a xs ∧ xs.length ≤ i⟩
def Itr (lo : Int) (n : Nat) : It := ⟨fun i _ => i < n, fun i H x H' => H' = H ∧ x = .int (lo + i), fun i _ => n ≤ i⟩
theorem turn_list {P : Program} {w : World} {K : PySem.W.Frag} {tg : Expr} (a it : Addr) : Turn P w K tg (Itl K a) [it] it (fun i h => h.IsListIter it a i) where
  mem := by simp
  obj := fun i h st b hb => by
    have e : b = it := by simpa using hb
    subst e
    obtain ⟨o, e, c, d⟩ := st
    exact ⟨o, e, fun v z => by rw [d] at z; cases z⟩
  keep := fun i h h' st k => st.at fun o e => k it (by simp) o e
  item := by
    intro X hP hw hK hc i pins s σ H E I hf st hg
    subst hP hw hK
    obtain ⟨xs, x, hq, hx⟩ := hg
    obtain ⟨its, rv, p, hz⟩ := I.list hq
    obtain ⟨u, hu, ru⟩ := rv.get hx
    obtain ⟨f0, f1, f2, f3, f4, f5⟩ := hf it (by simp)
    refine wpAny_pyNext_list_item st p.isList (x := u) (by simpa using hu) fun h' st' sb => ?_
    have I1 : Inv X pins σ H { s with heap := h' } := I.turned (t' := s.toks) (fun b o hb e => (sb.2 b hb).trans e) f0 f1 f3 f4 f5
    obtain ⟨o, e, c, d⟩ := id st'
    exact ⟨u, rfl, go_of (s := { s with heap := h' }) e c d (by decide) ⟨x, H, I1, ru, ⟨rfl, fun ys hy => by rw [I.list_inj hy hq]; exact hx⟩, st', fun b hb => (hf b hb).1⟩⟩
  done := by
    intro X hP hw hK hc i pins s σ H E I hf st hg
    subst hP hw hK
    obtain ⟨xs, hq, hx⟩ := hg
    obtain ⟨its, rv, p, hz⟩ := I.list hq
    obtain ⟨f0, f1, f2, f3, f4, f5⟩ := hf it (by simp)
    have hl := rv.length
    exact wpAny_pyNext_list_end (I.ok.hd hc) st p.isList (by simp; omega) fun h' eb => ⟨rfl, I.turned (t' := s.toks) (fun b o hb e => eb b o hb e) f0 f1 f3 f4 f5⟩
  self := fun _ _ _ _ _ st h => wpAny_pyIter_listiter st h
theorem turn_tuple {P : Program} {w : World} {K : PySem.W.Frag} {tg : Expr} (a it : Addr) : Turn P w K tg (Itt K a) [it] it (fun i h => h.IsTupleIter it a i) where
  mem := by simp
  obj := fun i h st b hb => by
    have e : b = it := by simpa using hb
    subst e
    obtain ⟨o, e, c, d⟩ := st
    exact ⟨o, e, fun v z => by rw [d] at z; cases z⟩
  keep := fun i h h' st k => st.at fun o e => k it (by simp) o e
  item := by
    intro X hP hw hK hc i pins s σ H E I hf st hg
    subst hP hw hK
    obtain ⟨xs, x, hq, hx⟩ := hg
    obtain ⟨its, rv, p, hz⟩ := I.tuple hq
    obtain ⟨u, hu, ru⟩ := rv.get hx
    obtain ⟨f0, f1, f2, f3, f4, f5⟩ := hf it (by simp)
    refine wpAny_pyNext_tuple_item st (show s.heap.IsTuple a its.toArray from p) (x := u) (by simpa using hu) fun h' st' sb => ?_
    have I1 : Inv X pins σ H { s with heap := h' } := I.turned (t' := s.toks) (fun b o hb e => (sb.2 b hb).trans e) f0 f1 f3 f4 f5
    obtain ⟨o, e, c, d⟩ := id st'
    exact ⟨u, rfl, go_of (s := { s with heap := h' }) e c d (by decide) ⟨x, H, I1, ru, ⟨rfl, fun ys hy => by rw [I.tuple_inj hy hq]; exact hx⟩, st', fun b hb => (hf b hb).1⟩⟩
  done := by
    intro X hP hw hK hc i pins s σ H E I hf st hg
    subst hP hw hK
    obtain ⟨xs, hq, hx⟩ := hg
    obtain ⟨its, rv, p, hz⟩ := I.tuple hq
    obtain ⟨f0, f1, f2, f3, f4, f5⟩ := hf it (by simp)
    have hl := rv.length
    exact wpAny_pyNext_tuple_end (I.ok.hd hc) st (show s.heap.IsTuple a its.toArray from p) (by simp; omega) fun h' eb => ⟨rfl, I.turned (t' := s.toks) (fun b o hb e => eb b o hb e) f0 f1 f3 f4 f5⟩
  self := fun _ _ _ _ _ st h => wpAny_pyIter_tupleiter st h
theorem turn_range {P : Program} {w : World} {K : PySem.W.Frag} {tg : Expr} (it : Addr) (lo : Int) (n : Nat) : Turn P w K tg (Itr lo n) [it] it (fun i h => IsRangeIter h it (lo + (i : Nat) * 1) ((n : Int) - (i : Nat)) 1) where
  mem := by simp
  obj := fun i h st b hb => by
    have e : b = it := by simpa using hb
    subst e
    exact ⟨_, st, fun v z => by
      have z' : Data.fields _ = Data.cell v := z
      cases z'⟩
  keep := fun i h h' st k => k it (by simp) _ st
  item := by
    intro X hP hw hK hc i pins s σ H E I hf st hg
    subst hP hw hK
    obtain ⟨f0, f1, f2, f3, f4, f5⟩ := hf it (by simp)
    have W := Walks.range (prog := X.prog) (w := X.w) (I.ok.hd hc) it lo 1 n
    refine W.item i s _ _ hg st fun v h' tk hv st' kk => ?_
    obtain ⟨t, rfl⟩ := hv
    have I1 : Inv X pins σ H { s with heap := h', toks := tk } := I.turned (fun b o hb e => kk b o (by simpa using hb) e) f0 f1 f3 f4 f5
    refine ⟨_, rfl, go_of (s := { s with heap := h', toks := tk }) (n := "range_iterator") st' rfl rfl (by decide) ⟨.int (lo + i), H, I1, ⟨t, ?_⟩, ⟨rfl, rfl⟩, st', fun b hb => (hf b hb).1⟩⟩
    rw [Int.mul_one]
  done := by
    intro X hP hw hK hc i pins s σ H E I hf st hg
    subst hP hw hK
    obtain ⟨f0, f1, f2, f3, f4, f5⟩ := hf it (by simp)
    exact wpAny_pyNext_range_end (I.ok.hd hc) st (by have : n ≤ i := hg; omega) fun h' eb => ⟨rfl, I.turned (t' := s.toks) (fun b o hb e => eb b o hb e) f0 f1 f3 f4 f5⟩
  self := fun _ _ _ _ _ st h => wpAny_pyIter_rangeiter st h
end L2

namespace L2
open PySem PySem.Spec PyProof.Rows
section
variable {X : Cx} {tg : Expr}
def iList (K : PySem.W.Frag) (tl : TE) : TI := fun σ H R => tl σ H fun x H1 => ∃ a, x = .ref a ∧ (∃ xs, SqL K H1 a xs) ∧ R (Itl K a) H1
def iTup (K : PySem.W.Frag) (tl : TE) : TI := fun σ H R => tl σ H fun x H1 => ∃ a, x = .ref a ∧ (∃ xs, SqT K H1 a xs) ∧ R (Itt K a) H1
theorem pi_list {l : Expr} {tl : TE} (hl : PE X l tl) : PI X tg l (iList X.K tl) := by
  intro pins s σ H R I h
  refine thn (hl pins s σ H _ I h) fun v s1 hz => ?_
  obtain ⟨x, H1, I1, r1, q1⟩ := hz
  obtain ⟨a, e, ⟨xs, hq⟩, q⟩ := q1
  subst e
  cases r1
  obtain ⟨its, rv, p, hz⟩ := I1.list hq
  refine wpAny_pyIter_list p.isList ?_
  refine ⟨s1.heap.objs.size, [s1.heap.objs.size], _, _, H1, rfl, I1.kept (t' := s1.toks) fun b o e => Heap.get?_push_of_some _ e, turn_list a _, ⟨_, Heap.get?_push_size _ rfl, rfl, rfl⟩, fun b hb => ?_, q⟩
  have e : b = s1.heap.objs.size := by simpa using hb
  subst e
  exact I1.fpOk (Nat.le_refl _) (I1.hok.fresh (Nat.le_refl _))
theorem pi_tup {l : Expr} {tl : TE} (hl : PE X l tl) : PI X tg l (iTup X.K tl) := by
  intro pins s σ H R I h
  refine thn (hl pins s σ H _ I h) fun v s1 hz => ?_
  obtain ⟨x, H1, I1, r1, q1⟩ := hz
  obtain ⟨a, e, ⟨xs, hq⟩, q⟩ := q1
  subst e
  cases r1
  obtain ⟨its, rv, p, hz⟩ := I1.tuple hq
  refine wpAny_pyIter_tuple (show s1.heap.IsTuple a its.toArray from p) ?_
  refine ⟨s1.heap.objs.size, [s1.heap.objs.size], _, _, H1, rfl, I1.kept (t' := s1.toks) fun b o e => Heap.get?_push_of_some _ e, turn_tuple a _, ⟨_, Heap.get?_push_size _ rfl, rfl, rfl⟩, fun b hb => ?_, q⟩
  have e : b = s1.heap.objs.size := by simpa using hb
  subst e
  exact I1.fpOk (Nat.le_refl _) (I1.hok.fresh (Nat.le_refl _))
theorem range_it {pins : List (Addr × Obj)} {σ : St} {H : Hp} {s : Shared} {R : It → Hp → Prop} {E : Value → Shared → Prop} {lo hi : Int} {t u v : Tok} {tk : Nat} (I : Inv X pins σ H s) (h1 : -(2 ^ 62) ≤ lo) (h2 : lo < 2 ^ 62) (h3 : -(2 ^ 62) ≤ hi) (h4 : hi < 2 ^ 62)
    (q : R (Itr lo (hi - lo).toNat) H) : wpAny (model X.prog X.w) X.A (pyIter (.ref s.heap.objs.size)) (PIE X pins σ tg R) E { s with heap := s.heap.push { cls := .type "range", data := .fields #[.int lo t, .int hi u, .int 1 v] }, toks := tk } := by
  refine wpAny_pyIter_range (IsRange.new ..) (small_one h1 h2 h3 h4) ?_
  have I1 : Inv X pins σ H { s with heap := s.heap.push { cls := .type "range", data := .fields #[.int lo t, .int hi u, .int 1 v] }, toks := tk } := I.kept fun b o e => Heap.get?_push_of_some _ e
  refine ⟨(s.heap.push { cls := .type "range", data := .fields #[.int lo t, .int hi u, .int 1 v] }).objs.size, [(s.heap.push { cls := .type "range", data := .fields #[.int lo t, .int hi u, .int 1 v] }).objs.size], _, _, H, rfl,
    I1.kept (t' := tk) fun b o e => Heap.get?_push_of_some _ e, turn_range _ lo (hi - lo).toNat, ?_, fun b hb => ?_, q⟩
  · have e1 : lo + ((0 : Nat) : Int) * 1 = lo := by simp
    have e2 : (((hi - lo).toNat : Nat) : Int) - ((0 : Nat) : Int) = Builtin.Range.rangeSize lo hi 1 := by rw [rangeSize_one]; split <;> omega
    show IsRangeIter _ _ (lo + ((0 : Nat) : Int) * 1) ((((hi - lo).toNat : Nat) : Int) - ((0 : Nat) : Int)) 1
    rw [e1, e2]
    exact Heap.get?_push_size _ rfl
  · have e : b = (s.heap.push { cls := .type "range", data := .fields #[.int lo t, .int hi u, .int 1 v] }).objs.size := by simpa using hb
    subst e
    exact I1.fpOk (Nat.le_refl _) (I1.hok.fresh (Nat.le_refl _))
def iRng1 (ta : TA) : TI := fun σ H R => ta σ H fun vs H1 => ∃ j : Int, vs = [.int j] ∧ -(2 ^ 62) ≤ j ∧ j < 2 ^ 62 ∧ R (Itr 0 j.toNat) H1
def iRng2 (ta : TA) : TI := fun σ H R => ta σ H fun vs H1 => ∃ i j : Int, vs = [.int i, .int j] ∧ (-(2 ^ 62) ≤ i ∧ i < 2 ^ 62 ∧ -(2 ^ 62) ≤ j ∧ j < 2 ^ 62) ∧ R (Itr i (j - i).toNat) H1
theorem pi_range1 {a : Expr} {ta : TA} {p pos : Pos} (hg : Gl X "range") (hm : X.mg "range" = none) (ha : PA X [a] ta) (hs : starEach [a] X.env = [(false, eval a X.env)] := by rfl) : PI X tg (.Call (.Name "range" p) [a] [] pos) (iRng1 ta) := by
  intro pins s σ H R I h
  refine Call_ (ld_blt I hg hm boot_range (PyProof.Rows.callWith_type1 (thn (ha pos pins s σ H _ I h) fun us s1 hz => ?_) hs rfl))
  obtain ⟨vs, H1, I1, r1, q1⟩ := hz
  obtain ⟨j, e, q1, q2, q⟩ := q1
  subst e
  cases r1 with
  | cons r rr =>
    cases rr
    obtain ⟨t, rfl⟩ := r
    exact call_range_1 (range_it I1 (by omega) (by omega) q1 q2 (by simpa using q))
theorem pi_range2 {a b : Expr} {ta : TA} {p pos : Pos} (hg : Gl X "range") (hm : X.mg "range" = none) (ha : PA X [a, b] ta) (hs : starEach [a, b] X.env = [(false, eval a X.env), (false, eval b X.env)] := by rfl) (hs2 : starEach [b] X.env = [(false, eval b X.env)] := by rfl) :
    PI X tg (.Call (.Name "range" p) [a, b] [] pos) (iRng2 ta) := by
  intro pins s σ H R I h
  refine Call_ (ld_blt I hg hm boot_range (PyProof.Rows.callWith_type1 (thn (ha pos pins s σ H _ I h) fun us s1 ⟨vs, H1, I1, r1, q1⟩ => ?_) (by rw [hs, hs2]) (by rw [hs2]; rfl)))
  obtain ⟨i, j, e, ⟨q1, q2, q3, q4⟩, q⟩ := q1
  subst e
  cases r1 with
  | cons r rr =>
    cases rr with
    | cons r' rr =>
      cases rr
      obtain ⟨t, rfl⟩ := r
      obtain ⟨t', rfl⟩ := r'
      exact call_range_2 (range_it I1 q1 q2 q3 q4 q)

def tFor (wi : TI) (g : TG) (tb : TS) : TS := fun D σ H => wi σ H fun J H1 => ∃ W : Nat → Nat → St → Hp → Prop, (∃ m, W 0 m σ H1) ∧ ∀ i m σ H, W i m σ H →
  (J.stop i H ∧ D.nx σ H) ∨ (J.go i H ∧ ∃ N : St → Hp → Prop, (∀ σ' H', N σ' H' → ∃ m', m' < m ∧ W (i + 1) m' σ' H') ∧ ∀ x H', J.yld i H x H' → g x σ H' fun σ2 H2 => tb { D with nx := N, ct := N, bk := D.nx } σ2 H2)
def pinsAt (fp : List Addr) (h : Heap) : List (Addr × Obj) := fp.filterMap fun b => (h.get? b).map fun o => (b, o)
theorem mem_pinsAt {fp : List Addr} {h : Heap} {b : Addr} {o : Obj} (hb : b ∈ fp) (e : h.get? b = some o) : (b, o) ∈ pinsAt fp h := List.mem_filterMap.mpr ⟨b, hb, by rw [e]; rfl⟩
theorem of_pinsAt {fp : List Addr} {h : Heap} {p : Addr × Obj} (hp : p ∈ pinsAt fp h) : p.1 ∈ fp ∧ h.get? p.1 = some p.2 := by
  obtain ⟨b, hb, e⟩ := List.mem_filterMap.mp hp
  cases q : h.get? b with
  | none => rw [q] at e; cases e
  | some o =>
    rw [q] at e
    have e' : (b, o) = p := Option.some.inj e
    subst e'
    exact ⟨hb, q⟩
theorem Inv.pinned {pins : List (Addr × Obj)} {σ : St} {H : Hp} {s : Shared} {fp : List Addr} (I : Inv X pins σ H s) (hf : ∀ b ∈ fp, FpOk X pins H b) (ho : ∀ b ∈ fp, ∃ o, s.heap.get? b = some o ∧ ∀ v, o.data ≠ .cell v) : Inv X (pins ++ pinsAt fp s.heap) σ H s :=
  I.pins_of fun p hp => (List.mem_append.mp hp).elim (fun z => I.pin p (List.mem_append_right _ z)) fun z => by
    obtain ⟨hb, e⟩ := of_pinsAt z
    obtain ⟨f0, f1, f2, _⟩ := hf p.1 hb
    obtain ⟨o, e', d⟩ := ho p.1 hb
    rw [e] at e'; cases e'
    exact ⟨e, f0, f1, f2, d⟩
theorem Inv.unpinned {pins pl : List (Addr × Obj)} {σ : St} {H : Hp} {s : Shared} (I : Inv X (pins ++ pl) σ H s) : Inv X pins σ H s := I.pins_of fun p hp => I.pin p (List.mem_append_right _ (List.mem_append_left _ hp))
theorem ps_for {iter : Expr} {body : List Stmt} {wi : TI} {g : TG} {tb : TS} {pos : Pos} (hp : PassesOwn (model X.prog X.w) X.A X.env X.xe) (hc : X.calm = true) (hi : PI X tg iter wi) (hg : PG X tg g) (hb : PSs X body tb)
    (hs : ∀ x, foldedSetIterable iter X.env x = pure x := by intro _; rfl) : PS X (.For tg iter body [] pos) (tFor wi g tb) := by
  intro pins s σ H D I h
  refine wpAny_For (thn (hi pins s σ H _ I h) fun v s1 h1 => thn h1 fun itv s2 h2 => ?_) hs
  obtain ⟨it, fp, tn, J, H2, e, I2, T, st2, f2, W, ⟨m0, w0⟩, turn⟩ := h2
  subst e
  -- what stays true of the iterator's objects through the loop
  have stat : ∀ {H' : Hp}, (∀ b ∈ fp, H' b = none) → ∀ b ∈ fp, FpOk X pins H' b := fun hn b hb => ⟨hn b hb, (f2 b hb).2⟩
  refine codeAny_forLoop_any (fun n s' => ∃ i σ' H', Inv X pins σ' H' s' ∧ tn i s'.heap ∧ (∀ b ∈ fp, H' b = none) ∧ W i n σ' H') ?_ m0 ⟨0, σ, H2, I2, st2, fun b hb => (f2 b hb).1, w0⟩
  rintro n s3 ⟨i, σ3, H3, I3, st3, fr3, w3⟩
  rcases turn i n σ3 H3 w3 with ⟨stop, qn⟩ | ⟨go, N, hN, step⟩
  · refine wpAny_passesOwn hp (thn (T.done X rfl rfl rfl hc i pins s3 σ3 H3 X.xe I3 (stat fr3) st3 stop) fun r s4 hz => ?_)
    obtain ⟨hr, I4⟩ := hz
    subst hr
    exact wpAny_execs_nil ⟨σ3, H3, I4, qn⟩
  · refine wpAny_passesOwn hp (thn (T.item X rfl rfl rfl hc i pins s3 σ3 H3 X.xe I3 (stat fr3) st3 go) fun r s4 hz => ?_)
    obtain ⟨u, hr, h4⟩ := hz
    subst hr
    refine wpAny_passesOwn hp (thn h4 fun _ s5 hz => ?_)
    obtain ⟨x, H5, I5, r5, y5, st5, fr5⟩ := hz
    have I5' := I5.pinned (stat fr5) (T.obj _ _ st5)
    refine wpAny_passesOwn hp (thn (hg _ s5 σ3 H5 x u _ I5' r5 (step x H5 y5)) fun _ s6 hz => ?_)
    obtain ⟨σ6, H6, I6, q6⟩ := hz
    refine wpAny_passesOwn hp (thn (hb _ s6 σ6 H6 _ I6 q6) fun f s7 q7 => ?_)
    have again : ∀ {σ7 : St} {H7 : Hp}, Inv X (pins ++ pinsAt fp s5.heap) σ7 H7 s7 → N σ7 H7 → ∃ m, m < n ∧ ∃ i σ' H', Inv X pins σ' H' s7 ∧ tn i s7.heap ∧ (∀ b ∈ fp, H' b = none) ∧ W i m σ' H' := fun {σ7 H7} I7 n7 => by
      obtain ⟨m', hm, w7⟩ := hN σ7 H7 n7
      refine ⟨m', hm, i + 1, σ7, H7, I7.unpinned, T.keep _ _ _ st5 fun b hb o e => (I7.pin (b, o) (List.mem_append_right _ (List.mem_append_right _ (mem_pinsAt hb e)))).1, fun b hb => ?_, w7⟩
      obtain ⟨o, e, d⟩ := T.obj _ _ st5 b hb
      exact (I7.pin (b, o) (List.mem_append_right _ (List.mem_append_right _ (mem_pinsAt hb e)))).2.1
    cases f with
    | next => obtain ⟨σ7, H7, I7, n7⟩ := q7; exact again I7 n7
    | cont => obtain ⟨σ7, H7, I7, n7⟩ := q7; exact again I7 n7
    | brk => obtain ⟨σ7, H7, I7, q7⟩ := q7; exact ⟨σ7, H7, I7.unpinned, q7⟩
    | ret v => obtain ⟨x7, σ7, H7, I7, r7, q7⟩ := q7; exact ⟨x7, σ7, H7, I7.unpinned, r7, q7⟩
end

theorem for_list {K : PySem.W.Frag} {a : Addr} {xs : List V} {g : TG} {tb : TS} {D : Ends} {σ : St} {H : Hp} (Pv : Nat → St → Hp → Prop) (h0 : Pv 0 σ H) (hl : ∀ i σ H, i ≤ xs.length → Pv i σ H → SqL K H a xs)
    (hs : ∀ i x σ H, xs[i]? = some x → Pv i σ H → g x σ H fun σ2 H2 => tb { D with nx := Pv (i + 1), ct := Pv (i + 1), bk := D.nx } σ2 H2) (hd : ∀ σ H, Pv xs.length σ H → D.nx σ H) :
    ∃ W : Nat → Nat → St → Hp → Prop, (∃ m, W 0 m σ H) ∧ ∀ i m σ H, W i m σ H →
      ((Itl K a).stop i H ∧ D.nx σ H) ∨ ((Itl K a).go i H ∧ ∃ N : St → Hp → Prop, (∀ σ' H', N σ' H' → ∃ m', m' < m ∧ W (i + 1) m' σ' H') ∧ ∀ x H', (Itl K a).yld i H x H' → g x σ H' fun σ2 H2 => tb { D with nx := N, ct := N, bk := D.nx } σ2 H2) := by
  refine ⟨fun i m σ H => m = xs.length - i ∧ i ≤ xs.length ∧ Pv i σ H, ⟨xs.length, by simp, Nat.zero_le _, h0⟩, ?_⟩
  rintro i m σ H ⟨rfl, hi, p⟩
  have q := hl i σ H hi p
  by_cases hlt : i < xs.length
  · refine .inr ⟨⟨xs, xs[i], q, by simp [hlt]⟩, Pv (i + 1), fun σ' H' p' => ⟨xs.length - (i + 1), by omega, rfl, hlt, p'⟩, fun x H' y => ?_⟩
    obtain ⟨e, y⟩ := y
    subst e
    exact hs i x σ _ (y xs q) p
  · have e : i = xs.length := by omega
    subst e
    exact .inl ⟨⟨xs, q, Nat.le_refl _⟩, hd σ H p⟩
theorem for_tup {K : PySem.W.Frag} {a : Addr} {xs : List V} {g : TG} {tb : TS} {D : Ends} {σ : St} {H : Hp} (Pv : Nat → St → Hp → Prop) (h0 : Pv 0 σ H) (hl : ∀ i σ H, i ≤ xs.length → Pv i σ H → SqT K H a xs)
    (hs : ∀ i x σ H, xs[i]? = some x → Pv i σ H → g x σ H fun σ2 H2 => tb { D with nx := Pv (i + 1), ct := Pv (i + 1), bk := D.nx } σ2 H2) (hd : ∀ σ H, Pv xs.length σ H → D.nx σ H) :
    ∃ W : Nat → Nat → St → Hp → Prop, (∃ m, W 0 m σ H) ∧ ∀ i m σ H, W i m σ H →
      ((Itt K a).stop i H ∧ D.nx σ H) ∨ ((Itt K a).go i H ∧ ∃ N : St → Hp → Prop, (∀ σ' H', N σ' H' → ∃ m', m' < m ∧ W (i + 1) m' σ' H') ∧ ∀ x H', (Itt K a).yld i H x H' → g x σ H' fun σ2 H2 => tb { D with nx := N, ct := N, bk := D.nx } σ2 H2) := by
  refine ⟨fun i m σ H => m = xs.length - i ∧ i ≤ xs.length ∧ Pv i σ H, ⟨xs.length, by simp, Nat.zero_le _, h0⟩, ?_⟩
  rintro i m σ H ⟨rfl, hi, p⟩
  have q := hl i σ H hi p
  by_cases hlt : i < xs.length
  · refine .inr ⟨⟨xs, xs[i], q, by simp [hlt]⟩, Pv (i + 1), fun σ' H' p' => ⟨xs.length - (i + 1), by omega, rfl, hlt, p'⟩, fun x H' y => ?_⟩
    obtain ⟨e, y⟩ := y
    subst e
    exact hs i x σ _ (y xs q) p
  · have e : i = xs.length := by omega
    subst e
    exact .inl ⟨⟨xs, q, Nat.le_refl _⟩, hd σ H p⟩
theorem for_range {lo : Int} {n : Nat} {g : TG} {tb : TS} {D : Ends} {σ : St} {H : Hp} (Pv : Nat → St → Hp → Prop) (h0 : Pv 0 σ H)
    (hs : ∀ i σ H, i < n → Pv i σ H → g (.int (lo + i)) σ H fun σ2 H2 => tb { D with nx := Pv (i + 1), ct := Pv (i + 1), bk := D.nx } σ2 H2) (hd : ∀ σ H, Pv n σ H → D.nx σ H) :
    ∃ W : Nat → Nat → St → Hp → Prop, (∃ m, W 0 m σ H) ∧ ∀ i m σ H, W i m σ H →
      ((Itr lo n).stop i H ∧ D.nx σ H) ∨ ((Itr lo n).go i H ∧ ∃ N : St → Hp → Prop, (∀ σ' H', N σ' H' → ∃ m', m' < m ∧ W (i + 1) m' σ' H') ∧ ∀ x H', (Itr lo n).yld i H x H' → g x σ H' fun σ2 H2 => tb { D with nx := N, ct := N, bk := D.nx } σ2 H2) := by
  refine ⟨fun i m σ H => m = n - i ∧ i ≤ n ∧ Pv i σ H, ⟨n, by simp, Nat.zero_le _, h0⟩, ?_⟩
  rintro i m σ H ⟨rfl, hi, p⟩
  by_cases hlt : i < n
  · refine .inr ⟨hlt, Pv (i + 1), fun σ' H' p' => ⟨n - (i + 1), by omega, rfl, hlt, p'⟩, fun x H' y => ?_⟩
    obtain ⟨e, y⟩ := y
    subst e y
    exact hs i σ _ hlt p
  · have e : i = n := by omega
    subst e
    exact .inl ⟨Nat.le_refl _, hd σ H p⟩
end L2

namespace L2
open PySem PySem.Spec PyProof.Rows

abbrev R2 := V → V → Hp → VK → Prop
def OpR (X : Cx) (f : Value → Value → Sem Value) (r : R2) : Prop :=
  ∀ (pins : List (Addr × Obj)) (s : Shared) (σ : St) (H : Hp) (x y : V) (v u : Value) (Q : VK), Inv X pins σ H s → RelV x v → RelV y u → r x y H Q →
    wpAny (model X.prog X.w) X.A (f v u) (EP X pins σ Q) X.xe s
def UnR (X : Cx) (f : Value → Sem Value) (r : V → Hp → VK → Prop) : Prop :=
  ∀ (pins : List (Addr × Obj)) (s : Shared) (σ : St) (H : Hp) (x : V) (v : Value) (Q : VK), Inv X pins σ H s → RelV x v → r x H Q →
    wpAny (model X.prog X.w) X.A (f v) (EP X pins σ Q) X.xe s
def CallR (X : Cx) (f : Value) (r : List V → Hp → VK → Prop) : Prop :=
  ∀ (pins : List (Addr × Obj)) (s : Shared) (σ : St) (H : Hp) (xs : List V) (us : List Value) (Q : VK), Inv X pins σ H s → Vals xs us → r xs H Q →
    wpAny (model X.prog X.w) X.A (call f us) (EP X pins σ Q) X.xe s
def tOp (r : R2) (ta tb : TE) : TE := fun σ H Q => ta σ H fun x H1 => tb σ H1 fun y H2 => r x y H2 Q
def tUn (r : V → Hp → VK → Prop) (ta : TE) : TE := fun σ H Q => ta σ H fun x H1 => r x H1 Q
def rI (C : Int → Int → Prop) (g : Int → Int → V) : R2 := fun x y H Q => ∃ i j, x = .int i ∧ y = .int j ∧ C i j ∧ Q (g i j) H
def rI0 (g : Int → Int → V) : R2 := fun x y H Q => ∃ i j, x = .int i ∧ y = .int j ∧ Q (g i j) H
def rU (g : Int → V) : V → Hp → VK → Prop := fun x H Q => ∃ i, x = .int i ∧ Q (g i) H

section
variable {X : Cx} {a b c : Expr} {ta tb tc : TE} {pos : Pos}

theorem binT (ha : PE X a ta) (hb : PE X b tb) {pins : List (Addr × Obj)} {s : Shared} {σ : St} {H : Hp} {R : V → V → Hp → Prop} (I : Inv X pins σ H s)
    (h : ta σ H fun x H1 => tb σ H1 fun y H2 => R x y H2) {Q : Value → Shared → Prop} {f : Value → Value → Sem Value}
    (hf : ∀ v u s2 x y H2, Inv X pins σ H2 s2 → RelV x v → RelV y u → R x y H2 → wpAny (model X.prog X.w) X.A (f v u) Q X.xe s2) :
    wpAny (model X.prog X.w) X.A (eval a X.env) (fun v s₁ => wpAny (model X.prog X.w) X.A (eval b X.env) (fun u s₂ => wpAny (model X.prog X.w) X.A (f v u) Q X.xe s₂) X.xe s₁) X.xe s := by
  refine thn (ha pins s σ H _ I h) fun v s1 hz => ?_
  obtain ⟨x, H1, I1, r1, q1⟩ := hz
  refine thn (hb pins s1 σ H1 _ I1 q1) fun u s2 hz => ?_
  obtain ⟨y, H2, I2, r2, q2⟩ := hz
  exact hf v u s2 x y H2 I2 r1 r2 q2

theorem pe_op {op : Operator} {r : R2} (ho : OpR X (binaryOp op) r) (ha : PE X a ta) (hb : PE X b tb) : PE X (.BinOp a op b pos) (tOp r ta tb) := by
  intro pins s σ H Q I h
  exact wpAny_BinOp (binT ha hb I h fun v u s2 x y H2 I2 rx ry q => ho pins s2 σ H2 x y v u Q I2 rx ry q)
theorem pe_un {op : UnaryOp} {r : V → Hp → VK → Prop} (ho : UnR X (unaryOp op) r) (ha : PE X a ta) : PE X (.UnaryOp op a pos) (tUn r ta) := by
  intro pins s σ H Q I h
  exact UnaryOp_ (thn (ha pins s σ H _ I h) fun v s1 ⟨x, H1, I1, r1, q1⟩ => ho pins s1 σ H1 x v Q I1 r1 q1)
theorem opI {f : Value → Value → Sem Value} {C : Int → Int → Prop} {g : Int → Int → Int}
    (rule : ∀ (i j : Int) (t u : Tok) (s : Shared) (Q : Value → Shared → Prop) (E : Value → Shared → Prop), C i j → Q (.int (g i j) s.toks) { s with toks := s.toks + 1 } → wpAny (model X.prog X.w) X.A (f (.int i t) (.int j u)) Q E s) :
    OpR X f (rI C fun i j => .int (g i j)) := by
  intro pins s σ H x y v u Q I rx ry h
  obtain ⟨i, j, rfl, rfl, hc, q⟩ := h
  obtain ⟨t, rfl⟩ := rx
  obtain ⟨t', rfl⟩ := ry
  exact rule i j t t' s _ _ hc ⟨.int (g i j), H, I.tok _, ⟨_, rfl⟩, q⟩
theorem opI0 {f : Value → Value → Sem Value} {g : Int → Int → Int}
    (rule : ∀ (i j : Int) (t u : Tok) (s : Shared) (Q : Value → Shared → Prop) (E : Value → Shared → Prop), Q (.int (g i j) s.toks) { s with toks := s.toks + 1 } → wpAny (model X.prog X.w) X.A (f (.int i t) (.int j u)) Q E s) :
    OpR X f (rI0 fun i j => .int (g i j)) := by
  intro pins s σ H x y v u Q I rx ry h
  obtain ⟨i, j, rfl, rfl, q⟩ := h
  obtain ⟨t, rfl⟩ := rx
  obtain ⟨t', rfl⟩ := ry
  exact rule i j t t' s _ _ ⟨.int (g i j), H, I.tok _, ⟨_, rfl⟩, q⟩
theorem opB0 {f : Value → Value → Sem Value} {g : Int → Int → Bool}
    (rule : ∀ (i j : Int) (t u : Tok) (s : Shared) (Q : Value → Shared → Prop) (E : Value → Shared → Prop), Q (.bool (g i j)) s → wpAny (model X.prog X.w) X.A (f (.int i t) (.int j u)) Q E s) :
    OpR X f (rI0 fun i j => .bl (g i j)) := by
  intro pins s σ H x y v u Q I rx ry h
  obtain ⟨i, j, rfl, rfl, q⟩ := h
  obtain ⟨t, rfl⟩ := rx
  obtain ⟨t', rfl⟩ := ry
  exact rule i j t t' s _ _ ⟨.bl (g i j), H, I, rfl, q⟩

def CDiv (i j : Int) : Prop := 0 < j ∧ j < 1073741824
def CMul (i j : Int) : Prop := (-(2 ^ 64) < i ∧ i < 2 ^ 64) ∨ (-(2 ^ 64) < j ∧ j < 2 ^ 64)
theorem CMul.ok {i j : Int} (h : CMul i j) : IntMulOk i j := by
  rcases h with ⟨h1, h2⟩ | ⟨h1, h2⟩
  · exact .of_left (intBits_le_64 h1 h2)
  · exact .of_right (intBits_le_64 h1 h2)
theorem op_add : OpR X (binaryOp .Add) (rI0 fun i j => .int (i + j)) := opI0 fun _ _ _ _ _ _ _ q => add_int q
theorem op_sub : OpR X (binaryOp .Sub) (rI0 fun i j => .int (i - j)) := opI0 fun _ _ _ _ _ _ _ q => sub_int q
theorem op_mul : OpR X (binaryOp .Mult) (rI CMul fun i j => .int (i * j)) := opI fun _ _ _ _ _ _ _ hc q => mul_int q hc.ok
theorem op_fdiv : OpR X (binaryOp .FloorDiv) (rI CDiv fun i j => .int (i / j)) := opI fun i j _ _ _ _ _ hc q => by
  have h1 : (0 : Int) < j := hc.1
  have h2 : j < 1073741824 := hc.2
  exact floordiv_int (by omega) (by rw [Int.fdiv_eq_ediv_of_nonneg i (by omega)]; exact q) (.inl (PyProof.noPylong_small (by omega)))
theorem op_mod : OpR X (binaryOp .Mod) (rI (fun _ j => 0 < j) fun i j => .int (i % j)) := opI fun i j _ _ _ _ _ hc q => by
  have h1 : (0 : Int) < j := hc
  exact mod_int' (by omega) (by rw [Int.fmod_eq_emod_of_nonneg i (by omega)]; exact q)
theorem unI {f : Value → Sem Value} {g : Int → Int}
    (rule : ∀ (i : Int) (t : Tok) (s : Shared) (Q : Value → Shared → Prop) (E : Value → Shared → Prop), Q (.int (g i) s.toks) { s with toks := s.toks + 1 } → wpAny (model X.prog X.w) X.A (f (.int i t)) Q E s) :
    UnR X f (rU fun i => .int (g i)) := by
  intro pins s σ H x v Q I rx h
  obtain ⟨i, rfl, q⟩ := h
  obtain ⟨t, rfl⟩ := rx
  exact rule i t s _ _ ⟨.int (g i), H, I.tok _, ⟨_, rfl⟩, q⟩
theorem un_neg : UnR X (unaryOp .USub) (rU fun i => .int (-i)) := unI fun _ _ _ _ _ q => neg_int q
end

def scal : V → V → Bool
  | .non, .non => true | .non, .int _ => true | .int _, .non => true | .non, .bl _ => true | .bl _, .non => true | .non, .str _ => true | .str _, .non => true
  | .int _, .int _ => true | .bl _, .bl _ => true | .str _, .str _ => true | .byt _, .byt _ => true
  | .int _, .str _ => true | .str _, .int _ => true | .bl _, .str _ => true | .str _, .bl _ => true
  | _, _ => false
def rEq : R2 := fun x y H Q => scal x y = true ∧ Q (.bl (decide (x = y))) H
def rNe : R2 := fun x y H Q => scal x y = true ∧ Q (.bl (!decide (x = y))) H

theorem dec_int {i j : Int} : decide (V.int i = V.int j) = (i == j) := by
  rw [Bool.eq_iff_iff]
  simp
theorem dec_bl {i j : Bool} : decide (V.bl i = V.bl j) = (i == j) := by
  rw [Bool.eq_iff_iff]
  simp
theorem dec_str {i j : Str} : decide (V.str i = V.str j) = (i == j) := by
  rw [Bool.eq_iff_iff]
  simp
theorem dec_byt {i j : Array UInt8} : decide (V.byt i = V.byt j) = (i.toList == j.toList) := by
  rw [Bool.eq_iff_iff]
  cases i
  cases j
  simp

section
variable {X : Cx} {a b c : Expr} {ta tb tc : TE} {pos : Pos}
theorem fin_bl {pins : List (Addr × Obj)} {σ : St} {H : Hp} {s : Shared} {Q : VK} {k k' : Bool} (I : Inv X pins σ H s) (q : Q (.bl k) H) (e : k = k') : EP X pins σ Q (.bool k') s := by
  subst e
  exact ⟨.bl k, H, I, rfl, q⟩
theorem op_eq : OpR X (compareOp .Eq) rEq := by
  intro pins s σ H x y v u Q I rx ry h
  obtain ⟨hs, q⟩ := h
  cases x with
  | non =>
    cases rx
    cases y with
    | non => cases ry; exact PySem.EqNone.eq_none_none (fin_bl I q (by simp))
    | bl j => cases ry; exact PySem.EqNone.eq_none_bool (fin_bl I q (by simp))
    | int j => obtain ⟨t', rfl⟩ := ry; exact PySem.EqNone.eq_none_int (fin_bl I q (by simp))
    | str j => obtain ⟨t', rfl⟩ := ry; exact PySem.EqNone.eq_none_str (fin_bl I q (by simp))
    | _ => exact absurd (show false = true from hs) Bool.false_ne_true
  | bl i =>
    cases rx
    cases y with
    | non => cases ry; exact PySem.EqNone.eq_bool_none (fin_bl I q (by simp))
    | bl j => cases ry; exact eq_bool (fin_bl I q dec_bl)
    | str j => obtain ⟨t', rfl⟩ := ry; exact PySem.EqMixed.eq_bool_str (fin_bl I q (by simp))
    | _ => exact absurd (show false = true from hs) Bool.false_ne_true
  | int i =>
    obtain ⟨t, rfl⟩ := rx
    cases y with
    | non => cases ry; exact PySem.EqNone.eq_int_none (fin_bl I q (by simp))
    | int j => obtain ⟨t', rfl⟩ := ry; exact eq_int (fin_bl I q dec_int)
    | str j => obtain ⟨t', rfl⟩ := ry; exact PySem.EqMixed.eq_int_str (fin_bl I q (by simp))
    | _ => exact absurd (show false = true from hs) Bool.false_ne_true
  | str i =>
    obtain ⟨t, rfl⟩ := rx
    cases y with
    | non => cases ry; exact PySem.EqNone.eq_str_none (fin_bl I q (by simp))
    | bl j => cases ry; exact PySem.EqMixed.eq_str_bool (fin_bl I q (by simp))
    | int j => obtain ⟨t', rfl⟩ := ry; exact PySem.EqMixed.eq_str_int (fin_bl I q (by simp))
    | str j => obtain ⟨t', rfl⟩ := ry; exact eq_str (fin_bl I q dec_str)
    | _ => exact absurd (show false = true from hs) Bool.false_ne_true
  | byt i =>
    obtain ⟨t, rfl⟩ := rx
    cases y with
    | byt j => obtain ⟨t', rfl⟩ := ry; exact PySem.W.eq_bytes (fin_bl I q dec_byt)
    | _ => exact absurd (show false = true from hs) Bool.false_ne_true
  | _ => cases y <;> exact absurd (show false = true from hs) Bool.false_ne_true
theorem op_ne : OpR X (compareOp .NotEq) rNe := by
  intro pins s σ H x y v u Q I rx ry h
  obtain ⟨hs, q⟩ := h
  cases x with
  | non =>
    cases rx
    cases y with
    | non => cases ry; exact PySem.EqNone.ne_none_none (fin_bl I q (by simp))
    | bl j => cases ry; exact PySem.EqNone.ne_none_bool (fin_bl I q (by simp))
    | int j => obtain ⟨t', rfl⟩ := ry; exact PySem.EqNone.ne_none_int (fin_bl I q (by simp))
    | str j => obtain ⟨t', rfl⟩ := ry; exact PySem.EqNone.ne_none_str (fin_bl I q (by simp))
    | _ => exact absurd (show false = true from hs) Bool.false_ne_true
  | bl i =>
    cases rx
    cases y with
    | non => cases ry; exact PySem.EqNone.ne_bool_none (fin_bl I q (by simp))
    | bl j => cases ry; exact ne_bool (fin_bl I q (congrArg not dec_bl))
    | str j => obtain ⟨t', rfl⟩ := ry; exact PySem.EqMixed.ne_bool_str (fin_bl I q (by simp))
    | _ => exact absurd (show false = true from hs) Bool.false_ne_true
  | int i =>
    obtain ⟨t, rfl⟩ := rx
    cases y with
    | non => cases ry; exact PySem.EqNone.ne_int_none (fin_bl I q (by simp))
    | int j => obtain ⟨t', rfl⟩ := ry; exact ne_int (fin_bl I q (congrArg not dec_int))
    | str j => obtain ⟨t', rfl⟩ := ry; exact PySem.EqMixed.ne_int_str (fin_bl I q (by simp))
    | _ => exact absurd (show false = true from hs) Bool.false_ne_true
  | str i =>
    obtain ⟨t, rfl⟩ := rx
    cases y with
    | non => cases ry; exact PySem.EqNone.ne_str_none (fin_bl I q (by simp))
    | bl j => cases ry; exact PySem.EqMixed.ne_str_bool (fin_bl I q (by simp))
    | int j => obtain ⟨t', rfl⟩ := ry; exact PySem.EqMixed.ne_str_int (fin_bl I q (by simp))
    | str j => obtain ⟨t', rfl⟩ := ry; exact ne_str (fin_bl I q (congrArg not dec_str))
    | _ => exact absurd (show false = true from hs) Bool.false_ne_true
  | byt i =>
    obtain ⟨t, rfl⟩ := rx
    cases y with
    | byt j => obtain ⟨t', rfl⟩ := ry; exact PySem.W.ne_bytes (fin_bl I q (congrArg not dec_byt))
    | _ => exact absurd (show false = true from hs) Bool.false_ne_true
  | _ => cases y <;> exact absurd (show false = true from hs) Bool.false_ne_true

theorem op_lt : OpR X (compareOp .Lt) (rI0 fun i j => .bl (decide (i < j))) := opB0 fun _ _ _ _ _ _ _ q => lt_int q
theorem op_le : OpR X (compareOp .LtE) (rI0 fun i j => .bl (decide (i ≤ j))) := opB0 fun _ _ _ _ _ _ _ q => le_int q
theorem op_gt : OpR X (compareOp .Gt) (rI0 fun i j => .bl (decide (j < i))) := opB0 fun _ _ _ _ _ _ _ q => gt_int q
theorem op_ge : OpR X (compareOp .GtE) (rI0 fun i j => .bl (decide (j ≤ i))) := opB0 fun _ _ _ _ _ _ _ q => ge_int q
theorem nomark (b : Expr) {op : CmpOp} (h : op ≠ .In := by decide) (h2 : op ≠ .NotIn := by decide) : behindInMarks op b = false := by
  have e1 : (op == CmpOp.In) = false := by cases op <;> first | rfl | exact absurd rfl h
  have e2 : (op == CmpOp.NotIn) = false := by cases op <;> first | rfl | exact absurd rfl h2
  cases b <;> simp [behindInMarks, e1, e2]
theorem pe_cmpR {op : CmpOp} {r : R2} (ho : OpR X (compareOp op) r) (ha : PE X a ta) (hb : PE X b tb) (hm : behindInMarks op b = false) : PE X (.Compare a [op] [b] pos) (tOp r ta tb) := by
  intro pins s σ H Q I h
  exact wpAny_Compare1 (binT ha hb I h fun v u s2 x y H2 I2 rx ry q => ho pins s2 σ H2 x y v u Q I2 rx ry q) hm
def tTest (t : TE) : TT := fun σ H Q => t σ H fun x H' => ∃ k, x = .bl k ∧ Q k H'
theorem pt_cmpR {op : CmpOp} {r : R2} (ho : OpR X (compareOp op) r) (ha : PE X a ta) (hb : PE X b tb) (hm : behindInMarks op b = false) : PT X (.Compare a [op] [b] pos) (tTest (tOp r ta tb)) := by
  intro pins s σ H Q I h
  refine wpAny_isTrue_Compare1 (thn (ha pins s σ H _ I h) fun v s1 ⟨x, H1, I1, r1, q1⟩ => thn (hb pins s1 σ H1 _ I1 q1) fun u s2 ⟨y, H2, I2, r2, q2⟩ =>
    thn (ho pins s2 σ H2 x y v u _ I2 r1 r2 q2) fun c s3 ⟨z, H3, I3, r3, k, e, q3⟩ => ?_) hm
  subst e
  cases r3
  exact wpAny_truthy_bool ⟨H3, I3, q3⟩
theorem line63 : (sizeLine : Nat) < 2 ^ 63 := by rw [sizeLine_eq]; decide
theorem op_add_str : OpR X (binaryOp .Add) (fun x y H Q => ∃ i j, x = .str i ∧ y = .str j ∧ i.length + j.length ≤ sizeLine ∧ Q (.str (i ++ j)) H) := by
  intro pins s σ H x y v u Q I rx ry h
  obtain ⟨i, j, rfl, rfl, hz, q⟩ := h
  obtain ⟨t, rfl⟩ := rx
  obtain ⟨t', rfl⟩ := ry
  exact add_str (fun t' tk => ⟨.str (i ++ j), H, I.tok _, ⟨_, rfl⟩, q⟩) hz
theorem vals1 {x : V} {us : List Value} (r : Vals [x] us) : ∃ u, us = [u] ∧ RelV x u := by
  cases r with
  | cons r1 r2 => cases r2; exact ⟨_, rfl, r1⟩
theorem vals2 {x y : V} {us : List Value} (r : Vals [x, y] us) : ∃ u w', us = [u, w'] ∧ RelV x u ∧ RelV y w' := by
  cases r with
  | cons r1 r2 =>
    cases r2 with
    | cons r3 r4 => cases r4; exact ⟨_, _, rfl, r1, r3⟩
theorem call_max2 (hc : X.calm = true) : CallR X (.builtin "max") (fun xs H Q => ∃ i j, xs = [.int i, .int j] ∧ Q (.int (if j > i then j else i)) H) := by
  intro pins s σ H xs us Q I r h
  obtain ⟨i, j, rfl, q⟩ := h
  obtain ⟨u, w', rfl, ⟨t, rfl⟩, ⟨t', rfl⟩⟩ := vals2 r
  refine max_two_ints (I.ok.hd hc) fun h' tk k => ⟨_, H, I.kept k, ?_, q⟩
  by_cases hj : j > i
  · rw [if_pos hj, if_pos hj]; exact ⟨_, rfl⟩
  · rw [if_neg hj, if_neg hj]; exact ⟨_, rfl⟩
end
end L2

namespace L2
open PySem PySem.Spec PyProof.Rows

structure ObjM (h : Heap) (x dx C : Addr) (mA : Str → Option Value) : Prop where
  obj : h.get? x = some (PySem.W.instObj C dx)
  ns : h.Ns1 dx mA
  ne : dx ≠ x

theorem lookIn_ns {h : Heap} {dx : Addr} {mA : Str → Option Value} (n : h.Ns1 dx mA) : ∃ od, h.get? dx = some od ∧ ∀ name, PySem.W.lookIn name od = some (mA name) := by
  obtain ⟨o, es, ep, ho, hd, hk, _, hm⟩ := n
  refine ⟨o, ho, fun name => ?_⟩
  have e := hm name
  unfold nsFind findBy at e
  rw [← Array.find?_toList] at e
  unfold PySem.W.lookIn
  rw [hd]
  dsimp only
  split
  · rename_i y q
    rw [q] at e
    exact congrArg some e
  · rename_i q
    rw [q] at e
    have a : es.toList.any (·.refKey) = false := by
      rw [List.any_eq_false]
      intro y hy
      obtain ⟨z, t, hkey⟩ := hk y (Array.mem_toList_iff.mp hy)
      simp [DictEntry.refKey, hkey]
    have a' : ¬ es.toList.any (·.refKey) = true := by rw [a]; exact Bool.false_ne_true
    rw [if_neg a']
    exact congrArg some e

theorem ObjM.look {h : Heap} {x dx C : Addr} {mA : Str → Option Value} (I : ObjM h x dx C mA) : ∃ od, PySem.W.InstAt h x (PySem.W.instObj C dx) C (some od) ∧ ∀ name, PySem.W.lookIn name od = some (mA name) :=
  let ⟨od, ho, hl⟩ := lookIn_ns I.ns
  ⟨od, ⟨I.obj, rfl, rfl, ho⟩, hl⟩

section
variable {prog : Program} {w : World} {A : Around} {E : Value → Shared → Prop} {s : Shared} {K : PySem.W.Frag} {x dx C f : Addr} {mA : Str → Option Value} {name : Str} {v : Value}

theorem get_map {expr : Bool} {Q : Value → Shared → Prop} (X : K.In s.heap) (I : ObjM s.heap x dx C mA) (hg : PySem.W.plainGet K C name = true) (hh : PySem.W.hasDictIn K C = true)
    (ha : PySem.W.findIn K (.ref C) name = some none) (hv : mA name = some v) (hv' : PySem.W.handedIn v = true) (h : Q v { s with toks := s.toks + 1 }) :
    wpAny (model prog w) A (getAttr (.ref x) name expr) Q E s := by
  obtain ⟨od, J, hl⟩ := I.look
  exact PySem.W.get_value X J (PySem.W.plainGet_of hg).1 (PySem.W.findObj_own hh ha rfl (by rw [hl, hv])) hv' h

theorem get_meth {pl : Sem Bool} {Q : Value × List Value → Shared → Prop} (X : K.In s.heap) (I : ObjM s.heap x dx C mA) (hg : PySem.W.plainGet K C name = true)
    (hf : PySem.W.findIn K (.ref C) name = some (some (.ref f))) (ht : PySem.W.isFn K (.ref f) = true) (hv : mA name = none) (h : Q (.ref f, [.ref x]) s) :
    wpAny (model prog w) A (getMethod (.ref x) name pl) Q E s := by
  obtain ⟨od, J, hl⟩ := I.look
  exact PySem.W.method_fn X J (PySem.W.plainGet_of hg).1 (PySem.W.plainGet_of hg).2 hf (beq_iff_eq.mp ht) (by show (PySem.W.lookIn name od).map (·.isSome) = some false; rw [hl, hv]; rfl) h

theorem set_map {ns : List Str} {Q : Unit → Shared → Prop} (X : K.In s.heap) (I : ObjM s.heap x dx C mA)
    (hs : PySem.W.findIn K (.ref C) "__setattr__" = some (some (.builtin "object.__setattr__"))) (hp : PySem.W.plainOver K C = true) (ht : PySem.W.takerIn K C name = some none) (hh : PySem.W.hasDictIn K C = true)
    (hw : PySem.Within mA ns) (hsz : ns.length ≤ sizeLine)
    (h : ∀ h', ObjM h' x dx C (fun y => if y = name then some v else mA y) → Heap.SameBut dx s.heap h' → Q () { s with heap := h', toks := s.toks + 2 }) :
    wpAny (model prog w) A (setAttr (.ref x) name v) Q E s := by
  obtain ⟨od, J, hl⟩ := I.look
  refine PySem.W.set_plain X J hs (PySem.W.osa_open (s := { s with toks := s.toks + 1 }) (r := none) X J hp ht fun b => ?_)
  obtain ⟨cd, hc, hd'⟩ := PySem.W.any_some hh
  have hx : s.heap.get? x = some ⟨.ref C, some dx, .plain, #[]⟩ := I.obj
  refine wpAny_bind (wpAny_pure (wpAny_bind (wpAny_bind (wpAny_loadPart hx (wpAny_bind (PySem.W.Looks.here (s := { s with toks := s.toks + 1 }) (PySem.W.looks_clsIn X hc) ?_))))))
  rw [hd']
  refine wpAny_pure (a := some dx) (wpAny_bind (wpAny_pure (wpAny_bind ?_)))
  refine wpAny_nsSet1 (s := { s with toks := s.toks + 1 }) I.ns fun h' hn2 hs2 => ?_
  obtain ⟨oD, esD, epD, hoD, hdD, hcD⟩ := hn2.count (PySem.Within.cons name v hw)
  refine wpAny_bind (wpAny_lookBehind hoD (by rw [hdD]; exact pastItsLine_dict (Nat.le_trans hcD (by rw [List.length_cons]; omega))) ?_)
  exact wpAny_pure (h _ ⟨(hs2.2 _ (Ne.symm I.ne)).trans I.obj, hn2, I.ne⟩ hs2)

theorem make_map {R : Result → Shared → Prop} {vs : List Value} {kw : List (Str × Value)} (X : K.In s.heap) (hm : PySem.W.makesIn K C = true)
    (hi : PySem.W.findIn K (.ref C) "__init__" = some (some (.ref f))) (hf : PySem.W.typeIn K (.ref f) = some (.type "function"))
    (h : codeAny (model prog w) (A.under (.builtin "type.__call__" ⟨.ref C :: vs, kw⟩)) (.call (.ref f) ⟨.ref (s.heap.objs.size + 1) :: vs, kw⟩) (PySem.W.InitBack (s.heap.objs.size + 1) R)
      { s with heap := (s.heap.push PySem.W.emptyDict).push (PySem.W.instObj C s.heap.objs.size) }) :
    codeAny (model prog w) A (.call (.ref C) ⟨vs, kw⟩) R s := by
  obtain ⟨hh, g, d, t, os⟩ := s
  exact PySem.W.make_core (PySem.W.makes_of X hm) (PySem.W.looks_findIn X hi) (fun self => PySem.W.bind_fn X self hf) (.inl rfl) h
end

def putF (f : Str) (v : V) : List (Str × V) → List (Str × V)
  | [] => [(f, v)]
  | (g, x) :: r => if g = f then (g, v) :: r else (g, x) :: putF f v r
theorem lookup_putF (f g : Str) (v : V) : ∀ fs : List (Str × V), (putF f v fs).lookup g = if g = f then some v else fs.lookup g
  | [] => by
    show List.lookup g [(f, v)] = _
    by_cases h : g = f
    · have hb : (g == f) = true := beq_iff_eq.mpr h
      simp only [List.lookup, hb, if_pos h]
    · have hb : (g == f) = false := beq_eq_false_iff_ne.mpr h
      simp only [List.lookup, hb, if_neg h]
  | (k, x) :: r => by
    have ih := lookup_putF f g v r
    rw [show putF f v ((k, x) :: r) = (if k = f then (k, v) :: r else (k, x) :: putF f v r) from rfl]
    by_cases hk : k = f
    · rw [if_pos hk]
      by_cases h : g = k
      · have hb : (g == k) = true := beq_iff_eq.mpr h
        simp only [List.lookup, hb, if_pos (h.trans hk)]
      · have hb : (g == k) = false := beq_eq_false_iff_ne.mpr h
        simp only [List.lookup, hb, if_neg (fun e : g = f => h (e.trans hk.symm))]
    · rw [if_neg hk]
      by_cases h : g = k
      · have hb : (g == k) = true := beq_iff_eq.mpr h
        simp only [List.lookup, hb, if_neg (fun e : g = f => hk (h.symm.trans e))]
      · have hb : (g == k) = false := beq_eq_false_iff_ne.mpr h
        simp only [List.lookup, hb]
        exact ih
theorem keys_putF (f : Str) (v : V) : ∀ fs : List (Str × V), f ∈ (putF f v fs).map (·.1) ∧ ∀ g, g ∈ fs.map (·.1) → g ∈ (putF f v fs).map (·.1)
  | [] => ⟨by simp [putF], fun g h => by simp at h⟩
  | (k, x) :: r => by
    obtain ⟨i1, i2⟩ := keys_putF f v r
    rw [show putF f v ((k, x) :: r) = (if k = f then (k, v) :: r else (k, x) :: putF f v r) from rfl]
    by_cases hk : k = f
    · rw [if_pos hk]
      subst hk
      exact ⟨by simp, fun g h => by simpa using h⟩
    · rw [if_neg hk]
      refine ⟨?_, fun g h => ?_⟩
      · rw [List.map_cons]
        exact List.mem_cons_of_mem _ i1
      · rw [List.map_cons] at h ⊢
        rcases List.mem_cons.mp h with e | e
        · exact List.mem_cons.mpr (.inl e)
        · exact List.mem_cons_of_mem _ (i2 g e)
theorem length_putF (f : Str) (v : V) : ∀ fs : List (Str × V), (putF f v fs).length ≤ fs.length + 1
  | [] => by simp [putF]
  | (k, x) :: r => by
    have ih := length_putF f v r
    rw [show putF f v ((k, x) :: r) = (if k = f then (k, v) :: r else (k, x) :: putF f v r) from rfl]
    by_cases hk : k = f
    · rw [if_pos hk, List.length_cons, List.length_cons]; omega
    · rw [if_neg hk, List.length_cons, List.length_cons]; omega

theorem RelO.some_of {v : V} {o : Option Value} (r : RelO (some v) o) : ∃ u, o = some u ∧ RelV v u := by
  cases o with
  | none => exact (show False from r).elim
  | some u => exact ⟨u, rfl, r⟩
theorem RelO.none_of {o : Option Value} (r : RelO none o) : o = none := by
  cases o with
  | none => rfl
  | some u => exact (show False from r).elim
theorem handed_of {v : V} {u : Value} (r : RelV v u) : PySem.W.handedIn u = true := by
  cases v with
  | non => cases (show u = Value.none from r); rfl
  | bl b => cases (show u = Value.bool b from r); rfl
  | int i => obtain ⟨t, e⟩ := (show ∃ t, u = Value.int i t from r); cases e; rfl
  | str x => obtain ⟨t, e⟩ := (show ∃ t, u = Value.str x t from r); cases e; rfl
  | byt b => obtain ⟨t, e⟩ := (show ∃ t, u = Value.bytes b t from r); cases e; rfl
  | flt b => obtain ⟨t, e⟩ := (show ∃ t, u = Value.float b t from r); cases e; rfl
  | ref a => cases (show u = Value.ref a from r); rfl
  | ty n => cases (show u = Value.type n from r); rfl

section
variable {P : Program} {w : World} {H H' : Hp} {h h' : Heap} {a C dx : Addr} {fs fs' : List (Str × V)}
theorem ins_get (hok : HOk P w H h) (e : H a = some (.ins C dx fs)) : ∃ mA, ObjM h a dx C mA ∧ (∀ f, RelO (fs.lookup f) (mA f)) ∧ PySem.Within mA (fs.map (·.1)) ∧ fs.length ≤ 1000 ∧ H dx = some (.own a) := by
  obtain ⟨d, z, ne, ob, mA, n, r, q⟩ := (show ObjOk P w H h a (.ins C dx fs) from hok a _ e)
  exact ⟨mA, ⟨ob, n, ne⟩, r, q, z, d⟩
end

structure Cls (K : PySem.W.Frag) (C : Addr) : Prop where
  pg : PySem.W.plainGet K C Str.empty = true
  hd : PySem.W.hasDictIn K C = true
  po : PySem.W.plainOver K C = true
  sa : PySem.W.findIn K (.ref C) "__setattr__" = some (some (.builtin "object.__setattr__"))
theorem Cls.get {K : PySem.W.Frag} {C : Addr} (c : Cls K C) (f : Str) : PySem.W.plainGet K C f = true := c.pg
def NoAttr (K : PySem.W.Frag) (C : Addr) (f : Str) : Prop := PySem.W.findIn K (.ref C) f = some none
theorem NoAttr.taker {K : PySem.W.Frag} {C : Addr} {f : Str} (n : NoAttr K C f) : PySem.W.takerIn K C f = some none := by
  unfold PySem.W.takerIn
  rw [show PySem.W.findIn K (.ref C) f = some none from n]
  rfl
structure Meth (K : PySem.W.Frag) (C : Addr) (m : Str) (f : Addr) : Prop where
  at_ : PySem.W.findIn K (.ref C) m = some (some (.ref f))
  fn : PySem.W.isFn K (.ref f) = true
  kp : PySem.W.keepIn K (.ref f) = true

section
variable {X : Cx} {pins : List (Addr × Obj)} {σ : St} {H : Hp} {s : Shared} {a C dx : Addr} {fs : List (Str × V)} {f : Str} {v : V} {A : Around} {E : Value → Shared → Prop}

theorem getattr_ok {b : Bool} {Q : Value → Shared → Prop} (I : Inv X pins σ H s) (e : H a = some (.ins C dx fs)) (c : Cls X.K C) (n : NoAttr X.K C f) (l : fs.lookup f = some v)
    (h : ∀ u s', Inv X pins σ H s' → RelV v u → Q u s') : wpAny (model X.prog X.w) A (getAttr (.ref a) f b) Q E s := by
  obtain ⟨mA, O, r, _, _, _⟩ := ins_get I.hok e
  obtain ⟨u, hu, ru⟩ := RelO.some_of (v := v) (o := mA f) (by rw [← l]; exact r f)
  exact get_map I.kIn O (c.get f) c.hd n hu (handed_of ru) (h u _ (I.tok _) ru)

theorem getmeth_ok {m : Str} {g : Addr} {pl : Sem Bool} {Q : Value × List Value → Shared → Prop} (I : Inv X pins σ H s) (e : H a = some (.ins C dx fs)) (c : Cls X.K C) (k : Meth X.K C m g) (l : fs.lookup m = none)
    (h : Q (.ref g, [.ref a]) s) : wpAny (model X.prog X.w) A (getMethod (.ref a) m pl) Q E s := by
  obtain ⟨mA, O, r, _, _, _⟩ := ins_get I.hok e
  have hn : mA m = none := RelO.none_of (by rw [← l]; exact r m)
  exact get_meth I.kIn O (c.get m) k.at_ k.fn hn h

theorem setattr_ok {y : V} {u : Value} {Q : Unit → Shared → Prop} (I : Inv X pins σ H s) (e : H a = some (.ins C dx fs)) (c : Cls X.K C) (n : NoAttr X.K C f) (hl : fs.length < 1000) (ry : RelV y u)
    (h : ∀ s', Inv X pins σ (upd H a (.ins C dx (putF f y fs))) s' → Q () s') : wpAny (model X.prog X.w) A (setAttr (.ref a) f u) Q E s := by
  obtain ⟨mA, O, r, wi, _, ho⟩ := ins_get I.hok e
  have hz : (fs.map (·.1)).length ≤ sizeLine := by rw [List.length_map, sizeLine_eq]; omega
  refine set_map I.kIn O c.sa c.po n.taker c.hd wi hz fun h' O' sb => h _ ?_
  have hd : ∃ o, h'.get? dx = some o := let ⟨o, _, _, e', _⟩ := O'.ns; ⟨o, e'⟩
  refine I.write (x := a) (e := dx) (by rw [e]; exact True.intro) (.inr ho) (fun b q hb z => (sb.2 b hb).trans z) hd ?_
  refine ⟨by rw [upd_ne O.ne]; exact ho, ?_, O.ne, O'.obj, _, O'.ns, fun g => ?_, fun g hg => ?_⟩
  · have := length_putF f y fs; omega
  · show RelO ((putF f y fs).lookup g) (if g = f then some u else mA g)
    rw [lookup_putF]
    by_cases q : g = f
    · rw [if_pos q, if_pos q]; exact ry
    · rw [if_neg q, if_neg q]; exact r g
  · by_cases q : g = f
    · rw [q]; exact (keys_putF f y fs).1
    · refine (keys_putF f y fs).2 g (wi g fun z => hg ?_)
      show (if g = f then some u else mA g) = none
      rw [if_neg q]; exact z

theorem Inv.made (I : Inv X pins σ H s) : Inv X pins σ (upd (upd H s.heap.objs.size (.own (s.heap.objs.size + 1))) (s.heap.objs.size + 1) (.ins C s.heap.objs.size []))
    { s with heap := (s.heap.push PySem.W.emptyDict).push (PySem.W.instObj C s.heap.objs.size) } := by
  have e1 : (s.heap.push PySem.W.emptyDict).get? s.heap.objs.size = some PySem.W.emptyDict := Heap.get?_push_size s.heap rfl
  have e2 : ((s.heap.push PySem.W.emptyDict).push (PySem.W.instObj C s.heap.objs.size)).get? (s.heap.objs.size + 1) = some (PySem.W.instObj C s.heap.objs.size) := by
    have := Heap.get?_push_size (s.heap.push PySem.W.emptyDict) (o := PySem.W.instObj C s.heap.objs.size) rfl
    rwa [Heap.size_push] at this
  have e3 : (s.heap.push PySem.W.emptyDict).Ns s.heap.objs.size (fun _ => none) := ⟨PySem.W.emptyDict, #[], _, e1, rfl, (fun e he => absurd he (by simp)), fun _ => rfl⟩
  have I1 := I.laid (a := s.heap.objs.size) (o := .own (s.heap.objs.size + 1)) (h' := s.heap.push PySem.W.emptyDict) (t' := s.toks) (fun b u q => Heap.get?_push_of_some _ q) (Nat.le_refl _) ⟨_, e1⟩
  refine I1.laid (a := s.heap.objs.size + 1) (o := .ins C s.heap.objs.size []) (t' := s.toks) (fun b u q => Heap.get?_push_of_some _ q) (Nat.le_of_eq (Heap.size_push _ _)) ?_
  have ne : s.heap.objs.size ≠ s.heap.objs.size + 1 := Nat.ne_of_lt (Nat.lt_succ_self _)
  refine ⟨by rw [upd_ne ne, upd_same], Nat.zero_le _, ne, e2, fun _ => none, (Heap.Ns1.of_empty e3).at fun o q => Heap.get?_push_of_some _ q, fun _ => True.intro, fun y hy => absurd rfl hy⟩

theorem attr_of {prog : Program} {w : World} {env : Env} {e : Expr} {f : Str} {pos : Pos} {s : Shared} {Q : Value → Shared → Prop} (hb : attributeBase e f env (eval e env) = eval e env)
    (h : wpAny (model prog w) A (eval e env) (fun o s₁ => wpAny (model prog w) A (getAttr o f true) Q E s₁) E s) : wpAny (model prog w) A (eval (.Attribute e f pos) env) Q E s :=
  Attribute_any_ h (by rw [arm_eval_Attribute, hb])
end

def tFld (K : PySem.W.Frag) (ta : TE) (f : Str) : TE := fun σ H Q => ta σ H fun x H1 => ∃ a C dx fs v, x = .ref a ∧ H1 a = some (.ins C dx fs) ∧ Cls K C ∧ NoAttr K C f ∧ fs.lookup f = some v ∧ Q v H1
def sFld (K : PySem.W.Frag) (ta tv : TE) (f : Str) : TS := fun D σ H => tv σ H fun y H1 => ta σ H1 fun x H2 => ∃ a C dx fs, x = .ref a ∧ H2 a = some (.ins C dx fs) ∧ Cls K C ∧ NoAttr K C f ∧ fs.length < 1000 ∧
  D.nx σ (upd H2 a (.ins C dx (putF f y fs)))
section
variable {X : Cx} {o e value : Expr} {f : Str} {pos pos' tpos : Pos} {ta tv : TE}
theorem pe_fld (he : PE X e ta) (hb : attributeBase e f X.env (eval e X.env) = eval e X.env) : PE X (.Attribute e f pos) (tFld X.K ta f) := by
  intro pins s σ H Q I h
  refine attr_of hb (thn (he pins s σ H _ I h) fun u s1 hz => ?_)
  obtain ⟨x, H1, I1, rx, a, C, dx, fs, v, ex, ea, c, n, l, q⟩ := hz
  subst ex
  obtain rfl : u = Value.ref a := rx
  exact getattr_ok I1 ea c n l fun u' s2 I2 ru => ⟨v, H1, I2, ru, q⟩
theorem ps_fld (ha : PE X o ta) (hv : PE X value tv) (hs : swapsWith value (some (.Attribute o f pos')) pos.line X.env = pure false) : PS X (.Assign [.Attribute o f pos'] value pos) (sFld X.K ta tv f) := by
  intro pins s σ H D I h
  refine plainObj_wpAny_Assign_Attribute (thn (hv pins s σ H _ I h) fun u s1 ⟨y, H1, I1, ry, q⟩ => thn (ha pins s1 σ H1 _ I1 q) fun ov s2 hz => ?_) hs
  obtain ⟨x, H2, I2, rx, a, C, dx, fs, ex, ea, c, n, l, q2⟩ := hz
  subst ex
  obtain rfl : ov = Value.ref a := rx
  exact setattr_ok I2 ea c n l ry fun s3 I3 => ⟨σ, _, I3, q2⟩
theorem methcall_of {pl : Sem Bool} {m : Str} {apos : Pos} {args : List Expr} {pins : List (Addr × Obj)} {s : Shared} {σ : St} {H : Hp} {Q : Value → Shared → Prop} {te : TE} (he : PE X e te) (I : Inv X pins σ H s)
    (h : te σ H fun x H1 => ∃ a C dx fs g, x = .ref a ∧ H1 a = some (.ins C dx fs) ∧ Cls X.K C ∧ Meth X.K C m g ∧ fs.lookup m = none ∧
      ∀ s1, Inv X pins σ H1 s1 → wpAny (model X.prog X.w) X.A (callWith pos (.ref g) [.ref a] (backTo pos (starEach args X.env)) (backToKw pos (keywordEach [] X.env))) Q X.xe s1)
    (ht : eval (.Call (.Attribute e m apos) args [] pos) X.env = (do
      let ov ← eval e X.env
      standAt apos.atName
      let (f, first) ← holding [ov] (getMethod ov m pl)
      callWith pos f first (backTo pos (starEach args X.env)) (backToKw pos (keywordEach [] X.env)))) :
    wpAny (model X.prog X.w) X.A (eval (.Call (.Attribute e m apos) args [] pos) X.env) Q X.xe s := by
  refine PySem.W.methodCall_KW (pl := pl) (thn (he pins s σ H _ I h) fun u s1 hz => ?_) ht
  obtain ⟨x, H1, I1, rx, a, C, dx, fs, g, ex, ea, c, k, l, q⟩ := hz
  subst ex
  obtain rfl : u = Value.ref a := rx
  exact getmeth_ok I1 ea c k l (q s1 I1)
end

section
variable {X : Cx} {pins : List (Addr × Obj)} {σ : St} {H : Hp} {s : Shared} {A : Around} {E : Value → Shared → Prop} {Q : Value → Shared → Prop} {c : Value} {b : Bool}
inductive TyOf (K : PySem.W.Frag) (H : Hp) : V → Value → Prop where
  | non : TyOf K H .non (.type "NoneType")
  | bl (x : Bool) : TyOf K H (.bl x) (.type "bool")
  | int (i : Int) : TyOf K H (.int i) (.type "int")
  | str (x : Str) : TyOf K H (.str x) (.type "str")
  | flt (x : UInt64) : TyOf K H (.flt x) (.type "float")
  | lst {a : Addr} {xs : List V} (e : H a = some (.lst xs)) : TyOf K H (.ref a) (.type "list")
  | frz {a : Addr} {o : Obj} {xs : List V} (e : H a = some (.frz o (.lst xs))) : TyOf K H (.ref a) (.type "list")
  | tup {a : Addr} {xs : List V} (e : H a = some (.tup xs)) : TyOf K H (.ref a) (.type "tuple")
  | dK {a : Addr} {kvs : List (Key × V)} (e : H a = some (.dK kvs)) : TyOf K H (.ref a) (.type "dict")
  | dT {a : Addr} {kvs : List (List Key × V)} (e : H a = some (.dT kvs)) : TyOf K H (.ref a) (.type "dict")
  | ins {a C dx : Addr} {fs : List (Str × V)} (e : H a = some (.ins C dx fs)) (cl : Cls K C) (ha : PySem.W.findIn K (.ref C) "__class__" = some (some (.builtin "object.__class__")))
      (hn : PySem.W.specialIn K (.builtin "object.__class__") "__get__" = some (some (.builtin "getset_descriptor.__get__"))) (htk : PySem.W.takesIn K (.builtin "object.__class__") = some true)
      (hm : PySem.W.mroIn K C (.type "object") = some true) : TyOf K H (.ref a) (.ref C)
theorem isinst_ok {x : V} {u t : Value} (I : Inv X pins σ H s) (rx : RelV x u) (ty : TyOf X.K H x t) (e : PySem.W.kitOne X.K t c = some b) (h : ∀ tk, Q (.bool b) { s with toks := tk }) :
    wpAny (model X.prog X.w) A (call (.builtin "isinstance") [u, c]) Q E s := by
  cases ty with
  | non => cases (show u = Value.none from rx); exact PySem.W.kia_one PySem.W.kitx_none I.kIn True.intro e (fun z => nomatch z) h
  | bl y => cases (show u = Value.bool y from rx); exact PySem.W.kia_one PySem.W.kitx_bool I.kIn True.intro e (fun z => nomatch z) h
  | int i => obtain ⟨t, q⟩ := (show ∃ t, u = Value.int i t from rx); cases q; exact PySem.W.kia_one PySem.W.kitx_int I.kIn True.intro e (fun z => nomatch z) h
  | str y => obtain ⟨t, q⟩ := (show ∃ t, u = Value.str y t from rx); cases q; exact PySem.W.kia_one PySem.W.kitx_str I.kIn True.intro e (fun z => nomatch z) h
  | flt y => obtain ⟨t, q⟩ := (show ∃ t, u = Value.float y t from rx); cases q; exact PySem.W.kia_one PySem.W.kitx_float I.kIn True.intro e (fun z => nomatch z) h
  | @lst a xs ea =>
    cases (show u = Value.ref a from rx)
    obtain ⟨_, _, n, _, h1⟩ := (show ObjOk X.prog X.w H s.heap a (.lst xs) from I.hok a _ ea)
    exact PySem.W.kia_one PySem.W.kitx_list I.kIn ⟨_, h1, rfl⟩ e (fun z => nomatch z) h
  | @frz a ob xs ea =>
    cases (show u = Value.ref a from rx)
    obtain ⟨_, _, _, n, _, h1⟩ := (show ObjOk X.prog X.w H s.heap a (.frz ob (.lst xs)) from I.hok a _ ea)
    exact PySem.W.kia_one PySem.W.kitx_list I.kIn ⟨_, h1, rfl⟩ e (fun z => nomatch z) h
  | @tup a xs ea =>
    cases (show u = Value.ref a from rx)
    obtain ⟨_, _, _, p⟩ := (show ObjOk X.prog X.w H s.heap a (.tup xs) from I.hok a _ ea)
    obtain ⟨o, h1, h2, _⟩ := p
    exact PySem.W.kia_one PySem.W.kitx_tuple I.kIn ⟨o, h1, h2⟩ e (fun z => nomatch z) h
  | @dK a kvs ea =>
    cases (show u = Value.ref a from rx)
    obtain ⟨_, _, vs, _, p⟩ := (show ObjOk X.prog X.w H s.heap a (.dK kvs) from I.hok a _ ea)
    obtain ⟨o, es, ep, h1, h2, _⟩ := p
    exact PySem.W.kia_one PySem.W.kitx_dict I.kIn ⟨o, h1, h2.1⟩ e (fun z => nomatch z) h
  | @dT a kvs ea =>
    cases (show u = Value.ref a from rx)
    obtain ⟨_, _, xs, _, o, es, ep, h1, h2, _⟩ := (show ObjOk X.prog X.w H s.heap a (.dT kvs) from I.hok a _ ea)
    exact PySem.W.kia_one PySem.W.kitx_dict I.kIn ⟨o, h1, h2.1⟩ e (fun z => nomatch z) h
  | @ins a C dx fs ea cl ha hn htk hm =>
    cases (show u = Value.ref a from rx)
    obtain ⟨mA, O, _⟩ := ins_get I.hok ea
    obtain ⟨od, J, _⟩ := O.look
    exact PySem.W.kia_one (PySem.W.kitx_own (cl.get _) cl.hd ha hn htk hm) I.kIn J e (fun z => nomatch z) h
end
end L2

namespace L2
open PySem PySem.Spec PyProof.Rows

structure Room (k : Nat) (A : Around) : Prop where
  hd : A.handled = none
  dp : A.depth + 3 * k + 5 < recursionLimit
  un : A.units + 16 * k + 200 < cLine
theorem Room.mono {j k : Nat} {A : Around} (r : Room k A) (h : j ≤ k) : Room j A := ⟨r.hd, by have := r.dp; omega, by have := r.un; omega⟩
theorem Room.deeper {k : Nat} {A : Around} (r : Room (k + 1) A) (env : Env) : Room k (A.deeper env) :=
  ⟨r.hd, by have := r.dp; show A.depth + 1 + 3 * k + 5 < _; omega, by have := r.un; show A.units + 3 + 16 * k + 200 < _; omega⟩
theorem make_depth {A : Around} {C : Addr} {us : List Value} {kw : List (Str × Value)} : (A.under (.builtin "type.__call__" ⟨.ref C :: us, kw⟩)).depth = A.depth + 1 := by
  first | rfl | simp [Around.under, Code.weight, Code.isCreation, Code.isGuard, Code.isCaller, Code.frames, Code.isFrame, guardIds]
theorem make_units {A : Around} {C : Addr} {us : List Value} {kw : List (Str × Value)} : (A.under (.builtin "type.__call__" ⟨.ref C :: us, kw⟩)).units = A.units + 1 := by
  first | rfl | simp [Around.under, Code.cUnits, Code.frames, Code.isFrame]
theorem Room.make {k : Nat} {A : Around} (r : Room (k + 1) A) (C : Addr) (us : List Value) (kw : List (Str × Value)) : Room k (A.under (.builtin "type.__call__" ⟨.ref C :: us, kw⟩)) :=
  ⟨r.hd, by have := r.dp; rw [make_depth]; omega, by have := r.un; rw [make_units]; omega⟩
theorem Room.depth {k : Nat} {A : Around} (r : Room k A) : A.depth < recursionLimit := by have := r.dp; omega
theorem Room.units {k : Nat} {A : Around} (r : Room k A) : A.units + 64 < cLine := by have := r.un; omega
theorem Room.units0 {k : Nat} {A : Around} (r : Room k A) : A.units < cLine := by have := r.un; omega

def tNil : TA := fun _ H Q => Q [] H
def tCons (ta : TE) (tr : TA) : TA := fun σ H Q => ta σ H fun x H1 => tr σ H1 fun xs H2 => Q (x :: xs) H2
section
variable {X : Cx} {e : Expr} {es : List Expr} {te : TE} {t : TA} {pos : Pos}
theorem pa_nil : PA X [] tNil := fun _ _ _ _ H Q I h => Calls.spliced_nil ⟨[], H, I, .nil, h⟩
theorem pa_cons (ha : PE X e te) (hr : PA X es t) (hs : starEach (e :: es) X.env = (false, eval e X.env) :: starEach es X.env := by rfl) : PA X (e :: es) (tCons te t) := by
  intro pos pins s σ H Q I h
  rw [hs]
  show wpAny _ _ (spliced ((false, eval e X.env) :: backTo pos (starEach es X.env))) _ _ s
  refine Calls.spliced_cons (thn (ha pins s σ H _ I h) fun u s1 hz => ?_)
  obtain ⟨x, H1, I1, r1, q1⟩ := hz
  exact thn (hr pos pins s1 σ H1 _ I1 q1) fun us s2 ⟨xs, H2, I2, r2, q2⟩ => ⟨x :: xs, H2, I2, .cons r1 r2, q2⟩

def tTup (t : TA) : TE := fun σ H Q => t σ H fun xs H1 => xs.length ≤ sizeLine ∧ ∀ p, H1 p = none → Q (.ref p) (upd H1 p (.tup xs))
def tLst (t : TA) : TE := fun σ H Q => t σ H fun xs H1 => xs.length ≤ sizeLine ∧ ∀ p, H1 p = none → Q (.ref p) (upd H1 p (.lst xs))
theorem pe_tup {x1} (h : PA X es t) : PE X (.Tuple es x1 pos) (tTup t) := by
  intro pins s σ H Q I hq
  refine wpAny_Tuple_spliced (thn (h pos pins s σ H _ I hq) fun us s1 ⟨xs, H1, I1, r, z, q⟩ => ⟨by rw [← r.length]; exact z, ?_⟩)
  have hf : H1 s1.heap.objs.size = none := I1.hok.fresh (Nat.le_refl _)
  refine ⟨.ref s1.heap.objs.size, upd H1 s1.heap.objs.size (.tup xs), I1.laid (t' := s1.toks) (fun b u e => Heap.get?_push_of_some _ e) (Nat.le_refl _) ?_, rfl, q _ hf⟩
  exact ⟨z, us, r, ⟨_, Heap.get?_push_size _ rfl, rfl, ⟨_, rfl⟩, rfl⟩⟩
theorem pe_lst (h : PA X es t) : PE X (.List es pos) (tLst t) := by
  intro pins s σ H Q I hq
  refine wpAny_List_spliced (thn (h pos pins s σ H _ I hq) fun us s1 ⟨xs, H1, I1, r, z, q⟩ => ⟨by rw [← r.length]; exact z, ?_⟩)
  have hf : H1 s1.heap.objs.size = none := I1.hok.fresh (Nat.le_refl _)
  refine ⟨.ref s1.heap.objs.size, upd H1 s1.heap.objs.size (.lst xs), I1.laid (t' := s1.toks) (fun b u e => Heap.get?_push_of_some _ e) (Nat.le_refl _) ?_, rfl, q _ hf⟩
  exact ⟨z, us, 0, r, Heap.get?_push_size _ rfl⟩
end

abbrev Sp := List V → Hp → VK → XK → Prop
abbrev CXT := List Env → Hp → Shared → XK → Value → Shared → Prop

structure Env0 (P : Program) (w : World) (K : PySem.W.Frag) (mg : Str → Option Value) (base : Heap) (A : Around) (outer : List Env) (s : Shared) (H : Hp) : Prop where
  frames : A.frames = some outer
  mod : Mod K mg base
  bs : ∀ b o, base.get? b = some o → s.heap.get? b = some o ∧ H b = none
  bsz : base.objs.size ≤ s.heap.objs.size
  funs : s.heap.FunFrames base outer
  frf : ∀ b ∈ frs outer, H b = none
  hok : HOk P w H s.heap
  bare : AllBare s.gens
def CE (outer : List Env) (P : Program) (w : World) (H : Hp) (s : Shared) (Q : VK) (u : Value) (s' : Shared) : Prop :=
  ∃ v H', s'.os = s.os ∧ AllBare s'.gens ∧ Un (frs outer) [] H H' s.heap s'.heap ∧ HOk P w H' s'.heap ∧ RelV v u ∧ Q v H'
def CR (CX : CXT) (outer : List Env) (P : Program) (w : World) (H : Hp) (s : Shared) (Q : VK) (E : XK) (r : Result) (s' : Shared) : Prop :=
  match r with
  | .ok (.ret u) => CE outer P w H s Q u s'
  | .ok _ => False
  | .error e => CX outer H s E e s'
structure FnOk (P : Program) (w : World) (K : PySem.W.Frag) (mg : Str → Option Value) (base : Heap) (CX : CXT) (k : Nat) (f : Addr) (fd : FuncData) (ps : List Str) (sp : Sp) : Prop where
  len : ∀ vs H Q E, sp vs H Q E → vs.length = ps.length
  run : ∀ (A : Around) (outer : List Env) (s : Shared) (H : Hp) (args : Args) (us : List Value) (vs : List V) (Q : VK) (E : XK), Room k A → Env0 P w K mg base A outer s H → BindsTo s fd args (ps.zip us) → Vals vs us → sp vs H Q E →
    codeAny (model P w) A (.call (.ref f) args) (CR CX outer P w H s Q E) s
theorem FnOk.mono {P : Program} {w : World} {K : PySem.W.Frag} {mg : Str → Option Value} {base : Heap} {CX : CXT} {j k : Nat} {f : Addr} {fd : FuncData} {ps : List Str} {sp : Sp} (F : FnOk P w K mg base CX j f fd ps sp) (h : j ≤ k) :
    FnOk P w K mg base CX k f fd ps sp := ⟨F.len, fun A outer s H args us vs Q E hr => F.run A outer s H args us vs Q E (hr.mono h)⟩
theorem Env0.make {P : Program} {w : World} {K : PySem.W.Frag} {mg : Str → Option Value} {base : Heap} {A : Around} {outer : List Env} {s : Shared} {H : Hp} (e : Env0 P w K mg base A outer s H) (C : Addr) (us : List Value) (kw : List (Str × Value)) :
    Env0 P w K mg base (A.under (.builtin "type.__call__" ⟨.ref C :: us, kw⟩)) outer s H := ⟨by first | exact e.frames | (simpa [Around.under, Code.envs, Code.isFrame, pushEnvs] using e.frames), e.mod, e.bs, e.bsz, e.funs, e.frf, e.hok, e.bare⟩
section
variable {X : Cx} {pins : List (Addr × Obj)} {σ : St} {H : Hp} {s s' : Shared}
theorem Inv.env0 (I : Inv X pins σ H s) : Env0 X.prog X.w X.K X.mg X.base X.A X.stack s H :=
  ⟨I.ok.frames, I.ok.mod, I.bs, Nat.le_trans I.ok.bsz I.sz, I.stack, I.stkFree, I.hok, I.bare⟩
theorem Inv.after {Q : VK} {u : Value} (I : Inv X pins σ H s) (h : CE X.stack X.prog X.w H s Q u s') : EP X pins σ Q u s' := by
  obtain ⟨v, H', os, bare, un, hok, r, q⟩ := h
  obtain ⟨hh, g, d, t, os'⟩ := s'
  obtain rfl : os' = s.os := os
  exact ⟨v, H', I.call (h' := hh) (g' := g) (d' := d) (t' := t) (ch := []) un hok bare (fun b z => absurd z (by simp)), r, q⟩
end

def tCall (sp : Sp) (dvs : List V) (E : XK) (t : TA) : TE := fun σ H Q => t σ H fun vs H1 => sp (vs ++ dvs) H1 Q E
def tMeth (C : Addr) (m : Str) (sp : Sp) (dvs : List V) (E : XK) (ta : TE) (t : TA) : TE := fun σ H Q => ta σ H fun x H1 => ∃ a dx fs, x = .ref a ∧ H1 a = some (.ins C dx fs) ∧ fs.lookup m = none ∧
  t σ H1 fun vs H2 => sp (x :: (vs ++ dvs)) H2 Q E
def tMake (C : Addr) (sp : Sp) (dvs : List V) (E : XK) (t : TA) : TE := fun σ H Q => t σ H fun vs H1 => ∀ x dx, H1 x = none → H1 dx = none → dx ≠ x →
  sp (.ref x :: (vs ++ dvs)) (upd (upd H1 dx (.own x)) x (.ins C dx [])) (fun v H2 => v = .non ∧ Q (.ref x) H2) E

def Binds (K : PySem.W.Frag) (fd : FuncData) (ps : List Str) (ds : List Value) : Prop :=
  ∀ (s : Shared) (us : List Value), K.In s.heap → (us ++ ds).length = ps.length → BindsTo s fd ⟨us, []⟩ (ps.zip (us ++ ds))
theorem Binds.all {K : PySem.W.Frag} {fd : FuncData} {ps : List Str} (h : ∀ us : List Value, us.length = ps.length → bindArgs fd ⟨us, []⟩ = pure (ps.zip us)) : Binds K fd ps [] := fun s us _ hl => by
  rw [List.append_nil] at hl ⊢
  exact .of_eq (h us hl)

def Passes (CX : CXT) (X : Cx) (E : XK) : Prop := ∀ (pins : List (Addr × Obj)) (σ : St) (H : Hp) (s : Shared) (e : Value) (s' : Shared), Inv X pins σ H s → CX X.stack H s E e s' → X.xe e s'

section
variable {X : Cx} {CX : CXT} {k : Nat} {f C : Addr} {fd : FuncData} {ps : List Str} {sp : Sp} {dvs : List V} {ds : List Value} {E : XK} {x m : Str} {p pos apos : Pos} {e o : Expr} {es : List Expr} {ta : TE} {t : TA}

theorem run_fn {pins : List (Addr × Obj)} {σ : St} {H : Hp} {s : Shared} {Q : VK} {us : List Value} {vs : List V} (F : FnOk X.prog X.w X.K X.mg X.base CX k f fd ps sp) (hr : Room k X.A) (hb : Binds X.K fd ps ds) (hd : Vals dvs ds) (hx : Passes CX X E)
    (I : Inv X pins σ H s) (r : Vals vs us) (h : sp (vs ++ dvs) H Q E) : wpAny (model X.prog X.w) X.A (call (.ref f) us) (EP X pins σ Q) X.xe s := by
  have r2 : Vals (vs ++ dvs) (us ++ ds) := r.append hd
  have hl : (us ++ ds).length = ps.length := by rw [← r2.length]; exact F.len _ _ _ _ h
  refine wpAny_call (codeAny_mono (F.run X.A X.stack s H ⟨us, []⟩ (us ++ ds) (vs ++ dvs) Q E hr I.env0 (hb s us I.kIn hl) r2 h) fun r s' hq => ?_)
  cases r with
  | error e => exact hx pins σ H s e s' I hq
  | ok fl =>
    cases fl with
    | ret u => exact I.after hq
    | next => exact False.elim hq
    | brk => exact False.elim hq
    | cont => exact False.elim hq

theorem pe_call (F : FnOk X.prog X.w X.K X.mg X.base CX k f fd ps sp) (hr : Room k X.A) (hg : Gl X x) (hm : X.mg x = some (.ref f)) (hk : PySem.W.keepIn X.K (.ref f) = true) (hb : Binds X.K fd ps ds) (hd : Vals dvs ds) (hx : Passes CX X E)
    (ha : PA X (e :: es) t) (hdb : (x == ("__debug__" : Str)) = false := by decide) (he : starEach (e :: es) X.env = (false, eval e X.env) :: starEach es X.env := by rfl) (hpl : (backTo pos (starEach es X.env)).any (·.1) = false := by rfl) :
    PE X (.Call (.Name x p) (e :: es) [] pos) (tCall sp dvs E t) := by
  intro pins s σ H Q I h
  refine wpAny_Call_Name_kw (ld_glob I hg hm ?_ hdb)
  refine PySem.W.callWith_K (h₀ := X.base) I.ok.mod.kin hk (thn (ha pos pins s σ H _ I h) fun us s1 ⟨vs, H1, I1, r, q⟩ => ⟨I1.kIn, ?_⟩) he hpl
  exact run_fn F hr hb hd hx I1 r q
theorem pe_meth {pl : Sem Bool} (he : PE X o ta) (c : Cls X.K C) (hm : Meth X.K C m f) (F : FnOk X.prog X.w X.K X.mg X.base CX k f fd ps sp) (hr : Room k X.A) (hb : Binds X.K fd ps ds) (hd : Vals dvs ds) (hx : Passes CX X E) (ha : PA X (e :: es) t)
    (hst : starEach (e :: es) X.env = (false, eval e X.env) :: starEach es X.env := by rfl) (hpl : (backTo pos (starEach es X.env)).any (·.1) = false := by rfl)
    (ht : eval (.Call (.Attribute o m apos) (e :: es) [] pos) X.env = (do
      let ov ← eval o X.env
      standAt apos.atName
      let (f, first) ← holding [ov] (getMethod ov m pl)
      callWith pos f first (backTo pos (starEach (e :: es) X.env)) (backToKw pos (keywordEach [] X.env))) := by rfl) :
    PE X (.Call (.Attribute o m apos) (e :: es) [] pos) (tMeth C m sp dvs E ta t) := by
  intro pins s σ H Q I h
  refine PySem.W.methodCall_KW (pl := pl) (thn (he pins s σ H _ I h) fun u s1 hz => ?_) ht
  obtain ⟨x, H1, I1, rx, a, dx, fs, ex, ea, l, q⟩ := hz
  subst ex
  obtain rfl : u = Value.ref a := rx
  refine getmeth_ok I1 ea c hm l ?_
  refine PySem.W.callWith_K (first := [.ref a]) (h₀ := X.base) I.ok.mod.kin hm.kp (thn (ha pos pins s1 σ H1 _ I1 q) fun us s2 ⟨vs, H2, I2, r, q2⟩ => ⟨I2.kIn, ?_⟩) hst hpl
  exact run_fn (us := .ref a :: us) (vs := .ref a :: vs) F hr hb hd hx I2 (.cons rfl r) q2
theorem pe_meth0 {pl : Sem Bool} (he : PE X o ta) (c : Cls X.K C) (hm : Meth X.K C m f) (F : FnOk X.prog X.w X.K X.mg X.base CX k f fd ps sp) (hr : Room k X.A) (hb : Binds X.K fd ps ds) (hd : Vals dvs ds) (hx : Passes CX X E)
    (ht : eval (.Call (.Attribute o m apos) [] [] pos) X.env = (do
      let ov ← eval o X.env
      standAt apos.atName
      let (f, first) ← holding [ov] (getMethod ov m pl)
      callWith pos f first (backTo pos (starEach [] X.env)) (backToKw pos (keywordEach [] X.env))) := by rfl) :
    PE X (.Call (.Attribute o m apos) [] [] pos) (tMeth C m sp dvs E ta tNil) := by
  intro pins s σ H Q I h
  refine PySem.W.methodCall_KW (pl := pl) (thn (he pins s σ H _ I h) fun u s1 hz => ?_) ht
  obtain ⟨x, H1, I1, rx, a, dx, fs, ex, ea, l, q⟩ := hz
  subst ex
  obtain rfl : u = Value.ref a := rx
  refine getmeth_ok I1 ea c hm l ?_
  exact PySem.W.callWith_K0 (first := [.ref a]) I1.kIn hm.kp (run_fn (us := [.ref a]) (vs := [.ref a]) F hr hb hd hx I1 (.cons rfl .nil) q)

structure Mk (K : PySem.W.Frag) (C f : Addr) : Prop where
  makes : PySem.W.makesIn K C = true
  init : PySem.W.findIn K (.ref C) "__init__" = some (some (.ref f))
  fn : PySem.W.isFn K (.ref f) = true
  kp : PySem.W.keepIn K (.ref C) = true

theorem run_make {pins : List (Addr × Obj)} {σ : St} {H : Hp} {s : Shared} {Q : VK} {us : List Value} {vs : List V} (M : Mk X.K C f) (F : FnOk X.prog X.w X.K X.mg X.base CX k f fd ps sp) (hr : Room (k + 1) X.A) (hb : Binds X.K fd ps ds) (hd : Vals dvs ds)
    (hx : Passes CX X E) (I : Inv X pins σ H s) (r : Vals vs us)
    (h : ∀ x dx, H x = none → H dx = none → dx ≠ x → sp (.ref x :: (vs ++ dvs)) (upd (upd H dx (.own x)) x (.ins C dx [])) (fun v H2 => v = .non ∧ Q (.ref x) H2) E) :
    wpAny (model X.prog X.w) X.A (call (.ref C) us) (EP X pins σ Q) X.xe s := by
  have hq := h (s.heap.objs.size + 1) s.heap.objs.size (I.hok.fresh (Nat.le_succ _)) (I.hok.fresh (Nat.le_refl _)) (Nat.ne_of_lt (Nat.lt_succ_self _))
  have I2 := Inv.made (C := C) I
  have r2 : Vals (V.ref (s.heap.objs.size + 1) :: (vs ++ dvs)) (Value.ref (s.heap.objs.size + 1) :: (us ++ ds)) := .cons rfl (r.append hd)
  have hl : (Value.ref (s.heap.objs.size + 1) :: us ++ ds).length = ps.length := by
    have e := r2.length
    rw [F.len _ _ _ _ hq] at e
    exact e.symm
  refine wpAny_call (make_map (f := f) I.kIn M.makes M.init (beq_iff_eq.mp M.fn) (codeAny_mono (F.run _ X.stack _ _ ⟨Value.ref (s.heap.objs.size + 1) :: us, []⟩ (Value.ref (s.heap.objs.size + 1) :: (us ++ ds)) _ _ E (hr.make C us [])
    (I2.env0.make C us []) (hb _ (Value.ref (s.heap.objs.size + 1) :: us) I2.kIn hl) r2 hq) fun r s' hq' => ?_))
  cases r with
  | error e => exact hx pins σ _ _ e s' I2 hq'
  | ok fl =>
    cases fl with
    | ret u =>
      obtain ⟨v, H', I3, rv, ev, q3⟩ := I2.after hq'
      subst ev
      exact ⟨rv, ⟨V.ref (s.heap.objs.size + 1), H', I3, rfl, q3⟩⟩
    | next => exact False.elim hq'
    | brk => exact False.elim hq'
    | cont => exact False.elim hq'
theorem pe_make (M : Mk X.K C f) (F : FnOk X.prog X.w X.K X.mg X.base CX k f fd ps sp) (hr : Room (k + 1) X.A) (hg : Gl X x) (hm : X.mg x = some (.ref C)) (hb : Binds X.K fd ps ds) (hd : Vals dvs ds) (hx : Passes CX X E)
    (ha : PA X (e :: es) t) (hdb : (x == ("__debug__" : Str)) = false := by decide) (he : starEach (e :: es) X.env = (false, eval e X.env) :: starEach es X.env := by rfl) (hpl : (backTo pos (starEach es X.env)).any (·.1) = false := by rfl) :
    PE X (.Call (.Name x p) (e :: es) [] pos) (tMake C sp dvs E t) := by
  intro pins s σ H Q I h
  refine wpAny_Call_Name_kw (ld_glob I hg hm ?_ hdb)
  refine PySem.W.callWith_K (h₀ := X.base) I.ok.mod.kin M.kp (thn (ha pos pins s σ H _ I h) fun us s1 ⟨vs, H1, I1, r, q⟩ => ⟨I1.kIn, ?_⟩) he hpl
  exact run_make M F hr hb hd hx I1 r q
end

def PK (X : Cx) (kws : List Keyword) (t : TA) : Prop :=
  ∀ (pos : Pos) (pins : List (Addr × Obj)) (s : Shared) (σ : St) (H : Hp) (Q : List V → Hp → Prop), Inv X pins σ H s → t σ H Q → wpAny (model X.prog X.w) X.A (evalAll ((backToKw pos (keywordEach kws X.env)).map (·.2))) (AP X pins σ Q) X.xe s
section
variable {X : Cx} {CX : CXT} {k : Nat} {f C : Addr} {fd : FuncData} {ps ks : List Str} {sp : Sp} {E : XK} {x m : Str} {p pos apos kpos : Pos} {e o : Expr} {es : List Expr} {kws : List Keyword} {te ta : TE} {t tk : TA} {nm : Option Str}
theorem pk_nil : PK X [] tNil := fun _ _ _ _ H Q I h => wpAny_evalAll_nil ⟨[], H, I, .nil, h⟩
theorem pk_cons (ha : PE X e te) (hr : PK X kws t) : PK X (⟨nm, e, kpos⟩ :: kws) (tCons te t) := by
  intro pos pins s σ H Q I h
  show wpAny _ _ (evalAll ((do let v ← eval e X.env; standAt pos; pure v) :: (backToKw pos (keywordEach kws X.env)).map (·.2))) _ _ s
  refine wpAny_evalAll_cons (wpAny_bind (thn (ha pins s σ H _ I h) fun u s1 ⟨x, H1, I1, r1, q1⟩ => wpAny_bind (wpAny_standAt (wpAny_pure ?_))))
  exact thn (hr pos pins s1 σ H1 _ I1 q1) fun us s2 ⟨xs, H2, I2, r2, q2⟩ => ⟨x :: xs, H2, I2, .cons r1 r2, q2⟩

variable {g : List Value → List Value → List Value} {gV : List V → List V → List V}
end

structure FnScope (N P : List Str) (sc : Scope) : Prop where
  kind : sc.kind = .function
  co : sc.isCoroutine = false
  gen : sc.isGenerator = false
  nd : N.Nodup
  pre : N.take P.length = P
  par : ∀ x ∈ P, sc.names.lookup x = some .local ∨ sc.names.lookup x = some .cell
  nofree : ∀ y ∈ sc.names, y.2 ≠ .free

theorem bindL_out {kindOf : Str → Option NameKind} {x : Str} : ∀ {binds : List (Str × Value)} {m : Str → Option Value}, (∀ v, (x, v) ∉ binds) → bindL kindOf binds m x = m x
  | [], _, _ => rfl
  | (n, v) :: r, m, h => by
    unfold bindL
    rw [bindL_out fun w hw => h w (List.mem_cons_of_mem _ hw)]
    split
    · have : x ≠ n := by rintro rfl; exact h v List.mem_cons_self
      simp [this]
    · rfl
theorem bindC_out {kindOf : Str → Option NameKind} {x : Str} : ∀ {binds : List (Str × Value)} {m : Str → Option Value}, (∀ v, (x, v) ∉ binds) → bindC kindOf binds m x = m x
  | [], _, _ => rfl
  | (n, v) :: r, m, h => by
    unfold bindC
    rw [bindC_out fun w hw => h w (List.mem_cons_of_mem _ hw)]
    split
    · rfl
    · have : x ≠ n := by rintro rfl; exact h v List.mem_cons_self
      simp [this]
theorem bindL_get {kindOf : Str → Option NameKind} {x : Str} {v : Value} : ∀ {P : List Str} {vs : List Value} {i : Nat} {m : Str → Option Value}, P.Nodup → P[i]? = some x → vs[i]? = some v → kindOf x = some .local →
    bindL kindOf (P.zip vs) m x = some v
  | [], _, _, _, _, h, _, _ => by simp at h
  | _ :: _, [], _, _, _, _, h, _ => by simp at h
  | p :: P, w :: vs, 0, m, nd, h1, h2, hk => by
    simp at h1 h2; subst h1; subst h2
    show bindL kindOf ((p, w) :: P.zip vs) m p = _
    unfold bindL
    rw [bindL_out fun v hv => (List.nodup_cons.mp nd).1 (List.of_mem_zip hv).1, if_pos hk]
    simp
  | p :: P, w :: vs, i + 1, m, nd, h1, h2, hk => by
    show bindL kindOf ((p, w) :: P.zip vs) m x = _
    unfold bindL
    exact bindL_get (i := i) (List.nodup_cons.mp nd).2 (by simpa using h1) (by simpa using h2) hk
theorem bindC_get {kindOf : Str → Option NameKind} {x : Str} {v : Value} : ∀ {P : List Str} {vs : List Value} {i : Nat} {m : Str → Option Value}, P.Nodup → P[i]? = some x → vs[i]? = some v → kindOf x ≠ some .local →
    bindC kindOf (P.zip vs) m x = some v
  | [], _, _, _, _, h, _, _ => by simp at h
  | _ :: _, [], _, _, _, _, h, _ => by simp at h
  | p :: P, w :: vs, 0, m, nd, h1, h2, hk => by
    simp at h1 h2; subst h1; subst h2
    show bindC kindOf ((p, w) :: P.zip vs) m p = _
    unfold bindC
    rw [bindC_out fun v hv => (List.nodup_cons.mp nd).1 (List.of_mem_zip hv).1, if_neg hk]
    simp
  | p :: P, w :: vs, i + 1, m, nd, h1, h2, hk => by
    show bindC kindOf ((p, w) :: P.zip vs) m x = _
    unfold bindC
    exact bindC_get (i := i) (List.nodup_cons.mp nd).2 (by simpa using h1) (by simpa using h2) hk

def start (N : List Str) (vs : List V) : St := vs.map some ++ List.replicate (N.length - vs.length) none

def cxOf (CX : CXT) (P : Program) (w : World) (K : PySem.W.Frag) (mg : Str → Option Value) (base : Heap) (N : List Str) (qual : Str) (scope : Scope) (f : Addr) (cd : Value) (A : Around) (outer : List Env) (s : Shared) (H : Hp) (E : XK) : Cx where
  prog := P
  w := w
  K := K
  mg := mg
  base := base
  A := A.deeper (envOfC qual scope s.heap.objs.size f cd)
  N := N
  s₀ := s
  H₀ := H
  env := envOfC qual scope s.heap.objs.size f cd
  outer := outer
  stack := envOfC qual scope s.heap.objs.size f cd :: outer
  ex := []
  calm := true
  fn := fun _ => true
  pn := []
  xe := fun e s' => wpAny (model P w) (A.deeper (envOfC qual scope s.heap.objs.size f cd)) (leaving (envOfC qual scope s.heap.objs.size f cd) e) (fun _ s'' => CX outer H s E e s'') (fun e' s'' => CX outer H s E e' s'') s'

theorem cell_has {sc : Scope} {n : Nat} {x : Str} (h : sc.names.lookup x = some .cell) : ∃ c, (cellsFrom n sc.names []).lookup x = some c := by
  have q := PySem.W.cellsFrom_some sc.names n [] (.inl h)
  exact Option.isSome_iff_exists.mp q

theorem inv_start {CX : CXT} {P : Program} {w : World} {K : PySem.W.Frag} {mg : Str → Option Value} {base : Heap} {N ps : List Str} {qual : Str} {scope : Scope} {f : Addr} {cd : Value} {A : Around} {outer : List Env} {s s1 : Shared} {H : Hp} {E : XK} {us : List Value} {vs : List V}
    (S : FnScope N ps scope) (hd : A.handled = none) (e0 : Env0 P w K mg base A outer s H) (hl : vs.length = ps.length) (r : Vals vs us)
    (x : InCallC s s.heap.objs.size (bindL (envOfC qual scope s.heap.objs.size f cd).kindOf (ps.zip us) fun _ => none) (cellsFrom (s.heap.objs.size + 1) scope.names []) (bindC (envOfC qual scope s.heap.objs.size f cd).kindOf (ps.zip us) fun _ => none) s1) :
    Inv (cxOf CX P w K mg base N qual scope f cd A outer s H E) [] (start N vs) H s1 := by
  have hpl : ps.length ≤ N.length := by have := congrArg List.length S.pre; rw [List.length_take] at this; omega
  obtain ⟨h1, tk, rfl, hk⟩ := x.done
  have noA : ∀ b : Addr, b ∉ (cxOf CX P w K mg base N qual scope f cd A outer s H E).ex := fun b z => absurd (show b ∈ ([] : List Addr) from z) (by simp)
  refine ⟨⟨e0.mod, S.kind, rfl, rfl, Nat.le_refl _, fun y z c h1 h2 => ?_, fun y hy => ?_, fun y c _ h => ?_, fun _ => hd, Around.frames_deeper e0.frames, .inr ⟨rfl, rfl⟩, fun b z => absurd z (noA b), e0.bs, e0.bsz, fun b _ _ => noA b, fun b z => absurd z (noA b), e0.funs, e0.frf⟩,
    rfl, e0.bare, Un.kept hk, ⟨_, x.toInCall.ns, fun i y v h1 h2 h3 => ?_⟩, fun y c h => ⟨_, x.cell y c h⟩, e0.hok.fresh (Nat.le_refl _), fun y c h => ?_, fun p hp => absurd (show p ∈ ([] : List (Addr × Obj)) from hp) (by simp), e0.hok.kept hk, ?_⟩
  · exact name_of_addr x.apart (PySem.mem_of_lookup h1) (PySem.mem_of_lookup h2)
  · have hy : scope.names.lookup y = some .cell ∨ scope.names.lookup y = some .free := hy
    rcases hy with hy | hy
    · exact cell_has hy
    · exact absurd rfl (S.nofree _ (PySem.mem_of_lookup hy))
  · exact Nat.le_of_lt (x.above y c (PySem.mem_of_lookup h))
  · have hi : i < vs.length := by
      unfold start at h2
      by_cases hi : i < vs.length
      · exact hi
      · rw [List.getElem?_append_right (by simpa using hi)] at h2
        rw [List.getElem?_replicate] at h2
        split at h2 <;> cases h2
    have ha : vs[i]? = some v := by
      unfold start at h2
      rw [List.getElem?_append_left (by simpa using hi), List.getElem?_map] at h2
      cases e : vs[i]? with
      | none => rw [e] at h2; cases h2
      | some a => rw [e] at h2; cases h2; rfl
    obtain ⟨u, hu, rv⟩ := r.get ha
    have hp : ps[i]? = some y := by
      rw [← S.pre, List.getElem?_take_of_lt (by omega)]; exact h1
    have ndP : ps.Nodup := by rw [← S.pre]; exact S.nd.sublist (List.take_sublist _ _)
    refine ⟨u, rv, ?_⟩
    rcases S.par y (List.mem_of_getElem? hp) with k | k
    · exact .inl ⟨k, bindL_get ndP hp hu k⟩
    · obtain ⟨c, e⟩ := cell_has (n := s.heap.objs.size + 1) k
      refine .inr ⟨.inl k, c, e, ?_⟩
      have q := x.cell y c e
      rw [bindC_get ndP hp hu (by show scope.names.lookup y ≠ _; rw [k]; decide)] at q
      exact q
  · exact e0.hok.fresh (Nat.le_of_lt (x.above y c (PySem.mem_of_lookup h)))
  · unfold start
    show _ = N.length
    rw [List.length_append, List.length_map, List.length_replicate]
    omega

theorem fn_of {CX : CXT} {P : Program} {w : World} {K : PySem.W.Frag} {mg : Str → Option Value} {base : Heap} {k : Nat} {f : Addr} {name qual : Str} {params : Arguments} {body : List Stmt} {scope : Scope} {dV kV doc pm cdv ct oc : Value} {an od : Option Addr}
    {osl : Array (Option Value)} {N ps : List Str} {sp : Sp} (lk : K.lookup f = some ⟨oc, od, .func (PySem.W.fnOf name qual params body scope dV kV doc pm an cdv ct), osl⟩) (hcd : PySem.W.codeIn K cdv qual = true) (S : FnScope N ps scope)
    (len : ∀ vs H Q E, sp vs H Q E → vs.length = ps.length)
    (hbody : ∀ (A : Around) (outer : List Env) (s : Shared) (H : Hp) (vs : List V) (Q : VK) (E : XK), Room k (A.deeper (envOfC qual scope s.heap.objs.size f cdv)) → sp vs H Q E →
      ∃ t, PSs (cxOf CX P w K mg base N qual scope f cdv A outer s H E) body t ∧ t { nx := fun _ H' => Q .non H', rt := Q } (start N vs) H) :
    FnOk P w K mg base CX (k + 1) f (PySem.W.fnOf name qual params body scope dV kV doc pm an cdv ct) ps sp := by
  refine ⟨len, fun A outer s H args us vs Q E hr e0 hb r hsp => ?_⟩
  have hl := len _ _ _ _ hsp
  have KX : K.In s.heap := e0.mod.kin.keeps fun b o e => (e0.bs b o e).1
  have lim : s.heap.NoLimit := e0.mod.nolimit.keeps fun b o e => (e0.bs b o e).1
  have hkind : ∀ y ∈ ps.zip us, scope.names.lookup y.1 = some .local ∨ (scope.names.lookup y.1 = some .cell ∧ ((cellsFrom (s.heap.objs.size + 1) scope.names []).lookup y.1).isSome = true) := fun ⟨n, v⟩ hy => by
    rcases S.par n (List.of_mem_zip hy).1 with q | q
    · exact .inl q
    · exact .inr ⟨q, PySem.W.cellsFrom_some _ _ _ (.inl q)⟩
  refine codeAny_call_function hr.depth (KX _ _ lk) rfl S.co S.gen rfl (PySem.W.codeRec_of KX hcd) (hb _ _ _ _ ?_)
  refine wpAny_newFunctionEnv_cells S.kind hkind fun env he s1 x => ?_
  subst he
  refine ⟨lim.keeps x.toInCall.keep, codeAny_func ?_⟩
  obtain ⟨t, ht, hq⟩ := hbody A outer s H vs Q E (hr.deeper _) hsp
  have I : Inv (cxOf CX P w K mg base N qual scope f cdv A outer s H E) [] (start N vs) H s1 := inv_start S hr.hd e0 hl r x
  refine wpAny_mono (ht [] s1 (start N vs) H _ I hq) (fun fl s' hs => ?_) fun e s' hs => hs
  have fin : ∀ {σ' : St} {H' : Hp} {v : V} {u : Value}, Inv (cxOf CX P w K mg base N qual scope f cdv A outer s H E) [] σ' H' s' → RelV v u → Q v H' → CE outer P w H s Q u s' :=
    fun {σ' H' v u} J rv q => ⟨v, H', J.os, J.bare, J.base, J.hok, rv, q⟩
  cases fl with
  | ret u =>
    obtain ⟨v, σ', H', J, rv, q⟩ := hs
    exact fin J rv q
  | next =>
    obtain ⟨σ', H', J, q⟩ := hs
    exact fin (v := V.non) (u := Value.none) J rfl q
  | brk =>
    obtain ⟨_, _, _, q⟩ := hs
    exact False.elim q
  | cont =>
    obtain ⟨_, _, _, q⟩ := hs
    exact False.elim q
end L2

namespace L2
open PySem PySem.Spec PyProof.Rows
section
variable {X : Cx} {x : Str} {p pos : Pos} {e : Expr} {es : List Expr} {t : TA} {id T : String} {r : List V → Hp → VK → Prop}

def tCB (r : List V → Hp → VK → Prop) (t : TA) : TE := fun σ H Q => t σ H fun vs H1 => r vs H1 Q
theorem pe_callB (hc : CallR X (.builtin id) r) (hg : Gl X x) (hm : X.mg x = none) (hv : bootBuiltins x = some (.builtin id)) (ha : PA X (e :: es) t) (hn : x ≠ "__name__" := by decide) (hdb : (x == ("__debug__" : Str)) = false := by decide)
    (he : starEach (e :: es) X.env = (false, eval e X.env) :: starEach es X.env := by rfl) (hpl : (backTo pos (starEach es X.env)).any (·.1) = false := by rfl) : PE X (.Call (.Name x p) (e :: es) [] pos) (tCB r t) := by
  intro pins s σ H Q I h
  refine wpAny_Call_Name_kw (ld_blt I hg hm hv ?_ hn hdb)
  exact PyProof.Rows.callWith_builtin1 (thn (ha pos pins s σ H _ I h) fun us s1 ⟨vs, H1, I1, r1, q1⟩ => hc pins s1 σ H1 vs us Q I1 r1 q1) he hpl
theorem pe_callTy (hc : CallR X (.type T) r) (hg : Gl X x) (hm : X.mg x = none) (hv : bootBuiltins x = some (.type T)) (ha : PA X (e :: es) t) (hn : x ≠ "__name__" := by decide) (hdb : (x == ("__debug__" : Str)) = false := by decide)
    (he : starEach (e :: es) X.env = (false, eval e X.env) :: starEach es X.env := by rfl) (hpl : (backTo pos (starEach es X.env)).any (·.1) = false := by rfl) : PE X (.Call (.Name x p) (e :: es) [] pos) (tCB r t) := by
  intro pins s σ H Q I h
  refine wpAny_Call_Name_kw (ld_blt I hg hm hv ?_ hn hdb)
  exact PyProof.Rows.callWith_type1 (thn (ha pos pins s σ H _ I h) fun us s1 ⟨vs, H1, I1, r1, q1⟩ => hc pins s1 σ H1 vs us Q I1 r1 q1) he hpl
end
end L2

namespace HT
open PySem PyProof.Rows

section
open PySem.SeqAt
open PySem.AutoSeq1 (wpAny_loadPart')
open PySem.MeetsSeq PySem.MeetsSeq2 PySem.MeetsSeq3

end

section
variable {prog : Program} {w : World} {A : Around} {E : Value → Shared → Prop} {s : Shared}

theorem cat_tup {t b : Addr} {vs ws : List Value} {Q : Value → Shared → Prop} (ht : IsTup s.heap t vs.toArray) (hb : IsTup s.heap b ws.toArray) (hv : vs ≠ [])
    (h1 : ws = [] → Q (.ref t) s) (h2 : ws ≠ [] → Q (.ref s.heap.objs.size) { s with heap := s.heap.push { cls := .type "tuple", data := .seq (vs ++ ws).toArray } })
    (hsz : vs.length + ws.length ≤ sizeLine) : wpAny (model prog w) A (binaryOp .Add (.ref t) (.ref b)) Q E s := by
  obtain ⟨⟨cls, dd, data, sl⟩, ho, hc, n, hd⟩ := id ht
  obtain ⟨⟨cls2, dd2, data2, sl2⟩, ho2, hc2, n2, hd2⟩ := id hb
  simp only at hc hd hc2 hd2
  subst hc hd hc2 hd2
  have e : vs.toArray ++ ws.toArray = (vs ++ ws).toArray := by simp
  by_cases hw : ws = []
  · exact concat_meets ⟨_, ho, rfl⟩ ⟨_, ho2, rfl⟩ noFill_tuple_add seq_tuple_add PySem.F.slot_tuple_add PySem.F.entry_tuple_add (PySem.F.args_tuple_add_2 _ _)
      (tuple_addW1 t b vs.toArray ws.toArray n n2 dd dd2 sl sl2 (by simpa using hv) (by simp [hw])) ⟨ho, ho2, h1 hw⟩
  · refine concat_meets ⟨_, ho, rfl⟩ ⟨_, ho2, rfl⟩ noFill_tuple_add seq_tuple_add PySem.F.slot_tuple_add PySem.F.entry_tuple_add (PySem.F.args_tuple_add_2 _ _)
      (tuple_addW2 t b vs.toArray ws.toArray n n2 dd dd2 sl sl2 (by simpa using hv) (by simpa using hw) (by rw [List.size_toArray, List.size_toArray]; exact hsz)) ⟨ho, ho2, ?_⟩
    rw [e]
    exact h2 hw

def sIx (n d : Nat) : Option Int → Nat
  | none => d
  | some v => if v < 0 then (v + (n : Int)).toNat else min v.toNat n
theorem sIx_nat (n d k : Nat) : sIx n d (some (k : Int)) = min k n := by
  show (if (k : Int) < 0 then ((k : Int) + (n : Int)).toNat else min (k : Int).toNat n) = min k n
  rw [if_neg (by omega), Int.toNat_natCast]
theorem sIx_le (n d : Nat) (hd : d ≤ n) (o : Option Int) : sIx n d o ≤ n := by
  cases o with
  | none => exact hd
  | some v =>
    show (if v < 0 then (v + (n : Int)).toNat else min v.toNat n) ≤ n
    by_cases hv : v < 0
    · rw [if_pos hv]; omega
    · rw [if_neg hv]; exact Nat.min_le_right _ _
theorem clip_eq (v : Int) (n d : Nat) : (if v < 0 then max (v + (n : Int)) 0 else min v (n : Int)) = ((sIx n d (some v) : Nat) : Int) := by
  show (if v < 0 then max (v + (n : Int)) 0 else min v (n : Int)) = (((if v < 0 then (v + (n : Int)).toNat else min v.toNat n) : Nat) : Int)
  by_cases hv : v < 0
  · simp only [if_pos hv]; omega
  · simp only [if_neg hv]; omega
theorem adjust_gen (lo hi : Option Int) (n : Nat) : Builtin.Slice.sliceAdjust lo hi 1 (n : Int) = (((sIx n 0 lo : Nat) : Int), ((sIx n n hi : Nat) : Int)) := by
  have h1 : ¬ ((1 : Int) < 0) := by omega
  unfold Builtin.Slice.sliceAdjust
  simp only [h1, if_false]
  refine Prod.ext ?_ ?_
  · cases lo with
    | none => rfl
    | some v => exact clip_eq v n 0
  · cases hi with
    | none => rfl
    | some v => exact clip_eq v n n
theorem places_gen (i j : Nat) : Builtin.Slice.slicePlaces (i : Int) (j : Int) 1 = j - i := by
  unfold Builtin.Slice.slicePlaces
  have h1 : (1 : Int) > 0 := by omega
  simp only [h1, if_true, Int.ediv_one]
  split <;> omega
theorem slicePart_ {v : Value} {o : Option Int} {Q : Option Int → Shared → Prop} (p : IsPart v o) (h : Q o s) : wpAny (model prog w) A (Builtin.Slice.slicePartIndex v) Q E s := by
  cases p with
  | none => exact slicePart_none h
  | int i t => exact slicePart_int h
theorem sliceApplied_gen {sl : Addr} {vl vu : Value} {lo hi : Option Int} {n : Nat} {Q : Int × Int × Nat → Shared → Prop} (hs : s.heap.IsSliceOf sl vl vu .none) (pl : IsPart vl lo) (pu : IsPart vu hi)
    (h : Q (((sIx n 0 lo : Nat) : Int), 1, sIx n n hi - sIx n 0 lo) s) : wpAny (model prog w) A (Builtin.Slice.sliceApplied (.ref sl) (pure (n : Int))) Q E s := by
  obtain ⟨os, hos, hcs, hds⟩ := id hs
  unfold Builtin.Slice.sliceApplied Builtin.Slice.sliceFields
  refine wpAny_bind (wpAny_bind (wpAny_field hos hds (x := vl) rfl (wpAny_bind (wpAny_field hos hds (x := vu) rfl (wpAny_bind (wpAny_field hos hds (x := .none) rfl (wpAny_pure ?_)))))))
  refine wpAny_bind (slicePart_none ?_)
  show wpAny _ _ (if ((1 : Int) == 0) = true then _ else _) _ _ s
  rw [if_neg (by decide)]
  refine wpAny_bind (slicePart_ pl (wpAny_bind (slicePart_ pu (wpAny_bind (wpAny_pure ?_)))))
  show wpAny _ _ (match Builtin.Slice.sliceAdjust lo hi 1 (n : Int) with | (lo, hi) => pure (lo, (1 : Int), Builtin.Slice.slicePlaces lo hi 1)) _ _ s
  rw [adjust_gen lo hi n]
  show wpAny _ _ (pure (((sIx n 0 lo : Nat) : Int), (1 : Int), Builtin.Slice.slicePlaces ((sIx n 0 lo : Nat) : Int) ((sIx n n hi : Nat) : Int) 1)) _ _ s
  rw [places_gen]
  exact wpAny_pure h
theorem pick_gen (xs : Array Value) (i k : Nat) : ((List.range k).filterMap fun (m : Nat) => xs[((i : Int) + (m : Int) * 1).toNat]?).toArray = ((xs.toList.drop i).take k).toArray := by
  have e : (fun (m : Nat) => xs[((i : Int) + (m : Int) * 1).toNat]?) = fun m => xs[i + m]? := by
    funext m
    have : ((i : Int) + (m : Int) * 1).toNat = i + m := by omega
    rw [this]
  rw [e]
  have := pick_run xs i k
  rw [List.filterMap_map] at this
  have e2 : ((fun x => xs[x]?) ∘ fun x => i + x) = fun m => xs[i + m]? := rfl
  rw [e2] at this
  rw [this]

theorem getItem_tuple_cut {t sl : Addr} {items : Array Value} {vl vu : Value} {lo hi : Option Int} {Q : Value → Shared → Prop} (ht : IsTup s.heap t items) (hs : s.heap.IsSliceOf sl vl vu .none) (pl : IsPart vl lo) (pu : IsPart vu hi)
    (hw : ¬ (sIx items.size 0 lo = 0 ∧ sIx items.size items.size hi = items.size))
    (h : Q (.ref s.heap.objs.size) { s with heap := s.heap.push { cls := .type "tuple", data := .seq ((items.toList.drop (sIx items.size 0 lo)).take (sIx items.size items.size hi - sIx items.size 0 lo)).toArray } })
    (hsz : items.size ≤ sizeLine) : wpAny (model prog w) A (getItem (.ref t) (.ref sl)) Q E s := by
  have htake : sizeOk (.seq ((items.toList.drop (sIx items.size 0 lo)).take (sIx items.size items.size hi - sIx items.size 0 lo)).toArray) := by
    show ((items.toList.drop (sIx items.size 0 lo)).take (sIx items.size items.size hi - sIx items.size 0 lo)).toArray.size ≤ sizeLine
    rw [List.size_toArray, List.length_take, List.length_drop, Array.length_toList]
    omega
  have hj : sIx items.size items.size hi ≤ items.size := sIx_le _ _ (Nat.le_refl _) hi
  obtain ⟨os, hos, hcs, hds⟩ := id hs
  have hTs : s.TypeIs (.ref sl) "slice" := ⟨os, hos, hcs⟩
  unfold getItem
  try with_reducible refine wpAny_holding ?_
  first | refine wpAny_bind (wpAny_pure ?_) | skip
  refine wpAny_bind (wpAny_sequenceKey ht.typeIs (by decide) ?_)
  refine wpAny_bind (wpAny_callSpecial?_slot (name := Str.ofString "__getitem__") ht.typeIs PyProof.Rows.slot_tuple_getitem
    (wpAny_call_entry PyProof.Rows.slot_tuple_getitem ht.typeIs entry_tuple_getitem ?_ (args_tuple_getitem _ _)))
  show wpAny _ _ (Builtin.Tuple.tupleItemsOf (.ref t) >>= _) _ _ s
  refine wpAny_bind (tupleItemsOf_ ht ?_)
  refine wpAny_bind (wpAny_typeOf hTs ?_)
  rw [if_pos (by decide)]
  refine wpAny_bind (sliceApplied_gen hs pl pu ?_)
  have hno : ¬ ((((sIx items.size 0 lo : Nat) : Int) == 0 && (1 : Int) == 1 && (sIx items.size items.size hi - sIx items.size 0 lo) == items.size) = true) := by
    intro q
    rw [Bool.and_eq_true, Bool.and_eq_true] at q
    have q1 : ((sIx items.size 0 lo : Nat) : Int) = 0 := eq_of_beq q.1.1
    have q2 : sIx items.size items.size hi - sIx items.size 0 lo = items.size := eq_of_beq q.2
    exact hw ⟨by omega, by omega⟩
  show wpAny _ _ (if (((sIx items.size 0 lo : Nat) : Int) == 0 && (1 : Int) == 1 && (sIx items.size items.size hi - sIx items.size 0 lo) == items.size) = true then _ else _) _ _ s
  rw [if_neg hno, pick_gen]
  first
    | exact wpAny_bind (m := Builtin.Tuple.tupleExact _) (wpAny_newObj_type (wpAny_pure ⟨_, rfl, wpAny_pure h⟩) htake)
    | exact wpAny_bind (m := Builtin.Tuple.tupleExact _) (wpAny_newObj_type (wpAny_bind (wpAny_pure (wpAny_pure ⟨_, rfl, wpAny_pure h⟩))) htake)
    | exact wpAny_bind (wpAny_bind (m := Builtin.Tuple.tupleExact _) (wpAny_newObj_type (wpAny_pure (wpAny_pure ⟨_, rfl, wpAny_pure h⟩)) htake))
    | exact wpAny_bind (wpAny_bind (m := Builtin.Tuple.tupleExact _) (wpAny_newObj_type (wpAny_pure ⟨_, rfl, wpAny_pure h⟩) htake))
end
end HT

namespace L2
open PySem PySem.Spec PyProof.Rows

abbrev TO := St → Hp → (Option Int → Hp → Prop) → Prop
def PO (X : Cx) (e : Option Expr) (t : TO) : Prop :=
  ∀ (pins : List (Addr × Obj)) (s : Shared) (σ : St) (H : Hp) (Q : Option Int → Hp → Prop), Inv X pins σ H s → t σ H Q →
    wpAny (model X.prog X.w) X.A (evalPart e X.env) (fun u s' => ∃ o H', Inv X pins σ H' s' ∧ IsPart u o ∧ Q o H') X.xe s
def tNoPart : TO := fun _ H Q => Q none H
def tPart (t : TE) : TO := fun σ H Q => t σ H fun x H1 => ∃ i, x = .int i ∧ Q (some i) H1

section
variable {X : Cx} {e : Expr} {te : TE} {lo hi : Option Expr} {tl th : TO} {pos p2 : Pos}

theorem po_none : PO X none tNoPart := by
  intro pins s σ H Q I h
  rw [evalPart_none]
  exact wpAny_pure ⟨none, H, I, .none, h⟩
theorem po_some (h : PE X e te) : PO X (some e) (tPart te) := by
  intro pins s σ H Q I hw
  rw [evalPart_some]
  refine thn (h pins s σ H _ I hw) fun u s1 hz => ?_
  obtain ⟨x, H1, I1, r1, q1⟩ := hz
  obtain ⟨i, rfl, q⟩ := q1
  obtain ⟨t, rfl⟩ := r1
  exact ⟨some i, H1, I1, .int i t, q⟩

def SlR (X : Cx) (r : V → Option Int → Option Int → Hp → VK → Prop) : Prop :=
  ∀ (pins : List (Addr × Obj)) (s : Shared) (σ : St) (H : Hp) (x : V) (v vl vu : Value) (lo hi : Option Int) (sl : Addr) (Q : VK), Inv X pins σ H s → RelV x v → s.heap.IsSliceOf sl vl vu .none → IsPart vl lo → IsPart vu hi → r x lo hi H Q →
    ∃ T id, typeLookup (.type T) "__getitem__" = pure (some (.builtin id)) ∧ s.TypeIs v T ∧ wpAny (model X.prog X.w) X.A (getItem v (.ref sl)) (EP X pins σ Q) X.xe s
def tSl (r : V → Option Int → Option Int → Hp → VK → Prop) (te : TE) (tl th : TO) : TE := fun σ H Q => te σ H fun x H1 => tl σ H1 fun l H2 => th σ H2 fun u H3 => r x l u H3 Q
theorem pe_slice {r : V → Option Int → Option Int → Hp → VK → Prop} (hr : SlR X r) (he : PE X e te) (hl : PO X lo tl) (hu : PO X hi th) : PE X (.Subscript e (.Slice lo hi none p2) pos) (tSl r te tl th) := by
  intro pins s σ H Q I h
  refine Subscript_ (thn (he pins s σ H _ I h) fun v s1 hz => ?_)
  obtain ⟨x, H1, I1, r1, q1⟩ := hz
  refine wpAny_Slice (thn (hl pins s1 σ H1 _ I1 q1) fun vl s2 ⟨l, H2, I2, pl, q2⟩ => thn (hu pins s2 σ H2 _ I2 q2) fun vu s3 hz => ?_)
  obtain ⟨u, H3, I3, pu, q3⟩ := hz
  rw [evalPart_none]
  refine wpAny_pure ?_
  have I4 : Inv X pins σ H3 { s3 with heap := s3.heap.push { cls := .type "slice", data := .fields #[vl, vu, .none] } } := I3.kept (t' := s3.toks) fun b ob q => Heap.get?_push_of_some _ q
  obtain ⟨T, id, hT, ht, hg⟩ := hr pins { s3 with heap := s3.heap.push { cls := .type "slice", data := .fields #[vl, vu, .none] } } σ H3 x v vl vu l u s3.heap.objs.size Q I4 r1 (Heap.IsSliceOf.new ..) pl pu q3
  show wpAny (model X.prog X.w) X.A (subscriptTail e (.Slice lo hi none p2) v (.ref s3.heap.objs.size)) (EP X pins σ Q) X.xe { s3 with heap := s3.heap.push { cls := .type "slice", data := .fields #[vl, vu, .none] } }
  exact tail_any (ops := [.ref s3.heap.objs.size, v]) ht hT hg (by with_unfolding_all rfl)

def cutV (xs : List V) (lo hi : Option Int) : List V := (xs.drop (HT.sIx xs.length 0 lo)).take (HT.sIx xs.length xs.length hi - HT.sIx xs.length 0 lo)
theorem cutV_length (xs : List V) (lo hi : Option Int) : (cutV xs lo hi).length ≤ xs.length := by
  unfold cutV
  rw [List.length_take, List.length_drop]
  omega
def rSlT (K : PySem.W.Frag) : V → Option Int → Option Int → Hp → VK → Prop := fun x lo hi H Q => ∃ a xs, x = .ref a ∧ SqT K H a xs ∧
  ¬ (HT.sIx xs.length 0 lo = 0 ∧ HT.sIx xs.length xs.length hi = xs.length) ∧ ∀ p, H p = none → Q (.ref p) (upd H p (.tup (cutV xs lo hi)))
theorem sl_tup : SlR X (rSlT X.K) := by
  intro pins s σ H x v vl vu lo hi sl Q I rx hs pl pu h
  obtain ⟨a, xs, rfl, hx, hw, q⟩ := h
  cases rx
  obtain ⟨its, r, ht, hz⟩ := I.tuple hx
  have hlen : its.toArray.size = xs.length := by rw [List.size_toArray]; exact r.length.symm
  refine ⟨"tuple", _, PyProof.Rows.slot_tuple_getitem.lookup, ht.typeIs, ?_⟩
  refine HT.getItem_tuple_cut ht hs pl pu (by rw [hlen]; exact hw) ?_ (by rw [hlen]; exact hz)
  rw [hlen]
  refine ⟨.ref s.heap.objs.size, _, I.laid (t' := s.toks) (o := .tup (cutV xs lo hi)) (fun b ob q => Heap.get?_push_of_some _ q) (Nat.le_refl _) ?_, rfl, q _ (I.hok.fresh (Nat.le_refl _))⟩
  exact ⟨Nat.le_trans (cutV_length xs lo hi) hz, _, (r.drop (HT.sIx xs.length 0 lo)).take (HT.sIx xs.length xs.length hi - HT.sIx xs.length 0 lo), PlT.new _ _⟩

def rCatT (K : PySem.W.Frag) : R2 := fun x y H Q => ∃ a b xs ys, x = .ref a ∧ y = .ref b ∧ SqT K H a xs ∧ SqT K H b ys ∧ xs ≠ [] ∧ xs.length + ys.length ≤ sizeLine ∧
  (ys = [] → Q (.ref a) H) ∧ (ys ≠ [] → ∀ p, H p = none → Q (.ref p) (upd H p (.tup (xs ++ ys))))
theorem Vals.nil_iff {xs : List V} {us : List Value} (r : Vals xs us) : us = [] ↔ xs = [] := by
  cases r with
  | nil => simp
  | cons _ _ => simp
theorem op_catT : OpR X (binaryOp .Add) (rCatT X.K) := by
  intro pins s σ H x y v u Q I rx ry h
  obtain ⟨a, b, xs, ys, rfl, rfl, ha, hb, hx, hz, q1, q2⟩ := h
  cases rx
  cases ry
  obtain ⟨its, r1, p1, _⟩ := I.tuple ha
  obtain ⟨its2, r2, p2, _⟩ := I.tuple hb
  refine HT.cat_tup p1 p2 (fun z => hx (r1.nil_iff.mp z)) (fun z => ⟨.ref a, H, I, rfl, q1 (r2.nil_iff.mp z)⟩) (fun z => ?_) (by rw [← r1.length, ← r2.length]; exact hz)
  refine ⟨.ref s.heap.objs.size, _, I.laid (t' := s.toks) (o := .tup (xs ++ ys)) (fun b ob q => Heap.get?_push_of_some _ q) (Nat.le_refl _) ?_, rfl, q2 (fun w => z (r2.nil_iff.mpr w)) _ (I.hok.fresh (Nat.le_refl _))⟩
  exact ⟨by rw [List.length_append]; exact hz, _, r1.append r2, PlT.new _ _⟩
end
end L2

namespace L2
open PySem PySem.Spec PyProof.Rows

def ixN (n : Nat) (i : Int) : Option Nat := if 0 ≤ i then (if i < n then some i.toNat else none) else if -(n : Int) ≤ i then some (i + n).toNat else none
def atI {α : Type} (xs : List α) (i : Int) : Option α := (ixN xs.length i).bind fun j => xs[j]?
theorem ixN_seq {n : Nat} {i : Int} {j : Nat} (h : ixN n i = some j) : seqIndex? i n = some j ∧ j < n ∧ -(n : Int) ≤ i ∧ i < n := by
  unfold ixN at h
  by_cases h0 : 0 ≤ i
  · rw [if_pos h0] at h
    by_cases h1 : i < n
    · rw [if_pos h1] at h
      have e : i.toNat = j := Option.some.inj h
      exact ⟨by rw [seqIndex_of h0 h1, e], by omega, by omega, h1⟩
    · rw [if_neg h1] at h; cases h
  · rw [if_neg h0] at h
    by_cases h1 : -(n : Int) ≤ i
    · rw [if_pos h1] at h
      have e : (i + n).toNat = j := Option.some.inj h
      exact ⟨by rw [seqIndex_neg (by omega) h1, e], by omega, h1, by omega⟩
    · rw [if_neg h1] at h; cases h
theorem atI_get {α : Type} {xs : List α} {i : Int} {v : α} (h : atI xs i = some v) : ∃ j, seqIndex? i xs.length = some j ∧ xs[j]? = some v ∧ j < xs.length ∧ -(xs.length : Int) ≤ i ∧ i < xs.length := by
  unfold atI at h
  cases e : ixN xs.length i with
  | none => rw [e] at h; cases h
  | some j =>
    rw [e] at h
    obtain ⟨h1, h2, h3, h4⟩ := ixN_seq e
    exact ⟨j, h1, h, h2, h3, h4⟩
theorem atI_nat {α : Type} {xs : List α} {j : Nat} {v : α} (h : xs[j]? = some v) : atI xs (j : Int) = some v := by
  have hj : j < xs.length := (List.getElem?_eq_some_iff.mp h).1
  have e : ixN xs.length (j : Int) = some j := by
    unfold ixN
    rw [if_pos (by omega), if_pos (by omega)]; simp
  unfold atI; rw [e]; exact h
def PlainIx (b : Expr) : Prop := ∀ o i, subscripted b false o i = operate [o, i] (getItem o i)
def IxR (X : Cx) (r : R2) : Prop :=
  ∀ (value slice : Expr) (pins : List (Addr × Obj)) (s : Shared) (σ : St) (H : Hp) (x y : V) (v u : Value) (Q : VK), Inv X pins σ H s → RelV x v → RelV y u → r x y H Q →
    subscripted slice false v u = operate [v, u] (getItem v u) → wpAny (model X.prog X.w) X.A (subscriptTail value slice v u) (EP X pins σ Q) X.xe s
def MtR (X : Cx) (id : String) (r : V → List V → Hp → VK → Prop) : Prop :=
  ∀ (pins : List (Addr × Obj)) (s : Shared) (σ : St) (H : Hp) (x : V) (xs : List V) (v : Value) (us : List Value) (Q : VK), Inv X pins σ H s → RelV x v → Vals xs us → r x xs H Q →
    wpAny (model X.prog X.w) X.A (call (.builtin id) (v :: us)) (EP X pins σ Q) X.xe s
section
variable {X : Cx} {a b : Expr} {ta tb : TE} {pos : Pos}
theorem IxR.or {r r' : R2} (h : IxR X r) (h' : IxR X r') : IxR X (fun x y H Q => r x y H Q ∨ r' x y H Q) := by
  intro value slice pins s σ H x y v u Q I rx ry q hs
  rcases q with q | q
  · exact h value slice pins s σ H x y v u Q I rx ry q hs
  · exact h' value slice pins s σ H x y v u Q I rx ry q hs
theorem pe_ix {r : R2} (hr : IxR X r) (ha : PE X a ta) (hb : PE X b tb) (hs : PlainIx b) : PE X (.Subscript a b pos) (tOp r ta tb) := by
  intro pins s σ H Q I h
  exact Subscript_ (binT ha hb I h fun v u s2 x y H2 I2 rx ry q => hr a b pins s2 σ H2 x y v u Q I2 rx ry q (hs _ _))

def rIxL (K : PySem.W.Frag) : R2 := fun x y H Q => ∃ p xs i v, x = .ref p ∧ y = .int i ∧ SqL K H p xs ∧ atI xs i = some v ∧ Q v H
def rIxT (K : PySem.W.Frag) : R2 := fun x y H Q => ∃ p xs i v, x = .ref p ∧ y = .int i ∧ SqT K H p xs ∧ atI xs i = some v ∧ Q v H
def rIxS : R2 := fun x y H Q => ∃ z i c, x = .str z ∧ y = .int i ∧ z.length ≤ sizeLine ∧ atI z.cps.toList i = some c ∧ Q (.str ⟨#[c]⟩) H
theorem ix_list : IxR X (rIxL X.K) := by
  intro value slice pins s σ H x y v u Q I rx ry h hs
  obtain ⟨p, xs, i, z, rfl, rfl, hq, he, q⟩ := h
  cases rx
  obtain ⟨t, rfl⟩ := ry
  obtain ⟨its, r, pl, hz⟩ := I.list hq
  obtain ⟨j, h1, h2, h3, h4, h5⟩ := atI_get he
  obtain ⟨w, ew, rw'⟩ := r.get h2
  have hl := r.length
  have hn := line63
  have fin : EP X pins σ Q w s := ⟨z, H, I, rw', q⟩
  by_cases h0 : 0 ≤ i
  · have hj : i.toNat = j := by
      rw [seqIndex_of h0 h5] at h1
      exact Option.some.inj h1
    exact item_listR pl.isList h0 (by omega) (by rw [hj]; simpa using ew) fin hs
  · have hj : (i + (its.toArray.size : Int)).toNat = j := by
      rw [seqIndex_neg (by omega) h4] at h1
      rw [List.size_toArray, ← hl]
      exact Option.some.inj h1
    exact subscriptTail_builtinR (x := w) pl.isList.typeIs slot_list_getitem.lookup
      (wpAny_getItem_list_neg (Q := fun r s' => r = w ∧ EP X pins σ Q r s') pl.isList (by omega) (by rw [List.size_toArray] <;> omega) (by omega) (by rw [hj]; simpa using ew) ⟨rfl, fin⟩) hs
theorem ix_tup : IxR X (rIxT X.K) := by
  intro value slice pins s σ H x y v u Q I rx ry h hs
  obtain ⟨p, xs, i, z, rfl, rfl, hq, he, q⟩ := h
  cases rx
  obtain ⟨t, rfl⟩ := ry
  obtain ⟨its, r, pl, hz⟩ := I.tuple hq
  obtain ⟨j, h1, h2, h3, h4, h5⟩ := atI_get he
  obtain ⟨w, ew, rw'⟩ := r.get h2
  have hl := r.length
  have hn := line63
  have fin : EP X pins σ Q w s := ⟨z, H, I, rw', q⟩
  exact subscriptTail_builtinR (x := w) pl.typeIs slot_tuple_getitem.lookup
    (getItem_tuple (j := j) (Q := fun r s' => r = w ∧ EP X pins σ Q r s') pl (by omega) (by omega) (by rw [List.size_toArray, ← hl]; exact h1) (by simpa using ew) ⟨rfl, fin⟩) hs
theorem ix_str : IxR X rIxS := by
  intro value slice pins s σ H x y v u Q I rx ry h hs
  obtain ⟨z, i, c, rfl, rfl, hz, he, q⟩ := h
  obtain ⟨t, rfl⟩ := rx
  obtain ⟨t', rfl⟩ := ry
  obtain ⟨j, h1, h2, h3, h4, h5⟩ := atI_get he
  have hl : z.cps.toList.length = z.length := by simp [Str.length]
  rw [hl] at h1 h4 h5
  have hn := line63
  exact tail_any (typeIs_str s z t) slot_str_getitem.lookup (getItem_str (c := c) (by
    have e1 : decide (i < -(2 ^ 63 : Int)) = false := decide_eq_false (by omega)
    have e2 : decide (i ≥ 2 ^ 63) = false := decide_eq_false (by omega)
    rw [e1, e2, Bool.or_false]) (by rw [h1]; simpa using h2) ⟨.str ⟨#[c]⟩, H, I.tok _, ⟨_, rfl⟩, q⟩) hs
def rIx (K : PySem.W.Frag) : R2 := fun x y H Q => rIxL K x y H Q ∨ rIxT K x y H Q ∨ rIxS x y H Q
theorem ix_seq : IxR X (rIx X.K) := ix_list.or (ix_tup.or ix_str)

theorem mapSeq_set (its : List Value) (n j : Nat) (u : Value) : Obj.mapSeq (·.setIfInBounds j u) { cls := .type "list", data := .seq its.toArray n } = { cls := .type "list", data := .seq (its.set j u).toArray n } := by
  simp [Obj.mapSeq]
theorem Inv.lst {pins : List (Addr × Obj)} {σ : St} {H : Hp} {s : Shared} {p : Addr} {xs : List V} (I : Inv X pins σ H s) (h : H p = some (.lst xs)) :
    ∃ (its : List Value) (n : Nat), Vals xs its ∧ s.heap.get? p = some { cls := .type "list", data := .seq its.toArray n } ∧ xs.length ≤ sizeLine := by
  obtain ⟨z, its, n, r, e⟩ := I.hok p _ h
  exact ⟨its, n, r, e, z⟩
theorem Inv.lstUpd {pins : List (Addr × Obj)} {σ : St} {H : Hp} {s : Shared} {p : Addr} {xs ys : List V} {its its' : List Value} {n n' : Nat} {f : Obj → Obj} (I : Inv X pins σ H s) (h : H p = some (.lst xs))
    (ho : s.heap.get? p = some { cls := .type "list", data := .seq its.toArray n }) (hf : f { cls := .type "list", data := .seq its.toArray n } = { cls := .type "list", data := .seq its'.toArray n' }) (r : Vals ys its') (hz : ys.length ≤ sizeLine) (t : Nat) :
    Inv X pins σ (upd H p (.lst ys)) { s with heap := s.heap.update p f, toks := t } := by
  have e : (s.heap.update p f).get? p = some { cls := .type "list", data := .seq its'.toArray n' } := by
    rw [Heap.get?_update_self f ho (by rw [hf] <;> rfl), hf]
  refine I.write (x := p) (e := p) (by rw [h]; trivial) (.inl rfl) (fun b u hb q => (Heap.get?_update_other _ _ (Ne.symm hb)).trans q) ⟨_, e⟩ ?_
  exact ⟨hz, its', n', r, e⟩
def rSetL : V → V → V → Hp → (Hp → Prop) → Prop := fun o i v H Q => ∃ p xs k j, o = .ref p ∧ i = .int k ∧ H p = some (.lst xs) ∧ ixN xs.length k = some j ∧ Q (upd H p (.lst (xs.set j v)))
theorem set_list : PSet X rSetL := by
  intro pins s σ H o i v ov iv u Q I ro ri rv h
  obtain ⟨p, xs, k, j, rfl, rfl, hp, hj, q⟩ := h
  cases ro
  obtain ⟨t, rfl⟩ := ri
  obtain ⟨its, n, r, ho, hz⟩ := I.lst hp
  obtain ⟨h1, h2, h3, h4⟩ := ixN_seq hj
  have hl := r.length
  have hn := line63
  have I' : Inv X pins σ (upd H p (.lst (xs.set j v))) { s with heap := s.heap.update p (Obj.mapSeq (·.setIfInBounds j u)) } :=
    I.lstUpd hp ho (mapSeq_set its n j u) (r.set rv j) (by rw [List.length_set]; exact hz) s.toks
  by_cases h0 : 0 ≤ k
  · have hk : k.toNat = j := by
      rw [seqIndex_of h0 h4] at h1
      exact Option.some.inj h1
    exact PySem.W.ki_setAt ho h0 (by omega) (by rw [List.size_toArray, ← hl]; exact h4) (by rw [hk]; exact ⟨_, I', q⟩)
  · have hk : (k + (its.toArray.size : Int)).toNat = j := by
      rw [seqIndex_neg (by omega) h3] at h1
      rw [List.size_toArray, ← hl]
      exact Option.some.inj h1
    exact PySem.W.ki_setBack ho (by omega) (by rw [List.size_toArray, ← hl]; exact h3) (by omega) (by rw [hk]; exact ⟨_, I', q⟩)

theorem slice_bounds (lo hi : Option Int) (n : Nat) : (sliceBounds lo hi none n).1 = ((HT.sIx n 0 lo : Nat) : Int) ∧ (sliceBounds lo hi none n).2.1 = ((HT.sIx n n hi : Nat) : Int) ∧ (sliceBounds lo hi none n).2.2 = 1 := by
  refine ⟨?_, ?_, rfl⟩
  · cases lo with
    | none => simp [sliceBounds, HT.sIx]
    | some i =>
      simp only [sliceBounds, HT.sIx, Option.getD_none, show (1 : Int) > 0 by decide, if_true]
      by_cases h : i < 0
      · simp only [h, if_true] <;> omega
      · simp only [h, if_false] <;> omega
  · cases hi with
    | none => simp [sliceBounds, HT.sIx]
    | some i =>
      simp only [sliceBounds, HT.sIx, Option.getD_none, show (1 : Int) > 0 by decide, if_true]
      by_cases h : i < 0
      · simp only [h, if_true] <;> omega
      · simp only [h, if_false] <;> omega
theorem slicePick_cut (its : List Value) (lo hi : Option Int) : slicePick its.toArray lo hi none = ((its.drop (HT.sIx its.length 0 lo)).take (HT.sIx its.length its.length hi - HT.sIx its.length 0 lo)).toArray := by
  obtain ⟨h1, h2, h3⟩ := slice_bounds lo hi its.toArray.size
  unfold slicePick
  rw [h1, h2, h3]
  simp only [sliceRange_one, pick_run, List.size_toArray] <;> rfl
def rSlL (K : PySem.W.Frag) : V → Option Int → Option Int → Hp → VK → Prop := fun x lo hi H Q => ∃ a xs, x = .ref a ∧ SqL K H a xs ∧ ∀ p, H p = none → Q (.ref p) (upd H p (.lst (cutV xs lo hi)))
theorem sl_list : SlR X (rSlL X.K) := by
  intro pins s σ H x v vl vu lo hi sl Q I rx hs pl pu h
  obtain ⟨a, xs, rfl, hx, q⟩ := h
  cases rx
  obtain ⟨its, r, ht, hz⟩ := I.list hx
  have hlen := r.length
  refine ⟨"list", _, slot_list_getitem.lookup, ht.isList.typeIs, ?_⟩
  refine wpAny_getItem_list_slice ht.isList hs pl pu .none (by simp) ?_ (by rw [List.size_toArray] <;> omega)
  rw [slicePick_cut, ← hlen]
  refine ⟨.ref s.heap.objs.size, _, I.laid (t' := s.toks) (o := .lst (cutV xs lo hi)) (fun b ob q => Heap.get?_push_of_some _ q) (Nat.le_refl _) ?_, rfl, q _ (I.hok.fresh (Nat.le_refl _))⟩
  exact ⟨Nat.le_trans (cutV_length xs lo hi) hz, _, 0, (r.drop (HT.sIx xs.length 0 lo)).take (HT.sIx xs.length xs.length hi - HT.sIx xs.length 0 lo), Heap.get?_push_size _ rfl⟩

def flatV : V → Bool
  | .non => true
  | .bl _ => true
  | .int _ => true
  | .str _ => true
  | _ => false
def eqV : V → V → Bool
  | .non, .non => true
  | .bl a, .bl b => a == b
  | .bl a, .int b => (if a then 1 else 0) == b
  | .int a, .bl b => a == (if b then 1 else 0)
  | .int a, .int b => a == b
  | .str a, .str b => a == b
  | _, _ => false
theorem eqAt_V {A : Around} {s : Shared} {y x : V} {u v : Value} (ry : RelV y u) (rx : RelV x v) (fy : flatV y = true) (fx : flatV x = true) : SeqAt.EqAt A s u v (eqV y x) := by
  cases y with
  | non =>
    cases ry
    cases x with
    | non => cases rx; exact SeqAt.EqAt.same _
    | bl b => cases rx; exact SeqAt.EqAt.none_bool b
    | int b => obtain ⟨t, rfl⟩ := rx; exact SeqAt.EqAt.none_int b t
    | str b => obtain ⟨t, rfl⟩ := rx; exact SeqAt.EqAt.none_str b t
    | _ => exact absurd (show false = true from fx) Bool.false_ne_true
  | bl a =>
    cases ry
    cases x with
    | non => cases rx; exact SeqAt.EqAt.bool_none a
    | bl b => cases rx; exact SeqAt.EqAt.bool_bool a b
    | int b => obtain ⟨t, rfl⟩ := rx; exact SeqAt.EqAt.bool_int a b t
    | str b => obtain ⟨t, rfl⟩ := rx; exact SeqAt.EqAt.bool_str a b t
    | _ => exact absurd (show false = true from fx) Bool.false_ne_true
  | int a =>
    obtain ⟨t', rfl⟩ := ry
    cases x with
    | non => cases rx; exact SeqAt.EqAt.int_none a t'
    | bl b => cases rx; exact SeqAt.EqAt.int_bool a t' b
    | int b => obtain ⟨t, rfl⟩ := rx; exact SeqAt.EqAt.int_int a t' b t
    | str b => obtain ⟨t, rfl⟩ := rx; exact SeqAt.EqAt.int_str a t' b t
    | _ => exact absurd (show false = true from fx) Bool.false_ne_true
  | str a =>
    obtain ⟨t', rfl⟩ := ry
    cases x with
    | non => cases rx; exact SeqAt.EqAt.str_none a t'
    | bl b => cases rx; exact SeqAt.EqAt.str_bool a t' b
    | int b => obtain ⟨t, rfl⟩ := rx; exact SeqAt.EqAt.str_int a t' b t
    | str b => obtain ⟨t, rfl⟩ := rx; exact SeqAt.EqAt.str_str a t' b t
    | _ => exact absurd (show false = true from fx) Bool.false_ne_true
  | _ => exact absurd (show false = true from fy) Bool.false_ne_true
def eqU (x : V) (u : Value) : Bool := match u with
  | .none => eqV .non x
  | .bool b => eqV (.bl b) x
  | .int i _ => eqV (.int i) x
  | .str z _ => eqV (.str z) x
  | _ => false
theorem eqU_of {x y : V} {u : Value} (r : RelV y u) (f : flatV y = true) : eqU x u = eqV y x := by
  cases y with
  | non => cases r; rfl
  | bl b => cases r; rfl
  | int i => obtain ⟨t, rfl⟩ := r; rfl
  | str z => obtain ⟨t, rfl⟩ := r; rfl
  | _ => exact absurd (show false = true from f) Bool.false_ne_true
theorem any_eqU {x : V} : ∀ {xs : List V} {us : List Value}, Vals xs us → xs.all flatV = true → us.any (eqU x) = xs.any fun y => eqV y x
  | _, _, .nil, _ => rfl
  | y :: xs, u :: us, .cons r t, f => by
    rw [List.all_cons, Bool.and_eq_true] at f
    rw [List.any_cons, List.any_cons, eqU_of r f.1, any_eqU t f.2]
theorem mem_eqAt {A : Around} {s : Shared} {x : V} {v : Value} (rx : RelV x v) (fx : flatV x = true) : ∀ {xs : List V} {us : List Value}, Vals xs us → xs.all flatV = true → ∀ u ∈ us, SeqAt.EqAt A s u v (eqU x u)
  | _, _, .nil, _ => fun u hu => by cases hu
  | y :: xs, u :: us, .cons r t, f => fun u' hu => by
    rw [List.all_cons, Bool.and_eq_true] at f
    rcases List.mem_cons.mp hu with rfl | hu
    · rw [eqU_of r f.1]; exact eqAt_V r rx f.1 fx
    · exact mem_eqAt rx fx t f.2 u' hu
def inV (x : V) (xs : List V) : Bool := xs.any fun y => eqV y x
def rIn (K : PySem.W.Frag) (neg : Bool) : R2 := fun x y H Q => ∃ p xs, y = .ref p ∧ (SqL K H p xs ∨ SqT K H p xs) ∧ flatV x = true ∧ xs.all flatV = true ∧ Q (.bl (if neg then !inV x xs else inV x xs)) H
theorem op_in_seq : OpR X (compareOp .In) (rIn X.K false) := by
  intro pins s σ H x y v u Q I rx ry h
  obtain ⟨p, xs, rfl, hq, fx, fs, q⟩ := h
  cases ry
  rcases hq with hq | hq
  · obtain ⟨its, r, pl, hz⟩ := I.list hq
    refine SeqAt.in_listAt (eqU x) pl.isList (fun w hw => mem_eqAt rx fx r fs w (by simpa using hw)) ⟨.bl _, H, I, rfl, ?_⟩
    rw [show its.toArray.any (eqU x) = its.any (eqU x) by simp, any_eqU r fs]
    exact q
  · obtain ⟨its, r, pl, hz⟩ := I.tuple hq
    refine SeqAt.in_tupleAt (eqU x) pl (fun w hw => mem_eqAt rx fx r fs w (by simpa using hw)) ⟨.bl _, H, I, rfl, ?_⟩
    rw [show its.toArray.any (eqU x) = its.any (eqU x) by simp, any_eqU r fs]
    exact q
theorem op_notIn_seq : OpR X (compareOp .NotIn) (rIn X.K true) := by
  intro pins s σ H x y v u Q I rx ry h
  obtain ⟨p, xs, rfl, hq, fx, fs, q⟩ := h
  cases ry
  rcases hq with hq | hq
  · obtain ⟨its, r, pl, hz⟩ := I.list hq
    refine SeqAt.notIn_listAt (eqU x) pl.isList (fun w hw => mem_eqAt rx fx r fs w (by simpa using hw)) ⟨.bl _, H, I, rfl, ?_⟩
    rw [show its.toArray.any (eqU x) = its.any (eqU x) by simp, any_eqU r fs]
    exact q
  · obtain ⟨its, r, pl, hz⟩ := I.tuple hq
    refine SeqAt.notIn_tupleAt (eqU x) pl (fun w hw => mem_eqAt rx fx r fs w (by simpa using hw)) ⟨.bl _, H, I, rfl, ?_⟩
    rw [show its.toArray.any (eqU x) = its.any (eqU x) by simp, any_eqU r fs]
    exact q
theorem call_len_seq : CallR X (.builtin "len") (fun xs H Q => ∃ p ys, xs = [.ref p] ∧ (SqL X.K H p ys ∨ SqT X.K H p ys) ∧ Q (.int ys.length) H) := by
  intro pins s σ H xs us Q I r h
  obtain ⟨p, ys, rfl, hq, q⟩ := h
  obtain ⟨u, rfl, rx⟩ := vals1 r
  cases rx
  have hn := line63
  rcases hq with hq | hq
  · obtain ⟨its, r', pl, hz⟩ := I.list hq
    have hlen := r'.length
    exact Calls.call_len_list pl.isList (by simp only [List.size_toArray] <;> omega) ⟨.int ys.length, H, I.tok _, ⟨s.toks + 1, by rw [List.size_toArray, hlen]⟩, q⟩
  · obtain ⟨its, r', pl, hz⟩ := I.tuple hq
    have hlen := r'.length
    exact len_tuple pl (by simp only [List.size_toArray] <;> omega) ⟨.int ys.length, H, I.tok _, ⟨s.toks + 1, by rw [List.size_toArray, hlen]⟩, q⟩
theorem call_len_str : CallR X (.builtin "len") (fun xs H Q => ∃ z, xs = [.str z] ∧ z.length ≤ sizeLine ∧ Q (.int z.length) H) := by
  intro pins s σ H xs us Q I r h
  obtain ⟨z, rfl, hz, q⟩ := h
  obtain ⟨u, rfl, t, rfl⟩ := vals1 r
  have hn := line63
  exact len_str (by omega) ⟨.int z.length, H, I.tok _, ⟨_, rfl⟩, q⟩
theorem call_list_of : CallR X (.type "list") (fun xs H Q => ∃ p ys, xs = [.ref p] ∧ (SqL X.K H p ys ∨ SqT X.K H p ys) ∧ ∀ l, H l = none → Q (.ref l) (upd H l (.lst ys))) := by
  intro pins s σ H xs us Q I r h
  obtain ⟨p, ys, rfl, hq, q⟩ := h
  obtain ⟨u, rfl, rx⟩ := vals1 r
  cases rx
  have fin : ∀ (its : List Value), Vals ys its → ys.length ≤ sizeLine → ∀ (h' : Heap) (c' : Nat), (∀ b o', s.heap.get? b = some o' → h'.get? b = some o') →
      h'.get? s.heap.objs.size = some { cls := .type "list", dict := none, data := .seq its.toArray c', slots := #[] } → EP X pins σ Q (.ref s.heap.objs.size) { s with heap := h' } := fun its r' hz h' c' kp e =>
    ⟨.ref s.heap.objs.size, _, I.laid (t' := s.toks) kp (Nat.le_refl _) (show ObjOk X.prog X.w _ h' _ (.lst ys) from ⟨hz, its, c', r', e⟩), rfl, q _ (I.hok.fresh (Nat.le_refl _))⟩
  rcases hq with hq | hq
  · obtain ⟨its, r', pl, hz⟩ := I.list hq
    have hlen := r'.length
    obtain ⟨o, ho, hc, n, hd⟩ := pl.isList
    exact call_list_seq p (.inl rfl) ho hc hd (fun h' c' kp e => fin its r' hz h' c' kp e) (by simp only [List.size_toArray] <;> omega)
  · obtain ⟨its, r', pl, hz⟩ := I.tuple hq
    have hlen := r'.length
    obtain ⟨o, ho, hc, n, hd⟩ := pl
    exact call_list_seq p (.inr rfl) ho hc hd (fun h' c' kp e => fin its r' hz h' c' kp e) (by simp only [List.size_toArray] <;> omega)
theorem call_tuple_of : CallR X (.type "tuple") (fun xs H Q => ∃ p ys, xs = [.ref p] ∧ ((SqL X.K H p ys ∧ ∀ l, H l = none → Q (.ref l) (upd H l (.tup ys))) ∨ (SqT X.K H p ys ∧ Q (.ref p) H))) := by
  intro pins s σ H xs us Q I r h
  obtain ⟨p, ys, rfl, h⟩ := h
  obtain ⟨u, rfl, rx⟩ := vals1 r
  cases rx
  rcases h with ⟨hq, q⟩ | ⟨hq, q⟩
  · obtain ⟨its, r', pl, hz⟩ := I.list hq
    have hlen := r'.length
    refine call_tuple_list pl.isList (fun h' kp => ?_) (by simp only [List.size_toArray] <;> omega)
    have I1 : Inv X pins σ H { s with heap := h' } := I.kept (t' := s.toks) kp
    have I2 : Inv X pins σ (upd H h'.objs.size (.tup ys)) { s with heap := h'.push { cls := .type "tuple", data := .seq its.toArray } } :=
      I1.laid (t' := s.toks) (fun b o e => Heap.get?_push_of_some _ e) (Nat.le_refl _) (show ObjOk X.prog X.w _ _ _ (.tup ys) from ⟨hz, its, r', PlT.new _ _⟩)
    exact ⟨.ref h'.objs.size, _, I2, rfl, q _ (I1.hok.fresh (Nat.le_refl _))⟩
  · obtain ⟨its, r', pl, hz⟩ := I.tuple hq
    exact call_tuple_same pl ⟨.ref p, H, I, rfl, q⟩

def tyV (K : PySem.W.Frag) (T : String) (x : V) (H : Hp) : Prop := match x with
  | .str _ => T = "str"
  | .int _ => T = "int"
  | .ref p => (T = "list" ∧ ∃ xs, SqL K H p xs) ∨ (T = "tuple" ∧ ∃ o, K.lookup p = some o ∧ o.cls = .type "tuple" ∧ o.dict = none) ∨
      (T = "dict" ∧ ((∃ kvs, H p = some (.dK kvs)) ∨ ∃ kvs, H p = some (.dT kvs))) ∨ (T = "set" ∧ ∃ S n, H p = some (.set S n))
  | _ => False
theorem tyV_is {pins : List (Addr × Obj)} {σ : St} {H : Hp} {s : Shared} {T : String} {x : V} {v : Value} (I : Inv X pins σ H s) (r : RelV x v) (ty : tyV X.K T x H) :
    s.TypeIs v T ∧ ∀ a, v = .ref a → ∃ ob, s.heap.get? a = some ob ∧ ob.dict = none := by
  cases x with
  | str z =>
    obtain ⟨t, rfl⟩ := r
    cases (show T = "str" from ty)
    exact ⟨typeIs_str s z t, fun _ e => nomatch e⟩
  | int i =>
    obtain ⟨t, rfl⟩ := r
    cases (show T = "int" from ty)
    exact ⟨typeIs_int s i t, fun _ e => nomatch e⟩
  | ref p =>
    cases r
    rcases ty with ⟨rfl, xs, hq⟩ | ⟨rfl, o, hk, hc, hd⟩ | ⟨rfl, hk⟩ | ⟨rfl, S, n, hk⟩
    · obtain ⟨its, _, pl, _⟩ := I.list hq
      refine ⟨pl.isList.typeIs, fun a e => ?_⟩
      cases e
      obtain ⟨o, n, e, c, hd, _⟩ := pl
      exact ⟨o, e, hd⟩
    · refine ⟨⟨o, I.kIn p o hk, hc⟩, fun a e => ?_⟩
      cases e
      exact ⟨o, I.kIn _ o hk, hd⟩
    · have z : ∃ o, s.heap.get? p = some o ∧ o.ExactDict := by
        rcases hk with ⟨kvs, hk⟩ | ⟨kvs, hk⟩
        · obtain ⟨_, _, _, _, o, _, _, e, ex, _⟩ := I.hok p _ hk
          exact ⟨o, e, ex⟩
        · obtain ⟨_, _, _, _, o, _, _, e, ex, _⟩ := I.hok p _ hk
          exact ⟨o, e, ex⟩
      obtain ⟨o, e, ex⟩ := z
      refine ⟨⟨o, e, ex.1⟩, fun a e2 => ?_⟩
      cases e2
      exact ⟨o, e, ex.2.1⟩
    · obtain ⟨o, _, _, _, e, ex, _⟩ := I.hok p _ hk
      refine ⟨⟨o, e, ex.1⟩, fun a e2 => ?_⟩
      cases e2
      exact ⟨o, e, ex.2.1⟩
  | _ => exact False.elim ty
def tBM0 (K : PySem.W.Frag) (T : String) (r : V → List V → Hp → VK → Prop) (to : TE) : TE := fun σ H Q => to σ H fun x H1 => tyV K T x H1 ∧ r x [] H1 Q
def tBM (K : PySem.W.Frag) (T : String) (r : V → List V → Hp → VK → Prop) (to : TE) (t : TA) : TE := fun σ H Q => to σ H fun x H1 => tyV K T x H1 ∧ t σ H1 fun xs H2 => r x xs H2 Q
variable {o e : Expr} {es : List Expr} {to : TE} {t : TA} {name : Str} {apos cpos : Pos} {T id : String} {r : V → List V → Hp → VK → Prop}
theorem pe_bm0 (pa : PlainAttrs T) (slot : Slot T name id) (hty : typeOf (.builtin id) = pure (.type "method_descriptor")) (hm : MtR X id r) (ho : PE X o to)
    (hbase : attributeBase o name X.env (eval o X.env) = eval o X.env := by rfl) (hline : (apos.endLine == cpos.line) = true := by rfl) : PE X (.Call (.Attribute o name apos) [] [] cpos) (tBM0 X.K T r to) := by
  intro pins s σ H Q I h
  refine wpAny_Call_method0_late hbase hline (thn (ho pins s σ H _ I h) fun v s1 hz => ?_)
  obtain ⟨x, H1, I1, r1, ty, q1⟩ := hz
  obtain ⟨h1, h2⟩ := tyV_is I1 r1 ty
  exact ⟨T, id, pa, slot, hty, h1, h2, Calls.callWith_builtin rfl (PySem.evalArgs_none (hm pins s1 σ H1 x [] v [] Q I1 r1 .nil q1))⟩
theorem pe_bm (pa : PlainAttrs T) (slot : Slot T name id) (hty : typeOf (.builtin id) = pure (.type "method_descriptor")) (hm : MtR X id r) (ho : PE X o to) (ha : PA X (e :: es) t)
    (hbase : attributeBase o name X.env (eval o X.env) = eval o X.env := by rfl)
    (hfew : ((backTo cpos (starEach (e :: es) X.env)).all (fun x => !x.1) && (backToKw cpos (keywordEach [] X.env)).all (fun x => x.1.isSome)
      && decide ((e :: es).length + ([] : List Keyword).length + (if ([] : List Keyword).isEmpty then 0 else 1) < 30)) = true := by rfl)
    (hline : (apos.endLine == cpos.line) = true := by rfl) (hs : starEach (e :: es) X.env = (false, eval e X.env) :: starEach es X.env := by rfl) (hplain : (backTo cpos (starEach es X.env)).any (·.1) = false := by rfl) :
    PE X (.Call (.Attribute o name apos) (e :: es) [] cpos) (tBM X.K T r to t) := by
  intro pins s σ H Q I h
  refine wpAny_Call_method_late hbase hfew hline rfl (thn (ho pins s σ H _ I h) fun v s1 hz => ?_)
  obtain ⟨x, H1, I1, r1, ty, q1⟩ := hz
  obtain ⟨h1, h2⟩ := tyV_is I1 r1 ty
  refine ⟨T, id, pa, slot, hty, h1, h2, ?_⟩
  have hA := ha cpos pins s1 σ H1 _ I1 q1
  rw [hs] at hA ⊢
  refine Calls.callWith_builtin (by show (false || (backTo cpos (starEach es X.env)).any (·.1)) = false; rw [hplain] <;> rfl) (Calls.evalArgs_plain ?_)
  exact thn hA fun us s2 ⟨vs, H2, I2, r2, q2⟩ => hm pins s2 σ H2 x vs v us Q I2 r1 r2 q2
end
end L2

namespace L2
open PySem PySem.Spec PyProof.Rows

def MtM (X : Cx) (id : String) (r : V → List V → Hp → VK → Prop) : Prop :=
  ∀ (pins : List (Addr × Obj)) (s : Shared) (σ : St) (H : Hp) (x : V) (xs : List V) (v : Value) (us : List Value) (Q : VK), Inv X pins σ H s → RelV x v → Vals xs us → r x xs H Q →
    wpAny (model X.prog X.w) X.A (call (.builtin id) (v :: us)) (EP X pins σ Q) X.xe s

theorem Vals.one : ∀ {x : V} {us : List Value}, Vals [x] us → ∃ u, us = [u] ∧ RelV x u
  | _, _, .cons r .nil => ⟨_, rfl, r⟩
theorem Vals.zero : ∀ {us : List Value}, Vals [] us → us = []
  | _, .nil => rfl
theorem Vals.reverse {xs : List V} {us : List Value} (h : Vals xs us) : Vals xs.reverse us.reverse := by
  induction h with
  | nil => exact .nil
  | cons r t ih => rw [List.reverse_cons, List.reverse_cons]; exact Vals.append ih (.cons r .nil)
theorem Vals.dropLast {xs : List V} {us : List Value} (h : Vals xs us) : Vals xs.dropLast us.dropLast := by
  induction h with
  | nil => exact .nil
  | cons r t ih =>
    cases t with
    | nil => exact .nil
    | cons q t' => exact .cons r ih
theorem erase_last {α : Type} (l : List α) : l.eraseIdx (l.length - 1) = l.dropLast := by
  induction l with
  | nil => rfl
  | cons a r ih =>
    cases r with
    | nil => rfl
    | cons b r =>
      have e : (a :: b :: r).length - 1 = ((b :: r).length - 1) + 1 := by
        have h1 : (a :: b :: r).length = r.length + 2 := rfl
        have h2 : (b :: r).length = r.length + 1 := rfl
        omega
      rw [e, List.eraseIdx_cons_succ, ih]
      all_goals rfl
section
variable {X : Cx} {pins : List (Addr × Obj)} {σ : St} {H : Hp} {s : Shared} {l b : Addr} {xs ys zs : List V}

theorem Inv.lset {its its' : List Value} {n : Nat} {f : Array Value → Array Value} {t' : Nat} (I : Inv X pins σ H s) (hH : H l = some (.lst xs))
    (e : s.heap.get? l = some { cls := .type "list", data := .seq its.toArray n }) (hf : f its.toArray = its'.toArray) (hv : Vals ys its') (hz : ys.length ≤ sizeLine) :
    Inv X pins σ (upd H l (.lst ys)) { s with heap := s.heap.update l (Obj.mapSeq f), toks := t' } := by
  have q := PySem.IsL.update e f
  rw [hf] at q
  refine I.write (x := l) (e := l) (by rw [hH]; exact trivial) (.inl rfl) (fun b' u hb hu => (Heap.get?_update_other s.heap (Obj.mapSeq f) (Ne.symm hb)).trans hu) ⟨_, q⟩ ?_
  exact ⟨hz, its', _, hv, q⟩
theorem Inv.fresh (I : Inv X pins σ H s) : H s.heap.objs.size = none := I.hok.fresh (Nat.le_refl _)
theorem Inv.lstM (I : Inv X pins σ H s) (hH : H l = some (.lst xs)) : xs.length ≤ sizeLine ∧ ∃ (its : List Value) (n : Nat), Vals xs its ∧ xs.length = its.length ∧ s.heap.get? l = some { cls := .type "list", data := .seq its.toArray n } := by
  obtain ⟨z, its, n, r, e⟩ := I.hok l _ hH
  exact ⟨z, its, n, r, r.length, e⟩

end

section
variable {X : Cx}

def rAppend : V → List V → Hp → VK → Prop := fun x vs H Q => ∃ l xs y, x = .ref l ∧ vs = [y] ∧ H l = some (.lst xs) ∧ xs.length < sizeLine ∧ Q .non (upd H l (.lst (xs ++ [y])))
theorem mt_append : MtM X "list.append" rAppend := by
  intro pins s σ H x vs v us Q I rx rv h
  obtain ⟨l, xs, y, rfl, rfl, hH, hz, q⟩ := h
  cases rx
  obtain ⟨u, rfl, ru⟩ := rv.one
  obtain ⟨z, its, n, r, hl, e⟩ := I.lstM hH
  refine call_meets F.slot_list_append ⟨_, e, rfl⟩ F.entry_list_append (F.args_list_append_2 _ _) (PySem.list_append l its.toArray n u (by rw [List.size_toArray]; omega)) ⟨e, ?_⟩
  refine ⟨.non, _, I.lset (its' := its ++ [u]) hH e (by simp) (r.append (.cons ru .nil)) ?_, rfl, q⟩
  rw [List.length_append, List.length_singleton]
  omega

def rPop : V → List V → Hp → VK → Prop := fun x vs H Q => ∃ l xs y, x = .ref l ∧ vs = [] ∧ H l = some (.lst xs) ∧ xs[xs.length - 1]? = some y ∧ Q y (upd H l (.lst xs.dropLast))
theorem mt_pop : MtM X "list.pop" rPop := by
  intro pins s σ H x vs v us Q I rx rv h
  obtain ⟨l, xs, y, rfl, rfl, hH, hy, q⟩ := h
  cases rx
  have hus := rv.zero
  subst hus
  obtain ⟨z, its, n, r, hl, e⟩ := I.lstM hH
  obtain ⟨u, hu, ru⟩ := r.get hy
  have hy' : its.toArray[its.toArray.size - 1]? = some u := by
    show its.toArray[its.length - 1]? = some u
    rw [← Array.getElem?_toList, ← hl]
    exact hu
  refine call_meets F.slot_list_pop ⟨_, e, rfl⟩ F.entry_list_pop (F.args_list_pop_1 _) (MeetsSeq.list_pop_last l its.toArray n u hy' (by rw [List.size_toArray]; omega)) ⟨e, ?_⟩
  refine ⟨y, _, I.lset (its' := its.dropLast) hH e ?_ r.dropLast ?_, ru, q⟩
  · show its.toArray.eraseIdxIfInBounds (its.toArray.size - 1) = its.dropLast.toArray
    rw [List.size_toArray, List.eraseIdxIfInBounds_toArray, erase_last]
  · rw [List.length_dropLast]
    omega

def rReverse : V → List V → Hp → VK → Prop := fun x vs H Q => ∃ l xs, x = .ref l ∧ vs = [] ∧ H l = some (.lst xs) ∧ Q .non (upd H l (.lst xs.reverse))
theorem mt_reverse : MtM X "list.reverse" rReverse := by
  intro pins s σ H x vs v us Q I rx rv h
  obtain ⟨l, xs, rfl, rfl, hH, q⟩ := h
  cases rx
  have hus := rv.zero
  subst hus
  obtain ⟨z, its, n, r, hl, e⟩ := I.lstM hH
  refine call_meets F.slot_list_reverse ⟨_, e, rfl⟩ F.entry_list_reverse (F.args_list_reverse_1 _) (AutoSeq1.list_reverse_list_0 l its.toArray n (by rw [List.size_toArray]; omega)) ⟨e, ?_⟩
  refine ⟨.non, _, I.lset (its' := its.reverse) hH e (by simp) r.reverse ?_, rfl, q⟩
  rw [List.length_reverse]
  omega

def rClear : V → List V → Hp → VK → Prop := fun x vs H Q => ∃ l xs, x = .ref l ∧ vs = [] ∧ H l = some (.lst xs) ∧ Q .non (upd H l (.lst []))
theorem mt_clear : MtM X "list.clear" rClear := by
  intro pins s σ H x vs v us Q I rx rv h
  obtain ⟨l, xs, rfl, rfl, hH, q⟩ := h
  cases rx
  have hus := rv.zero
  subst hus
  obtain ⟨z, its, n, r, hl, e⟩ := I.lstM hH
  refine call_meets F.slot_list_clear ⟨_, e, rfl⟩ F.entry_list_clear (F.args_list_clear_1 _) (AutoSeq1.list_clear_list_0 l its.toArray n (by rw [List.size_toArray]; omega)) ⟨e, ?_⟩
  exact ⟨.non, _, I.lset (its' := []) (ys := []) hH e rfl .nil (Nat.zero_le _), rfl, q⟩

end

section
variable {prog : Program} {w : World} {A : Around} {E : Value → Shared → Prop} {s : Shared}
end

section
variable {X : Cx}
end
end L2

namespace Att
open PySem PySem.W PySem.Calls PyProof.Rows

theorem ints_of_wellAll {P : Params} {h : Heap} : ∀ (ns : List Int) (vs : List Value), WellAll P h vs (ns.map WData.int) → IntsAre vs ns := by
  intro ns
  induction ns with
  | nil =>
    intro vs w
    rw [List.map_nil] at w
    cases w
    exact .nil
  | cons n ns ih =>
    intro vs w
    rw [List.map_cons] at w
    cases w with
    | cons a b =>
      cases a
      exact .cons _ _ (ih _ b)

theorem script_of {l : OpenLaw} {n : Nat} (hn : l.most = some n) {P : Params} {h : Heap} {args : List WData} {vals : List Value}
    (hpre : l.row.toRowW.claim.pre args = true) (hwl : WellAll P h vals args) :
    ∃ a vs ns, vals = [Value.ref a] ∧ args = [WData.list (ns.map WData.int)] ∧ h.get? a = some { cls := .type "list", data := .seq vs.toArray } ∧ IntsAre vs ns ∧ ns.length ≤ n := by
  have hsh : WShape.hasAll [] args [.list .int] = true := (pre_splitW hpre).1
  have hc : l.pre.holds [] { args := args } = true := (pre_splitW hpre).2
  obtain ⟨d, r, rfl, h1, h2⟩ := hasAllW_cons hsh
  obtain rfl := hasAllW_nil h2
  obtain ⟨xs, rfl, h3⟩ := hasW_list h1
  obtain ⟨ns, rfl⟩ := items_int h3
  have hlen : ns.length ≤ n := by
    unfold OpenLaw.pre at hc
    have h4 : (WTm.not (.lt (.lit (.int (n : Int))) (.len (.arg 0)))).holds [] { args := [.list (ns.map .int)] } = true := by
      have h4 := (holds_andW hc).1
      rw [hn] at h4
      exact h4
    have h5 := condW_of h4 (w_not (w_lt w_lit (w_len_list (w_arg rfl))))
    rw [List.length_map] at h5
    refine Nat.le_of_not_lt fun q => ?_
    have q' : (n : Int) < ((ns.length : Nat) : Int) := by omega
    first
      | (rw [decide_eq_true q'] at h5; exact absurd h5 (by decide))
      | (simp at h5; omega)
  cases hwl with
  | cons w1 w2 =>
    cases w2
    cases w1 with
    | list ho hall => exact ⟨_, _, ns, rfl, rfl, ho, ints_of_wellAll ns _ hall, hlen⟩

theorem post_true (l : OpenLaw) (args : List WData) : l.row.toRowW.claim.post args (.bool true) args = true :=
  postW_of (r := l.row.toRowW) (X := (true == true))
    (show WShape.has [] (.bool true) .bool = true by first | rfl | decide | simp [WShape.has, WShape.arms, WShape.armsAll])
    (show (WTm.eq .res (.lit (.bool true))).value [] { args := args, res := some (.bool true), after := args } = some (.bool (true == true)) from w_eq_bool (w_res rfl) w_lit) rfl

theorem attach_call {l : OpenLaw} {n : Nat} {q : Program} {loose : List Str} {XP : (Str → Option Value) → Heap → Prop} {YP : World → Heap → Prop} {d : DefRec}
    (hn : l.most = some n) (hdf : d.params.defaults = [])
    (call : ∀ (w : World) (s₀ s₁ : Shared) (mg mb : Str → Option Value) (fa : Addr) (o : Obj) (pm cd doc : Value) (a : Addr) (vs : List Value) (ns : List Int),
      Ground q loose [] XP w s₀ mg mb s₁.heap → YP w s₁.heap →
      s₁.heap.get? fa = some o → o.data = .func (docDef d.name d.params d.body d.scope pm cd doc) → s₁.heap.CodeRec cd d.name → mg d.name = some (.ref fa) →
      s₁.heap.get? a = some { cls := .type "list", data := .seq vs.toArray } → IntsAre vs ns → ns.length ≤ n → s₁.gens = #[] →
      codeAny (model l.prog w) callerA (.call (.ref fa) ⟨[.ref a], []⟩) (fun r s' => r = .ok (.ret (.bool true)) ∧ OldK s₁.heap s'.heap ∧ s'.os = s₁.os ∧ AllBare s'.gens) s₁) :
    WalkO q loose XP YP l.row.toRowW d [] (fun f vs => PySem.call f vs) := by
  intro w s₀ s₁ mg mb G Y fa o pm cd doc dV kV ho hd hcd hD hmg hg args vals as hpre hlay hrd hwl hlo
  obtain rfl : dV = .none := Dflts.none hD hdf
  obtain rfl : kV = .none := Dflts.noKw hD
  obtain ⟨a, vs, ns, rfl, rfl, hobj, hints, hlen⟩ := script_of hn hpre hwl
  refine enter_call (codeAny_mono (call w s₀ s₁ mg mb fa o pm cd doc a vs ns G Y ho (fd_plain hd) hcd hmg hobj hints hlen hg) fun r s' hq => ?_)
  obtain ⟨rfl, h2, h3, h4⟩ := hq
  exact ⟨.inl ⟨.bool true, .bool true, [], rfl, fun _ => rfl, .bool true, post_true l _, fun _ => ⟨List.Pairwise.nil, fun _ hm => (nomatch hm)⟩⟩, h2, h3, h4⟩

section
variable {prog : Program} {w : World} {A : Around} {E : Value → Shared → Prop} {s : Shared} {K : Frag}

end
end Att

namespace L2
open PySem PySem.Spec PyProof.Rows

theorem vals_ints : ∀ {vs : List Value} {ns : List Int}, IntsAre vs ns → Vals (ns.map V.int) vs
  | _, _, .nil => .nil
  | _, _, .cons n t h => .cons ⟨t, rfl⟩ (vals_ints h)

def Only (H : Hp) : Prop := ∀ b, H b = none ∨ ∃ o xs, H b = some (.frz o (.lst xs))

theorem law_call {P : Program} {w : World} {K : PySem.W.Frag} {mg mb : Str → Option Value} {CX : CXT} {k : Nat} {fa a : Addr} {fd : FuncData} {x : Str} {sp : Sp} {s₁ : Shared} {vs : List Value} {ns : List Int}
    (KX : K.In s₁.heap) (hns : s₁.heap.Ns mainGlobals mg) (hb : s₁.heap.Ns builtinsNs mb) (hbb : ∀ x : Str, x ≠ "__name__" → mb x = bootBuiltins x) (hlim : s₁.heap.NoLimit) (hg : s₁.gens = #[])
    (ha : s₁.heap.get? a = some { cls := .type "list", data := .seq vs.toArray }) (hi : IntsAre vs ns) (hl : ns.length ≤ sizeLine) (hr : Room k callerA)
    (F : ∀ base : Heap, K.In base → base.Ns mainGlobals mg → FnOk P w K mg base CX k fa fd [x] sp) (hbind : ∀ (s : Shared) (u : Value), BindsTo s fd ⟨[u], []⟩ [(x, u)])
    (hsp : ∀ H : Hp, Only H → SqL K H a (ns.map V.int) → sp [.ref a] H (fun v _ => v = .bl true) fun _ _ _ => False)
    (hCX : ∀ H e s', CX [] H s₁ (fun _ _ _ => False) e s' → False) :
    codeAny (model P w) callerA (.call (.ref fa) ⟨[.ref a], []⟩) (fun r s' => r = .ok (.ret (.bool true)) ∧ OldK s₁.heap s'.heap ∧ s'.os = s₁.os ∧ AllBare s'.gens) s₁ := by
  have rv := vals_ints hi
  have lenV := hi.length
  -- from an abstract heap in which nothing but the script may be tracked
  have core : ∀ H : Hp, Only H → SqL K H a (ns.map V.int) → HOk P w H s₁.heap → (∀ b, H b ≠ none → b = a) → (H a ≠ none → K.lookup a = none) →
      codeAny (model P w) callerA (.call (.ref fa) ⟨[.ref a], []⟩) (fun r s' => r = .ok (.ret (.bool true)) ∧ OldK s₁.heap s'.heap ∧ s'.os = s₁.os ∧ AllBare s'.gens) s₁ := by
    intro H hO hS hok hA hK
    have base_of : ∀ {b : Addr} {o : Obj}, s₁.heap.get? b = some o → H b = none → (hidT s₁.heap H).get? b = some o := fun e n => hidT_get e n
    have noA : ∀ {b : Addr} {o : Obj} {es : Array DictEntry} {ep : Nat}, s₁.heap.get? b = some o → o.data = .dict es ep → H b = none := fun {b o es ep} e d => by
      cases q : H b with
      | none => rfl
      | some u =>
        have e' : b = a := hA b (by rw [q]; simp)
        subst e'
        rw [ha] at e; cases e
        have d' : Data.seq vs.toArray _ = Data.dict es ep := d
        cases d'
    have nsK : ∀ {b : Addr} {m : Str → Option Value}, s₁.heap.Ns b m → (hidT s₁.heap H).Ns b m := fun {b m} ⟨o, es, ep, e, d, r⟩ => ⟨o, es, ep, base_of e (noA e d), d, r⟩
    have hKb : K.In (hidT s₁.heap H) := fun b o e => base_of (KX b o e) (by
      cases q : H b with
      | none => rfl
      | some u =>
        have e' : b = a := hA b (by rw [q]; simp)
        subst e'
        rw [hK (by rw [q]; simp)] at e; cases e)
    have hM : Mod K mg (hidT s₁.heap H) := ⟨hKb, nsK hns, ⟨mb, nsK hb, hbb⟩, let ⟨mc, h1, h2⟩ := hlim; ⟨mc, nsK h1, h2⟩⟩
    have e0 : Env0 P w K mg (hidT s₁.heap H) callerA [] s₁ H := ⟨rfl, hM, fun b o e => of_hidT e, Nat.le_of_eq (hidT_size _ _), trivial, fun b hb => absurd (show b ∈ ([] : List Addr) from hb) (by simp), hok, .of_eq hg⟩
    refine codeAny_mono ((F _ hKb (nsK hns)).run callerA [] s₁ H ⟨[.ref a], []⟩ [.ref a] [.ref a] _ _ hr e0 (hbind s₁ (.ref a)) (.cons rfl .nil) (hsp H hO hS)) fun r s' h => ?_
    cases r with
    | error e => exact (hCX H e s' h).elim
    | ok fl =>
      cases fl with
      | next => exact False.elim h
      | brk => exact False.elim h
      | cont => exact False.elim h
      | ret u =>
        obtain ⟨v, H', os, bare, un, hok', r', q⟩ := h
        have q' : v = .bl true := q
        subst q'
        obtain rfl : u = Value.bool true := r'
        refine ⟨rfl, OldK.of_keep fun b o e => ?_, os, bare⟩
        cases q : H b with
        | none => exact un.keep b o e q (by intro z; exact absurd (show b ∈ ([] : List Addr) from z) (by simp)) (by simp)
        | some u =>
          rcases hO b with z | ⟨ob, xs, z⟩
          · rw [q] at z; cases z
          · have z2 := un.frzs b ob _ z
            obtain ⟨e1, _⟩ := hok b _ z
            obtain ⟨e2, _⟩ := hok' b _ z2
            rw [e] at e1; cases e1
            exact e2
  cases hk : K.lookup a with
  | some o =>
    -- the script is one of the module's own objects
    have e := KX a o hk
    rw [ha] at e
    cases e
    refine core (fun _ => none) (fun _ => .inl rfl) (.inr ⟨_, vs.toArray, _, hk, rfl, rfl, rfl, by rw [List.size_toArray, lenV]; exact hl, by simpa using rv⟩) (fun b u z => by have z' : (none : Option HO) = some u := z; cases z') (fun b z => absurd rfl z) fun z => absurd rfl z
  | none =>
    refine core (fun b => if b = a then some (.frz { cls := .type "list", data := .seq vs.toArray } (.lst (ns.map V.int))) else none) (fun b => ?_) (.inl (.inr ⟨{ cls := .type "list", data := .seq vs.toArray }, if_pos rfl⟩)) (fun b u z => ?_) (fun b z => ?_) fun _ => hk
    · by_cases hb : b = a
      · exact .inr ⟨_, _, if_pos hb⟩
      · exact .inl (if_neg hb)
    · by_cases hb : b = a
      · have z' := (if_pos hb).symm.trans z
        cases z'
        subst hb
        exact ⟨ha, by rw [List.length_map]; exact hl, vs, _, rv, ha⟩
      · have z' := (if_neg hb).symm.trans z
        cases z'
    · by_cases hb : b = a
      · exact hb
      · exact absurd (if_neg hb) z
end L2

namespace L2
open PySem PySem.Spec PyProof.Rows

theorem walk_of {l : PySem.W.OpenLaw} {n k : Nat} {q : Program} {loose : List Str} {XP : (Str → Option Value) → Heap → Prop} {YP : World → Heap → Prop} {d : DefRec} {K : Params → PySem.W.Frag} {CX : World → CXT} {sp : World → Sp} {x : Str}
    (hn : l.most = some n) (hn2 : n ≤ sizeLine) (hdf : d.params.defaults = []) (hr : Room k callerA)
    (hY : ∀ (w : World) (h : Heap), YP w h → (K w.params).In h)
    (F : ∀ (w : World) (mg : Str → Option Value) (fa : Addr) (h : Heap), (K w.params).In h → h.Ns mainGlobals mg → mg d.name = some (.ref fa) →
      ∃ fd : FuncData, (∀ (s : Shared) (u : Value), BindsTo s fd ⟨[u], []⟩ [(x, u)]) ∧
        ∀ base : Heap, (K w.params).In base → base.Ns mainGlobals mg → FnOk l.prog w (K w.params) mg base (CX w) k fa fd [x] (sp w))
    (hsp : ∀ (w : World) (H : Hp) (a : Addr) (ns : List Int), ns.length ≤ n → Only H → SqL (K w.params) H a (ns.map V.int) → sp w [.ref a] H (fun v _ => v = .bl true) fun _ _ _ => False)
    (hCX : ∀ (w : World) (H : Hp) (s : Shared) (e : Value) (s' : Shared), CX w [] H s (fun _ _ _ => False) e s' → False) :
    PySem.W.WalkO q loose XP YP l.row.toRowW d [] (fun f vs => PySem.call f vs) := by
  refine Att.attach_call hn hdf fun w s₀ s₁ mg mb fa o pm cd doc a vs ns G Y ho hd hcd hmg hobj hints hlen hg => ?_
  have KX := hY w _ Y
  obtain ⟨fd, hb, hF⟩ := F w mg fa _ KX G.T.g hmg
  exact law_call KX G.T.g G.T.b G.T.builtins G.T.nolimit hg hobj hints (Nat.le_trans hlen hn2) hr hF hb (fun H hO hS => hsp w H a ns hlen hO hS) fun H e s' => hCX w H s₁ e s'
end L2

namespace L2
open PySem PySem.Spec PyProof.Rows

def inClass (s : Stmt) (j : Nat) : Stmt := match s with
  | .ClassDef _ _ _ body _ _ _ _ _ _ _ => body.getD j (.Pass ⟨0, 0, 0, 0⟩)
  | _ => .Pass ⟨0, 0, 0, 0⟩
def defArgs (s : Stmt) : Arguments := match s with
  | .FunctionDef _ a _ _ _ _ _ _ _ _ => a
  | _ => { posonlyargs := [], args := [], vararg := none, kwonlyargs := [], kw_defaults := [], kwarg := none, defaults := [] }
def defBody (s : Stmt) : List Stmt := match s with
  | .FunctionDef _ _ b _ _ _ _ _ _ _ => b
  | _ => []
def defScope (s : Stmt) : Scope := match s with
  | .FunctionDef _ _ _ _ _ _ sc _ _ _ => sc
  | _ => { kind := .function, names := [], isGenerator := false, isCoroutine := false }

abbrev CX0 : CXT := fun _ _ _ _ _ _ => False
abbrev E0 : XK := fun _ _ _ => False
theorem pass0 {X : Cx} : Passes CX0 X E0 := fun _ _ _ _ _ _ _ h => h.elim

structure Fun (K : PySem.W.Frag) (x qual : Str) (st : Stmt) (f : Addr) (fd : FuncData) : Prop where
  ex : ∃ (oc : Value) (od : Option Addr) (kV doc pm : Value) (an : Option Addr) (cdv ct : Value) (osl : Array (Option Value)),
    fd = PySem.W.fnOf x qual (defArgs st) (defBody st) (defScope st) .none kV doc pm an cdv ct ∧ K.lookup f = some ⟨oc, od, .func fd, osl⟩ ∧ PySem.W.codeIn K cdv qual = true
  kp : PySem.W.keepIn K (.ref f) = true
section
variable {P : Program} {w : World} {K : PySem.W.Frag} {mg : Str → Option Value} {base : Heap}
theorem Fun.ok {x qual : Str} {st : Stmt} {f : Addr} {fd : FuncData} {N ps : List Str} {k : Nat} {sp : Sp} (F : Fun K x qual st f fd) (S : FnScope N ps (defScope st)) (len : ∀ vs H Q E, sp vs H Q E → vs.length = ps.length)
    (hbody : ∀ (cdv : Value) (A : Around) (outer : List Env) (s : Shared) (H : Hp) (vs : List V) (Q : VK) (E : XK), Room k (A.deeper (envOfC qual (defScope st) s.heap.objs.size f cdv)) → sp vs H Q E →
      ∃ t, PSs (cxOf CX0 P w K mg base N qual (defScope st) f cdv A outer s H E).nox (defBody st) t ∧ t { nx := fun _ H' => Q .non H', rt := Q } (start N vs) H) : FnOk P w K mg base CX0 (k + 1) f fd ps sp := by
  obtain ⟨oc, od, kV, doc, pm, an, cdv, ct, osl, rfl, lk, hcd⟩ := F.ex
  refine fn_of lk hcd S len fun A outer s H vs Q E hr hsp => ?_
  obtain ⟨t, h, q⟩ := hbody cdv A outer s H vs Q E hr hsp
  exact ⟨t, h.nox, q⟩
theorem Fun.binds {x qual : Str} {st : Stmt} {f : Addr} {fd : FuncData} {ps : List Str} (F : Fun K x qual st f fd)
    (h : ∀ (kV doc pm : Value) (an : Option Addr) (cdv ct : Value) (us : List Value), us.length = ps.length → bindArgs (PySem.W.fnOf x qual (defArgs st) (defBody st) (defScope st) .none kV doc pm an cdv ct) ⟨us, []⟩ = pure (ps.zip us)) : Binds K fd ps [] := by
  obtain ⟨oc, od, kV, doc, pm, an, cdv, ct, osl, rfl, lk, hcd⟩ := F.ex
  exact .all (h kV doc pm an cdv ct)
theorem fun_mk {x qual : Str} {st : Stmt} {f : Addr} {oc : Value} {od an : Option Addr} {osl : Array (Option Value)} {kV doc pm cdv ct : Value} (l : K.lookup f = some ⟨oc, od, .func (PySem.W.fnOf x qual (defArgs st) (defBody st) (defScope st) .none kV doc pm an cdv ct), osl⟩)
    (c : PySem.W.codeIn K cdv qual = true) (k : PySem.W.keepIn K (.ref f) = true) : Fun K x qual st f (PySem.W.fnOf x qual (defArgs st) (defBody st) (defScope st) .none kV doc pm an cdv ct) := ⟨⟨oc, od, kV, doc, pm, an, cdv, ct, osl, rfl, l, c⟩, k⟩
end
theorem hu_of {A : Around} {k : Nat} (hr : Room k A) : A.units + 1 < cLine := Nat.lt_of_le_of_lt (Nat.add_le_add_left (by decide : 1 ≤ 64) _) hr.units
theorem small1000 {n : Nat} (h : n ≤ 1000) : n < sizeLine := Nat.lt_of_le_of_lt h (by decide)

section
variable {X : Cx}
theorem pv (i : Nat) {x : Str} {pos : Pos} (hN : X.N[i]? = some x := by rfl) (hv : Vis X.env.scope x := by first | exact Or.inl rfl | exact Or.inr (Or.inl rfl) | exact Or.inr (Or.inr rfl)) (hd : (x == ("__debug__" : Str)) = false := by decide)
    (hcd : (x == ("__classdict__" : Str)) = false := by decide) : PE X (.Name x pos) (tVar i) := pe_var hN hv hd hcd
end

theorem iteF {A B : Prop} (h : B) : if false = true then A else B := by
  rw [if_neg Bool.false_ne_true]
  exact h
theorem iteT {A B : Prop} (h : A) : if true = true then A else B := by
  rw [if_pos rfl]
  exact h
theorem ite2 {c A B : Prop} [Decidable c] (h1 : c → A) (h2 : ¬ c → B) : if c then A else B := by
  by_cases h : c
  · rw [if_pos h]
    exact h1 h
  · rw [if_neg h]
    exact h2 h
theorem iteNS {c A B : Prop} [Decidable c] (hc : c) (h : B) : if (!decide c) = true then A else B := by
  rw [decide_eq_true hc]
  exact iteF h

def Same (H H' : Hp) : Prop := ∀ b o, H b = some o → H' b = some o
theorem Same.refl (H : Hp) : Same H H := fun _ _ h => h
theorem Same.trans {H H1 H2 : Hp} (a : Same H H1) (b : Same H1 H2) : Same H H2 := fun c o h => b c o (a c o h)
theorem Same.free {H H' : Hp} (e : Same H H') {l : Addr} (h : H' l = Option.none) : H l = Option.none := by
  cases q : H l with
  | none => rfl
  | some o =>
    rw [e l o q] at h
    cases h
theorem Same.seq {K : PySem.W.Frag} {H H' : Hp} {a : Addr} {xs : List V} (e : Same H H') (h : SqL K H a xs) : SqL K H' a xs := by
  rcases h with (h | ⟨o, h⟩) | h
  · exact .inl (.inl (e _ _ h))
  · exact .inl (.inr ⟨o, e _ _ h⟩)
  · exact .inr h

end L2

set_option Elab.async false
set_option linter.all false
set_option maxRecDepth 100000
set_option maxHeartbeats 4000000
namespace L2
open PySem PySem.Spec PyProof.Rows

abbrev noE : Value → Shared → Prop := fun _ _ => False

theorem compLoop_go {prog : Program} {w : World} {A : Around} {R : Result → Shared → Prop} {s : Shared} {elt target iter : Expr} {ifs : List Expr} {scope : Scope} {pos : Pos} {it acc : Value} {env : Env} (I : Nat → Shared → Prop)
    (turn : ∀ n s, I n s → wpAny (model prog w) A (pyNext it) (fun r s1 => match r with
      | none => R (.ok .next) s1
      | some v => wpAny (model prog w) A (letOwnedTupleGo target it v) (fun _ s0 => wpAny (model prog w) A (assign target env v) (fun _ s2 =>
          wpAny (model prog w) A (forIn ifs true fun c r => if r = true then do let ok ← isTrue c env (eval c env); pure (ForInStep.yield ok) else pure (ForInStep.yield r)) (fun ok s3 =>
            if ok = true then wpAny (model prog w) A (eval elt env) (fun x s4 =>
              wpAny (model prog w) A (call (.builtin "list.append") [acc, x]) (fun _ s5 => ∃ m, m < n ∧ I m s5) noE s4) noE s3
            else ∃ m, m < n ∧ I m s3) noE s2) noE s0) noE s1) noE s)
    (n : Nat) (h : I n s) : codeAny (model prog w) A (.compLoop (.ListComp elt [⟨target, iter, ifs, 0⟩] scope pos) 0 it acc env) R s := by
  refine codeAny_loop rfl I (fun n s hI => ?_) n h
  show wpAny _ A ((compTurn (.ListComp elt [⟨target, iter, ifs, 0⟩] scope pos) 0 it acc env).onRaise (fun x => do noteFrame x env; theTreesLotGoes x)) _ _ s
  refine wpAny_noted ?_
  rw [compTurn_list]
  refine wpAny_bind (wpAny_standAt (wpAny_bind (wpAny_mono (turn n s hI) (fun r s1 h1 => ?_) fun _ _ z => False.elim z)))
  cases r with
  | none => exact wpAny_pure h1
  | some v =>
    refine wpAny_bind (wpAny_mono h1 (fun _ s0 h0 => ?_) fun _ _ z => False.elim z)
    refine wpAny_bind (wpAny_mono h0 (fun _ s2 h2 => wpAny_bind (wpAny_mono h2 (fun ok s3 h3 => ?_) fun _ _ z => False.elim z)) fun _ _ z => False.elim z)
    cases ok with
    | false => exact wpAny_pure ⟨rfl, h3⟩
    | true =>
      exact wpAny_bind (wpAny_bind (wpAny_mono h3 (fun x s4 h4 => wpAny_bind (wpAny_mono h4 (fun _ s5 h5 => wpAny_pure (wpAny_pure ⟨rfl, h5⟩)) fun _ _ z => False.elim z)) fun _ _ z => False.elim z))

def captL (cells : List (Str × Addr)) : List (Str × NameKind) → List (Str × Addr) → Option (List (Str × Addr))
  | [], acc => some acc
  | (n, k) :: r, acc => if k == .free then (match cells.lookup n with
      | some a => captL cells r ((n, a) :: acc)
      | none => none) else captL cells r acc
theorem forIn_capt {env : Env} : ∀ (names : List (Str × NameKind)) (acc cl : List (Str × Addr)), captL env.cells names acc = some cl →
    (forIn names acc fun (x : Str × NameKind) (cs : List (Str × Addr)) => match x with
      | (name, kind) => if (kind == NameKind.free) = true then do let c ← cellOf env name; pure (ForInStep.yield ((name, c) :: cs)) else pure (ForInStep.yield cs) : Sem (List (Str × Addr))) = pure cl
  | [], acc, cl, h => by
    have h' : acc = cl := Option.some.inj h
    subst h'
    rfl
  | (n, k) :: r, acc, cl, h => by
    rw [List.forIn_cons]
    unfold captL at h
    by_cases hk : (k == NameKind.free) = true
    · rw [if_pos hk] at h
      cases e : env.cells.lookup n with
      | none => rw [e] at h; cases h
      | some a =>
        rw [e] at h
        have ih := forIn_capt r ((n, a) :: acc) cl h
        have hc : cellOf env n = pure a := by unfold cellOf; rw [e]
        dsimp only
        rw [if_pos hk, hc]
        simpa using ih
    · rw [if_neg hk] at h
      have ih := forIn_capt r acc cl h
      dsimp only
      rw [if_neg hk]
      simpa using ih
theorem closure_capt {scope : Scope} {env : Env} {cl : List (Str × Addr)} (h : captL env.cells scope.names [] = some cl) : closureFor scope env = pure cl := by
  have q := forIn_capt (env := env) scope.names [] cl h
  unfold closureFor
  simpa using q
theorem captL_sub {cells : List (Str × Addr)} : ∀ {names : List (Str × NameKind)} {acc cl : List (Str × Addr)}, captL cells names acc = some cl →
    (∀ x c, acc.lookup x = some c → cells.lookup x = some c) → ∀ x c, cl.lookup x = some c → cells.lookup x = some c
  | [], acc, cl, h, ha, x, c, e => by
    have h' : acc = cl := Option.some.inj h
    subst h'
    exact ha x c e
  | (n, k) :: r, acc, cl, h, ha, x, c, e => by
    unfold captL at h
    by_cases hk : (k == NameKind.free) = true
    · rw [if_pos hk] at h
      cases q : cells.lookup n with
      | none => rw [q] at h; cases h
      | some a =>
        rw [q] at h
        refine captL_sub (names := r) (acc := (n, a) :: acc) h (fun y d z => ?_) x c e
        rw [List.lookup_cons] at z
        cases hy : y == n with
        | true =>
          rw [hy] at z
          have z' : a = d := Option.some.inj z
          rw [← z', beq_iff_eq.mp hy]
          exact q
        | false =>
          rw [hy] at z
          exact ha y d z
    · rw [if_neg hk] at h
      exact captL_sub (names := r) (acc := acc) h ha x c e
theorem captL_has {cells : List (Str × Addr)} : ∀ {names : List (Str × NameKind)} {acc cl : List (Str × Addr)}, captL cells names acc = some cl →
    ∀ x, ((∃ c, acc.lookup x = some c) ∨ (x, NameKind.free) ∈ names) → ∃ c, cl.lookup x = some c
  | [], acc, cl, h, x, hx => by
    have h' : acc = cl := Option.some.inj h
    subst h'
    rcases hx with hx | hx
    · exact hx
    · cases hx
  | (n, k) :: r, acc, cl, h, x, hx => by
    unfold captL at h
    by_cases hk : (k == NameKind.free) = true
    · rw [if_pos hk] at h
      cases q : cells.lookup n with
      | none => rw [q] at h; cases h
      | some a =>
        rw [q] at h
        refine captL_has (names := r) (acc := (n, a) :: acc) h x ?_
        rcases hx with ⟨c, hx⟩ | hx
        · left
          rw [List.lookup_cons]
          cases hy : x == n with
          | true => exact ⟨a, rfl⟩
          | false => exact ⟨c, hx⟩
        · rcases List.mem_cons.mp hx with e | e
          · left
            have e1 : x = n := congrArg Prod.fst e
            rw [List.lookup_cons, e1, beq_self_eq_true]
            exact ⟨a, rfl⟩
          · exact .inr e
    · rw [if_neg hk] at h
      refine captL_has (names := r) (acc := acc) h x ?_
      rcases hx with hx | hx
      · exact .inl hx
      · rcases List.mem_cons.mp hx with e | e
        · have e2 : NameKind.free = k := congrArg Prod.snd e
          exact absurd (by rw [← e2]; rfl) hk
        · exact .inr e
theorem lookup_mem' {α β : Type} [BEq α] [LawfulBEq α] : ∀ {l : List (α × β)} {x : α} {b : β}, l.lookup x = some b → (x, b) ∈ l
  | [], x, b, h => by cases h
  | (a, c) :: r, x, b, h => by
    rw [List.lookup_cons] at h
    cases hx : x == a with
    | true =>
      rw [hx] at h
      have h' : c = b := Option.some.inj h
      rw [beq_iff_eq.mp hx, h']
      exact List.mem_cons_self
    | false =>
      rw [hx] at h
      exact List.mem_cons_of_mem _ (lookup_mem' h)
theorem relabel_free {scope : Scope} {env : Env} (hcell : ∀ y ∈ scope.names, y.2 ≠ .cell) {x : Str} (h : (relabel scope env).names.lookup x = some .cell ∨ (relabel scope env).names.lookup x = some .free) : (x, NameKind.free) ∈ scope.names := by
  have go : ∀ k, (relabel scope env).names.lookup x = some k → (k = .cell ∨ k = .free) → (x, NameKind.free) ∈ scope.names := fun k h hk => by
    have m := lookup_mem' h
    obtain ⟨⟨n, k'⟩, hm, e⟩ := List.mem_map.mp m
    dsimp only at e
    by_cases c : (k' == NameKind.free && env.scope.kind == .function && env.kindOf n == some .cell) = true
    · rw [if_pos c] at e
      have e1 : n = x := congrArg Prod.fst e
      have c1 : (k' == NameKind.free) = true := by
        rw [Bool.and_eq_true, Bool.and_eq_true] at c
        exact c.1.1
      have c2 : k' = .free := eq_of_beq c1
      rw [← e1, ← c2]
      exact hm
    · rw [if_neg c] at e
      have e1 : n = x := congrArg Prod.fst e
      have e2 : k' = k := congrArg Prod.snd e
      rcases hk with z | z
      · exact absurd (e2.trans z) (hcell _ hm)
      · rw [← e1, ← z, ← e2]
        exact hm
  rcases h with h | h
  · exact go _ h (.inl rfl)
  · exact go _ h (.inr rfl)

def compCx (X : Cx) (scope : Scope) (cl : List (Str × Addr)) (N : List Str) (C : Addr) (s3 : Shared) (H1 : Hp) (ex : List Addr) (pins : List (Addr × Obj)) : Cx :=
  { X with N := N, s₀ := s3, H₀ := H1, env := compEnvC scope cl C X.env, outer := X.stack, ex := ex, fn := fun _ => false, pn := X.pn ++ pins, xe := noE }
def compSt (own : Nat) (ix : List Nat) (σ : St) : St := List.replicate own none ++ ix.map fun i => (σ[i]?).join

structure CompScope (X : Cx) (scope : Scope) (cl : List (Str × Addr)) (own caps : List Str) (ix : List Nat) : Prop where
  clos : captL X.env.cells scope.names [] = some cl
  cell : ∀ y ∈ scope.names, y.2 ≠ .cell
  kind : scope.kind = .function
  names : ∀ y ∈ scope.names, y.2 = .local → scope.names.lookup y.1 = some .local
  capn : caps.length = ix.length
  cap : ∀ (j i : Nat) (x : Str), caps[j]? = some x → ix[j]? = some i → X.N[i]? = some x ∧ X.env.kindOf x ≠ some .local ∧ Vis X.env.scope x ∧ ((relabel scope X.env).names.lookup x = some .cell ∨ (relabel scope X.env).names.lookup x = some .free)

theorem Inv.track {X : Cx} {pins : List (Addr × Obj)} {σ : St} {H : Hp} {s : Shared} {D : Addr} {o : HO} (I : Inv X pins σ H s) (f : FpOk X pins H D) (new : ObjOk X.prog X.w (upd H D o) s.heap D o) : Inv X pins σ (upd H D o) s := by
  obtain ⟨f0, f1, f2, f3, f4, f5⟩ := f
  have q := I.step (H' := upd H D o) (h' := s.heap) (g' := s.gens) (t' := s.toks) (d' := s.drawn) (ch := [D]) (fun b hb => by
      have e : b = D := by simpa using hb
      subst e
      exact ⟨f3, f1, f4, f5⟩)
    (fun _ _ _ _ _ e _ => e) (fun b ob _ _ _ e _ => ⟨ob.slots, e⟩) (fun b ob hb _ n => by
      have e : b ≠ D := fun z => hb (by simp [z])
      rw [upd_ne e]; exact n)
    (fun b ob _ e => ⟨ob, e⟩) (fun b xs e => by rw [upd_ne (ne_of_none e f0)]; exact e) (fun b ob u e => by rw [upd_ne (ne_of_none e f0)]; exact e)
    (fun b ps e => ⟨#[], by rw [upd_ne (ne_of_none e f0), e]; simp⟩) (fun _ hm => hm) (fun b u e => by
      by_cases hb : b = D
      · subst hb
        rw [upd_same] at e
        cases e
        exact new
      · rw [upd_ne hb] at e
        exact (I.hok b u e).stay (fun _ _ _ q => q) (fun c q => by rw [upd_ne (ne_of_none q f0)]; exact q) fun c xs q => by rw [upd_ne (ne_of_none q f0)]; exact q) I.bare
  exact q

section
variable {X : Cx} {scope : Scope} {cl : List (Str × Addr)} {own caps : List Str} {ix : List Nat}

theorem CompScope.look (S : CompScope X scope cl own caps ix) : ∀ x c, cl.lookup x = some c → X.env.cells.lookup x = some c :=
  captL_sub S.clos fun x c e => by cases e

theorem comp_inv {pins : List (Addr × Obj)} {σ : St} {H1 : Hp} {s3 : Shared} {h1 : Heap} {ex : List Addr} {m : Str → Option Value} {tk : Nat} (S : CompScope X scope cl own caps ix) (I : Inv X pins σ H1 s3)
    (hex : ∀ b ∈ ex, b < s3.heap.objs.size ∧ b ≠ X.env.locals ∧ b ∉ X.fs ∧ (b ∈ X.ex ∨ X.s₀.heap.objs.size ≤ b) ∧ ∀ x c, X.env.cells.lookup x = some c → c ≠ b)
    (hn : h1.Ns s3.heap.objs.size m) (hk : ∀ b o, s3.heap.get? b = some o → h1.get? b = some o) :
    Inv (compCx X scope cl (own ++ caps) s3.heap.objs.size s3 H1 ex pins) [] (compSt own.length ix σ) H1 { s3 with heap := h1, toks := tk } := by
  have stkN : ∀ b ∈ frs X.stack, b < s3.heap.objs.size := fun b hb => by
    obtain ⟨_, o, ho, _⟩ := I.stack.mem hb
    exact Heap.lt_size ho
  have lt0 : ∀ b o, X.base.get? b = some o → b < X.s₀.heap.objs.size := fun b o e => Heap.lt_size (I.ok.bs b o e).1
  refine ⟨⟨I.ok.mod, S.kind, I.ok.glob, I.ok.blt, Nat.le_refl _, ?_, ?_, ?_, I.ok.hd, I.ok.frames, .inl rfl, ?_, I.bs, Nat.le_trans I.ok.bsz I.sz, ?_, ?_, I.stack, I.stkFree⟩, rfl, I.bare, ?_, ?_, ?_, ?_, ?_, ?_, ?_, ?_⟩
  · intro x y c e1 e2
    exact I.ok.inj x y c (S.look x c e1) (S.look y c e2)
  · intro x hx
    exact captL_has S.clos x (.inr (relabel_free S.cell hx))
  · intro x c hf
    exact absurd hf Bool.false_ne_true
  · intro b hb
    obtain ⟨l, a1, a2, a3, a4⟩ := hex b hb
    exact ⟨Nat.ne_of_lt l, fun x c e => a4 x c (S.look x c e)⟩
  · intro b o e hb
    obtain ⟨l, a1, a2, a3, a4⟩ := hex b hb
    rcases a3 with z | z
    · exact I.ok.noex b o e z
    · exact absurd (Nat.lt_of_lt_of_le (lt0 b o e) z) (Nat.lt_irrefl _)
  · intro b hb hf
    obtain ⟨l, a1, a2, a3, a4⟩ := hex b hb
    rcases List.mem_cons.mp (I.stkSub b hf) with z | z
    · exact a1 z
    · exact a2 z
  · exact Un.kept hk
  · refine ⟨m, hn, fun i x v e1 e2 e3 => ?_⟩
    have e2' : (List.replicate own.length none ++ ix.map fun i => (σ[i]?).join : St)[i]? = some (some v) := e2
    have e1' : (own ++ caps)[i]? = some x := e1
    by_cases hi : i < own.length
    · rw [List.getElem?_append_left (by simpa using hi), List.getElem?_replicate, if_pos hi] at e2'
      cases e2'
    · have hi' : own.length ≤ i := Nat.le_of_not_lt hi
      rw [List.getElem?_append_right (by simpa using hi'), List.length_replicate, List.getElem?_map] at e2'
      rw [List.getElem?_append_right hi'] at e1'
      cases q : ix[i - own.length]? with
      | none => rw [q] at e2'; cases e2'
      | some k =>
        rw [q] at e2'
        have e2'' : (σ[k]?).join = some v := Option.some.inj e2'
        have e4 : σ[k]? = some (some v) := by
          cases z : σ[k]? with
          | none => rw [z] at e2''; cases e2''
          | some u => rw [z] at e2''; rw [show u = some v from e2'']
        obtain ⟨n1, n2, n3, n4⟩ := S.cap (i - own.length) k x e1' q
        obtain ⟨mX, _, hl⟩ := I.loc
        obtain ⟨u, r, l⟩ := hl k x v n1 e4 n3
        refine ⟨u, r, ?_⟩
        rcases l with ⟨kl, _⟩ | ⟨_, c, ec, ic⟩
        · exact absurd kl n2
        · obtain ⟨c', ec'⟩ := captL_has S.clos x (.inr (relabel_free S.cell n4))
          have e5 := S.look x c' ec'
          rw [ec] at e5
          cases e5
          exact .inr ⟨n4, c, ec', ic.keeps hk⟩
  · intro x c e
    obtain ⟨v, q⟩ := I.cell x c (S.look x c e)
    exact ⟨v, q.keeps hk⟩
  · exact I.hok.fresh (Nat.le_refl _)
  · intro x c e
    exact I.freeC x c (S.look x c e)
  · intro p hp
    have hp' : p ∈ X.pn ++ pins := by
      have : p ∈ (X.pn ++ pins) ++ [] := hp
      rwa [List.append_nil] at this
    obtain ⟨e, n, ne, nf, d⟩ := I.pin p hp'
    refine ⟨hk _ _ e, n, Nat.ne_of_lt (Heap.lt_size e), fun z => ?_, d⟩
    rcases List.mem_cons.mp (I.stkSub p.1 z) with z | z
    · exact ne z
    · exact nf z
  · exact I.hok.kept hk
  · show (List.replicate own.length none ++ ix.map fun i => (σ[i]?).join : St).length = (own ++ caps).length
    rw [List.length_append, List.length_replicate, List.length_map, List.length_append, S.capn]

def PTs (X : Cx) (ifs : List Expr) (t : TT) : Prop :=
  ∀ (pins : List (Addr × Obj)) (s : Shared) (σ : St) (H : Hp) (Q : Bool → Hp → Prop), Inv X pins σ H s → t σ H Q →
    wpAny (model X.prog X.w) X.A (forIn ifs true fun c r => if r = true then do let ok ← isTrue c X.env (eval c X.env); pure (ForInStep.yield ok) else pure (ForInStep.yield r)) (TP X pins σ Q) X.xe s
def tYes : TT := fun _ H Q => Q true H
theorem pts_nil : PTs X [] tYes := fun _ _ _ H _ I h => wpAny_tests_nil ⟨H, I, h⟩
theorem pts_one {c : Expr} {t : TT} (hc : PT X c t) : PTs X [c] t := fun pins s σ H Q I h => wpAny_tests_one (hc pins s σ H Q I h)

def FrameS (n : Nat) (σ σ' : St) : Prop := σ'.length = σ.length ∧ ∀ i, n ≤ i → σ'[i]? = σ[i]?
def OwnG (n : Nat) (g : TG) : Prop := ∀ v σ H Q, g v σ H Q → g v σ H fun σ' H' => Q σ' H' ∧ FrameS n σ σ'
def OwnGs (n : Nat) (g : TGs) : Prop := ∀ vs σ H Q, g vs σ H Q → g vs σ H fun σ' H' => Q σ' H' ∧ FrameS n σ σ'
theorem FrameS.refl (n : Nat) (σ : St) : FrameS n σ σ := ⟨rfl, fun _ _ => rfl⟩
theorem FrameS.trans {n : Nat} {a b c : St} (x : FrameS n a b) (y : FrameS n b c) : FrameS n a c := ⟨y.1.trans x.1, fun i h => (y.2 i h).trans (x.2 i h)⟩
theorem own_name {n i : Nat} (h : i < n) : OwnG n (gName i) := fun v σ H Q q => ⟨q, by simp, fun j hj => List.getElem?_set_ne (by omega)⟩
theorem own_nil {n : Nat} : OwnGs n gNil := fun vs σ H Q q => ⟨q.1, q.2, FrameS.refl n σ⟩
def MonoG (g : TG) : Prop := ∀ v σ H (Q Q' : St → Hp → Prop), (∀ σ' H', Q σ' H' → Q' σ' H') → g v σ H Q → g v σ H Q'
def MonoGs (g : TGs) : Prop := ∀ vs σ H (Q Q' : St → Hp → Prop), (∀ σ' H', Q σ' H' → Q' σ' H') → g vs σ H Q → g vs σ H Q'
theorem mono_name {i : Nat} : MonoG (gName i) := fun _ _ _ _ _ f q => f _ _ q
theorem mono_nil : MonoGs gNil := fun _ _ _ _ _ f q => ⟨q.1, f _ _ q.2⟩
theorem mono_cons {t : TG} {u : TGs} (a : MonoG t) (b : MonoGs u) : MonoGs (gCons t u) := fun vs σ H Q Q' f q => by
  obtain ⟨v, r, e, q⟩ := q
  exact ⟨v, r, e, a _ _ _ _ _ (fun σ' H' z => b _ _ _ _ _ f z) q⟩
theorem mono_tup {K : PySem.W.Frag} {n : Nat} {t : TGs} (a : MonoGs t) : MonoG (gTup K n t) := fun v σ H Q Q' f q => by
  obtain ⟨p, xs, e, h1, h2, q⟩ := q
  exact ⟨p, xs, e, h1, h2, a _ _ _ _ _ f q⟩
theorem own_cons {n : Nat} {t : TG} {u : TGs} (a : OwnG n t) (m : MonoG t) (b : OwnGs n u) (m' : MonoGs u) : OwnGs n (gCons t u) := fun vs σ H Q q => by
  obtain ⟨v, r, e, q⟩ := q
  refine ⟨v, r, e, m _ _ _ _ _ (fun σ' H' z => ?_) (a _ _ _ _ q)⟩
  exact m' _ _ _ _ _ (fun σ2 H2 y => ⟨y.1, z.2.trans y.2⟩) (b _ _ _ _ z.1)
theorem own_tup {K : PySem.W.Frag} {n k : Nat} {t : TGs} (a : OwnGs n t) : OwnG n (gTup K k t) := fun v σ H Q q => by
  obtain ⟨p, xs, e, h1, h2, q⟩ := q
  exact ⟨p, xs, e, h1, h2, a _ _ _ _ q⟩

def compTurnT (g : TG) (tc : TT) (te : TE) (σ0 : St) (x : V) (H : Hp) (ys : List V) (N : List V → Hp → Prop) : Prop :=
  g x σ0 H fun σ2 H2 => tc σ2 H2 fun b H3 => if b = true then te σ2 H3 fun y H4 => N (ys ++ [y]) H4 else N ys H3
def tCompI (own : Nat) (ix : List Nat) (wi : TI) (g : TG) (tc : TT) (te : TE) (σ : St) (H : Hp) (F : List V → Hp → Prop) : Prop :=
  wi σ H fun J H1 => ∃ W : Nat → Nat → List V → Hp → Prop, (∃ m, W 0 m [] H1) ∧ ∀ i m ys H, W i m ys H →
    (J.stop i H ∧ F ys H) ∨ (J.go i H ∧ ys.length < sizeLine ∧ ∃ N : List V → Hp → Prop, (∀ zs H', N zs H' → ∃ m', m' < m ∧ W (i + 1) m' zs H') ∧
      ∀ x H', J.yld i H x H' → compTurnT g tc te (compSt own ix σ) x H' ys N)

theorem comp_block {elt iter tg : Expr} {ifs : List Expr} {pos : Pos} {pins : List (Addr × Obj)} {σ : St} {s2 : Shared} {itv : Value} {g : TG} {tc : TT} {te : TE} {F : List V → Hp → Prop} {RR : Value → Addr → Result → Shared → Prop} {E : Value → Shared → Prop}
    (S : CompScope X scope cl own caps ix) (hc : X.calm = true)
    (hg : ∀ C s3 H1 ex pn, PG (compCx X scope cl (own ++ caps) C s3 H1 ex pn) tg g) (og : OwnG own.length g) (mg : MonoG g)
    (ht : ∀ C s3 H1 ex pn, PTs (compCx X scope cl (own ++ caps) C s3 H1 ex pn) ifs tc)
    (he : ∀ C s3 H1 ex pn, PE (compCx X scope cl (own ++ caps) C s3 H1 ex pn) elt te)
    (h : PIE X pins σ tg (fun J H1 => ∃ W : Nat → Nat → List V → Hp → Prop, (∃ m, W 0 m [] H1) ∧ ∀ i m ys H, W i m ys H →
      (J.stop i H ∧ F ys H) ∨ (J.go i H ∧ ys.length < sizeLine ∧ ∃ N : List V → Hp → Prop, (∀ zs H', N zs H' → ∃ m', m' < m ∧ W (i + 1) m' zs H') ∧
        ∀ x H', J.yld i H x H' → compTurnT g tc te (compSt own.length ix σ) x H' ys N)) itv s2)
    (hRR : ∀ D C m H' ys s', Inv X pins σ (upd H' D (.lst ys)) s' → FpOk X pins (upd H' D (.lst ys)) C → s'.heap.Ns C m → H' D = none → F ys H' → RR (.ref D) C (.ok .next) s') :
    wpAny (model X.prog X.w) X.A (newList []) (fun acc s3 => wpAny (model X.prog X.w) X.A (newFunctionEnv scope X.env.globals cl [] X.env.qual none .none (some X.env)) (fun cenv s4 =>
      codeAny (model X.prog X.w) X.A (.compStart (.ListComp elt [⟨tg, iter, ifs, 0⟩] scope pos) 0 itv acc { cenv with scope := relabel scope X.env }) (RR acc cenv.locals) s4) E s3) E s2 := by
  obtain ⟨it, fp, tn, J, H1, e, I2, T, st2, f2, W, ⟨m0, w0⟩, turn⟩ := h
  subst e
  refine wpAny_newObj_type (wpAny_newFunctionEnv S.cell (by intro y hy; simp at hy) (fun h1 hns1 hsb1 => ?_) S.kind)
  dsimp only at hns1 hsb1 ⊢
  generalize hH2 : s2.heap.push { cls := .type "list", dict := none, data := .seq ([] : List Value).toArray } = h2 at hns1 hsb1 ⊢
  have keep2 : ∀ b o, s2.heap.get? b = some o → h2.get? b = some o := fun b o e => hH2 ▸ Heap.get?_push_of_some _ e
  have sz2 : h2.objs.size = s2.heap.objs.size + 1 := by rw [← hH2, Heap.size_push]
  have hDC : s2.heap.objs.size ≠ h2.objs.size := by omega
  have keep1 : ∀ b o, h2.get? b = some o → h1.get? b = some o := fun b o e => hsb1.extBut b o (Nat.ne_of_lt (Heap.lt_size e)) (Heap.get?_push_of_some _ e)
  have getD2 : h2.get? s2.heap.objs.size = some { cls := .type "list", dict := none, data := .seq ([] : List Value).toArray } := hH2 ▸ Heap.get?_push_size _ rfl
  have I3 : Inv X pins σ H1 { s2 with heap := h2, toks := s2.toks } := I2.kept keep2
  have fD : FpOk X pins H1 s2.heap.objs.size := I2.fpOk (Nat.le_refl _) I2.fresh
  have fDs : ∀ {H' : Hp}, H' s2.heap.objs.size = none → FpOk X pins H' s2.heap.objs.size := fun hn => ⟨hn, fD.2⟩
  have fpLt : ∀ b ∈ fp, b < s2.heap.objs.size := fun b hb => by
    obtain ⟨o, e, _⟩ := T.obj _ _ st2 b hb
    exact Heap.lt_size e
  have hDfp : s2.heap.objs.size ∉ fp := fun z => Nat.lt_irrefl _ (fpLt _ z)
  have exOk : ∀ b ∈ s2.heap.objs.size :: fp, b < h2.objs.size ∧ b ≠ X.env.locals ∧ b ∉ X.fs ∧ (b ∈ X.ex ∨ X.s₀.heap.objs.size ≤ b) ∧ ∀ x c, X.env.cells.lookup x = some c → c ≠ b := fun b hb => by
    rcases List.mem_cons.mp hb with rfl | hb
    · exact ⟨by omega, fD.2.1, fD.2.2.1, fD.2.2.2.1, fD.2.2.2.2.1⟩
    · have := fpLt b hb
      obtain ⟨_, a1, a2, a3, a4, _⟩ := f2 b hb
      exact ⟨by rw [sz2]; exact Nat.lt_succ_of_lt this, a1, a2, a3, a4⟩
  have I4 : Inv (compCx X scope cl (own ++ caps) h2.objs.size { s2 with heap := h2, toks := s2.toks } H1 (s2.heap.objs.size :: fp) pins) [] (compSt own.length ix σ) H1 { s2 with heap := h1, toks := s2.toks + ([] : List (Str × Value)).length } :=
    comp_inv S I3 exOk hns1 keep1
  generalize hX : compCx X scope cl (own ++ caps) h2.objs.size { s2 with heap := h2, toks := s2.toks } H1 (s2.heap.objs.size :: fp) pins = Y at I4
  have HG : PG Y tg g := by rw [← hX]; exact hg _ _ _ _ _
  have HT : PTs Y ifs tc := by rw [← hX]; exact ht _ _ _ _ _
  have HE : PE Y elt te := by rw [← hX]; exact he _ _ _ _ _
  have eP : Y.prog = X.prog := by rw [← hX]; rfl
  have eW : Y.w = X.w := by rw [← hX]; rfl
  have eK : Y.K = X.K := by rw [← hX]; rfl
  have eA : Y.A = X.A := by rw [← hX]; rfl
  have eC : Y.calm = true := by rw [← hX]; exact hc
  have eE : Y.xe = noE := by rw [← hX]; rfl
  have eEnv : Y.env = compEnvC scope cl h2.objs.size X.env := by rw [← hX]; rfl
  have eEx : Y.ex = s2.heap.objs.size :: fp := by rw [← hX]; rfl
  have ePn : Y.pn = X.pn ++ pins := by rw [← hX]; rfl
  have eFs : Y.fs = frs X.stack := by rw [← hX]; rfl
  have eCells : ∀ x c, Y.env.cells.lookup x = some c → X.env.cells.lookup x = some c := fun x c e => by
    rw [eEnv] at e
    exact S.look x c e
  have eLoc : Y.env.locals = h2.objs.size := by rw [eEnv]; rfl
  -- the block's own records may turn
  have fY : ∀ {pl : List (Addr × Obj)} {H' : Hp} {b : Addr}, b ∈ s2.heap.objs.size :: fp → H' b = none → (∀ p ∈ pl, p.1 ≠ b) → FpOk Y pl H' b := fun {pl H' b} hb hn hpl => by
    obtain ⟨l, a1, a2, a3, a4⟩ := exOk b hb
    refine ⟨hn, by rw [eLoc]; exact Nat.ne_of_lt l, fun z => ?_, .inl (by rw [eEx]; exact hb), fun x c e => a4 x c (eCells x c e), fun p hp => ?_⟩
    · rw [eFs] at z
      rcases List.mem_cons.mp (I3.stkSub b z) with z | z
      · exact a1 z
      · exact a2 z
    · rcases List.mem_append.mp hp with z | z
      · rw [ePn] at z
        rcases List.mem_cons.mp hb with rfl | hb
        · exact fD.2.2.2.2.2 p z
        · exact (f2 b hb).2.2.2.2.2 p z
      · exact hpl p z
  let IV : Nat → Shared → Prop := fun n s' => ∃ i ys its c H', Inv Y [] (compSt own.length ix σ) H' s' ∧ tn i s'.heap ∧ (∀ b ∈ fp, H' b = none) ∧ H' s2.heap.objs.size = none ∧ Vals ys its ∧
    s'.heap.get? s2.heap.objs.size = some { cls := .type "list", data := .seq its.toArray c } ∧ ys.length ≤ sizeLine ∧ W i n ys H'
  have loop : ∀ s3 : Shared, s3 = { s2 with heap := h1, toks := s2.toks + ([] : List (Str × Value)).length } →
      codeAny (model X.prog X.w) X.A (.compLoop (.ListComp elt [⟨tg, iter, ifs, 0⟩] scope pos) 0 (.ref it) (.ref s2.heap.objs.size) (compEnvC scope cl h2.objs.size X.env)) (RR (.ref s2.heap.objs.size) h2.objs.size) s3 := by
    rintro s3 rfl
    refine compLoop_go IV ?_ m0 ⟨0, [], [], _, H1, I4, T.keep _ _ _ st2 fun b _ o e => keep1 b o (keep2 b o e), fun b hb => (f2 b hb).1, I2.fresh, .nil, keep1 _ _ getD2, Nat.zero_le _, w0⟩
    rintro n s5 ⟨i, ys, its, c, H5, I5, st5, fr5, nD5, v5, gD5, z5, w5⟩
    have I5p : Inv Y [(s2.heap.objs.size, { cls := .type "list", data := .seq its.toArray c })] (compSt own.length ix σ) H5 s5 := I5.pins_of fun p hp => by
      have e : p = (s2.heap.objs.size, { cls := .type "list", data := .seq its.toArray c }) := by simpa using hp
      subst e
      obtain ⟨_, b1, b2, _⟩ := fY (pl := []) (H' := H5) (b := s2.heap.objs.size) List.mem_cons_self nD5 (fun p hp => nomatch hp)
      exact ⟨gD5, nD5, b1, b2, fun v z => by cases z⟩
    have fps : ∀ {H' : Hp}, (∀ b ∈ fp, H' b = none) → ∀ b ∈ fp, FpOk Y [(s2.heap.objs.size, { cls := .type "list", data := .seq its.toArray c })] H' b := fun hn b hb =>
      fY (List.mem_cons_of_mem _ hb) (hn b hb) fun p hp => by
        have e : p = (s2.heap.objs.size, { cls := .type "list", data := .seq its.toArray c }) := by simpa using hp
        subst e
        exact fun z => hDfp (by have z' : s2.heap.objs.size = b := z; rw [z']; exact hb)
    rcases turn i n ys H5 w5 with ⟨stop, fin⟩ | ⟨go, hlen, N, hN, step⟩
    · have q := T.done Y eP eW eK eC i _ s5 _ H5 noE I5p (fps fr5) st5 stop
      rw [eA] at q
      refine thn q fun r s6 ⟨hr, I6⟩ => ?_
      subst hr
      have gD6 := (I6.pin (s2.heap.objs.size, { cls := .type "list", data := .seq its.toArray c }) (List.mem_append_right _ (by simp))).1
      have u6 : Un (frs X.stack) (s2.heap.objs.size :: fp) H1 H5 h2 s6.heap := by
        have := I6.base
        rw [eFs, eEx] at this
        rw [← hX] at this
        exact this
      have os6 : s6.os = s2.os := by
        have := I6.os
        rw [← hX] at this
        exact this
      have hok6 : HOk X.prog X.w H5 s6.heap := by
        have := I6.hok
        rw [eP, eW] at this
        exact this
      have J6 : Inv X pins σ H5 s6 := I3.call' (s' := s6) os6 u6 hok6 I6.bare fun b hb => by
        obtain ⟨l, a1, a2, a3, a4⟩ := exOk b hb
        refine ⟨a3, a1, a4, ?_⟩
        rcases List.mem_cons.mp hb with rfl | hb
        · exact fD.2.2.2.2.2
        · exact (f2 b hb).2.2.2.2.2
      have J7 : Inv X pins σ (upd H5 s2.heap.objs.size (.lst ys)) s6 := J6.track (fDs nD5) ⟨z5, its, c, v5, gD6⟩
      obtain ⟨mC, hC, _⟩ := I6.loc
      rw [eLoc] at hC
      have nC : H5 h2.objs.size = none := by
        have := I6.free
        rw [eLoc] at this
        exact this
      refine hRR _ _ mC H5 ys s6 J7 (I3.fpOk (Nat.le_refl _) ?_) hC nD5 fin
      show upd H5 s2.heap.objs.size (.lst ys) h2.objs.size = none
      rw [upd_ne (Ne.symm hDC)]
      exact nC
    · have q := T.item Y eP eW eK eC i _ s5 _ H5 noE I5p (fps fr5) st5 go
      rw [eA] at q
      refine thn q fun r s6 ⟨u, hr, h6⟩ => ?_
      subst hr
      refine thn h6 fun _ s7 ⟨x, H7, I7, r7, y7, st7, fr7⟩ => ?_
      have I7p := I7.pinned (fps fr7) (T.obj _ _ st7)
      have st := og _ _ _ _ (step x H7 y7)
      have q2 := HG _ s7 _ H7 x u _ I7p r7 st
      rw [eE, eP, eW, eA, eEnv] at q2
      refine thn q2 fun _ s8 ⟨σ8, H8, I8, q8, fr8⟩ => ?_
      have q3 := HT _ s8 σ8 H8 _ I8 q8
      rw [eE, eP, eW, eA, eEnv] at q3
      refine thn q3 fun ok s9 ⟨H9, I9, q9⟩ => ?_
      -- what every end of the turn has
      have back : ∀ {H' : Hp} {s' : Shared}, Inv Y ([(s2.heap.objs.size, ({ cls := .type "list", data := .seq its.toArray c } : Obj))] ++ pinsAt fp s7.heap) σ8 H' s' →
          Inv Y [] (compSt own.length ix σ) H' s' ∧ tn (i + 1) s'.heap ∧ (∀ b ∈ fp, H' b = none) ∧ H' s2.heap.objs.size = none ∧ s'.heap.get? s2.heap.objs.size = some { cls := .type "list", data := .seq its.toArray c } := fun {H' s'} I' => by
        have pD := I'.pin (s2.heap.objs.size, { cls := .type "list", data := .seq its.toArray c }) (List.mem_append_right _ (List.mem_append_left _ (by simp)))
        refine ⟨(I'.pins_of (pins' := []) fun p hp => nomatch hp).weak fr8.1.symm fun j v e => ?_, T.keep _ _ _ st7 fun b hb o e => (I'.pin (b, o) (List.mem_append_right _ (List.mem_append_right _ (mem_pinsAt hb e)))).1, fun b hb => ?_, pD.2.1, pD.1⟩
        · by_cases hj : j < own.length
          · have e' : (List.replicate own.length none ++ ix.map fun i => (σ[i]?).join : St)[j]? = some (some v) := e
            rw [List.getElem?_append_left (by simpa using hj), List.getElem?_replicate, if_pos hj] at e'
            cases e'
          · rw [fr8.2 j (Nat.le_of_not_lt hj)]
            exact e
        · obtain ⟨o, e, d⟩ := T.obj _ _ st7 b hb
          exact (I'.pin (b, o) (List.mem_append_right _ (List.mem_append_right _ (mem_pinsAt hb e)))).2.1
      cases ok with
      | false =>
        obtain ⟨m', hm, w9⟩ := hN _ _ (show N ys H9 from q9)
        obtain ⟨b1, b2, b3, b4, b5⟩ := back I9
        exact ⟨m', hm, i + 1, ys, its, c, H9, b1, b2, b3, b4, v5, b5, z5, w9⟩
      | true =>
        have q9' : te σ8 H9 fun y H4 => N (ys ++ [y]) H4 := q9
        have q4 := HE _ s9 σ8 H9 _ I9 q9'
        rw [eE, eP, eW, eA, eEnv] at q4
        refine thn q4 fun yv s10 ⟨y, H10, I10, r10, n10⟩ => ?_
        obtain ⟨b1, b2, b3, b4, b5⟩ := back I10
        obtain ⟨m', hm, w10⟩ := hN _ _ n10
        have hl := v5.length
        refine call_meets PySem.F.slot_list_append ⟨_, b5, rfl⟩ PySem.F.entry_list_append (PySem.F.args_list_append_2 _ _) (PySem.list_append s2.heap.objs.size its.toArray c yv (by rw [List.size_toArray]; omega)) ⟨b5, ?_⟩
        have q5 := PySem.IsL.update b5 (fun a => a.push yv)
        have e5 : its.toArray.push yv = (its ++ [yv]).toArray := by simp
        rw [e5] at q5
        have k5 : ∀ b o, b ≠ s2.heap.objs.size → s10.heap.get? b = some o → (s10.heap.update s2.heap.objs.size (Obj.mapSeq fun a => a.push yv)).get? b = some o := fun b o hb e =>
          (Heap.get?_update_other s10.heap (Obj.mapSeq fun a => a.push yv) (Ne.symm hb)).trans e
        obtain ⟨f0, f1, f2', f3, f4, f5⟩ := fY (pl := []) (H' := H10) (b := s2.heap.objs.size) List.mem_cons_self b4 (fun p hp => nomatch hp)
        have b1' := b1.turned (t' := s10.toks) k5 f0 f1 f3 f4 f5
        refine ⟨m', hm, i + 1, ys ++ [y], its ++ [yv], _, H10, b1', T.keep _ _ _ b2 fun b hb o e => k5 b o (fun z => hDfp (by rw [← z]; exact hb)) e, b3, b4, v5.append (.cons r10 .nil), q5, ?_, w10⟩
        · rw [List.length_append, List.length_singleton]
          omega
  exact codeAny_compStart_list (loop _ rfl) (T.self _ 0 _ _ _ (T.keep _ _ _ st2 fun b _ o e => keep1 b o (keep2 b o e)) (loop _ rfl))

def tComp (own : Nat) (ix : List Nat) (wi : TI) (g : TG) (tc : TT) (te : TE) : TE := fun σ H Q => tCompI own ix wi g tc te σ H fun ys H' => ∀ D, H' D = none → Q (.ref D) (upd H' D (.lst ys))
theorem pe_comp {elt iter tg : Expr} {ifs : List Expr} {pos : Pos} {wi : TI} {g : TG} {tc : TT} {te : TE} (own caps : List Str) (ix : List Nat)
    (hc : X.calm = true) (S : CompScope X scope cl own caps ix) (hi : PI X tg iter wi)
    (hg : ∀ C s3 H1 ex pn, PG (compCx X scope cl (own ++ caps) C s3 H1 ex pn) tg g) (og : OwnG own.length g) (mg : MonoG g)
    (ht : ∀ C s3 H1 ex pn, PTs (compCx X scope cl (own ++ caps) C s3 H1 ex pn) ifs tc)
    (he : ∀ C s3 H1 ex pn, PE (compCx X scope cl (own ++ caps) C s3 H1 ex pn) elt te)
    (hs : ∀ x, foldedSetIterable iter X.env x = pure x := by intro _; rfl) :
    PE X (.ListComp elt [⟨tg, iter, ifs, 0⟩] scope pos) (tComp own.length ix wi g tc te) := by
  intro pins s σ H Q I h
  rw [eval_ListComp]
  refine wpAny_comprehension_free (use := none) rfl hs (closure_capt S.clos) S.kind S.names (thn (hi pins s σ H _ I h) fun v s1 h1 => thn h1 fun itv s2 h2 => ?_)
  refine comp_block (RR := fun acc C => compPost (model X.prog X.w) X.A X.xe none (EP X pins σ Q) acc C) S hc hg og mg ht he h2 ?_
  intro D C m H' ys s' I' fC hn hD fin
  refine ⟨m, hn, fun h' sb => ?_⟩
  obtain ⟨f0, f1, f2, f3, f4, f5⟩ := fC
  have I2 := I'.turned (t' := s'.toks) (h' := h') (it := C) (fun b o hb e => (sb.2 b hb).trans e) f0 f1 f3 f4 f5
  exact ⟨.ref D, _, I2, rfl, fin D hD⟩

theorem ps_comp {elt iter tg : Expr} {ifs : List Expr} {pos pos' spos : Pos} {x : Str} {i : Nat} {wi : TI} {g : TG} {tc : TT} {te : TE} (own caps : List Str) (ix : List Nat)
    (hc : X.calm = true) (hN : X.N.Nodup) (hx : X.N[i]? = some x) (hl : Loc X.env.scope x) (S : CompScope X scope cl own caps ix) (hi : PI X tg iter wi)
    (hg : ∀ C s3 H1 ex pn, PG (compCx X scope cl (own ++ caps) C s3 H1 ex pn) tg g) (og : OwnG own.length g) (mg : MonoG g)
    (ht : ∀ C s3 H1 ex pn, PTs (compCx X scope cl (own ++ caps) C s3 H1 ex pn) ifs tc)
    (he : ∀ C s3 H1 ex pn, PE (compCx X scope cl (own ++ caps) C s3 H1 ex pn) elt te)
    (hsw : swapsWith (.ListComp elt [⟨tg, iter, ifs, 0⟩] scope pos) (some (.Name x pos')) spos.line X.env = pure true := by rfl)
    (hf : X.fn x = true ∨ X.env.scope.names.lookup x = some .local := by first | exact .inl rfl | exact .inr rfl | assumption)
    (hs : ∀ x, foldedSetIterable iter X.env x = pure x := by intro _; rfl) :
    PS X (.Assign [.Name x pos'] (.ListComp elt [⟨tg, iter, ifs, 0⟩] scope pos) spos) (tAsg (tComp own.length ix wi g tc te) (gName i)) := by
  intro pins s σ H D I h
  rw [exec_Assign_Name_used _ _ _ _ hsw]
  refine wpAny_bind (wpAny_standAt (wpAny_bind ?_))
  show wpAny _ X.A (do let _ ← comprehension (.ListComp elt [⟨tg, iter, ifs, 0⟩] scope pos) scope X.env _ (newList []) false (eval iter X.env) (some (assign (.Name x pos') X.env))) _ _ s
  refine wpAny_bind (wpAny_mono (wpAny_comprehension_free (use := some (assign (.Name x pos') X.env)) (Q := fun _ s' => SP X pins D .next s') rfl hs (closure_capt S.clos) S.kind S.names
    (thn (hi pins s σ H _ I h) fun v s1 h1 => thn h1 fun itv s2 h2 => ?_)) (fun _ s' hq => wpAny_pure (wpAny_pure hq)) fun _ _ e => e)
  refine comp_block (RR := fun acc C => compPost (model X.prog X.w) X.A X.xe (some (assign (.Name x pos') X.env)) (fun _ s' => SP X pins D .next s') acc C) S hc hg og mg ht he h2 ?_
  intro D' C m H' ys s' I' fC hn hD fin
  obtain ⟨f0, f1, f2, f3, f4, f5⟩ := fC
  obtain ⟨oC, es, ep, hoC, hdC, hr⟩ := id hn
  show wpAny _ X.A (assign (.Name x pos') X.env (.ref D')) _ _ _
  have Ip : Inv X (pins ++ [(C, oC)]) σ (upd H' D' (.lst ys)) s' := I'.pins_of fun p hp => (List.mem_append.mp hp).elim (fun z => I'.pin p (List.mem_append_right _ z)) fun z => by
    have e : p = (C, oC) := by simpa using z
    subst e
    exact ⟨hoC, f0, f1, f2, fun v z => by rw [hdC] at z; cases z⟩
  refine thn (pg_name hN hx hl hf (pins ++ [(C, oC)]) s' σ _ (.ref D') (.ref D') _ Ip rfl (fin D' hD)) fun _ s3 ⟨σ3, H3, I3, q3⟩ => ?_
  have pC := I3.pin (C, oC) (List.mem_append_right _ (List.mem_append_right _ (by simp)))
  refine ⟨m, ⟨oC, es, ep, pC.1, hdC, hr⟩, fun h' sb => ?_⟩
  have I4 : Inv X pins σ3 H3 s3 := I3.unpinned
  exact ⟨σ3, H3, I4.turned (t' := s3.toks) (h' := h') (it := C) (fun b o hb e => (sb.2 b hb).trans e) pC.2.1 f1 f3 f4 f5, q3⟩
end
end L2

set_option Elab.async false
set_option linter.all false
set_option maxRecDepth 100000
set_option maxHeartbeats 4000000
namespace L2
open PySem PySem.Spec PyProof.Rows
section
variable {prog : Program} {w : World} {A : Around} {R : Result → Shared → Prop} {I : Addr} {fp wr : List Addr} {n : Nat} {P : Nat → Value → Prop} {St : Nat → Heap → Prop}

theorem max_more (W : Walks prog w A.in1 I fp wr n P St) (bt : Nat → Nat → Bool) (hcmp : CmpOf prog w A.in1 .Gt P bt) (S : Addr) (hSf : S ∉ fp) (kw : List (Str × Value)) :
    ∀ (k j : Nat) (s : Shared) (vb : Value) (c : Nat), n - (j + 1) = k → j + 1 ≤ n → St (j + 1) s.heap → P (argBest bt j) vb →
    s.heap.get? S = some { cls := .type "list", dict := none, data := .seq #[vb, vb] c, slots := #[] } →
    (∀ v h' tk, P (argBest bt (n - 1)) v → (∀ b o, b ∉ wr → b ≠ S → s.heap.get? b = some o → h'.get? b = some o) → R (.ok (.ret v)) { s with heap := h', toks := tk }) →
    codeAny (model prog w) A (.builtin "max.loop" ⟨[.ref I, .none, .ref S], kw⟩) R s := by
  have hSw : S ∉ wr := fun h => hSf (W.sub _ h)
  have hname : (toString "max" ++ toString ".loop" : String) = "max.loop" := by decide
  intro k
  induction k with
  | zero =>
    intro j s vb c hk hj hst hPb hS hR
    have hin : j + 1 = n := by omega
    refine codeAny_builtin PySem.F.entry_max_loop ?_
    rw [Around.under_plainId PySem.F.plain_max_loop _]
    show wpAny _ A.in1 (seqItems? (.ref S) >>= _) _ _ s
    refine wpAny_bind (wpAny_seqItems hS rfl ?_)
    show wpAny _ A.in1 (tryCatch (pyNext (.ref I)) _ >>= _) _ _ s
    refine wpAny_bind (wpAny_tryCatch (W.done s _ _ (hin ▸ hst) fun h' tk hk' => ?_))
    have hS' := hk' S _ hSw hS
    show wpAny _ A.in1 (updateSeq S (fun _ => #[]) >>= _) _ _ _
    refine wpAny_bind ?_
    refine wpAny_updateSeq hS' rfl (wpAny_bind (wpAny_letGo (wpAny_pure ?_)))
    refine hR vb _ tk (by rw [← hin]; exact hPb) fun b o hbw hbS e => (Heap.get?_update_other _ _ (Ne.symm hbS)).trans (hk' b o hbw e)
  | succ k ih =>
    intro j s vb c hk hj hst hPb hS hR
    have hlt : j + 1 < n := by omega
    refine codeAny_builtin PySem.F.entry_max_loop ?_
    rw [Around.under_plainId PySem.F.plain_max_loop _]
    show wpAny _ A.in1 (seqItems? (.ref S) >>= _) _ _ s
    refine wpAny_bind (wpAny_seqItems hS rfl ?_)
    show wpAny _ A.in1 (tryCatch (pyNext (.ref I)) _ >>= _) _ _ s
    refine wpAny_bind (wpAny_tryCatch (W.item (j + 1) s _ _ hlt hst fun v h' tk hP hst' hk' => ?_))
    have hS' := hk' S _ hSw hS
    show wpAny _ A.in1 (tryCatch (holding [v, v] (richCompare .Gt v vb >>= _)) _ >>= _) _ _ _
    refine wpAny_bind (wpAny_tryCatch (wpAny_holding (wpAny_bind (hcmp (j + 1) (argBest bt j) v vb _ _ _ hP hPb ?_))))
    refine wpAny_bind (wpAny_holding (wpAny_truthy_bool ?_))
    refine wpAny_bind (wpAny_letGo (wpAny_pure ?_))
    cases hb : bt (j + 1) (argBest bt j) with
    | true =>
      simp only [if_true]
      refine wpAny_bind ?_
      refine wpAny_updateSeq hS' rfl (wpAny_bind (wpAny_letGo ?_))
      rw [hname]
      refine wpAny_pure ⟨plainId_quiet PySem.F.plain_max_loop _, ih (j + 1) _ v _ (by omega) hlt (W.frame _ _ _ hst' fun b hbf o e => ?_) (by simp only [argBest, hb, if_true]; exact hP) (Heap.get?_update_self _ hS' rfl)
        fun v' h'' tk'' hP' hk'' => ?_⟩
      · exact (Heap.get?_update_other _ _ (fun h : S = b => hSf (by rw [h]; exact hbf))).trans e
      · exact hR v' h'' tk'' hP' fun b o hbw hbS e => hk'' b o hbw hbS ((Heap.get?_update_other _ _ (Ne.symm hbS)).trans (hk' b o hbw e))
    | false =>
      simp only [Bool.false_eq_true, if_false]
      refine wpAny_bind (wpAny_letGo ?_)
      rw [hname]
      refine wpAny_pure ⟨plainId_quiet PySem.F.plain_max_loop _, ih (j + 1) _ vb c (by omega) hlt hst' (by simp only [argBest, hb, Bool.false_eq_true, if_false]; exact hPb) hS' fun v' h'' tk'' hP' hk'' => ?_⟩
      exact hR v' h'' tk'' hP' fun b o hbw hbS e => hk'' b o hbw hbS (hk' b o hbw e)

theorem max_first (W : Walks prog w A.in1 I fp wr n P St) (bt : Nat → Nat → Bool) (hcmp : CmpOf prog w A.in1 .Gt P bt) (S : Addr) (hSf : S ∉ fp) (kw : List (Str × Value)) (hn : 0 < n) {s : Shared} {c : Nat} (hst : St 0 s.heap)
    (hS : s.heap.get? S = some { cls := .type "list", dict := none, data := .seq #[] c, slots := #[] })
    (hR : ∀ v h' tk, P (argBest bt (n - 1)) v → (∀ b o, b ∉ wr → b ≠ S → s.heap.get? b = some o → h'.get? b = some o) → R (.ok (.ret v)) { s with heap := h', toks := tk }) :
    codeAny (model prog w) A (.builtin "max.loop" ⟨[.ref I, .none, .ref S], kw⟩) R s := by
  have hSw : S ∉ wr := fun h => hSf (W.sub _ h)
  have hname : (toString "max" ++ toString ".loop" : String) = "max.loop" := by decide
  refine codeAny_builtin PySem.F.entry_max_loop ?_
  rw [Around.under_plainId PySem.F.plain_max_loop _]
  show wpAny _ A.in1 (seqItems? (.ref S) >>= _) _ _ s
  refine wpAny_bind (wpAny_seqItems hS rfl ?_)
  show wpAny _ A.in1 (tryCatch (pyNext (.ref I)) _ >>= _) _ _ s
  refine wpAny_bind (wpAny_tryCatch (W.item 0 s _ _ hn hst fun v h' tk hP hst' hk' => ?_))
  have hS' := hk' S _ hSw hS
  show wpAny _ A.in1 (updateSeq S (fun _ => #[v, v]) >>= _) _ _ _
  refine wpAny_bind ?_
  refine wpAny_updateSeq hS' rfl ?_
  rw [hname]
  refine wpAny_pure ⟨plainId_quiet PySem.F.plain_max_loop _, max_more W bt hcmp S hSf kw _ 0 _ v _ rfl hn (W.frame _ _ _ hst' fun b hbf o e => ?_) hP (Heap.get?_update_self _ hS' rfl) fun v' h'' tk'' hP' hk'' => ?_⟩
  · exact (Heap.get?_update_other _ _ (fun h : S = b => hSf (by rw [h]; exact hbf))).trans e
  · exact hR v' h'' tk'' hP' fun b o hbw hbS e => hk'' b o hbw hbS ((Heap.get?_update_other _ _ (Ne.symm hbS)).trans (hk' b o hbw e))

theorem max_none (W : Walks prog w A.in1 I fp wr n P St) (S : Addr) (hSf : S ∉ fp) (kn : Str) (d : Value) (hn : n = 0) {s : Shared} {c : Nat} (hst : St 0 s.heap)
    (hS : s.heap.get? S = some { cls := .type "list", dict := none, data := .seq #[] c, slots := #[] })
    (hR : ∀ h' tk, (∀ b o, b ∉ wr → s.heap.get? b = some o → h'.get? b = some o) → R (.ok (.ret d)) { s with heap := h', toks := tk }) :
    codeAny (model prog w) A (.builtin "max.loop" ⟨[.ref I, .none, .ref S], [(kn, d)]⟩) R s := by
  refine codeAny_builtin PySem.F.entry_max_loop ?_
  rw [Around.under_plainId PySem.F.plain_max_loop _]
  show wpAny _ A.in1 (seqItems? (.ref S) >>= _) _ _ s
  refine wpAny_bind (wpAny_seqItems hS rfl ?_)
  show wpAny _ A.in1 (tryCatch (pyNext (.ref I)) _ >>= _) _ _ s
  refine wpAny_bind (wpAny_tryCatch (W.done s _ _ (hn ▸ hst) fun h' tk hk' => ?_))
  exact wpAny_bind (wpAny_rule (wpAny_pure (hR h' tk hk')))

theorem args_max_default (a v : Value) : argsOk "max" ⟨[a], [(Str.ofString "default", v)]⟩ := by unfold argsOk; kernel_rfl
theorem max_call {x d : Value} {s : Shared} {E : Value → Shared → Prop} {Q : Value → Shared → Prop}
    (h : wpAny (model prog w) A.in1 (pyIter x) (fun it s2 => ∃ I fp wr n P St bt, it = .ref I ∧ Walks prog w A.in1 I fp wr n P St ∧ St 0 s2.heap ∧ (∀ b ∈ fp, b < s2.heap.objs.size) ∧ CmpOf prog w A.in1 .Gt P bt ∧
      (n = 0 → ∀ h' tk, (∀ b o, b ∉ wr → s2.heap.get? b = some o → h'.get? b = some o) → Q d { s2 with heap := h', toks := tk }) ∧
      (0 < n → ∀ v h' tk, P (argBest bt (n - 1)) v → (∀ b o, b ∉ wr → s2.heap.get? b = some o → h'.get? b = some o) → Q v { s2 with heap := h', toks := tk })) E s) :
    wpAny (model prog w) A (call (.builtin "max") [x] [(Str.ofString "default", d)]) Q E s := by
  have hname : (toString "max" ++ toString ".loop" : String) = "max.loop" := by decide
  refine kmk_tree PySem.F.kind_max PySem.F.plain_max PySem.F.entry_max (args_max_default _ _) ?_
  show wpAny _ A.in1 (Builtin.Builtins.bindParams "max" ["key", "default"] 0 ⟨[], [(Str.ofString "default", d)]⟩ >>= _) _ _ s
  refine wpAny_bind (wpAny_of_eq (show Builtin.Builtins.bindParams "max" ["key", "default"] 0 ⟨[], [(Str.ofString "default", d)]⟩ = pure [none, some d] from by kernel_rfl) ?_)
  refine wpAny_bind (wpAny_pure ?_)
  refine wpAny_bind (wpAny_mono h (fun it s2 h2 => ?_) fun _ _ e => e)
  obtain ⟨I, fp, wr, n, P, St, bt, rfl, W, hst, hfp, hcmp, hQ0, hQ⟩ := h2
  refine wpAny_bind (wpAny_newObj_type ?_)
  have hSf : s2.heap.objs.size ∉ fp := fun hm => Nat.lt_irrefl _ (hfp _ hm)
  rw [hname]
  refine wpAny_pure ⟨plainId_quiet PySem.F.plain_max_loop _, ?_⟩
  by_cases hn : n = 0
  · exact max_none W s2.heap.objs.size hSf _ d hn (W.frame _ _ _ hst fun b _ o e => Heap.get?_push_of_some _ e) (Heap.get?_push_size _ rfl) fun h' tk hk => hQ0 hn h' tk fun b o hbw e => hk b o hbw (Heap.get?_push_of_some _ e)
  · exact max_first W bt hcmp s2.heap.objs.size hSf _ (Nat.pos_of_ne_zero hn) (W.frame _ _ _ hst fun b _ o e => Heap.get?_push_of_some _ e) (Heap.get?_push_size _ rfl) fun v h' tk hP hk =>
      hQ (Nat.pos_of_ne_zero hn) v h' tk hP fun b o hbw e => hk b o hbw (Nat.ne_of_lt (Heap.lt_size e)) (Heap.get?_push_of_some _ e)

theorem min_more (W : Walks prog w A.in1 I fp wr n P St) (bt : Nat → Nat → Bool) (hcmp : CmpOf prog w A.in1 .Lt P bt) (S : Addr) (hSf : S ∉ fp) (kw : List (Str × Value)) :
    ∀ (k j : Nat) (s : Shared) (vb : Value) (c : Nat), n - (j + 1) = k → j + 1 ≤ n → St (j + 1) s.heap → P (argBest bt j) vb →
    s.heap.get? S = some { cls := .type "list", dict := none, data := .seq #[vb, vb] c, slots := #[] } →
    (∀ v h' tk, P (argBest bt (n - 1)) v → (∀ b o, b ∉ wr → b ≠ S → s.heap.get? b = some o → h'.get? b = some o) → R (.ok (.ret v)) { s with heap := h', toks := tk }) →
    codeAny (model prog w) A (.builtin "min.loop" ⟨[.ref I, .none, .ref S], kw⟩) R s := by
  have hSw : S ∉ wr := fun h => hSf (W.sub _ h)
  have hname : (toString "min" ++ toString ".loop" : String) = "min.loop" := by decide
  intro k
  induction k with
  | zero =>
    intro j s vb c hk hj hst hPb hS hR
    have hin : j + 1 = n := by omega
    refine codeAny_builtin PySem.F.entry_min_loop ?_
    rw [Around.under_plainId PySem.F.plain_min_loop _]
    show wpAny _ A.in1 (seqItems? (.ref S) >>= _) _ _ s
    refine wpAny_bind (wpAny_seqItems hS rfl ?_)
    show wpAny _ A.in1 (tryCatch (pyNext (.ref I)) _ >>= _) _ _ s
    refine wpAny_bind (wpAny_tryCatch (W.done s _ _ (hin ▸ hst) fun h' tk hk' => ?_))
    have hS' := hk' S _ hSw hS
    show wpAny _ A.in1 (updateSeq S (fun _ => #[]) >>= _) _ _ _
    refine wpAny_bind ?_
    refine wpAny_updateSeq hS' rfl (wpAny_bind (wpAny_letGo (wpAny_pure ?_)))
    refine hR vb _ tk (by rw [← hin]; exact hPb) fun b o hbw hbS e => (Heap.get?_update_other _ _ (Ne.symm hbS)).trans (hk' b o hbw e)
  | succ k ih =>
    intro j s vb c hk hj hst hPb hS hR
    have hlt : j + 1 < n := by omega
    refine codeAny_builtin PySem.F.entry_min_loop ?_
    rw [Around.under_plainId PySem.F.plain_min_loop _]
    show wpAny _ A.in1 (seqItems? (.ref S) >>= _) _ _ s
    refine wpAny_bind (wpAny_seqItems hS rfl ?_)
    show wpAny _ A.in1 (tryCatch (pyNext (.ref I)) _ >>= _) _ _ s
    refine wpAny_bind (wpAny_tryCatch (W.item (j + 1) s _ _ hlt hst fun v h' tk hP hst' hk' => ?_))
    have hS' := hk' S _ hSw hS
    show wpAny _ A.in1 (tryCatch (holding [v, v] (richCompare .Lt v vb >>= _)) _ >>= _) _ _ _
    refine wpAny_bind (wpAny_tryCatch (wpAny_holding (wpAny_bind (hcmp (j + 1) (argBest bt j) v vb _ _ _ hP hPb ?_))))
    refine wpAny_bind (wpAny_holding (wpAny_truthy_bool ?_))
    refine wpAny_bind (wpAny_letGo (wpAny_pure ?_))
    cases hb : bt (j + 1) (argBest bt j) with
    | true =>
      simp only [if_true]
      refine wpAny_bind ?_
      refine wpAny_updateSeq hS' rfl (wpAny_bind (wpAny_letGo ?_))
      rw [hname]
      refine wpAny_pure ⟨plainId_quiet PySem.F.plain_min_loop _, ih (j + 1) _ v _ (by omega) hlt (W.frame _ _ _ hst' fun b hbf o e => ?_) (by simp only [argBest, hb, if_true]; exact hP) (Heap.get?_update_self _ hS' rfl)
        fun v' h'' tk'' hP' hk'' => ?_⟩
      · exact (Heap.get?_update_other _ _ (fun h : S = b => hSf (by rw [h]; exact hbf))).trans e
      · exact hR v' h'' tk'' hP' fun b o hbw hbS e => hk'' b o hbw hbS ((Heap.get?_update_other _ _ (Ne.symm hbS)).trans (hk' b o hbw e))
    | false =>
      simp only [Bool.false_eq_true, if_false]
      refine wpAny_bind (wpAny_letGo ?_)
      rw [hname]
      refine wpAny_pure ⟨plainId_quiet PySem.F.plain_min_loop _, ih (j + 1) _ vb c (by omega) hlt hst' (by simp only [argBest, hb, Bool.false_eq_true, if_false]; exact hPb) hS' fun v' h'' tk'' hP' hk'' => ?_⟩
      exact hR v' h'' tk'' hP' fun b o hbw hbS e => hk'' b o hbw hbS (hk' b o hbw e)

theorem min_first (W : Walks prog w A.in1 I fp wr n P St) (bt : Nat → Nat → Bool) (hcmp : CmpOf prog w A.in1 .Lt P bt) (S : Addr) (hSf : S ∉ fp) (kw : List (Str × Value)) (hn : 0 < n) {s : Shared} {c : Nat} (hst : St 0 s.heap)
    (hS : s.heap.get? S = some { cls := .type "list", dict := none, data := .seq #[] c, slots := #[] })
    (hR : ∀ v h' tk, P (argBest bt (n - 1)) v → (∀ b o, b ∉ wr → b ≠ S → s.heap.get? b = some o → h'.get? b = some o) → R (.ok (.ret v)) { s with heap := h', toks := tk }) :
    codeAny (model prog w) A (.builtin "min.loop" ⟨[.ref I, .none, .ref S], kw⟩) R s := by
  have hSw : S ∉ wr := fun h => hSf (W.sub _ h)
  have hname : (toString "min" ++ toString ".loop" : String) = "min.loop" := by decide
  refine codeAny_builtin PySem.F.entry_min_loop ?_
  rw [Around.under_plainId PySem.F.plain_min_loop _]
  show wpAny _ A.in1 (seqItems? (.ref S) >>= _) _ _ s
  refine wpAny_bind (wpAny_seqItems hS rfl ?_)
  show wpAny _ A.in1 (tryCatch (pyNext (.ref I)) _ >>= _) _ _ s
  refine wpAny_bind (wpAny_tryCatch (W.item 0 s _ _ hn hst fun v h' tk hP hst' hk' => ?_))
  have hS' := hk' S _ hSw hS
  show wpAny _ A.in1 (updateSeq S (fun _ => #[v, v]) >>= _) _ _ _
  refine wpAny_bind ?_
  refine wpAny_updateSeq hS' rfl ?_
  rw [hname]
  refine wpAny_pure ⟨plainId_quiet PySem.F.plain_min_loop _, min_more W bt hcmp S hSf kw _ 0 _ v _ rfl hn (W.frame _ _ _ hst' fun b hbf o e => ?_) hP (Heap.get?_update_self _ hS' rfl) fun v' h'' tk'' hP' hk'' => ?_⟩
  · exact (Heap.get?_update_other _ _ (fun h : S = b => hSf (by rw [h]; exact hbf))).trans e
  · exact hR v' h'' tk'' hP' fun b o hbw hbS e => hk'' b o hbw hbS ((Heap.get?_update_other _ _ (Ne.symm hbS)).trans (hk' b o hbw e))

theorem min_none (W : Walks prog w A.in1 I fp wr n P St) (S : Addr) (hSf : S ∉ fp) (kn : Str) (d : Value) (hn : n = 0) {s : Shared} {c : Nat} (hst : St 0 s.heap)
    (hS : s.heap.get? S = some { cls := .type "list", dict := none, data := .seq #[] c, slots := #[] })
    (hR : ∀ h' tk, (∀ b o, b ∉ wr → s.heap.get? b = some o → h'.get? b = some o) → R (.ok (.ret d)) { s with heap := h', toks := tk }) :
    codeAny (model prog w) A (.builtin "min.loop" ⟨[.ref I, .none, .ref S], [(kn, d)]⟩) R s := by
  refine codeAny_builtin PySem.F.entry_min_loop ?_
  rw [Around.under_plainId PySem.F.plain_min_loop _]
  show wpAny _ A.in1 (seqItems? (.ref S) >>= _) _ _ s
  refine wpAny_bind (wpAny_seqItems hS rfl ?_)
  show wpAny _ A.in1 (tryCatch (pyNext (.ref I)) _ >>= _) _ _ s
  refine wpAny_bind (wpAny_tryCatch (W.done s _ _ (hn ▸ hst) fun h' tk hk' => ?_))
  exact wpAny_bind (wpAny_rule (wpAny_pure (hR h' tk hk')))

theorem args_min_default (a v : Value) : argsOk "min" ⟨[a], [(Str.ofString "default", v)]⟩ := by unfold argsOk; kernel_rfl
theorem min_call {x d : Value} {s : Shared} {E : Value → Shared → Prop} {Q : Value → Shared → Prop}
    (h : wpAny (model prog w) A.in1 (pyIter x) (fun it s2 => ∃ I fp wr n P St bt, it = .ref I ∧ Walks prog w A.in1 I fp wr n P St ∧ St 0 s2.heap ∧ (∀ b ∈ fp, b < s2.heap.objs.size) ∧ CmpOf prog w A.in1 .Lt P bt ∧
      (n = 0 → ∀ h' tk, (∀ b o, b ∉ wr → s2.heap.get? b = some o → h'.get? b = some o) → Q d { s2 with heap := h', toks := tk }) ∧
      (0 < n → ∀ v h' tk, P (argBest bt (n - 1)) v → (∀ b o, b ∉ wr → s2.heap.get? b = some o → h'.get? b = some o) → Q v { s2 with heap := h', toks := tk })) E s) :
    wpAny (model prog w) A (call (.builtin "min") [x] [(Str.ofString "default", d)]) Q E s := by
  have hname : (toString "min" ++ toString ".loop" : String) = "min.loop" := by decide
  refine kmk_tree PySem.F.kind_min PySem.F.plain_min PySem.F.entry_min (args_min_default _ _) ?_
  show wpAny _ A.in1 (Builtin.Builtins.bindParams "min" ["key", "default"] 0 ⟨[], [(Str.ofString "default", d)]⟩ >>= _) _ _ s
  refine wpAny_bind (wpAny_of_eq (show Builtin.Builtins.bindParams "min" ["key", "default"] 0 ⟨[], [(Str.ofString "default", d)]⟩ = pure [none, some d] from by kernel_rfl) ?_)
  refine wpAny_bind (wpAny_pure ?_)
  refine wpAny_bind (wpAny_mono h (fun it s2 h2 => ?_) fun _ _ e => e)
  obtain ⟨I, fp, wr, n, P, St, bt, rfl, W, hst, hfp, hcmp, hQ0, hQ⟩ := h2
  refine wpAny_bind (wpAny_newObj_type ?_)
  have hSf : s2.heap.objs.size ∉ fp := fun hm => Nat.lt_irrefl _ (hfp _ hm)
  rw [hname]
  refine wpAny_pure ⟨plainId_quiet PySem.F.plain_min_loop _, ?_⟩
  by_cases hn : n = 0
  · exact min_none W s2.heap.objs.size hSf _ d hn (W.frame _ _ _ hst fun b _ o e => Heap.get?_push_of_some _ e) (Heap.get?_push_size _ rfl) fun h' tk hk => hQ0 hn h' tk fun b o hbw e => hk b o hbw (Heap.get?_push_of_some _ e)
  · exact min_first W bt hcmp s2.heap.objs.size hSf _ (Nat.pos_of_ne_zero hn) (W.frame _ _ _ hst fun b _ o e => Heap.get?_push_of_some _ e) (Heap.get?_push_size _ rfl) fun v h' tk hP hk =>
      hQ (Nat.pos_of_ne_zero hn) v h' tk hP fun b o hbw e => hk b o hbw (Nat.ne_of_lt (Heap.lt_size e)) (Heap.get?_push_of_some _ e)

end
end L2

set_option Elab.async false
set_option linter.all false
set_option maxRecDepth 100000
set_option maxHeartbeats 4000000
namespace L2
open PySem PySem.Spec PyProof.Rows

theorem best_max (f : Nat → Int) : ∀ k, argBest (fun i j => decide (f i > f j)) k ≤ k ∧ ∀ i, i ≤ k → f i ≤ f (argBest (fun i j => decide (f i > f j)) k)
  | 0 => ⟨Nat.le_refl _, fun i hi => by rw [Nat.le_zero.mp hi]; exact Int.le_refl _⟩
  | k + 1 => by
    obtain ⟨h1, h2⟩ := best_max f k
    unfold argBest
    by_cases c : f (k + 1) > f (argBest (fun i j => decide (f i > f j)) k)
    · rw [if_pos (decide_eq_true c)]
      refine ⟨Nat.le_refl _, fun i hi => ?_⟩
      by_cases e : i = k + 1
      · rw [e]; exact Int.le_refl _
      · have := h2 i (by omega)
        omega
    · rw [if_neg (by rw [decide_eq_false c]; exact Bool.false_ne_true)]
      refine ⟨by omega, fun i hi => ?_⟩
      by_cases e : i = k + 1
      · rw [e]; omega
      · exact h2 i (by omega)
theorem best_min (f : Nat → Int) : ∀ k, argBest (fun i j => decide (f i < f j)) k ≤ k ∧ ∀ i, i ≤ k → f (argBest (fun i j => decide (f i < f j)) k) ≤ f i
  | 0 => ⟨Nat.le_refl _, fun i hi => by rw [Nat.le_zero.mp hi]; exact Int.le_refl _⟩
  | k + 1 => by
    obtain ⟨h1, h2⟩ := best_min f k
    unfold argBest
    by_cases c : f (k + 1) < f (argBest (fun i j => decide (f i < f j)) k)
    · rw [if_pos (decide_eq_true c)]
      refine ⟨Nat.le_refl _, fun i hi => ?_⟩
      by_cases e : i = k + 1
      · rw [e]; exact Int.le_refl _
      · have := h2 i (by omega)
        omega
    · rw [if_neg (by rw [decide_eq_false c]; exact Bool.false_ne_true)]
      refine ⟨by omega, fun i hi => ?_⟩
      by_cases e : i = k + 1
      · rw [e]; omega
      · exact h2 i (by omega)

section
variable {X : Cx}
def SqI (K : PySem.W.Frag) (H : Hp) (p : Addr) (ns : List Int) : Prop := SqL K H p (ns.map V.int) ∨ SqT K H p (ns.map V.int)

theorem ints_get {ns : List Int} {its : List Value} (r : Vals (ns.map V.int) its) : ∀ (i : Nat) (v : Value), its.toArray[i]? = some v → ∃ t, v = .int (ns.getD i 0) t := by
  intro i v e
  have e' : its[i]? = some v := by simpa using e
  have hi : i < its.length := (List.getElem?_eq_some_iff.mp e').1
  have hl := r.length
  rw [List.length_map] at hl
  obtain ⟨u, hu, ru⟩ := r.get (i := i) (x := .int (ns.getD i 0)) (by
    rw [List.getElem?_map, List.getD_eq_getElem?_getD]
    have : ns[i]? = some ns[i] := List.getElem?_eq_getElem (by omega)
    rw [this]; rfl)
  rw [e'] at hu
  cases hu
  exact ru

theorem iter_walk {pins : List (Addr × Obj)} {σ : St} {H : Hp} {s : Shared} {p : Addr} {ns : List Int} {A : Around} {E : Value → Shared → Prop} {Q : Value → Shared → Prop} (I : Inv X pins σ H s) (hh : A.handled = none) (hq : SqI X.K H p ns)
    (h : ∀ (it : Addr) (fp : List Addr) (St : Nat → Heap → Prop) (its : List Value) (s2 : Shared), Vals (ns.map V.int) its → Walks X.prog X.w A it fp [it] its.toArray.size (fun i v => its.toArray[i]? = some v) St → St 0 s2.heap → (∀ b ∈ fp, b < s2.heap.objs.size) →
      (∀ h' tk, (∀ b o, b ∉ [it] → s2.heap.get? b = some o → h'.get? b = some o) → Inv X pins σ H { s2 with heap := h', toks := tk }) → Q (.ref it) s2) :
    wpAny (model X.prog X.w) A (pyIter (.ref p)) Q E s := by
  have back : ∀ (o : Obj) (h' : Heap) (tk : Nat), (∀ b ob, b ∉ [s.heap.objs.size] → (s.heap.push o).get? b = some ob → h'.get? b = some ob) → Inv X pins σ H { s with heap := h', toks := tk } := fun o h' tk k =>
    I.kept fun b ob e => k b ob (fun z => absurd (Heap.lt_size e) (by rw [List.mem_singleton.mp z]; exact Nat.lt_irrefl _)) (Heap.get?_push_of_some _ e)
  rcases hq with hq | hq
  · obtain ⟨its, r, pl, hz⟩ := I.list hq
    have hlt : p < s.heap.objs.size := by obtain ⟨_, e, _⟩ := pl.isList; exact Heap.lt_size e
    refine wpAny_pyIter_list pl.isList ?_
    refine h s.heap.objs.size [s.heap.objs.size, p] _ its _ r (Walks.list hh s.heap.objs.size p (Nat.ne_of_lt hlt) its.toArray) ⟨⟨_, Heap.get?_push_size _ rfl, rfl, rfl⟩, pl.isList.push _⟩ (fun b hb => ?_) fun h' tk k => back _ h' tk k
    show b < (s.heap.push _).objs.size
    rw [Heap.size_push]
    rcases List.mem_cons.mp hb with rfl | hb
    · exact Nat.lt_succ_self _
    · rw [List.mem_singleton.mp hb]; exact Nat.lt_succ_of_lt hlt
  · obtain ⟨its, r, pl, hz⟩ := I.tuple hq
    have hlt : p < s.heap.objs.size := by obtain ⟨_, e, _⟩ := pl; exact Heap.lt_size e
    refine wpAny_pyIter_tuple (show s.heap.IsTuple p its.toArray from pl) ?_
    refine h s.heap.objs.size [s.heap.objs.size, p] _ its _ r (Walks.tuple hh s.heap.objs.size p (Nat.ne_of_lt hlt) its.toArray) ⟨⟨_, Heap.get?_push_size _ rfl, rfl, rfl⟩, ?_⟩ (fun b hb => ?_) fun h' tk k => back _ h' tk k
    · obtain ⟨o, e, c⟩ := (show s.heap.IsTuple p its.toArray from pl)
      exact ⟨o, Heap.get?_push_of_some _ e, c⟩
    · show b < (s.heap.push _).objs.size
      rw [Heap.size_push]
      rcases List.mem_cons.mp hb with rfl | hb
      · exact Nat.lt_succ_self _
      · rw [List.mem_singleton.mp hb]; exact Nat.lt_succ_of_lt hlt

def tBestD (K : PySem.W.Frag) (le : Int → Int → Prop) (ta td : TA) : TE := fun σ H Q => ta σ H fun xs H1 => td σ H1 fun ds H2 => ∃ p ns d, xs = [.ref p] ∧ ds = [d] ∧ SqI K H2 p ns ∧ (ns = [] → Q d H2) ∧ ∀ m, m ∈ ns → (∀ y ∈ ns, le y m) → Q (.int m) H2
theorem getD_mem {ns : List Int} {i : Nat} (h : i < ns.length) : ns.getD i 0 ∈ ns := by
  rw [List.getD_eq_getElem?_getD, List.getElem?_eq_getElem h]
  exact List.getElem_mem h
theorem mem_getD {ns : List Int} {y : Int} (h : y ∈ ns) : ∃ i, i < ns.length ∧ ns.getD i 0 = y := by
  obtain ⟨i, hi, e⟩ := List.mem_iff_getElem.mp h
  refine ⟨i, hi, ?_⟩
  rw [List.getD_eq_getElem?_getD, List.getElem?_eq_getElem hi]
  exact e

theorem pe_maxD {e : Expr} {p pos kp : Pos} {dx : Expr} {ta td : TA} (hc : X.calm = true) (hg : Gl X "max") (hm : X.mg "max" = none) (ha : PA X [e] ta) (hd : PK X [⟨some (Str.ofString "default"), dx, kp⟩] td)
    (he : backTo pos (starEach [e] X.env) = (false, eval e X.env) :: backTo pos (starEach [] X.env) := by rfl)
    (hplain : (backTo pos (starEach [e] X.env)).any (·.1) = false := by rfl)
    (hall : (backToKw pos (keywordEach [⟨some (Str.ofString "default"), dx, kp⟩] X.env)).all (·.1.isSome) = true := by rfl)
    (hkw : (backToKw pos (keywordEach [⟨some (Str.ofString "default"), dx, kp⟩] X.env)).any (·.1.isNone) = false := by rfl) :
    PE X (.Call (.Name "max" p) [e] [⟨some (Str.ofString "default"), dx, kp⟩] pos) (tBestD X.K (fun y m => y ≤ m) ta td) := by
  intro pins s σ H Q I h
  refine wpAny_Call_Name_kw (ld_blt I hg hm PyProof.Rows.boot_max ?_)
  refine PyProof.Rows.callWith_kw (thn (ha pos pins s σ H _ I h) fun us s1 ⟨vs, H1, I1, r, q⟩ => ?_) he hplain hall hkw
  refine thn (hd pos pins s1 σ H1 _ I1 q) fun ws s2 ⟨zs, H2, I2, rz, q2⟩ => ?_
  obtain ⟨a, ns, d, e1, e2, hq, q0, q1⟩ := q2
  subst e1 e2
  obtain ⟨u, rfl, ru⟩ := vals1 r
  cases ru
  obtain ⟨dv, rfl, rd⟩ := vals1 rz
  show wpAny _ X.A (call (.builtin "max") [.ref a] [(Str.ofString "default", dv)]) _ _ _
  refine max_call (iter_walk (A := X.A.in1) I2 (I2.ok.hd hc) hq fun it fp St its s3 rv W st hfp back => ?_)
  have hl := rv.length
  rw [List.length_map] at hl
  refine ⟨it, fp, [it], _, _, St, _, rfl, W, st, hfp, CmpOf.ints_gt (fun i => ns.getD i 0) (ints_get rv), fun hn h' tk k => ?_, fun hn v h' tk hv k => ?_⟩
  · rw [List.size_toArray] at hn
    exact ⟨d, H2, back h' tk k, rd, q0 (List.eq_nil_of_length_eq_zero (by omega))⟩
  · rw [List.size_toArray] at hn hv
    obtain ⟨t, rfl⟩ := ints_get rv _ _ hv
    obtain ⟨b1, b2⟩ := best_max (fun i => ns.getD i 0) (its.length - 1)
    refine ⟨.int _, H2, back h' tk k, ⟨t, rfl⟩, q1 _ (getD_mem (by omega)) fun y hy => ?_⟩
    obtain ⟨i, hi, rfl⟩ := mem_getD hy
    exact b2 i (by omega)

theorem pe_minD {e : Expr} {p pos kp : Pos} {dx : Expr} {ta td : TA} (hc : X.calm = true) (hg : Gl X "min") (hm : X.mg "min" = none) (ha : PA X [e] ta) (hd : PK X [⟨some (Str.ofString "default"), dx, kp⟩] td)
    (he : backTo pos (starEach [e] X.env) = (false, eval e X.env) :: backTo pos (starEach [] X.env) := by rfl)
    (hplain : (backTo pos (starEach [e] X.env)).any (·.1) = false := by rfl)
    (hall : (backToKw pos (keywordEach [⟨some (Str.ofString "default"), dx, kp⟩] X.env)).all (·.1.isSome) = true := by rfl)
    (hkw : (backToKw pos (keywordEach [⟨some (Str.ofString "default"), dx, kp⟩] X.env)).any (·.1.isNone) = false := by rfl) :
    PE X (.Call (.Name "min" p) [e] [⟨some (Str.ofString "default"), dx, kp⟩] pos) (tBestD X.K (fun y m => m ≤ y) ta td) := by
  intro pins s σ H Q I h
  refine wpAny_Call_Name_kw (ld_blt I hg hm PyProof.Rows.boot_min ?_)
  refine PyProof.Rows.callWith_kw (thn (ha pos pins s σ H _ I h) fun us s1 ⟨vs, H1, I1, r, q⟩ => ?_) he hplain hall hkw
  refine thn (hd pos pins s1 σ H1 _ I1 q) fun ws s2 ⟨zs, H2, I2, rz, q2⟩ => ?_
  obtain ⟨a, ns, d, e1, e2, hq, q0, q1⟩ := q2
  subst e1 e2
  obtain ⟨u, rfl, ru⟩ := vals1 r
  cases ru
  obtain ⟨dv, rfl, rd⟩ := vals1 rz
  show wpAny _ X.A (call (.builtin "min") [.ref a] [(Str.ofString "default", dv)]) _ _ _
  refine min_call (iter_walk (A := X.A.in1) I2 (I2.ok.hd hc) hq fun it fp St its s3 rv W st hfp back => ?_)
  have hl := rv.length
  rw [List.length_map] at hl
  refine ⟨it, fp, [it], _, _, St, _, rfl, W, st, hfp, CmpOf.ints_lt (fun i => ns.getD i 0) (ints_get rv), fun hn h' tk k => ?_, fun hn v h' tk hv k => ?_⟩
  · rw [List.size_toArray] at hn
    exact ⟨d, H2, back h' tk k, rd, q0 (List.eq_nil_of_length_eq_zero (by omega))⟩
  · rw [List.size_toArray] at hn hv
    obtain ⟨t, rfl⟩ := ints_get rv _ _ hv
    obtain ⟨b1, b2⟩ := best_min (fun i => ns.getD i 0) (its.length - 1)
    refine ⟨.int _, H2, back h' tk k, ⟨t, rfl⟩, q1 _ (getD_mem (by omega)) fun y hy => ?_⟩
    obtain ⟨i, hi, rfl⟩ := mem_getD hy
    exact b2 i (by omega)

def rngV (i : Int) (n : Nat) : List V := (List.range n).map fun (k : Nat) => V.int (i + (k : Int))
theorem call_rng2 : CallR X (.type "range") (fun xs H Q => ∃ i j, xs = [.int i, .int j] ∧ ∀ p, H p = none → Q (.ref p) (upd H p (.rng i j))) := by
  intro pins s σ H xs us Q I r h
  obtain ⟨i, j, rfl, q⟩ := h
  obtain ⟨u, w', rfl, ⟨t, rfl⟩, ⟨t', rfl⟩⟩ := vals2 r
  refine call_range_2 ?_
  refine ⟨.ref s.heap.objs.size, _, I.laid (fun b o e => Heap.get?_push_of_some _ e) (Nat.le_refl _) (show ObjOk X.prog X.w _ _ _ (.rng i j) from ⟨t, t', s.toks, Heap.get?_push_size _ rfl⟩), rfl, q _ (I.hok.fresh (Nat.le_refl _))⟩

theorem collect_range {prog : Program} {w : World} {A : Around} {E : Value → Shared → Prop} {s : Shared} {Q : List Value → Shared → Prop} {r : Addr} {a b c : Int} {t u v : Tok} {n : Nat} (hh : A.handled = none) (hr : IsRange s.heap r a b c t u v) (hsmall : Builtin.Range.small a b c = true)
    (hn : Builtin.Range.rangeSize a b c = n) (hlen : n ≤ 2 ^ 24)
    (hQ : ∀ h' tk acc, (∀ b o, s.heap.get? b = some o → h'.get? b = some o) → ItemsOf (fun i v => ∃ t, v = .int (a + i * c) t) acc n → Q acc.toList { s with heap := h', toks := tk }) :
    wpAny (model prog w) A (collect (.ref r)) Q E s := by
  unfold collect
  refine wpAny_bind (wpAny_runValue (codeAny_builtin PySem.F.entry_proto_collect ?_))
  rw [Around.under_plainId PySem.F.plain_proto_collect _]
  show wpAny _ A.in1 (newList [] >>= fun l => again (.builtin "list.__iadd__" ⟨[l, .ref r], []⟩)) _ _ s
  refine wpAny_bind (wpAny_newObj_type ?_)
  refine wpAny_pure ⟨plainId_quiet PySem.F.plain_list_iadd _, codeAny_builtin PySem.F.entry_list_iadd ?_⟩
  rw [Around.under_plainId PySem.F.plain_list_iadd _]
  show wpAny _ A.in1 (Builtin.List.listExtendWith (.ref s.heap.objs.size) (.ref r) (.ref s.heap.objs.size)) _ _ _
  have hS : (s.heap.push { cls := .type "list", data := .seq ([] : List Value).toArray }).get? s.heap.objs.size = some { cls := .type "list", data := .seq #[] 0 } := Heap.get?_push_size _ rfl
  have fin : ∀ (r' : Result) (s' : Shared), (∃ h' tk acc c', r' = .ok (.ret (.ref s.heap.objs.size)) ∧ s' = { s with heap := h', toks := tk } ∧ (∀ b o, s.heap.get? b = some o → h'.get? b = some o) ∧
      h'.get? s.heap.objs.size = some { cls := .type "list", dict := none, data := .seq acc c', slots := #[] } ∧ ItemsOf (fun i v => ∃ t, v = .int (a + i * c) t) acc n) →
      match r' with
      | Except.ok (Flow.ret v) => wpAny (model prog w) A (match v with
          | Value.ref a => do
            match (← load a).data with
              | Data.seq xs _ => pure xs.toList
              | _ => unsupported "internal:collect"
          | _ => unsupported "internal:collect") Q E s'
      | Except.ok _ => False
      | Except.error e => E e s' := by
    rintro r' s' ⟨h', tk, acc, c', rfl, rfl, hk, hS', hacc⟩
    show wpAny _ A (load s.heap.objs.size >>= _) _ _ _
    refine wpAny_bind (wpAny_load hS' ?_)
    exact wpAny_pure (hQ h' tk acc hk hacc)
  refine wpAny_mono (wpAny_extend_range (A := A) (R := fun r' s' => ∃ h' tk acc c', r' = .ok (.ret (.ref s.heap.objs.size)) ∧ s' = { s with heap := h', toks := tk } ∧ (∀ b o, s.heap.get? b = some o → h'.get? b = some o) ∧
      h'.get? s.heap.objs.size = some { cls := .type "list", dict := none, data := .seq acc c', slots := #[] } ∧ ItemsOf (fun i v => ∃ t, v = .int (a + i * c) t) acc n)
    (s := { s with heap := s.heap.push { cls := .type "list", data := .seq ([] : List Value).toArray } }) hh (Heap.get?_push_of_some _ hr) hsmall hn hlen s.heap.objs.size _ 0 hS
    fun h' tk acc c' hk hS' hacc => ⟨h', tk, acc, c', rfl, rfl, fun b o e => hk b o (Nat.ne_of_lt (Heap.lt_size e)) (Heap.get?_push_of_some _ e), hS', hacc⟩) (fun f s' h => ?_) (fun e s' h => ?_)
  · cases f with
    | done f => exact fin _ _ h
    | again c' => exact ⟨h.1, codeAny_mono h.2 fun r' s'' hr' => fin _ _ hr'⟩
  · obtain ⟨_, _, _, _, e, _⟩ := h
    cases e

theorem meets_tuple_rng (r : Addr) (a b : Int) (t u v : Tok) (n : Nat) (hsmall : Builtin.Range.small a b 1 = true) (hn : Builtin.Range.rangeSize a b 1 = n) (hlen : n ≤ 2 ^ 24) :
    Meets (Builtin.«tuple.__new__» ⟨[.type "tuple", .ref r], []⟩)
      (fun A R s => A.handled = none ∧ IsRange s.heap r a b 1 t u v ∧ ∀ (h' : Heap) (tk : Nat) (acc : Array Value), (∀ b o, s.heap.get? b = some o → h'.get? b = some o) → ItemsOf (fun i v => ∃ t, v = .int (a + i * 1) t) acc n →
        R (.ok (.ret (.ref h'.objs.size))) { s with heap := h'.push { cls := .type "tuple", data := .seq acc }, toks := tk }) :=
  .of_wp fun prog w A R s h => by
    obtain ⟨hp, g, d, tk0, os⟩ := s
    obtain ⟨hh, hr, h⟩ := h
    have hsub := sub_tuple_self
    have hinit := init_tuple_lookup
    have hmh := madeHere_tuple
    have hT : Shared.TypeIs ⟨hp, g, d, tk0, os⟩ (.ref r) "range" := ⟨_, hr, rfl⟩
    have hh1 : A.in1.handled = none := hh
    wp_walk using wpAny_typeOf hT, collect_range hh1 hr hsmall hn hlen
    intro h' tk acc hk hacc
    show wpAny _ _ (Builtin.Tuple.tupleExact acc.toList.toArray >>= fun v => ret v) _ _ _
    unfold Builtin.Tuple.tupleExact
    refine wpAny_bind (wpAny_newObj_type ?_ (show acc.toList.toArray.size ≤ sizeLine by simp only [Array.toArray_toList]; rw [hacc.1, sizeLine_eq]; omega))
    refine wpAny_pure ⟨_, rfl, ?_⟩
    have e : acc.toList.toArray = acc := by simp
    rw [e]
    exact h h' tk acc hk hacc
theorem vals_rng {a : Int} {acc : Array Value} {n : Nat} (h : ItemsOf (fun i v => ∃ t, v = Value.int (a + (i : Int) * 1) t) acc n) : Vals (rngV a n) acc.toList := by
  have go : ∀ (l : List Value) (k : Nat), (∀ (j : Nat) (v : Value), l[j]? = some v → ∃ t, v = Value.int (a + ((k + j : Nat) : Int)) t) → Vals ((List.range' k l.length).map fun (j : Nat) => V.int (a + (j : Int))) l := by
    intro l
    induction l with
    | nil => intro k _; exact .nil
    | cons x r ih =>
      intro k hx
      rw [List.length_cons, List.range'_succ, List.map_cons]
      refine .cons ?_ (ih (k + 1) fun j v e => ?_)
      · obtain ⟨t, e⟩ := hx 0 x rfl
        exact ⟨t, e⟩
      · obtain ⟨t, e'⟩ := hx (j + 1) v (by simpa using e)
        refine ⟨t, e'.trans ?_⟩
        congr 1
        omega
  have q := go acc.toList 0 fun j v e => by
    obtain ⟨t, e'⟩ := h.2 j v (by simpa using e)
    exact ⟨t, by rw [e']; congr 1; first | done | omega⟩
  unfold rngV
  rw [List.range_eq_range']
  have hn : acc.toList.length = n := by simpa using h.1
  rw [hn] at q
  exact q
theorem call_tuple_rng (hc : X.calm = true) : CallR X (.type "tuple") (fun xs H Q => ∃ p i j, xs = [.ref p] ∧ H p = some (.rng i j) ∧ (-(2 ^ 62) ≤ i ∧ i < 2 ^ 62 ∧ -(2 ^ 62) ≤ j ∧ j < 2 ^ 62) ∧ (j - i).toNat ≤ 2 ^ 24 ∧
    ∀ l, H l = none → Q (.ref l) (upd H l (.tup (rngV i (j - i).toNat)))) := by
  intro pins s σ H xs us Q I r h
  obtain ⟨p, i, j, rfl, hp, ⟨h1, h2, h3, h4⟩, hlen, q⟩ := h
  obtain ⟨u, rfl, rx⟩ := vals1 r
  cases rx
  obtain ⟨t, u', v, e⟩ := (show ObjOk X.prog X.w H s.heap p (.rng i j) from I.hok p _ hp)
  have hn : Builtin.Range.rangeSize i j 1 = (((j - i).toNat : Nat) : Int) := by rw [rangeSize_one]; split <;> omega
  refine callType_new PySem.F.called_tuple (by decide) (PySem.F.typeCall_tuple_1 _) (PySem.F.newCall_tuple_1 _) (fun obj => PySem.F.args_object_init_2 obj _) PySem.F.entry_tuple_new
    (meets_tuple_rng p i j t u' v _ (small_one h1 h2 h3 h4) hn hlen) ⟨I.ok.hd hc, e, fun h' tk acc hk hacc => ⟨⟨_, Heap.get?_push_size _ rfl, rfl⟩, ?_⟩⟩
  have I1 : Inv X pins σ H { s with heap := h', toks := tk } := I.kept hk
  have z : (rngV i (j - i).toNat).length ≤ sizeLine := by unfold rngV; rw [List.length_map, List.length_range, sizeLine_eq]; omega
  have I2 : Inv X pins σ (upd H h'.objs.size (.tup (rngV i (j - i).toNat))) { s with heap := h'.push { cls := .type "tuple", data := .seq acc }, toks := tk } :=
    I1.laid (t' := tk) (fun b o e => Heap.get?_push_of_some _ e) (Nat.le_refl _) (show ObjOk X.prog X.w _ _ _ (.tup _) from ⟨z, acc.toList, vals_rng hacc, by simpa using PlT.new h' acc⟩)
  exact ⟨.ref h'.objs.size, _, I2, rfl, q _ (I1.hok.fresh (Nat.le_refl _))⟩

def Itd (hi : Int) (n : Nat) : It := ⟨fun i _ => i < n, fun i H x H' => H' = H ∧ x = .int (hi - i), fun i _ => n ≤ i⟩
theorem turn_down {P : Program} {w : World} {K : PySem.W.Frag} {tg : Expr} (it : Addr) (hi : Int) (n : Nat) : Turn P w K tg (Itd hi n) [it] it (fun i h => IsRangeIter h it (hi + (i : Nat) * (-1)) ((n : Int) - (i : Nat)) (-1)) where
  mem := by simp
  obj := fun i h st b hb => by
    have e : b = it := by simpa using hb
    subst e
    exact ⟨_, st, fun v z => by
      have z' : Data.fields _ = Data.cell v := z
      cases z'⟩
  keep := fun i h h' st k => k it (by simp) _ st
  item := by
    intro X hP hw hK hc i pins s σ H E I hf st hg
    subst hP hw hK
    obtain ⟨f0, f1, f2, f3, f4, f5⟩ := hf it (by simp)
    have W := Walks.range (prog := X.prog) (w := X.w) (I.ok.hd hc) it hi (-1) n
    refine W.item i s _ _ hg st fun v h' tk hv st' kk => ?_
    obtain ⟨t, rfl⟩ := hv
    have I1 : Inv X pins σ H { s with heap := h', toks := tk } := I.turned (fun b o hb e => kk b o (by simpa using hb) e) f0 f1 f3 f4 f5
    refine ⟨_, rfl, go_of (s := { s with heap := h', toks := tk }) (n := "range_iterator") st' rfl rfl (by decide) ⟨.int (hi - i), H, I1, ⟨t, ?_⟩, ⟨rfl, rfl⟩, st', fun b hb => (hf b hb).1⟩⟩
    congr 1
    omega
  done := by
    intro X hP hw hK hc i pins s σ H E I hf st hg
    subst hP hw hK
    obtain ⟨f0, f1, f2, f3, f4, f5⟩ := hf it (by simp)
    exact wpAny_pyNext_range_end (I.ok.hd hc) st (by have : n ≤ i := hg; omega) fun h' eb => ⟨rfl, I.turned (t' := s.toks) (fun b o hb e => eb b o hb e) f0 f1 f3 f4 f5⟩
  self := fun _ _ _ _ _ st h => wpAny_pyIter_rangeiter st h
theorem rangeSize_down (a b : Int) : Builtin.Range.rangeSize a b (-1) = (((a - b).toNat : Nat) : Int) := by
  unfold Builtin.Range.rangeSize
  rw [if_neg (by decide)]
  by_cases h : a > b
  · rw [if_pos h]
    have e : (a - b - 1) / (- -1) = a - b - 1 := by
      show (a - b - 1) / 1 = _
      exact Int.ediv_one _
    rw [e]
    omega
  · rw [if_neg h]
    omega
theorem small_down {a b : Int} (ha : -(2 ^ 62) ≤ a) (ha' : a < 2 ^ 62) (hb : -(2 ^ 62) ≤ b) (hb' : b < 2 ^ 62) : Builtin.Range.small a b (-1) = true := by
  unfold Builtin.Range.small
  rw [rangeSize_down]
  simp only [Builtin.Range.rangeFitsLong, Bool.and_eq_true, Bool.or_eq_true, decide_eq_true_eq, beq_iff_eq]
  refine ⟨?_, ?_⟩ <;> first | omega | (split <;> omega) | (simp <;> omega)
end
end L2

set_option Elab.async false
set_option linter.all false
set_option maxRecDepth 100000
set_option maxHeartbeats 4000000
namespace L2
open PySem PySem.Spec PyProof.Rows
section
variable {X : Cx} {tg : Expr}

def iRngD (ta : TA) : TI := fun σ H R => ta σ H fun vs H1 => ∃ i j : Int, vs = [.int i, .int j, .int (-1)] ∧ (-(2 ^ 62) ≤ i ∧ i < 2 ^ 62 ∧ -(2 ^ 62) ≤ j ∧ j < 2 ^ 62) ∧ R (Itd i (i - j).toNat) H1
theorem pi_rangeD {a b c : Expr} {ta : TA} {p pos : Pos} (hg : Gl X "range") (hm : X.mg "range" = none) (ha : PA X [a, b, c] ta)
    (hs : starEach [a, b, c] X.env = [(false, eval a X.env), (false, eval b X.env), (false, eval c X.env)] := by rfl) (hs2 : starEach [b, c] X.env = [(false, eval b X.env), (false, eval c X.env)] := by rfl) :
    PI X tg (.Call (.Name "range" p) [a, b, c] [] pos) (iRngD ta) := by
  intro pins s σ H R I h
  refine Call_ (ld_blt I hg hm boot_range (PyProof.Rows.callWith_type1 (thn (ha pos pins s σ H _ I h) fun us s1 ⟨vs, H1, I1, r1, q1⟩ => ?_) (by rw [hs, hs2]) (by rw [hs2]; rfl)))
  obtain ⟨i, j, e, ⟨q1, q2, q3, q4⟩, q⟩ := q1
  subst e
  cases r1 with
  | cons r rr =>
    cases rr with
    | cons r' rr =>
      cases rr with
      | cons r'' rr =>
        cases rr
        obtain ⟨t, rfl⟩ := r
        obtain ⟨t', rfl⟩ := r'
        obtain ⟨t'', rfl⟩ := r''
        refine call_range_3 (by decide) ?_ (.inl (PyProof.noPylong_small (by decide)))
        refine wpAny_pyIter_range (IsRange.new ..) (small_down q1 q2 q3 q4) ?_
        have I2 : Inv X pins σ H1 { s1 with heap := s1.heap.push { cls := .type "range", data := .fields #[.int i t, .int j t', .int (-1) t''] }, toks := s1.toks } := I1.kept fun b o e => Heap.get?_push_of_some _ e
        refine ⟨(s1.heap.push { cls := .type "range", data := .fields #[.int i t, .int j t', .int (-1) t''] }).objs.size, [(s1.heap.push { cls := .type "range", data := .fields #[.int i t, .int j t', .int (-1) t''] }).objs.size], _, _, H1, rfl,
          I2.kept (t' := s1.toks) fun b o e => Heap.get?_push_of_some _ e, turn_down _ i (i - j).toNat, ?_, fun b hb => ?_, q⟩
        · have e1 : i + ((0 : Nat) : Int) * (-1) = i := by simp
          have e2 : (((i - j).toNat : Nat) : Int) - ((0 : Nat) : Int) = Builtin.Range.rangeSize i j (-1) := by rw [rangeSize_down]; omega
          show IsRangeIter _ _ (i + ((0 : Nat) : Int) * (-1)) ((((i - j).toNat : Nat) : Int) - ((0 : Nat) : Int)) (-1)
          rw [e1, e2]
          exact Heap.get?_push_size _ rfl
        · have e : b = (s1.heap.push { cls := .type "range", data := .fields #[.int i t, .int j t', .int (-1) t''] }).objs.size := by simpa using hb
          subst e
          exact I2.fpOk (Nat.le_refl _) (I2.hok.fresh (Nat.le_refl _))
end
theorem for_down {hi : Int} {n : Nat} {g : TG} {tb : TS} {D : Ends} {σ : St} {H : Hp} (Pv : Nat → St → Hp → Prop) (h0 : Pv 0 σ H)
    (hs : ∀ i σ H, i < n → Pv i σ H → g (.int (hi - i)) σ H fun σ2 H2 => tb { D with nx := Pv (i + 1), ct := Pv (i + 1), bk := D.nx } σ2 H2) (hd : ∀ σ H, Pv n σ H → D.nx σ H) :
    ∃ W : Nat → Nat → St → Hp → Prop, (∃ m, W 0 m σ H) ∧ ∀ i m σ H, W i m σ H →
      ((Itd hi n).stop i H ∧ D.nx σ H) ∨ ((Itd hi n).go i H ∧ ∃ N : St → Hp → Prop, (∀ σ' H', N σ' H' → ∃ m', m' < m ∧ W (i + 1) m' σ' H') ∧ ∀ x H', (Itd hi n).yld i H x H' → g x σ H' fun σ2 H2 => tb { D with nx := N, ct := N, bk := D.nx } σ2 H2) := by
  refine ⟨fun i m σ H => m = n - i ∧ i ≤ n ∧ Pv i σ H, ⟨n, by simp, Nat.zero_le _, h0⟩, ?_⟩
  rintro i m σ H ⟨rfl, hi', p⟩
  by_cases hlt : i < n
  · refine .inr ⟨hlt, Pv (i + 1), fun σ' H' p' => ⟨n - (i + 1), by omega, rfl, hlt, p'⟩, fun x H' y => ?_⟩
    obtain ⟨e, y⟩ := y
    subst e y
    exact hs i σ _ hlt p
  · have e : i = n := by omega
    subst e
    exact .inl ⟨Nat.le_refl _, hd σ H p⟩

abbrev CompW (J : It) (g : TG) (tc : TT) (te : TE) (σ0 : St) (H1 : Hp) (F : List V → Hp → Prop) : Prop :=
  ∃ W : Nat → Nat → List V → Hp → Prop, (∃ m, W 0 m [] H1) ∧ ∀ i m ys H, W i m ys H →
    (J.stop i H ∧ F ys H) ∨ (J.go i H ∧ ys.length < sizeLine ∧ ∃ N : List V → Hp → Prop, (∀ zs H', N zs H' → ∃ m', m' < m ∧ W (i + 1) m' zs H') ∧
      ∀ x H', J.yld i H x H' → compTurnT g tc te σ0 x H' ys N)
theorem comp_list {K : PySem.W.Frag} {a : Addr} {xs : List V} {g : TG} {tc : TT} {te : TE} {σ0 : St} {H1 : Hp} {F : List V → Hp → Prop} (Pv : Nat → List V → Hp → Prop) (h0 : Pv 0 [] H1)
    (hl : ∀ i ys H, i ≤ xs.length → Pv i ys H → SqL K H a xs ∧ ys.length < sizeLine)
    (hs : ∀ i x ys H, xs[i]? = some x → Pv i ys H → compTurnT g tc te σ0 x H ys (Pv (i + 1))) (hd : ∀ ys H, Pv xs.length ys H → F ys H) : CompW (Itl K a) g tc te σ0 H1 F := by
  refine ⟨fun i m ys H => m = xs.length - i ∧ i ≤ xs.length ∧ Pv i ys H, ⟨xs.length, by simp, Nat.zero_le _, h0⟩, ?_⟩
  rintro i m ys H ⟨rfl, hi, p⟩
  obtain ⟨q, z⟩ := hl i ys H hi p
  by_cases hlt : i < xs.length
  · refine .inr ⟨⟨xs, xs[i], q, by simp [hlt]⟩, z, Pv (i + 1), fun zs H' p' => ⟨xs.length - (i + 1), by omega, rfl, hlt, p'⟩, fun x H' y => ?_⟩
    obtain ⟨e, y⟩ := y
    subst e
    exact hs i x ys _ (y xs q) p
  · have e : i = xs.length := by omega
    subst e
    exact .inl ⟨⟨xs, q, Nat.le_refl _⟩, hd ys H p⟩
theorem comp_tup {K : PySem.W.Frag} {a : Addr} {xs : List V} {g : TG} {tc : TT} {te : TE} {σ0 : St} {H1 : Hp} {F : List V → Hp → Prop} (Pv : Nat → List V → Hp → Prop) (h0 : Pv 0 [] H1)
    (hl : ∀ i ys H, i ≤ xs.length → Pv i ys H → SqT K H a xs ∧ ys.length < sizeLine)
    (hs : ∀ i x ys H, xs[i]? = some x → Pv i ys H → compTurnT g tc te σ0 x H ys (Pv (i + 1))) (hd : ∀ ys H, Pv xs.length ys H → F ys H) : CompW (Itt K a) g tc te σ0 H1 F := by
  refine ⟨fun i m ys H => m = xs.length - i ∧ i ≤ xs.length ∧ Pv i ys H, ⟨xs.length, by simp, Nat.zero_le _, h0⟩, ?_⟩
  rintro i m ys H ⟨rfl, hi, p⟩
  obtain ⟨q, z⟩ := hl i ys H hi p
  by_cases hlt : i < xs.length
  · refine .inr ⟨⟨xs, xs[i], q, by simp [hlt]⟩, z, Pv (i + 1), fun zs H' p' => ⟨xs.length - (i + 1), by omega, rfl, hlt, p'⟩, fun x H' y => ?_⟩
    obtain ⟨e, y⟩ := y
    subst e
    exact hs i x ys _ (y xs q) p
  · have e : i = xs.length := by omega
    subst e
    exact .inl ⟨⟨xs, q, Nat.le_refl _⟩, hd ys H p⟩
theorem comp_range {lo : Int} {n : Nat} {g : TG} {tc : TT} {te : TE} {σ0 : St} {H1 : Hp} {F : List V → Hp → Prop} (Pv : Nat → List V → Hp → Prop) (h0 : Pv 0 [] H1)
    (hl : ∀ i ys H, i ≤ n → Pv i ys H → ys.length < sizeLine)
    (hs : ∀ i ys H, i < n → Pv i ys H → compTurnT g tc te σ0 (.int (lo + i)) H ys (Pv (i + 1))) (hd : ∀ ys H, Pv n ys H → F ys H) : CompW (Itr lo n) g tc te σ0 H1 F := by
  refine ⟨fun i m ys H => m = n - i ∧ i ≤ n ∧ Pv i ys H, ⟨n, by simp, Nat.zero_le _, h0⟩, ?_⟩
  rintro i m ys H ⟨rfl, hi, p⟩
  have z := hl i ys H hi p
  by_cases hlt : i < n
  · refine .inr ⟨hlt, z, Pv (i + 1), fun zs H' p' => ⟨n - (i + 1), by omega, rfl, hlt, p'⟩, fun x H' y => ?_⟩
    obtain ⟨e, y⟩ := y
    subst e y
    exact hs i ys _ hlt p
  · have e : i = n := by omega
    subst e
    exact .inl ⟨Nat.le_refl _, hd ys H p⟩
def keptV {α : Type} (p : α → Bool) (f : α → V) (zs : List α) : List V := (zs.filter p).map f
theorem keptV_snoc {α : Type} (p : α → Bool) (f : α → V) (zs : List α) (z : α) : keptV p f (zs ++ [z]) = if p z = true then keptV p f zs ++ [f z] else keptV p f zs := by
  unfold keptV
  rw [List.filter_append, List.map_append]
  cases h : p z <;> simp [h]
theorem keptV_le {α : Type} (p : α → Bool) (f : α → V) (zs : List α) : (keptV p f zs).length ≤ zs.length := by
  unfold keptV
  rw [List.length_map]
  exact List.length_filter_le _ _
theorem take_snoc {α : Type} {zs : List α} {i : Nat} {z : α} (h : zs[i]? = some z) : zs.take (i + 1) = zs.take i ++ [z] := by
  rw [List.take_add_one, h]
  rfl
theorem comp_ints {K : PySem.W.Frag} {a : Addr} {ns : List Int} {g : TG} {tc : TT} {te : TE} {σ0 : St} {H1 : Hp} {F : List V → Hp → Prop} (p : Int → Bool) (f : Int → V) (hq : SqL K H1 a (ns.map V.int)) (hz : ns.length ≤ 1000)
    (hs : ∀ n ys N, n ∈ ns → N (if p n = true then ys ++ [f n] else ys) H1 → compTurnT g tc te σ0 (.int n) H1 ys N) (hd : F (keptV p f ns) H1) : CompW (Itl K a) g tc te σ0 H1 F := by
  refine comp_list (xs := ns.map V.int) (fun i ys H => H = H1 ∧ ys = keptV p f (ns.take i)) ⟨rfl, rfl⟩ (fun i ys H hi hp => ?_) (fun i x ys H hx hp => ?_) (fun ys H hp => ?_)
  · obtain ⟨rfl, rfl⟩ := hp
    refine ⟨hq, small1000 ?_⟩
    have h1 := keptV_le p f (ns.take i)
    have h2 := List.length_take_le i ns
    have h3 : (ns.take i).length ≤ ns.length := by rw [List.length_take]; omega
    omega
  · obtain ⟨rfl, rfl⟩ := hp
    rw [List.getElem?_map] at hx
    cases e : ns[i]? with
    | none => rw [e] at hx; cases hx
    | some n =>
      rw [e] at hx
      cases hx
      refine hs n _ _ (List.mem_of_getElem? e) ⟨rfl, ?_⟩
      rw [take_snoc e, keptV_snoc]
  · obtain ⟨rfl, rfl⟩ := hp
    rw [List.length_map, List.take_length]
    exact hd
theorem comp_intsT {K : PySem.W.Frag} {a : Addr} {ns : List Int} {g : TG} {tc : TT} {te : TE} {σ0 : St} {H1 : Hp} {F : List V → Hp → Prop} (p : Int → Bool) (f : Int → V) (hq : SqT K H1 a (ns.map V.int)) (hz : ns.length ≤ 1000)
    (hs : ∀ n ys N, n ∈ ns → N (if p n = true then ys ++ [f n] else ys) H1 → compTurnT g tc te σ0 (.int n) H1 ys N) (hd : F (keptV p f ns) H1) : CompW (Itt K a) g tc te σ0 H1 F := by
  refine comp_tup (xs := ns.map V.int) (fun i ys H => H = H1 ∧ ys = keptV p f (ns.take i)) ⟨rfl, rfl⟩ (fun i ys H hi hp => ?_) (fun i x ys H hx hp => ?_) (fun ys H hp => ?_)
  · obtain ⟨rfl, rfl⟩ := hp
    refine ⟨hq, small1000 ?_⟩
    have h1 := keptV_le p f (ns.take i)
    have h3 : (ns.take i).length ≤ ns.length := by rw [List.length_take]; omega
    omega
  · obtain ⟨rfl, rfl⟩ := hp
    rw [List.getElem?_map] at hx
    cases e : ns[i]? with
    | none => rw [e] at hx; cases hx
    | some n =>
      rw [e] at hx
      cases hx
      refine hs n _ _ (List.mem_of_getElem? e) ⟨rfl, ?_⟩
      rw [take_snoc e, keptV_snoc]
  · obtain ⟨rfl, rfl⟩ := hp
    rw [List.length_map, List.take_length]
    exact hd
def upI (lo : Int) (n : Nat) : List Int := (List.range n).map fun (k : Nat) => lo + (k : Int)
theorem upI_succ (lo : Int) (n : Nat) : upI lo (n + 1) = upI lo n ++ [lo + (n : Int)] := by
  unfold upI
  rw [List.range_succ, List.map_append]
  rfl
theorem upI_length (lo : Int) (n : Nat) : (upI lo n).length = n := by unfold upI; rw [List.length_map, List.length_range]
theorem mem_upI {lo : Int} {n : Nat} {x : Int} : x ∈ upI lo n ↔ lo ≤ x ∧ x < lo + n := by
  unfold upI
  rw [List.mem_map]
  constructor
  · rintro ⟨k, hk, rfl⟩
    have := List.mem_range.mp hk
    omega
  · rintro ⟨h1, h2⟩
    exact ⟨(x - lo).toNat, List.mem_range.mpr (by omega), by omega⟩
theorem comp_up {lo : Int} {n : Nat} {g : TG} {tc : TT} {te : TE} {σ0 : St} {H1 : Hp} {F : List V → Hp → Prop} (p : Int → Bool) (f : Int → V) (hz : n ≤ 1000)
    (hs : ∀ k ys N, lo ≤ k → k < lo + n → N (if p k = true then ys ++ [f k] else ys) H1 → compTurnT g tc te σ0 (.int k) H1 ys N) (hd : F (keptV p f (upI lo n)) H1) : CompW (Itr lo n) g tc te σ0 H1 F := by
  refine comp_range (fun i ys H => H = H1 ∧ ys = keptV p f (upI lo i)) ⟨rfl, rfl⟩ (fun i ys H hi hp => ?_) (fun i ys H hx hp => ?_) (fun ys H hp => ?_)
  · obtain ⟨rfl, rfl⟩ := hp
    have h1 := keptV_le p f (upI lo i)
    rw [upI_length] at h1
    exact small1000 (by omega)
  · obtain ⟨rfl, rfl⟩ := hp
    refine hs _ _ _ (by omega) (by omega) ⟨rfl, ?_⟩
    rw [upI_succ, keptV_snoc]
  · obtain ⟨rfl, rfl⟩ := hp
    exact hd

section
variable {X : Cx}
theorem call_isinst : CallR X (.builtin "isinstance") (fun xs H Q => ∃ x T t b, xs = [x, .ty T] ∧ TyOf X.K H x t ∧ PySem.W.kitOne X.K t (.type T) = some b ∧ Q (.bl b) H) := by
  intro pins s σ H xs us Q I r h
  obtain ⟨x, T, t, b, rfl, ty, e, q⟩ := h
  obtain ⟨u, w', rfl, rx, ry⟩ := vals2 r
  cases (show w' = Value.type T from ry)
  exact isinst_ok I rx ty e fun tk => ⟨.bl b, H, I.tok _, rfl, q⟩

end
end L2

set_option Elab.async false
set_option linter.all false
set_option maxRecDepth 100000
set_option maxHeartbeats 4000000
namespace L2
open PySem PySem.Spec PyProof.Rows
def capChk (N : List Str) (kind : Str → Option NameKind) (rl : List (Str × NameKind)) : List Str → List Nat → Bool
  | x :: xs, i :: is => decide (N[i]? = some x) && (decide (kind x = some .cell) || decide (kind x = some .free)) && (decide (rl.lookup x = some .cell) || decide (rl.lookup x = some .free)) && capChk N kind rl xs is
  | _, _ => true
theorem cap_of {N : List Str} {kind : Str → Option NameKind} {rl : List (Str × NameKind)} : ∀ {caps : List Str} {ix : List Nat}, capChk N kind rl caps ix = true → ∀ (j i : Nat) (x : Str), caps[j]? = some x → ix[j]? = some i →
    N[i]? = some x ∧ (kind x = some .cell ∨ kind x = some .free) ∧ (rl.lookup x = some .cell ∨ rl.lookup x = some .free)
  | [], _, _, j, i, x, e, _ => by simp at e
  | _ :: _, [], _, j, i, x, _, e => by simp at e
  | y :: ys, k :: ks, h, j, i, x, e1, e2 => by
    unfold capChk at h
    rw [Bool.and_eq_true, Bool.and_eq_true, Bool.and_eq_true, Bool.or_eq_true, Bool.or_eq_true] at h
    obtain ⟨⟨⟨h1, h2⟩, h3⟩, h4⟩ := h
    cases j with
    | zero =>
      simp at e1 e2
      subst e1 e2
      exact ⟨of_decide_eq_true h1, h2.imp of_decide_eq_true of_decide_eq_true, h3.imp of_decide_eq_true of_decide_eq_true⟩
    | succ j => exact cap_of h4 j i x (by simpa using e1) (by simpa using e2)
theorem comp_scope {X : Cx} {scope : Scope} {cl : List (Str × Addr)} {own caps : List Str} {ix : List Nat} (clos : captL X.env.cells scope.names [] = some cl) (cell : ∀ y ∈ scope.names, y.2 ≠ .cell) (kind : scope.kind = .function)
    (names : ∀ y ∈ scope.names, y.2 = .local → scope.names.lookup y.1 = some .local) (n : caps.length = ix.length) (cap : capChk X.N X.env.kindOf (relabel scope X.env).names caps ix = true) : CompScope X scope cl own caps ix :=
  ⟨clos, cell, kind, names, n, fun j i x e1 e2 => by
    obtain ⟨a, b, c⟩ := cap_of cap j i x e1 e2
    refine ⟨a, fun z => ?_, b.elim (fun q => .inr (.inl q)) (fun q => .inr (.inr q)), c⟩
    rcases b with b | b <;> (rw [b] at z; cases z)⟩

theorem pg_tupK {X : Cx} {K : PySem.W.Frag} {es : List Expr} {k : Nat} {t : TGs} {n : Nat} {pos : Pos} (hK : X.K = K) (hc : X.calm = true) (h : PGs X es t)
    (hn : (assignEach es X.env).length = n := by rfl) (hst : (assignEach es X.env).findIdx? (·.1) = none := by rfl) : PG X (.Tuple es k pos) (gTup K n t) := by
  subst hK
  exact pg_tup hc h hn hst

structure Cal (P : Program) (w : World) (K : PySem.W.Frag) (mg : Str → Option Value) (base : Heap) (k : Nat) (x : Str) (ps : List Str) (sp : Sp) : Prop where
  ex : ∃ (f : Addr) (fd : FuncData), FnOk P w K mg base CX0 k f fd ps sp ∧ Binds K fd ps [] ∧ PySem.W.keepIn K (.ref f) = true ∧ mg x = some (.ref f)
theorem Cal.mk' {P : Program} {w : World} {K : PySem.W.Frag} {mg : Str → Option Value} {base : Heap} {k : Nat} {x : Str} {ps : List Str} {sp : Sp} {f : Addr} {fd : FuncData} (a : FnOk P w K mg base CX0 k f fd ps sp) (b : Binds K fd ps []) (c : PySem.W.keepIn K (.ref f) = true) (d : mg x = some (.ref f)) :
    Cal P w K mg base k x ps sp := ⟨⟨f, fd, a, b, c, d⟩⟩
theorem pe_cal {X : Cx} {k : Nat} {x : Str} {ps : List Str} {sp : Sp} {e : Expr} {es : List Expr} {t : TA} {p pos : Pos} (G : Cal X.prog X.w X.K X.mg X.base k x ps sp) (hr : Room k X.A) (hg : Gl X x) (ha : PA X (e :: es) t)
    (hdb : (x == ("__debug__" : Str)) = false := by decide) (he : starEach (e :: es) X.env = (false, eval e X.env) :: starEach es X.env := by rfl) (hpl : (backTo pos (starEach es X.env)).any (·.1) = false := by rfl) :
    PE X (.Call (.Name x p) (e :: es) [] pos) (tCall sp [] E0 t) := by
  obtain ⟨f, fd, a, b, c, d⟩ := G.ex
  exact pe_call a hr hg d c b .nil pass0 ha hdb he hpl
end L2

set_option Elab.async false
set_option linter.all false
set_option maxRecDepth 100000
set_option maxHeartbeats 4000000
namespace L2
open PySem PySem.Spec PyProof.Rows
def cutS (z : Str) (lo hi : Option Int) : Str := ⟨((z.cps.toList.drop (HT.sIx z.length 0 lo)).take (HT.sIx z.length z.length hi - HT.sIx z.length 0 lo)).toArray⟩
theorem str_ext {x y : Str} (h : x.cps.toList = y.cps.toList) : x = y := by
  obtain ⟨a⟩ := x
  obtain ⟨b⟩ := y
  exact congrArg Str.mk (Array.toList_inj.mp h)
theorem str_len (z : Str) : z.cps.toList.length = z.length := by simp [Str.length]
theorem indices_cut (lo hi : Option Int) (n : Nat) : Builtin.Str.strSliceIndices lo hi 1 n = (List.range (HT.sIx n n hi - HT.sIx n 0 lo)).map (fun k => HT.sIx n 0 lo + k) := by
  obtain ⟨h1, h2, h3⟩ := slice_bounds lo hi n
  have e : Builtin.Str.strSliceIndices lo hi 1 n = sliceRange (sliceBounds lo hi none n).1 (sliceBounds lo hi none n).2.1 1 := by
    unfold Builtin.Str.strSliceIndices sliceBounds
    cases lo <;> cases hi <;> rfl
  rw [e, h1, h2, sliceRange_one]
theorem cut_made {z : Str} {t : Tok} {l u : Option (Int × Tok)} {Q : Value → Shared → Prop} {s : Shared} (hz : z.length ≤ sizeLine) (h : ∀ t' tk, Q (.str (cutS z (l.map (·.1)) (u.map (·.1))) t') { s with toks := tk }) : (sliceMade z t l u none).post Q s := by
  have picked : slicePicked z l u none = (List.range (HT.sIx z.length z.length (u.map (·.1)) - HT.sIx z.length 0 (l.map (·.1)))).map (fun k => HT.sIx z.length 0 (l.map (·.1)) + k) := indices_cut _ _ _
  have items : (slicePicked z l u none).filterMap (z.cps[·]?) = (cutS z (l.map (·.1)) (u.map (·.1))).cps.toList := by
    rw [picked, pick_run]
    rfl
  have lh := HT.sIx_le z.length z.length (Nat.le_refl _) (u.map (·.1))
  unfold sliceMade
  by_cases c : (((none : Option (Int × Tok)).map (·.1)).getD 1 == 1 && (slicePicked z l u none).length == z.length) = true
  · rw [if_pos c]
    rw [Bool.and_eq_true] at c
    have c2 : (slicePicked z l u none).length = z.length := eq_of_beq c.2
    rw [picked, List.length_map, List.length_range] at c2
    have e : cutS z (l.map (·.1)) (u.map (·.1)) = z := by
      apply str_ext
      show (z.cps.toList.drop _).take _ = _
      by_cases hz0 : z.length = 0
      · have : z.cps.toList = [] := List.eq_nil_of_length_eq_zero (by rw [str_len]; exact hz0)
        rw [this]
        simp
      · have e1 : HT.sIx z.length 0 (l.map (·.1)) = 0 := by omega
        rw [e1, List.drop_zero, List.take_of_length_le]
        rw [str_len]
        omega
    have := h t s.toks
    rw [e] at this
    exact this
  · rw [if_neg c, items]
    refine ⟨?_, ?_⟩
    · show (((cutS z (l.map (·.1)) (u.map (·.1))).cps.toList.toArray).size) ≤ sizeLine
      rw [List.size_toArray]
      show ((z.cps.toList.drop _).take _).length ≤ _
      rw [List.length_take, List.length_drop, str_len]
      omega
    · have := h s.toks (s.toks + 1)
      have e : (⟨(cutS z (l.map (·.1)) (u.map (·.1))).cps.toList.toArray⟩ : Str) = cutS z (l.map (·.1)) (u.map (·.1)) := str_ext (by simp)
      rw [e]
      exact this
section
variable {X : Cx}
theorem isPart_value {v : Value} {o : Option Int} (h : IsPart v o) : ∃ p : Option (Int × Tok), v = partValue p ∧ p.map (·.1) = o := by
  cases h with
  | none => exact ⟨none, rfl, rfl⟩
  | int i t => exact ⟨some (i, t), rfl, rfl⟩
def rSlS : V → Option Int → Option Int → Hp → VK → Prop := fun x lo hi H Q => ∃ z, x = .str z ∧ z.length ≤ sizeLine ∧ Q (.str (cutS z lo hi)) H
theorem sl_str : SlR X rSlS := by
  intro pins s σ H x v vl vu lo hi sl Q I rx hs pl pu h
  obtain ⟨z, rfl, hz, q⟩ := h
  obtain ⟨t, rfl⟩ := rx
  obtain ⟨l, rfl, rfl⟩ := isPart_value pl
  obtain ⟨u, rfl, rfl⟩ := isPart_value pu
  refine ⟨"str", _, slot_str_getitem.lookup, typeIs_str s z t, ?_⟩
  obtain ⟨o, ho, hc, hd⟩ := hs
  refine wpAny_getItem_str_slice (l := l) (u := u) (st := none) ⟨o, ho, hc, hd⟩ rfl (cut_made hz fun t' tk => ?_)
  exact ⟨.str _, H, I.tok _, ⟨_, rfl⟩, q⟩
def repS (z : Str) (n : Nat) : Str := ⟨(List.replicate n z.cps.toList).flatten.toArray⟩
theorem fold_rep (z : Array Nat) : ∀ (n : Nat) (acc : Array Nat), (List.foldl (fun a b => a ++ b) acc (List.replicate n z)).toList = acc.toList ++ (List.replicate n z.toList).flatten
  | 0, acc => by simp
  | n + 1, acc => by
    rw [List.replicate_succ, List.foldl_cons, fold_rep z n]
    simp [List.replicate_succ]
theorem op_mul_str : OpR X (binaryOp .Mult) (fun x y H Q => ∃ z n, x = .str z ∧ y = .int n ∧ 1 ≤ n ∧ n ≤ 1000 ∧ z.length ≤ 1000 ∧ Q (.str (repS z n.toNat)) H) := by
  intro pins s σ H x y v u Q I rx ry h
  obtain ⟨z, n, rfl, rfl, h1, h2, hz, q⟩ := h
  obtain ⟨t, rfl⟩ := rx
  obtain ⟨t', rfl⟩ := ry
  have hs : sizeLine = 16777216 := sizeLine_eq
  have hm : z.length * n.toNat ≤ 1000 * 1000 := Nat.mul_le_mul hz (by omega)
  have fin : ∀ t' tk, EP X pins σ Q (.str (repS z n.toNat) t') { s with toks := tk } := fun t' tk => ⟨.str _, H, I.tok _, ⟨_, rfl⟩, q⟩
  refine PySem.P.mul_str ?_ (fun _ _ => ?_) (fun _ _ => ?_) ?_
  · rw [decide_eq_false (show ¬ n < -(2 ^ 63 : Int) by omega), decide_eq_false (show ¬ n ≥ 2 ^ 63 by omega)]
    rfl
  · have : (1000 : Int) ≤ (2 ^ 63 - 1) / n := by
      apply Int.le_ediv_of_mul_le (by omega)
      have : 1000 * n ≤ 1000 * 1000 := Int.mul_le_mul_of_nonneg_left h2 (by decide)
      omega
    omega
  · unfold Builtin.Str.tooLong
    exact decide_eq_false (by omega)
  · rw [if_neg (by omega)]
    by_cases c : (n == 1 || z.length == 0) = true
    · rw [if_pos c]
      have e : repS z n.toNat = z := by
        apply str_ext
        show ((List.replicate n.toNat z.cps.toList).flatten.toArray).toList = _
        rw [Bool.or_eq_true] at c
        rcases c with c | c
        · have : n = 1 := eq_of_beq c
          subst this
          simp
        · have : z.length = 0 := eq_of_beq c
          have : z.cps.toList = [] := List.eq_nil_of_length_eq_zero (by rw [str_len]; exact this)
          rw [this]
          simp
      have := fin t s.toks
      rw [e] at this
      exact this
    · rw [if_neg c]
      have e : (⟨(List.replicate n.toNat z.cps).foldl (· ++ ·) #[]⟩ : Str) = repS z n.toNat := by
        apply str_ext
        show (List.foldl (fun a b => a ++ b) #[] (List.replicate n.toNat z.cps)).toList = ((List.replicate n.toNat z.cps.toList).flatten.toArray).toList
        rw [fold_rep]
        simp
      refine ⟨?_, ?_⟩
      · rw [e, ← str_len]
        show ((List.replicate n.toNat z.cps.toList).flatten.toArray).toList.length ≤ sizeLine
        have : ((List.replicate n.toNat z.cps.toList).flatten.toArray).toList.length = n.toNat * z.length := by
          simp [List.length_flatten, List.map_replicate, str_len]
          rfl
        rw [this, Nat.mul_comm]
        omega
      · rw [e]
        exact fin _ _
end
end L2

set_option Elab.async false
set_option linter.all false
set_option maxRecDepth 100000
set_option maxHeartbeats 4000000
namespace L2
open PySem
inductive DV where
  | non | bl (b : Bool) | int (i : Int) | str (x : Str) | tup (l : List DV)
mutual
def Tell (H : Hp) : DV → V → Prop
  | .non, x => x = .non
  | .bl b, x => x = .bl b
  | .int i, x => x = .int i
  | .str s, x => x = .str s
  | .tup ds, x => ∃ a xs, x = .ref a ∧ H a = some (.tup xs) ∧ xs.length ≤ 1000000 ∧ Tells H ds xs
def Tells (H : Hp) : List DV → List V → Prop
  | [], xs => xs = []
  | d :: ds, xs => ∃ x r, xs = x :: r ∧ Tell H d x ∧ Tells H ds r
end
mutual
theorem Tell.keep {H H' : Hp} (s : Same H H') : ∀ (d : DV) (x : V), Tell H d x → Tell H' d x
  | .non, _, h => h
  | .bl _, _, h => h
  | .int _, _, h => h
  | .str _, _, h => h
  | .tup ds, _, h => by
    unfold Tell at h ⊢
    obtain ⟨a, xs, e, h1, h2, h3⟩ := h
    exact ⟨a, xs, e, s _ _ h1, h2, Tells.keep s ds xs h3⟩
theorem Tells.keep {H H' : Hp} (s : Same H H') : ∀ (ds : List DV) (xs : List V), Tells H ds xs → Tells H' ds xs
  | [], _, h => h
  | d :: ds, _, h => by
    unfold Tells at h ⊢
    obtain ⟨x, r, e, h1, h2⟩ := h
    exact ⟨x, r, e, Tell.keep s d x h1, Tells.keep s ds r h2⟩
end
mutual
theorem Tell.over {H : Hp} {l : Addr} {o o' : HO} (hl : H l = some o) (hn : ∀ xs, o ≠ .tup xs) : ∀ (d : DV) (x : V), Tell H d x → Tell (upd H l o') d x
  | .non, _, h => h
  | .bl _, _, h => h
  | .int _, _, h => h
  | .str _, _, h => h
  | .tup ds, _, h => by
    unfold Tell at h ⊢
    obtain ⟨a, xs, e, h1, h2, h3⟩ := h
    exact ⟨a, xs, e, by rw [upd_ne (ne_of h1 hl (fun z => hn xs z.symm))]; exact h1, h2, Tells.over hl hn ds xs h3⟩
theorem Tells.over {H : Hp} {l : Addr} {o o' : HO} (hl : H l = some o) (hn : ∀ xs, o ≠ .tup xs) : ∀ (ds : List DV) (xs : List V), Tells H ds xs → Tells (upd H l o') ds xs
  | [], _, h => h
  | d :: ds, _, h => by
    unfold Tells at h ⊢
    obtain ⟨x, r, e, h1, h2⟩ := h
    exact ⟨x, r, e, Tell.over hl hn d x h1, Tells.over hl hn ds r h2⟩
end
theorem Tells.length {H : Hp} : ∀ {ds : List DV} {xs : List V}, Tells H ds xs → xs.length = ds.length
  | [], _, h => by unfold Tells at h; rw [h]; rfl
  | d :: ds, _, h => by
    unfold Tells at h
    obtain ⟨x, r, rfl, _, h2⟩ := h
    rw [List.length_cons, List.length_cons, Tells.length h2]
theorem Tells.get {H : Hp} : ∀ {ds : List DV} {xs : List V}, Tells H ds xs → ∀ (i : Nat) (d : DV), ds[i]? = some d → ∃ x, xs[i]? = some x ∧ Tell H d x
  | [], _, _, i, d, e => by simp at e
  | d0 :: ds, _, h, 0, d, e => by
    unfold Tells at h
    obtain ⟨x, r, rfl, h1, _⟩ := h
    simp at e
    subst e
    exact ⟨x, rfl, h1⟩
  | d0 :: ds, _, h, i + 1, d, e => by
    unfold Tells at h
    obtain ⟨x, r, rfl, _, h2⟩ := h
    obtain ⟨y, e1, e2⟩ := Tells.get h2 i d (by simpa using e)
    exact ⟨y, by simpa using e1, e2⟩
theorem Tells.at {H : Hp} : ∀ {ds : List DV} {xs : List V}, Tells H ds xs → ∀ (i : Nat) (x : V), xs[i]? = some x → ∃ d, ds[i]? = some d ∧ Tell H d x
  | [], _, h, i, x, e => by
    unfold Tells at h
    subst h
    simp at e
  | d0 :: ds, _, h, 0, x, e => by
    unfold Tells at h
    obtain ⟨x0, r, rfl, h1, _⟩ := h
    simp at e
    subst e
    exact ⟨d0, rfl, h1⟩
  | d0 :: ds, _, h, i + 1, x, e => by
    unfold Tells at h
    obtain ⟨x0, r, rfl, _, h2⟩ := h
    obtain ⟨y, e1, e2⟩ := Tells.at h2 i x (by simpa using e)
    exact ⟨y, by simpa using e1, e2⟩
theorem Tells.nil {H : Hp} : Tells H [] [] := by unfold Tells; rfl
theorem Tells.cons {H : Hp} {d : DV} {ds : List DV} {x : V} {xs : List V} (h : Tell H d x) (t : Tells H ds xs) : Tells H (d :: ds) (x :: xs) := by unfold Tells; exact ⟨x, xs, rfl, h, t⟩
theorem Tells.snoc {H : Hp} : ∀ {ds : List DV} {xs : List V} {d : DV} {x : V}, Tells H ds xs → Tell H d x → Tells H (ds ++ [d]) (xs ++ [x])
  | [], _, _, _, h, q => by
    unfold Tells at h
    subst h
    exact Tells.cons q .nil
  | d0 :: ds, _, _, _, h, q => by
    unfold Tells at h
    obtain ⟨x0, r, rfl, h1, h2⟩ := h
    exact Tells.cons h1 (Tells.snoc h2 q)
theorem tell_int {H : Hp} (i : Int) : Tell H (.int i) (.int i) := by unfold Tell; rfl
theorem tell_str {H : Hp} (x : Str) : Tell H (.str x) (.str x) := by unfold Tell; rfl
theorem tell_non {H : Hp} : Tell H .non .non := by unfold Tell; rfl
theorem tell_tup {H : Hp} {a : Addr} {xs : List V} {ds : List DV} (h : H a = some (.tup xs)) (hl : ds.length ≤ 1000000) (t : Tells H ds xs) : Tell H (.tup ds) (.ref a) := by
  unfold Tell
  exact ⟨a, xs, rfl, h, by rw [t.length]; exact hl, t⟩
theorem tells_strs {H : Hp} : ∀ (l : List Str), Tells H (l.map DV.str) (l.map V.str)
  | [] => .nil
  | i :: r => .cons (tell_str i) (tells_strs r)
theorem tells_strs_inv {H : Hp} : ∀ {l : List Str} {xs : List V}, Tells H (l.map DV.str) xs → xs = l.map V.str
  | [], _, h => by unfold Tells at h; exact h
  | i :: r, _, h => by
    rw [List.map_cons] at h
    unfold Tells at h
    obtain ⟨x, t, rfl, h1, h2⟩ := h
    unfold Tell at h1
    rw [h1, tells_strs_inv h2]
    rfl
theorem tell_tup_inv {H : Hp} {ds : List DV} {x : V} (h : Tell H (.tup ds) x) : ∃ a xs, x = .ref a ∧ H a = some (.tup xs) ∧ xs.length ≤ 1000000 ∧ Tells H ds xs := by
  unfold Tell at h
  exact h
theorem tell_int_inv {H : Hp} {i : Int} {x : V} (h : Tell H (.int i) x) : x = .int i := by unfold Tell at h; exact h
theorem tell_str_inv {H : Hp} {i : Str} {x : V} (h : Tell H (.str i) x) : x = .str i := by unfold Tell at h; exact h
theorem tells_cons_inv {H : Hp} {d : DV} {ds : List DV} {xs : List V} (h : Tells H (d :: ds) xs) : ∃ x r, xs = x :: r ∧ Tell H d x ∧ Tells H ds r := by
  unfold Tells at h
  exact h
theorem tells_nil_inv {H : Hp} {xs : List V} (h : Tells H [] xs) : xs = [] := by unfold Tells at h; exact h
mutual
def DV.deep : DV → Nat
  | .tup ds => DV.deeps ds + 1
  | _ => 0
def DV.deeps : List DV → Nat
  | [] => 0
  | d :: ds => max d.deep (DV.deeps ds)
end
def scalV : V → Bool
  | .non => true
  | .bl _ => true
  | .int _ => true
  | .str _ => true
  | _ => false
def Alike (H : Hp) : Nat → V → V → Prop
  | 0, x, y => x = y ∧ scalV x = true
  | n + 1, x, y => (x = y ∧ scalV x = true) ∨ ∃ (a b : Addr) (xs ys : List V), x = .ref a ∧ y = .ref b ∧ H a = some (.tup xs) ∧ H b = some (.tup ys) ∧ xs.length = ys.length ∧ ys.length ≤ 1000000 ∧
      ∀ (i : Nat) (u v : V), xs[i]? = some u → ys[i]? = some v → Alike H n u v
theorem Alike.keep {H H' : Hp} (s : Same H H') : ∀ {n : Nat} {x y : V}, Alike H n x y → Alike H' n x y
  | 0, _, _, h => h
  | n + 1, x, y, h => by
    rcases h with h | ⟨a, b, xs, ys, e1, e2, h1, h2, hl, hm, h⟩
    · exact .inl h
    · exact .inr ⟨a, b, xs, ys, e1, e2, s _ _ h1, s _ _ h2, hl, hm, fun i u v hu hv => Alike.keep s (h i u v hu hv)⟩
theorem Alike.up {H : Hp} : ∀ {n : Nat} {x y : V}, Alike H n x y → Alike H (n + 1) x y
  | 0, _, _, h => .inl h
  | n + 1, x, y, h => by
    rcases h with h | ⟨a, b, xs, ys, e1, e2, h1, h2, hl, hm, h⟩
    · exact .inl h
    · exact .inr ⟨a, b, xs, ys, e1, e2, h1, h2, hl, hm, fun i u v hu hv => Alike.up (h i u v hu hv)⟩
theorem alike_tup {H : Hp} {a b : Addr} {xs : List V} (ha : H a = some (.tup xs)) (hb : H b = some (.tup xs)) (hs : ∀ x ∈ xs, scalV x = true) (hl : xs.length ≤ 1000000) : Alike H 1 (.ref a) (.ref b) :=
  .inr ⟨a, b, xs, xs, rfl, rfl, ha, hb, rfl, hl, fun i u v hu hv => by
    rw [hu] at hv
    cases hv
    exact ⟨rfl, hs u (List.mem_of_getElem? hu)⟩⟩
theorem Alike.mono {H : Hp} {x y : V} {n m : Nat} (h : Alike H n x y) (hm : n ≤ m) : Alike H m x y := by
  induction hm with
  | refl => exact h
  | step _ ih => exact ih.up
mutual
theorem alike_tell {H : Hp} : ∀ (d : DV) (x y : V), Tell H d x → Tell H d y → Alike H d.deep x y
  | .non, x, y, h1, h2 => by
    unfold Tell at h1 h2
    subst h1 h2
    exact ⟨rfl, rfl⟩
  | .bl _, x, y, h1, h2 => by
    unfold Tell at h1 h2
    subst h1 h2
    exact ⟨rfl, rfl⟩
  | .int _, x, y, h1, h2 => by
    unfold Tell at h1 h2
    subst h1 h2
    exact ⟨rfl, rfl⟩
  | .str _, x, y, h1, h2 => by
    unfold Tell at h1 h2
    subst h1 h2
    exact ⟨rfl, rfl⟩
  | .tup ds, x, y, h1, h2 => by
    unfold Tell at h1 h2
    obtain ⟨a, xs, rfl, a1, a2, a3⟩ := h1
    obtain ⟨b, ys, rfl, b1, b2, b3⟩ := h2
    unfold DV.deep
    exact .inr ⟨a, b, xs, ys, rfl, rfl, a1, b1, by rw [a3.length, b3.length], b2, alike_tells ds xs ys a3 b3⟩
theorem alike_tells {H : Hp} : ∀ (ds : List DV) (xs ys : List V), Tells H ds xs → Tells H ds ys → ∀ (i : Nat) (u v : V), xs[i]? = some u → ys[i]? = some v → Alike H (DV.deeps ds) u v
  | [], xs, ys, h1, h2, i, u, v, e1, e2 => by
    unfold Tells at h1
    subst h1
    simp at e1
  | d :: ds, xs, ys, h1, h2, 0, u, v, e1, e2 => by
    unfold Tells at h1 h2
    obtain ⟨x, r, rfl, a1, a2⟩ := h1
    obtain ⟨y, t, rfl, b1, b2⟩ := h2
    simp at e1 e2
    subst e1 e2
    unfold DV.deeps
    exact (alike_tell d x y a1 b1).mono (Nat.le_max_left _ _)
  | d :: ds, xs, ys, h1, h2, i + 1, u, v, e1, e2 => by
    unfold Tells at h1 h2
    obtain ⟨x, r, rfl, a1, a2⟩ := h1
    obtain ⟨y, t, rfl, b1, b2⟩ := h2
    unfold DV.deeps
    exact (alike_tells ds r t a2 b2 i u v (by simpa using e1) (by simpa using e2)).mono (Nat.le_max_right _ _)
end
end L2

set_option Elab.async false
set_option linter.all false
set_option maxRecDepth 100000
set_option maxHeartbeats 4000000
namespace L2
open PySem PySem.Spec PyProof.Rows
section
variable {κ : Type} [DecidableEq κ]
def metL (ks : List κ) : List κ := ks.foldl (fun acc k => if k ∈ acc then acc else acc ++ [k]) []
theorem metL_snoc (ks : List κ) (k : κ) : metL (ks ++ [k]) = if k ∈ metL ks then metL ks else metL ks ++ [k] := by
  unfold metL
  rw [List.foldl_append]
  rfl
theorem metL_take {ks : List κ} {i : Nat} {k : κ} (h : ks[i]? = some k) : metL (ks.take (i + 1)) = if k ∈ metL (ks.take i) then metL (ks.take i) else metL (ks.take i) ++ [k] := by
  have e : ks.take (i + 1) = ks.take i ++ [k] := by rw [List.take_add_one, h] <;> rfl
  rw [e, metL_snoc]
theorem mem_foldMet (k : κ) : ∀ (ks acc : List κ), k ∈ ks.foldl (fun acc k => if k ∈ acc then acc else acc ++ [k]) acc ↔ k ∈ acc ∨ k ∈ ks
  | [], acc => by simp
  | x :: r, acc => by
    rw [List.foldl_cons, mem_foldMet k r]
    by_cases h : x ∈ acc
    · rw [if_pos h, List.mem_cons]
      constructor
      · rintro (a | a)
        · exact .inl a
        · exact .inr (.inr a)
      · rintro (a | rfl | a)
        · exact .inl a
        · exact .inl h
        · exact .inr a
    · rw [if_neg h, List.mem_append, List.mem_singleton, List.mem_cons, or_assoc]
theorem mem_metL {k : κ} {ks : List κ} : k ∈ metL ks ↔ k ∈ ks := by unfold metL; rw [mem_foldMet]; simp
theorem len_foldMet : ∀ (ks acc : List κ), (ks.foldl (fun acc k => if k ∈ acc then acc else acc ++ [k]) acc).length ≤ acc.length + ks.length
  | [], acc => by simp
  | x :: r, acc => by
    rw [List.foldl_cons]
    refine Nat.le_trans (len_foldMet r _) ?_
    by_cases h : x ∈ acc
    · rw [if_pos h, List.length_cons]; omega
    · rw [if_neg h, List.length_append, List.length_cons, List.length_cons, List.length_nil]; omega
theorem len_metL (ks : List κ) : (metL ks).length ≤ ks.length := by
  have := len_foldMet ks []
  simpa [metL] using this
theorem foldMet_nd : ∀ (ks acc : List κ), (acc ++ ks).Nodup → ks.foldl (fun acc k => if k ∈ acc then acc else acc ++ [k]) acc = acc ++ ks
  | [], acc, _ => by simp
  | x :: r, acc, h => by
    have hx : x ∉ acc := fun hx => by
      rw [List.nodup_append] at h
      exact h.2.2 x hx x (List.mem_cons_self) rfl
    rw [List.foldl_cons, if_neg hx, foldMet_nd r (acc ++ [x]) (by rw [List.append_assoc]; exact h), List.append_assoc]
    rfl
theorem metL_nd {ks : List κ} (h : ks.Nodup) : metL ks = ks := by
  have := foldMet_nd ks [] (by simpa using h)
  simpa [metL] using this
end

section
variable {prog : Program} {w : World} {A : Around} {κ : Type} [DecidableEq κ] {kd : KeyKind prog w κ} {I : Addr} {fp wr : List Addr} {G : Array GenState → Array GenState → Prop} {n : Nat} {P : Nat → Value → Prop} {St : Nat → Shared → Prop}
abbrev SetTo (kd : KeyKind prog w κ) (h : Heap) (a : Addr) (ks : List κ) : Prop := h.SetOf kd a (fun k => decide (k ∈ ks)) (metL ks).length
theorem SetTo.at {h h' : Heap} {a : Addr} {ks : List κ} (x : SetTo kd h a ks) (e : ∀ o, h.get? a = some o → h'.get? a = some o) : SetTo kd h' a ks := by
  obtain ⟨o, es, ep, t, ho, r⟩ := x
  exact ⟨o, es, ep, t, e o ho, r⟩
theorem set_fill {R : Result → Shared → Prop} (W : WalksS prog w A.in1 I fp wr G n P St) {a : Addr} (out : a ∉ fp) {ks : List κ} (lk : ks.length = n)
    (vals : ∀ i v, P i v → ∃ k, ks[i]? = some k ∧ kd.is k v = true ∧ v.scannable = true) (few : n + 1 < scanBound) :
    ∀ (todo i : Nat) (s : Shared), i + todo = n → St i s → SetTo kd s.heap a (ks.take i) →
      (∀ s', Moved (a :: wr) G s s' → SetTo kd s'.heap a ks → R (.ok (.ret .none)) s') → codeAny (model prog w) A (.builtin "set.update.loop" ⟨[.ref a, .ref I], []⟩) R s
  | 0, i, s, ei, st, sx, fin => by
    have e : ks.take i = ks := List.take_of_length_le (by omega)
    rw [e] at sx
    have ei' : i = n := by omega
    subst ei'
    refine codeAny_builtin F.entry_set_update_loop ?_
    rw [Around.under_plainId F.plain_set_update_loop _]
    refine wpAny_bind (W.done s _ _ st fun s' mv => wpAny_pure (fin s' (mv.mono fun b hb => .tail _ hb) (sx.at fun o => mv.heap a o fun q => out (W.sub _ q))))
  | todo + 1, i, s, ei, st, sx, fin => by
    refine codeAny_builtin F.entry_set_update_loop ?_
    rw [Around.under_plainId F.plain_set_update_loop _]
    refine wpAny_bind (W.item i s _ _ (by omega) st fun v s1 hv st1 mv => ?_)
    obtain ⟨k, ek, iv, sc⟩ := vals i v hv
    have sx1 := sx.at (h' := s1.heap) fun o => mv.heap a o fun q => out (W.sub _ q)
    refine wpAny_bind (wpAny_holding (m := setAdd a v) ?_)
    unfold setAdd
    refine wpAny_holding (wpAny_bind (kd.pyHash iv ?_))
    have lm := len_metL (ks.take i)
    rw [List.length_take] at lm
    refine wpAny_setAddHashed_of (s := { s1 with toks := s1.toks + 1 }) iv sc sx1 (by omega) fun h2 sb sx2 => ?_
    have sx3 : SetTo kd h2 a (ks.take (i + 1)) := by
      have e1 : (fun k' => decide (k' ∈ ks.take i) || decide (k' = k)) = fun k' => decide (k' ∈ ks.take (i + 1)) := by
        funext k'
        rw [List.take_add_one, ek]
        simp [Bool.decide_or]
      have e2 : (if decide (k ∈ ks.take i) = true then (metL (ks.take i)).length else (metL (ks.take i)).length + 1) = (metL (ks.take (i + 1))).length := by
        rw [metL_take ek]
        by_cases hk : k ∈ ks.take i
        · rw [if_pos (decide_eq_true hk), if_pos (mem_metL.mpr hk)]
        · rw [if_neg (by simpa using hk), if_neg (fun q => hk (mem_metL.mp q)), List.length_append]
          rfl
      rw [e1, e2] at sx2
      exact sx2
    have far : ∀ b, b ≠ a → h2.get? b = s1.heap.get? b := fun b hb => sb.2 b hb
    refine wpAny_pure ⟨plainId_quiet F.plain_set_update_loop _, set_fill W out lk vals few todo (i + 1) _ (by omega) (W.frame _ s1 _ _ st1 (Nat.le_succ _) fun b hb o q => ?_) sx3 fun s3 mv3 sx4 => ?_⟩
    · rw [far b fun z => out (z ▸ hb)]; exact q
    · refine fin s3 (.trans W.gtrans ((mv.mono fun b hb => .tail _ hb).then_heap (Nat.le_succ _) fun b o hb q => ?_) mv3) sx4
      rw [far b fun z => hb (z ▸ .head _)]; exact q
end

namespace Ty
theorem tuple_set : isSubtype (.type "tuple") (.type "set") = pure false := by rw [isSubtype_type]; kernel_rfl
theorem tuple_frozenset : isSubtype (.type "tuple") (.type "frozenset") = pure false := by rw [isSubtype_type]; kernel_rfl
end Ty
abbrev set0 (led : Bool) : Obj := { cls := .type "set", dict := none, data := .set #[] 0 (.fresh 0 0 led) }
section
variable {prog : Program} {w : World} {A : Around} {E : Value → Shared → Prop} {s : Shared} {κ : Type} [DecidableEq κ] {kd : KeyKind prog w κ}
theorem set_from {T : String} {p : Addr} {o : Obj} {its : Array Value} {c0 : Nat} {ks : List κ} {Q : Value → Shared → Prop} (hh : A.handled = none) (hp : s.heap.get? p = some o) (hc : o.cls = .type T) (hd : o.data = .seq its c0) (hT : T = "list" ∨ T = "tuple")
    (lk : ks.length = its.size) (vals : ∀ (i : Nat) v, its[i]? = some v → ∃ k, ks[i]? = some k ∧ kd.is k v = true ∧ v.scannable = true) (few : its.size + 1 < scanBound)
    (fin : ∀ (h' : Heap) (t : Nat), SetTo kd h' s.heap.objs.size ks → (∀ b u, b < s.heap.objs.size → s.heap.get? b = some u → h'.get? b = some u) → Q (.ref s.heap.objs.size) { s with heap := h', toks := t }) :
    wpAny (model prog w) A (call (.type "set") [.ref p]) Q E s := by
  obtain ⟨c, tl, hmro⟩ := F.called_set.mro
  have g1 := F.called_set.made
  have g2 := F.called_set.sub
  refine wpAny_call (codeAny_of_tree (wpAny_pure ⟨Code.quiet_builtin _ (by decide +kernel), codeAny_builtin F.entry_type_call ?_⟩))
  rw [Around.under_plain (weight_type_call_type "set" [.ref p] []) rfl]
  have g3 := F.called_set.notType
  have g4 := F.called_set.canCreate
  have g5 := F.typeCall_set_1 (.ref p)
  repeat (any_goals (first | assumption | wp_step))
  refine codeAny_mono (code_set_new_1 (.ref p) (E := E) (Q₁ := fun u s1 => ∃ led, u = .ref s.heap.objs.size ∧ s1 = { s with heap := s.heap.push (set0 led) }) fun led => ⟨led, rfl, rfl⟩) fun r s1 q1 => ?_
  rcases r with e | (_ | _ | _ | u)
  all_goals try exact q1.elim
  all_goals try exact q1
  obtain ⟨led, rfl, rfl⟩ := q1
  have at1 : (s.heap.push (set0 led)).get? s.heap.objs.size = some (set0 led) := Heap.get?_push_size _ rfl
  have ty1 : Shared.TypeIs { s with heap := s.heap.push (set0 led) } (.ref s.heap.objs.size) "set" := ⟨_, at1, rfl⟩
  have g6 := F.called_set.init.lookup
  have g7 := F.called_set.init.bind (.ref s.heap.objs.size)
  repeat (any_goals (first | assumption | wp_step))
  refine codeAny_mono (codeAny_call_builtin (R := wants (fun r s2 => r = .none ∧ ∃ h' t, s2 = { s with heap := h', toks := t } ∧ SetTo kd h' s.heap.objs.size ks ∧ ∀ b u, b < s.heap.objs.size → s.heap.get? b = some u → h'.get? b = some u) E)
    F.called_set.init.plain F.entry_set_init (check_set_init_1 ty1 ?_)) fun r s2 q2 => ?_
  case _ =>
    have hpS : p < s.heap.objs.size := Heap.lt_size hp
    obtain ⟨oc, od, oa, os⟩ := o
    simp only at hc hd
    subst hc; subst hd
    have hp1 : (s.heap.push (set0 led)).get? p = some { cls := .type T, dict := od, data := .seq its c0, slots := os } := Heap.get?_push_of_some _ hp
    have f1 : isSubtype (.type T) (.type "set") = pure false := by rcases hT with rfl | rfl <;> first | exact F.sub_list_set | exact Ty.tuple_set
    have f2 : isSubtype (.type T) (.type "frozenset") = pure false := by rcases hT with rfl | rfl <;> first | exact F.sub_list_frozenset | exact Ty.tuple_frozenset
    have f3 : (Value.type T == Value.type "dict") = false := by rcases hT with rfl | rfl <;> decide
    have hh3 : A.in1.in1.in1.handled = none := by simp [hh]
    have sz : (s.heap.push (set0 led)).objs.size = s.heap.objs.size + 1 := Heap.size_push _ _
    have apart : p ≠ (s.heap.push (set0 led)).objs.size := by rw [sz]; exact Nat.ne_of_lt (Nat.lt_succ_of_lt hpS)
    have out : s.heap.objs.size ∉ [(s.heap.push (set0 led)).objs.size, p] := by rw [sz, List.mem_cons, List.mem_singleton]; exact fun z => z.elim (Nat.ne_of_lt (Nat.lt_succ_self _)) (Nat.ne_of_gt hpS)
    have start : ∀ x : Obj, SetTo kd ((s.heap.push (set0 led)).push x) s.heap.objs.size (ks.take 0) := fun x => by
      have z := (setObjOf_fresh (knd := kd) led).setOf (Heap.get?_push_of_some x at1) (by unfold scanBound; omega)
      have e : (fun k : κ => decide (k ∈ ks.take 0)) = fun _ => false := by funext k; simp
      show Heap.SetOf kd _ _ (fun k => decide (k ∈ ks.take 0)) _
      rw [e]
      exact z
    have ends : ∀ (x : Obj) (s' : Shared), Moved [s.heap.objs.size, (s.heap.push (set0 led)).objs.size] (fun a b => b = a) { s with heap := (s.heap.push (set0 led)).push x } s' → SetTo kd s'.heap s.heap.objs.size ks →
        ∃ h' t, s' = { s with heap := h', toks := t } ∧ SetTo kd h' s.heap.objs.size ks ∧ ∀ b u, b < s.heap.objs.size → s.heap.get? b = some u → h'.get? b = some u := fun x s' mv sx => by
      obtain ⟨h', g', d', t', o'⟩ := s'
      obtain rfl : g' = s.gens := mv.gens
      obtain rfl : d' = s.drawn := mv.drawn
      obtain rfl : o' = s.os := mv.os
      exact ⟨h', t', rfl, sx, fun b u hb q => mv.heap b u (by rw [sz, List.mem_cons, List.mem_singleton]; exact fun z => z.elim (Nat.ne_of_lt hb) (Nat.ne_of_lt (Nat.lt_succ_of_lt hb))) (Heap.get?_push_of_some _ (Heap.get?_push_of_some _ q))⟩
    unfold Builtin.«set.__init__» noKeywords Builtin.Frozenset.updateFrom
    generalize hPI : pyIter = PI
    wp_walk
    subst hPI
    rcases hT with rfl | rfl
    · have hl : (s.heap.push (set0 led)).IsList p its := ⟨_, hp1, rfl, c0, rfl⟩
      refine wpAny_pyIter_list hl (wpAny_bind (wpAny_runValue ?_))
      refine set_fill (kd := kd) ((Walks.list hh3 _ p apart its).toS) out lk vals few its.size 0 _ (Nat.zero_add _) ⟨⟨_, Heap.get?_push_size _ rfl, rfl, rfl⟩, hl.push _⟩ (start _) fun s' mv sx => ?_
      exact wpAny_pure (wpAny_pure ⟨rfl, ends _ s' mv sx⟩)
    · have hl : (s.heap.push (set0 led)).IsTuple p its := ⟨_, hp1, rfl, c0, rfl⟩
      refine wpAny_pyIter_tuple hl (wpAny_bind (wpAny_runValue ?_))
      refine set_fill (kd := kd) ((Walks.tuple hh3 _ p apart its).toS) out lk vals few its.size 0 _ (Nat.zero_add _) ⟨⟨_, Heap.get?_push_size _ rfl, rfl, rfl⟩, hl.push _⟩ (start _) fun s' mv sx => ?_
      exact wpAny_pure (wpAny_pure ⟨rfl, ends _ s' mv sx⟩)
  · rcases r with e | (_ | _ | _ | u)
    all_goals try exact q2.elim
    all_goals try exact q2
    obtain ⟨rfl, h', t, rfl, sx, kp⟩ := q2
    repeat (any_goals (first | assumption | wp_step))
    exact fin _ _ sx kp
end
section
variable {X : Cx}
def SetT (P : Program) (w : World) (a : Addr) (zs : List Str) : HO := .ext fun h => SetTo (strKind P w) h a zs
theorem SetT.new {P : Program} {w : World} {H : Hp} {h : Heap} {a : Addr} {zs : List Str} (x : SetTo (strKind P w) h a zs) : ObjOk P w H h a (SetT P w a zs) := by
  refine ⟨x, ?_, fun h1 h2 y e => SetTo.at y e⟩
  obtain ⟨o, _, _, _, e, _⟩ := x
  exact ⟨o, e⟩
theorem texts_at : ∀ {zs : List Str} {us : List Value}, Vals (zs.map V.str) us → ∀ (i : Nat) (v : Value), us[i]? = some v → ∃ (k : Str) (t : Tok), zs[i]? = some k ∧ v = .str k t
  | [], _, .nil, i, v, h => by simp at h
  | z :: zs, u :: us, .cons r rs, 0, v, h => by
    simp at h
    subst h
    obtain ⟨t, rfl⟩ := r
    exact ⟨z, t, rfl, rfl⟩
  | z :: zs, u :: us, .cons r rs, i + 1, v, h => by
    simp at h
    obtain ⟨k, t, a, b⟩ := texts_at rs i v h
    exact ⟨k, t, by simpa using a, b⟩
theorem call_set_texts (hc : X.calm = true) : CallR X (.type "set") (fun xs H Q => ∃ p zs, xs = [.ref p] ∧ (SqL X.K H p (zs.map V.str) ∨ SqT X.K H p (zs.map V.str)) ∧ zs.length ≤ 1000 ∧ ∀ l, H l = none → Q (.ref l) (upd H l (SetT X.prog X.w l zs))) := by
  intro pins s σ H xs us Q I r h
  obtain ⟨p, zs, rfl, hq, hl, q⟩ := h
  obtain ⟨u, rfl, rx⟩ := vals1 r
  cases rx
  have go : ∀ (T : String) (o : Obj) (its : List Value) (c0 : Nat), s.heap.get? p = some o → o.cls = .type T → o.data = .seq its.toArray c0 → (T = "list" ∨ T = "tuple") → Vals (zs.map V.str) its → wpAny (model X.prog X.w) X.A (call (.type "set") [.ref p]) (EP X pins σ Q) X.xe s :=
    fun T o its c0 ho hcl hda hT rv => by
      have ln : zs.length = its.length := by have := rv.length; rwa [List.length_map] at this
      refine set_from (kd := strKind X.prog X.w) (ks := zs) (I.ok.hd hc) ho hcl hda hT (by simpa using ln) (fun i v hv => ?_) (by simp [scanBound]; omega) fun h' t sx kp => ?_
      · obtain ⟨k, t, a, rfl⟩ := texts_at rv i v (by simpa using hv)
        exact ⟨k, a, strKind_is _ _ _ _, rfl⟩
      · refine ⟨.ref s.heap.objs.size, _, I.laid (a := s.heap.objs.size) (o := SetT X.prog X.w s.heap.objs.size zs) (h' := h') (t' := t) (fun b u q1 => kp b u (Heap.lt_size q1) q1) (Nat.le_refl _) (SetT.new sx), rfl, q _ (I.hok.fresh (Nat.le_refl _))⟩
  rcases hq with hq | hq
  · obtain ⟨its, rv, pl, _⟩ := I.list hq
    obtain ⟨o, ho, hcl, n, hda⟩ := pl.isList
    exact go "list" o its n ho hcl hda (.inl rfl) rv
  · obtain ⟨its, rv, pl, _⟩ := I.tuple hq
    obtain ⟨o, ho, hcl, n, hda⟩ := pl
    exact go "tuple" o its n ho hcl hda (.inr rfl) rv
theorem call_len_setT : CallR X (.builtin "len") (fun xs H Q => ∃ p zs, xs = [.ref p] ∧ H p = some (SetT X.prog X.w p zs) ∧ zs.length ≤ 1000 ∧ Q (.int (metL zs).length) H) := by
  intro pins s σ H xs us Q I r h
  obtain ⟨p, zs, rfl, hp, hl, q⟩ := h
  obtain ⟨u, rfl, rx⟩ := vals1 r
  cases rx
  obtain ⟨⟨o, es, ep, t, e1, e2, e3, _, _, _, e4, e5⟩, _⟩ := (show ObjOk X.prog X.w H s.heap p (SetT X.prog X.w p zs) from I.hok p _ hp)
  have := len_metL zs
  exact PySem.call_len_set e1 e2 e3 e4 (by omega) ⟨.int (metL zs).length, H, I.tok _, ⟨s.toks + 1, by rw [e5]⟩, q⟩
end
end L2

set_option Elab.async false
set_option linter.all false
set_option maxRecDepth 100000
set_option maxHeartbeats 4000000
namespace L2
open PySem PySem.Spec PyProof.Rows

section
variable {κ : Type} [DecidableEq κ]
def valV (kvs : List (κ × V)) (k : κ) : Option V := (kvs.find? fun kv => decide (kv.1 = k)).map (·.2)
def putK (kvs : List (κ × V)) (k : κ) (v : V) : List (κ × V) :=
  if (kvs.any fun kv => decide (kv.1 = k)) = true then kvs.map (fun kv => if kv.1 = k then (kv.1, v) else kv) else kvs ++ [(k, v)]
theorem valV_pos {p : κ × V} {r : List (κ × V)} {k : κ} (e : p.1 = k) : valV (p :: r) k = some p.2 := by simp [valV, List.find?_cons, e]
theorem valV_neg {p : κ × V} {r : List (κ × V)} {k : κ} (e : ¬ p.1 = k) : valV (p :: r) k = valV r k := by simp [valV, List.find?_cons, e]
theorem valV_any (k : κ) : ∀ kvs : List (κ × V), (kvs.any fun kv => decide (kv.1 = k)) = (valV kvs k).isSome
  | [] => rfl
  | p :: r => by
    rw [List.any_cons]
    by_cases e : p.1 = k
    · simp only [valV_pos e, decide_eq_true e, Bool.true_or, Option.isSome_some]
    · rw [valV_neg e, decide_eq_false e, Bool.false_or]; exact valV_any k r
theorem length_putK (kvs : List (κ × V)) (k : κ) (v : V) : (putK kvs k v).length ≤ kvs.length + 1 := by
  unfold putK
  split
  · rw [List.length_map]; omega
  · rw [List.length_append, List.length_cons, List.length_nil]; omega
theorem putK_new {kvs : List (κ × V)} {k : κ} (v : V) (h : valV kvs k = none) : putK kvs k v = kvs ++ [(k, v)] := by
  unfold putK
  rw [valV_any, h]
  exact if_neg (by decide)

theorem RelO.isSome_eq {o : Option V} {u : Option Value} (r : RelO o u) : o.isSome = u.isSome := by
  cases o with
  | none => cases u with
    | none => rfl
    | some _ => exact (show False from r).elim
  | some _ => cases u with
    | none => exact (show False from r).elim
    | some _ => rfl
theorem KV.val {kvs : List (κ × V)} {vs : List (κ × Value)} (r : KV kvs vs) (k : κ) : RelO (valV kvs k) (valueAt vs k) := by
  unfold KV at r
  induction r with
  | nil => exact True.intro
  | @cons p q ps qs h t ih =>
    obtain ⟨h1, h2⟩ := h
    by_cases e : p.1 = k
    · have e' : q.1 = k := h1.symm.trans e
      have b : valueAt (q :: qs) k = some q.2 := by simp [valueAt, List.find?_cons, e']
      rw [valV_pos e, b]; exact h2
    · have e' : ¬ q.1 = k := fun z => e (h1.trans z)
      have b : valueAt (q :: qs) k = valueAt qs k := by simp [valueAt, List.find?_cons, e']
      rw [valV_neg e, b]; exact ih
theorem KV.any {kvs : List (κ × V)} {vs : List (κ × Value)} (r : KV kvs vs) (k : κ) : (kvs.any fun kv => decide (kv.1 = k)) = vs.any fun kv => decide (kv.1 = k) := by
  unfold KV at r
  induction r with
  | nil => rfl
  | cons h t ih => rw [List.any_cons, List.any_cons, ih, h.1]
theorem KV.repl {kvs : List (κ × V)} {vs : List (κ × Value)} (r : KV kvs vs) (k : κ) {y : V} {u : Value} (ry : RelV y u) :
    KV (kvs.map fun kv => if kv.1 = k then (kv.1, y) else kv) (vs.map fun kv => if kv.1 = k then (kv.1, u) else kv) := by
  unfold KV at r ⊢
  induction r with
  | nil => exact .nil
  | @cons p q ps qs h t ih =>
    rw [List.map_cons, List.map_cons]
    refine .cons ?_ ih
    obtain ⟨h1, h2⟩ := h
    by_cases e : p.1 = k
    · rw [if_pos e, if_pos (h1.symm.trans e)]; exact ⟨h1, ry⟩
    · rw [if_neg e, if_neg (fun z => e (h1.trans z))]; exact ⟨h1, h2⟩
theorem KV.put {kvs : List (κ × V)} {vs : List (κ × Value)} (r : KV kvs vs) (k : κ) {y : V} {u : Value} (ry : RelV y u) : KV (putK kvs k y) (stored vs k u) := by
  unfold putK stored
  rw [r.any k]
  by_cases e : (vs.any fun kv => decide (kv.1 = k)) = true
  · rw [if_pos e, if_pos e]; exact r.repl k ry
  · rw [if_neg e, if_neg e]; exact Paired.snoc r ⟨rfl, ry⟩
theorem KV.keys {kvs : List (κ × V)} {vs : List (κ × Value)} (r : KV kvs vs) : kvs.map (·.1) = vs.map (·.1) := by
  unfold KV at r
  induction r with
  | nil => rfl
  | cons h t ih => rw [List.map_cons, List.map_cons, ih, h.1]
theorem KV.length {kvs : List (κ × V)} {vs : List (κ × Value)} (r : KV kvs vs) : kvs.length = vs.length := Paired.length r
end

theorem kV_is {P : Program} {w : World} {k : Key} {u : Value} (r : RelV (kV k) u) : (mixKind P w).is k u = true := by
  cases k with
  | inl i => obtain ⟨t, e⟩ := (show ∃ t, u = Value.int i t from r); subst e; exact mixKind_int P w i t
  | inr x => obtain ⟨t, e⟩ := (show ∃ t, u = Value.str x t from r); subst e; exact mixKind_str P w x t
theorem items_are {P : Program} {w : World} : ∀ {ks : List Key} {us : List Value}, Vals (ks.map kV) us → ItemsAre (mixKind P w) ks us
  | [], _, r => by rw [List.map_nil] at r; cases r; exact .nil
  | k :: ks, _, r => by
    rw [List.map_cons] at r
    cases r with
    | cons h t => exact .cons (kV_is h) (items_are t)

abbrev KT (H : Hp) : List (List Key × V) → List (List Key × Addr × Value) → Prop := Paired fun p q => p.1 = q.1 ∧ H q.2.1 = some (.tup (p.1.map kV)) ∧ RelV p.2 q.2.2
theorem KT.val {H : Hp} {kvs : List (List Key × V)} {xs : List (List Key × Addr × Value)} (r : KT H kvs xs) (k : List Key) : RelO (valV kvs k) ((atKey xs k).map (·.2)) := by
  induction r with
  | nil => exact True.intro
  | @cons p q ps qs h t ih =>
    obtain ⟨h1, _, h2⟩ := h
    by_cases e : p.1 = k
    · have e' : q.1 = k := h1.symm.trans e
      have b : atKey (q :: qs) k = some q.2 := by simp [atKey, List.find?_cons, e']
      rw [valV_pos e, b]; exact h2
    · have e' : ¬ q.1 = k := fun z => e (h1.trans z)
      have b : atKey (q :: qs) k = atKey qs k := by simp [atKey, List.find?_cons, e']
      rw [valV_neg e, b]; exact ih
theorem KT.repl {H : Hp} {kvs : List (List Key × V)} {xs : List (List Key × Addr × Value)} (r : KT H kvs xs) (k : List Key) {y : V} {u : Value} (ry : RelV y u) :
    KT H (kvs.map fun kv => if kv.1 = k then (kv.1, y) else kv) (xs.map (putAt k u)) := by
  induction r with
  | nil => exact .nil
  | @cons p q ps qs h t ih =>
    rw [List.map_cons, List.map_cons]
    refine .cons ?_ ih
    obtain ⟨h1, h2, h3⟩ := h
    unfold putAt
    by_cases e : p.1 = k
    · rw [if_pos e, if_pos (h1.symm.trans e)]; exact ⟨h1, h2, ry⟩
    · rw [if_neg e, if_neg (fun z => e (h1.trans z))]; exact ⟨h1, h2, h3⟩
theorem KT.put {H : Hp} {kvs : List (List Key × V)} {xs : List (List Key × Addr × Value)} (r : KT H kvs xs) (k : List Key) {b : Addr} {y : V} {u : Value} (hb : H b = some (.tup (k.map kV))) (ry : RelV y u) :
    KT H (putK kvs k y) (storedH xs k b u) := by
  have e : (kvs.any fun kv => decide (kv.1 = k)) = (atKey xs k).isSome := by
    rw [valV_any, (r.val k).isSome_eq, Option.isSome_map]
  unfold putK storedH
  rw [e]
  by_cases q : (atKey xs k).isSome = true
  · rw [if_pos q, if_pos q]; exact r.repl k ry
  · rw [if_neg q, if_neg q]; exact Paired.snoc r ⟨rfl, hb, ry⟩
theorem KT.keeps {H H' : Hp} {kvs : List (List Key × V)} {xs : List (List Key × Addr × Value)} (r : KT H kvs xs) (ht : ∀ b ys, H b = some (.tup ys) → H' b = some (.tup ys)) : KT H' kvs xs :=
  Paired.mapP r fun _ _ z => ⟨z.1, ht _ _ z.2.1, z.2.2⟩

section
variable {P : Program} {w : World} {H : Hp} {h : Heap} {a : Addr}
theorem rd_of {u : HO} (ok : HOk P w H h) (e : Rd H a u) : ObjOk P w H h a u := e.ok ok
theorem dk_rd {kvs : List (Key × V)} (ok : HOk P w H h) (e : Rd H a (.dK kvs)) : kvs.length ≤ sizeLine ∧ (a == sysModules) = false ∧ ∃ vs, KV kvs vs ∧ h.DictOf (mixKind P w) a vs :=
  show ObjOk P w H h a (.dK kvs) from rd_of ok e
theorem dk_of {kvs : List (Key × V)} (ok : HOk P w H h) (e : H a = some (.dK kvs)) : kvs.length ≤ sizeLine ∧ (a == sysModules) = false ∧ ∃ vs, KV kvs vs ∧ h.DictOf (mixKind P w) a vs := dk_rd ok (.inl e)
theorem key_of {ks : List Key} (ok : HOk P w H h) (e : H a = some (.tup (ks.map kV))) : (tupleKind (mixKind P w)).is h ks a := by
  obtain ⟨_, its, r, o, h1, h2, ⟨n, h3⟩, _⟩ := (show ObjOk P w H h a (.tup (ks.map kV)) from ok a _ e)
  exact ⟨o, its.toArray, n, h1, h2, h3, by simpa using items_are r⟩
theorem dt_rd {kvs : List (List Key × V)} (ok : HOk P w H h) (e : Rd H a (.dT kvs)) : kvs.length ≤ sizeLine ∧ (a == sysModules) = false ∧
    ∃ xs, KT H kvs xs ∧ h.DictOfH (tupleKind (mixKind P w)) a xs := by
  obtain ⟨z, y, xs, r, o, es, ep, h1, h2, h3, h4, h5⟩ := (show ObjOk P w H h a (.dT kvs) from rd_of ok e)
  refine ⟨z, y, xs, r, o, es, ep, h1, h2, h3, h4, fun x hx => ?_, h5⟩
  have all : ∀ {l : List (List Key × V)} {m : List (List Key × Addr × Value)}, KT H l m → ∀ x ∈ m, (tupleKind (mixKind P w)).is h x.1 x.2.1 := by
    intro l m q
    induction q with
    | nil => intro x hx; exact nomatch hx
    | @cons p q ps qs hq t ih =>
      intro x hx
      rcases List.mem_cons.mp hx with e | hx
      · subst e
        exact key_of ok (by rw [← hq.1]; exact hq.2.1)
      · exact ih x hx
  exact all r x hx
theorem dt_of {kvs : List (List Key × V)} (ok : HOk P w H h) (e : H a = some (.dT kvs)) : kvs.length ≤ sizeLine ∧ (a == sysModules) = false ∧
    ∃ xs, KT H kvs xs ∧ h.DictOfH (tupleKind (mixKind P w)) a xs := dt_rd ok (.inl e)
end

def DGet (H : Hp) (a : Addr) (y : V) (r : Option V) : Prop :=
  (∃ kvs k, Rd H a (.dK kvs) ∧ y = kV k ∧ r = valV kvs k) ∨ ∃ kvs k b, Rd H a (.dT kvs) ∧ y = .ref b ∧ H b = some (.tup (k.map kV)) ∧ r = valV kvs k
def DPut (H : Hp) (a : Addr) (y v : V) (H' : Hp) : Prop :=
  (∃ kvs k, H a = some (.dK kvs) ∧ y = kV k ∧ kvs.length < sizeLine ∧ H' = upd H a (.dK (putK kvs k v))) ∨
  ∃ kvs k b, H a = some (.dT kvs) ∧ y = .ref b ∧ H b = some (.tup (k.map kV)) ∧ kvs.length < sizeLine ∧ H' = upd H a (.dT (putK kvs k v))
theorem DGet.k {H : Hp} {a : Addr} {kvs : List (Key × V)} {k : Key} (e : H a = some (.dK kvs)) : DGet H a (kV k) (valV kvs k) := .inl ⟨kvs, k, .inl e, rfl, rfl⟩
theorem DPut.k {H : Hp} {a : Addr} {kvs : List (Key × V)} {k : Key} {v : V} (e : H a = some (.dK kvs)) (hl : kvs.length < sizeLine) : DPut H a (kV k) v (upd H a (.dK (putK kvs k v))) := .inl ⟨kvs, k, e, rfl, hl, rfl⟩
section
variable {X : Cx} {pins : List (Addr × Obj)} {σ : St} {H : Hp} {s : Shared} {a : Addr} {y v : V} {u r : Value} {o : Option V} {A : Around} {E : Value → Shared → Prop}

theorem Inv.big (I : Inv X pins σ H s) : sysModules < s.heap.objs.size := by
  have h : mainGlobals < s.heap.objs.size := (I.mod.glob.keeps I.bk).lt
  exact Nat.lt_trans (by decide) h

theorem d_getItem {Q : Value → Shared → Prop} (hu : A.units + 1 < cLine) (I : Inv X pins σ H s) (g : DGet H a y (some v)) (ry : RelV y u) (h : ∀ w' s', Inv X pins σ H s' → RelV v w' → Q w' s') :
    wpAny (model X.prog X.w) A (getItem (.ref a) u) Q E s := by
  rcases g with ⟨kvs, k, e, ey, l⟩ | ⟨kvs, k, b, e, ey, eb, l⟩
  · subst ey
    obtain ⟨z, hd, vs, rel, dd⟩ := dk_rd I.hok e
    obtain ⟨w', hw, rw'⟩ := RelO.some_of (v := v) (o := valueAt vs k) (by rw [l]; exact rel.val k)
    exact wpAny_getItem_of (kV_is ry) dd.mapOf hw (h w' _ (I.tok _) rw')
  · subst ey
    cases (show u = Value.ref b from ry)
    obtain ⟨z, hd, xs, rel, dd⟩ := dt_rd I.hok e
    obtain ⟨w', hw, rw'⟩ := RelO.some_of (v := v) (o := (atKey xs k).map (·.2)) (by rw [l]; exact rel.val k)
    obtain ⟨p, hp, hp2⟩ := Option.map_eq_some_iff.mp hw
    refine wpAny_getItem_heap (tupleKind_room_in1 hu) (key_of I.hok eb) dd hp ?_
    rw [hp2]
    exact h w' _ (I.tok _) rw'
theorem d_in {Q : Value → Shared → Prop} (hu : A.units + 1 < cLine) (I : Inv X pins σ H s) (g : DGet H a y o) (ry : RelV y u) (h : ∀ s', Inv X pins σ H s' → Q (.bool o.isSome) s') :
    wpAny (model X.prog X.w) A (compareOp .In u (.ref a)) Q E s := by
  rcases g with ⟨kvs, k, e, ey, l⟩ | ⟨kvs, k, b, e, ey, eb, l⟩
  · subst ey
    obtain ⟨z, hd, vs, rel, dd⟩ := dk_rd I.hok e
    refine wpAny_in_of (kV_is ry) hd dd.mapOf ?_
    rw [← (rel.val k).isSome_eq, ← l]
    exact h _ (I.tok _)
  · subst ey
    cases (show u = Value.ref b from ry)
    obtain ⟨z, hd, xs, rel, dd⟩ := dt_rd I.hok e
    refine wpAny_in_heap (tupleKind_room_in1 hu) (key_of I.hok eb) hd dd ?_
    have q := (rel.val k).isSome_eq
    rw [Option.isSome_map] at q
    rw [← q, ← l]
    exact h _ (I.tok _)
theorem d_write {h' : Heap} {t' : Nat} {ob : HO} (I : Inv X pins σ H s) (mu : Mut (H a)) (hs : Heap.SameBut a s.heap h') (he : ∃ q, h'.get? a = some q) (new : ObjOk X.prog X.w (upd H a ob) h' a ob) :
    Inv X pins σ (upd H a ob) { s with heap := h', toks := t' } :=
  I.write (x := a) (e := a) mu (.inl rfl) (fun b q hb z => (hs.2 b hb).trans z) he new
theorem dk_new {P : Program} {w : World} {H' : Hp} {h' : Heap} {kvs : List (Key × V)} {vs : List (Key × Value)} (z : kvs.length ≤ sizeLine) (hd : (a == sysModules) = false) (rel : KV kvs vs) (dd : h'.DictOf (mixKind P w) a vs) :
    ObjOk P w H' h' a (.dK kvs) := ⟨z, hd, vs, rel, dd⟩
theorem d_setItem {H' : Hp} {Q : Unit → Shared → Prop} (hu : A.units + 1 < cLine) (I : Inv X pins σ H s) (g : DPut H a y v H') (ry : RelV y u) (rv : RelV v r) (h : ∀ s', Inv X pins σ H' s' → Q () s') :
    wpAny (model X.prog X.w) A (setItem (.ref a) u r) Q E s := by
  rcases g with ⟨kvs, k, e, ey, l, eH⟩ | ⟨kvs, k, b, e, ey, eb, l, eH⟩
  · subst ey eH
    obtain ⟨z, hd, vs, rel, dd⟩ := dk_of I.hok e
    have hz : vs.length ≤ sizeLine := by rw [← rel.length]; exact z
    have hl : (putK kvs k v).length ≤ sizeLine := by have := length_putK kvs k v; omega
    refine wpAny_setItem_pairs (hsz := hz) (kV_is ry) dd fun h' dd' hs => h _ ?_
    have he : ∃ q, h'.get? a = some q := let ⟨q, _, _, hq, _⟩ := dd'; ⟨q, hq⟩
    exact d_write I (by rw [e]; exact True.intro) hs he (dk_new hl hd (rel.put k rv) dd')
  · subst ey eH
    cases (show u = Value.ref b from ry)
    obtain ⟨z, hd, xs, rel, dd⟩ := dt_of I.hok e
    have hz : xs.length ≤ sizeLine := by rw [← Paired.length rel]; exact z
    have hl : (putK kvs k v).length ≤ sizeLine := by have := length_putK kvs k v; omega
    refine wpAny_setItem_heap (hsz := hz) (tupleKind_room_in1 hu) (key_of I.hok eb) dd fun h' dd' hs => h _ ?_
    obtain ⟨q, es, ep, hq, h2, h3, h4, _, h5⟩ := dd'
    refine d_write I (by rw [e]; exact True.intro) hs ⟨q, hq⟩ ⟨hl, hd, _, (rel.put k eb rv).keeps fun c ys ec => ?_, q, es, ep, hq, h2, h3, h4, h5⟩
    rw [upd_ne (ne_of ec e (fun z => nomatch z))]
    exact ec
end

section
variable {X : Cx} {pins : List (Addr × Obj)} {σ : St} {H : Hp} {s : Shared} {a : Addr} {kvs : List (Key × V)} {k : Key} {u : Value} {A : Around} {E : Value → Shared → Prop}
end

def NoSl (i : Expr) : Prop := ∀ ov iv, subscripted i false ov iv = operate [ov, iv] (getItem ov iv)
theorem subD_of {prog : Program} {w : World} {A : Around} {E : Value → Shared → Prop} {s : Shared} {env : Env} {value slice : Expr} {pos : Pos} {T id : String} {Q : Value → Shared → Prop}
    (hl : typeLookup (.type T) "__getitem__" = pure (some (.builtin id))) (hs : NoSl slice)
    (h : wpAny (model prog w) A (eval value env) (fun o s₁ => wpAny (model prog w) A (eval slice env) (fun i s₂ => s₂.TypeIs o T ∧ wpAny (model prog w) A (getItem o i) Q E s₂) E s₁) E s) :
    wpAny (model prog w) A (eval (.Subscript value slice pos) env) Q E s := by
  refine Subscript_ (wpAny_mono h (fun o s₁ h₁ => wpAny_mono h₁ (fun i s₂ h₂ => ?_) fun _ _ x => x) fun _ _ x => x)
  obtain ⟨hT, h₂⟩ := h₂
  unfold subscriptTail
  refine wpAny_bind ?_
  rw [getitemInPython_of_ne hT.not_modules]
  refine wpAny_bind (wpAny_specialOf hT hl ?_)
  have fin : wpAny (model prog w) A (subscripted slice false o i) (fun r s₃ => wpAny (model prog w) A (letTemporaryGo value o r >>= fun _ => pure r) Q E s₃) E s₂ := by
    rw [hs o i]
    exact wpAny_operating (wpAny_mono h₂ (fun r s₃ h₃ => wpAny_bind (wpAny_letTemporaryGo (wpAny_pure h₃))) fun _ _ x => x)
  first
    | exact wpAny_pure (wpAny_bind fin)
    | exact wpAny_bind (wpAny_pure (wpAny_bind fin))
    | exact wpAny_bind fin

theorem dict_typeIs {X : Cx} {pins : List (Addr × Obj)} {σ : St} {H : Hp} {s : Shared} {a : Addr} {y : V} {o : Option V} (I : Inv X pins σ H s) (g : DGet H a y o) : s.TypeIs (.ref a) "dict" := by
  rcases g with ⟨kvs, k, e, _, _⟩ | ⟨kvs, k, b, e, _, _, _⟩
  · obtain ⟨_, _, vs, _, dd⟩ := dk_rd I.hok e
    exact dd.typeIs
  · obtain ⟨_, _, xs, _, dd⟩ := dt_rd I.hok e
    exact dd.typeIs
def tDGet (td ty : TE) : TE := fun σ H Q => td σ H fun x H1 => ty σ H1 fun y H2 => ∃ a v, x = .ref a ∧ DGet H2 a y (some v) ∧ Q v H2
def tDIn (ty td : TE) : TE := fun σ H Q => ty σ H fun y H1 => td σ H1 fun x H2 => ∃ a o, x = .ref a ∧ DGet H2 a y o ∧ Q (.bl o.isSome) H2
def sDPut (td ty tv : TE) : TS := fun D σ H => tv σ H fun v H1 => td σ H1 fun x H2 => ty σ H2 fun y H3 => ∃ a H4, x = .ref a ∧ DPut H3 a y v H4 ∧ D.nx σ H4
section
variable {X : Cx} {o i e value : Expr} {pos pos' tpos : Pos} {td ty tv : TE}
theorem pe_dget (hu : X.A.units + 1 < cLine) (ho : PE X o td) (hi : PE X i ty) (hs : NoSl i) : PE X (.Subscript o i pos) (tDGet td ty) := by
  intro pins s σ H Q I h
  refine subD_of PySem.F.slot_dict_getitem.lookup hs (thn (ho pins s σ H _ I h) fun u s1 ⟨x, H1, I1, rx, q1⟩ => thn (hi pins s1 σ H1 _ I1 q1) fun iv s2 hz => ?_)
  obtain ⟨y, H2, I2, ry, a, v, ex, g, q2⟩ := hz
  subst ex
  obtain rfl : u = Value.ref a := rx
  exact ⟨dict_typeIs I2 g, d_getItem hu I2 g ry fun w' s3 I3 rw' => ⟨v, H2, I3, rw', q2⟩⟩
theorem pc_din (hu : X.A.units + 1 < cLine) (hi : PE X i ty) (ho : PE X o td) : PC X .In i o (tDIn ty td) := by
  intro pins s σ H Q I h
  refine thn (hi pins s σ H _ I h) fun iv s1 ⟨y, H1, I1, ry, q1⟩ => thn (ho pins s1 σ H1 _ I1 q1) fun u s2 hz => ?_
  obtain ⟨x, H2, I2, rx, a, ov, ex, g, q2⟩ := hz
  subst ex
  obtain rfl : u = Value.ref a := rx
  exact d_in hu I2 g ry fun s3 I3 => ⟨.bl ov.isSome, H2, I3, rfl, q2⟩
theorem ps_dput (hu : X.A.units + 1 < cLine) (ho : PE X o td) (hi : PE X i ty) (hv : PE X value tv) (hs : swapsWith value (some (.Subscript o i pos')) pos.line X.env = pure false) :
    PS X (.Assign [.Subscript o i pos'] value pos) (sDPut td ty tv) := by
  intro pins s σ H D I h
  refine wpAny_Assign_Subscript (thn (hv pins s σ H _ I h) fun r s1 ⟨v, H1, I1, rv, q1⟩ => thn (ho pins s1 σ H1 _ I1 q1) fun u s2 ⟨x, H2, I2, rx, q2⟩ => thn (hi pins s2 σ H2 _ I2 q2) fun iv s3 hz => ?_) hs
  obtain ⟨y, H3, I3, ry, a, H4, ex, g, q3⟩ := hz
  subst ex
  obtain rfl : u = Value.ref a := rx
  exact d_setItem hu I3 g ry rv fun s4 I4 => ⟨σ, H4, I4, q3⟩
end

theorem dk_empty {P : Program} {w : World} {H : Hp} (h : Heap) (hb : sysModules < h.objs.size) : ObjOk P w H (h.push { cls := .type "dict", data := .dict #[] }) h.objs.size (.dK []) :=
  ⟨Nat.zero_le _, beq_eq_false_iff_ne.mpr (Ne.symm (Nat.ne_of_lt hb)), [], .nil, Heap.DictOf.new h⟩
def tDNewK : TE := fun _ H Q => ∀ p, H p = none → Q (.ref p) (upd H p (.dK []))
section
variable {X : Cx} {pos : Pos}
theorem pe_dnewK : PE X (.Dict [] [] pos) tDNewK := fun pins s σ H Q I h =>
  wpAny_Dict_empty ⟨.ref s.heap.objs.size, _, I.laid (a := s.heap.objs.size) (o := .dK []) (t' := s.toks) (fun _ _ q => Heap.get?_push_of_some _ q) (Nat.le_refl _) (dk_empty s.heap I.big), rfl, h _ (I.hok.fresh (Nat.le_refl _))⟩
end

section
variable {X : Cx} {pins : List (Addr × Obj)} {σ : St} {H : Hp} {s : Shared} {a : Addr} {y d : V} {u r : Value} {o : Option V} {A : Around} {E : Value → Shared → Prop}
end

section
variable {X : Cx} {o e f : Expr} {apos cpos : Pos} {td ty tx : TE}
end

section
variable {X : Cx} {pins : List (Addr × Obj)} {σ : St} {H : Hp} {s : Shared} {a : Addr} {kvs : List (Key × V)} {A : Around} {E : Value → Shared → Prop}
end

section
variable {X : Cx} {pins : List (Addr × Obj)} {σ : St} {H : Hp} {s : Shared} {a : Addr} {y : V} {u : Value} {A : Around} {E : Value → Shared → Prop}
end
end L2

set_option Elab.async false
set_option linter.all false
set_option maxRecDepth 100000
set_option maxHeartbeats 4000000
namespace L2
open PySem PySem.Spec PyProof.Rows
structure MCal (P : Program) (w : World) (K : PySem.W.Frag) (mg : Str → Option Value) (base : Heap) (k : Nat) (C : Addr) (m : Str) (ps : List Str) (sp : Sp) : Prop where
  cl : Cls K C
  ex : ∃ (f : Addr) (fd : FuncData), FnOk P w K mg base CX0 k f fd ps sp ∧ Binds K fd ps [] ∧ Meth K C m f
theorem MCal.mk' {P : Program} {w : World} {K : PySem.W.Frag} {mg : Str → Option Value} {base : Heap} {k : Nat} {C : Addr} {m : Str} {ps : List Str} {sp : Sp} {f : Addr} {fd : FuncData} (c : Cls K C) (a : FnOk P w K mg base CX0 k f fd ps sp) (b : Binds K fd ps []) (d : Meth K C m f) :
    MCal P w K mg base k C m ps sp := ⟨c, f, fd, a, b, d⟩
section
variable {X : Cx} {k : Nat} {C : Addr} {m x : Str} {ps : List Str} {sp : Sp} {o e : Expr} {es : List Expr} {ta : TE} {t : TA} {p pos apos : Pos} {pl : Sem Bool}
theorem pe_mcal (G : MCal X.prog X.w X.K X.mg X.base k C m ps sp) (hr : Room k X.A) (he : PE X o ta) (ha : PA X (e :: es) t)
    (hst : starEach (e :: es) X.env = (false, eval e X.env) :: starEach es X.env := by rfl) (hpl : (backTo pos (starEach es X.env)).any (·.1) = false := by rfl)
    (ht : eval (.Call (.Attribute o m apos) (e :: es) [] pos) X.env = (do
      let ov ← eval o X.env
      standAt apos.atName
      let (f, first) ← holding [ov] (getMethod ov m pl)
      callWith pos f first (backTo pos (starEach (e :: es) X.env)) (backToKw pos (keywordEach [] X.env))) := by rfl) :
    PE X (.Call (.Attribute o m apos) (e :: es) [] pos) (tMeth C m sp [] E0 ta t) := by
  obtain ⟨f, fd, a, b, d⟩ := G.ex
  exact pe_meth he G.cl d a hr b .nil pass0 ha hst hpl ht
theorem pe_mcal0 (G : MCal X.prog X.w X.K X.mg X.base k C m ps sp) (hr : Room k X.A) (he : PE X o ta)
    (ht : eval (.Call (.Attribute o m apos) [] [] pos) X.env = (do
      let ov ← eval o X.env
      standAt apos.atName
      let (f, first) ← holding [ov] (getMethod ov m pl)
      callWith pos f first (backTo pos (starEach [] X.env)) (backToKw pos (keywordEach [] X.env))) := by rfl) :
    PE X (.Call (.Attribute o m apos) [] [] pos) (tMeth C m sp [] E0 ta tNil) := by
  obtain ⟨f, fd, a, b, d⟩ := G.ex
  exact pe_meth0 he G.cl d a hr b .nil pass0 ht
end
structure Mkr (P : Program) (w : World) (K : PySem.W.Frag) (mg : Str → Option Value) (base : Heap) (k : Nat) (C : Addr) (x : Str) (ps : List Str) (sp : Sp) : Prop where
  ex : ∃ (f : Addr) (fd : FuncData), FnOk P w K mg base CX0 k f fd ps sp ∧ Binds K fd ps [] ∧ Mk K C f ∧ mg x = some (.ref C)
theorem Mkr.mk' {P : Program} {w : World} {K : PySem.W.Frag} {mg : Str → Option Value} {base : Heap} {k : Nat} {C : Addr} {x : Str} {ps : List Str} {sp : Sp} {f : Addr} {fd : FuncData} (a : FnOk P w K mg base CX0 k f fd ps sp) (b : Binds K fd ps []) (c : Mk K C f) (d : mg x = some (.ref C)) :
    Mkr P w K mg base k C x ps sp := ⟨f, fd, a, b, c, d⟩
section
variable {X : Cx} {k : Nat} {C : Addr} {m x : Str} {ps : List Str} {sp : Sp} {o e : Expr} {es : List Expr} {ta : TE} {t : TA} {p pos apos : Pos}
theorem pe_mkr (G : Mkr X.prog X.w X.K X.mg X.base k C x ps sp) (hr : Room (k + 1) X.A) (hg : Gl X x) (ha : PA X (e :: es) t)
    (hdb : (x == ("__debug__" : Str)) = false := by decide) (he : starEach (e :: es) X.env = (false, eval e X.env) :: starEach es X.env := by rfl) (hpl : (backTo pos (starEach es X.env)).any (·.1) = false := by rfl) :
    PE X (.Call (.Name x p) (e :: es) [] pos) (tMake C sp [] E0 t) := by
  obtain ⟨f, fd, a, b, c, d⟩ := G.ex
  exact pe_make c a hr hg d b .nil pass0 ha hdb he hpl
theorem pe_con_int {n : Int} (hg : Gl X x) (hm : ∃ t, X.mg x = some (.int n t)) (hd : (x == ("__debug__" : Str)) = false := by decide) : PE X (.Name x pos) (tC (.int n)) := by
  obtain ⟨t, e⟩ := hm
  exact pe_glob hg e ⟨t, rfl⟩ hd
end
def rTupOf (K : PySem.W.Frag) : List V → Hp → VK → Prop := fun xs H Q => ∃ p ys, xs = [.ref p] ∧ ((SqL K H p ys ∧ ∀ l, H l = none → Q (.ref l) (upd H l (.tup ys))) ∨ (SqT K H p ys ∧ Q (.ref p) H))
def rLstOf (K : PySem.W.Frag) : List V → Hp → VK → Prop := fun xs H Q => ∃ p ys, xs = [.ref p] ∧ (SqL K H p ys ∨ SqT K H p ys) ∧ ∀ l, H l = none → Q (.ref l) (upd H l (.lst ys))
section
variable {X : Cx} {K : PySem.W.Frag}
theorem call_tuple_ofK (h : X.K = K) : CallR X (.type "tuple") (rTupOf K) := by
  subst h
  exact call_tuple_of
theorem call_list_ofK (h : X.K = K) : CallR X (.type "list") (rLstOf K) := by
  subst h
  exact call_list_of
end
end L2

set_option Elab.async false
set_option linter.all false
set_option maxRecDepth 100000
set_option maxHeartbeats 4000000
namespace L2
open PySem PySem.Spec PyProof.Rows
section
variable {X : Cx}
end
end L2

set_option Elab.async false
set_option linter.all false
set_option maxRecDepth 100000
set_option maxHeartbeats 4000000
namespace L2
open PySem
section
variable {prog : Program} {w : World} {A : Around} {E : Value → Shared → Prop} {s : Shared} {κ : Type} [DecidableEq κ] {kd : KeyKind prog w κ} {led : Bool}
end
end L2

set_option Elab.async false
set_option linter.all false
set_option maxRecDepth 100000
set_option maxHeartbeats 4000000
namespace L2
open PySem PySem.Spec PyProof.Rows
namespace Ty
end Ty
section
variable {prog : Program} {w : World} {A : Around} {E : Value → Shared → Prop} {s : Shared}
end
end L2

set_option Elab.async false
set_option linter.all false
set_option maxRecDepth 100000
set_option maxHeartbeats 4000000
namespace L2
open PySem PySem.Spec PyProof.Rows
namespace Ty
end Ty
section
variable {prog : Program} {w : World} {A : Around} {E : Value → Shared → Prop} {s : Shared} {κ : Type} [DecidableEq κ] {kd : KeyKind prog w κ}
end
end L2

set_option Elab.async false
set_option linter.all false
set_option maxRecDepth 100000
set_option maxHeartbeats 4000000
namespace L2
open PySem PySem.Spec PyProof.Rows
section
variable {X : Cx}
end
end L2

set_option Elab.async false
set_option linter.all false
set_option maxRecDepth 100000
set_option maxHeartbeats 4000000
namespace L2
open PySem PySem.Spec PyProof.Rows
theorem slot_rv_next : Slot "reversed" "__next__" "reversed.__next__" :=
  .of (owner := "reversed") (n := "__next__") (by rw [typeLookup_type, builtinLookup_eq_fast]; kernel_rfl) (by decide +kernel) (by decide +kernel) (by decide +kernel) (by first | exact .inl (by decide +kernel) | exact .inr (by decide +kernel)) (by rw [isSubtype_type]; kernel_rfl)
theorem slot_rv_iter : Slot "reversed" "__iter__" "reversed.__iter__" :=
  .of (owner := "reversed") (n := "__iter__") (by rw [typeLookup_type, builtinLookup_eq_fast]; kernel_rfl) (by decide +kernel) (by decide +kernel) (by decide +kernel) (by first | exact .inl (by decide +kernel) | exact .inr (by decide +kernel)) (by rw [isSubtype_type]; kernel_rfl)
theorem slot_rv_init : Slot "reversed" "__init__" "object.__init__" :=
  .of (owner := "object") (n := "__init__") (by rw [typeLookup_type, builtinLookup_eq_fast]; kernel_rfl) (by decide +kernel) (by decide +kernel) (by decide +kernel) (by first | exact .inl (by decide +kernel) | exact .inr (by decide +kernel)) (by rw [isSubtype_type]; kernel_rfl)
theorem entry_rv_next : entryFor table "reversed.__next__" = some Builtin.«reversed.__next__» := entryFor_of_tree (by kernel_rfl)
theorem entry_rv_iter : entryFor table "reversed.__iter__" = some Builtin.«dict_keyiterator.__iter__» := entryFor_alias (id' := "dict_keyiterator.__iter__") (by kernel_rfl) (by first | rfl | decide +kernel | (unfold String.splitOn; simp +decide [String.splitOnAux])) (by decide +kernel) (by kernel_rfl)
theorem args_rv_next (a : Value) : argsOk "reversed.__next__" ⟨[a], []⟩ := by unfold argsOk; kernel_rfl
theorem args_rv_iter (a : Value) : argsOk "reversed.__iter__" ⟨[a], []⟩ := by unfold argsOk; kernel_rfl
theorem called_rv : TypeCalled "reversed" "reversed.__new__" "object.__init__" :=
  ⟨by decide +kernel, by decide +kernel, ⟨_, _, PySem.F.mro_reversed⟩, PySem.F.made_reversed, by decide +kernel, PySem.F.sub_reversed_self, slot_rv_init⟩
theorem look_rv_tuple : typeLookup (.type "tuple") "__reversed__" = pure none := by rw [typeLookup_type, builtinLookup_eq_fast]; kernel_rfl
theorem tuple_dict : isSubtype (.type "tuple") (.type "dict") = pure false := by rw [isSubtype_type]; kernel_rfl
abbrev rvObj (t : Addr) (i : Int) : Obj := { cls := .type "reversed", dict := none, data := .fields #[.ref t, rawInt i], slots := #[] }
section
variable {prog : Program} {w : World} {A : Around} {E : Value → Shared → Prop} {s : Shared}
theorem code_rv_new {t : Addr} {items : Array Value} {Q : Value → Shared → Prop} (ht : IsTup s.heap t items) (hf : (items.size : Int) < 2 ^ 63) (h : ∀ tk, Q (.ref s.heap.objs.size) { s with heap := s.heap.push (rvObj t ((items.size : Int) - 1)), toks := tk }) :
    codeAny (model prog w) A (.call (.builtin "reversed.__new__") ⟨[.type "reversed", .ref t], []⟩) (wants Q E) s := by
  refine codeAny_of_tree ?_
  show wpAny _ A.in1 (do checkBuiltinCall "reversed.__new__" ⟨[.type "reversed", .ref t], []⟩; again (.builtin "reversed.__new__" ⟨[.type "reversed", .ref t], []⟩)) _ _ s
  refine wpAny_bind (wpAny_of_eq (PySem.F.newCall_reversed_1 _) (wpAny_pure ⟨plainId_quiet PySem.F.plain_reversed_new _, codeAny_builtin PySem.F.entry_reversed_new ?_⟩))
  rw [Around.under_plainId PySem.F.plain_reversed_new _]
  unfold Builtin.«reversed.__new__»
  refine wpAny_bind (wpAny_of_eq (newClass_reversed _) ?_)
  try dsimp only
  refine wpAny_bind (wpAny_of_eq (a := ()) (by first | rfl | kernel_rfl) ?_)
  refine wpAny_bind (wpAny_of_eq (a := ()) (by first | rfl | kernel_rfl) ?_)
  try dsimp only
  refine wpAny_bind (wpAny_specialOf ht.typeIs look_rv_tuple ?_)
  try dsimp only
  refine wpAny_bind ?_
  show wpAny _ _ (isInstance (.ref t) (.type "dict") >>= fun b => _) _ _ _
  refine wpAny_bind (wpAny_isInstance (T := "tuple") ht.typeIs tuple_dict ?_)
  rw [if_neg (by decide)]
  refine wpAny_bind (wpAny_specialOf ht.typeIs slot_tuple_getitem.lookup ?_)
  dsimp only
  rw [if_pos (by decide +kernel)]
  refine wpAny_pure ?_
  rw [if_neg (by decide)]
  refine wpAny_bind (len_tuple ht hf ?_)
  refine wpAny_bind (wpAny_of_eq (a := some (items.size : Int)) rfl ?_)
  dsimp only
  refine wpAny_bind ?_
  show wpAny _ _ (newObj (.type "reversed") (.fields #[.ref t, rawInt ((items.size : Int) - 1)])) _ _ _
  exact wpAny_newObj_type (wpAny_pure (h _)) (by size_fits)
theorem call_rv {t : Addr} {items : Array Value} {Q : Value → Shared → Prop} (ht : IsTup s.heap t items) (hf : (items.size : Int) < 2 ^ 63) (h : ∀ tk, Q (.ref s.heap.objs.size) { s with heap := s.heap.push (rvObj t ((items.size : Int) - 1)), toks := tk }) :
    wpAny (model prog w) A (call (.type "reversed") [.ref t]) Q E s := by
  refine callType_codes (Q₁ := fun obj s₁ => obj = .ref s.heap.objs.size ∧ ∃ tk, s₁ = { s with heap := s.heap.push (rvObj t ((items.size : Int) - 1)), toks := tk }) called_rv (PySem.F.typeCall_reversed_1 _) F.entry_object_init (code_rv_new ht hf fun tk => ⟨rfl, tk, rfl⟩) ?_
  rintro obj s₁ ⟨rfl, tk, rfl⟩
  have ty : Shared.TypeIs { s with heap := s.heap.push (rvObj t ((items.size : Int) - 1)), toks := tk } (.ref s.heap.objs.size) "reversed" := ⟨_, Heap.get?_push_size _ rfl, rfl⟩
  exact ⟨ty, F.args_object_init_2 _ _, object_init_meets called_rv.init.lookup called_rv.made (by decide) _ _ _ _ _ ⟨ty, rfl, h tk⟩⟩
theorem rv_item {I t : Addr} {i : Nat} {items : Array Value} {x : Value} {Q : Option Value → Shared → Prop} (hI : s.heap.get? I = some (rvObj t (i : Int))) (ht : IsTup s.heap t items) (hx : items[i]? = some x) (hz : (items.size : Int) < 2 ^ 63)
    (hQ : ∀ h' tk, h'.get? I = some (rvObj t ((i : Int) - 1)) → Heap.SameBut I s.heap h' → Q (some x) { s with heap := h', toks := tk }) : wpAny (model prog w) A (pyNext (.ref I)) Q E s := by
  have ty : s.TypeIs (.ref I) "reversed" := ⟨_, hI, rfl⟩
  have hi : i < items.size := (Array.getElem?_eq_some_iff.mp hx).1
  unfold pyNext
  refine wpAny_bind (wpAny_attempt (wpAny_callSpecial?_slot (name := Str.ofString "__next__") ty slot_rv_next
    (wpAny_call_entry slot_rv_next ty entry_rv_next ?_ (args_rv_next _))))
  unfold Builtin.«reversed.__next__»
  refine wpAny_bind (wpAny_of_eq (a := (Value.ref I, [])) rfl ?_)
  try dsimp only
  refine wpAny_bind (wpAny_field hI rfl (x := .ref t) rfl ?_)
  refine wpAny_bind (wpAny_field hI rfl (x := rawInt (i : Int)) rfl ?_)
  show wpAny _ _ (if (i : Int) < 0 then _ else _) _ _ s
  rw [if_neg (by omega)]
  refine wpAny_bind (wpAny_specialOf ht.typeIs slot_tuple_getitem.lookup ?_)
  rw [if_neg (by decide)]
  refine wpAny_bind (wpAny_mkInt ?_)
  refine wpAny_bind (wpAny_attempt (getItem_tuple (j := i) (x := x) ht (by omega) (by omega) ?_ hx ?_))
  · exact seqIndex_of (by omega) (by omega)
  dsimp only
  refine wpAny_bind (wpAny_field hI rfl (x := rawInt (i : Int)) rfl ?_)
  show wpAny _ _ (setField (.ref I) 1 (rawInt ((i : Int) - 1)) >>= _) _ _ _
  refine wpAny_bind (wpAny_setField hI rfl (by simp) ?_)
  refine wpAny_pure ⟨x, rfl, wpAny_pure (hQ _ _ ?_ (Heap.SameBut.update ..))⟩
  exact Heap.get?_update_self _ hI rfl
theorem rv_end {I t : Addr} {Q : Option Value → Shared → Prop} (hh : A.handled = none) (hI : s.heap.get? I = some (rvObj t (-1)))
    (hQ : ∀ h', Heap.ExtBut I s.heap h' → Q none { s with heap := h' }) : wpAny (model prog w) A (pyNext (.ref I)) Q E s := by
  have ty : s.TypeIs (.ref I) "reversed" := ⟨_, hI, rfl⟩
  unfold pyNext
  refine wpAny_bind (wpAny_attempt (wpAny_callSpecial?_slot (name := Str.ofString "__next__") ty slot_rv_next
    (wpAny_call_entry slot_rv_next ty entry_rv_next ?_ (args_rv_next _))))
  unfold Builtin.«reversed.__next__»
  refine wpAny_bind (wpAny_of_eq (a := (Value.ref I, [])) rfl ?_)
  try dsimp only
  refine wpAny_bind (wpAny_field hI rfl (x := .ref t) rfl ?_)
  refine wpAny_bind (wpAny_field hI rfl (x := rawInt (-1)) rfl ?_)
  show wpAny _ _ (if (-1 : Int) < 0 then _ else _) _ _ s
  rw [if_pos (by decide)]
  refine wpAny_bind (wpAny_rule ?_)
  refine wpAny_bind ?_
  show wpAny _ _ (setField (.ref I) 1 (rawInt (-1)) >>= fun _ => setField (.ref I) 0 .none) _ _ _
  refine wpAny_bind (wpAny_setField hI rfl (by simp) ?_)
  have g1 := Heap.get?_update_self (Obj.mapFields (·.setIfInBounds 1 (rawInt (-1)))) hI rfl
  have b1 : Heap.SameBut I s.heap (s.heap.update I (Obj.mapFields (·.setIfInBounds 1 (rawInt (-1))))) := Heap.SameBut.update ..
  refine wpAny_setField (vs := #[.ref t, rawInt (-1)]) g1 rfl (by simp) ?_
  have b2 : Heap.SameBut I (s.heap.update I (Obj.mapFields (·.setIfInBounds 1 (rawInt (-1))))) ((s.heap.update I (Obj.mapFields (·.setIfInBounds 1 (rawInt (-1))))).update I (Obj.mapFields (·.setIfInBounds 0 .none))) := Heap.SameBut.update ..
  refine wpAny_bind ?_
  unfold Builtin.SmallTypes.stopIteration
  refine wpAny_bind ?_
  simp only [newExc, newTuple]
  refine wpAny_bind (wpAny_newObj_type ?_ (by size_fits))
  refine wpAny_bind (m := firstArgMember _ _) (wpAny_of_eq (a := Value.none) (by first | rfl | (simp only [firstArgMember]; rfl)) (wpAny_newObj_type ?_ (by size_fits)))
  simp only [raiseNew]
  refine wpAny_bind (wpAny_handled ?_)
  rw [show A.in1.handled = none from hh]
  refine wpAny_bind (wpAny_pure (wpAny_throw ?_))
  refine wpAny_bind (wpAny_isInstance (T := "StopIteration") (b := true) ⟨_, Heap.get?_push_size _ rfl, rfl⟩ isSubtype_stop ?_)
  exact wpAny_pure (hQ _ fun b o hb e => Heap.get?_push_of_some _ (Heap.get?_push_of_some _ ((b2.2 b hb).trans ((b1.2 b hb).trans e))))
theorem rv_self {I t : Addr} {i : Int} {Q : Value → Shared → Prop} (hI : s.heap.get? I = some (rvObj t i)) (h : Q (.ref I) s) : wpAny (model prog w) A (pyIter (.ref I)) Q E s := by
  have ty : s.TypeIs (.ref I) "reversed" := ⟨_, hI, rfl⟩
  refine wpAny_pyIter_slot ty slot_rv_iter (wpAny_call_entry slot_rv_iter ty entry_rv_iter ?_ (args_rv_iter _))
  show wpAny _ _ (ret (.ref I)) _ _ s
  exact wpAny_pure ⟨_, rfl, "reversed", _, ty, slot_rv_next.lookup, h⟩
end
def Itv (K : PySem.W.Frag) (a : Addr) (n : Nat) : It :=
  ⟨fun i H => i < n ∧ ∃ xs, SqT K H a xs ∧ xs.length = n, fun i H x H' => H' = H ∧ ∀ xs, SqT K H a xs → xs.reverse[i]? = some x, fun i H => n ≤ i⟩
theorem turn_rev {P : Program} {w : World} {K : PySem.W.Frag} {tg : Expr} (a it : Addr) (n : Nat) : Turn P w K tg (Itv K a n) [it] it (fun i h => i ≤ n ∧ h.get? it = some (rvObj a ((n : Int) - 1 - (i : Int)))) where
  mem := by simp
  obj := fun i h st b hb => by
    have e : b = it := by simpa using hb
    subst e
    exact ⟨_, st.2, fun v z => by
      have z' : Data.fields _ = Data.cell v := z
      cases z'⟩
  keep := fun i h h' st k => ⟨st.1, k it (by simp) _ st.2⟩
  item := by
    intro X hP hw hK hc i pins s σ H E I hf st hg
    subst hP hw hK
    obtain ⟨hi, xs, hq, hn⟩ := hg
    obtain ⟨its, rv, p, hz⟩ := I.tuple hq
    have ln : xs.length = its.length := rv.length
    have hk : n - 1 - i < xs.length := by omega
    obtain ⟨u, hu, ru⟩ := rv.get (List.getElem?_eq_getElem hk)
    obtain ⟨f0, f1, f2, f3, f4, f5⟩ := hf it (by simp)
    have e1 : (n : Int) - 1 - (i : Int) = ((n - 1 - i : Nat) : Int) := by omega
    have st1 := st.2
    rw [e1] at st1
    refine rv_item st1 (show IsTup s.heap a its.toArray from p) (x := u) (by simpa using hu) ?_ fun h' tk st' sb => ?_
    · have : its.toArray.size = xs.length := by simp [ln]
      rw [this]
      have := Nat.lt_of_le_of_lt hz line63
      omega
    have I1 : Inv X pins σ H { s with heap := h', toks := tk } := I.turned (t' := tk) (fun b o hb e => (sb.2 b hb).trans e) f0 f1 f3 f4 f5
    refine ⟨u, rfl, go_of (s := { s with heap := h', toks := tk }) st' rfl rfl (by decide) ⟨xs[n - 1 - i], H, I1, ru, ⟨rfl, fun ys hy => ?_⟩, ⟨hi, ?_⟩, fun b hb => (hf b hb).1⟩⟩
    · rw [I.tuple_inj hy hq, List.getElem?_reverse (by omega), List.getElem?_eq_getElem (by omega)]
      congr 2
      omega
    · have e2 : (n : Int) - 1 - ((i + 1 : Nat) : Int) = ((n - 1 - i : Nat) : Int) - 1 := by omega
      rw [e2]
      exact st'
  done := by
    intro X hP hw hK hc i pins s σ H E I hf st hg
    subst hP hw hK
    obtain ⟨f0, f1, f2, f3, f4, f5⟩ := hf it (by simp)
    have hg' : n ≤ i := hg
    have st1 := st.2
    rw [show (n : Int) - 1 - (i : Int) = -1 by have := st.1; omega] at st1
    exact rv_end (I.ok.hd hc) st1 fun h' eb => ⟨rfl, I.turned (t' := s.toks) (fun b o hb e => eb b o hb e) f0 f1 f3 f4 f5⟩
  self := fun _ _ _ _ _ st h => rv_self st.2 h
section
variable {X : Cx} {tg : Expr}
def iRev (K : PySem.W.Frag) (ta : TA) : TI := fun σ H R => ta σ H fun vs H1 => ∃ a xs, vs = [.ref a] ∧ SqT K H1 a xs ∧ R (Itv K a xs.length) H1
theorem pi_rev {e : Expr} {ta : TA} {p pos : Pos} (hg : Gl X "reversed") (hm : X.mg "reversed" = none) (ha : PA X [e] ta) (hs : starEach [e] X.env = [(false, eval e X.env)] := by rfl) : PI X tg (.Call (.Name "reversed" p) [e] [] pos) (iRev X.K ta) := by
  intro pins s σ H R I h
  refine Call_ (ld_blt I hg hm boot_reversed (PyProof.Rows.callWith_type1 (thn (ha pos pins s σ H _ I h) fun us s1 ⟨vs, H1, I1, r1, q1⟩ => ?_) hs rfl))
  obtain ⟨a, xs, e, hq, q⟩ := q1
  subst e
  cases r1 with
  | cons r rr =>
    cases rr
    cases r
    obtain ⟨its, rv, p, hz⟩ := I1.tuple hq
    have ln : (its.toArray.size : Int) = xs.length := by simp [rv.length]
    refine call_rv (show IsTup s1.heap a its.toArray from p) ?_ fun tk => ?_
    · rw [ln]
      have := Nat.lt_of_le_of_lt hz line63
      omega
    refine rv_self (Heap.get?_push_size _ rfl) ?_
    refine ⟨s1.heap.objs.size, [s1.heap.objs.size], _, _, H1, rfl, I1.kept (t' := tk) fun b o e => Heap.get?_push_of_some _ e, turn_rev a _ xs.length, ⟨Nat.zero_le _, ?_⟩, fun b hb => ?_, q⟩
    · rw [show (xs.length : Int) - 1 - ((0 : Nat) : Int) = (its.toArray.size : Int) - 1 by rw [ln]; simp]
      exact Heap.get?_push_size _ rfl
    · have e : b = s1.heap.objs.size := by simpa using hb
      subst e
      exact I1.fpOk (Nat.le_refl _) (I1.hok.fresh (Nat.le_refl _))
end
theorem comp_rev {K : PySem.W.Frag} {a : Addr} {xs : List V} {g : TG} {tc : TT} {te : TE} {σ0 : St} {H1 : Hp} {F : List V → Hp → Prop} (Pv : Nat → List V → Hp → Prop) (h0 : Pv 0 [] H1)
    (hl : ∀ i ys H, i ≤ xs.length → Pv i ys H → SqT K H a xs ∧ ys.length < sizeLine)
    (hs : ∀ i x ys H, xs.reverse[i]? = some x → Pv i ys H → compTurnT g tc te σ0 x H ys (Pv (i + 1))) (hd : ∀ ys H, Pv xs.length ys H → F ys H) : CompW (Itv K a xs.length) g tc te σ0 H1 F := by
  refine ⟨fun i m ys H => m = xs.length - i ∧ i ≤ xs.length ∧ Pv i ys H, ⟨xs.length, by simp, Nat.zero_le _, h0⟩, ?_⟩
  rintro i m ys H ⟨rfl, hi, p⟩
  obtain ⟨q, z⟩ := hl i ys H hi p
  by_cases hlt : i < xs.length
  · refine .inr ⟨⟨hlt, xs, q, rfl⟩, z, Pv (i + 1), fun zs H' p' => ⟨xs.length - (i + 1), by omega, rfl, hlt, p'⟩, fun x H' y => ?_⟩
    obtain ⟨e, y⟩ := y
    subst e
    exact hs i x ys _ (y xs q) p
  · have e : i = xs.length := by omega
    subst e
    exact .inl ⟨Nat.le_refl _, hd ys H p⟩
theorem for_rev {K : PySem.W.Frag} {a : Addr} {xs : List V} {g : TG} {tb : TS} {D : Ends} {σ : St} {H : Hp} (Pv : Nat → St → Hp → Prop) (h0 : Pv 0 σ H) (hl : ∀ i σ H, i ≤ xs.length → Pv i σ H → SqT K H a xs)
    (hs : ∀ i x σ H, xs.reverse[i]? = some x → Pv i σ H → g x σ H fun σ2 H2 => tb { D with nx := Pv (i + 1), ct := Pv (i + 1), bk := D.nx } σ2 H2) (hd : ∀ σ H, Pv xs.length σ H → D.nx σ H) :
    ∃ W : Nat → Nat → St → Hp → Prop, (∃ m, W 0 m σ H) ∧ ∀ i m σ H, W i m σ H →
      ((Itv K a xs.length).stop i H ∧ D.nx σ H) ∨ ((Itv K a xs.length).go i H ∧ ∃ N : St → Hp → Prop, (∀ σ' H', N σ' H' → ∃ m', m' < m ∧ W (i + 1) m' σ' H') ∧ ∀ x H', (Itv K a xs.length).yld i H x H' → g x σ H' fun σ2 H2 => tb { D with nx := N, ct := N, bk := D.nx } σ2 H2) := by
  refine ⟨fun i m σ H => m = xs.length - i ∧ i ≤ xs.length ∧ Pv i σ H, ⟨xs.length, by simp, Nat.zero_le _, h0⟩, ?_⟩
  rintro i m σ H ⟨rfl, hi', p⟩
  have q := hl i σ H hi' p
  by_cases hlt : i < xs.length
  · refine .inr ⟨⟨hlt, xs, q, rfl⟩, Pv (i + 1), fun σ' H' p' => ⟨xs.length - (i + 1), by omega, rfl, hlt, p'⟩, fun x H' y => ?_⟩
    obtain ⟨e, y⟩ := y
    subst e
    exact hs i x σ _ (y xs q) p
  · have e : i = xs.length := by omega
    subst e
    exact .inl ⟨Nat.le_refl _, hd σ H p⟩
theorem len0 {us : List Value} {p : List Value → Prop} (h : us.length = 0) (k : p []) : p us := by rw [List.eq_nil_of_length_eq_zero h]; exact k
theorem len1 {us : List Value} {p : List Value → Prop} (h : us.length = 1) (k : ∀ a, p [a]) : p us := by
  obtain ⟨a, r, rfl⟩ := List.exists_cons_of_length_eq_add_one h
  exact len0 (p := fun r => p (a :: r)) (Nat.succ.inj h) (k a)
theorem len2 {us : List Value} {p : List Value → Prop} (h : us.length = 2) (k : ∀ a b, p [a, b]) : p us := by
  obtain ⟨a, r, rfl⟩ := List.exists_cons_of_length_eq_add_one h
  exact len1 (p := fun r => p (a :: r)) (Nat.succ.inj h) (k a)
theorem len3 {us : List Value} {p : List Value → Prop} (h : us.length = 3) (k : ∀ a b c, p [a, b, c]) : p us := by
  obtain ⟨a, r, rfl⟩ := List.exists_cons_of_length_eq_add_one h
  exact len2 (p := fun r => p (a :: r)) (Nat.succ.inj h) (k a)
theorem len4 {us : List Value} {p : List Value → Prop} (h : us.length = 4) (k : ∀ a b c d, p [a, b, c, d]) : p us := by
  obtain ⟨a, r, rfl⟩ := List.exists_cons_of_length_eq_add_one h
  exact len3 (p := fun r => p (a :: r)) (Nat.succ.inj h) (k a)
theorem len5 {us : List Value} {p : List Value → Prop} (h : us.length = 5) (k : ∀ a b c d e, p [a, b, c, d, e]) : p us := by
  obtain ⟨a, r, rfl⟩ := List.exists_cons_of_length_eq_add_one h
  exact len4 (p := fun r => p (a :: r)) (Nat.succ.inj h) (k a)
theorem len6 {us : List Value} {p : List Value → Prop} (h : us.length = 6) (k : ∀ a b c d e f, p [a, b, c, d, e, f]) : p us := by
  obtain ⟨a, r, rfl⟩ := List.exists_cons_of_length_eq_add_one h
  exact len5 (p := fun r => p (a :: r)) (Nat.succ.inj h) (k a)
theorem Cal.mono {P : Program} {w : World} {K : PySem.W.Frag} {mg : Str → Option Value} {base : Heap} {j k : Nat} {x : Str} {ps : List Str} {sp : Sp} (G : Cal P w K mg base j x ps sp) (h : j ≤ k) : Cal P w K mg base k x ps sp := by
  obtain ⟨f, fd, a, b, c, d⟩ := G.ex
  exact ⟨f, fd, a.mono h, b, c, d⟩
theorem MCal.mono {P : Program} {w : World} {K : PySem.W.Frag} {mg : Str → Option Value} {base : Heap} {j k : Nat} {C : Addr} {m : Str} {ps : List Str} {sp : Sp} (G : MCal P w K mg base j C m ps sp) (h : j ≤ k) : MCal P w K mg base k C m ps sp := by
  obtain ⟨f, fd, a, b, c⟩ := G.ex
  exact ⟨G.cl, f, fd, a.mono h, b, c⟩
theorem Mkr.mono {P : Program} {w : World} {K : PySem.W.Frag} {mg : Str → Option Value} {base : Heap} {j k : Nat} {C : Addr} {x : Str} {ps : List Str} {sp : Sp} (G : Mkr P w K mg base j C x ps sp) (h : j ≤ k) : Mkr P w K mg base k C x ps sp := by
  obtain ⟨f, fd, a, b, c, d⟩ := G.ex
  exact ⟨f, fd, a.mono h, b, c, d⟩
theorem pe_con_str {X : Cx} {x z : Str} {pos : Pos} (hg : Gl X x) (hm : ∃ t, X.mg x = some (.str z t)) (hd : (x == ("__debug__" : Str)) = false := by decide) : PE X (.Name x pos) (tC (.str z)) := by
  obtain ⟨t, e⟩ := hm
  exact pe_glob hg e ⟨t, rfl⟩ hd
end L2

set_option Elab.async false
set_option linter.all false
set_option maxRecDepth 100000
set_option maxHeartbeats 4000000
namespace L2
open PySem PySem.Spec PyProof.Rows
section
variable {X : Cx}
theorem ints_of_keys {P : Program} {w : World} : ∀ {ns : List Int} {vs : List Value}, vs.length = ns.length → (∀ (j : Nat) (v : Value), vs[j]? = some v → ∃ k : Key, (ns.map Sum.inl)[j]? = some k ∧ (mixKind P w).is k v = true) → IntsAre vs ns
  | [], [], _, _ => .nil
  | [], _ :: _, h, _ => by cases h
  | _ :: _, [], h, _ => by cases h
  | n :: ns, v :: vs, h, q => by
    obtain ⟨k, e, hk⟩ := q 0 v rfl
    cases e
    rcases keyIs_shape (show keyIs (Sum.inl n) v = true from hk) with ⟨i, t, e1, rfl⟩ | ⟨x, t, e1, _⟩
    · cases e1
      exact .cons n t (ints_of_keys (Nat.succ.inj h) fun j u hu => q (j + 1) u hu)
    · cases e1
theorem dict_collect {prog : Program} {w : World} {A : Around} {E : Value → Shared → Prop} {s : Shared} {R : List Value → Shared → Prop} {T : String} {r d : Addr} {n : Nat} {P : Nat → Value → Prop} {OK : Heap → Prop} (K : PySem.W.KdlSrc prog w T r d n P OK) (hh : A.handled = none) (hok : OK s.heap) (hn : n ≤ sizeLine)
    (fin : ∀ (h' : Heap) (tk : Nat) (acc : Array Value), (∀ b o, s.heap.get? b = some o → h'.get? b = some o) → s.heap.objs.size < h'.objs.size → ItemsOf P acc n → R acc.toList { s with heap := h', toks := tk }) : wpAny (model prog w) A (collect (.ref r)) R E s := by
  have hlt := K.there _ hok
  unfold collect
  refine wpAny_bind (wpAny_runValue (codeAny_builtin entry_proto_collect' ?_))
  rw [Around.under_plainId PySem.F.plain_proto_collect _]
  refine (show wpAny _ A.in1 (newList [] >>= fun l => again (.builtin "list.__iadd__" ⟨[l, .ref r], []⟩)) _ _ s from wpAny_bind (wpAny_newObj_type (wpAny_pure ⟨plainId_quiet PySem.F.plain_list_iadd _, codeAny_builtin entry_list_iadd' ?_⟩)))
  rw [Around.under_plainId PySem.F.plain_list_iadd _]
  have g1 : (s.heap.push { cls := .type "list", data := .seq ([] : List Value).toArray }).get? s.heap.objs.size = some { cls := .type "list", data := .seq #[] } := Heap.get?_push_size _ rfl
  have ext := PySem.W.kdl_extend (A := A) (s := { s with heap := s.heap.push { cls := .type "list", data := .seq ([] : List Value).toArray } })
    (R := fun (q : Result) (s' : Shared) => ∃ (h' : Heap) (tk : Nat) (acc : Array Value) (c' : Nat), q = .ok (.ret (.ref s.heap.objs.size)) ∧ s' = { s with heap := h', toks := tk } ∧ (∀ b o, s.heap.get? b = some o → h'.get? b = some o) ∧
      h'.get? s.heap.objs.size = some { cls := .type "list", dict := none, data := .seq acc c', slots := #[] } ∧ ItemsOf P acc n)
    K hh (K.keep _ _ hok fun b _ o e => Heap.get?_push_of_some _ e) s.heap.objs.size (Nat.ne_of_gt hlt.1) (Nat.ne_of_gt hlt.2) (.ref s.heap.objs.size) 0 g1
    (fun h' tk acc c' k hS' so => ⟨h', tk, acc, c', rfl, rfl, fun b o e => k b o (Nat.ne_of_lt (Heap.lt_size e)) (Heap.get?_push_of_some _ e), hS', so⟩) hn
  refine (show wpAny _ A.in1 (Builtin.List.listExtendWith (.ref s.heap.objs.size) (.ref r) (.ref s.heap.objs.size)) _ _ _ from wpAny_mono ext (fun f s' x => ?_) fun e s' x => ?_)
  · cases f with
    | done f =>
      obtain ⟨h', tk, acc, c', e, rfl, k, hS', so⟩ := x
      cases e
      exact (show wpAny _ A (load s.heap.objs.size >>= _) _ _ _ from wpAny_bind (wpAny_load hS' (wpAny_pure (fin h' tk _ k (Heap.lt_size hS') so))))
    | again c1 =>
      refine ⟨x.1, codeAny_mono x.2 fun q s2 y => ?_⟩
      obtain ⟨h', tk, acc, c', rfl, rfl, k, hS', so⟩ := y
      exact (show wpAny _ A (load s.heap.objs.size >>= _) _ _ _ from wpAny_bind (wpAny_load hS' (wpAny_pure (fin h' tk _ k (Heap.lt_size hS') so))))
  · obtain ⟨_, _, _, _, e', _⟩ := x
    cases e'
theorem call_sorted_dict (hc : X.calm = true) : CallR X (.builtin "sorted") (fun xs H Q => ∃ (p : Addr) (kvs : List (Key × V)) (ns : List Int), xs = [.ref p] ∧ H p = some (.dK kvs) ∧ kvs.map (·.1) = ns.map Sum.inl ∧ ns.length < 64 ∧
    ∀ (l : Addr) (ms : List Int), H l = none → ms.Perm ns → ms.Pairwise (· ≤ ·) → Q (.ref l) (upd H l (.lst (ms.map V.int)))) := by
  intro pins s σ H xs us Q I r h
  obtain ⟨p, kvs, ns, rfl, hp, hk, h64, q⟩ := h
  obtain ⟨u, rfl, rx⟩ := vals1 r
  cases rx
  obtain ⟨_, lo, kv, rk, dd⟩ := dk_of I.hok hp
  obtain ⟨ep, hat⟩ := dd.dictAt
  have lk : kv.length = ns.length := by
    have e1 := rk.length
    have e2 := congrArg List.length hk
    rw [List.length_map, List.length_map] at e2
    omega
  refine Calls.call_function_entry kind_sorted plain_sorted entry_sorted (args_sorted1 _) ?_
  unfold Builtin.«sorted»
  refine wpAny_bind (m := checkCount "sorted" 1 1 _) (wpAny_pure ?_)
  refine wpAny_bind (dict_collect (A := X.A.in1) (PySem.W.kdl_dict (knd := mixKind X.prog X.w) (kvs := kv) (ep := ep) lo) (I.ok.hd hc) hat (by rw [sizeLine_eq]; omega) fun h' tk acc kp slt items => ?_)
  have hi : IntsAre acc.toList ns := ints_of_keys (P := X.prog) (w := X.w) (by rw [Array.length_toList, items.1, lk]) fun j v hv => by
    obtain ⟨k, x, e, ik⟩ := items.2 j v (by rw [← Array.getElem?_toList]; exact hv)
    refine ⟨k, ?_, ik⟩
    rw [← hk, rk.keys, List.getElem?_map, e]
    rfl
  have lv : acc.toList.length < 64 := by rw [IntsAre.length hi]; exact h64
  refine wpAny_bind (wpAny_newList ?_ (by rw [sizeLine_eq]; omega))
  have g1 : (h'.push (seqObj "list" acc.toList.toArray 0)).get? h'.objs.size = some (seqObj "list" acc.toList.toArray 0) := Heap.get?_push_size _ rfl
  refine wpAny_bind (wpAny_holding (wpAny_call_entry slot_list_sort ⟨_, g1, rfl⟩ entry_list_sort (list_sort_tree g1 hi lv fun out ns' a1 a2 a3 => ⟨_, rfl, ?_⟩) (args_list_sort _)))
  refine wpAny_pure ⟨_, rfl, ?_⟩
  obtain ⟨e, he⟩ := sortedHeap_at (out := out) g1
  have sle : s.heap.objs.size ≤ h'.objs.size := Nat.le_of_lt slt
  have old : ∀ b o, s.heap.get? b = some o → (sortedHeap (h'.push (seqObj "list" acc.toList.toArray 0)) h'.objs.size acc.toList out).get? b = some o := fun b o e => by
    have hb := Heap.lt_size (kp b o e)
    rw [sortedHeap_old (Nat.ne_of_lt hb) (by rw [size_push']; exact Nat.lt_succ_of_lt hb)]
    exact Heap.get?_push_of_some _ (kp b o e)
  refine ⟨.ref h'.objs.size, _, I.laid (a := h'.objs.size) (o := .lst (ns'.map V.int)) (t' := tk) old sle (show ObjOk X.prog X.w _ _ _ (.lst (ns'.map V.int)) from ⟨?_, out.toList, e, vals_ints a1, ?_⟩), rfl, q _ ns' (I.hok.fresh sle) a2 a3⟩
  · rw [List.length_map, a2.length_eq, sizeLine_eq]
    omega
  · simpa using he
end
end L2

set_option Elab.async false
set_option linter.all false
set_option maxRecDepth 100000
set_option maxHeartbeats 4000000
namespace L2
open PySem PySem.Spec PyProof.Rows
theorem look_list_keys : typeLookup (.type "list") "keys" = pure none := am_miss_of_fast (by kernel_rfl)
theorem look_tuple_keys : typeLookup (.type "tuple") "keys" = pure none := am_miss_of_fast (by kernel_rfl)
theorem look_list_ga : typeLookup (.type "list") "__getattr__" = pure none := by rw [typeLookup_type, builtinLookup_eq_fast]; kernel_rfl
theorem look_tuple_ga : typeLookup (.type "tuple") "__getattr__" = pure none := by rw [typeLookup_type, builtinLookup_eq_fast]; kernel_rfl
section
variable {prog : Program} {w : World} {A : Around} {E : Value → Shared → Prop} {s : Shared}
theorem ga_list_keys {a : Addr} {items : Array Value} {n : Nat} {sl : Array (Option Value)} {u : Tok} {R : Result → Shared → Prop} (hA : A.handled = none) (ho : s.heap.get? a = some ⟨.type "list", none, .seq items n, sl⟩) (h : ∀ h' tk e, Heap.NewAttrErr s.heap h' e (.ref a) "keys" → R (.error (.ref e)) { s with heap := h', toks := tk }) :
    wpAny (model prog w) A.in1 (Builtin.«object.__getattribute__» ⟨[.ref a, .str "keys" u], []⟩) (fun fin s' => match fin with | .done f => R (.ok f) s' | .again c' => c'.quiet = true ∧ codeAny (model prog w) A c' R s') (fun e s' => R (.error e) s') s := by
  obtain ⟨hp, g, d, tk, os⟩ := s
  have hT : (⟨hp, g, d, tk, os⟩ : Shared).TypeIs (.ref a) "list" := ⟨_, ho, rfl⟩
  have f1 := look_list_keys
  unfold Builtin.«object.__getattribute__»
  repeat (any_goals (first | assumption | wp_step))
  exact wpAny_raiseAttrError hA h (attrMsg_fits (by decide +kernel) (by decide +kernel))
theorem ga_tuple_keys {a : Addr} {items : Array Value} {n : Nat} {sl : Array (Option Value)} {u : Tok} {R : Result → Shared → Prop} (hA : A.handled = none) (ho : s.heap.get? a = some ⟨.type "tuple", none, .seq items n, sl⟩) (h : ∀ h' tk e, Heap.NewAttrErr s.heap h' e (.ref a) "keys" → R (.error (.ref e)) { s with heap := h', toks := tk }) :
    wpAny (model prog w) A.in1 (Builtin.«object.__getattribute__» ⟨[.ref a, .str "keys" u], []⟩) (fun fin s' => match fin with | .done f => R (.ok f) s' | .again c' => c'.quiet = true ∧ codeAny (model prog w) A c' R s') (fun e s' => R (.error e) s') s := by
  obtain ⟨hp, g, d, tk, os⟩ := s
  have hT : (⟨hp, g, d, tk, os⟩ : Shared).TypeIs (.ref a) "tuple" := ⟨_, ho, rfl⟩
  have f1 := look_tuple_keys
  unfold Builtin.«object.__getattribute__»
  repeat (any_goals (first | assumption | wp_step))
  exact wpAny_raiseAttrError hA h (attrMsg_fits (by decide +kernel) (by decide +kernel))
theorem code_list_keys {a : Addr} {items : Array Value} {n : Nat} {sl : Array (Option Value)} {u : Tok} {R : Result → Shared → Prop} (hA : A.handled = none) (ho : s.heap.get? a = some ⟨.type "list", none, .seq items n, sl⟩) (h : ∀ h' tk e, Heap.NewAttrErr s.heap h' e (.ref a) "keys" → R (.error (.ref e)) { s with heap := h', toks := tk }) :
    codeAny (model prog w) A (.call (.builtin "list.__getattribute__") ⟨[.ref a, .str "keys" u], []⟩) R s :=
  codeAny_call_builtin F.slot_list_getattribute.plain F.entry_list_ga (F.slot_list_getattribute.check _ _ _ _ _ _ _ _ (show s.TypeIs (.ref a) "list" from ⟨_, ho, rfl⟩) (F.args_list_getattribute_2 _ _) (ga_list_keys (R := R) hA ho h))
theorem miss_list_keys {a : Addr} {items : Array Value} {n : Nat} {sl : Array (Option Value)} {Q : Option Value → Shared → Prop} (hA : A.handled = none) (ho : s.heap.get? a = some ⟨.type "list", none, .seq items n, sl⟩) (h : ∀ h' tk, (∀ b o, s.heap.get? b = some o → h'.get? b = some o) → Q none { s with heap := h', toks := tk }) :
    wpAny (model prog w) A (getAttr? (.ref a) "keys") Q E s := by
  obtain ⟨hp, g, d, tk, os⟩ := s
  have hT : ∀ tk', (⟨hp, g, d, tk', os⟩ : Shared).TypeIs (.ref a) "list" := fun _ => ⟨_, ho, rfl⟩
  have f1 := sub_AttributeError
  have f3 := F.slot_list_getattribute.lookup
  have f4 := F.slot_list_getattribute.bind (.ref a)
  have f5 := look_list_ga
  unfold getAttr? getAttrBy? getAttrBy
  repeat (any_goals (first | assumption | exact hT _ | wp_step))
  refine code_list_keys (s := ⟨hp, g, d, tk + 1, os⟩) hA ho fun h' tk' e hx => ?_
  obtain ⟨t', u', he⟩ := hx.there
  show wpAny _ _ (getattributeRaised _ _ _ _ _ _ _) _ _ _
  unfold getattributeRaised
  repeat (any_goals (first | assumption | wp_step))
  exact h _ _ hx.keeps
theorem code_tuple_keys {a : Addr} {items : Array Value} {n : Nat} {sl : Array (Option Value)} {u : Tok} {R : Result → Shared → Prop} (hA : A.handled = none) (ho : s.heap.get? a = some ⟨.type "tuple", none, .seq items n, sl⟩) (h : ∀ h' tk e, Heap.NewAttrErr s.heap h' e (.ref a) "keys" → R (.error (.ref e)) { s with heap := h', toks := tk }) :
    codeAny (model prog w) A (.call (.builtin "tuple.__getattribute__") ⟨[.ref a, .str "keys" u], []⟩) R s :=
  codeAny_call_builtin F.slot_tuple_getattribute.plain F.entry_tuple_ga (F.slot_tuple_getattribute.check _ _ _ _ _ _ _ _ (show s.TypeIs (.ref a) "tuple" from ⟨_, ho, rfl⟩) (F.args_tuple_getattribute_2 _ _) (ga_tuple_keys (R := R) hA ho h))
theorem miss_tuple_keys {a : Addr} {items : Array Value} {n : Nat} {sl : Array (Option Value)} {Q : Option Value → Shared → Prop} (hA : A.handled = none) (ho : s.heap.get? a = some ⟨.type "tuple", none, .seq items n, sl⟩) (h : ∀ h' tk, (∀ b o, s.heap.get? b = some o → h'.get? b = some o) → Q none { s with heap := h', toks := tk }) :
    wpAny (model prog w) A (getAttr? (.ref a) "keys") Q E s := by
  obtain ⟨hp, g, d, tk, os⟩ := s
  have hT : ∀ tk', (⟨hp, g, d, tk', os⟩ : Shared).TypeIs (.ref a) "tuple" := fun _ => ⟨_, ho, rfl⟩
  have f1 := sub_AttributeError
  have f3 := F.slot_tuple_getattribute.lookup
  have f4 := F.slot_tuple_getattribute.bind (.ref a)
  have f5 := look_tuple_ga
  unfold getAttr? getAttrBy? getAttrBy
  repeat (any_goals (first | assumption | exact hT _ | wp_step))
  refine code_tuple_keys (s := ⟨hp, g, d, tk + 1, os⟩) hA ho fun h' tk' e hx => ?_
  obtain ⟨t', u', he⟩ := hx.there
  show wpAny _ _ (getattributeRaised _ _ _ _ _ _ _) _ _ _
  unfold getattributeRaised
  repeat (any_goals (first | assumption | wp_step))
  exact h _ _ hx.keeps
end
end L2

set_option Elab.async false
set_option linter.all false
set_option maxRecDepth 100000
set_option maxHeartbeats 4000000
namespace L2
open PySem PySem.Spec PyProof.Rows
theorem entry_upd_loop : entryFor table "dict.update.loop" = some Builtin.«dict.update.loop» := entryFor_of_tree (by kernel_rfl)
theorem plain_upd_loop : plainId "dict.update.loop" = true := by decide +kernel
section
variable {prog : Program} {w : World} {A : Around} {κ : Type} [DecidableEq κ] {kd : KeyKind prog w κ} {I : Addr} {fp wr : List Addr} {G : Array GenState → Array GenState → Prop} {n : Nat} {P : Nat → Value → Prop} {St : Nat → Shared → Prop}
def PairAt (kd : KeyKind prog w κ) (h : Heap) (v : Value) (kv : κ × Value) (out : List Addr) : Prop := ∃ (a : Addr) (o : Obj) (T : String) (k : Value) (c : Nat), v = .ref a ∧ h.get? a = some o ∧ o.cls = .type T ∧ (T = "list" ∨ T = "tuple") ∧ o.data = .seq #[k, kv.2] c ∧ kd.is kv.1 k = true ∧ a ∉ out
theorem dict_fill {R : Result → Shared → Prop} (W : WalksS prog w A.in1 I fp wr G n P St) {d : Addr} (out : d ∉ fp) {h0 : Heap} {vs : List (κ × Value)} (lk : vs.length = n)
    (vals : ∀ i v, P i v → ∃ kv, vs[i]? = some kv ∧ PairAt kd h0 v kv (d :: wr)) (few : n ≤ 1000) :
    ∀ (todo i : Nat) (s : Shared), i + todo = n → St i s → s.heap.DictOf kd d (merged [] (vs.take i)) → (∀ b o, b ∉ d :: wr → h0.get? b = some o → s.heap.get? b = some o) →
      (∀ s', Moved (d :: wr) G s s' → s'.heap.DictOf kd d (merged [] vs) → R (.ok (.ret .none)) s') → codeAny (model prog w) A (.builtin "dict.update.loop" ⟨[.ref d, .ref I, rawInt i, .none], []⟩) R s
  | 0, i, s, ei, st, sx, kp, fin => by
    have e : vs.take i = vs := List.take_of_length_le (by omega)
    rw [e] at sx
    have ei' : i = n := by omega
    subst ei'
    refine codeAny_builtin entry_upd_loop ?_
    rw [Around.under_plainId plain_upd_loop _]
    refine wpAny_bind (W.done s _ _ st fun s' mv => wpAny_bind (wpAny_pure (wpAny_pure (fin s' (mv.mono fun b hb => .tail _ hb) (sx.at fun o => mv.heap d o fun q => out (W.sub _ q))))))
  | todo + 1, i, s, ei, st, sx, kp, fin => by
    refine codeAny_builtin entry_upd_loop ?_
    rw [Around.under_plainId plain_upd_loop _]
    refine wpAny_bind (W.item i s _ _ (by omega) st fun v s1 hv st1 mv => ?_)
    obtain ⟨⟨key, y⟩, ek, a, o, T, k, c, rfl, ho, hc, hT, hd, ik, na⟩ := vals i v hv
    have sx1 := sx.at (h' := s1.heap) fun o => mv.heap d o fun q => out (W.sub _ q)
    have ho1 : s1.heap.get? a = some o := mv.heap a o (fun q => na (.tail _ q)) (kp a o na ho)
    have ty : s1.TypeIs (.ref a) T := ⟨o, ho1, hc⟩
    refine wpAny_bind (wpAny_holding (m := (Builtin.Dict.pairItems (.ref a)).tryCatch _ >>= _) (wpAny_bind (wpAny_tryCatch ?_)))
    unfold Builtin.Dict.pairItems
    refine wpAny_bind (wpAny_typeOf ty ?_)
    rw [if_pos (by rcases hT with rfl | rfl <;> decide)]
    refine wpAny_bind (wpAny_seqItems ho1 hd (wpAny_pure ?_))
    show wpAny _ _ (holding [k, y] (dictSet d k y)) _ _ _
    have lm := merged_length_le [] (vs.take i)
    rw [List.length_take, List.length_nil] at lm
    refine wpAny_holding (wpAny_dictSet_pairs (hsz := by rw [sizeLine_eq]; omega) ik sx1 fun h2 sx2 sb => ?_)
    rw [← merged_take_succ [] vs i (key, y) ek] at sx2
    have far : ∀ b, b ≠ d → h2.get? b = s1.heap.get? b := fun b hb => sb.2 b hb
    refine wpAny_pure ⟨plainId_quiet plain_upd_loop _, dict_fill W out lk vals few todo (i + 1) _ (by omega) (W.frame _ s1 _ _ st1 (Nat.le_succ _) fun b hb o q => ?_) sx2 (fun b o nb q => ?_) fun s3 mv3 sx4 => ?_⟩
    · rw [far b fun z => out (z ▸ hb)]; exact q
    · rw [far b fun z => nb (z ▸ .head _)]
      exact mv.heap b o (fun q => nb (.tail _ q)) (kp b o nb q)
    · refine fin s3 (.trans W.gtrans ((mv.mono fun b hb => .tail _ hb).then_heap (Nat.le_succ _) fun b o hb q => ?_) mv3) sx4
      rw [far b fun z => hb (z ▸ .head _)]; exact q
end
section
variable {prog : Program} {w : World} {A : Around} {E : Value → Shared → Prop} {s : Shared} {κ : Type} [DecidableEq κ] {kd : KeyKind prog w κ}
theorem dict_of {T : String} {p : Addr} {its : Array Value} {c0 : Nat} {sl : Array (Option Value)} {vs : List (κ × Value)} {Q : Value → Shared → Prop} (hh : A.handled = none) (hp : s.heap.get? p = some ⟨.type T, none, .seq its c0, sl⟩) (hT : T = "list" ∨ T = "tuple")
    (lk : vs.length = its.size) (vals : ∀ (i : Nat) v, its[i]? = some v → ∃ kv, vs[i]? = some kv ∧ PairAt kd s.heap v kv []) (few : its.size ≤ 1000) (nd : (vs.map (·.1)).Nodup)
    (fin : ∀ (h' : Heap) (t : Nat), h'.DictOf kd s.heap.objs.size vs → (∀ b u, s.heap.get? b = some u → h'.get? b = some u) → Q (.ref s.heap.objs.size) { s with heap := h', toks := t }) :
    wpAny (model prog w) A (call (.type "dict") [.ref p]) Q E s := by
  refine callType_codes (Q₁ := fun obj s₁ => obj = .ref s.heap.objs.size ∧ s₁ = { s with heap := s.heap.push { cls := .type "dict", data := .dict #[] } }) PySem.F.kt_called_dict (PySem.F.kt_typeCall_dict_1 _) F.entry_dict_init (kt_code_dict_new _ ⟨rfl, rfl⟩) ?_
  rintro obj s₁ ⟨rfl, rfl⟩
  have hnew : (s.heap.push { cls := .type "dict", data := .dict #[] }).DictOf kd s.heap.objs.size [] := Heap.DictOf.new s.heap
  have hp1 : (s.heap.push { cls := .type "dict", data := .dict #[] }).get? p = some ⟨.type T, none, .seq its c0, sl⟩ := Heap.get?_push_of_some _ hp
  have hpl : p < s.heap.objs.size := Heap.lt_size hp
  refine ⟨hnew.typeIs, F.args_dict_init_2 _ _, ?_⟩
  unfold Builtin.«dict.__init__»
  refine wpAny_bind ?_
  unfold Builtin.Dict.selfAndRest
  refine wpAny_bind (wpAny_notOrdered_dict hnew.typeIs ?_)
  show wpAny _ _ (pure (s.heap.objs.size, [Value.ref p])) _ _ _
  refine wpAny_pure ?_
  show wpAny _ _ (Builtin.Dict.updateFrom "dict.__init__" s.heap.objs.size (.ref p) [] .none) _ _ _
  unfold Builtin.Dict.updateFrom
  refine wpAny_bind (wpAny_typeOf (T := T) ⟨_, hp1, rfl⟩ ?_)
  rw [if_pos (by rcases hT with rfl | rfl <;> decide)]
  have main : ∀ (h1 : Heap) (tk : Nat), (∀ b o, (s.heap.push { cls := .type "dict", data := .dict #[] }).get? b = some o → h1.get? b = some o) →
      wpAny (model prog w) A.in1.in1 (do
        rule (toString "dict.__init__" ++ toString ".from-pairs")
        return ← again (.builtin "dict.update.loop" ⟨[.ref s.heap.objs.size, ← pyIter (.ref p), rawInt 0, .none], []⟩))
        (fun fin s' => match fin with | .done f => wants (fun r s₂ => r = .none ∧ Q (.ref s.heap.objs.size) s₂) E (.ok f) s' | .again c' => c'.quiet = true ∧ codeAny (model prog w) A.in1 c' (wants (fun r s₂ => r = .none ∧ Q (.ref s.heap.objs.size) s₂) E) s')
        (fun e s' => wants (fun r s₂ => r = .none ∧ Q (.ref s.heap.objs.size) s₂) E (.error e) s') { s with heap := h1, toks := tk } := by
    intro h1 tk k1
    have hd1 := hnew.keep k1
    have dlt : s.heap.objs.size < h1.objs.size := by
      obtain ⟨_, _, _, e, _⟩ := hd1
      exact Heap.lt_size e
    have hp2 := k1 _ _ hp1
    have apart : p ≠ h1.objs.size := Nat.ne_of_lt (Heap.lt_size hp2)
    have out : s.heap.objs.size ∉ [h1.objs.size, p] := by rw [List.mem_cons, List.mem_singleton]; exact fun z => z.elim (Nat.ne_of_lt dlt) (Nat.ne_of_gt hpl)
    have hh2 : A.in1.in1.handled = none := by simp [hh]
    have nin : ∀ {b : Addr} {o : Obj}, s.heap.get? b = some o → b ∉ [s.heap.objs.size, h1.objs.size] := fun e m => by
      have hb := Heap.lt_size e
      rcases List.mem_cons.mp m with z | z
      · exact absurd hb (by rw [z]; exact Nat.lt_irrefl _)
      · rw [List.mem_singleton] at z
        exact absurd (Nat.lt_trans hb dlt) (by rw [z]; exact Nat.lt_irrefl _)
    have vals' : ∀ (i : Nat) v, its[i]? = some v → ∃ kv, vs[i]? = some kv ∧ PairAt kd s.heap v kv [s.heap.objs.size, h1.objs.size] := fun i v hv => by
      obtain ⟨kv, e, a, o, T, k, c, e1, e2, e3, e4, e5, e6, _⟩ := vals i v hv
      exact ⟨kv, e, a, o, T, k, c, e1, e2, e3, e4, e5, e6, nin e2⟩
    have ends : ∀ (x : Obj) (s' : Shared), Moved [s.heap.objs.size, h1.objs.size] (fun a b => b = a) { s with heap := h1.push x, toks := tk } s' → s'.heap.DictOf kd s.heap.objs.size (merged [] vs) → Q (.ref s.heap.objs.size) s' := fun x s' mv sx => by
      obtain ⟨h', g', d', t', o'⟩ := s'
      obtain rfl : g' = s.gens := mv.gens
      obtain rfl : d' = s.drawn := mv.drawn
      obtain rfl : o' = s.os := mv.os
      rw [merged_nil_of_nodup vs nd] at sx
      exact fin h' t' sx fun b u q => mv.heap b u (nin q) (Heap.get?_push_of_some _ (k1 _ _ (Heap.get?_push_of_some _ q)))
    refine wpAny_bind (wpAny_rule ?_)
    rcases hT with rfl | rfl
    · have hl : h1.IsList p its := ⟨_, hp2, rfl, c0, rfl⟩
      refine wpAny_bind (wpAny_pyIter_list hl (wpAny_pure ⟨plainId_quiet plain_upd_loop _, ?_⟩))
      exact dict_fill (kd := kd) ((Walks.list hh2 _ p apart its).toS) out (h0 := s.heap) lk vals' few its.size 0 _ (Nat.zero_add _) ⟨⟨_, Heap.get?_push_size _ rfl, rfl, rfl⟩, hl.push _⟩ (by rw [List.take_zero]; exact hd1.push _) (fun b o _ q => Heap.get?_push_of_some _ (k1 _ _ (Heap.get?_push_of_some _ q))) fun s' mv sx => ⟨rfl, ends _ s' mv sx⟩
    · have hl : h1.IsTuple p its := ⟨_, hp2, rfl, c0, rfl⟩
      refine wpAny_bind (wpAny_pyIter_tuple hl (wpAny_pure ⟨plainId_quiet plain_upd_loop _, ?_⟩))
      exact dict_fill (kd := kd) ((Walks.tuple hh2 _ p apart its).toS) out (h0 := s.heap) lk vals' few its.size 0 _ (Nat.zero_add _) ⟨⟨_, Heap.get?_push_size _ rfl, rfl, rfl⟩, hl.push _⟩ (by rw [List.take_zero]; exact hd1.push _) (fun b o _ q => Heap.get?_push_of_some _ (k1 _ _ (Heap.get?_push_of_some _ q))) fun s' mv sx => ⟨rfl, ends _ s' mv sx⟩
  have hh2 : A.in1.in1.handled = none := by simp [hh]
  rcases hT with rfl | rfl
  · refine wpAny_bind (miss_list_keys hh2 hp1 fun h1 tk k1 => ?_)
    exact main h1 tk k1
  · refine wpAny_bind (miss_tuple_keys hh2 hp1 fun h1 tk k1 => ?_)
    exact main h1 tk k1
end
section
variable {X : Cx}
def PairV (K : PySem.W.Frag) (H : Hp) (u : V) (kv : Key × V) : Prop := ∃ a, u = .ref a ∧ (SqL K H a [kV kv.1, kv.2] ∨ SqT K H a [kV kv.1, kv.2])
def SqP (K : PySem.W.Frag) (H : Hp) (p : Addr) (ys : List V) : Prop := SqL K H p ys ∨ H p = some (.tup ys)
def rDictOf (K : PySem.W.Frag) : List V → Hp → VK → Prop := fun xs H Q => ∃ p ys kvs, xs = [.ref p] ∧ SqP K H p ys ∧ Paired (PairV K H) ys kvs ∧ ys.length ≤ 1000 ∧ (kvs.map (·.1)).Nodup ∧ ∀ l, H l = none → Q (.ref l) (upd H l (.dK kvs))
theorem pairs_real {pins : List (Addr × Obj)} {σ : St} {H : Hp} {s : Shared} (I : Inv X pins σ H s) : ∀ {ys : List V} {kvs : List (Key × V)} {its : List Value}, Paired (PairV X.K H) ys kvs → Vals ys its →
    ∃ vs, KV kvs vs ∧ vs.length = its.length ∧ ∀ (i : Nat) v, its[i]? = some v → ∃ kv, vs[i]? = some kv ∧ PairAt (mixKind X.prog X.w) s.heap v kv []
  | _, _, _, .nil, .nil => ⟨[], .nil, rfl, fun i v h => by simp at h⟩
  | _ :: ys, kv :: kvs, _ :: its, .cons ⟨a, e, hq⟩ t, .cons r rr => by
    obtain ⟨vs, k1, l1, p1⟩ := pairs_real I t rr
    subst e
    cases r
    have go : ∀ (T : String) (o : Obj) (us : List Value) (c : Nat), s.heap.get? a = some o → o.cls = .type T → (T = "list" ∨ T = "tuple") → o.data = .seq us.toArray c → Vals [kV kv.1, kv.2] us →
        ∃ vs', KV (kv :: kvs) vs' ∧ vs'.length = (Value.ref a :: its).length ∧ ∀ (i : Nat) v, (Value.ref a :: its)[i]? = some v → ∃ kv, vs'[i]? = some kv ∧ PairAt (mixKind X.prog X.w) s.heap v kv [] := fun T o us c h1 h2 h3 h4 h5 => by
      obtain ⟨u1, u2, rfl, r1, r2⟩ := vals2 h5
      refine ⟨(kv.1, u2) :: vs, .cons ⟨rfl, r2⟩ k1, by rw [List.length_cons, List.length_cons, l1], fun i v hv => ?_⟩
      cases i with
      | zero =>
        simp at hv
        subst hv
        exact ⟨_, rfl, a, o, T, u1, c, rfl, h1, h2, h3, by simpa using h4, kV_is r1, by simp⟩
      | succ i => exact p1 i v (by simpa using hv)
    rcases hq with hq | hq
    · obtain ⟨us, rv, pl, _⟩ := I.list hq
      obtain ⟨o, ho, hcl, n, hda⟩ := pl.isList
      exact go "list" o us n ho hcl (.inl rfl) hda rv
    · obtain ⟨us, rv, pl, _⟩ := I.tuple hq
      obtain ⟨o, ho, hcl, n, hda⟩ := pl
      exact go "tuple" o us n ho hcl (.inr rfl) hda rv
theorem call_dict_of {K : PySem.W.Frag} (hK : X.K = K) (hc : X.calm = true) : CallR X (.type "dict") (rDictOf K) := by
  subst hK
  intro pins s σ H xs us Q I r h
  obtain ⟨p, ys, kvs, rfl, hq, pr, hl, nd, q⟩ := h
  obtain ⟨u, rfl, rx⟩ := vals1 r
  cases rx
  have go : ∀ (T : String) (its : List Value) (c0 : Nat) (sl : Array (Option Value)), s.heap.get? p = some ⟨.type T, none, .seq its.toArray c0, sl⟩ → (T = "list" ∨ T = "tuple") → Vals ys its → wpAny (model X.prog X.w) X.A (call (.type "dict") [.ref p]) (EP X pins σ Q) X.xe s :=
    fun T its c0 sl ho hT rv => by
      obtain ⟨vs, k1, l1, p1⟩ := pairs_real I pr rv
      have ln : ys.length = its.length := rv.length
      refine dict_of (kd := mixKind X.prog X.w) (vs := vs) (I.ok.hd hc) ho hT (by simpa using l1) (fun i v hv => p1 i v (by simpa using hv)) (by simp; omega) (by rw [← k1.keys]; exact nd) fun h' t dd kp => ?_
      have big := I.big
      refine ⟨.ref s.heap.objs.size, _, I.laid (a := s.heap.objs.size) (o := .dK kvs) (h' := h') (t' := t) kp (Nat.le_refl _) (dk_new ?_ ?_ k1 dd), rfl, q _ (I.hok.fresh (Nat.le_refl _))⟩
      · have := k1.length
        rw [sizeLine_eq]
        omega
      · exact beq_false_of_ne (Nat.ne_of_gt big)
  rcases hq with hq | hq
  · obtain ⟨its, rv, pl, _⟩ := I.list hq
    obtain ⟨o, n, ho, hcl, hdi, hda⟩ := pl
    obtain ⟨oc, od, oa, os⟩ := o
    simp only at hcl hdi hda
    subst hcl hdi hda
    exact go "list" its n os ho (.inl rfl) rv
  · obtain ⟨_, its, rv, o, ho, hcl, ⟨n, hda⟩, hdi⟩ := (show ObjOk X.prog X.w H s.heap p (.tup ys) from I.hok p _ hq)
    obtain ⟨oc, od, oa, os⟩ := o
    simp only at hcl hdi hda
    subst hcl hdi hda
    exact go "tuple" its n os ho (.inr rfl) rv
end
end L2

set_option Elab.async false
set_option linter.all false
set_option maxRecDepth 100000
set_option maxHeartbeats 4000000
namespace L2
open PySem PySem.Spec PyProof.Rows
def SqS (K : PySem.W.Frag) (t : Bool) (H : Hp) (a : Addr) (xs : List V) : Prop := if t then SqL K H a xs else SqT K H a xs
theorem SqS.of {K : PySem.W.Frag} {H : Hp} {a : Addr} {xs : List V} (h : SqL K H a xs ∨ SqT K H a xs) : ∃ t, SqS K t H a xs := h.elim (fun q => ⟨true, q⟩) fun q => ⟨false, q⟩
theorem SqS.keep {K : PySem.W.Frag} {t : Bool} {H H' : Hp} {a : Addr} {xs : List V} (s : Same H H') (h : SqS K t H a xs) : SqS K t H' a xs := by
  cases t
  · rcases (show SqT K H a xs from h) with (h | ⟨o, h⟩) | h
    · exact .inl (.inl (s _ _ h))
    · exact .inl (.inr ⟨o, s _ _ h⟩)
    · exact .inr h
  · exact s.seq (show SqL K H a xs from h)
def Its (K : PySem.W.Frag) (t : Bool) (a : Addr) : It := if t then Itl K a else Itt K a
section
variable {X : Cx} {tg : Expr}
def iSeq (K : PySem.W.Frag) (tl : TE) : TI := fun σ H R => tl σ H fun x H1 => ∃ a t, x = .ref a ∧ (∃ xs, SqS K t H1 a xs) ∧ R (Its K t a) H1
theorem pi_seq {l : Expr} {tl : TE} (hl : PE X l tl) : PI X tg l (iSeq X.K tl) := by
  intro pins s σ H R I h
  refine thn (hl pins s σ H _ I h) fun v s1 ⟨x, H1, I1, r1, q1⟩ => ?_
  obtain ⟨a, t, e, ⟨xs, hq⟩, q⟩ := q1
  subst e
  cases r1
  cases t
  · obtain ⟨its, rv, p, hz⟩ := I1.tuple hq
    refine wpAny_pyIter_tuple (show s1.heap.IsTuple a its.toArray from p) ?_
    refine ⟨s1.heap.objs.size, [s1.heap.objs.size], _, _, H1, rfl, I1.kept (t' := s1.toks) fun b o e => Heap.get?_push_of_some _ e, turn_tuple a _, ⟨_, Heap.get?_push_size _ rfl, rfl, rfl⟩, fun b hb => ?_, q⟩
    have e : b = s1.heap.objs.size := by simpa using hb
    subst e
    exact I1.fpOk (Nat.le_refl _) (I1.hok.fresh (Nat.le_refl _))
  · obtain ⟨its, rv, p, hz⟩ := I1.list hq
    refine wpAny_pyIter_list p.isList ?_
    refine ⟨s1.heap.objs.size, [s1.heap.objs.size], _, _, H1, rfl, I1.kept (t' := s1.toks) fun b o e => Heap.get?_push_of_some _ e, turn_list a _, ⟨_, Heap.get?_push_size _ rfl, rfl, rfl⟩, fun b hb => ?_, q⟩
    have e : b = s1.heap.objs.size := by simpa using hb
    subst e
    exact I1.fpOk (Nat.le_refl _) (I1.hok.fresh (Nat.le_refl _))
end
theorem comp_seq {K : PySem.W.Frag} {t : Bool} {a : Addr} {xs : List V} {g : TG} {tc : TT} {te : TE} {σ0 : St} {H1 : Hp} {F : List V → Hp → Prop} (Pv : Nat → List V → Hp → Prop) (h0 : Pv 0 [] H1)
    (hl : ∀ i ys H, i ≤ xs.length → Pv i ys H → SqS K t H a xs ∧ ys.length < sizeLine)
    (hs : ∀ i x ys H, xs[i]? = some x → Pv i ys H → compTurnT g tc te σ0 x H ys (Pv (i + 1))) (hd : ∀ ys H, Pv xs.length ys H → F ys H) : CompW (Its K t a) g tc te σ0 H1 F := by
  cases t
  · exact comp_tup Pv h0 hl hs hd
  · exact comp_list Pv h0 hl hs hd
theorem for_seq {K : PySem.W.Frag} {t : Bool} {a : Addr} {xs : List V} {g : TG} {tb : TS} {D : Ends} {σ : St} {H : Hp} (Pv : Nat → St → Hp → Prop) (h0 : Pv 0 σ H) (hl : ∀ i σ H, i ≤ xs.length → Pv i σ H → SqS K t H a xs)
    (hs : ∀ i x σ H, xs[i]? = some x → Pv i σ H → g x σ H fun σ2 H2 => tb { D with nx := Pv (i + 1), ct := Pv (i + 1), bk := D.nx } σ2 H2) (hd : ∀ σ H, Pv xs.length σ H → D.nx σ H) :
    ∃ W : Nat → Nat → St → Hp → Prop, (∃ m, W 0 m σ H) ∧ ∀ i m σ H, W i m σ H →
      ((Its K t a).stop i H ∧ D.nx σ H) ∨ ((Its K t a).go i H ∧ ∃ N : St → Hp → Prop, (∀ σ' H', N σ' H' → ∃ m', m' < m ∧ W (i + 1) m' σ' H') ∧ ∀ x H', (Its K t a).yld i H x H' → g x σ H' fun σ2 H2 => tb { D with nx := N, ct := N, bk := D.nx } σ2 H2) := by
  cases t
  · exact for_tup Pv h0 hl hs hd
  · exact for_list Pv h0 hl hs hd
section
variable {prog : Program} {w : World} {A : Around} {E : Value → Shared → Prop}
theorem draw_list {it t : Addr} {items : Array Value} (hne : t ≠ it) : ∀ (n i : Nat) (s : Shared) (Q : List Value → Shared → Prop), s.heap.IsListIter it t i → s.heap.IsList t items → i + n ≤ items.size →
    (∀ h', h'.IsListIter it t (i + n) → Heap.SameBut it s.heap h' → Q ((items.toList.drop i).take n) { s with heap := h' }) → wpAny (model prog w) A (draw (.ref it) n) Q E s
  | 0, i, s, Q, hit, _, _, hQ => by
    show wpAny _ _ (pure []) Q E s
    exact wpAny_pure (by simpa using hQ s.heap hit (Heap.SameBut.refl ..))
  | n + 1, i, s, Q, hit, ht, hle, hQ => by
    have hlt : i < items.size := by omega
    show wpAny _ _ (pyNext (.ref it) >>= _) Q E s
    refine wpAny_bind (wpAny_pyNext_list_item hit ht (x := items[i]) (by simp [hlt]) fun h₁ hit₁ hs₁ => ?_)
    refine wpAny_bind (wpAny_holding (draw_list hne n (i + 1) _ _ hit₁ (ht.at fun o e => (hs₁.2 t hne).trans e) (by omega) fun h₂ hit₂ hs₂ => wpAny_pure ?_))
    have hd : items.toList.drop i = items[i] :: items.toList.drop (i + 1) := by simp [List.drop_eq_getElem_cons, hlt]
    have := hQ h₂ (by rw [show i + (n + 1) = i + 1 + n by omega]; exact hit₂) (hs₁.trans hs₂)
    rw [hd, List.take_succ_cons] at this
    exact this
theorem unpack_list {s : Shared} {t : Addr} {items : Array Value} {Q : List Value → Shared → Prop} (hh : A.handled = none) (ht : s.heap.IsList t items)
    (hQ : ∀ h', Heap.ExtBut s.heap.objs.size s.heap h' → Q items.toList { s with heap := h' }) : wpAny (model prog w) A (unpackItems (.ref t) items.size none) Q E s := by
  have hlt : t ≠ s.heap.objs.size := by obtain ⟨o, ho, _⟩ := ht; exact Nat.ne_of_lt (Heap.lt_size ho)
  unfold unpackItems
  refine wpAny_bind ?_
  unfold notIterableAtAll
  refine wpAny_bind (wpAny_specialOf ht.typeIs PySem.F.slot_list_iter.lookup ?_)
  refine wpAny_pure ?_
  simp only [Bool.false_eq_true, if_false]
  refine wpAny_bind (wpAny_holding (wpAny_pyIter_list ht ?_))
  refine wpAny_bind (wpAny_holding (draw_list hlt items.size 0 _ _ ⟨_, Heap.get?_push_size _ rfl, rfl, rfl⟩ (ht.push _) (by omega) fun h₁ hit₁ hs₁ => ?_))
  have hall : List.take items.size (List.drop 0 items.toList) = items.toList := by
    rw [List.drop_zero]; exact List.take_of_length_le (by simp)
  rw [hall]
  rw [if_neg (by simp)]
  have ht₁ : h₁.IsList t items := (ht.push _).at fun o e => (hs₁.2 t hlt).trans e
  refine wpAny_bind (wpAny_holding (wpAny_pyNext_list_end hh hit₁ ht₁ (by simp) fun h₂ he₂ => ?_))
  simp only [Option.isSome_none, Bool.false_eq_true, if_false]
  exact wpAny_pure (hQ h₂ fun b o hb e => he₂ b o hb (hs₁.extBut b o hb (Heap.get?_push_of_some _ e)))
theorem assign_Tuple_list {s : Shared} {env : Env} {elts : List Expr} {x1} {pos : Pos} {t : Addr} {items : Array Value} {Q : Unit → Shared → Prop} (hh : A.handled = none) (ht : s.heap.IsList t items)
    (hn : (assignEach elts env).length = items.size) (hstar : (assignEach elts env).findIdx? (·.1) = none)
    (h : ∀ h', Heap.ExtBut s.heap.objs.size s.heap h' → wpAny (model prog w) A (assignInOrder ((assignEach elts env).map (·.2)) items.toList) Q E { s with heap := h' }) :
    wpAny (model prog w) A (assign (.Tuple elts x1 pos) env (.ref t)) Q E s := by
  rw [assign_Tuple]
  refine wpAny_bind (wpAny_standAt ?_)
  unfold unpack
  rw [hn, hstar]
  exact wpAny_bind (wpAny_holding (unpack_list hh ht h))
end
def gSeq (K : PySem.W.Frag) (n : Nat) (t : TGs) : TG := fun v σ H Q => ∃ a xs, v = .ref a ∧ (SqL K H a xs ∨ SqT K H a xs) ∧ xs.length = n ∧ t xs σ H Q
theorem pg_seqK {X : Cx} {K : PySem.W.Frag} {es : List Expr} {k : Nat} {t : TGs} {n : Nat} {pos : Pos} (hK : X.K = K) (hc : X.calm = true) (h : PGs X es t)
    (hn : (assignEach es X.env).length = n := by rfl) (hst : (assignEach es X.env).findIdx? (·.1) = none := by rfl) : PG X (.Tuple es k pos) (gSeq K n t) := by
  subst hK
  intro pins s σ H v u Q I r hw
  obtain ⟨a, xs, e1, hq, hl, hw⟩ := hw
  subst e1
  cases r
  rcases hq with hq | hq
  · obtain ⟨its, rv, ht, hz⟩ := I.list hq
    refine assign_Tuple_list (I.ok.hd hc) ht.isList (by simp [hn, ← hl, rv.length]) hst fun h' hx => ?_
    have I1 : Inv X pins σ H { s with heap := h' } := I.kept (t' := s.toks) fun b o e => hx b o (Nat.ne_of_lt (Heap.lt_size e)) e
    exact h pins _ σ H xs _ Q I1 (by simpa using rv) hw
  · obtain ⟨its, rv, ht, hz⟩ := I.tuple hq
    refine assign_Tuple_tuple (I.ok.hd hc) ht (by simp [hn, ← hl, rv.length]) hst fun h' hx => ?_
    have I1 : Inv X pins σ H { s with heap := h' } := I.kept (t' := s.toks) fun b o e => hx b o (Nat.ne_of_lt (Heap.lt_size e)) e
    exact h pins _ σ H xs _ Q I1 (by simpa using rv) hw
theorem mono_seq {K : PySem.W.Frag} {n : Nat} {t : TGs} (a : MonoGs t) : MonoG (gSeq K n t) := fun v σ H Q Q' f q => by
  obtain ⟨p, xs, e, h1, h2, q⟩ := q
  exact ⟨p, xs, e, h1, h2, a _ _ _ _ _ f q⟩
theorem own_seq {K : PySem.W.Frag} {n k : Nat} {t : TGs} (a : OwnGs n t) : OwnG n (gSeq K k t) := fun v σ H Q q => by
  obtain ⟨p, xs, e, h1, h2, q⟩ := q
  exact ⟨p, xs, e, h1, h2, a _ _ _ _ q⟩
theorem op_catTK {X : Cx} {K : PySem.W.Frag} (hK : X.K = K) : OpR X (binaryOp .Add) (rCatT K) := by
  subst hK
  exact op_catT
end L2

set_option Elab.async false
set_option linter.all false
set_option maxRecDepth 100000
set_option maxHeartbeats 4000000
namespace L2
open PySem PySem.Spec PyProof.Rows
section
variable {X : Cx}
end
structure FunD (K : PySem.W.Frag) (x qual : Str) (st : Stmt) (f : Addr) (fd : FuncData) (T : Addr) (items : Array Value) : Prop where
  ex : ∃ (oc : Value) (od : Option Addr) (kV doc pm : Value) (an : Option Addr) (cdv ct : Value) (osl : Array (Option Value)),
    fd = PySem.W.fnOf x qual (defArgs st) (defBody st) (defScope st) (.ref T) kV doc pm an cdv ct ∧ K.lookup f = some ⟨oc, od, .func fd, osl⟩ ∧ PySem.W.codeIn K cdv qual = true
  kp : PySem.W.keepIn K (.ref f) = true
  dt : ∃ (o : Obj) (n : Nat), K.lookup T = some o ∧ o.data = .seq items n
section
variable {P : Program} {w : World} {K : PySem.W.Frag} {mg : Str → Option Value} {base : Heap}
theorem FunD.ok {x qual : Str} {st : Stmt} {f T : Addr} {items : Array Value} {fd : FuncData} {N ps : List Str} {k : Nat} {sp : Sp} (F : FunD K x qual st f fd T items) (S : FnScope N ps (defScope st)) (len : ∀ vs H Q E, sp vs H Q E → vs.length = ps.length)
    (hbody : ∀ (cdv : Value) (A : Around) (outer : List Env) (s : Shared) (H : Hp) (vs : List V) (Q : VK) (E : XK), Room k (A.deeper (envOfC qual (defScope st) s.heap.objs.size f cdv)) → sp vs H Q E →
      ∃ t, PSs (cxOf CX0 P w K mg base N qual (defScope st) f cdv A outer s H E).nox (defBody st) t ∧ t { nx := fun _ H' => Q .non H', rt := Q } (start N vs) H) : FnOk P w K mg base CX0 (k + 1) f fd ps sp := by
  obtain ⟨oc, od, kV, doc, pm, an, cdv, ct, osl, rfl, lk, hcd⟩ := F.ex
  refine fn_of lk hcd S len fun A outer s H vs Q E hr hsp => ?_
  obtain ⟨t, h, q⟩ := hbody cdv A outer s H vs Q E hr hsp
  exact ⟨t, h.nox, q⟩
theorem FunD.binds {x qual : Str} {st : Stmt} {f T : Addr} {items : Array Value} {fd : FuncData} {ps : List Str} {ds : List Value} (F : FunD K x qual st f fd T items)
    (h : ∀ (kV doc pm : Value) (an : Option Addr) (cdv ct : Value) (us : List Value), us.length + ds.length = ps.length → ∃ k, bindArgs (PySem.W.fnOf x qual (defArgs st) (defBody st) (defScope st) (.ref T) kV doc pm an cdv ct) ⟨us, []⟩ = seqItems? (.ref T) >>= k ∧ k (some items) = pure (ps.zip (us ++ ds))) : Binds K fd ps ds := by
  obtain ⟨oc, od, kV, doc, pm, an, cdv, ct, osl, rfl, lk, hcd⟩ := F.ex
  obtain ⟨o, n, lt, hs⟩ := F.dt
  intro s us KX hl
  rw [List.length_append] at hl
  obtain ⟨k, h1, h2⟩ := h kV doc pm an cdv ct us hl
  exact .of_defaults rfl (KX _ _ lt) hs h1 h2
theorem funD_mk {x qual : Str} {st : Stmt} {f T : Addr} {oc oct : Value} {od odt an : Option Addr} {osl oslt : Array (Option Value)} {items : Array Value} {n : Nat} {kV doc pm cdv ct : Value} (l : K.lookup f = some ⟨oc, od, .func (PySem.W.fnOf x qual (defArgs st) (defBody st) (defScope st) (.ref T) kV doc pm an cdv ct), osl⟩)
    (lt : K.lookup T = some ⟨oct, odt, .seq items n, oslt⟩) (c : PySem.W.codeIn K cdv qual = true) (k : PySem.W.keepIn K (.ref f) = true) : FunD K x qual st f (PySem.W.fnOf x qual (defArgs st) (defBody st) (defScope st) (.ref T) kV doc pm an cdv ct) T items := ⟨⟨oc, od, kV, doc, pm, an, cdv, ct, osl, rfl, l, c⟩, k, _, n, lt, rfl⟩
end
structure MCalD (P : Program) (w : World) (K : PySem.W.Frag) (mg : Str → Option Value) (base : Heap) (k : Nat) (C : Addr) (m : Str) (ps : List Str) (sp : Sp) (dvs : List V) : Prop where
  cl : Cls K C
  ex : ∃ (f : Addr) (fd : FuncData) (ds : List Value), FnOk P w K mg base CX0 k f fd ps sp ∧ Binds K fd ps ds ∧ Vals dvs ds ∧ Meth K C m f
theorem MCalD.mk' {P : Program} {w : World} {K : PySem.W.Frag} {mg : Str → Option Value} {base : Heap} {k : Nat} {C : Addr} {m : Str} {ps : List Str} {sp : Sp} {dvs : List V} {ds : List Value} {f : Addr} {fd : FuncData} (v : Vals dvs ds) (c : Cls K C) (a : FnOk P w K mg base CX0 k f fd ps sp) (b : Binds K fd ps ds) (d : Meth K C m f) :
    MCalD P w K mg base k C m ps sp dvs := ⟨c, f, fd, ds, a, b, v, d⟩
theorem MCalD.mono {P : Program} {w : World} {K : PySem.W.Frag} {mg : Str → Option Value} {base : Heap} {j k : Nat} {C : Addr} {m : Str} {ps : List Str} {sp : Sp} {dvs : List V} (G : MCalD P w K mg base j C m ps sp dvs) (h : j ≤ k) : MCalD P w K mg base k C m ps sp dvs := by
  obtain ⟨f, fd, ds, a, b, v, c⟩ := G.ex
  exact ⟨G.cl, f, fd, ds, a.mono h, b, v, c⟩
theorem pe_mcalD {X : Cx} {k : Nat} {C : Addr} {m : Str} {ps : List Str} {sp : Sp} {dvs : List V} {o e : Expr} {es : List Expr} {ta : TE} {t : TA} {pos apos : Pos} {pl : Sem Bool} (G : MCalD X.prog X.w X.K X.mg X.base k C m ps sp dvs) (hr : Room k X.A) (he : PE X o ta) (ha : PA X (e :: es) t)
    (hst : starEach (e :: es) X.env = (false, eval e X.env) :: starEach es X.env := by rfl) (hpl : (backTo pos (starEach es X.env)).any (·.1) = false := by rfl)
    (ht : eval (.Call (.Attribute o m apos) (e :: es) [] pos) X.env = (do
      let ov ← eval o X.env
      standAt apos.atName
      let (f, first) ← holding [ov] (getMethod ov m pl)
      callWith pos f first (backTo pos (starEach (e :: es) X.env)) (backToKw pos (keywordEach [] X.env))) := by rfl) :
    PE X (.Call (.Attribute o m apos) (e :: es) [] pos) (tMeth C m sp dvs E0 ta t) := by
  obtain ⟨f, fd, ds, a, b, v, d⟩ := G.ex
  exact pe_meth he G.cl d a hr b v pass0 ha hst hpl ht
end L2

set_option Elab.async false
set_option linter.all false
set_option maxRecDepth 100000
set_option maxHeartbeats 4000000
namespace HT
open PySem PySem.Spec PyProof.Rows L2
section
variable {prog : Program} {w : World} {A : Around} {E : Value → Shared → Prop} {s : Shared}
theorem getItem_tuple_all {t sl : Addr} {items : Array Value} {vl vu : Value} {lo hi : Option Int} {Q : Value → Shared → Prop} (ht : IsTup s.heap t items) (hs : s.heap.IsSliceOf sl vl vu .none) (pl : IsPart vl lo) (pu : IsPart vu hi)
    (hw : sIx items.size 0 lo = 0 ∧ sIx items.size items.size hi = items.size) (h : Q (.ref t) s) : wpAny (model prog w) A (getItem (.ref t) (.ref sl)) Q E s := by
  obtain ⟨os, hos, hcs, hds⟩ := id hs
  have hTs : s.TypeIs (.ref sl) "slice" := ⟨os, hos, hcs⟩
  unfold getItem
  try with_reducible refine wpAny_holding ?_
  first | refine wpAny_bind (wpAny_pure ?_) | skip
  refine wpAny_bind (wpAny_sequenceKey ht.typeIs (by decide) ?_)
  refine wpAny_bind (wpAny_callSpecial?_slot (name := Str.ofString "__getitem__") ht.typeIs PyProof.Rows.slot_tuple_getitem
    (wpAny_call_entry PyProof.Rows.slot_tuple_getitem ht.typeIs entry_tuple_getitem ?_ (args_tuple_getitem _ _)))
  show wpAny _ _ (Builtin.Tuple.tupleItemsOf (.ref t) >>= _) _ _ s
  refine wpAny_bind (tupleItemsOf_ ht ?_)
  refine wpAny_bind (wpAny_typeOf hTs ?_)
  rw [if_pos (by decide)]
  refine wpAny_bind (sliceApplied_gen hs pl pu ?_)
  have hyes : (((sIx items.size 0 lo : Nat) : Int) == 0 && (1 : Int) == 1 && (sIx items.size items.size hi - sIx items.size 0 lo) == items.size) = true := by
    rw [hw.1, hw.2]
    simp
  show wpAny _ _ (if (((sIx items.size 0 lo : Nat) : Int) == 0 && (1 : Int) == 1 && (sIx items.size items.size hi - sIx items.size 0 lo) == items.size) = true then _ else _) _ _ s
  rw [if_pos hyes]
  refine wpAny_bind (m := Builtin.Tuple.tupleIsExact _) (wpAny_bind (wpAny_typeOf ht.typeIs (wpAny_pure ?_)))
  rw [if_pos (by decide)]
  refine wpAny_bind (wpAny_rule ?_)
  exact wpAny_pure ⟨_, rfl, wpAny_pure h⟩
end
end HT
namespace L2
open PySem PySem.Spec PyProof.Rows
def tupEq : List V → List V → Bool
  | [], [] => true
  | x :: xs, y :: ys => eqV x y && tupEq xs ys
  | _, _ => false
theorem tupEq_eq : ∀ xs ys : List V, ((List.range (min xs.length ys.length)).all (fun j => eqV (xs.getD j .non) (ys.getD j .non)) && xs.length == ys.length) = tupEq xs ys
  | [], [] => rfl
  | [], _ :: _ => rfl
  | _ :: _, [] => rfl
  | x :: xs, y :: ys => by
    have ih := tupEq_eq xs ys
    unfold tupEq
    rw [← ih, List.length_cons, List.length_cons, Nat.succ_min_succ, List.range_succ_eq_map, List.all_cons, List.all_map, Bool.and_assoc]
    congr 1
    congr 1
    rw [Bool.eq_iff_iff]
    simp
theorem eqV_refl : ∀ {x : V}, flatV x = true → eqV x x = true := fun {x} h => by
  cases x with
  | non => rfl
  | bl b => exact beq_self_eq_true b
  | int i => exact beq_self_eq_true i
  | str z => exact beq_self_eq_true z
  | _ => exact absurd (show false = true from h) Bool.false_ne_true
theorem tupEq_refl : ∀ {xs : List V}, xs.all flatV = true → tupEq xs xs = true
  | [], _ => rfl
  | x :: xs, h => by
    rw [List.all_cons, Bool.and_eq_true] at h
    unfold tupEq
    rw [eqV_refl h.1, tupEq_refl h.2]
    rfl
theorem vals_at : ∀ {xs : List V} {us : List Value}, Vals xs us → xs.all flatV = true → ∀ (j : Nat) (h : j < us.length), RelV (xs.getD j .non) us[j] ∧ flatV (xs.getD j .non) = true
  | _, _, .nil, _, j, h => absurd h (Nat.not_lt_zero _)
  | x :: xs, u :: us, .cons r t, f, 0, h => by
    rw [List.all_cons, Bool.and_eq_true] at f
    exact ⟨r, f.1⟩
  | x :: xs, u :: us, .cons r t, f, j + 1, h => by
    rw [List.all_cons, Bool.and_eq_true] at f
    exact vals_at t f.2 j (Nat.lt_of_succ_lt_succ h)
def eqI : List Value → List V → Bool
  | [], [] => true
  | u :: us, x :: xs => eqU x u && eqI us xs
  | _, _ => false
theorem eqI_of : ∀ {ys : List V} {us : List Value} (xs : List V), Vals ys us → ys.all flatV = true → eqI us xs = tupEq ys xs
  | _, _, [], .nil, _ => rfl
  | _, _, _ :: _, .nil, _ => rfl
  | y :: ys, u :: us, [], .cons r t, f => rfl
  | y :: ys, u :: us, x :: xs, .cons r t, f => by
    rw [List.all_cons, Bool.and_eq_true] at f
    unfold eqI tupEq
    rw [eqU_of r f.1, eqI_of xs t f.2]
section
variable {X : Cx}
theorem rc_tups {A : Around} {s : Shared} {a b : Addr} {its its2 : List Value} {xs ys : List V} (pl : s.heap.IsTuple a its.toArray) (pl2 : s.heap.IsTuple b its2.toArray) (r : Vals xs its) (r2 : Vals ys its2) (f : xs.all flatV = true) (f2 : ys.all flatV = true) (hu : A.units < cLine) :
    SeqAt.RcAt A s (.ref a) (.ref b) (tupEq xs ys) := by
  have h := SeqAt.RcAt.tuples (e := fun j => eqV (xs.getD j .non) (ys.getD j .non)) pl pl2 hu fun j h1 h2 => by
    rw [List.size_toArray] at h1 h2
    obtain ⟨q1, q2⟩ := vals_at r f j h1
    obtain ⟨q3, q4⟩ := vals_at r2 f2 j h2
    exact eqAt_V q1 q3 q2 q4
  rw [List.size_toArray, List.size_toArray, ← r.length, ← r2.length, tupEq_eq] at h
  exact h
def rEqT (K : PySem.W.Frag) : R2 := fun x y H Q => ∃ a b xs ys, x = .ref a ∧ y = .ref b ∧ SqT K H a xs ∧ SqT K H b ys ∧ xs.all flatV = true ∧ ys.all flatV = true ∧ Q (.bl (tupEq xs ys)) H
theorem op_eqT (hu : X.A.units < cLine) : OpR X (compareOp .Eq) (rEqT X.K) := by
  intro pins s σ H x y v u Q I rx ry h
  obtain ⟨a, b, xs, ys, rfl, rfl, ha, hb, f1, f2, q⟩ := h
  cases rx
  cases ry
  obtain ⟨its, r, pl, hz⟩ := I.tuple ha
  obtain ⟨its2, r2, pl2, hz2⟩ := I.tuple hb
  exact rc_tups pl pl2 r r2 f1 f2 hu X.prog X.w X.xe _ ⟨.bl _, H, I, rfl, q⟩
def itemsOf (s : Shared) (xs : List V) : Value → Bool
  | .ref b => match s.heap.get? b with
    | some o => match o.data with
      | .seq its _ => eqI its.toList xs
      | _ => false
    | none => false
  | _ => false
def rNotInT (K : PySem.W.Frag) : R2 := fun x y H Q => ∃ a p xs us yss, x = .ref a ∧ y = .ref p ∧ SqT K H a xs ∧ xs.all flatV = true ∧ SqL K H p us ∧ Paired (fun u ys => ∃ b, u = .ref b ∧ SqT K H b ys ∧ ys.all flatV = true) us yss ∧ Q (.bl (!yss.any fun ys => tupEq ys xs)) H
theorem op_notInT (hu : X.A.units + 1 < cLine) : OpR X (compareOp .NotIn) (rNotInT X.K) := by
  intro pins s σ H x y v u Q I rx ry h
  obtain ⟨a, p, xs, us, yss, rfl, rfl, ha, f1, hp, pr, q⟩ := h
  cases rx
  cases ry
  obtain ⟨its, r, pl, hz⟩ := I.tuple ha
  obtain ⟨its2, r2, pl2, hz2⟩ := I.list hp
  have item : ∀ (b : Addr) (ys : List V), SqT X.K H b ys → ys.all flatV = true → itemsOf s xs (.ref b) = tupEq ys xs ∧ SeqAt.EqAt X.A.in1 s (.ref b) (.ref a) (tupEq ys xs) := fun b ys hb fb => by
    obtain ⟨its3, r3, pl3, hz3⟩ := I.tuple hb
    have e1 : itemsOf s xs (.ref b) = tupEq ys xs := by
      obtain ⟨o, ho, hc, n, hd⟩ := pl3
      unfold itemsOf
      simp only [ho, hd]
      exact eqI_of xs r3 fb
    refine ⟨e1, ?_⟩
    by_cases hne : b = a
    · subst hne
      have e2 : tupEq ys xs = true := by
        rw [← e1]
        obtain ⟨o, ho, hc, n, hd⟩ := pl
        unfold itemsOf
        simp only [ho, hd]
        rw [eqI_of xs r f1]
        exact tupEq_refl f1
      rw [e2]
      exact SeqAt.EqAt.same _
    · exact SeqAt.EqAt.of_refs hne (rc_tups pl3 pl r3 r fb f1 hu)
  have all : ∀ {us : List V} {yss : List (List V)} {vs : List Value}, Paired (fun u ys => ∃ b, u = .ref b ∧ SqT X.K H b ys ∧ ys.all flatV = true) us yss → Vals us vs → vs.any (itemsOf s xs) = yss.any (fun ys => tupEq ys xs) ∧ ∀ v ∈ vs, SeqAt.EqAt X.A.in1 s v (.ref a) (itemsOf s xs v) := by
    intro us yss vs pr
    induction pr generalizing vs with
    | nil =>
      intro r
      cases r
      exact ⟨rfl, fun v hv => (nomatch hv)⟩
    | cons h t ih =>
      intro r
      cases r with
      | cons r1 rt =>
        obtain ⟨b, rfl, hb, fb⟩ := h
        cases r1
        obtain ⟨i1, i2⟩ := ih rt
        obtain ⟨j1, j2⟩ := item b _ hb fb
        refine ⟨by rw [List.any_cons, List.any_cons, i1, j1], fun v hv => ?_⟩
        rcases List.mem_cons.mp hv with rfl | hv
        · rw [j1]; exact j2
        · exact i2 v hv
  obtain ⟨a1, a2⟩ := all pr r2
  refine SeqAt.notIn_listAt (itemsOf s xs) pl2.isList (fun w hw => a2 w (by simpa using hw)) ⟨.bl _, H, I, rfl, ?_⟩
  rw [show its2.toArray.any (itemsOf s xs) = its2.any (itemsOf s xs) by simp, a1]
  exact q
end
def rSlA (K : PySem.W.Frag) : V → Option Int → Option Int → Hp → VK → Prop := fun x lo hi H Q => ∃ a xs, x = .ref a ∧ SqT K H a xs ∧ ((HT.sIx xs.length 0 lo = 0 ∧ HT.sIx xs.length xs.length hi = xs.length) → Q (.ref a) H) ∧
  (¬ (HT.sIx xs.length 0 lo = 0 ∧ HT.sIx xs.length xs.length hi = xs.length) → ∀ p, H p = none → Q (.ref p) (upd H p (.tup (cutV xs lo hi))))
theorem sl_tupA {X : Cx} : SlR X (rSlA X.K) := by
  intro pins s σ H x v vl vu lo hi sl Q I rx hs pl pu h
  obtain ⟨a, xs, rfl, hx, q1, q2⟩ := h
  by_cases hw : HT.sIx xs.length 0 lo = 0 ∧ HT.sIx xs.length xs.length hi = xs.length
  · cases rx
    obtain ⟨its, r, ht, hz⟩ := I.tuple hx
    have hlen : its.toArray.size = xs.length := by rw [List.size_toArray]; exact r.length.symm
    exact ⟨"tuple", _, PyProof.Rows.slot_tuple_getitem.lookup, ht.typeIs, HT.getItem_tuple_all ht hs pl pu (by rw [hlen]; exact hw) ⟨.ref a, H, I, rfl, q1 hw⟩⟩
  · exact sl_tup pins s σ H (.ref a) v vl vu lo hi sl Q I rx hs pl pu ⟨a, xs, rfl, hx, hw, q2 hw⟩
end L2

set_option Elab.async false
set_option linter.all false
set_option maxRecDepth 100000
set_option maxHeartbeats 4000000
namespace L2
open PySem PySem.Spec PyProof.Rows
end L2

set_option Elab.async false
set_option linter.all false
set_option maxRecDepth 100000
set_option maxHeartbeats 4000000
namespace L2
open PySem PySem.Spec PyProof.Rows
section
variable {X : Cx} {tg : Expr}
end
end L2

set_option Elab.async false
set_option linter.all false
set_option maxRecDepth 100000
set_option maxHeartbeats 4000000
namespace L2
open PySem PySem.Spec PyProof.Rows
theorem len7 {us : List Value} {p : List Value → Prop} (h : us.length = 7) (k : ∀ a b c d e f g, p [a, b, c, d, e, f, g]) : p us := by
  match us, h with
  | [a, b, c, d, e, f, g], _ => exact k a b c d e f g
end L2

set_option Elab.async false
set_option linter.all false
set_option maxRecDepth 100000
set_option maxHeartbeats 4000000
namespace HT
open PySem PySem.Spec PyProof.Rows L2
section
variable {prog : Program} {w : World} {A : Around} {E : Value → Shared → Prop} {s : Shared}
end
end HT
namespace L2
open PySem PySem.Spec PyProof.Rows
section
variable {X : Cx}
theorem flat_strs (zs : List Str) : (zs.map V.str).all flatV = true := by
  rw [List.all_map, List.all_eq_true]
  intro z _
  rfl
end
end L2

set_option Elab.async false
set_option linter.all false
set_option maxRecDepth 100000
set_option maxHeartbeats 4000000
namespace L2
open PySem PySem.Spec PyProof.Rows
def DfK (K : PySem.W.Frag) (x q : Str) (st : Stmt) (dV : Value) (f : Addr) : Prop := ∃ (oc : Value) (od : Option Addr) (kV doc pm : Value) (an : Option Addr) (cdv ct : Value) (osl : Array (Option Value)),
  K.lookup f = some ⟨oc, od, .func (PySem.W.fnOf x q (defArgs st) (defBody st) (defScope st) dV kV doc pm an cdv ct), osl⟩ ∧ PySem.W.codeIn K cdv q = true ∧ PySem.W.keepIn K (.ref f) = true
def DfT (K : PySem.W.Frag) (x : Str) (st : Stmt) (dV : Value) (f : Addr) : Prop := PySem.W.nsIn K mainGlobals x = some (some (.ref f)) ∧ DfK K x x st dV f
def DfM (K : PySem.W.Frag) (C : Addr) (x q : Str) (st : Stmt) (dV : Value) (f : Addr) : Prop := PySem.W.findIn K (.ref C) x = some (some (.ref f)) ∧ PySem.W.isFn K (.ref f) = true ∧ DfK K x q st dV f
def DfD (K : PySem.W.Frag) (T : Addr) (its : Array Value) : Prop := ∃ oct odt nt slt, K.lookup T = some ⟨oct, odt, .seq its nt, slt⟩
def DfC (K : PySem.W.Frag) (x : Str) (C : Addr) : Prop := PySem.W.nsIn K mainGlobals x = some (some (.ref C)) ∧ PySem.W.plainGet K C Str.empty = true ∧ PySem.W.hasDictIn K C = true ∧ PySem.W.plainOver K C = true ∧ PySem.W.findIn K (.ref C) "__setattr__" = some (some (.builtin "object.__setattr__")) ∧ PySem.W.makesIn K C = true ∧ PySem.W.keepIn K (.ref C) = true
section
variable {K : PySem.W.Frag} {mg : Str → Option Value} {x q : Str} {st : Stmt} {f C T : Addr} {fd : FuncData} {its : Array Value}
theorem DfK.fn (h : DfK K x q st .none f) : ∃ fd, Fun K x q st f fd := by
  obtain ⟨oc, od, kV, doc, pm, an, cdv, ct, osl, l, c, k⟩ := h
  exact ⟨_, fun_mk l c k⟩
theorem DfK.fnD (h : DfK K x q st (.ref T) f) (d : DfD K T its) : ∃ fd, FunD K x q st f fd T its := by
  obtain ⟨oc, od, kV, doc, pm, an, cdv, ct, osl, l, c, k⟩ := h
  obtain ⟨_, _, _, _, d⟩ := d
  exact ⟨_, funD_mk l d c k⟩
theorem df_top {h : Heap} (X : K.In h) (G : h.Ns mainGlobals mg) (a : DfT K x st .none f) : ∃ fd, Fun K x x st f fd ∧ mg x = some (.ref f) := by
  obtain ⟨fd, F⟩ := a.2.fn
  exact ⟨fd, F, PySem.W.mg_of X G a.1⟩
theorem df_meth (a : DfM K C x q st .none f) : ∃ fd, Fun K x q st f fd ∧ Meth K C x f := by
  obtain ⟨fd, F⟩ := a.2.2.fn
  exact ⟨fd, F, a.1, a.2.1, F.kp⟩
theorem df_methD (a : DfM K C x q st (.ref T) f) (d : DfD K T its) : ∃ fd, FunD K x q st f fd T its ∧ Meth K C x f := by
  obtain ⟨fd, F⟩ := a.2.2.fnD d
  exact ⟨fd, F, a.1, a.2.1, F.kp⟩
theorem df_init {y : Str} (c : DfC K y C) (a : DfM K C "__init__" q st .none f) : ∃ fd, Fun K "__init__" q st f fd ∧ Mk K C f := by
  obtain ⟨fd, F⟩ := a.2.2.fn
  exact ⟨fd, F, c.2.2.2.2.2.1, a.1, a.2.1, c.2.2.2.2.2.2⟩
theorem DfC.cls {y : Str} (c : DfC K y C) : Cls K C := ⟨c.2.1, c.2.2.1, c.2.2.2.1, c.2.2.2.2.1⟩
theorem DfC.nm {h : Heap} (X : K.In h) (G : h.Ns mainGlobals mg) {y : Str} (c : DfC K y C) : mg y = some (.ref C) := PySem.W.mg_of X G c.1
theorem law_binds {p : Str} (F : Fun K x q st f fd) (h : ∀ kV doc pm an cdv ct v, bindArgs (PySem.W.fnOf x q (defArgs st) (defBody st) (defScope st) .none kV doc pm an cdv ct) ⟨[v], []⟩ = pure [(p, v)] := by intros; rfl) : ∀ (s : Shared) (v : Value), BindsTo s fd ⟨[v], []⟩ [(p, v)] := by
  obtain ⟨oc, od, kV, doc, pm, an, cdv, ct, osl, rfl, l, c⟩ := F.ex
  exact fun s v => .of_eq (h _ _ _ _ _ _ _)
theorem b0 (F : Fun K x q st f fd) (h : ∀ kV doc pm an cdv ct, bindArgs (PySem.W.fnOf x q (defArgs st) (defBody st) (defScope st) .none kV doc pm an cdv ct) ⟨[], []⟩ = pure (List.zip [] []) := by intros; rfl) : Binds K fd [] [] :=
  F.binds fun kV doc pm an cdv ct us hl => len0 (p := fun us => bindArgs _ ⟨us, []⟩ = pure (List.zip _ us)) hl (h kV doc pm an cdv ct)
theorem b1 {p1 : Str} (F : Fun K x q st f fd) (h : ∀ kV doc pm an cdv ct a, bindArgs (PySem.W.fnOf x q (defArgs st) (defBody st) (defScope st) .none kV doc pm an cdv ct) ⟨[a], []⟩ = pure (List.zip [p1] [a]) := by intros; rfl) : Binds K fd [p1] [] :=
  F.binds fun kV doc pm an cdv ct us hl => len1 (p := fun us => bindArgs _ ⟨us, []⟩ = pure (List.zip _ us)) hl (h kV doc pm an cdv ct)
theorem b2 {p1 p2 : Str} (F : Fun K x q st f fd) (h : ∀ kV doc pm an cdv ct a b, bindArgs (PySem.W.fnOf x q (defArgs st) (defBody st) (defScope st) .none kV doc pm an cdv ct) ⟨[a, b], []⟩ = pure (List.zip [p1, p2] [a, b]) := by intros; rfl) : Binds K fd [p1, p2] [] :=
  F.binds fun kV doc pm an cdv ct us hl => len2 (p := fun us => bindArgs _ ⟨us, []⟩ = pure (List.zip _ us)) hl (h kV doc pm an cdv ct)
theorem b3 {p1 p2 p3 : Str} (F : Fun K x q st f fd) (h : ∀ kV doc pm an cdv ct a b c, bindArgs (PySem.W.fnOf x q (defArgs st) (defBody st) (defScope st) .none kV doc pm an cdv ct) ⟨[a, b, c], []⟩ = pure (List.zip [p1, p2, p3] [a, b, c]) := by intros; rfl) : Binds K fd [p1, p2, p3] [] :=
  F.binds fun kV doc pm an cdv ct us hl => len3 (p := fun us => bindArgs _ ⟨us, []⟩ = pure (List.zip _ us)) hl (h kV doc pm an cdv ct)
theorem b4 {p1 p2 p3 p4 : Str} (F : Fun K x q st f fd) (h : ∀ kV doc pm an cdv ct a b c d, bindArgs (PySem.W.fnOf x q (defArgs st) (defBody st) (defScope st) .none kV doc pm an cdv ct) ⟨[a, b, c, d], []⟩ = pure (List.zip [p1, p2, p3, p4] [a, b, c, d]) := by intros; rfl) : Binds K fd [p1, p2, p3, p4] [] :=
  F.binds fun kV doc pm an cdv ct us hl => len4 (p := fun us => bindArgs _ ⟨us, []⟩ = pure (List.zip _ us)) hl (h kV doc pm an cdv ct)
theorem b5 {p1 p2 p3 p4 p5 : Str} (F : Fun K x q st f fd) (h : ∀ kV doc pm an cdv ct a b c d e, bindArgs (PySem.W.fnOf x q (defArgs st) (defBody st) (defScope st) .none kV doc pm an cdv ct) ⟨[a, b, c, d, e], []⟩ = pure (List.zip [p1, p2, p3, p4, p5] [a, b, c, d, e]) := by intros; rfl) : Binds K fd [p1, p2, p3, p4, p5] [] :=
  F.binds fun kV doc pm an cdv ct us hl => len5 (p := fun us => bindArgs _ ⟨us, []⟩ = pure (List.zip _ us)) hl (h kV doc pm an cdv ct)
theorem b6 {p1 p2 p3 p4 p5 p6 : Str} (F : Fun K x q st f fd) (h : ∀ kV doc pm an cdv ct a b c d e g, bindArgs (PySem.W.fnOf x q (defArgs st) (defBody st) (defScope st) .none kV doc pm an cdv ct) ⟨[a, b, c, d, e, g], []⟩ = pure (List.zip [p1, p2, p3, p4, p5, p6] [a, b, c, d, e, g]) := by intros; rfl) : Binds K fd [p1, p2, p3, p4, p5, p6] [] :=
  F.binds fun kV doc pm an cdv ct us hl => len6 (p := fun us => bindArgs _ ⟨us, []⟩ = pure (List.zip _ us)) hl (h kV doc pm an cdv ct)
theorem b7 {p1 p2 p3 p4 p5 p6 p7 : Str} (F : Fun K x q st f fd) (h : ∀ kV doc pm an cdv ct a b c d e g i, bindArgs (PySem.W.fnOf x q (defArgs st) (defBody st) (defScope st) .none kV doc pm an cdv ct) ⟨[a, b, c, d, e, g, i], []⟩ = pure (List.zip [p1, p2, p3, p4, p5, p6, p7] [a, b, c, d, e, g, i]) := by intros; rfl) : Binds K fd [p1, p2, p3, p4, p5, p6, p7] [] :=
  F.binds fun kV doc pm an cdv ct us hl => len7 (p := fun us => bindArgs _ ⟨us, []⟩ = pure (List.zip _ us)) hl (h kV doc pm an cdv ct)
end
theorem calF (P : Program) (w : World) (K : PySem.W.Frag) (mg : Str → Option Value) (base : Heap) {k : Nat} {x : Str} {ps : List Str} {sp : Sp} {st : Stmt} {f : Addr} {fd : FuncData} (F : Fun K x x st f fd ∧ mg x = some (.ref f)) (a : FnOk P w K mg base CX0 k f fd ps sp) (b : Binds K fd ps []) : Cal P w K mg base k x ps sp := .mk' a b F.1.kp F.2
theorem mclF (P : Program) (w : World) (K : PySem.W.Frag) (mg : Str → Option Value) (base : Heap) {k : Nat} {C : Addr} {x q : Str} {ps : List Str} {sp : Sp} {st : Stmt} {f : Addr} {fd : FuncData} (c : Cls K C) (F : Fun K x q st f fd ∧ Meth K C x f) (a : FnOk P w K mg base CX0 k f fd ps sp) (b : Binds K fd ps []) : MCal P w K mg base k C x ps sp := .mk' c a b F.2
theorem mkrF (P : Program) (w : World) (K : PySem.W.Frag) (mg : Str → Option Value) (base : Heap) {k : Nat} {C : Addr} {x y q : Str} {ps : List Str} {sp : Sp} {st : Stmt} {f : Addr} {fd : FuncData} (c : mg x = some (.ref C)) (F : Fun K y q st f fd ∧ Mk K C f) (a : FnOk P w K mg base CX0 k f fd ps sp) (b : Binds K fd ps []) : Mkr P w K mg base k C x ps sp := .mk' a b F.2 c
theorem scp {N P : List Str} {sc : Scope} (h1 : sc.kind = .function := by rfl) (h2 : sc.isCoroutine = false := by rfl) (h3 : sc.isGenerator = false := by rfl) (h4 : N.Nodup := by decide +kernel) (h5 : N.take P.length = P := by rfl)
    (h6 : ∀ x ∈ P, sc.names.lookup x = some .local ∨ sc.names.lookup x = some .cell := by decide +kernel) (h7 : ∀ y ∈ sc.names, y.2 ≠ .free := by decide +kernel) : FnScope N P sc := ⟨h1, h2, h3, h4, h5, h6, h7⟩
theorem rm {j k : Nat} {A : Around} (r : Room k A) (h : j ≤ k := by omega) : Room j A := r.mono h
theorem Cal.up {P : Program} {w : World} {K : PySem.W.Frag} {mg : Str → Option Value} {base : Heap} {j k : Nat} {x : Str} {ps : List Str} {sp : Sp} (G : Cal P w K mg base j x ps sp) (h : j ≤ k := by decide) : Cal P w K mg base k x ps sp := G.mono h
theorem MCal.up {P : Program} {w : World} {K : PySem.W.Frag} {mg : Str → Option Value} {base : Heap} {j k : Nat} {C : Addr} {x : Str} {ps : List Str} {sp : Sp} (G : MCal P w K mg base j C x ps sp) (h : j ≤ k := by decide) : MCal P w K mg base k C x ps sp := G.mono h
theorem MCalD.up {P : Program} {w : World} {K : PySem.W.Frag} {mg : Str → Option Value} {base : Heap} {j k : Nat} {C : Addr} {x : Str} {ps : List Str} {sp : Sp} {d : List V} (G : MCalD P w K mg base j C x ps sp d) (h : j ≤ k := by decide) : MCalD P w K mg base k C x ps sp d := G.mono h
theorem Mkr.up {P : Program} {w : World} {K : PySem.W.Frag} {mg : Str → Option Value} {base : Heap} {j k : Nat} {C : Addr} {x : Str} {ps : List Str} {sp : Sp} (G : Mkr P w K mg base j C x ps sp) (h : j ≤ k := by decide) : Mkr P w K mg base k C x ps sp := G.mono h
section
variable {X : Cx} {mg : Str → Option Value}
theorem le2 : 2 ≤ sizeLine := by decide
end
end L2

set_option Elab.async false
set_option linter.all false
set_option maxRecDepth 100000
set_option maxHeartbeats 4000000
namespace HT
open PySem PySem.Spec PyProof.Rows L2
section
variable {prog : Program} {w : World} {A : Around} {E : Value → Shared → Prop} {s : Shared}
end
end HT
namespace L2
open PySem PySem.Spec PyProof.Rows
section
variable {X : Cx} {es : List Expr} {ec : Nat} {tp : Pos}
end
end L2

set_option Elab.async false
set_option linter.all false
set_option maxRecDepth 100000
set_option maxHeartbeats 4000000
namespace L2
open PySem PySem.Spec PyProof.Rows
section
variable {X : Cx}
end
end L2

set_option Elab.async false
set_option linter.all false
set_option maxRecDepth 100000
set_option maxHeartbeats 4000000
namespace My
open PySem L2
def top (i : Nat) : Stmt := PySem.Challenge.pw_backissues_k10_lists_apart.main.body.getD i (.Pass ⟨0, 0, 0, 0⟩)
abbrev srefuse_bad_names : Stmt := top 20
abbrev srefuse_bad_reach : Stmt := top 21
abbrev sbulletin_names : Stmt := top 22
abbrev srefuse_unknown_name : Stmt := top 23
abbrev slacking_numbers : Stmt := top 25
abbrev sreached_by : Stmt := top 26
abbrev steller_of : Stmt := top 27
abbrev slacking_with_tellers : Stmt := top 28
abbrev sdark_numbers : Stmt := top 29
abbrev sdark_numbers_behind : Stmt := top 30
abbrev stail_for : Stmt := top 32
abbrev srefuse_bad_value : Stmt := top 34
abbrev srefuse_bad_rows : Stmt := top 35
abbrev srows_in_order : Stmt := top 36
abbrev snames_of_rows : Stmt := top 37
abbrev sOffice___init__ : Stmt := inClass (top 38) 0
abbrev sOffice_refuse_writing : Stmt := inClass (top 38) 1
abbrev sOffice_write : Stmt := inClass (top 38) 2
abbrev sOffice_latest : Stmt := inClass (top 38) 3
abbrev sOffice_issue : Stmt := inClass (top 38) 4
abbrev sShelf___init__ : Stmt := inClass (top 40) 0
abbrev sShelf_put : Stmt := inClass (top 40) 1
abbrev sShelf_had : Stmt := inClass (top 40) 2
abbrev sShelf_latest : Stmt := inClass (top 40) 3
abbrev sShelf_rows_of : Stmt := inClass (top 40) 4
abbrev sShelf_tail_of : Stmt := inClass (top 40) 5
abbrev srefuse_bad_readers : Stmt := top 44
abbrev sBook___init__ : Stmt := inClass (top 45) 0
abbrev sBook_refuse_unknown_reader : Stmt := inClass (top 45) 1
abbrev sBook_refuse_further_deed : Stmt := inClass (top 45) 2
abbrev sBook_write : Stmt := inClass (top 45) 3
abbrev sBook_deliver : Stmt := inClass (top 45) 4
abbrev sBook_latest : Stmt := inClass (top 45) 5
abbrev sBook_issue : Stmt := inClass (top 45) 6
abbrev sBook_deeds : Stmt := inClass (top 45) 7
abbrev sBook_deed : Stmt := inClass (top 45) 8
abbrev sBook_shelf : Stmt := inClass (top 45) 9
abbrev sheld_for : Stmt := top 50
abbrev snames_told_of : Stmt := top 51
abbrev sgaps_of : Stmt := top 52
abbrev sset_again : Stmt := top 53
abbrev sstate_of : Stmt := top 54
abbrev sstate_and_held : Stmt := top 55
abbrev sknowledge : Stmt := top 56
abbrev s_law_at : Stmt := top 58
abbrev s_law_pick : Stmt := top 59
abbrev s_law_row : Stmt := top 60
abbrev s_law_same : Stmt := top 61
abbrev s_law_named : Stmt := top 62
abbrev s_law_doubled : Stmt := top 63
abbrev s_law_sets : Stmt := top 64
abbrev s_law_value : Stmt := top 65
abbrev s_law_valued : Stmt := top 66
abbrev s_law_issue : Stmt := top 67
abbrev s_law_names : Stmt := top 68
abbrev s_law_last : Stmt := top 69
abbrev s_law_spoil : Stmt := top 70
abbrev s_law_abused : Stmt := top 71
abbrev s_law_both : Stmt := top 72
abbrev slaw : Stmt := top 73
abbrev prefuse_bad_names : List Str := ["names"]
abbrev prefuse_bad_reach : List Str := ["reach"]
abbrev pbulletin_names : List Str := ["names", "reach"]
abbrev prefuse_unknown_name : List Str := ["names", "name"]
abbrev placking_numbers : List Str := ["had"]
abbrev preached_by : List Str := ["number", "reach"]
abbrev pteller_of : List Str := ["had", "number", "reach"]
abbrev placking_with_tellers : List Str := ["had", "reach"]
abbrev pdark_numbers : List Str := ["had", "reach"]
abbrev pdark_numbers_behind : List Str := ["had", "reach", "behind"]
abbrev ptail_for : List Str := ["sets", "reach"]
abbrev prefuse_bad_value : List Str := ["value"]
abbrev prefuse_bad_rows : List Str := ["names", "rows"]
abbrev prows_in_order : List Str := ["names", "rows"]
abbrev pnames_of_rows : List Str := ["rows"]
abbrev pOffice___init__ : List Str := ["self", "names", "reach"]
abbrev pOffice_refuse_writing : List Str := ["self", "rows"]
abbrev pOffice_write : List Str := ["self", "rows"]
abbrev pOffice_latest : List Str := ["self"]
abbrev pOffice_issue : List Str := ["self", "number"]
abbrev pShelf___init__ : List Str := ["self", "names", "reach"]
abbrev pShelf_put : List Str := ["self", "issue"]
abbrev pShelf_had : List Str := ["self"]
abbrev pShelf_latest : List Str := ["self"]
abbrev pShelf_rows_of : List Str := ["self", "number"]
abbrev pShelf_tail_of : List Str := ["self", "number"]
abbrev prefuse_bad_readers : List Str := ["readers"]
abbrev pBook___init__ : List Str := ["self", "names", "reach", "readers"]
abbrev pBook_refuse_unknown_reader : List Str := ["self", "reader"]
abbrev pBook_refuse_further_deed : List Str := ["self"]
abbrev pBook_write : List Str := ["self", "rows"]
abbrev pBook_deliver : List Str := ["self", "reader", "number"]
abbrev pBook_latest : List Str := ["self"]
abbrev pBook_issue : List Str := ["self", "number"]
abbrev pBook_deeds : List Str := ["self"]
abbrev pBook_deed : List Str := ["self", "which"]
abbrev pBook_shelf : List Str := ["self", "reader", "deed"]
abbrev pheld_for : List Str := ["shelf", "name"]
abbrev pnames_told_of : List Str := ["shelf", "number", "teller"]
abbrev pgaps_of : List Str := ["shelf"]
abbrev pset_again : List Str := ["shelf", "name"]
abbrev pstate_of : List Str := ["shelf", "name"]
abbrev pstate_and_held : List Str := ["shelf", "name"]
abbrev pknowledge : List Str := ["shelf"]
abbrev p_law_at : List Str := ["_law_script", "_law_k"]
abbrev p_law_pick : List Str := ["_law_cell", "_law_size"]
abbrev p_law_row : List Str := ["_law_cell", "_law_many", "_law_size"]
abbrev p_law_same : List Str := ["_law_found", "_law_due"]
abbrev p_law_named : List Str := ["_law_cell", "_law_many"]
abbrev p_law_doubled : List Str := ["_law_times"]
abbrev p_law_sets : List Str := ["_law_names_here", "_law_cell", "_law_many"]
abbrev p_law_value : List Str := ["_law_figure", "_law_place"]
abbrev p_law_valued : List Str := ["_law_sets_here", "_law_cell"]
abbrev p_law_issue : List Str := ["_law_rows", "_law_number", "_law_reach"]
abbrev p_law_names : List Str := ["_law_script"]
abbrev p_law_last : List Str := ["_law_rows", "_law_latest", "_law_name"]
abbrev p_law_spoil : List Str := ["_law_row_here", "_law_cell"]
abbrev p_law_abused : List Str := ["_law_office", "_law_rows", "_law_cell"]
abbrev p_law_both : List Str := ["_law_office", "_law_book", "_law_rows", "_law_name"]
abbrev plaw : List Str := ["_law_script"]
theorem screfuse_bad_names : FnScope ["names"] prefuse_bad_names (defScope srefuse_bad_names) := scp
theorem screfuse_bad_reach : FnScope ["reach"] prefuse_bad_reach (defScope srefuse_bad_reach) := scp
theorem scbulletin_names : FnScope ["names", "reach"] pbulletin_names (defScope sbulletin_names) := scp
theorem screfuse_unknown_name : FnScope ["names", "name"] prefuse_unknown_name (defScope srefuse_unknown_name) := scp
theorem sclacking_numbers : FnScope ["had", "latest"] placking_numbers (defScope slacking_numbers) := scp
theorem screached_by : FnScope ["number", "reach"] preached_by (defScope sreached_by) := scp
theorem scteller_of : FnScope ["had", "number", "reach", "tellers"] pteller_of (defScope steller_of) := scp
theorem sclacking_with_tellers : FnScope ["had", "reach"] placking_with_tellers (defScope slacking_with_tellers) := scp
theorem scdark_numbers : FnScope ["had", "reach"] pdark_numbers (defScope sdark_numbers) := scp
theorem scdark_numbers_behind : FnScope ["had", "reach", "behind"] pdark_numbers_behind (defScope sdark_numbers_behind) := scp
theorem sctail_for : FnScope ["sets", "reach", "number", "ahead"] ptail_for (defScope stail_for) := scp
theorem screfuse_bad_value : FnScope ["value"] prefuse_bad_value (defScope srefuse_bad_value) := scp
theorem screfuse_bad_rows : FnScope ["names", "rows", "set_names", "name", "value"] prefuse_bad_rows (defScope srefuse_bad_rows) := scp
theorem scrows_in_order : FnScope ["names", "rows", "values"] prows_in_order (defScope srows_in_order) := scp
theorem scnames_of_rows : FnScope ["rows"] pnames_of_rows (defScope snames_of_rows) := scp
theorem scOffice___init__ : FnScope ["self", "names", "reach"] pOffice___init__ (defScope sOffice___init__) := scp
theorem scOffice_refuse_writing : FnScope ["self", "rows"] pOffice_refuse_writing (defScope sOffice_refuse_writing) := scp
theorem scOffice_write : FnScope ["self", "rows", "number", "sets"] pOffice_write (defScope sOffice_write) := scp
theorem scOffice_latest : FnScope ["self"] pOffice_latest (defScope sOffice_latest) := scp
theorem scOffice_issue : FnScope ["self", "number"] pOffice_issue (defScope sOffice_issue) := scp
theorem scShelf___init__ : FnScope ["self", "names", "reach"] pShelf___init__ (defScope sShelf___init__) := scp
theorem scShelf_put : FnScope ["self", "issue", "number"] pShelf_put (defScope sShelf_put) := scp
theorem scShelf_had : FnScope ["self"] pShelf_had (defScope sShelf_had) := scp
theorem scShelf_latest : FnScope ["self"] pShelf_latest (defScope sShelf_latest) := scp
theorem scShelf_rows_of : FnScope ["self", "number"] pShelf_rows_of (defScope sShelf_rows_of) := scp
theorem scShelf_tail_of : FnScope ["self", "number"] pShelf_tail_of (defScope sShelf_tail_of) := scp
theorem screfuse_bad_readers : FnScope ["readers"] prefuse_bad_readers (defScope srefuse_bad_readers) := scp
theorem scBook___init__ : FnScope ["self", "names", "reach", "readers"] pBook___init__ (defScope sBook___init__) := scp
theorem scBook_refuse_unknown_reader : FnScope ["self", "reader"] pBook_refuse_unknown_reader (defScope sBook_refuse_unknown_reader) := scp
theorem scBook_refuse_further_deed : FnScope ["self"] pBook_refuse_further_deed (defScope sBook_refuse_further_deed) := scp
theorem scBook_write : FnScope ["self", "rows", "number"] pBook_write (defScope sBook_write) := scp
theorem scBook_deliver : FnScope ["self", "reader", "number", "getting", "lacked"] pBook_deliver (defScope sBook_deliver) := scp
theorem scBook_latest : FnScope ["self"] pBook_latest (defScope sBook_latest) := scp
theorem scBook_issue : FnScope ["self", "number"] pBook_issue (defScope sBook_issue) := scp
theorem scBook_deeds : FnScope ["self"] pBook_deeds (defScope sBook_deeds) := scp
theorem scBook_deed : FnScope ["self", "which"] pBook_deed (defScope sBook_deed) := scp
theorem scBook_shelf : FnScope ["self", "reader", "deed", "behind", "told", "past"] pBook_shelf (defScope sBook_shelf) := scp
theorem scheld_for : FnScope ["shelf", "name", "number", "values"] pheld_for (defScope sheld_for) := scp
theorem scnames_told_of : FnScope ["shelf", "number", "teller"] pnames_told_of (defScope snames_told_of) := scp
theorem scgaps_of : FnScope ["shelf", "lacking"] pgaps_of (defScope sgaps_of) := scp
theorem scset_again : FnScope ["shelf", "name", "held_from"] pset_again (defScope sset_again) := scp
theorem scstate_of : FnScope ["shelf", "name", "held_from", "dark_behind"] pstate_of (defScope sstate_of) := scp
theorem scstate_and_held : FnScope ["shelf", "name"] pstate_and_held (defScope sstate_and_held) := scp
theorem scknowledge : FnScope ["shelf"] pknowledge (defScope sknowledge) := scp
theorem sc_law_at : FnScope ["_law_script", "_law_k"] p_law_at (defScope s_law_at) := scp
theorem sc_law_pick : FnScope ["_law_cell", "_law_size", "_law_once"] p_law_pick (defScope s_law_pick) := scp
theorem sc_law_row : FnScope ["_law_cell", "_law_many", "_law_size", "_law_rest", "_law_mixed", "_law_figures", "_law_k"] p_law_row (defScope s_law_row) := scp
theorem sc_law_same : FnScope ["_law_found", "_law_due", "_law_k"] p_law_same (defScope s_law_same) := scp
theorem sc_law_named : FnScope ["_law_cell", "_law_many", "_law_signs", "_law_turn", "_law_stem", "_law_spot"] p_law_named (defScope s_law_named) := scp
theorem sc_law_doubled : FnScope ["_law_times", "_law_many", "_law_turn"] p_law_doubled (defScope s_law_doubled) := scp
theorem sc_law_sets : FnScope ["_law_names_here", "_law_cell", "_law_many", "_law_size", "_law_sets_here", "_law_figure", "_law_mask", "_law_chosen", "_law_name"] p_law_sets (defScope s_law_sets) := scp
theorem sc_law_value : FnScope ["_law_figure", "_law_place"] p_law_value (defScope s_law_value) := scp
theorem sc_law_valued : FnScope ["_law_sets_here", "_law_cell", "_law_figures", "_law_rows", "_law_k", "_law_one", "_law_place"] p_law_valued (defScope s_law_valued) := scp
theorem sc_law_issue : FnScope ["_law_rows", "_law_number", "_law_reach", "_law_tail", "_law_other"] p_law_issue (defScope s_law_issue) := scp
theorem sc_law_names : FnScope ["_law_script"] p_law_names (defScope s_law_names) := scp
theorem sc_law_last : FnScope ["_law_rows", "_law_latest", "_law_name", "_law_last_here", "_law_number", "_law_row_here"] p_law_last (defScope s_law_last) := scp
theorem sc_law_spoil : FnScope ["_law_row_here", "_law_cell"] p_law_spoil (defScope s_law_spoil) := scp
theorem sc_law_abused : FnScope ["_law_office", "_law_rows", "_law_cell", "_law_k", "_law_given", "_law_row_here"] p_law_abused (defScope s_law_abused) := scp
theorem sc_law_both : FnScope ["_law_office", "_law_book", "_law_rows", "_law_name", "_law_k", "_law_given", "_law_told", "_law_row_here"] p_law_both (defScope s_law_both) := scp
theorem sclaw : FnScope ["_law_script", "_law_names_here", "_law_many", "_law_rows", "_law_reach", "_law_handed", "_law_first", "_law_second", "_law_shelf", "_law_book", "_law_number", "_law_due", "_law_table", "_law_name", "_law_last_here"] plaw (defScope slaw) := scp
structure TxOffice (K : PySem.W.Frag) (mg : Str → Option Value) (C : Addr) : Prop where
  cl : Cls K C
  mgC : mg "Office" = some (.ref C)
  n_names : NoAttr K C "names"
  n_reach : NoAttr K C "reach"
  n_written : NoAttr K C "written"
structure TxShelf (K : PySem.W.Frag) (mg : Str → Option Value) (C : Addr) : Prop where
  cl : Cls K C
  mgC : mg "Shelf" = some (.ref C)
  n_names : NoAttr K C "names"
  n_reach : NoAttr K C "reach"
  n_issues : NoAttr K C "issues"
structure TxBook (K : PySem.W.Frag) (mg : Str → Option Value) (C : Addr) : Prop where
  cl : Cls K C
  mgC : mg "Book" = some (.ref C)
  n_office : NoAttr K C "office"
  n_readers : NoAttr K C "readers"
  n_done : NoAttr K C "done"
structure Bl (mg : Str → Option Value) : Prop where
  len : mg "len" = none
  range : mg "range" = none
  tuple : mg "tuple" = none
  list : mg "list" = none
  max : mg "max" = none
  min : mg "min" = none
  sorted : mg "sorted" = none
  isinstance : mg "isinstance" = none
  bool : mg "bool" = none
  int : mg "int" = none
  str : mg "str" = none
  set : mg "set" = none
  reversed : mg "reversed" = none
  dict : mg "dict" = none
  zip : mg "zip" = none
  all : mg "all" = none
  MOST_NAMES : ∃ t, mg "MOST_NAMES" = some (.int 12 t)
  MOST_REACH : ∃ t, mg "MOST_REACH" = some (.int 10 t)
  MOST_NUMBERS : ∃ t, mg "MOST_NUMBERS" = some (.int 60 t)
  MOST_VALUE : ∃ t, mg "MOST_VALUE" = some (.int 1000000 t)
  MOST_READERS : ∃ t, mg "MOST_READERS" = some (.int 10 t)
  MOST_DEEDS : ∃ t, mg "MOST_DEEDS" = some (.int 400 t)
  WRITE : ∃ t, mg "WRITE" = some (.str "write" t)
  DELIVER : ∃ t, mg "DELIVER" = some (.str "deliver" t)
  SURE : ∃ t, mg "SURE" = some (.str "sure" t)
  STALE : ∃ t, mg "STALE" = some (.str "stale" t)
  OPEN : ∃ t, mg "OPEN" = some (.str "open" t)
theorem same_new {H : Hp} {p : Addr} (h : H p = none) (o : HO) : Same H (upd H p o) := fun b u q => by rw [upd_ne (ne_of_none q h)]; exact q
theorem same_upd {H H' : Hp} {l : Addr} {o : HO} (hs : Same H H') (hl : H l = none) : Same H (upd H' l o) := fun b u e => by rw [upd_ne (ne_of_none e hl)]; exact hs b u e
theorem small {n : Nat} (h : n ≤ 1000) : n ≤ sizeLine := Nat.le_of_lt (small1000 h)
theorem at_ints {ns : List Int} {k : Int} (h0 : 0 ≤ k) (h : k < (ns.length : Int)) : atI (ns.map V.int) k = some (.int (ns.getD k.toNat 0)) := by
  have hk : k.toNat < ns.length := by omega
  have ek : k = ((k.toNat : Nat) : Int) := by omega
  have q : atI (ns.map V.int) ((k.toNat : Nat) : Int) = some (.int (ns.getD k.toNat 0)) := atI_nat (by
    rw [List.getElem?_map, List.getElem?_eq_getElem hk, List.getD_eq_getElem?_getD, List.getElem?_eq_getElem hk] <;> rfl)
  rw [← ek] at q
  exact q
theorem same_tup {K : PySem.W.Frag} {H H' : Hp} {a : Addr} {xs : List V} (e : Same H H') (h : SqT K H a xs) : SqT K H' a xs := by
  rcases h with (h | ⟨o, h⟩) | h
  · exact .inl (.inl (e _ _ h))
  · exact .inl (.inr ⟨o, e _ _ h⟩)
  · exact .inr h
theorem dec_of {p : Prop} [Decidable p] (h : decide p = true) : p := of_decide_eq_true h
theorem dec_no {p : Prop} [Decidable p] (h : ¬ decide p = true) : ¬ p := fun q => h (decide_eq_true q)
section
variable {P : Program} {w : World} {K : PySem.W.Frag} {mg : Str → Option Value} {base : Heap} {f : Addr} {fd : FuncData}
theorem rise_ext : ∀ {l1 l2 : List Int}, l1.Pairwise (· < ·) → l2.Pairwise (· < ·) → (∀ x, x ∈ l1 ↔ x ∈ l2) → l1 = l2
  | [], [], _, _, _ => rfl
  | [], y :: _, _, _, h => by have := (h y).mpr List.mem_cons_self; cases this
  | x :: _, [], _, _, h => by have := (h x).mp List.mem_cons_self; cases this
  | x :: r, y :: t, p1, p2, h => by
    rw [List.pairwise_cons] at p1 p2
    have e : x = y := by
      rcases List.mem_cons.mp ((h x).mp List.mem_cons_self) with e | hx
      · exact e
      · rcases List.mem_cons.mp ((h y).mpr List.mem_cons_self) with e | hy
        · exact e.symm
        · have := p1.1 y hy
          have := p2.1 x hx
          omega
    subst e
    refine congrArg (x :: ·) (rise_ext p1.2 p2.2 fun z => ⟨fun hz => ?_, fun hz => ?_⟩)
    · rcases List.mem_cons.mp ((h z).mp (List.mem_cons_of_mem _ hz)) with e | q
      · have := p1.1 z hz
        omega
      · exact q
    · rcases List.mem_cons.mp ((h z).mpr (List.mem_cons_of_mem _ hz)) with e | q
      · have := p2.1 z hz
        omega
      · exact q
theorem upI_rise (lo : Int) : ∀ n, (upI lo n).Pairwise (· < ·)
  | 0 => List.Pairwise.nil
  | n + 1 => by
    rw [upI_succ]
    refine List.pairwise_append.mpr ⟨upI_rise lo n, List.pairwise_singleton _ _, fun x hx y hy => ?_⟩
    have h1 := mem_upI.mp hx
    rw [List.mem_singleton.mp hy]
    omega
theorem rngV_up (lo : Int) (n : Nat) : rngV lo n = (upI lo n).map V.int := by
  unfold rngV upI
  rw [List.map_map]
  rfl
def spAt (K : PySem.W.Frag) : Sp := fun vs H Q _ => ∃ (a : Addr) (ns : List Int) (k : Int), vs = [.ref a, .int k] ∧ SqL K H a (ns.map V.int) ∧ 0 ≤ k ∧ Q (.int (ns.getD k.toNat 0)) H
theorem ok_at (M : Bl mg) (F : Fun K "_law_at" "_law_at" s_law_at f fd) : FnOk P w K mg base CX0 1 f fd p_law_at (spAt K) := by
  have nd := sc_law_at.nd
  refine F.ok sc_law_at (fun vs H Q E h => ?_) (fun cdv A outer s H vs Q E hr h => ?_)
  · obtain ⟨a, ns, k, rfl, _⟩ := h
    rfl
  obtain ⟨a, ns, k, rfl, hS, h0, q⟩ := h
  refine ⟨_, (pss_cons (ps_if (pt_cmpR op_lt (pv 1) (pe_callB call_len_seq rfl M.len PySem.boot_len (pa_cons (pv 0) pa_nil)) (nomark _)) (pss_one (ps_ret (pe_ix ix_list (pv 0) (pv 1) (fun _ _ => rfl)))) pss_nil) (pss_one (ps_ret pe_int))), ?_⟩
  have hl : (ns.map V.int).length = ns.length := List.length_map _
  refine ⟨_, rfl, _, rfl, a, _, rfl, .inl hS, _, _, rfl, rfl, _, rfl, ?_⟩
  refine ite2 (fun c => ?_) (fun c => ?_)
  · have c' := dec_of c
    rw [hl] at c'
    exact ⟨_, rfl, _, rfl, a, _, _, _, rfl, rfl, hS, at_ints h0 c', q⟩
  · have c' := dec_no c
    rw [hl] at c'
    have e : ns.getD k.toNat 0 = 0 := by rw [List.getD_eq_getElem?_getD, List.getElem?_eq_none (by omega)]; rfl
    rw [e] at q
    exact q
def spPick : Sp := fun vs H Q _ => ∃ c n : Int, vs = [.int c, .int n] ∧ 0 < n ∧ ∀ r, 0 ≤ r → r < n → Q (.int r) H
theorem ok_pick (F : Fun K "_law_pick" "_law_pick" s_law_pick f fd) : FnOk P w K mg base CX0 1 f fd p_law_pick spPick := by
  have nd := sc_law_pick.nd
  refine F.ok sc_law_pick (fun vs H Q E h => ?_) (fun cdv A outer s H vs Q E hr h => ?_)
  · obtain ⟨c, n, rfl, _⟩ := h
    rfl
  obtain ⟨c, n, rfl, hn, q⟩ := h
  refine ⟨_, (pss_cons (ps_if (pt_cmpR op_eq (pe_op op_mod (pv 0) pe_int) pe_int (nomark _)) (pss_one (ps_ret (pe_op op_mod (pe_op op_fdiv (pv 0) pe_int) (pv 1)))) pss_nil) (pss_cons (ps_set (i := 2) nd rfl (Or.inl rfl) (pe_op op_mod (pe_op op_mul (pe_op op_fdiv (pv 0) pe_int) pe_int) pe_int)) (pss_one (ps_ret (pe_op op_mod (pe_op op_mod (pe_op op_mul (pe_op op_add (pv 2) pe_int) pe_int) pe_int) (pv 1)))))), ?_⟩
  refine ⟨_, rfl, _, _, rfl, rfl, (by show (0 : Int) < 2; decide), rfl, _, rfl, ?_⟩
  refine ite2 (fun _ => ?_) (fun _ => ?_)
  · exact ⟨_, rfl, _, _, rfl, rfl, ⟨by decide, by decide⟩, _, rfl, _, _, rfl, rfl, hn, q _ (Int.emod_nonneg _ (by omega)) (Int.emod_lt_of_pos _ hn)⟩
  · refine ⟨_, rfl, _, _, rfl, rfl, ⟨by decide, by decide⟩, _, _, rfl, rfl, .inr ⟨by decide, by decide⟩, _, _, rfl, rfl, (by show (0 : Int) < 2147483647; decide), ?_⟩
    refine ⟨_, rfl, _, _, rfl, rfl, _, _, rfl, rfl, .inr ⟨by decide, by decide⟩, _, _, rfl, rfl, (by show (0 : Int) < 2147483647; decide), _, rfl, _, _, rfl, rfl, hn, ?_⟩
    exact q _ (Int.emod_nonneg _ (by omega)) (Int.emod_lt_of_pos _ hn)
def spSame : Nat → Sp
  | 0 => fun _ _ _ _ => False
  | n + 1 => fun vs H Q _ => ∃ x y, vs = [x, y] ∧ Alike H n x y ∧ ∀ H', Same H H' → Q (.bl true) H'
theorem same_none : FnOk P w K mg base CX0 0 f fd p_law_same (spSame 0) :=
  ⟨fun vs H Q E h => h.elim, fun A outer s H args us vs Q E _ _ _ _ h => h.elim⟩
def tyOf : V → String
  | .non => "NoneType"
  | .bl _ => "bool"
  | .int _ => "int"
  | _ => "str"
theorem ty_scal {H : Hp} {x : V} (h : scalV x = true) : TyOf K H x (.type (tyOf x)) := by
  cases x with
  | non => exact .non
  | bl b => exact .bl b
  | int i => exact .int i
  | str z => exact .str z
  | _ => exact absurd h Bool.false_ne_true
def kitB : V → String → Bool
  | .bl _, T => T == "bool" || T == "int"
  | .int _, T => T == "int"
  | .str _, T => T == "str"
  | _, _ => false
theorem kit_scal (T : String) (hT : T = "tuple" ∨ T = "bool" ∨ T = "int" ∨ T = "str") {x : V} (h : scalV x = true) : PySem.W.kitOne K (.type (tyOf x)) (.type T) = some (kitB x T) := by
  cases x with
  | non => rcases hT with rfl | rfl | rfl | rfl <;> kernel_rfl
  | bl b => rcases hT with rfl | rfl | rfl | rfl <;> kernel_rfl
  | int i => rcases hT with rfl | rfl | rfl | rfl <;> kernel_rfl
  | str z => rcases hT with rfl | rfl | rfl | rfl <;> kernel_rfl
  | _ => exact absurd h Bool.false_ne_true
theorem kitB_tuple (x : V) : kitB x "tuple" = false := by cases x <;> rfl
theorem kit_tup : PySem.W.kitOne K (.type "tuple") (.type "tuple") = some true := by kernel_rfl
theorem at_get {xs : List V} {i : Nat} (h : i < xs.length) : ∃ v, xs[i]? = some v ∧ atI xs (i : Int) = some v := ⟨xs[i], List.getElem?_eq_getElem h, atI_nat (List.getElem?_eq_getElem h)⟩
theorem scal_eq {x : V} (h : scalV x = true) : scal x x = true := by
  cases x <;> first | rfl | exact absurd h Bool.false_ne_true
theorem ok_same {n : Nat} (M : Bl mg) (F : Fun K "_law_same" "_law_same" s_law_same f fd) (G_law_same : Cal P w K mg base n "_law_same" p_law_same (spSame n)) :
    FnOk P w K mg base CX0 (n + 1) f fd p_law_same (spSame (n + 1)) := by
  have nd := sc_law_same.nd
  refine F.ok sc_law_same (fun vs H Q E h => ?_) (fun cdv A outer s H vs Q E hr h => ?_)
  · obtain ⟨x, y, rfl, _⟩ := h
    rfl
  obtain ⟨x, y, rfl, ha, q⟩ := h
  refine ⟨_, (pss_cons (ps_if (pt_val (pe_callB call_isinst rfl M.isinstance PyProof.Rows.boot_isinstance (pa_cons (pv 1) (pa_cons (pe_bltn (v := .ty "tuple") rfl M.tuple PyProof.Rows.boot_tuple rfl) pa_nil)))) (pss_cons (ps_if (PW.pt (pw_or (pt_not (pt_val (pe_callB call_isinst rfl M.isinstance PyProof.Rows.boot_isinstance (pa_cons (pv 0) (pa_cons (pe_bltn (v := .ty "tuple") rfl M.tuple PyProof.Rows.boot_tuple rfl) pa_nil))))) (pw_or1 (pt_cmpR op_ne (pe_callB call_len_seq rfl M.len PySem.boot_len (pa_cons (pv 0) pa_nil)) (pe_callB call_len_seq rfl M.len PySem.boot_len (pa_cons (pv 1) pa_nil)) (nomark _))))) (pss_one (ps_ret pe_bl)) pss_nil) (pss_cons (ps_for PassesOwn.never rfl (pi_range1 rfl M.range (pa_cons (pe_callB call_len_seq rfl M.len PySem.boot_len (pa_cons (pv 1) pa_nil)) pa_nil)) (pg_name (i := 2) nd rfl (Or.inl rfl)) (pss_one (ps_if (pt_not (pt_val (pe_cal G_law_same (rm hr) rfl (pa_cons (pe_ix ix_tup (pv 0) (pv 2) (fun _ _ => rfl)) (pa_cons (pe_ix ix_tup (pv 1) (pv 2) (fun _ _ => rfl)) pa_nil))))) (pss_one (ps_ret pe_bl)) pss_nil))) (pss_one (ps_ret pe_bl)))) pss_nil) (pss_cons (ps_if (PW.pt (pw_or (pt_cmpR op_ne (pe_callB call_isinst rfl M.isinstance PyProof.Rows.boot_isinstance (pa_cons (pv 0) (pa_cons (pe_bltn (v := .ty "bool") rfl M.bool PyProof.Rows.boot_bool rfl) pa_nil))) (pe_callB call_isinst rfl M.isinstance PyProof.Rows.boot_isinstance (pa_cons (pv 1) (pa_cons (pe_bltn (v := .ty "bool") rfl M.bool PyProof.Rows.boot_bool rfl) pa_nil))) (nomark _)) (pw_or1 (pt_cmpR op_ne (pe_callB call_isinst rfl M.isinstance PyProof.Rows.boot_isinstance (pa_cons (pv 0) (pa_cons (pe_bltn (v := .ty "int") rfl M.int PyProof.Rows.boot_int rfl) pa_nil))) (pe_callB call_isinst rfl M.isinstance PyProof.Rows.boot_isinstance (pa_cons (pv 1) (pa_cons (pe_bltn (v := .ty "int") rfl M.int PyProof.Rows.boot_int rfl) pa_nil))) (nomark _))))) (pss_one (ps_ret pe_bl)) pss_nil) (pss_cons (ps_if (PW.pt (pw_or (pt_cmpR op_ne (pe_callB call_isinst rfl M.isinstance PyProof.Rows.boot_isinstance (pa_cons (pv 0) (pa_cons (pe_bltn (v := .ty "str") rfl M.str PyProof.Rows.boot_str rfl) pa_nil))) (pe_callB call_isinst rfl M.isinstance PyProof.Rows.boot_isinstance (pa_cons (pv 1) (pa_cons (pe_bltn (v := .ty "str") rfl M.str PyProof.Rows.boot_str rfl) pa_nil))) (nomark _)) (pw_or1 (pt_cmpR op_ne (pe_cmp (pc_isN (pv 0))) (pe_cmp (pc_isN (pv 1))) (nomark _))))) (pss_one (ps_ret pe_bl)) pss_nil) (pss_one (ps_ret (pe_cmpR op_eq (pv 0) (pv 1) (nomark _))))))), ?_⟩
  have ha' : (x = y ∧ scalV x = true) ∨ ∃ (m : Nat) (a b : Addr) (xs ys : List V), n = m + 1 ∧ x = .ref a ∧ y = .ref b ∧ H a = some (.tup xs) ∧ H b = some (.tup ys) ∧ xs.length = ys.length ∧ ys.length ≤ 1000000 ∧
      ∀ (i : Nat) (u v : V), xs[i]? = some u → ys[i]? = some v → Alike H m u v := by
    cases n with
    | zero => exact .inl ha
    | succ n =>
      rcases ha with ha | ⟨a, b, xs, ys, e1, e2, h1, h2, hl, hm, hi⟩
      · exact .inl ha
      · exact .inr ⟨n, a, b, xs, ys, rfl, e1, e2, h1, h2, hl, hm, hi⟩
  rcases ha' with ⟨rfl, hs⟩ | ⟨m, a, b, xs, ys, rfl, rfl, rfl, h1, h2, hl, hm, hi⟩
  · have k1 := kit_scal (K := K) "tuple" (.inl rfl) hs
    have k2 := kit_scal (K := K) "bool" (.inr (.inl rfl)) hs
    have k3 := kit_scal (K := K) "int" (.inr (.inr (.inl rfl))) hs
    have k4 := kit_scal (K := K) "str" (.inr (.inr (.inr rfl))) hs
    rw [kitB_tuple] at k1
    refine ⟨_, rfl, _, _, _, _, rfl, ty_scal hs, k1, _, rfl, iteF ?_⟩
    refine ⟨_, rfl, _, _, _, _, rfl, ty_scal hs, k2, _, rfl, _, _, _, _, rfl, ty_scal hs, k2, rfl, _, rfl, ?_⟩
    rw [decide_eq_true rfl]
    refine iteF ⟨_, rfl, _, _, _, _, rfl, ty_scal hs, k3, _, rfl, _, _, _, _, rfl, ty_scal hs, k3, rfl, _, rfl, ?_⟩
    rw [decide_eq_true rfl]
    refine iteF ?_
    refine ⟨_, rfl, _, _, _, _, rfl, ty_scal hs, k4, _, rfl, _, _, _, _, rfl, ty_scal hs, k4, rfl, _, rfl, ?_⟩
    rw [decide_eq_true rfl]
    refine iteF ⟨_, rfl, _, rfl, rfl, _, rfl, ?_⟩
    rw [decide_eq_true rfl]
    refine iteF ?_
    refine ⟨_, rfl, _, rfl, scal_eq hs, ?_⟩
    rw [decide_eq_true rfl]
    exact q H (Same.refl H)
  · refine ⟨_, rfl, _, _, _, _, rfl, .tup h2, kit_tup, _, rfl, iteT ?_⟩
    refine ⟨_, rfl, _, _, _, _, rfl, .tup h1, kit_tup, _, rfl, iteF ?_⟩
    refine ⟨_, rfl, a, xs, rfl, .inr (SqT.of h1), _, rfl, b, ys, rfl, .inr (SqT.of h2), rfl, _, rfl, ?_⟩
    rw [hl, decide_eq_true rfl]
    refine iteF ?_
    refine ⟨_, rfl, b, ys, rfl, .inr (SqT.of h2), _, rfl, by omega, by omega, ?_⟩
    refine for_range (lo := 0) (n := ys.length) (fun _ σ H' => Same H H' ∧ ∃ o, σ = [some (.ref a), some (.ref b), o]) ⟨Same.refl H, _, rfl⟩ (fun i σ H' hi' hp => ?_) (fun σ H' hp => ?_)
    · obtain ⟨hS, o, rfl⟩ := hp
      obtain ⟨u, hu, au⟩ := at_get (xs := xs) (i := i) (by omega)
      obtain ⟨v, hv, av⟩ := at_get (xs := ys) (i := i) hi'
      have ei : (0 : Int) + (i : Int) = (i : Int) := Int.zero_add _
      refine ⟨_, rfl, _, rfl, a, _, _, _, rfl, rfl, SqT.of (hS _ _ h1), (by rw [ei]; exact au), _, rfl, _, rfl, b, _, _, _, rfl, rfl, SqT.of (hS _ _ h2), (by rw [ei]; exact av), ?_⟩
      refine ⟨u, v, rfl, (hi i u v hu hv).keep hS, fun H2 hS2 => ⟨_, rfl, ?_⟩⟩
      exact iteF ⟨hS.trans hS2, _, rfl⟩
    · obtain ⟨hS, o, rfl⟩ := hp
      exact q H' hS
theorem same_all (M : Bl mg) (F : Fun K "_law_same" "_law_same" s_law_same f fd) (B : Binds K fd p_law_same []) (N : mg "_law_same" = some (.ref f)) :
    ∀ n, Cal P w K mg base n "_law_same" p_law_same (spSame n)
  | 0 => .mk' same_none B F.kp N
  | n + 1 => .mk' (ok_same M F (same_all M F B N n)) B F.kp N
theorem lst_len {ns : List Int} {n : Nat} (h : ns.length ≤ n) (hn : n ≤ 1000) : (ns.map V.int).length < sizeLine := small1000 (by rw [List.length_map]; omega)
def spRow : Sp := fun vs H Q _ => ∃ c m z : Int, vs = [.int c, .int m, .int z] ∧ 0 ≤ m ∧ m ≤ 900 ∧ 0 < z ∧ z < 1073741824 ∧
  ∀ (l : Addr) (ns : List Int) (H' : Hp), H l = none → Same H H' → H' l = some (.lst (ns.map V.int)) → ns.length = m.toNat → (∀ x ∈ ns, 0 ≤ x ∧ x < z) → Q (.ref l) H'
theorem ok_row (M : Bl mg) (F : Fun K "_law_row" "_law_row" s_law_row f fd) : FnOk P w K mg base CX0 1 f fd p_law_row spRow := by
  have nd := sc_law_row.nd
  refine F.ok sc_law_row (fun vs H Q E h => ?_) (fun cdv A outer s H vs Q E hr h => ?_)
  · obtain ⟨c, m, z, rfl, _⟩ := h
    rfl
  obtain ⟨c, m, z, rfl, m0, m1, z0, z1, q⟩ := h
  refine ⟨_, (pss_cons (ps_set (i := 3) nd rfl (Or.inl rfl) (pe_op op_fdiv (pv 0) pe_int)) (pss_cons (ps_set (i := 4) nd rfl (Or.inl rfl) (pe_op op_mod (pe_op op_mul (pv 3) pe_int) pe_int)) (pss_cons (ps_set (i := 5) nd rfl (Or.inl rfl) (pe_lst pa_nil)) (pss_cons (ps_for PassesOwn.never rfl (pi_range1 rfl M.range (pa_cons (pv 1) pa_nil)) (pg_name (i := 6) nd rfl (Or.inl rfl)) (pss_cons (ps_set (i := 4) nd rfl (Or.inl rfl) (pe_op op_mod (pe_op op_add (pe_op op_add (pe_op op_mul (pv 4) pe_int) (pv 6)) pe_int) pe_int)) (pss_one (ps_if (pt_cmpR op_eq (pe_op op_mod (pv 0) pe_int) pe_int (nomark _)) (pss_cons (ps_expr (pe_bm PySem.F.plainAttrs_list PySem.F.slot_list_append PySem.F.type_list_append mt_append (pv 5) (pa_cons (pe_op op_mod (pv 3) (pv 2)) pa_nil))) (pss_one (ps_set (i := 3) nd rfl (Or.inl rfl) (pe_op op_fdiv (pv 3) (pv 2))))) (pss_one (ps_expr (pe_bm PySem.F.plainAttrs_list PySem.F.slot_list_append PySem.F.type_list_append mt_append (pv 5) (pa_cons (pe_op op_mod (pe_op op_fdiv (pv 4) pe_int) (pv 2)) pa_nil)))))))) (pss_one (ps_ret (pv 5))))))), ?_⟩
  refine ⟨_, rfl, _, _, rfl, rfl, ⟨by decide, by decide⟩, ?_⟩
  refine ⟨_, rfl, _, _, rfl, rfl, .inr ⟨by decide, by decide⟩, _, _, rfl, rfl, (by show (0 : Int) < 2147483647; decide), ?_⟩
  refine ⟨(by show 0 ≤ sizeLine; decide), fun l hl => ?_⟩
  refine ⟨_, rfl, _, rfl, by omega, by omega, ?_⟩
  refine for_range (lo := 0) (n := m.toNat) (fun i σ H' => ∃ (ns : List Int) (r mx : Int) (o : Option V), ns.length = i ∧ (∀ x ∈ ns, 0 ≤ x ∧ x < z) ∧ H' = upd H l (.lst (ns.map V.int)) ∧
    σ = [some (.int c), some (.int m), some (.int z), some (.int r), some (.int mx), some (.ref l), o]) ⟨[], _, _, _, rfl, (fun _ h => nomatch h), rfl, rfl⟩ (fun i σ H' hi hp => ?_) (fun σ H' hp => ?_)
  · obtain ⟨ns, r, mx, o, hlen, hall, rfl, rfl⟩ := hp
    refine ⟨_, rfl, _, _, rfl, rfl, .inr ⟨by decide, by decide⟩, _, rfl, _, _, rfl, rfl, _, _, rfl, rfl, _, _, rfl, rfl, (by show (0 : Int) < 2147483647; decide), ?_⟩
    refine ⟨_, rfl, _, _, rfl, rfl, (by show (0 : Int) < 2; decide), rfl, _, rfl, ?_⟩
    have grow : ∀ y : Int, (∀ x ∈ ns ++ [y % z], 0 ≤ x ∧ x < z) := fun y x hx => by
      rcases List.mem_append.mp hx with h | h
      · exact hall x h
      · rw [List.mem_singleton.mp h]
        exact ⟨Int.emod_nonneg _ (by omega), Int.emod_lt_of_pos _ z0⟩
    have put : ∀ y : Int, upd (upd H l (.lst (ns.map V.int))) l (.lst (ns.map V.int ++ [.int (y % z)])) = upd H l (.lst ((ns ++ [y % z]).map V.int)) := fun y => by
      rw [upd_upd, List.map_append]
      rfl
    refine ite2 (fun _ => ?_) (fun _ => ?_)
    · refine ⟨_, rfl, .inl ⟨rfl, _, SqL.of upd_same⟩, _, rfl, _, rfl, _, _, rfl, rfl, z0, l, _, _, rfl, rfl, upd_same, lst_len (n := i) (by omega) (by omega), ?_⟩
      refine ⟨_, rfl, _, rfl, _, _, rfl, rfl, ⟨z0, z1⟩, ?_⟩
      exact ⟨ns ++ [r % z], _, _, _, by rw [List.length_append, hlen]; rfl, grow r, put r, rfl⟩
    · refine ⟨_, rfl, .inl ⟨rfl, _, SqL.of upd_same⟩, _, rfl, _, _, rfl, rfl, ⟨by decide, by decide⟩, _, rfl, _, _, rfl, rfl, z0, l, _, _, rfl, rfl, upd_same, lst_len (n := i) (by omega) (by omega), ?_⟩
      exact ⟨ns ++ [_ % z], _, _, _, by rw [List.length_append, hlen]; rfl, grow _, put _, rfl⟩
  · obtain ⟨ns, r, mx, o, hlen, hall, rfl, rfl⟩ := hp
    exact ⟨_, rfl, q l ns _ hl (same_new hl _) upd_same hlen hall⟩
theorem inV_ints (x : Int) (ns : List Int) : inV (.int x) (ns.map V.int) = decide (x ∈ ns) := by
  unfold inV
  rw [Bool.eq_iff_iff, List.any_map, List.any_eq_true, decide_eq_true_eq]
  constructor
  · rintro ⟨y, hy, e⟩
    have e' : (y == x) = true := e
    rw [← eq_of_beq e']
    exact hy
  · intro h
    exact ⟨x, h, show (x == x) = true from beq_self_eq_true x⟩
theorem flat_ints (ns : List Int) : (ns.map V.int).all flatV = true := by
  rw [List.all_map, List.all_eq_true]
  intro x _
  rfl
def lackL (ns : List Int) : List Int := (upI 1 60).filter fun x => decide (x ∉ ns) && decide (∃ y ∈ ns, x < y)
theorem mem_lackL {ns : List Int} {x : Int} : x ∈ lackL ns ↔ (1 ≤ x ∧ x < 1 + 60) ∧ x ∉ ns ∧ ∃ y ∈ ns, x < y := by
  unfold lackL
  rw [List.mem_filter, mem_upI, Bool.and_eq_true, decide_eq_true_eq, decide_eq_true_eq]
  rfl
theorem lackL_rise (ns : List Int) : (lackL ns).Pairwise (· < ·) := (upI_rise 1 60).filter _
theorem lackL_len (ns : List Int) : (lackL ns).length ≤ 60 := by
  have h := List.length_filter_le (fun x => decide (x ∉ ns) && decide (∃ y ∈ ns, x < y)) (upI 1 60)
  rw [upI_length] at h
  exact h
theorem lackL_max {ns : List Int} {m : Int} (hm : m ∈ ns) (hall : ∀ x ∈ ns, 1 ≤ x ∧ x ≤ 60) (top : ∀ y ∈ ns, y ≤ m) : (upI 1 (m + 1 - 1).toNat).filter (fun x => !decide (x ∈ ns)) = lackL ns :=
  rise_ext ((upI_rise _ _).filter _) (lackL_rise _) fun x => by
    have hm' := hall m hm
    rw [List.mem_filter, mem_upI, mem_lackL, Bool.not_eq_true', decide_eq_false_iff_not]
    constructor
    · rintro ⟨⟨a, b⟩, c⟩
      refine ⟨by omega, c, m, hm, ?_⟩
      have : x ≠ m := fun e => c (e ▸ hm)
      omega
    · rintro ⟨a, b, y, hy, c⟩
      have := top y hy
      exact ⟨by omega, b⟩
theorem lackL_nil : lackL [] = [] := by
  refine rise_ext (lackL_rise _) .nil fun x => ?_
  rw [mem_lackL]
  constructor
  · rintro ⟨_, _, y, hy, _⟩
    cases hy
  · intro h
    cases h
theorem SqI.keep {K : PySem.W.Frag} {H H' : Hp} {a : Addr} {ns : List Int} (e : Same H H') (h : SqI K H a ns) : SqI K H' a ns := by
  rcases h with h | h
  · exact .inl (e.seq h)
  · rcases h with (h | ⟨o, h⟩) | h
    · exact .inr (.inl (.inl (e _ _ h)))
    · exact .inr (.inl (.inr ⟨o, e _ _ h⟩))
    · exact .inr (.inr h)
theorem find_least {c : Int → Bool} {t : Int} : ∀ {l : List Int}, l.Pairwise (· < ·) → t ∈ l → c t = true → (∀ y ∈ l, c y = true → t ≤ y) → l.find? c = some t
  | [], _, h, _, _ => by cases h
  | x :: r, p, h, hc, hm => by
    rw [List.pairwise_cons] at p
    rw [List.find?_cons]
    rcases List.mem_cons.mp h with rfl | h
    · rw [hc]
    · cases e : c x with
      | true =>
        have h1 := p.1 t h
        have h2 := hm x List.mem_cons_self e
        omega
      | false => exact find_least p.2 h hc fun y hy => hm y (List.mem_cons_of_mem _ hy)
theorem find_is {c : Int → Bool} {t : Int} : ∀ {l : List Int}, l.Pairwise (· < ·) → l.find? c = some t → t ∈ l ∧ c t = true ∧ ∀ y ∈ l, c y = true → t ≤ y
  | [], _, h => by cases h
  | x :: r, p, h => by
    rw [List.pairwise_cons] at p
    rw [List.find?_cons] at h
    cases e : c x with
    | true =>
      rw [e] at h
      have h' : x = t := Option.some.inj h
      subst h'
      refine ⟨List.mem_cons_self, e, fun y hy _ => ?_⟩
      rcases List.mem_cons.mp hy with rfl | hy
      · exact Int.le_refl _
      · have := p.1 y hy
        omega
    | false =>
      rw [e] at h
      obtain ⟨h1, h2, h3⟩ := find_is p.2 h
      refine ⟨List.mem_cons_of_mem _ h1, h2, fun y hy hc => ?_⟩
      rcases List.mem_cons.mp hy with rfl | hy
      · rw [e] at hc
        cases hc
      · exact h3 y hy hc
def tellC (ns : List Int) (n r : Int) (y : Int) : Bool := decide (n < y) && decide (y - r ≤ n) && decide (y ∈ ns)
def tellV (ns : List Int) (n r : Int) : Int := ((upI 1 60).find? (tellC ns n r)).getD 0
theorem tellC_iff {ns : List Int} {n r y : Int} : tellC ns n r y = true ↔ n < y ∧ y - r ≤ n ∧ y ∈ ns := by
  unfold tellC
  rw [Bool.and_eq_true, Bool.and_eq_true, decide_eq_true_eq, decide_eq_true_eq, decide_eq_true_eq, and_assoc]
theorem tellV_of {ns : List Int} {n r t : Int} (hall : ∀ x ∈ ns, 1 ≤ x ∧ x ≤ 60) (ht : t ∈ ns) (h1 : n < t) (h2 : t - r ≤ n) (hm : ∀ y ∈ ns, n < y → y - r ≤ n → t ≤ y) : tellV ns n r = t := by
  unfold tellV
  rw [find_least (upI_rise 1 60) (t := t) (mem_upI.mpr (by have := hall t ht; omega)) (tellC_iff.mpr ⟨h1, h2, ht⟩) fun y _ hy => by
    obtain ⟨a, b, c⟩ := tellC_iff.mp hy
    exact hm y c a b]
  rfl
theorem tellV_none {ns : List Int} {n r : Int} (h : ∀ y ∈ ns, n < y → ¬ y - r ≤ n) : tellV ns n r = 0 := by
  unfold tellV
  have e : (upI 1 60).find? (tellC ns n r) = none := List.find?_eq_none.mpr fun y _ hy => by
    obtain ⟨a, b, c⟩ := tellC_iff.mp hy
    exact h y c a b
  rw [e]
  rfl
def sgL : List Nat := (("mM ~aA0.xX_9" : Str).cps.toList)
theorem sgL_len : sgL.length = 12 := by decide +kernel
theorem sgL_nodup : sgL.Nodup := by decide +kernel
abbrev farS : Str := "a stranger of twenty"
abbrev stemS : Str := "a long stem of them"
structure Nms (nm : List Str) : Prop where
  nd : nm.Nodup
  lo : ∀ x ∈ nm, 1 ≤ x.length
  hi : ∀ x ∈ nm, x.length ≤ 20
  far : farS ∉ nm
theorem cps_app (a b : Str) : (a ++ b).cps.toList = a.cps.toList ++ b.cps.toList := by
  show (a.cps ++ b.cps).toList = _
  simp
theorem cps_one (c : Nat) : (⟨#[c]⟩ : Str).cps.toList = [c] := rfl
theorem nodup_map_of {α β : Type} {g : α → β} : ∀ {l : List α}, l.Nodup → (∀ x ∈ l, ∀ y ∈ l, g x = g y → x = y) → (l.map g).Nodup
  | [], _, _ => List.nodup_nil
  | x :: r, n, h => by
    rw [List.nodup_cons] at n
    rw [List.map_cons, List.nodup_cons]
    refine ⟨fun hm => ?_, nodup_map_of n.2 fun a ha b hb => h a (List.mem_cons_of_mem _ ha) b (List.mem_cons_of_mem _ hb)⟩
    obtain ⟨y, hy, e⟩ := List.mem_map.mp hm
    have := h x List.mem_cons_self y (List.mem_cons_of_mem _ hy) e.symm
    exact n.1 (this ▸ hy)
theorem upI_nodup (lo : Int) (n : Nat) : (upI lo n).Nodup := (upI_rise lo n).imp fun {a b} h => by omega
theorem turn_inj {t a b : Int} (ht : 0 ≤ t) (ht2 : t < 12) (a0 : 0 ≤ a) (a1 : a < 12) (b0 : 0 ≤ b) (b1 : b < 12) (h : (t + a) % 12 = (t + b) % 12) : a = b := by omega
def repN (c : Nat) (t k : Int) : Str := repS ⟨#[c]⟩ (1 + (t + k) % 12).toNat
theorem repN_len (c : Nat) (t k : Int) : (repN c t k).length = (1 + (t + k) % 12).toNat := by
  unfold repN
  rw [← str_len]
  show ((List.replicate _ [c]).flatten.toArray).toList.length = _
  simp
theorem nms_rep (c : Nat) {t : Int} (h0 : 0 ≤ t) (h1 : t < 12) {m : Nat} (hm : m ≤ 12) : Nms ((upI 0 m).map (repN c t)) where
  nd := nodup_map_of (upI_nodup _ _) fun a ha b hb e => by
    have ha' := mem_upI.mp ha
    have hb' := mem_upI.mp hb
    have e2 := congrArg Str.length e
    rw [repN_len, repN_len] at e2
    exact turn_inj h0 h1 (by omega) (by omega) (by omega) (by omega) (by omega)
  lo := fun x hx => by
    obtain ⟨k, hk, rfl⟩ := List.mem_map.mp hx
    rw [repN_len]
    omega
  hi := fun x hx => by
    obtain ⟨k, hk, rfl⟩ := List.mem_map.mp hx
    rw [repN_len]
    omega
  far := fun hx => by
    obtain ⟨k, hk, e⟩ := List.mem_map.mp hx
    have e2 := congrArg Str.length e
    rw [repN_len] at e2
    have e3 : farS.length = 20 := by decide +kernel
    omega
def stemN (st : Str) (sp : Int) (t k : Int) : Str := cutS st none (some sp) ++ ⟨#[sgL.getD ((t + k) % 12).toNat 0]⟩ ++ cutS st (some sp) none
theorem sIx_some {n d : Nat} {v : Int} (h0 : 0 ≤ v) (h1 : v ≤ n) : HT.sIx n d (some v) = v.toNat := by
  show (if v < 0 then (v + (n : Int)).toNat else min v.toNat n) = _
  rw [if_neg (by omega), Nat.min_eq_left (by omega)]
theorem cut_lo (st : Str) {sp : Int} (h0 : 0 ≤ sp) (h1 : sp ≤ st.length) : (cutS st none (some sp)).cps.toList = st.cps.toList.take sp.toNat := by
  show ((st.cps.toList.drop 0).take (HT.sIx st.length st.length (some sp) - 0)) = _
  rw [sIx_some h0 h1, List.drop_zero, Nat.sub_zero]
theorem cut_hi (st : Str) {sp : Int} (h0 : 0 ≤ sp) (h1 : sp ≤ st.length) : (cutS st (some sp) none).cps.toList = st.cps.toList.drop sp.toNat := by
  show ((st.cps.toList.drop (HT.sIx st.length 0 (some sp))).take (st.length - HT.sIx st.length 0 (some sp))) = _
  rw [sIx_some h0 h1, List.take_of_length_le]
  rw [List.length_drop, str_len]
  exact Nat.le_refl _
theorem stemN_cps (st : Str) {sp : Int} (h0 : 0 ≤ sp) (h1 : sp ≤ st.length) (t k : Int) : (stemN st sp t k).cps.toList = st.cps.toList.take sp.toNat ++ sgL.getD ((t + k) % 12).toNat 0 :: st.cps.toList.drop sp.toNat := by
  unfold stemN
  rw [cps_app, cps_app, cut_lo st h0 h1, cut_hi st h0 h1, cps_one, List.append_assoc]
  rfl
theorem stemN_len (st : Str) {sp : Int} (h0 : 0 ≤ sp) (h1 : sp ≤ st.length) (t k : Int) : (stemN st sp t k).length = st.length + 1 := by
  rw [← str_len, stemN_cps st h0 h1, List.length_append, List.length_cons, List.length_take, List.length_drop, str_len]
  omega
theorem far_stem : ∀ s < 20, ∀ i < 12, stemS.cps.toList.take s ++ sgL.getD i 0 :: stemS.cps.toList.drop s ≠ farS.cps.toList := by decide +kernel
theorem nms_stem {st : Str} (hst : st = "" ∨ st = "row" ∨ st = stemS) {sp : Int} (h0 : 0 ≤ sp) (h1 : sp ≤ st.length) {t : Int} (t0 : 0 ≤ t) (t1 : t < 12) {m : Nat} (hm : m ≤ 12) : Nms ((upI 0 m).map (stemN st sp t)) where
  nd := nodup_map_of (upI_nodup _ _) fun a ha b hb e => by
    have ha' := mem_upI.mp ha
    have hb' := mem_upI.mp hb
    have e2 : (stemN st sp t a).cps.toList = (stemN st sp t b).cps.toList := congrArg (fun z : Str => z.cps.toList) e
    rw [stemN_cps st h0 h1, stemN_cps st h0 h1] at e2
    have e3 := List.append_cancel_left e2
    have e4 : sgL.getD ((t + a) % 12).toNat 0 = sgL.getD ((t + b) % 12).toNat 0 := (List.cons.inj e3).1
    have l1 : ((t + a) % 12).toNat < sgL.length := by rw [sgL_len]; omega
    have l2 : ((t + b) % 12).toNat < sgL.length := by rw [sgL_len]; omega
    rw [List.getD_eq_getElem?_getD, List.getElem?_eq_getElem l1, List.getD_eq_getElem?_getD, List.getElem?_eq_getElem l2] at e4
    have e5 := (List.getElem_inj sgL_nodup).mp e4
    exact turn_inj t0 t1 (by omega) (by omega) (by omega) (by omega) (by omega)
  lo := fun x hx => by
    obtain ⟨k, hk, rfl⟩ := List.mem_map.mp hx
    rw [stemN_len st h0 h1]
    omega
  hi := fun x hx => by
    obtain ⟨k, hk, rfl⟩ := List.mem_map.mp hx
    rw [stemN_len st h0 h1]
    have l1 : ("" : Str).length = 0 := by decide +kernel
    have l2 : ("row" : Str).length = 3 := by decide +kernel
    have l3 : stemS.length = 19 := by decide +kernel
    rcases hst with rfl | rfl | rfl <;> omega
  far := fun hx => by
    obtain ⟨k, hk, e⟩ := List.mem_map.mp hx
    have l1 : ("" : Str).length = 0 := by decide +kernel
    have l2 : ("row" : Str).length = 3 := by decide +kernel
    have l3 : stemS.length = 19 := by decide +kernel
    have l4 : farS.length = 20 := by decide +kernel
    have e2 := congrArg Str.length e
    rw [stemN_len st h0 h1] at e2
    rcases hst with rfl | rfl | rfl
    · omega
    · omega
    · have e3 : (stemN stemS sp t k).cps.toList = farS.cps.toList := congrArg (fun z : Str => z.cps.toList) e
      rw [stemN_cps stemS h0 h1] at e3
      exact far_stem sp.toNat (by omega) ((t + k) % 12).toNat (by omega) e3
def spNamed : Sp := fun vs H Q _ => ∃ c m : Int, vs = [.int c, .int m] ∧ 0 ≤ m ∧ m ≤ 12 ∧
  ∀ (l : Addr) (nm : List Str) (H' : Hp), H l = none → Same H H' → H' l = some (.lst (nm.map V.str)) → nm.length = m.toNat → Nms nm → Q (.ref l) H'
theorem kept_all {f : Int → V} (l : List Int) : keptV (fun _ => true) f l = l.map f := by
  unfold keptV
  rw [List.filter_eq_self.mpr fun _ _ => rfl]
theorem ok_named (M : Bl mg) (F : Fun K "_law_named" "_law_named" s_law_named f fd) : FnOk P w K mg base CX0 1 f fd p_law_named spNamed := by
  have nd := sc_law_named.nd
  refine F.ok sc_law_named (fun vs H Q E h => ?_) (fun cdv A outer s H vs Q E hr h => ?_)
  · obtain ⟨c, m, rfl, _⟩ := h
    rfl
  obtain ⟨c, m, rfl, m0, m1, q⟩ := h
  refine ⟨_, (pss_cons (ps_set (i := 2) nd rfl (Or.inr rfl) pe_str) (pss_cons (ps_set (i := 3) nd rfl (Or.inr rfl) (pe_op op_mod (pe_op op_fdiv (pv 0) pe_int) pe_int)) (pss_cons (ps_if (pt_cmpR op_eq (pe_op op_mod (pv 0) pe_int) pe_int (nomark _)) (pss_one (ps_ret (pe_comp ["_law_k"] ["_law_cell", "_law_turn"] [0, 3] rfl (comp_scope rfl (by decide +kernel) rfl (by decide +kernel) rfl rfl) (pi_range1 rfl M.range (pa_cons (pv 1) pa_nil)) (fun _ _ _ _ _ => (pg_name (i := 0) (show ((["_law_k"] : List PySem.Str) ++ (["_law_cell", "_law_turn"] : List PySem.Str)).Nodup from by decide +kernel) rfl (Or.inl rfl))) (own_name (by decide)) mono_name (fun _ _ _ _ _ => pts_nil) (fun _ _ _ _ _ => (pe_op op_mul_str (pe_ix ix_str pe_str (pe_op op_mod (pe_op op_fdiv (pv 1) pe_int) pe_int) (fun _ _ => rfl)) (pe_op op_add pe_int (pe_op op_mod (pe_op op_add (pv 2) (pv 0)) pe_int))))))) pss_nil) (pss_cons (ps_set (i := 4) nd rfl (Or.inr rfl) (pe_ix ix_list (pe_lst (pa_cons pe_str (pa_cons pe_str (pa_cons pe_str pa_nil)))) (pe_op op_mod (pv 0) pe_int) (fun _ _ => rfl))) (pss_cons (ps_set (i := 5) nd rfl (Or.inr rfl) (pe_op op_mod (pe_op op_fdiv (pv 0) pe_int) (pe_op op_add (pe_callB call_len_str rfl M.len PySem.boot_len (pa_cons (pv 4) pa_nil)) pe_int))) (pss_one (ps_ret (pe_comp ["_law_k"] ["_law_stem", "_law_signs", "_law_spot", "_law_turn"] [4, 2, 5, 3] rfl (comp_scope rfl (by decide +kernel) rfl (by decide +kernel) rfl rfl) (pi_range1 rfl M.range (pa_cons (pv 1) pa_nil)) (fun _ _ _ _ _ => (pg_name (i := 0) (show ((["_law_k"] : List PySem.Str) ++ (["_law_stem", "_law_signs", "_law_spot", "_law_turn"] : List PySem.Str)).Nodup from by decide +kernel) rfl (Or.inl rfl))) (own_name (by decide)) mono_name (fun _ _ _ _ _ => pts_nil) (fun _ _ _ _ _ => (pe_op op_add_str (pe_op op_add_str (pe_slice sl_str (pv 1) po_none (po_some (pv 3))) (pe_ix ix_str (pv 2) (pe_op op_mod (pe_op op_add (pv 4) (pv 0)) pe_int) (fun _ _ => rfl))) (pe_slice sl_str (pv 1) (po_some (pv 3)) po_none))))))))))), ?_⟩
  have t0 : 0 ≤ c / 4 % 12 := Int.emod_nonneg _ (by decide)
  have t1 : c / 4 % 12 < 12 := Int.emod_lt_of_pos _ (by decide)
  refine ⟨_, rfl, _, _, rfl, rfl, ⟨by decide, by decide⟩, _, _, rfl, rfl, (by show (0 : Int) < 12; decide), ?_⟩
  refine ⟨_, rfl, _, _, rfl, rfl, (by show (0 : Int) < 4; decide), rfl, _, rfl, ?_⟩
  refine ite2 (fun _ => ?_) (fun cn => ?_)
  · obtain ⟨sg, hsg⟩ : ∃ sg, atI (("a ~" : Str).cps.toList) (c / 48 % 3) = some sg := by
      have h0 : 0 ≤ c / 48 % 3 := Int.emod_nonneg _ (by decide)
      have h1 : c / 48 % 3 < 3 := Int.emod_lt_of_pos _ (by decide)
      have ek : c / 48 % 3 = (((c / 48 % 3).toNat : Nat) : Int) := by omega
      have hl : (("a ~" : Str).cps.toList).length = 3 := by decide +kernel
      rw [ek]
      exact ⟨_, atI_nat (List.getElem?_eq_getElem (by rw [hl]; omega))⟩
    refine ⟨_, rfl, _, rfl, by omega, by omega, ?_⟩
    refine comp_up (lo := 0) (n := m.toNat) (fun _ => true) (fun k => .str (repN sg (c / 4 % 12) k)) (by omega) (fun k ys N k0 k1 hN => ?_) ?_
    · refine ⟨_, rfl, _, _, rfl, rfl, ⟨by decide, by decide⟩, _, _, rfl, rfl, (by show (0 : Int) < 3; decide), _, _, sg, rfl, rfl, (by decide +kernel), hsg, ?_⟩
      refine ⟨_, rfl, _, rfl, _, _, rfl, rfl, _, _, rfl, rfl, (by show (0 : Int) < 12; decide), _, _, rfl, rfl, _, _, rfl, rfl, ?_, ?_, ?_, ?_⟩
      · have := Int.emod_nonneg (c / 4 % 12 + k) (show (12 : Int) ≠ 0 by decide)
        omega
      · have := Int.emod_lt_of_pos (c / 4 % 12 + k) (show (0 : Int) < 12 by decide)
        omega
      · show 1 ≤ 1000
        decide
      · exact hN
    · intro D hD
      rw [kept_all]
      refine q D ((upI 0 m.toNat).map (repN sg (c / 4 % 12))) _ hD (same_new hD _) ?_ (by rw [List.length_map, upI_length]) (nms_rep sg t0 t1 (by omega))
      rw [upd_same, List.map_map]
      rfl
  · have c4 : c % 4 = 0 ∨ c % 4 = 1 ∨ c % 4 = 2 := by
      have h1 := Int.emod_nonneg c (show (4 : Int) ≠ 0 by decide)
      have h2 := Int.emod_lt_of_pos c (show (0 : Int) < 4 by decide)
      have h3 : c % 4 ≠ 3 := fun e => cn (decide_eq_true (congrArg V.int e))
      omega
    obtain ⟨st, hat, hst⟩ : ∃ st : Str, atI [V.str "", V.str "row", V.str "a long stem of them"] (c % 4) = some (.str st) ∧ (st = "" ∨ st = "row" ∨ st = stemS) := by
      rcases c4 with e | e | e <;> rw [e]
      · exact ⟨_, rfl, .inl rfl⟩
      · exact ⟨_, rfl, .inr (.inl rfl)⟩
      · exact ⟨_, rfl, .inr (.inr rfl)⟩
    have stl : st.length ≤ 19 := by
      have l1 : ("" : Str).length = 0 := by decide +kernel
      have l2 : ("row" : Str).length = 3 := by decide +kernel
      have l3 : stemS.length = 19 := by decide +kernel
      rcases hst with rfl | rfl | rfl <;> omega
    refine ⟨(by show 3 ≤ sizeLine; decide), fun p hp => ⟨_, rfl, _, _, rfl, rfl, (by show (0 : Int) < 4; decide), p, _, _, _, rfl, rfl, SqL.of upd_same, hat, ?_⟩⟩
    refine ⟨_, rfl, _, _, rfl, rfl, ⟨by decide, by decide⟩, _, rfl, st, rfl, small (by omega), _, _, rfl, rfl, _, _, rfl, rfl, by omega, ?_⟩
    have s0 : 0 ≤ c / 48 % ((st.length : Int) + 1) := Int.emod_nonneg _ (by omega)
    have s1 : c / 48 % ((st.length : Int) + 1) ≤ (st.length : Int) := by
      have := Int.emod_lt_of_pos (c / 48) (show (0 : Int) < (st.length : Int) + 1 by omega)
      omega
    refine ⟨_, rfl, _, rfl, by omega, by omega, ?_⟩
    refine comp_up (lo := 0) (n := m.toNat) (fun _ => true) (fun k => .str (stemN st (c / 48 % ((st.length : Int) + 1)) (c / 4 % 12) k)) (by omega) (fun k ys N k0 k1 hN => ?_) ?_
    · have i0 := Int.emod_nonneg (c / 4 % 12 + k) (show (12 : Int) ≠ 0 by decide)
      have i1 := Int.emod_lt_of_pos (c / 4 % 12 + k) (show (0 : Int) < 12 by decide)
      have hsg : atI (("mM ~aA0.xX_9" : Str).cps.toList) ((c / 4 % 12 + k) % 12) = some (sgL.getD ((c / 4 % 12 + k) % 12).toNat 0) := by
        have ek : (c / 4 % 12 + k) % 12 = ((((c / 4 % 12 + k) % 12).toNat : Nat) : Int) := by omega
        have l1 : ((c / 4 % 12 + k) % 12).toNat < sgL.length := by rw [sgL_len]; omega
        have q1 : atI sgL ((((c / 4 % 12 + k) % 12).toNat : Nat) : Int) = some (sgL.getD ((c / 4 % 12 + k) % 12).toNat 0) := atI_nat (by
          rw [List.getD_eq_getElem?_getD, List.getElem?_eq_getElem l1]
          rfl)
        rw [← ek] at q1
        exact q1
      have la : (cutS st none (some (c / 48 % ((st.length : Int) + 1)))).length ≤ 19 := by
        rw [← str_len, cut_lo st s0 s1, List.length_take, str_len]
        omega
      have lb : (cutS st (some (c / 48 % ((st.length : Int) + 1))) none).length ≤ 19 := by
        rw [← str_len, cut_hi st s0 s1, List.length_drop, str_len]
        omega
      have lc : ∀ (x : Nat), (⟨#[x]⟩ : Str).length = 1 := fun _ => rfl
      have lab : ∀ (x : Nat), (cutS st none (some (c / 48 % ((st.length : Int) + 1))) ++ (⟨#[x]⟩ : Str)).length ≤ 20 := fun x => by
        rw [← str_len, cps_app, List.length_append, str_len, str_len, lc]
        omega
      refine ⟨_, rfl, _, rfl, _, rfl, st, rfl, small (by omega), ?_⟩
      refine ⟨_, rfl, _, rfl, _, rfl, _, _, rfl, rfl, _, _, rfl, rfl, (by show (0 : Int) < 12; decide), _, _, _, rfl, rfl, (by decide +kernel), hsg, ?_⟩
      refine ⟨_, _, rfl, rfl, small (by rw [lc]; omega), ?_⟩
      refine ⟨_, rfl, _, rfl, _, rfl, st, rfl, small (by omega), _, _, rfl, rfl, small (by have := lab (sgL.getD ((c / 4 % 12 + k) % 12).toNat 0); omega), ?_⟩
      exact hN
    · intro D hD
      rw [kept_all]
      refine q D ((upI 0 m.toNat).map (stemN st (c / 48 % ((st.length : Int) + 1)) (c / 4 % 12))) _ ((same_new hp _).free hD) ((same_new hp _).trans (same_new hD _)) ?_ (by rw [List.length_map, upI_length]) (nms_stem hst s0 s1 t0 t1 (by omega))
      rw [upd_same, List.map_map]
      rfl
def spDoubled : Sp := fun vs H Q _ => ∃ t : Int, vs = [.int t] ∧ 0 ≤ t ∧ t < 1000000 ∧ Q (.int (2 ^ t.toNat)) H
theorem ok_doubled (M : Bl mg) (F : Fun K "_law_doubled" "_law_doubled" s_law_doubled f fd) : FnOk P w K mg base CX0 1 f fd p_law_doubled spDoubled := by
  have nd := sc_law_doubled.nd
  refine F.ok sc_law_doubled (fun vs H Q E h => ?_) (fun cdv A outer s H vs Q E hr h => ?_)
  · obtain ⟨t, rfl, _⟩ := h
    rfl
  obtain ⟨t, rfl, t0, t1, q⟩ := h
  refine ⟨_, (pss_cons (ps_set (i := 1) nd rfl (Or.inl rfl) pe_int) (pss_cons (ps_for PassesOwn.never rfl (pi_range1 rfl M.range (pa_cons (pv 0) pa_nil)) (pg_name (i := 2) nd rfl (Or.inl rfl)) (pss_one (ps_set (i := 1) nd rfl (Or.inl rfl) (pe_op op_mul (pv 1) pe_int)))) (pss_one (ps_ret (pv 1))))), ?_⟩
  refine ⟨_, rfl, _, rfl, by omega, by omega, ?_⟩
  refine for_range (lo := 0) (n := t.toNat) (fun i σ H' => H' = H ∧ ∃ o, σ = [some (.int t), some (.int (2 ^ i)), o]) ⟨rfl, _, rfl⟩ (fun i σ H' hi hp => ?_) (fun σ H' hp => ?_)
  · obtain ⟨rfl, o, rfl⟩ := hp
    refine ⟨_, rfl, _, _, rfl, rfl, .inr ⟨by decide, by decide⟩, rfl, some (.int (0 + (i : Int))), ?_⟩
    rw [Int.pow_succ]
    rfl
  · obtain ⟨rfl, o, rfl⟩ := hp
    exact ⟨_, rfl, q⟩
def SetAt (H : Hp) (l : Addr) (v : V) (s : List Str) : Prop := ∃ a, v = .ref a ∧ a ≠ l ∧ H a = some (.lst (s.map V.str))
theorem SetAt.keep {H H' : Hp} (g : Same H H') {l : Addr} {v : V} {s : List Str} (h : SetAt H l v s) : SetAt H' l v s := let ⟨a, e, n, q⟩ := h; ⟨a, e, n, g _ _ q⟩
theorem SetAt.over {H : Hp} {l : Addr} {o : HO} {v : V} {s : List Str} (h : SetAt H l v s) : SetAt (upd H l o) l v s := let ⟨a, e, n, q⟩ := h; ⟨a, e, n, by rw [upd_ne n]; exact q⟩
abbrev SetsAt (H : Hp) (l : Addr) : List V → List (List Str) → Prop := Paired (SetAt H l)
theorem SetsAt.keep {H H' : Hp} (g : Same H H') {l : Addr} : ∀ {xs : List V} {ss : List (List Str)}, SetsAt H l xs ss → SetsAt H' l xs ss
  | _, _, .nil => .nil
  | _, _, .cons r t => .cons (r.keep g) (SetsAt.keep g t)
theorem SetsAt.over {H : Hp} {l : Addr} {o : HO} : ∀ {xs : List V} {ss : List (List Str)}, SetsAt H l xs ss → SetsAt (upd H l o) l xs ss
  | _, _, .nil => .nil
  | _, _, .cons r t => .cons r.over (SetsAt.over t)
theorem SetsAt.len {H : Hp} {l : Addr} : ∀ {xs : List V} {ss : List (List Str)}, SetsAt H l xs ss → xs.length = ss.length
  | _, _, .nil => rfl
  | _, _, .cons _ t => by rw [List.length_cons, List.length_cons, SetsAt.len t]
theorem SetsAt.get {H : Hp} {l : Addr} : ∀ {xs : List V} {ss : List (List Str)}, SetsAt H l xs ss → ∀ (i : Nat) (s : List Str), ss[i]? = some s → ∃ v, xs[i]? = some v ∧ SetAt H l v s
  | _, _, .nil, i, s, e => by simp at e
  | _, _, .cons r t, 0, s, e => by
    simp at e
    subst e
    exact ⟨_, rfl, r⟩
  | _, _, .cons r t, i + 1, s, e => by
    obtain ⟨v, h1, h2⟩ := SetsAt.get t i s (by simpa using e)
    exact ⟨v, by simpa using h1, h2⟩
theorem flat_strs (ns : List Str) : (ns.map V.str).all flatV = true := by
  rw [List.all_map, List.all_eq_true]
  intro x _
  rfl
theorem at_strs {ns : List Str} {k : Int} (h0 : 0 ≤ k) (h : k < (ns.length : Int)) : ∃ x, ns[k.toNat]? = some x ∧ atI (ns.map V.str) k = some (.str x) := by
  have hk : k.toNat < ns.length := by omega
  have ek : k = ((k.toNat : Nat) : Int) := by omega
  have q : atI (ns.map V.str) ((k.toNat : Nat) : Int) = some (.str ns[k.toNat]) := atI_nat (by rw [List.getElem?_map, List.getElem?_eq_getElem hk]; rfl)
  rw [← ek] at q
  exact ⟨_, List.getElem?_eq_getElem hk, q⟩
def spSets (K : PySem.W.Frag) : Sp := fun vs H Q _ => ∃ (ln : Addr) (nm : List Str) (c m : Int), vs = [.ref ln, .int c, .int m] ∧ SqL K H ln (nm.map V.str) ∧ 1 ≤ nm.length ∧ nm.length ≤ 12 ∧ 0 ≤ m ∧ m ≤ 900 ∧
  ∀ (l : Addr) (xs : List V) (ss : List (List Str)) (H' : Hp), H l = none → Same H H' → H' l = some (.lst xs) → SetsAt H' l xs ss → ss.length = m.toNat → (∀ s ∈ ss, s.Sublist nm) → Q (.ref l) H'
theorem two_pow_le {n : Nat} (h : n ≤ 12) : (1 : Int) ≤ 2 ^ n ∧ (2 : Int) ^ n ≤ 4096 := by
  have : ∀ k ≤ 12, (1 : Int) ≤ 2 ^ k ∧ (2 : Int) ^ k ≤ 4096 := by decide
  exact this n h
theorem ok_sets (M : Bl mg) (F : Fun K "_law_sets" "_law_sets" s_law_sets f fd) (G_law_row : Cal P w K mg base 1 "_law_row" p_law_row spRow) (G_law_doubled : Cal P w K mg base 1 "_law_doubled" p_law_doubled spDoubled) :
    FnOk P w K mg base CX0 2 f fd p_law_sets (spSets K) := by
  have nd := sc_law_sets.nd
  refine F.ok sc_law_sets (fun vs H Q E h => ?_) (fun cdv A outer s H vs Q E hr h => ?_)
  · obtain ⟨ln, nm, c, m, rfl, _⟩ := h
    rfl
  obtain ⟨ln, nm, c, m, rfl, hS, n1, n2, m0, m1, q⟩ := h
  refine ⟨_, (pss_cons (ps_set (i := 3) nd rfl (Or.inl rfl) (pe_cal G_law_doubled (rm hr) rfl (pa_cons (pe_callB call_len_seq rfl M.len PySem.boot_len (pa_cons (pv 0) pa_nil)) pa_nil))) (pss_cons (ps_set (i := 4) nd rfl (Or.inl rfl) (pe_lst pa_nil)) (pss_cons (ps_for PassesOwn.never rfl (pi_list (pe_cal G_law_row (rm hr) rfl (pa_cons (pv 1) (pa_cons (pv 2) (pa_cons (pe_op op_mul pe_int (pv 3)) pa_nil))))) (pg_name (i := 5) nd rfl (Or.inl rfl)) (pss_cons (ps_set (i := 6) nd rfl (Or.inl rfl) (pe_op op_mod (pv 5) (pv 3))) (pss_cons (ps_set (i := 7) nd rfl (Or.inl rfl) (pe_lst pa_nil)) (pss_cons (ps_for PassesOwn.never rfl (pi_list (pv 0)) (pg_name (i := 8) nd rfl (Or.inl rfl)) (pss_cons (ps_if (pt_cmpR op_eq (pe_op op_mod (pv 6) pe_int) pe_int (nomark _)) (pss_one (ps_expr (pe_bm PySem.F.plainAttrs_list PySem.F.slot_list_append PySem.F.type_list_append mt_append (pv 7) (pa_cons (pv 8) pa_nil)))) pss_nil) (pss_one (ps_set (i := 6) nd rfl (Or.inl rfl) (pe_op op_fdiv (pv 6) pe_int))))) (pss_cons (ps_if (pt_cmpR op_eq (pe_op op_fdiv (pv 5) (pv 3)) pe_int (nomark _)) (pss_one (ps_set (i := 7) nd rfl (Or.inl rfl) (pe_lst (pa_cons (pe_ix ix_list (pv 0) (pe_op op_mod (pv 5) (pe_callB call_len_seq rfl M.len PySem.boot_len (pa_cons (pv 0) pa_nil))) (fun _ _ => rfl)) pa_nil)))) pss_nil) (pss_cons (ps_if (pt_cmpR op_eq (pe_op op_fdiv (pv 5) (pv 3)) pe_int (nomark _)) (pss_one (ps_set (i := 7) nd rfl (Or.inl rfl) (pe_lst pa_nil))) pss_nil) (pss_cons (ps_if (pt_cmpR op_eq (pe_op op_fdiv (pv 5) (pv 3)) pe_int (nomark _)) (pss_one (ps_set (i := 7) nd rfl (Or.inl rfl) (pe_callTy call_list_of rfl M.list PyProof.Rows.boot_list (pa_cons (pv 0) pa_nil)))) pss_nil) (pss_one (ps_expr (pe_bm PySem.F.plainAttrs_list PySem.F.slot_list_append PySem.F.type_list_append mt_append (pv 4) (pa_cons (pv 7) pa_nil))))))))))) (pss_one (ps_ret (pv 4)))))), ?_⟩
  have hl0 : (nm.map V.str).length = nm.length := List.length_map _
  refine ⟨_, rfl, ln, _, rfl, .inl hS, _, rfl, by omega, by omega, ?_⟩
  have pw := two_pow_le n2
  rw [hl0]
  have ez : (2 : Int) ^ (((nm.length : Nat) : Int).toNat) = 2 ^ nm.length := rfl
  rw [ez]
  generalize hz : (2 : Int) ^ nm.length = z at pw ⊢
  refine ⟨(by show 0 ≤ sizeLine; decide), fun l hl => ?_⟩
  refine ⟨_, rfl, _, rfl, _, rfl, _, _, rfl, rfl, .inl ⟨by decide, by decide⟩, c, m, 4 * z, rfl, m0, m1, by omega, by omega, fun lf fs H1 nlf s1 e1 len1 all1 => ?_⟩
  have sl := same_new (H := H) hl (.lst [])
  have nl : lf ≠ l := fun e => by rw [e, upd_same] at nlf; cases nlf
  have el1 : H1 l = some (.lst []) := s1 _ _ upd_same
  refine ⟨lf, rfl, ⟨_, SqL.of e1⟩, ?_⟩
  refine for_list (xs := fs.map V.int) (fun i σ H' => ∃ (xs : List V) (ss : List (List Str)) (o1 o2 o3 o4 : Option V), H' l = some (.lst xs) ∧ SetsAt H' l xs ss ∧ ss.length = i ∧ (∀ s ∈ ss, s.Sublist nm) ∧ H' lf = some (.lst (fs.map V.int)) ∧ Same H H' ∧
    σ = [some (.ref ln), some (.int c), some (.int m), some (.int z), some (.ref l), o1, o2, o3, o4]) ⟨[], [], _, _, _, _, el1, .nil, rfl, (fun _ h => nomatch h), e1, sl.trans s1, rfl⟩ (fun i σ H' hi hp => ?_) (fun i x σ H' hx hp => ?_) (fun σ H' hp => ?_)
  · obtain ⟨xs, ss, o1, o2, o3, o4, _, _, _, _, h2, _⟩ := hp
    exact SqL.of h2
  · obtain ⟨xs, ss, o1, o2, o3, o4, p1, p2, p3, p4, p5, p6, rfl⟩ := hp
    rw [List.getElem?_map] at hx
    cases ef : fs[i]? with
    | none => rw [ef] at hx; cases hx
    | some g =>
      rw [ef] at hx
      cases hx
      have hg := all1 g (List.mem_of_getElem? ef)
      have hi : i < fs.length := (List.getElem?_eq_some_iff.mp ef).1
      have lx := p2.len
      have cd : CDiv g z := ⟨by omega, by omega⟩
      refine ⟨_, rfl, _, rfl, _, _, rfl, rfl, (by omega), ?_⟩
      refine ⟨(by show 0 ≤ sizeLine; decide), fun a ha => ?_⟩
      have nal : a ≠ l := fun e => by rw [e, p1] at ha; cases ha
      have naf : a ≠ lf := fun e => by rw [e, p5] at ha; cases ha
      refine ⟨_, rfl, ln, rfl, ⟨_, (p6.trans (same_new ha _)).seq hS⟩, ?_⟩
      refine for_list (xs := nm.map V.str) (fun k σ H2 => ∃ (ch : List Str) (mk : Int) (o4 : Option V), ch.Sublist (nm.take k) ∧ H2 = upd H' a (.lst (ch.map V.str)) ∧
        σ = [some (.ref ln), some (.int c), some (.int m), some (.int z), some (.ref l), some (.int g), some (.int mk), some (.ref a), o4]) ⟨[], _, _, List.Sublist.refl _, rfl, rfl⟩ (fun k σ H2 hk hp => ?_) (fun k y σ H2 hy hp => ?_) (fun σ H2 hp => ?_)
      · obtain ⟨ch, mk, o4, _, rfl, _⟩ := hp
        exact (p6.trans (same_new ha _)).seq hS
      · obtain ⟨ch, mk, o4, hch, rfl, rfl⟩ := hp
        rw [List.getElem?_map] at hy
        cases en : nm[k]? with
        | none => rw [en] at hy; cases hy
        | some nk =>
          rw [en] at hy
          cases hy
          have tk := take_snoc en
          have hcl : ch.length ≤ 12 := by
            have := hch.length_le
            rw [List.length_take] at this
            omega
          refine ⟨_, rfl, _, _, rfl, rfl, (by show (0 : Int) < 2; decide), rfl, _, rfl, ?_⟩
          refine ite2 (fun _ => ?_) (fun _ => ?_)
          · refine ⟨_, rfl, .inl ⟨rfl, _, SqL.of upd_same⟩, _, rfl, a, _, _, rfl, rfl, upd_same, small1000 (by rw [List.length_map]; omega), ?_⟩
            refine ⟨_, rfl, _, _, rfl, rfl, ⟨by decide, by decide⟩, ch ++ [nk], _, some (.str nk), ?_, ?_, rfl⟩
            · rw [tk]
              exact hch.append (List.Sublist.refl _)
            · rw [upd_upd, List.map_append]
              rfl
          · refine ⟨_, rfl, _, _, rfl, rfl, ⟨by decide, by decide⟩, ch, _, some (.str nk), ?_, rfl, rfl⟩
            rw [tk]
            exact hch.trans (List.sublist_append_left _ _)
      · obtain ⟨ch, mk, o4, hch, rfl, rfl⟩ := hp
        rw [List.length_map, List.take_length] at hch
        -- what stands behind the three ifs: a list at some address, its names in order
        have fin : ∀ (b : Addr) (cs : List Str) (H3 : Hp) (o2 o4 : Option V), cs.Sublist nm → b ≠ l → H3 b = some (.lst (cs.map V.str)) → Same (upd H' a (.lst (ch.map V.str))) H3 →
            ∃ (xs' : List V) (ss' : List (List Str)) (o1' o2' o3' o4' : Option V), upd H3 l (.lst (xs ++ [.ref b])) l = some (.lst xs') ∧ SetsAt (upd H3 l (.lst (xs ++ [.ref b]))) l xs' ss' ∧ ss'.length = i + 1 ∧ (∀ s ∈ ss', s.Sublist nm) ∧
              upd H3 l (.lst (xs ++ [.ref b])) lf = some (.lst (fs.map V.int)) ∧ Same H (upd H3 l (.lst (xs ++ [.ref b]))) ∧
              ([some (.ref ln), some (.int c), some (.int m), some (.int z), some (.ref l), some (.int g), o2, some (.ref b), o4] : St) = [some (.ref ln), some (.int c), some (.int m), some (.int z), some (.ref l), o1', o2', o3', o4'] := by
          intro b cs H3 o2 o4 hcs hb hb3 g3
          have g4 : Same H' H3 := (same_new ha _).trans g3
          refine ⟨_, ss ++ [cs], _, _, _, _, upd_same, ?_, by rw [List.length_append, p3]; rfl, fun s' hs' => ?_, ?_, same_upd (p6.trans g4) hl, rfl⟩
          · exact Paired.snoc (p2.keep g4).over ⟨b, rfl, hb, by rw [upd_ne hb]; exact hb3⟩
          · rcases List.mem_append.mp hs' with h | h
            · exact p4 s' h
            · rw [List.mem_singleton.mp h]
              exact hcs
          · rw [upd_ne nl]
            exact g4 _ _ p5
        have el : ∀ {H3 : Hp}, Same (upd H' a (.lst (ch.map V.str))) H3 → H3 l = some (.lst xs) := fun {H3} g3 => g3 _ _ ((same_new ha _) _ _ p1)
        have app : ∀ {H3 : Hp}, Same (upd H' a (.lst (ch.map V.str))) H3 → xs.length < sizeLine := fun _ => small1000 (by omega)
        -- first if
        refine ⟨_, rfl, _, rfl, _, _, rfl, rfl, cd, rfl, _, rfl, ?_⟩
        refine ite2 (fun d1 => ?_) (fun d1 => ?_)
        · obtain ⟨x1, hx1, ax1⟩ := at_strs (ns := nm) (k := g % (((nm.map V.str).length : Nat) : Int)) (Int.emod_nonneg _ (by omega)) (by rw [hl0]; exact Int.emod_lt_of_pos _ (by omega))
          have q1 : g / z = 1 := V.int.inj (dec_of d1)
          refine ⟨_, rfl, _, rfl, _, rfl, ln, _, rfl, .inl ((p6.trans (same_new ha _)).seq hS), _, _, rfl, rfl, (by rw [hl0]; omega), ln, _, _, _, rfl, rfl, (p6.trans (same_new ha _)).seq hS, ax1, (by show 1 ≤ sizeLine; decide), fun b1 hb1 => ?_⟩
          have g1 := same_new hb1 (.lst [.str x1])
          have sub1 : [x1].Sublist nm := List.singleton_sublist.mpr (List.mem_of_getElem? hx1)
          refine ⟨_, rfl, _, rfl, _, _, rfl, rfl, cd, rfl, _, rfl, ?_⟩
          refine ite2 (fun d => absurd (show g / z = 2 from V.int.inj (dec_of d)) (by omega)) (fun _ => ⟨_, rfl, _, rfl, _, _, rfl, rfl, cd, rfl, _, rfl, ?_⟩)
          refine ite2 (fun d => absurd (show g / z = 3 from V.int.inj (dec_of d)) (by omega)) (fun _ => ?_)
          refine ⟨_, rfl, .inl ⟨rfl, _, SqL.of (el g1)⟩, _, rfl, l, _, _, rfl, rfl, el g1, app g1, ?_⟩
          exact fin b1 [x1] _ _ _ sub1 (fun e => by rw [e, (same_new ha (.lst (ch.map V.str))) _ _ p1] at hb1; cases hb1) upd_same g1
        · refine ⟨_, rfl, _, rfl, _, _, rfl, rfl, cd, rfl, _, rfl, ?_⟩
          refine ite2 (fun d2 => ?_) (fun d2 => ?_)
          · have q2 : g / z = 2 := V.int.inj (dec_of d2)
            refine ⟨(by show 0 ≤ sizeLine; decide), fun b1 hb1 => ?_⟩
            have g1 := same_new hb1 (.lst [])
            refine ⟨_, rfl, _, rfl, _, _, rfl, rfl, cd, rfl, _, rfl, ?_⟩
            refine ite2 (fun d => absurd (show g / z = 3 from V.int.inj (dec_of d)) (by omega)) (fun _ => ?_)
            refine ⟨_, rfl, .inl ⟨rfl, _, SqL.of (el g1)⟩, _, rfl, l, _, _, rfl, rfl, el g1, app g1, ?_⟩
            exact fin b1 [] _ _ _ (List.nil_sublist _) (fun e => by rw [e, (same_new ha (.lst (ch.map V.str))) _ _ p1] at hb1; cases hb1) upd_same g1
          · refine ⟨_, rfl, _, rfl, _, _, rfl, rfl, cd, rfl, _, rfl, ?_⟩
            refine ite2 (fun d3 => ?_) (fun d3 => ?_)
            · refine ⟨_, rfl, ln, _, rfl, .inl ((p6.trans (same_new ha _)).seq hS), fun b1 hb1 => ?_⟩
              have g1 := same_new hb1 (.lst (nm.map V.str))
              refine ⟨_, rfl, .inl ⟨rfl, _, SqL.of (el g1)⟩, _, rfl, l, _, _, rfl, rfl, el g1, app g1, ?_⟩
              exact fin b1 nm _ _ _ (List.Sublist.refl _) (fun e => by rw [e, (same_new ha (.lst (ch.map V.str))) _ _ p1] at hb1; cases hb1) upd_same g1
            · refine ⟨_, rfl, .inl ⟨rfl, _, SqL.of (el (Same.refl _))⟩, _, rfl, l, _, _, rfl, rfl, el (Same.refl _), app (Same.refl _), ?_⟩
              exact fin a ch _ _ _ hch nal upd_same (Same.refl _)
  · obtain ⟨xs, ss, o1, o2, o3, o4, p1, p2, p3, p4, p5, p6, rfl⟩ := hp
    rw [List.length_map] at p3
    exact ⟨_, rfl, q l xs ss _ hl p6 p1 p2 (by rw [p3, len1]) p4⟩
abbrev Row := List (Str × Int)
def pairD (p : Str × Int) : DV := .tup [.str p.1, .int p.2]
def rowD (r : Row) : DV := .tup (r.map pairD)
theorem tell_pair {H : Hp} {a : Addr} {x : Str} {z : Int} (h : H a = some (.tup [.str x, .int z])) : Tell H (pairD (x, z)) (.ref a) := tell_tup h (by show 2 ≤ 1000000; decide) (.cons (tell_str x) (.cons (tell_int z) .nil))
theorem no_lst {xs : List V} : ∀ ys, HO.lst xs ≠ .tup ys := fun _ e => by cases e
def spValue : Sp := fun vs H Q _ => ∃ g p : Int, vs = [.int g, .int p] ∧ ∀ r, 0 ≤ r → r ≤ 1000000 → Q (.int r) H
theorem ok_value (F : Fun K "_law_value" "_law_value" s_law_value f fd) : FnOk P w K mg base CX0 1 f fd p_law_value spValue := by
  have nd := sc_law_value.nd
  refine F.ok sc_law_value (fun vs H Q E h => ?_) (fun cdv A outer s H vs Q E hr h => ?_)
  · obtain ⟨g, p, rfl, _⟩ := h
    rfl
  obtain ⟨g, p, rfl, q⟩ := h
  refine ⟨_, (pss_cons (ps_if (pt_cmpR op_eq (pe_op op_fdiv (pv 0) pe_int) pe_int (nomark _)) (pss_one (ps_ret (pe_op op_mod (pe_op op_add (pv 0) (pe_op op_mul pe_int (pv 1))) pe_int))) pss_nil) (pss_cons (ps_if (pt_cmpR op_eq (pe_op op_fdiv (pv 0) pe_int) pe_int (nomark _)) (pss_one (ps_ret (pe_op op_mul pe_int (pe_op op_mod (pe_op op_add (pv 0) (pv 1)) pe_int)))) pss_nil) (pss_one (ps_ret (pe_op op_mod (pe_op op_add (pv 0) (pv 1)) pe_int))))), ?_⟩
  refine ⟨_, rfl, _, _, rfl, rfl, ⟨by decide, by decide⟩, rfl, _, rfl, ?_⟩
  refine ite2 (fun _ => ?_) (fun _ => ?_)
  · refine ⟨_, rfl, _, rfl, _, _, rfl, rfl, .inl ⟨by decide, by decide⟩, _, _, rfl, rfl, _, _, rfl, rfl, (by show (0 : Int) < 1000001; decide), ?_⟩
    have h1 := Int.emod_nonneg (g + 7 * p) (show (1000001 : Int) ≠ 0 by decide)
    have h2 := Int.emod_lt_of_pos (g + 7 * p) (show (0 : Int) < 1000001 by decide)
    exact q _ h1 (by omega)
  · refine ⟨_, rfl, _, _, rfl, rfl, ⟨by decide, by decide⟩, rfl, _, rfl, ?_⟩
    have h1 := Int.emod_nonneg (g + p) (show (2 : Int) ≠ 0 by decide)
    have h2 := Int.emod_lt_of_pos (g + p) (show (0 : Int) < 2 by decide)
    refine ite2 (fun _ => ?_) (fun _ => ?_)
    · refine ⟨_, rfl, _, rfl, _, _, rfl, rfl, _, _, rfl, rfl, (by show (0 : Int) < 2; decide), _, _, rfl, rfl, .inl ⟨by decide, by decide⟩, ?_⟩
      exact q _ (by omega) (by omega)
    · refine ⟨_, rfl, _, rfl, _, _, rfl, rfl, _, _, rfl, rfl, (by show (0 : Int) < 2; decide), ?_⟩
      exact q _ h1 (by omega)
structure Rws (nm : List Str) (rows : List Row) : Prop where
  sub : ∀ r ∈ rows, (r.map Prod.fst).Sublist nm
  val : ∀ r ∈ rows, ∀ p ∈ r, 0 ≤ p.2 ∧ p.2 ≤ 1000000
def spValued : Sp := fun vs H Q _ => ∃ (l : Addr) (xs : List V) (ss : List (List Str)) (c : Int), vs = [.ref l, .int c] ∧ H l = some (.lst xs) ∧ SetsAt H l xs ss ∧ ss.length ≤ 900 ∧ (∀ s ∈ ss, s.length ≤ 12) ∧
  ∀ (lr : Addr) (us : List V) (rows : List Row) (H' : Hp), H lr = none → Same H H' → H' lr = some (.lst us) → Tells H' (rows.map rowD) us → rows.map (fun r => r.map Prod.fst) = ss → (∀ r ∈ rows, ∀ p ∈ r, 0 ≤ p.2 ∧ p.2 ≤ 1000000) → Q (.ref lr) H'
theorem ok_valued (M : Bl mg) (F : Fun K "_law_valued" "_law_valued" s_law_valued f fd) (G_law_row : Cal P w K mg base 1 "_law_row" p_law_row spRow) (G_law_value : Cal P w K mg base 1 "_law_value" p_law_value spValue) :
    FnOk P w K mg base CX0 2 f fd p_law_valued spValued := by
  have nd := sc_law_valued.nd
  refine F.ok sc_law_valued (fun vs H Q E h => ?_) (fun cdv A outer s H vs Q E hr h => ?_)
  · obtain ⟨l, xs, ss, c, rfl, _⟩ := h
    rfl
  obtain ⟨l, xs, ss, c, rfl, hL, hSs, n0, n1, q⟩ := h
  refine ⟨_, (pss_cons (ps_set (i := 2) nd rfl (Or.inl rfl) (pe_cal G_law_row (rm hr) rfl (pa_cons (pv 1) (pa_cons (pe_callB call_len_seq rfl M.len PySem.boot_len (pa_cons (pv 0) pa_nil)) (pa_cons pe_int pa_nil))))) (pss_cons (ps_set (i := 3) nd rfl (Or.inl rfl) (pe_lst pa_nil)) (pss_cons (ps_for PassesOwn.never rfl (pi_range1 rfl M.range (pa_cons (pe_callB call_len_seq rfl M.len PySem.boot_len (pa_cons (pv 0) pa_nil)) pa_nil)) (pg_name (i := 4) nd rfl (Or.inl rfl)) (pss_cons (ps_set (i := 5) nd rfl (Or.inl rfl) (pe_lst pa_nil)) (pss_cons (ps_for PassesOwn.never rfl (pi_range1 rfl M.range (pa_cons (pe_callB call_len_seq rfl M.len PySem.boot_len (pa_cons (pe_ix ix_list (pv 0) (pv 4) (fun _ _ => rfl)) pa_nil)) pa_nil)) (pg_name (i := 6) nd rfl (Or.inl rfl)) (pss_one (ps_expr (pe_bm PySem.F.plainAttrs_list PySem.F.slot_list_append PySem.F.type_list_append mt_append (pv 5) (pa_cons (pe_tup (pa_cons (pe_ix ix_list (pe_ix ix_list (pv 0) (pv 4) (fun _ _ => rfl)) (pv 6) (fun _ _ => rfl)) (pa_cons (pe_cal G_law_value (rm hr) rfl (pa_cons (pe_ix ix_list (pv 2) (pv 4) (fun _ _ => rfl)) (pa_cons (pv 6) pa_nil))) pa_nil))) pa_nil))))) (pss_one (ps_expr (pe_bm PySem.F.plainAttrs_list PySem.F.slot_list_append PySem.F.type_list_append mt_append (pv 3) (pa_cons (pe_callTy call_tuple_of rfl M.tuple PyProof.Rows.boot_tuple (pa_cons (pv 5) pa_nil)) pa_nil))))))) (pss_one (ps_ret (pv 3)))))), ?_⟩
  have hl0 := hSs.len
  refine ⟨_, rfl, _, rfl, l, _, rfl, .inl (SqL.of hL), _, _, _, rfl, by omega, by omega, by decide, by decide, fun lf fs H1 nlf s1 e1 len1 all1 => ?_⟩
  have len1' : fs.length = ss.length := by rw [len1, hl0]; rfl
  refine ⟨(by show 0 ≤ sizeLine; decide), fun lr hlr => ?_⟩
  have nr : lf ≠ lr := ne_of_none e1 hlr
  have nlr0 : H lr = none := s1.free hlr
  refine ⟨_, rfl, l, _, rfl, .inl (SqL.of ((s1.trans (same_new hlr _)) _ _ hL)), _, rfl, by omega, by omega, ?_⟩
  refine for_range (lo := 0) (n := ((xs.length : Nat) : Int).toNat) (fun i σ H' => ∃ (us : List V) (rows : List Row) (o1 o2 o3 : Option V), H' lr = some (.lst us) ∧ Tells H' (rows.map rowD) us ∧ rows.map (fun r => r.map Prod.fst) = ss.take i ∧ (∀ r ∈ rows, ∀ p ∈ r, 0 ≤ p.2 ∧ p.2 ≤ 1000000) ∧ Same H1 H' ∧
    σ = [some (.ref l), some (.int c), some (.ref lf), some (.ref lr), o1, o2, o3]) ⟨[], [], _, _, _, upd_same, .nil, rfl, (fun _ h => nomatch h), same_new hlr _, rfl⟩ (fun i σ H' hi hp => ?_) (fun σ H' hp => ?_)
  · obtain ⟨us, rows, o1, o2, o3, p1, p2, p3, p4, p5, rfl⟩ := hp
    have hi' : i < ss.length := by
      have : ((xs.length : Nat) : Int).toNat = xs.length := rfl
      omega
    have ei : (0 : Int) + (i : Int) = (i : Int) := Int.zero_add _
    have es : ss[i]? = some ss[i] := List.getElem?_eq_getElem hi'
    generalize ss[i] = sI at es
    have hsI := n1 sI (List.mem_of_getElem? es)
    obtain ⟨v, hv, a, rfl, na, ha⟩ := hSs.get i sI es
    have lus := p2.length
    rw [List.length_map] at lus
    have lrows : rows.length = i := by
      have := congrArg List.length p3
      rw [List.length_map, List.length_take] at this
      omega
    have atv : atI xs ((0 : Int) + (i : Int)) = some (.ref a) := by rw [ei]; exact atI_nat hv
    have gl : ∀ {H2 : Hp}, Same H' H2 → H2 l = some (.lst xs) ∧ H2 a = some (.lst (sI.map V.str)) ∧ H2 lf = some (.lst (fs.map V.int)) := fun {H2} g => ⟨(s1.trans (p5.trans g)) _ _ hL, (s1.trans (p5.trans g)) _ _ ha, (p5.trans g) _ _ e1⟩
    refine ⟨(by show 0 ≤ sizeLine; decide), fun lo hlo => ?_⟩
    have go := same_new (H := H') hlo (.lst [])
    refine ⟨_, rfl, _, rfl, l, _, _, _, rfl, rfl, SqL.of (gl go).1, atv, a, _, rfl, .inl (SqL.of (gl go).2.1), _, rfl, by omega, by rw [List.length_map]; omega, ?_⟩
    have hls : (sI.map V.str).length = sI.length := List.length_map _
    refine for_range (lo := 0) (n := (((sI.map V.str).length : Nat) : Int).toNat) (fun j σ H2 => ∃ (zs : List V) (row : Row) (o3 : Option V), H2 lo = some (.lst zs) ∧ Tells H2 (row.map pairD) zs ∧ row.map Prod.fst = sI.take j ∧ (∀ p ∈ row, 0 ≤ p.2 ∧ p.2 ≤ 1000000) ∧ Same H' H2 ∧
      σ = [some (.ref l), some (.int c), some (.ref lf), some (.ref lr), some (.int (0 + (i : Int))), some (.ref lo), o3]) ⟨[], [], _, upd_same, .nil, rfl, (fun _ h => nomatch h), go, rfl⟩ (fun j σ H2 hj hp => ?_) (fun σ H2 hp => ?_)
    · obtain ⟨zs, row, o3, r1, r2, r3, r4, r5, rfl⟩ := hp
      have hj' : j < sI.length := by
        have : (((sI.map V.str).length : Nat) : Int).toNat = sI.length := by rw [hls]; rfl
        omega
      have ej : (0 : Int) + (j : Int) = (j : Int) := Int.zero_add _
      have ex : sI[j]? = some sI[j] := List.getElem?_eq_getElem hj'
      generalize sI[j] = x at ex
      have atx : atI (sI.map V.str) ((0 : Int) + (j : Int)) = some (.str x) := by
        rw [ej]
        exact atI_nat (by rw [List.getElem?_map, ex]; rfl)
      have atf : atI (fs.map V.int) ((0 : Int) + (i : Int)) = some (.int (fs.getD i 0)) := by
        rw [ei]
        exact at_ints (ns := fs) (k := (i : Int)) (by omega) (by omega)
      have lrow : row.length = j := by
        have := congrArg List.length r3
        rw [List.length_map, List.length_take] at this
        omega
      have lz := r2.length
      rw [List.length_map] at lz
      refine ⟨_, rfl, .inl ⟨rfl, _, SqL.of r1⟩, _, rfl, _, rfl, l, _, _, _, rfl, rfl, SqL.of (gl r5).1, atv, _, rfl, a, _, _, _, rfl, rfl, SqL.of (gl r5).2.1, atx, ?_⟩
      refine ⟨_, rfl, _, rfl, lf, _, _, _, rfl, rfl, SqL.of (gl r5).2.2, atf, _, rfl, _, _, rfl, fun z z0 z1 => ⟨(by show 2 ≤ sizeLine; decide), fun t ht => ?_⟩⟩
      have gt := same_new (H := H2) ht (.tup [.str x, .int z])
      refine ⟨lo, zs, _, rfl, rfl, gt _ _ r1, small1000 (by omega), ?_⟩
      refine ⟨_, row ++ [(x, z)], some (.int (0 + (j : Int))), upd_same, ?_, ?_, fun p hp => ?_, same_upd (r5.trans gt) hlo, rfl⟩
      · rw [List.map_append]
        exact Tells.over (gt _ _ r1) no_lst _ _ (Tells.snoc (Tells.keep gt _ _ r2) (tell_pair upd_same))
      · rw [List.map_append, r3, take_snoc ex]
        rfl
      · rcases List.mem_append.mp hp with h | h
        · exact r4 p h
        · rw [List.mem_singleton.mp h]
          exact ⟨z0, z1⟩
    · obtain ⟨zs, row, o3, r1, r2, r3, r4, r5, rfl⟩ := hp
      have er : (((sI.map V.str).length : Nat) : Int).toNat = sI.length := by rw [hls]; rfl
      rw [er, List.take_length] at r3
      have lrow : row.length ≤ 12 := by
        have := congrArg List.length r3
        rw [List.length_map] at this
        omega
      refine ⟨_, rfl, .inl ⟨rfl, _, SqL.of (r5 _ _ p1)⟩, _, rfl, lo, _, rfl, .inl ⟨SqL.of r1, fun t ht => ?_⟩⟩
      have gt := same_new (H := H2) ht (.tup zs)
      have el := (r5.trans gt) _ _ p1
      refine ⟨lr, us, _, rfl, rfl, el, small1000 (by omega), ?_⟩
      refine ⟨_, rows ++ [row], _, _, _, upd_same, ?_, ?_, fun r hr' => ?_, same_upd (p5.trans (r5.trans gt)) hlr, rfl⟩
      · rw [List.map_append]
        refine Tells.over el no_lst _ _ (Tells.snoc (Tells.keep (r5.trans gt) _ _ p2) (tell_tup upd_same ?_ (Tells.keep gt _ _ r2)))
        rw [List.length_map]
        omega
      · rw [List.map_append, p3, take_snoc es]
        exact congrArg (ss.take i ++ ·) (congrArg (fun z => [z]) r3)
      · rcases List.mem_append.mp hr' with h | h
        · exact p4 r h
        · rw [List.mem_singleton.mp h]
          exact r4
  · obtain ⟨us, rows, o1, o2, o3, p1, p2, p3, p4, p5, rfl⟩ := hp
    have er : ((xs.length : Nat) : Int).toNat = ss.length := by rw [hl0]; rfl
    rw [er, List.take_length] at p3
    exact ⟨_, rfl, q lr us rows _ nlr0 (s1.trans p5) p1 p2 p3 p4⟩
def spNames (K : PySem.W.Frag) : Sp := fun vs H Q _ => ∃ (a : Addr) (ns : List Int), vs = [.ref a] ∧ SqL K H a (ns.map V.int) ∧
  ∀ (l : Addr) (nm : List Str) (H' : Hp), H l = none → Same H H' → H' l = some (.lst (nm.map V.str)) → 1 ≤ nm.length → nm.length ≤ 12 → Nms nm → Q (.ref l) H'
theorem ok_names (F : Fun K "_law_names" "_law_names" s_law_names f fd) (G_law_at : Cal P w K mg base 1 "_law_at" p_law_at (spAt K)) (G_law_pick : Cal P w K mg base 1 "_law_pick" p_law_pick spPick)
    (G_law_named : Cal P w K mg base 1 "_law_named" p_law_named spNamed) : FnOk P w K mg base CX0 2 f fd p_law_names (spNames K) := by
  have nd := sc_law_names.nd
  refine F.ok sc_law_names (fun vs H Q E h => ?_) (fun cdv A outer s H vs Q E hr h => ?_)
  · obtain ⟨a, ns, rfl, _⟩ := h
    rfl
  obtain ⟨a, ns, rfl, hS, q⟩ := h
  refine ⟨_, (pss_one (ps_ret (pe_cal G_law_named (rm hr) rfl (pa_cons (pe_op op_fdiv (pe_cal G_law_at (rm hr) rfl (pa_cons (pv 0) (pa_cons pe_int pa_nil))) pe_int) (pa_cons (pe_op op_add pe_int (pe_cal G_law_pick (rm hr) rfl (pa_cons (pe_op op_mod (pe_cal G_law_at (rm hr) rfl (pa_cons (pv 0) (pa_cons pe_int pa_nil))) pe_int) (pa_cons pe_int pa_nil)))) pa_nil))))), ?_⟩
  refine ⟨_, rfl, a, ns, 0, rfl, hS, Int.le_refl 0, _, _, rfl, rfl, ⟨by decide, by decide⟩, ?_⟩
  refine ⟨_, rfl, a, ns, 0, rfl, hS, Int.le_refl 0, _, _, rfl, rfl, (by show (0 : Int) < 24; decide), _, _, rfl, (by decide), fun r h0 h1 => ⟨_, _, rfl, rfl, ?_⟩⟩
  exact ⟨_, _, rfl, by omega, by omega, fun l nm H' nl g e len N => q l nm H' nl g e (by omega) (by omega) N⟩
def nmsD (s : List Str) : DV := .tup (s.map DV.str)
def dnI (hi : Int) (j : Nat) : List Int := (List.range j).map fun (k : Nat) => hi - (k : Int)
theorem dnI_succ (hi : Int) (j : Nat) : dnI hi (j + 1) = dnI hi j ++ [hi - (j : Int)] := by
  unfold dnI
  rw [List.range_succ, List.map_append]
  rfl
theorem dnI_len (hi : Int) (j : Nat) : (dnI hi j).length = j := by unfold dnI; rw [List.length_map, List.length_range]
theorem mem_dnI {hi : Int} {j : Nat} {x : Int} : x ∈ dnI hi j ↔ hi - j < x ∧ x ≤ hi := by
  unfold dnI
  rw [List.mem_map]
  constructor
  · rintro ⟨k, hk, rfl⟩
    have := List.mem_range.mp hk
    omega
  · rintro ⟨h1, h2⟩
    exact ⟨(hi - x).toNat, List.mem_range.mpr (by omega), by omega⟩
def nmsOf (r : Row) : List Str := r.map Prod.fst
def rowAt (rows : List Row) (n : Int) : Row := rows.getD (n - 1).toNat []
def tailP (rows : List Row) (k : Int) : DV := .tup [.int k, nmsD (nmsOf (rowAt rows k))]
def tailN (n r : Int) : List Int := (dnI (n - 1) (n - 1).toNat).filter fun k => decide (n - k ≤ r)
def tailD (rows : List Row) (n r : Int) : DV := .tup ((tailN n r).map (tailP rows))
def issueD (rows : List Row) (n r : Int) : DV := .tup [.int n, rowD (rowAt rows n), tailD rows n r]
theorem tells_row {H : Hp} {rows : List Row} {us : List V} (h : Tells H (rows.map rowD) us) {k : Int} (k0 : 1 ≤ k) (k1 : k ≤ rows.length) : ∃ v, us[(k - 1).toNat]? = some v ∧ atI us (k - 1) = some v ∧ Tell H (rowD (rowAt rows k)) v := by
  have hk : (k - 1).toNat < rows.length := by omega
  obtain ⟨v, e, t⟩ := h.get (k - 1).toNat (rowD (rowAt rows k)) (by
    unfold rowAt
    rw [List.getElem?_map, List.getD_eq_getElem?_getD, List.getElem?_eq_getElem hk]
    rfl)
  have ek : k - 1 = (((k - 1).toNat : Nat) : Int) := by omega
  exact ⟨v, e, by rw [ek]; exact atI_nat e, t⟩
theorem tells_pairs {H : Hp} : ∀ {r : Row} {xs : List V}, Tells H (r.map pairD) xs → ∀ (i : Nat) (x : V), xs[i]? = some x → ∃ (p : Str × Int) (a : Addr), r[i]? = some p ∧ x = .ref a ∧ H a = some (.tup [.str p.1, .int p.2]) := by
  intro r xs h i x e
  obtain ⟨d, e1, t⟩ := h.at i x e
  rw [List.getElem?_map] at e1
  cases er : r[i]? with
  | none => rw [er] at e1; cases e1
  | some p =>
    rw [er] at e1
    have e2 : pairD p = d := Option.some.inj e1
    subst e2
    obtain ⟨a, ys, rfl, h1, _, h2⟩ := tell_tup_inv t
    obtain ⟨y1, r1, rfl, t1, h3⟩ := tells_cons_inv h2
    obtain ⟨y2, r2, rfl, t2, h4⟩ := tells_cons_inv h3
    have := tells_nil_inv h4
    subst this
    rw [tell_str_inv t1, tell_int_inv t2] at h1
    exact ⟨p, a, rfl, rfl, h1⟩
def spIssue (K : PySem.W.Frag) : Sp := fun vs H Q _ => ∃ (lr : Addr) (us : List V) (rows : List Row) (n r : Int), vs = [.ref lr, .int n, .int r] ∧ SqL K H lr us ∧ Tells H (rows.map rowD) us ∧ rows.length ≤ 900 ∧ (∀ w ∈ rows, w.length ≤ 12) ∧ 1 ≤ n ∧ n ≤ rows.length ∧
  ∀ (v : V) (H' : Hp), Same H H' → Tell H' (issueD rows n r) v → Q v H'
theorem rowAt_len {rows : List Row} (h : ∀ w ∈ rows, w.length ≤ 12) (k : Int) : (rowAt rows k).length ≤ 12 := by
  unfold rowAt
  rw [List.getD_eq_getElem?_getD]
  cases e : rows[(k - 1).toNat]? with
  | none => exact Nat.zero_le _
  | some w => exact h w (List.mem_of_getElem? e)
theorem ok_issue (M : Bl mg) (F : Fun K "_law_issue" "_law_issue" s_law_issue f fd) : FnOk P w K mg base CX0 1 f fd p_law_issue (spIssue K) := by
  have nd := sc_law_issue.nd
  refine F.ok sc_law_issue (fun vs H Q E h => ?_) (fun cdv A outer s H vs Q E hr h => ?_)
  · obtain ⟨lr, us, rows, n, r, rfl, _⟩ := h
    rfl
  obtain ⟨lr, us, rows, n, r, rfl, hS, hT, n0, n12, n1, n2, q⟩ := h
  refine ⟨_, (pss_cons (ps_set (i := 3) nd rfl (Or.inl rfl) (pe_lst pa_nil)) (pss_cons (ps_for PassesOwn.never rfl (pi_rangeD rfl M.range (pa_cons (pe_op op_sub (pv 1) pe_int) (pa_cons pe_int (pa_cons (pe_un un_neg pe_int) pa_nil)))) (pg_name (i := 4) nd rfl (Or.inl rfl)) (pss_one (ps_if (pt_cmpR op_le (pe_op op_sub (pv 1) (pv 4)) (pv 2) (nomark _)) (pss_one (ps_expr (pe_bm PySem.F.plainAttrs_list PySem.F.slot_list_append PySem.F.type_list_append mt_append (pv 3) (pa_cons (pe_tup (pa_cons (pv 4) (pa_cons (pe_callTy call_tuple_of rfl M.tuple PyProof.Rows.boot_tuple (pa_cons (pe_comp ["_law_row_here"] [] [] rfl (comp_scope rfl (by decide +kernel) rfl (by decide +kernel) rfl rfl) (pi_tup (pe_ix ix_list (pv 0) (pe_op op_sub (pv 4) pe_int) (fun _ _ => rfl))) (fun _ _ _ _ _ => (pg_name (i := 0) (show ((["_law_row_here"] : List PySem.Str) ++ ([] : List PySem.Str)).Nodup from by decide +kernel) rfl (Or.inl rfl))) (own_name (by decide)) mono_name (fun _ _ _ _ _ => pts_nil) (fun _ _ _ _ _ => (pe_ix (r := rIxT K) ix_tup (pv 0) pe_int (fun _ _ => rfl)))) pa_nil)) pa_nil))) pa_nil)))) pss_nil))) (pss_one (ps_ret (pe_tup (pa_cons (pv 1) (pa_cons (pe_callTy call_tuple_of rfl M.tuple PyProof.Rows.boot_tuple (pa_cons (pe_ix ix_list (pv 0) (pe_op op_sub (pv 1) pe_int) (fun _ _ => rfl)) pa_nil)) (pa_cons (pe_callTy call_tuple_of rfl M.tuple PyProof.Rows.boot_tuple (pa_cons (pv 3) pa_nil)) pa_nil)))))))), ?_⟩
  refine ⟨(by show 0 ≤ sizeLine; decide), fun lt hlt => ?_⟩
  refine ⟨_, rfl, _, _, rfl, rfl, _, rfl, n - 1, 0, rfl, ⟨by omega, by omega, by decide, by decide⟩, ?_⟩
  have e0 : (n - 1 - 0).toNat = (n - 1).toNat := by rw [Int.sub_zero]
  rw [e0]
  refine for_down (hi := n - 1) (n := (n - 1).toNat) (fun j σ H' => ∃ (zs : List V) (o : Option V), H' lt = some (.lst zs) ∧ Tells H' (((dnI (n - 1) j).filter fun k => decide (n - k ≤ r)).map (tailP rows)) zs ∧ Same H H' ∧
    σ = [some (.ref lr), some (.int n), some (.int r), some (.ref lt), o]) ⟨[], _, upd_same, .nil, same_new hlt _, rfl⟩ (fun j σ H' hj hp => ?_) (fun σ H' hp => ?_)
  · obtain ⟨zs, o, p1, p2, p3, rfl⟩ := hp
    have lz := p2.length
    rw [List.length_map] at lz
    have lf := List.length_filter_le (fun k => decide (n - k ≤ r)) (dnI (n - 1) j)
    rw [dnI_len] at lf
    have st : ((dnI (n - 1) (j + 1)).filter fun k => decide (n - k ≤ r)) = ((dnI (n - 1) j).filter fun k => decide (n - k ≤ r)) ++ (if decide (n - (n - 1 - (j : Int)) ≤ r) = true then [n - 1 - (j : Int)] else []) := by
      rw [dnI_succ, List.filter_append, List.filter_cons]
      rfl
    refine ⟨_, rfl, _, rfl, _, _, rfl, rfl, _, rfl, _, _, rfl, rfl, _, rfl, ?_⟩
    refine ite2 (fun c => ?_) (fun c => ?_)
    · rw [if_pos c] at st
      have hTk := Tells.keep p3 _ _ hT
      obtain ⟨v, ev, av, tv⟩ := tells_row hTk (k := n - 1 - (j : Int)) (by omega) (by omega)
      obtain ⟨ra, xs, rfl, hra, lxs, txs⟩ := tell_tup_inv tv
      have lrow := rowAt_len n12 (n - 1 - (j : Int))
      have lx := txs.length
      rw [List.length_map] at lx
      refine ⟨_, rfl, .inl ⟨rfl, _, SqL.of p1⟩, _, rfl, _, rfl, _, rfl, _, _, rfl, rfl, lr, _, _, _, rfl, rfl, p3.seq hS, av, ra, rfl, ⟨_, SqT.of hra⟩, ?_⟩
      refine comp_tup (xs := xs) (fun i ys H2 => H2 = H' ∧ ys = ((nmsOf (rowAt rows (n - 1 - (j : Int)))).take i).map V.str) ⟨rfl, rfl⟩ (fun i ys H2 hi hp => ?_) (fun i x ys H2 hx hp => ?_) (fun ys H2 hp => ?_)
      · obtain ⟨rfl, rfl⟩ := hp
        refine ⟨SqT.of hra, small1000 ?_⟩
        rw [List.length_map, List.length_take]
        omega
      · obtain ⟨rfl, rfl⟩ := hp
        obtain ⟨p, a, er, rfl, ha⟩ := tells_pairs txs i x hx
        refine ⟨_, rfl, a, _, _, _, rfl, rfl, SqT.of ha, rfl, rfl, ?_⟩
        have en : (nmsOf (rowAt rows (n - 1 - (j : Int))))[i]? = some p.1 := by unfold nmsOf; rw [List.getElem?_map, er]; rfl
        rw [take_snoc en, List.map_append]
        rfl
      · obtain ⟨rfl, rfl⟩ := hp
        have ll : (nmsOf (rowAt rows (n - 1 - (j : Int)))).length = xs.length := by unfold nmsOf; rw [List.length_map]; exact lx.symm
        rw [← ll, List.take_length]
        intro D hD
        refine ⟨D, _, rfl, .inl ⟨SqL.of upd_same, fun t ht => ⟨(by show 2 ≤ sizeLine; decide), fun t2 ht2 => ?_⟩⟩⟩
        have g1 := (same_new (H := H2) hD (.lst ((nmsOf (rowAt rows (n - 1 - (j : Int)))).map V.str))).trans ((same_new ht (.tup ((nmsOf (rowAt rows (n - 1 - (j : Int)))).map V.str))).trans (same_new ht2 (.tup [.int (n - 1 - (j : Int)), .ref t])))
        refine ⟨lt, zs, _, rfl, rfl, g1 _ _ p1, small1000 (by omega), ?_⟩
        refine ⟨_, some (.int (n - 1 - (j : Int))), upd_same, ?_, same_upd (p3.trans g1) hlt, rfl⟩
        rw [st, List.map_append]
        refine Tells.over (g1 _ _ p1) no_lst _ _ (Tells.snoc (Tells.keep g1 _ _ p2) (tell_tup upd_same (by show 2 ≤ 1000000; decide) (.cons (tell_int _) (.cons ?_ .nil))))
        refine tell_tup (same_new ht2 _ _ _ upd_same) ?_ (tells_strs _)
        rw [List.length_map, ll]
        omega
    · rw [if_neg c, List.append_nil] at st
      refine ⟨zs, some (.int (n - 1 - (j : Int))), p1, ?_, p3, rfl⟩
      rw [st]
      exact p2
  · obtain ⟨zs, o, p1, p2, p3, rfl⟩ := hp
    have lz := p2.length
    rw [List.length_map] at lz
    have lf := List.length_filter_le (fun k => decide (n - k ≤ r)) (dnI (n - 1) (n - 1).toNat)
    rw [dnI_len] at lf
    have hTk := Tells.keep p3 _ _ hT
    obtain ⟨v, ev, av, tv⟩ := tells_row hTk n1 n2
    obtain ⟨ra, xs, rfl, hra, lxs, txs⟩ := tell_tup_inv tv
    refine ⟨_, rfl, _, rfl, _, rfl, _, _, rfl, rfl, lr, _, _, _, rfl, rfl, p3.seq hS, av, ra, xs, rfl, .inr ⟨SqT.of hra, ?_⟩⟩
    refine ⟨_, rfl, lt, _, rfl, .inl ⟨SqL.of p1, fun t ht => ⟨(by show 3 ≤ sizeLine; decide), fun t2 ht2 => ?_⟩⟩⟩
    have g1 := (same_new (H := H') ht (.tup zs)).trans (same_new ht2 (.tup [.int n, .ref ra, .ref t]))
    refine q _ _ (p3.trans g1) ?_
    refine tell_tup upd_same (by show 3 ≤ 1000000; decide) (.cons (tell_int _) (.cons (Tell.keep g1 _ _ tv) (.cons ?_ .nil)))
    refine tell_tup (same_new ht2 _ _ _ upd_same) ?_ (Tells.keep g1 _ _ p2)
    rw [List.length_map]
    show ((dnI (n - 1) (n - 1).toNat).filter fun k => decide (n - k ≤ r)).length ≤ 1000000
    omega
structure GoodN (zs : List Str) : Prop where
  lo : 1 ≤ zs.length
  hi : zs.length ≤ 12
  nd : zs.Nodup
def SqN (K : PySem.W.Frag) (H : Hp) (p : Addr) (zs : List Str) : Prop := SqL K H p (zs.map V.str) ∨ SqT K H p (zs.map V.str)
theorem SqN.keep {K : PySem.W.Frag} {H H' : Hp} {p : Addr} {zs : List Str} (h : Same H H') (x : SqN K H p zs) : SqN K H' p zs := x.imp (fun q => h.seq q) fun q => same_tup h q
def spBadNames (K : PySem.W.Frag) : Sp := fun vs H Q _ => ∃ (p : Addr) (zs : List Str), vs = [.ref p] ∧ SqN K H p zs ∧ GoodN zs ∧ ∀ H', Same H H' → Q .non H'
theorem ok_badnames (M : Bl mg) (F : Fun K "refuse_bad_names" "refuse_bad_names" srefuse_bad_names f fd) : FnOk P w K mg base CX0 1 f fd prefuse_bad_names (spBadNames K) := by
  have nd := screfuse_bad_names.nd
  refine F.ok screfuse_bad_names (fun vs H Q E h => ?_) (fun cdv A outer s H vs Q E hr h => ?_)
  · obtain ⟨p, zs, rfl, _⟩ := h
    rfl
  · obtain ⟨p, zs, rfl, hp, g, k⟩ := h
    refine ⟨_, (pss_cons (ps_if (pt_cmpR op_lt (pe_callB call_len_seq rfl M.len PySem.boot_len (pa_cons (pv 0) pa_nil)) pe_int (nomark _)) (pss_one ps_never) pss_nil) (pss_cons (ps_if (pt_cmpR op_gt (pe_callB call_len_seq rfl M.len PySem.boot_len (pa_cons (pv 0) pa_nil)) (pe_con_int rfl M.MOST_NAMES) (nomark _)) (pss_one ps_never) pss_nil) (pss_one (ps_if (pt_cmpR op_ne (pe_callB call_len_setT rfl M.len PySem.boot_len (pa_cons (pe_callTy (call_set_texts rfl) rfl M.set PyProof.Rows.boot_set (pa_cons (pv 0) pa_nil)) pa_nil)) (pe_callB call_len_seq rfl M.len PySem.boot_len (pa_cons (pv 0) pa_nil)) (nomark _)) (pss_one ps_never) pss_nil)))), ?_⟩
    have := g.lo
    have := g.hi
    have el : (zs.map V.str).length = zs.length := List.length_map _
    refine ⟨_, rfl, p, _, rfl, hp, _, _, rfl, rfl, _, rfl, ite2 (fun q => absurd (dec_of q) (by omega)) fun _ => ?_⟩
    refine ⟨_, rfl, p, _, rfl, hp, _, _, rfl, rfl, _, rfl, ite2 (fun q => absurd (dec_of q) (by omega)) fun _ => ?_⟩
    refine ⟨_, rfl, p, zs, rfl, hp, by omega, fun l hl => ⟨l, zs, rfl, upd_same, by omega, _, rfl, p, zs.map V.str, rfl, SqN.keep (same_new hl _) hp, rfl, _, rfl, ?_⟩⟩
    refine iteNS ?_ (k _ (same_new hl _))
    rw [metL_nd g.nd, el]
def spBadReach : Sp := fun vs H Q _ => ∃ r : Int, vs = [.int r] ∧ 0 ≤ r ∧ r ≤ 10 ∧ Q .non H
theorem ok_badreach (M : Bl mg) (F : Fun K "refuse_bad_reach" "refuse_bad_reach" srefuse_bad_reach f fd) : FnOk P w K mg base CX0 1 f fd prefuse_bad_reach spBadReach := by
  have nd := screfuse_bad_reach.nd
  refine F.ok screfuse_bad_reach (fun vs H Q E h => ?_) (fun cdv A outer s H vs Q E hr h => ?_)
  · obtain ⟨r, rfl, _⟩ := h
    rfl
  · obtain ⟨r, rfl, r0, r1, k⟩ := h
    refine ⟨_, (pss_one (ps_if (PW.pt (pw_or (pt_cmpR op_lt (pv 0) pe_int (nomark _)) (pw_or1 (pt_cmpR op_gt (pv 0) (pe_con_int rfl M.MOST_REACH) (nomark _))))) (pss_one ps_never) pss_nil)), ?_⟩
    refine ⟨_, rfl, _, _, rfl, rfl, _, rfl, ite2 (fun q => absurd (dec_of q) (by omega)) fun _ => ?_⟩
    exact ⟨_, rfl, _, _, rfl, rfl, _, rfl, ite2 (fun q => absurd (dec_of q) (by omega)) fun _ => k⟩
def HdN (K : PySem.W.Frag) (H : Hp) (p : Addr) (zs : List Str) : Prop := SqL K H p (zs.map V.str) ∨ H p = some (.tup (zs.map V.str))
theorem HdN.sq {K : PySem.W.Frag} {H : Hp} {p : Addr} {zs : List Str} (h : HdN K H p zs) : SqN K H p zs := h.imp id SqT.of
theorem HdN.keep {K : PySem.W.Frag} {H H' : Hp} {p : Addr} {zs : List Str} (s : Same H H') (h : HdN K H p zs) : HdN K H' p zs := h.imp (fun q => s.seq q) fun q => s _ _ q
def spBulletin (K : PySem.W.Frag) : Sp := fun vs H Q _ => ∃ (p : Addr) (zs : List Str) (r : Int), vs = [.ref p, .int r] ∧ HdN K H p zs ∧ GoodN zs ∧ 0 ≤ r ∧ r ≤ 10 ∧ ∀ (l : Addr) (H' : Hp), Same H H' → H' l = some (.tup (zs.map V.str)) → Q (.ref l) H'
theorem ok_bulletin (M : Bl mg) (F : Fun K "bulletin_names" "bulletin_names" sbulletin_names f fd) (Grefuse_bad_names : Cal P w K mg base 1 "refuse_bad_names" prefuse_bad_names (spBadNames K)) (Grefuse_bad_reach : Cal P w K mg base 1 "refuse_bad_reach" prefuse_bad_reach spBadReach) :
    FnOk P w K mg base CX0 2 f fd pbulletin_names (spBulletin K) := by
  have nd := scbulletin_names.nd
  refine F.ok scbulletin_names (fun vs H Q E h => ?_) (fun cdv A outer s H vs Q E hr h => ?_)
  · obtain ⟨p, zs, r, rfl, _⟩ := h
    rfl
  · obtain ⟨p, zs, r, rfl, hp, g, r0, r1, k⟩ := h
    refine ⟨_, (pss_cons (ps_expr (pe_cal Grefuse_bad_names (rm hr) rfl (pa_cons (pv 0) pa_nil))) (pss_cons (ps_expr (pe_cal Grefuse_bad_reach (rm hr) rfl (pa_cons (pv 1) pa_nil))) (pss_one (ps_ret (pe_callTy call_tuple_of rfl M.tuple PyProof.Rows.boot_tuple (pa_cons (pv 0) pa_nil)))))), ?_⟩
    refine ⟨_, rfl, p, zs, rfl, hp.sq, g, fun H1 s1 => ⟨_, rfl, r, rfl, r0, r1, _, rfl, p, zs.map V.str, rfl, ?_⟩⟩
    rcases hp.keep s1 with hq | hq
    · exact .inl ⟨hq, fun l hl => k l _ (s1.trans (same_new hl _)) upd_same⟩
    · exact .inr ⟨SqT.of hq, k p _ s1 hq⟩
def SameBut (fp : List Addr) (H H' : Hp) : Prop := ∀ b o, H b = some o → b ∉ fp → H' b = some o
theorem SameBut.of {fp : List Addr} {H H' : Hp} (h : Same H H') : SameBut fp H H' := fun b o e _ => h b o e
def NoTup (H : Hp) (fp : List Addr) : Prop := ∀ b ∈ fp, ∀ xs, H b ≠ some (.tup xs)
mutual
theorem Tell.but {fp : List Addr} {H H' : Hp} (s : SameBut fp H H') (n : NoTup H fp) : ∀ (d : DV) (x : V), Tell H d x → Tell H' d x
  | .non, _, h => by unfold Tell at h ⊢; exact h
  | .bl _, _, h => by unfold Tell at h ⊢; exact h
  | .int _, _, h => by unfold Tell at h ⊢; exact h
  | .str _, _, h => by unfold Tell at h ⊢; exact h
  | .tup ds, _, h => by
    unfold Tell at h ⊢
    obtain ⟨a, xs, e, h1, h2, h3⟩ := h
    exact ⟨a, xs, e, s _ _ h1 (fun m => n a m xs h1), h2, Tells.but s n ds xs h3⟩
theorem Tells.but {fp : List Addr} {H H' : Hp} (s : SameBut fp H H') (n : NoTup H fp) : ∀ (ds : List DV) (xs : List V), Tells H ds xs → Tells H' ds xs
  | [], _, h => by unfold Tells at h ⊢; exact h
  | d :: ds, _, h => by
    unfold Tells at h ⊢
    obtain ⟨x, r, e, h1, h2⟩ := h
    exact ⟨x, r, e, Tell.but s n d x h1, Tells.but s n ds r h2⟩
end
theorem made_keep {H : Hp} {x dx b : Addr} {o u v : HO} (nx : H x = none) (ndx : H dx = none) (h : H b = some o) : upd (upd H dx u) x v b = some o := by
  rw [upd_ne (ne_of_none h nx), upd_ne (ne_of_none h ndx)]
  exact h
theorem same_made {H H1 : Hp} {C x dx : Addr} (s : Same H H1) (nx : H1 x = none) (ndx : H1 dx = none) : Same H (upd (upd H1 dx (.own x)) x (.ins C dx [])) := fun _ _ e => made_keep nx ndx (s _ _ e)
theorem same_init {H H1 H2 : Hp} {x : Addr} (b : SameBut [x] H1 H2) (m : Same H H1) (nx : H x = none) : Same H H2 := fun c o e => b c o (m c o e) (by
  rw [List.mem_singleton]
  exact ne_of_none e nx)
theorem fresh_init {H H1 : Hp} {x dx b : Addr} (m : Same H H1) (nx : H x = none) (ndx : H dx = none) (h : b = x ∨ b = dx ∨ H1 b = none) : H b = none := by
  rcases h with rfl | rfl | h
  · exact nx
  · exact ndx
  · exact m.free h
theorem ff_next {fp fp' fp2 : List Addr} {H7 H' GW : Hp} (bt : SameBut fp H7 H') (ff : ∀ b ∈ fp', b ∈ fp ∨ H7 b = none) (gW : Same H' GW) (hf2 : ∀ b ∈ fp2, b ∈ fp' ∨ GW b = none) : ∀ b ∈ fp2, b ∈ fp ∨ H7 b = none := fun b m => (hf2 b m).elim (ff b) fun z => by
  cases e : H7 b with
  | none => exact .inr rfl
  | some o =>
    by_cases nb : b ∈ fp
    · exact .inl nb
    · rw [gW _ _ (bt b o e nb)] at z
      cases z
def riseL (had : List Int) : List Int := (upI 1 60).filter fun x => decide (x ∈ had)
def topL (had : List Int) : Int := (riseL had).getLastD 0
def addN (had : List Int) (n : Int) : List Int := if n ∈ had then had else had ++ [n]
theorem mem_addN {had : List Int} {n x : Int} : x ∈ addN had n ↔ x ∈ had ∨ x = n := by
  unfold addN
  by_cases h : n ∈ had
  · rw [if_pos h]
    exact ⟨.inl, fun q => q.elim id fun e => e ▸ h⟩
  · rw [if_neg h, List.mem_append, List.mem_singleton]
theorem mem_riseL {had : List Int} {x : Int} : x ∈ riseL had ↔ (1 ≤ x ∧ x < 1 + 60) ∧ x ∈ had := by
  unfold riseL
  rw [List.mem_filter, mem_upI, decide_eq_true_eq]
  rfl
theorem riseL_rise (had : List Int) : (riseL had).Pairwise (· < ·) := (upI_rise 1 60).filter _
theorem riseL_len (had : List Int) : (riseL had).length ≤ 60 := by
  have h := List.length_filter_le (fun x => decide (x ∈ had)) (upI 1 60)
  rw [upI_length] at h
  exact h
theorem rise_of {ns ms : List Int} (nd : ns.Nodup) (hall : ∀ x ∈ ns, 1 ≤ x ∧ x ≤ 60) (hp : ms.Perm ns) (hs : ms.Pairwise (· ≤ ·)) : ms = riseL ns := by
  have n2 : ms.Nodup := hp.nodup_iff.mpr nd
  have lt : ms.Pairwise (· < ·) := by
    have := List.pairwise_and_iff.mpr ⟨hs, n2⟩
    exact this.imp fun h => by
      have := h.1
      have := h.2
      omega
  refine rise_ext lt (riseL_rise _) fun x => ?_
  rw [mem_riseL, hp.mem_iff]
  exact ⟨fun h => ⟨by have := hall x h; omega, h⟩, fun h => h.2⟩
abbrev ShP := Hp → Addr → List Addr → List Str → Int → (Int → DV) → List Int → Prop
structure ShOk (C : Addr) (ms : List Str) (Sh : ShP) : Prop where
  ins : ∀ {H p fp zs r iss had}, Sh H p fp zs r iss had → ∃ dx fs, H p = some (.ins C dx fs) ∧ ∀ m ∈ ms, fs.lookup m = none
  own : ∀ {H p fp zs r iss had}, Sh H p fp zs r iss had → ∀ b ∈ fp, ∃ o, H b = some o ∧ ∀ xs, o ≠ .tup xs
  keep : ∀ {H H' p fp gp zs r iss had}, Sh H p fp zs r iss had → SameBut gp H H' → (∀ b ∈ gp, b ∉ fp) → NoTup H gp → Sh H' p fp zs r iss had
theorem ShOk.same {C : Addr} {ms : List Str} {Sh : ShP} (O : ShOk C ms Sh) {H H' : Hp} {p : Addr} {fp : List Addr} {zs : List Str} {r : Int} {iss : Int → DV} {had : List Int} (h : Sh H p fp zs r iss had) (s : Same H H') : Sh H' p fp zs r iss had :=
  O.keep (gp := []) h (.of s) (fun _ q => by cases q) fun _ q => by cases q
theorem ShOk.noTup {C : Addr} {ms : List Str} {Sh : ShP} (O : ShOk C ms Sh) {H : Hp} {p : Addr} {fp : List Addr} {zs : List Str} {r : Int} {iss : Int → DV} {had : List Int} (h : Sh H p fp zs r iss had) : NoTup H fp := fun b m xs e => by
  obtain ⟨o, e1, n⟩ := O.own h b m
  rw [e1] at e
  exact n xs (Option.some.inj e)
def spShInit (K : PySem.W.Frag) (C : Addr) (Sh : ShP) : Sp := fun vs H Q _ => ∃ (x dx pn : Addr) (zs : List Str) (r : Int), vs = [.ref x, .ref pn, .int r] ∧ H x = some (.ins C dx []) ∧ dx ≠ x ∧ H dx = some (.own x) ∧ HdN K H pn zs ∧ GoodN zs ∧ 0 ≤ r ∧ r ≤ 10 ∧
  ∀ (fp : List Addr) (H' : Hp), (∀ b ∈ fp, b = x ∨ b = dx ∨ H b = none) → SameBut [x] H H' → (∀ iss, Sh H' x fp zs r iss []) → Q .non H'
def spPut (Sh : ShP) : Sp := fun vs H Q _ => ∃ (p : Addr) (v : V) (fp : List Addr) (zs : List Str) (r : Int) (iss : Int → DV) (had : List Int) (n : Int) (ds : List DV), vs = [.ref p, v] ∧ Sh H p fp zs r iss had ∧ Tell H (iss n) v ∧ iss n = .tup (.int n :: ds) ∧ 1 ≤ n ∧ n ≤ 60 ∧
  ∀ (fp' : List Addr) (H' : Hp), (∀ b ∈ fp', b ∈ fp ∨ H b = none) → SameBut fp H H' → Sh H' p fp' zs r iss (addN had n) → Q (.bl (decide (n ∉ had))) H'
def spShHad (Sh : ShP) : Sp := fun vs H Q _ => ∃ (p : Addr) (fp : List Addr) (zs : List Str) (r : Int) (iss : Int → DV) (had : List Int), vs = [.ref p] ∧ Sh H p fp zs r iss had ∧
  ∀ (l : Addr) (H' : Hp), Same H H' → H' l = some (.tup ((riseL had).map V.int)) → Q (.ref l) H'
def spShLatest (Sh : ShP) : Sp := fun vs H Q _ => ∃ (p : Addr) (fp : List Addr) (zs : List Str) (r : Int) (iss : Int → DV) (had : List Int), vs = [.ref p] ∧ Sh H p fp zs r iss had ∧ ∀ H', Same H H' → Q (.int (topL had)) H'
def ShD (K : PySem.W.Frag) (C : Addr) : ShP := fun H p fp zs r iss had => ∃ (dx pn pd : Addr) (fs : List (Str × V)) (kvs : List (Key × V)), fp = [p, dx, pd] ∧ H p = some (.ins C dx fs) ∧ H dx = some (.own p) ∧ H pn = some (.tup (zs.map V.str)) ∧ H pd = some (.dK kvs) ∧
  fs.lookup ("names" : Str) = some (V.ref pn) ∧ fs.lookup ("reach" : Str) = some (V.int r) ∧ fs.lookup ("issues" : Str) = some (V.ref pd) ∧ (∀ m ∈ (["put", "had", "latest", "rows_of", "tail_of"] : List Str), fs.lookup m = none) ∧
  kvs.map (·.1) = had.map Sum.inl ∧ had.Nodup ∧ (∀ n ∈ had, 1 ≤ n ∧ n ≤ 60) ∧ (∀ n v, (Sum.inl n, v) ∈ kvs → Tell H (iss n) v) ∧ GoodN zs ∧ 0 ≤ r ∧ r ≤ 10
theorem ShD.ins {K : PySem.W.Frag} {C : Addr} {H : Hp} {p : Addr} {fp : List Addr} {zs : List Str} {r : Int} {iss : Int → DV} {had : List Int} (h : ShD K C H p fp zs r iss had) : ∃ dx fs, H p = some (.ins C dx fs) ∧ ∀ m ∈ (["put", "had", "latest", "rows_of", "tail_of"] : List Str), fs.lookup m = none := by
  obtain ⟨dx, pn, pd, fs, kvs, e, h1, h2, h3, h4, l1, l2, l3, lm, _⟩ := h
  exact ⟨dx, fs, h1, lm⟩
theorem shOk {K : PySem.W.Frag} {C : Addr} : ShOk C ["put", "had", "latest"] (ShD K C) := by
  refine ⟨fun h => ?_, fun h b hb => ?_, fun h s out nt => ?_⟩
  · obtain ⟨dx, fs, h1, lm⟩ := ShD.ins h
    refine ⟨dx, fs, h1, fun m hm => lm m ?_⟩
    simp only [List.mem_cons, List.not_mem_nil, or_false] at hm ⊢
    rcases hm with h | h | h <;> simp [h]
  · obtain ⟨dx, pn, pd, fs, kvs, rfl, h1, h2, h3, h4, _⟩ := h
    rcases List.mem_cons.mp hb with rfl | hb
    · exact ⟨_, h1, fun xs z => by cases z⟩
    rcases List.mem_cons.mp hb with rfl | hb
    · exact ⟨_, h2, fun xs z => by cases z⟩
    rw [List.mem_singleton.mp hb]
    exact ⟨_, h4, fun xs z => by cases z⟩
  · obtain ⟨dx, pn, pd, fs, kvs, rfl, h1, h2, h3, h4, l1, l2, l3, lm, kk, nd, all, tl, g⟩ := h
    exact ⟨dx, pn, pd, fs, kvs, rfl, s _ _ h1 (fun m => out _ m (by simp)), s _ _ h2 (fun m => out _ m (by simp)), s _ _ h3 (fun m => nt _ m _ h3), s _ _ h4 (fun m => out _ m (by simp)), l1, l2, l3, lm, kk, nd, all, fun n v hv => Tell.but s nt _ _ (tl n v hv), g⟩
theorem ok_shinit {CShelf : Addr} (M : Bl mg) (T : TxShelf K mg CShelf) (F : Fun K "__init__" "Shelf.__init__" sShelf___init__ f fd) (Gbulletin_names : Cal P w K mg base 2 "bulletin_names" pbulletin_names (spBulletin K)) :
    FnOk P w K mg base CX0 3 f fd pShelf___init__ (spShInit K CShelf (ShD K CShelf)) := by
  have nd := scShelf___init__.nd
  refine F.ok scShelf___init__ (fun vs H Q E h => ?_) (fun cdv A outer s H vs Q E hr h => ?_)
  · obtain ⟨x, dx, pn, zs, r, rfl, _⟩ := h
    rfl
  obtain ⟨x, dx, pn, zs, r, rfl, hx, ne, hdx, hn, g, r0, r1, k⟩ := h
  refine ⟨_, (pss_cons (ps_fld (pv 0) (pe_cal Gbulletin_names (rm hr) rfl (pa_cons (pv 1) (pa_cons (pv 2) pa_nil))) rfl) (pss_cons (ps_fld (pv 0) (pv 2) rfl) (pss_one (ps_fld (pv 0) pe_dnewK rfl)))), ?_⟩
  refine ⟨_, rfl, _, rfl, pn, zs, r, rfl, hn, g, r0, r1, fun l H1 s1 e1 => ?_⟩
  refine ⟨_, rfl, x, CShelf, dx, [], rfl, s1 _ _ hx, T.cl, T.n_names, by decide, ?_⟩
  have z1 := length_putF "names" (.ref l) []
  have z2 := length_putF "reach" (.int r) (putF "names" (.ref l) [])
  have z0 : ([] : List (Str × V)).length = 0 := rfl
  refine ⟨_, rfl, _, rfl, x, CShelf, dx, _, rfl, upd_same, T.cl, T.n_reach, (by omega), ?_⟩
  rw [upd_upd]
  intro pd hd
  have nx : x ≠ pd := ne_of_none upd_same hd
  have ndd : dx ≠ pd := ne_of_none (show upd H1 x _ dx = some _ by rw [upd_ne ne]; exact s1 _ _ hdx) hd
  have nl : l ≠ x := ne_of e1 (s1 _ _ hx) (fun z => by cases z)
  have nlp : l ≠ pd := ne_of_none (show upd H1 x _ l = some _ by rw [upd_ne nl]; exact e1) hd
  have dfr : H1 pd = none := by rw [upd_ne (Ne.symm nx)] at hd; exact hd
  refine ⟨_, rfl, x, CShelf, dx, _, rfl, (by rw [upd_ne nx, upd_same]), T.cl, T.n_issues, (by omega), ?_⟩
  refine k [x, dx, pd] _ (fun b hb => ?_) (fun b o e nb => ?_) (fun iss => ⟨dx, l, pd, _, [], rfl, upd_same, ?_, ?_, ?_, ?_, ?_, ?_, ?_, rfl, .nil, fun _ q => (nomatch q), fun _ _ q => (nomatch q), g, r0, r1⟩)
  · simp only [List.mem_cons, List.not_mem_nil, or_false] at hb
    rcases hb with rfl | rfl | rfl
    · exact .inl rfl
    · exact .inr (.inl rfl)
    · exact .inr (.inr (s1.free dfr))
  · rw [List.mem_singleton] at nb
    rw [upd_ne nb, upd_ne (ne_of_none e (s1.free dfr)), upd_ne nb]
    exact s1 _ _ e
  · rw [upd_ne ne, upd_ne ndd, upd_ne ne]
    exact s1 _ _ hdx
  · rw [upd_ne nl, upd_ne nlp, upd_ne nl]
    exact e1
  · rw [upd_ne (Ne.symm nx), upd_same]
  · rw [lookup_putF, if_neg (by decide +kernel), lookup_putF, if_neg (by decide +kernel), lookup_putF, if_pos rfl]
  · rw [lookup_putF, if_neg (by decide +kernel), lookup_putF, if_pos rfl]
  · rw [lookup_putF, if_pos rfl]
  · intro m hm
    simp only [List.mem_cons, List.not_mem_nil, or_false] at hm
    rcases hm with rfl | rfl | rfl | rfl | rfl <;> rw [lookup_putF, if_neg (by decide +kernel), lookup_putF, if_neg (by decide +kernel), lookup_putF, if_neg (by decide +kernel)] <;> rfl
theorem nd_le {α : Type} [DecidableEq α] : ∀ {l1 l2 : List α}, l1.Nodup → (∀ x ∈ l1, x ∈ l2) → l1.length ≤ l2.length
  | [], _, _, _ => Nat.zero_le _
  | x :: r, l2, nd, sub => by
    rw [List.nodup_cons] at nd
    have hx := sub x List.mem_cons_self
    have := nd_le (l1 := r) (l2 := l2.erase x) nd.2 fun y hy => (List.mem_erase_of_ne (fun (e : y = x) => nd.1 (e ▸ hy))).mpr (sub y (List.mem_cons_of_mem _ hy))
    rw [List.length_erase_of_mem hx] at this
    have h0 := List.length_pos_of_mem hx
    rw [List.length_cons]
    omega
theorem len_had {had : List Int} (nd : had.Nodup) (all : ∀ n ∈ had, 1 ≤ n ∧ n ≤ 60) : had.length ≤ 60 := by
  have h := nd_le (l2 := upI 1 60) nd fun n hn => mem_upI.mpr (by have := all n hn; omega)
  rw [upI_length] at h
  exact h
theorem val_had {kvs : List (Key × V)} {had : List Int} (kk : kvs.map (·.1) = had.map Sum.inl) (n : Int) : (valV kvs (Sum.inl n)).isSome = decide (n ∈ had) := by
  rw [← valV_any]
  have e : (kvs.any fun kv => decide (kv.1 = Sum.inl n)) = (kvs.map (·.1)).any fun k => decide (k = Sum.inl n) := by rw [List.any_map]; rfl
  rw [e, kk, List.any_map]
  by_cases h : n ∈ had
  · rw [decide_eq_true h, List.any_eq_true]
    exact ⟨n, h, decide_eq_true rfl⟩
  · rw [decide_eq_false h, List.any_eq_false]
    intro m hm z
    have e := of_decide_eq_true z
    cases e
    exact h hm
theorem ok_put {CShelf : Addr} (M : Bl mg) (T : TxShelf K mg CShelf) (F : Fun K "put" "Shelf.put" sShelf_put f fd) : FnOk P w K mg base CX0 1 f fd pShelf_put (spPut (ShD K CShelf)) := by
  have nd := scShelf_put.nd
  refine F.ok scShelf_put (fun vs H Q E h => ?_) (fun cdv A outer s H vs Q E hr h => ?_)
  · obtain ⟨p, v, fp, zs, r, iss, had, n, ds, rfl, _⟩ := h
    rfl
  obtain ⟨p, v, fp, zs, r, iss, had, n, ds, rfl, sh, tv, en, n1, n2, k⟩ := h
  have hu := hu_of hr
  refine ⟨_, (pss_cons (ps_set (i := 2) nd rfl (Or.inl rfl) (pe_ix ix_tup (pv 1) pe_int (fun _ _ => rfl))) (pss_cons (ps_if (pt_cmp (pc_din hu (pv 2) (pe_fld (pv 0) rfl))) (pss_one (ps_ret pe_bl)) pss_nil) (pss_cons (ps_dput hu (pe_fld (pv 0) rfl) (pv 2) (pv 1) rfl) (pss_one (ps_ret pe_bl))))), ?_⟩
  obtain ⟨dx, pn, pd, fs, kvs, rfl, h1, h2, h3, h4, l1, l2, l3, lm, kk, ndh, all, tl, g, r0, r1⟩ := sh
  rw [en] at tv
  obtain ⟨a, us, rfl, ea, _, tu⟩ := tell_tup_inv tv
  obtain ⟨x0, ur, rfl, t0, _⟩ := tells_cons_inv tu
  cases tell_int_inv t0
  refine ⟨_, rfl, a, _, _, _, rfl, rfl, SqT.of ea, atI_nat rfl, ?_⟩
  refine ⟨_, rfl, _, rfl, p, CShelf, dx, fs, _, rfl, h1, T.cl, T.n_issues, l3, pd, _, rfl, DGet.k (k := Sum.inl n) h4, ?_⟩
  refine ⟨_, rfl, ?_⟩
  rw [val_had kk]
  have fr : ∀ b ∈ [p, dx, pd], ∃ o, H b = some o := fun b hb => by
    simp only [List.mem_cons, List.not_mem_nil, or_false] at hb
    rcases hb with rfl | rfl | rfl
    · exact ⟨_, h1⟩
    · exact ⟨_, h2⟩
    · exact ⟨_, h4⟩
  refine ite2 (fun c => ?_) (fun c => ?_)
  · have c' := dec_of c
    have e := k [p, dx, pd] H (fun b hb => .inl hb) (fun b o e _ => e) ⟨dx, pn, pd, fs, kvs, rfl, h1, h2, h3, h4, l1, l2, l3, lm, by unfold addN; rw [if_pos c']; exact kk, by unfold addN; rw [if_pos c']; exact ndh, fun m hm => ?_, tl, g, r0, r1⟩
    · rw [decide_eq_false (fun z => z c')] at e
      exact e
    · unfold addN at hm
      rw [if_pos c'] at hm
      exact all m hm
  · have c' := dec_no c
    have lk : kvs.length ≤ 60 := by
      have e2 := congrArg List.length kk
      rw [List.length_map, List.length_map] at e2
      have := len_had ndh all
      omega
    have en' : valV kvs (Sum.inl n : Key) = none := by
      have := val_had kk n
      rw [decide_eq_false c'] at this
      cases e : valV kvs (Sum.inl n : Key) with
      | none => rfl
      | some v => rw [e] at this; cases this
    refine ⟨_, rfl, _, rfl, p, CShelf, dx, fs, _, rfl, h1, T.cl, T.n_issues, l3, _, rfl, pd, _, rfl, DPut.k (k := Sum.inl n) h4 (small1000 (by omega)), ?_⟩
    rw [putK_new _ en']
    have np : p ≠ pd := ne_of h1 h4 (fun z => by cases z)
    have nx : dx ≠ pd := ne_of h2 h4 (fun z => by cases z)
    have nn : pn ≠ pd := ne_of h3 h4 (fun z => by cases z)
    have e := k [p, dx, pd] (upd H pd (.dK (kvs ++ [(Sum.inl n, .ref a)]))) (fun b hb => .inl hb) (fun b o e nb => by rw [upd_ne (fun z => nb (by rw [z]; simp))]; exact e)
      ⟨dx, pn, pd, fs, _, rfl, by rw [upd_ne np]; exact h1, by rw [upd_ne nx]; exact h2, by rw [upd_ne nn]; exact h3, upd_same, l1, l2, l3, lm, ?_, ?_, fun m hm => ?_, fun m v hv => ?_, g, r0, r1⟩
    · rw [decide_eq_true c'] at e
      exact e
    · unfold addN
      rw [if_neg c', List.map_append, List.map_append, kk]
      rfl
    · unfold addN
      rw [if_neg c', List.nodup_append]
      exact ⟨ndh, by simp, fun x hx y hy z => by rw [List.mem_singleton] at hy; subst hy; subst z; exact c' hx⟩
    · rcases mem_addN.mp hm with h | rfl
      · exact all m h
      · omega
    · refine Tell.over h4 (fun _ z => by cases z) _ _ ?_
      rcases List.mem_append.mp hv with h | h
      · exact tl m v h
      · rw [List.mem_singleton] at h
        cases h
        rw [en]
        exact tv
theorem ok_shhad {CShelf : Addr} (M : Bl mg) (T : TxShelf K mg CShelf) (F : Fun K "had" "Shelf.had" sShelf_had f fd) : FnOk P w K mg base CX0 1 f fd pShelf_had (spShHad (ShD K CShelf)) := by
  have nd := scShelf_had.nd
  refine F.ok scShelf_had (fun vs H Q E h => ?_) (fun cdv A outer s H vs Q E hr h => ?_)
  · obtain ⟨p, fp, zs, r, iss, had, rfl, _⟩ := h
    rfl
  obtain ⟨p, fp, zs, r, iss, had, rfl, sh, k⟩ := h
  refine ⟨_, (pss_one (ps_ret (pe_callTy call_tuple_of rfl M.tuple PyProof.Rows.boot_tuple (pa_cons (pe_callB (call_sorted_dict rfl) rfl M.sorted PyProof.Rows.boot_sorted (pa_cons (pe_fld (pv 0) rfl) pa_nil)) pa_nil)))), ?_⟩
  obtain ⟨dx, pn, pd, fs, kvs, rfl, h1, h2, h3, h4, l1, l2, l3, lm, kk, ndh, all, tl, g, r0, r1⟩ := sh
  refine ⟨_, rfl, p, CShelf, dx, fs, _, rfl, h1, T.cl, T.n_issues, l3, pd, kvs, had, rfl, h4, kk, Nat.lt_of_le_of_lt (len_had ndh all) (by decide), fun l ms hl hp hs => ?_⟩
  rw [rise_of ndh all hp hs]
  exact ⟨l, _, rfl, .inl ⟨SqL.of upd_same, fun t ht => k t _ ((same_new hl _).trans (same_new ht _)) upd_same⟩⟩
theorem top_best {had : List Int} {m : Int} (hm : m ∈ riseL had) (hb : ∀ y ∈ riseL had, y ≤ m) : m = topL had := by
  unfold topL
  have ne : riseL had ≠ [] := fun z => by rw [z] at hm; cases hm
  have e : (riseL had).getLastD 0 = (riseL had).getLast ne := by rw [List.getLastD_eq_getLast?, List.getLast?_eq_some_getLast ne] <;> rfl
  rw [e]
  have h1 := hb _ (List.getLast_mem ne)
  have d : riseL had = (riseL had).dropLast ++ [(riseL had).getLast ne] := (List.dropLast_concat_getLast ne).symm
  have rs := riseL_rise had
  rw [d] at hm rs
  rcases List.mem_append.mp hm with h | h
  · have := (List.pairwise_append.mp rs).2.2 m h _ (List.mem_singleton.mpr rfl)
    omega
  · exact List.mem_singleton.mp h
theorem ok_latest {CShelf : Addr} (M : Bl mg) (T : TxShelf K mg CShelf) (F : Fun K "latest" "Shelf.latest" sShelf_latest f fd) (GShelf_had : MCal P w K mg base 1 CShelf "had" pShelf_had (spShHad (ShD K CShelf))) : FnOk P w K mg base CX0 2 f fd pShelf_latest (spShLatest (ShD K CShelf)) := by
  have nd := scShelf_latest.nd
  refine F.ok scShelf_latest (fun vs H Q E h => ?_) (fun cdv A outer s H vs Q E hr h => ?_)
  · obtain ⟨p, fp, zs, r, iss, had, rfl, _⟩ := h
    rfl
  obtain ⟨p, fp, zs, r, iss, had, rfl, sh, k⟩ := h
  refine ⟨_, (pss_one (ps_ret (pe_maxD rfl rfl M.max (pa_cons (pe_mcal0 GShelf_had (rm hr) (pv 0)) pa_nil) (pk_cons pe_int pk_nil)))), ?_⟩
  obtain ⟨dx, fs, h1, lm⟩ := shOk.ins sh
  refine ⟨_, rfl, p, dx, fs, rfl, h1, lm _ (by simp), p, fp, zs, r, iss, had, rfl, sh, fun l H1 s1 e1 => ?_⟩
  refine ⟨l, riseL had, _, rfl, rfl, .inr (SqT.of e1), fun z => ?_, fun m hm hb => ?_⟩
  · have e : topL had = 0 := by unfold topL; rw [z]; rfl
    have := k H1 s1
    rw [e] at this
    exact this
  · rw [top_best hm hb]
    exact k H1 s1
def gapD (ns : List Int) (rows : List Row) (r n : Int) : DV := .tup [.int n, .int (tellV ns n r), if tellV ns n r = 0 then .tup [] else nmsD (nmsOf (rowAt rows n))]
def gapsL (ns : List Int) (rows : List Row) (r : Int) : List DV := (lackL ns).map (gapD ns rows r)
def valL (w : Row) (z : Str) : Option Int := w.foldl (fun acc p => if p.1 = z then some p.2 else acc) none
theorem valL_snoc (w : Row) (p : Str × Int) (z : Str) : valL (w ++ [p]) z = if p.1 = z then some p.2 else valL w z := by
  unfold valL
  rw [List.foldl_append]
  rfl
def heldO (ms : List Int) (rows : List Row) (z : Str) : Option (Int × Int) := ms.foldl (fun acc n => match valL (rowAt rows n) z with | some v => some (n, v) | none => acc) none
theorem heldO_snoc (ms : List Int) (n : Int) (rows : List Row) (z : Str) : heldO (ms ++ [n]) rows z = match valL (rowAt rows n) z with | some v => some (n, v) | none => heldO ms rows z := by
  unfold heldO
  rw [List.foldl_append]
  rfl
def heldD : Option (Int × Int) → DV
  | some (n, v) => .tup [.int n, .int v]
  | none => .tup [.int 0, .non]
def heldN (o : Option (Int × Int)) : Int := (o.map Prod.fst).getD 0
def heldV : Option (Int × Int) → DV
  | some (_, v) => .int v
  | none => .non
theorem held_inv {H : Hp} {o : Option (Int × Int)} {v : V} (h : Tell H (heldD o) v) : ∃ (a : Addr) (y : V), v = .ref a ∧ H a = some (.tup [.int (heldN o), y]) ∧ Tell H (heldV o) y := by
  cases o with
  | none =>
    obtain ⟨a, xs, rfl, ha, _, ta⟩ := tell_tup_inv (show Tell H (.tup [.int 0, .non]) v from h)
    obtain ⟨y1, r1, rfl, t1, h3⟩ := tells_cons_inv ta
    obtain ⟨y2, r2, rfl, t2, h4⟩ := tells_cons_inv h3
    have := tells_nil_inv h4
    subst this
    rw [tell_int_inv t1] at ha
    exact ⟨a, y2, rfl, ha, t2⟩
  | some p =>
    obtain ⟨n, x⟩ := p
    obtain ⟨a, xs, rfl, ha, _, ta⟩ := tell_tup_inv (show Tell H (.tup [.int n, .int x]) v from h)
    obtain ⟨y1, r1, rfl, t1, h3⟩ := tells_cons_inv ta
    obtain ⟨y2, r2, rfl, t2, h4⟩ := tells_cons_inv h3
    have := tells_nil_inv h4
    subst this
    rw [tell_int_inv t1] at ha
    exact ⟨a, y2, rfl, ha, t2⟩
def gapSet (ns : List Int) (rows : List Row) (r n : Int) : List Str := if tellV ns n r = 0 then [] else nmsOf (rowAt rows n)
theorem gapD_eq (ns : List Int) (rows : List Row) (r n : Int) : gapD ns rows r n = .tup [.int n, .int (tellV ns n r), nmsD (gapSet ns rows r n)] := by
  unfold gapD gapSet
  by_cases h : tellV ns n r = 0
  · rw [if_pos h, if_pos h]
    rfl
  · rw [if_neg h, if_neg h]
def againN (ns : List Int) (rows : List Row) (r num : Int) (z : Str) : List Int := (lackL ns).filter fun n => decide (num < n) && decide (z ∈ gapSet ns rows r n)
def againD (ns : List Int) (rows : List Row) (r num : Int) (z : Str) : DV := .tup ((againN ns rows r num z).map fun n => .tup [.int n, .int (tellV ns n r)])
theorem againN_len (ns : List Int) (rows : List Row) (r num : Int) (z : Str) : (againN ns rows r num z).length ≤ 60 := Nat.le_trans (List.length_filter_le _ _) (lackL_len ns)
theorem tells_gap {H : Hp} {ns : List Int} {rows : List Row} {r : Int} {zs : List V} (h : Tells H (gapsL ns rows r) zs) {i : Nat} {x : V} (e : zs[i]? = some x) :
    ∃ (n : Int) (a b : Addr), (lackL ns)[i]? = some n ∧ x = .ref a ∧ H a = some (.tup [.int n, .int (tellV ns n r), .ref b]) ∧ H b = some (.tup ((gapSet ns rows r n).map V.str)) := by
  obtain ⟨d, e1, t⟩ := h.at i x e
  unfold gapsL at e1
  rw [List.getElem?_map] at e1
  cases er : (lackL ns)[i]? with
  | none => rw [er] at e1; cases e1
  | some n =>
    rw [er] at e1
    have e2 : gapD ns rows r n = d := Option.some.inj e1
    rw [gapD_eq] at e2
    subst e2
    obtain ⟨a, ys, rfl, h1, _, h2⟩ := tell_tup_inv t
    obtain ⟨y1, r1, rfl, t1, h3⟩ := tells_cons_inv h2
    obtain ⟨y2, r2, rfl, t2, h4⟩ := tells_cons_inv h3
    obtain ⟨y3, r3, rfl, t3, h5⟩ := tells_cons_inv h4
    have := tells_nil_inv h5
    subst this
    obtain ⟨b, ws, rfl, hb, _, tb⟩ := tell_tup_inv t3
    rw [tell_int_inv t1, tell_int_inv t2] at h1
    rw [tells_strs_inv tb] at hb
    exact ⟨n, a, b, rfl, rfl, h1, hb⟩
theorem gapsL_len {H : Hp} {ns : List Int} {rows : List Row} {r : Int} {zs : List V} (h : Tells H (gapsL ns rows r) zs) : zs.length = (lackL ns).length := by
  rw [h.length]
  unfold gapsL
  rw [List.length_map]
def darkOver (ns : List Int) (r num : Int) : List Int := (lackL ns).filter fun n => decide (num < n) && decide (tellV ns n r = 0)
def stateS (ns : List Int) (rows : List Row) (r num : Int) (z : Str) : Str := if 0 < (againN ns rows r num z).length then "stale" else if darkOver ns r num = [] then "sure" else "open"
def tabD (ns : List Int) (rows : List Row) (r : Int) (z : Str) : DV := .tup [.str z, .str (stateS ns rows r (heldN (heldO (riseL ns) rows z)) z), .int (heldN (heldO (riseL ns) rows z)), heldV (heldO (riseL ns) rows z)]
def tableD (nm : List Str) (ns : List Int) (rows : List Row) (r : Int) : DV := .tup (nm.map (tabD ns rows r))
theorem deeps_le {ds : List DV} {n : Nat} (h : ∀ d ∈ ds, d.deep ≤ n) : DV.deeps ds ≤ n := by
  induction ds with
  | nil => unfold DV.deeps; exact Nat.zero_le _
  | cons d r ih =>
    unfold DV.deeps
    exact Nat.max_le.mpr ⟨h d List.mem_cons_self, ih fun x hx => h x (List.mem_cons_of_mem _ hx)⟩
theorem deep_tup {ds : List DV} {n : Nat} (h : ∀ d ∈ ds, d.deep ≤ n) : (DV.tup ds).deep ≤ n + 1 := by
  unfold DV.deep
  exact Nat.succ_le_succ (deeps_le h)
theorem deep_int (i : Int) (n : Nat) : (DV.int i).deep ≤ n := by unfold DV.deep; exact Nat.zero_le _
theorem deep_str (i : Str) (n : Nat) : (DV.str i).deep ≤ n := by unfold DV.deep; exact Nat.zero_le _
theorem deep_nms (s : List Str) : (nmsD s).deep ≤ 1 := deep_tup fun d hd => by
  obtain ⟨x, _, rfl⟩ := List.mem_map.mp hd
  exact deep_str _ _
theorem rowAt_take {rows : List Row} {j : Nat} {k : Int} (h0 : 1 ≤ k) (h : k ≤ j) : rowAt (rows.take j) k = rowAt rows k := by
  unfold rowAt
  have hk : (k - 1).toNat < j := by omega
  rw [List.getD_eq_getElem?_getD, List.getD_eq_getElem?_getD, List.getElem?_take, if_pos hk]
theorem issueD_take {rows : List Row} {j : Nat} {n r : Int} (h0 : 1 ≤ n) (h : n ≤ j) : issueD (rows.take j) n r = issueD rows n r := by
  unfold issueD tailD
  rw [rowAt_take h0 h]
  have e : (tailN n r).map (tailP (rows.take j)) = (tailN n r).map (tailP rows) := List.map_congr_left fun k hk => by
    unfold tailN at hk
    rw [List.mem_filter, mem_dnI] at hk
    unfold tailP
    rw [rowAt_take (by omega) (by omega)]
  rw [e]
abbrev OfP := Hp → Addr → List Addr → List Str → Int → List Row → Prop
structure OfOk (C : Addr) (ms : List Str) (Of : OfP) : Prop where
  ins : ∀ {H p fp zs r rows}, Of H p fp zs r rows → ∃ dx fs, H p = some (.ins C dx fs) ∧ ∀ m ∈ ms, fs.lookup m = none
  own : ∀ {H p fp zs r rows}, Of H p fp zs r rows → ∀ b ∈ fp, ∃ o, H b = some o ∧ ∀ xs, o ≠ .tup xs
  keep : ∀ {H H' p fp gp zs r rows}, Of H p fp zs r rows → SameBut gp H H' → (∀ b ∈ gp, b ∉ fp) → NoTup H gp → Of H' p fp zs r rows
theorem OfOk.same {C : Addr} {ms : List Str} {Of : OfP} (O : OfOk C ms Of) {H H' : Hp} {p : Addr} {fp : List Addr} {zs : List Str} {r : Int} {rows : List Row} (h : Of H p fp zs r rows) (s : Same H H') : Of H' p fp zs r rows :=
  O.keep (gp := []) h (.of s) (fun _ q => by cases q) fun _ q => by cases q
theorem OfOk.noTup {C : Addr} {ms : List Str} {Of : OfP} (O : OfOk C ms Of) {H : Hp} {p : Addr} {fp : List Addr} {zs : List Str} {r : Int} {rows : List Row} (h : Of H p fp zs r rows) : NoTup H fp := fun b m xs e => by
  obtain ⟨o, e1, n⟩ := O.own h b m
  rw [e1] at e
  exact n xs (Option.some.inj e)
def HandRow (K : PySem.W.Frag) (H : Hp) (fp : List Addr) (u : V) (p : Str × Int) : Prop := ∃ a, u = .ref a ∧ (SqL K H a [.str p.1, .int p.2] ∨ SqT K H a [.str p.1, .int p.2]) ∧ a ∉ fp
def Handed (K : PySem.W.Frag) (H : Hp) (fp : List Addr) (v : V) (pr : Row) : Prop := ∃ a us, v = .ref a ∧ SqP K H a us ∧ a ∉ fp ∧ Paired (HandRow K H fp) us pr
def inOrder (zs : List Str) (pr : Row) : Row := zs.filterMap fun z => pr.find? fun p => decide (p.1 = z)
structure GoodR (zs : List Str) (pr : Row) : Prop where
  nd : (pr.map Prod.fst).Nodup
  sub : ∀ p ∈ pr, p.1 ∈ zs
  val : ∀ p ∈ pr, 0 ≤ p.2 ∧ p.2 ≤ 1000000
def spOfInit (K : PySem.W.Frag) (C : Addr) (Of : OfP) : Sp := fun vs H Q _ => ∃ (x dx pn : Addr) (zs : List Str) (r : Int), vs = [.ref x, .ref pn, .int r] ∧ H x = some (.ins C dx []) ∧ dx ≠ x ∧ H dx = some (.own x) ∧ HdN K H pn zs ∧ GoodN zs ∧ 0 ≤ r ∧ r ≤ 10 ∧
  ∀ (fp : List Addr) (H' : Hp), (∀ b ∈ fp, b = x ∨ b = dx ∨ H b = none) → SameBut [x] H H' → Of H' x fp zs r [] → Q .non H'
def spOfWrite (K : PySem.W.Frag) (Of : OfP) : Sp := fun vs H Q _ => ∃ (p : Addr) (v : V) (fp : List Addr) (zs : List Str) (r : Int) (rows : List Row) (pr : Row), vs = [.ref p, v] ∧ Of H p fp zs r rows ∧ Handed K H fp v pr ∧ GoodR zs pr ∧ pr.length ≤ 12 ∧ rows.length < 60 ∧
  ∀ (fp' : List Addr) (H' : Hp), (∀ b ∈ fp', b ∈ fp ∨ H b = none) → SameBut fp H H' → Of H' p fp' zs r (rows ++ [inOrder zs pr]) → Q (.int (rows.length + 1)) H'
def spOfLatest (Of : OfP) : Sp := fun vs H Q _ => ∃ (p : Addr) (fp : List Addr) (zs : List Str) (r : Int) (rows : List Row), vs = [.ref p] ∧ Of H p fp zs r rows ∧ ∀ H', Same H H' → Q (.int rows.length) H'
def spOfIssue (Of : OfP) : Sp := fun vs H Q _ => ∃ (p : Addr) (fp : List Addr) (zs : List Str) (r : Int) (rows : List Row) (n : Int), vs = [.ref p, .int n] ∧ Of H p fp zs r rows ∧ 1 ≤ n ∧ n ≤ rows.length ∧
  ∀ (v : V) (H' : Hp), Same H H' → Tell H' (issueD rows n r) v → Q v H'
theorem inOrder_cons {z : Str} {zs : List Str} {pr : Row} : inOrder (z :: zs) pr = (match pr.find? fun p => decide (p.1 = z) with | some p => p :: inOrder zs pr | none => inOrder zs pr) := by
  unfold inOrder
  rw [List.filterMap_cons]
  cases pr.find? fun p => decide (p.1 = z) <;> rfl
theorem inOrder_skip {p : Str × Int} {w : Row} : ∀ {zs : List Str}, p.1 ∉ zs → inOrder zs (p :: w) = inOrder zs w
  | [], _ => rfl
  | y :: ys, h => by
    rw [List.mem_cons, not_or] at h
    rw [inOrder_cons, inOrder_cons, List.find?_cons, decide_eq_false h.1, inOrder_skip h.2]
theorem inOrder_row : ∀ {zs : List Str} {w : Row}, zs.Nodup → (w.map Prod.fst).Sublist zs → inOrder zs w = w
  | [], w, _, h => by
    have : w.map Prod.fst = [] := List.sublist_nil.mp h
    rw [List.map_eq_nil_iff] at this
    rw [this]
    rfl
  | z :: zs, w, nd, h => by
    rw [List.nodup_cons] at nd
    generalize e : w.map Prod.fst = l at h
    cases h with
    | cons _ h =>
      subst e
      have no : w.find? (fun p => decide (p.1 = z)) = none := List.find?_eq_none.mpr fun p hp => by
        have : p.1 ∈ zs := h.subset (List.mem_map_of_mem hp)
        intro e
        exact nd.1 (of_decide_eq_true e ▸ this)
      rw [inOrder_cons, no]
      exact inOrder_row nd.2 h
    | cons_cons _ h =>
      cases w with
      | nil => cases e
      | cons p w =>
        rw [List.map_cons] at e
        injection e with e1 e2
        subst e2
        rw [inOrder_cons, List.find?_cons, decide_eq_true e1, inOrder_skip (by rw [e1]; exact nd.1), inOrder_row nd.2 h]
def tsN (n : Int) (j : Nat) : List Int := (dnI n j).filter fun k => decide (1 ≤ k)
def tsP (ss : List (List Str)) (k : Int) : DV := .tup [.int k, nmsD (ss.getD (k - 1).toNat [])]
def tsD (ss : List (List Str)) (r : Int) : DV := .tup ((tsN ss.length r.toNat).map (tsP ss))
theorem tsN_len (n : Int) (j : Nat) : (tsN n j).length ≤ j := by
  have h := List.length_filter_le (fun k => decide (1 ≤ k)) (dnI n j)
  rw [dnI_len] at h
  exact h
def spTail (K : PySem.W.Frag) : Sp := fun vs H Q _ => ∃ (p : Addr) (xs : List V) (ss : List (List Str)) (r : Int), vs = [.ref p, .int r] ∧ (SqL K H p xs ∨ SqT K H p xs) ∧ Tells H (ss.map nmsD) xs ∧ ss.length ≤ 59 ∧ (∀ s ∈ ss, s.length ≤ 12) ∧ 0 ≤ r ∧ r ≤ 10 ∧
  ∀ (v : V) (H' : Hp), Same H H' → Tell H' (tsD ss r) v → Q v H'
def spReached : Sp := fun vs H Q _ => ∃ n r : Int, vs = [.int n, .int r] ∧ 1 ≤ n ∧ n ≤ 60 ∧ 0 ≤ r ∧ r ≤ 10 ∧
  ∀ (l : Addr) (H' : Hp), Same H H' → H' l = some (.tup (((upI 1 60).filter fun x => decide (x ≤ n) && decide (n - x ≤ r)).map V.int)) → Q (.ref l) H'
theorem reach_list {n r : Int} (h1 : 1 ≤ n) (h2 : n ≤ 60) (h3 : 0 ≤ r) (h4 : r ≤ 10) :
    rngV (if n - r > 1 then n - r else 1) (n + 1 - (if n - r > 1 then n - r else 1)).toNat = ((upI 1 60).filter fun x => decide (x ≤ n) && decide (n - x ≤ r)).map V.int := by
  rw [rngV_up]
  refine congrArg (List.map V.int) (rise_ext (upI_rise _ _) ((upI_rise _ _).filter _) fun x => ?_)
  rw [List.mem_filter, mem_upI, mem_upI, Bool.and_eq_true, decide_eq_true_eq, decide_eq_true_eq]
  split <;> omega
theorem ok_reached (M : Bl mg) (F : Fun K "reached_by" "reached_by" sreached_by f fd) : FnOk P w K mg base CX0 1 f fd preached_by spReached := by
  have nd := screached_by.nd
  refine F.ok screached_by (fun vs H Q E h => ?_) (fun cdv A outer s H vs Q E hr h => ?_)
  · obtain ⟨n, r, rfl, _⟩ := h
    rfl
  obtain ⟨n, r, rfl, h1, h2, h3, h4, q⟩ := h
  refine ⟨_, (pss_one (ps_ret (pe_callTy (call_tuple_rng rfl) rfl M.tuple PyProof.Rows.boot_tuple (pa_cons (pe_callTy call_rng2 rfl M.range PyProof.Rows.boot_range (pa_cons (pe_callB (call_max2 rfl) rfl M.max PyProof.Rows.boot_max (pa_cons pe_int (pa_cons (pe_op op_sub (pv 0) (pv 1)) pa_nil))) (pa_cons (pe_op op_add (pv 0) pe_int) pa_nil))) pa_nil)))), ?_⟩
  refine ⟨_, rfl, _, rfl, _, _, rfl, rfl, _, _, rfl, _, rfl, _, _, rfl, rfl, _, _, rfl, fun p hp => ?_⟩
  refine ⟨p, _, _, rfl, upd_same, ⟨?_, ?_, ?_, ?_⟩, ?_, fun l hl => ?_⟩
  · split <;> omega
  · split <;> omega
  · omega
  · omega
  · split <;> omega
  · refine q l _ ((same_new hp _).trans (same_new hl _)) ?_
    rw [upd_same, reach_list h1 h2 h3 h4]
theorem dnI_falls (hi : Int) (j : Nat) : (dnI hi j).Pairwise (· > ·) := by
  unfold dnI
  rw [List.pairwise_map]
  exact List.pairwise_lt_range.imp fun h => by omega
theorem mem_tsN {n : Int} {j : Nat} {x : Int} : x ∈ tsN n j ↔ 1 ≤ x ∧ n - j < x ∧ x ≤ n := by
  unfold tsN
  rw [List.mem_filter, mem_dnI, decide_eq_true_eq]
  omega
theorem tsN_rev (n : Int) (j : Nat) : (tsN n j).reverse.Pairwise (· < ·) := by
  rw [List.pairwise_reverse]
  exact ((dnI_falls n j).filter _).imp fun h => h
theorem tail_list {n r : Int} (h0 : 0 ≤ n) (h1 : n ≤ 59) (r0 : 0 ≤ r) (r1 : r ≤ 10) : ((upI 1 60).filter fun x => decide (x ≤ n + 1) && decide (n + 1 - x ≤ r)) = (tsN n r.toNat).reverse ++ [n + 1] := by
  refine rise_ext ((upI_rise _ _).filter _) (List.pairwise_append.mpr ⟨tsN_rev _ _, List.pairwise_singleton _ _, fun x hx y hy => ?_⟩) fun x => ?_
  · rw [List.mem_reverse, mem_tsN] at hx
    rw [List.mem_singleton] at hy
    omega
  · rw [List.mem_filter, mem_upI, Bool.and_eq_true, decide_eq_true_eq, decide_eq_true_eq, List.mem_append, List.mem_reverse, mem_tsN, List.mem_singleton]
    omega
theorem ok_tail (M : Bl mg) (F : Fun K "tail_for" "tail_for" stail_for f fd) (Greached_by : Cal P w K mg base 1 "reached_by" preached_by spReached) : FnOk P w K mg base CX0 2 f fd ptail_for (spTail K) := by
  have nd := sctail_for.nd
  refine F.ok sctail_for (fun vs H Q E h => ?_) (fun cdv A outer s H vs Q E hr h => ?_)
  · obtain ⟨p, xs, ss, r, rfl, _⟩ := h
    rfl
  obtain ⟨p, xs, ss, r, rfl, hS, tS, l60, l12, r0, r1, k⟩ := h
  refine ⟨_, (pss_cons (ps_set (i := 2) nd rfl (Or.inl rfl) (pe_op op_add (pe_callB call_len_seq rfl M.len PySem.boot_len (pa_cons (pv 0) pa_nil)) pe_int)) (pss_cons (ps_set (i := 3) nd rfl (Or.inl rfl) (pe_slice sl_tup (pe_cal Greached_by (rm hr) rfl (pa_cons (pv 2) (pa_cons (pv 1) pa_nil))) po_none (po_some (pe_un un_neg pe_int)))) (pss_one (ps_ret (pe_callTy call_tuple_of rfl M.tuple PyProof.Rows.boot_tuple (pa_cons (pe_comp ["earlier"] ["sets"] [0] rfl (comp_scope rfl (by decide +kernel) rfl (by decide +kernel) rfl rfl) (pi_rev rfl M.reversed (pa_cons (pv 3) pa_nil)) (fun _ _ _ _ _ => (pg_name (i := 0) (show ((["earlier"] : List PySem.Str) ++ (["sets"] : List PySem.Str)).Nodup from by decide +kernel) rfl (Or.inl rfl))) (own_name (by decide)) mono_name (fun _ _ _ _ _ => pts_nil) (fun _ _ _ _ _ => (pe_tup (pa_cons (pv 0) (pa_cons (pe_callTy (call_tuple_ofK (K := K) rfl) rfl M.tuple PyProof.Rows.boot_tuple (pa_cons (pe_ix (r := rIx K) ix_seq (pv 1) (pe_op op_sub (pv 0) pe_int) (fun _ _ => rfl)) pa_nil)) pa_nil))))) pa_nil)))))), ?_⟩
  have lx : xs.length = ss.length := by rw [tS.length, List.length_map]
  have lx' : (xs.length : Int) = ss.length := by omega
  refine ⟨_, rfl, p, xs, rfl, hS, _, _, rfl, rfl, ?_⟩
  refine ⟨_, rfl, _, rfl, (xs.length : Int) + 1, r, rfl, by omega, by omega, r0, r1, fun l H1 s1 e1 => ?_⟩
  rw [lx', tail_list (by omega) (by omega) r0 r1] at e1
  have eL : (((tsN ss.length r.toNat).reverse ++ [(ss.length : Int) + 1]).map V.int).length = (tsN ss.length r.toNat).length + 1 := by
    rw [List.length_map, List.length_append, List.length_reverse]
    rfl
  have sx : HT.sIx (((tsN ss.length r.toNat).reverse ++ [(ss.length : Int) + 1]).map V.int).length (((tsN ss.length r.toNat).reverse ++ [(ss.length : Int) + 1]).map V.int).length (some (-1)) = (tsN ss.length r.toNat).length := by
    rw [eL]
    show (if (-1 : Int) < 0 then (-1 + (((tsN ss.length r.toNat).length + 1 : Nat) : Int)).toNat else min (-1 : Int).toNat ((tsN ss.length r.toNat).length + 1)) = _
    rw [if_pos (by decide)]
    omega
  have cut : cutV (((tsN ss.length r.toNat).reverse ++ [(ss.length : Int) + 1]).map V.int) none (some (-1)) = (tsN ss.length r.toNat).reverse.map V.int := by
    unfold cutV
    rw [sx]
    show List.take ((tsN ss.length r.toNat).length - 0) (List.drop 0 _) = _
    rw [List.drop_zero, Nat.sub_zero, List.map_append, List.take_left' (by rw [List.length_map, List.length_reverse])]
  refine ⟨_, rfl, -1, rfl, l, _, rfl, SqT.of e1, ?_, fun a ha => ?_⟩
  · rintro ⟨_, z⟩
    rw [sx, eL] at z
    omega
  rw [cut]
  have s2 := s1.trans (same_new ha (.tup ((tsN ss.length r.toNat).reverse.map V.int)))
  have e2 : upd H1 a (.tup ((tsN ss.length r.toNat).reverse.map V.int)) a = some (.tup ((tsN ss.length r.toNat).reverse.map V.int)) := upd_same
  generalize upd H1 a (.tup ((tsN ss.length r.toNat).reverse.map V.int)) = H2 at s2 e2
  have le := tsN_len ss.length r.toNat
  have lr : ((tsN ss.length r.toNat).reverse.map V.int).length = (tsN ss.length r.toNat).length := by rw [List.length_map, List.length_reverse]
  refine ⟨_, rfl, a, _, rfl, SqT.of e2, ?_⟩
  refine comp_rev (fun i ys H' => Same H2 H' ∧ Tells H' (((tsN ss.length r.toNat).take i).map (tsP ss)) ys) ⟨Same.refl _, by rw [List.take_zero]; exact .nil⟩ (fun i ys H' hi hp => ?_) (fun i x ys H' hx hp => ?_) (fun ys H' hp => ?_)
  · obtain ⟨g, t⟩ := hp
    refine ⟨SqT.of (g _ _ e2), small1000 ?_⟩
    rw [t.length, List.length_map, List.length_take]
    omega
  · obtain ⟨g, t⟩ := hp
    rw [← List.map_reverse, List.reverse_reverse, List.getElem?_map] at hx
    obtain ⟨m, hm, rfl⟩ := Option.map_eq_some_iff.mp hx
    have hb := mem_tsN.mp (List.mem_of_getElem? hm)
    have hk : (m - 1).toNat < ss.length := by omega
    have t2 := Tells.keep (s2.trans g) _ _ tS
    obtain ⟨v, ev, tv⟩ := t2.get (m - 1).toNat (nmsD (ss.getD (m - 1).toNat [])) (by
      rw [List.getElem?_map, List.getD_eq_getElem?_getD, List.getElem?_eq_getElem hk]
      rfl)
    have av : atI xs (m - 1) = some v := by
      have e : m - 1 = (((m - 1).toNat : Nat) : Int) := by omega
      rw [e]
      exact atI_nat ev
    obtain ⟨b, us, rfl, eb, _, _⟩ := tell_tup_inv tv
    refine ⟨_, rfl, _, rfl, _, rfl, _, _, rfl, rfl, ?_⟩
    have go : ∀ (z : Tell H' (nmsD (ss.getD (m - 1).toNat [])) (.ref b)), rTupOf K [.ref b] H' fun x H3 => [V.int m, x].length ≤ sizeLine ∧ ∀ q, H3 q = none → Same H2 (upd H3 q (.tup [.int m, x])) ∧ Tells (upd H3 q (.tup [.int m, x])) (((tsN ss.length r.toNat).take (i + 1)).map (tsP ss)) (ys ++ [.ref q]) := fun z =>
      ⟨b, us, rfl, .inr ⟨SqT.of eb, by show 2 ≤ sizeLine; decide, fun q hq => ⟨g.trans (same_new hq _), by
        rw [List.take_add_one, hm, List.map_append]
        exact Tells.snoc (Tells.keep (same_new hq _) _ _ t) (tell_tup upd_same (by show 2 ≤ 1000000; decide) (.cons (tell_int _) (.cons (Tell.keep (same_new hq _) _ _ z) .nil)))⟩⟩⟩
    rcases hS with hS | hS
    · exact .inl ⟨p, xs, _, .ref b, rfl, rfl, (s2.trans g).seq hS, av, go tv⟩
    · exact .inr (.inl ⟨p, xs, _, .ref b, rfl, rfl, same_tup (s2.trans g) hS, av, go tv⟩)
  · obtain ⟨g, t⟩ := hp
    rw [lr, List.take_length] at t
    intro D hD
    refine ⟨D, ys, rfl, .inl ⟨SqL.of upd_same, fun q hq => k _ _ (s2.trans (g.trans ((same_new hD _).trans (same_new hq _)))) (tell_tup upd_same ?_ (Tells.keep ((same_new hD _).trans (same_new hq _)) _ _ t))⟩⟩
    rw [List.length_map]
    omega
def kvR (p : Str × Int) : Key × V := (Sum.inr p.1, .int p.2)
def spUnk (K : PySem.W.Frag) : Sp := fun vs H Q _ => ∃ (p : Addr) (zs : List Str) (z : Str), vs = [.ref p, .str z] ∧ SqN K H p zs ∧ z ∈ zs ∧ Q .non H
theorem inV_strs' (x : Str) (ns : List Str) : inV (.str x) (ns.map V.str) = decide (x ∈ ns) := by
  unfold inV
  rw [Bool.eq_iff_iff, List.any_map, List.any_eq_true, decide_eq_true_eq]
  constructor
  · rintro ⟨y, hy, e⟩
    have : y = x := by simpa [eqV] using e
    exact this ▸ hy
  · intro h
    exact ⟨x, h, by simp [eqV]⟩
theorem ok_unk (M : Bl mg) (F : Fun K "refuse_unknown_name" "refuse_unknown_name" srefuse_unknown_name f fd) : FnOk P w K mg base CX0 1 f fd prefuse_unknown_name (spUnk K) := by
  have nd := screfuse_unknown_name.nd
  refine F.ok screfuse_unknown_name (fun vs H Q E h => ?_) (fun cdv A outer s H vs Q E hr h => ?_)
  · obtain ⟨p, zs, z, rfl, _⟩ := h
    rfl
  obtain ⟨p, zs, z, rfl, hp, hz, k⟩ := h
  refine ⟨_, (pss_one (ps_if (pt_cmpR op_notIn_seq (pv 1) (pv 0) (by with_unfolding_all rfl)) (pss_one ps_never) pss_nil)), ?_⟩
  refine ⟨_, rfl, _, rfl, p, _, rfl, hp, rfl, flat_strs zs, _, rfl, ?_⟩
  rw [if_pos rfl, inV_strs', decide_eq_true hz]
  exact ite2 (fun c => absurd c (by decide)) fun _ => k
def spBadVal : Sp := fun vs H Q _ => ∃ v : Int, vs = [.int v] ∧ 0 ≤ v ∧ v ≤ 1000000 ∧ Q .non H
theorem ok_badval (M : Bl mg) (F : Fun K "refuse_bad_value" "refuse_bad_value" srefuse_bad_value f fd) : FnOk P w K mg base CX0 1 f fd prefuse_bad_value spBadVal := by
  have nd := screfuse_bad_value.nd
  refine F.ok screfuse_bad_value (fun vs H Q E h => ?_) (fun cdv A outer s H vs Q E hr h => ?_)
  · obtain ⟨r, rfl, _⟩ := h
    rfl
  obtain ⟨r, rfl, r0, r1, k⟩ := h
  refine ⟨_, (pss_one (ps_if (PW.pt (pw_or (pt_cmpR op_lt (pv 0) pe_int (nomark _)) (pw_or1 (pt_cmpR op_gt (pv 0) (pe_con_int rfl M.MOST_VALUE) (nomark _))))) (pss_one ps_never) pss_nil)), ?_⟩
  refine ⟨_, rfl, _, _, rfl, rfl, _, rfl, ite2 (fun q => absurd (dec_of q) (by omega)) fun _ => ?_⟩
  exact ⟨_, rfl, _, _, rfl, rfl, _, rfl, ite2 (fun q => absurd (dec_of q) (by omega)) fun _ => k⟩
def HandR (K : PySem.W.Frag) (H : Hp) (u : V) (p : Str × Int) : Prop := ∃ a, u = .ref a ∧ (SqL K H a [.str p.1, .int p.2] ∨ SqT K H a [.str p.1, .int p.2])
theorem HandR.keep {K : PySem.W.Frag} {H H' : Hp} (s : Same H H') : ∀ {us : List V} {pr : Row}, Paired (HandR K H) us pr → Paired (HandR K H') us pr
  | _, _, .nil => .nil
  | _, _, .cons ⟨a, e, h⟩ t => .cons ⟨a, e, h.imp (fun q => s.seq q) fun q => same_tup s q⟩ (HandR.keep s t)
theorem HandR.at {K : PySem.W.Frag} {H : Hp} : ∀ {us : List V} {pr : Row}, Paired (HandR K H) us pr → ∀ (i : Nat) (x : V), us[i]? = some x → ∃ p, pr[i]? = some p ∧ HandR K H x p
  | _, _, .nil, i, x, e => by simp at e
  | _, _, .cons r t, 0, x, e => by
    simp at e
    subst e
    exact ⟨_, rfl, r⟩
  | _, _, .cons r t, i + 1, x, e => by
    obtain ⟨y, h1, h2⟩ := HandR.at t i x (by simpa using e)
    exact ⟨y, by simpa using h1, h2⟩
theorem HandR.pairs {K : PySem.W.Frag} {H : Hp} : ∀ {us : List V} {pr : Row}, Paired (HandR K H) us pr → Paired (PairV K H) us (pr.map kvR)
  | _, _, .nil => .nil
  | _, _, .cons ⟨a, e, h⟩ t => .cons ⟨a, e, h⟩ (HandR.pairs t)
theorem HandR.of {K : PySem.W.Frag} {H : Hp} {fp : List Addr} : ∀ {us : List V} {pr : Row}, Paired (HandRow K H fp) us pr → Paired (HandR K H) us pr
  | _, _, .nil => .nil
  | _, _, .cons ⟨a, e, h, _⟩ t => .cons ⟨a, e, h⟩ (HandR.of t)
theorem SqP.or {K : PySem.W.Frag} {H : Hp} {a : Addr} {us : List V} (h : SqP K H a us) : SqL K H a us ∨ SqT K H a us := h.imp id SqT.of
theorem SqP.keep {K : PySem.W.Frag} {H H' : Hp} {a : Addr} {us : List V} (s : Same H H') (h : SqP K H a us) : SqP K H' a us := h.imp (fun q => s.seq q) fun q => s _ _ q
def spBadRows (K : PySem.W.Frag) : Sp := fun vs H Q _ => ∃ (pn a : Addr) (zs : List Str) (us : List V) (pr : Row), vs = [.ref pn, .ref a] ∧ SqN K H pn zs ∧ SqP K H a us ∧ Paired (HandR K H) us pr ∧ GoodR zs pr ∧ pr.length ≤ 12 ∧ ∀ H', Same H H' → Q .non H'
theorem ok_badrows (M : Bl mg) (F : Fun K "refuse_bad_rows" "refuse_bad_rows" srefuse_bad_rows f fd) (Grefuse_unknown_name : Cal P w K mg base 1 "refuse_unknown_name" prefuse_unknown_name (spUnk K))
    (Grefuse_bad_value : Cal P w K mg base 1 "refuse_bad_value" prefuse_bad_value spBadVal) : FnOk P w K mg base CX0 2 f fd prefuse_bad_rows (spBadRows K) := by
  have nd := screfuse_bad_rows.nd
  refine F.ok screfuse_bad_rows (fun vs H Q E h => ?_) (fun cdv A outer s H vs Q E hr h => ?_)
  · obtain ⟨pn, a, zs, us, pr, rfl, _⟩ := h
    rfl
  obtain ⟨pn, a, zs, us, pr, rfl, hn, ha, hp, g, l12, k⟩ := h
  refine ⟨_, (pss_cons (ps_comp (i := 2) ["name", "value"] [] [] rfl nd rfl (Or.inl rfl) (comp_scope rfl (by decide +kernel) rfl (by decide +kernel) rfl rfl) (pi_seq (pv 1)) (fun _ _ _ _ _ => (pg_seqK (K := K) (n := 2) rfl rfl (pgs_cons (pg_name (i := 0) (show ((["name", "value"] : List PySem.Str) ++ ([] : List PySem.Str)).Nodup from by decide +kernel) rfl (Or.inl rfl)) (pgs_cons (pg_name (i := 1) (show ((["name", "value"] : List PySem.Str) ++ ([] : List PySem.Str)).Nodup from by decide +kernel) rfl (Or.inl rfl)) pgs_nil)))) (own_seq (own_cons (own_name (by decide)) mono_name (own_cons (own_name (by decide)) mono_name own_nil mono_nil) (mono_cons mono_name mono_nil))) (mono_seq (mono_cons mono_name (mono_cons mono_name mono_nil))) (fun _ _ _ _ _ => pts_nil) (fun _ _ _ _ _ => (pv 0))) (pss_cons (ps_for PassesOwn.never rfl (pi_list (pv 2)) (pg_name (i := 3) nd rfl (Or.inl rfl)) (pss_one (ps_expr (pe_cal Grefuse_unknown_name (rm hr) rfl (pa_cons (pv 0) (pa_cons (pv 3) pa_nil)))))) (pss_cons (ps_if (pt_cmpR op_ne (pe_callB call_len_setT rfl M.len PySem.boot_len (pa_cons (pe_callTy (call_set_texts rfl) rfl M.set PyProof.Rows.boot_set (pa_cons (pv 2) pa_nil)) pa_nil)) (pe_callB call_len_seq rfl M.len PySem.boot_len (pa_cons (pv 2) pa_nil)) (nomark _)) (pss_one ps_never) pss_nil) (pss_one (ps_for PassesOwn.never rfl (pi_seq (pv 1)) (pg_seqK (K := K) (n := 2) rfl rfl (pgs_cons (pg_name (i := 3) nd rfl (Or.inl rfl)) (pgs_cons (pg_name (i := 4) nd rfl (Or.inl rfl)) pgs_nil))) (pss_one (ps_expr (pe_cal Grefuse_bad_value (rm hr) rfl (pa_cons (pv 4) pa_nil))))))))), ?_⟩
  obtain ⟨t, ht⟩ := SqS.of (SqP.or ha)
  have lu : us.length = pr.length := hp.length
  refine ⟨_, rfl, a, t, rfl, ⟨_, ht⟩, ?_⟩
  refine comp_seq (xs := us) (fun i ys H' => H' = H ∧ ys = ((pr.take i).map Prod.fst).map V.str) ⟨rfl, rfl⟩ (fun i ys H' hi hq => ?_) (fun i x ys H' hx hq => ?_) (fun ys H' hq => ?_)
  · obtain ⟨rfl, rfl⟩ := hq
    refine ⟨ht, small1000 ?_⟩
    rw [List.length_map, List.length_map, List.length_take]
    omega
  · obtain ⟨rfl, rfl⟩ := hq
    obtain ⟨p, ep, b, rfl, hb⟩ := HandR.at hp i x hx
    refine ⟨b, _, rfl, hb, rfl, _, _, rfl, _, _, rfl, rfl, ?_⟩
    refine ⟨_, rfl, rfl, ?_⟩
    rw [take_snoc ep, List.map_append, List.map_append]
    rfl
  obtain ⟨rfl, rfl⟩ := hq
  rw [lu, List.take_length]
  intro D hD
  have s1 := same_new hD (.lst ((pr.map Prod.fst).map V.str))
  have e1 : upd H' D (.lst ((pr.map Prod.fst).map V.str)) D = some (.lst ((pr.map Prod.fst).map V.str)) := upd_same
  generalize upd H' D (.lst ((pr.map Prod.fst).map V.str)) = H1 at s1 e1
  have hn1 := SqN.keep s1 hn
  have ht1 := SqS.keep s1 ht
  have hp1 := HandR.keep s1 hp
  refine ⟨_, rfl, D, rfl, ⟨_, SqL.of e1⟩, for_list (K := K) (a := D) (xs := (pr.map Prod.fst).map V.str) (fun i σ H2 => ∃ o : Option V, H2 = H1 ∧ σ = [some (.ref pn), some (.ref a), some (.ref D), o, none]) ⟨none, rfl, rfl⟩ (fun i σ H2 _ ⟨_, e, _⟩ => e ▸ SqL.of e1) (fun i x σ H2 hx hq => ?_) (fun σ H2 hq => ?_)⟩
  · obtain ⟨o, rfl, rfl⟩ := hq
    rw [List.getElem?_map] at hx
    obtain ⟨z, ez, rfl⟩ := Option.map_eq_some_iff.mp hx
    have hz : z ∈ zs := by
      obtain ⟨p, hpm, rfl⟩ := List.mem_map.mp (List.mem_of_getElem? ez)
      exact g.sub p hpm
    exact ⟨_, rfl, _, rfl, pn, zs, z, rfl, hn1, hz, _, rfl, rfl⟩
  obtain ⟨o, rfl, rfl⟩ := hq
  have lf : (pr.map Prod.fst).length = pr.length := List.length_map _
  refine ⟨_, rfl, D, pr.map Prod.fst, rfl, .inl (SqL.of e1), by omega, fun l hl => ⟨l, pr.map Prod.fst, rfl, upd_same, by omega, _, rfl, D, _, rfl, .inl (SqL.of (same_new hl _ _ _ e1)), rfl, _, rfl, ?_⟩⟩
  refine iteNS (by rw [metL_nd g.nd, List.length_map (f := V.str)]) ?_
  have s2 := s1.trans (same_new hl (SetT P w l (pr.map Prod.fst)))
  have ht2 := SqS.keep (same_new hl (SetT P w l (pr.map Prod.fst))) ht1
  have hp2 := HandR.keep (same_new hl (SetT P w l (pr.map Prod.fst))) hp1
  refine ⟨_, rfl, a, t, rfl, ⟨_, ht2⟩, ?_⟩
  refine for_seq (xs := us) (fun i σ H3 => ∃ o1 o2 : Option V, H3 = upd H2 l (SetT P w l (pr.map Prod.fst)) ∧ σ = [some (.ref pn), some (.ref a), some (.ref D), o1, o2]) ⟨_, _, rfl, rfl⟩ (fun i σ H3 _ ⟨_, _, e, _⟩ => e ▸ ht2) (fun i x σ H3 hx hq => ?_) (fun σ H3 hq => ?_)
  · obtain ⟨o1, o2, rfl, rfl⟩ := hq
    obtain ⟨p, ep, b, rfl, hb⟩ := HandR.at hp2 i x hx
    have hv := g.val p (List.mem_of_getElem? ep)
    refine ⟨b, _, rfl, hb, rfl, _, _, rfl, _, _, rfl, rfl, ?_⟩
    exact ⟨_, rfl, p.2, rfl, hv.1, hv.2, _, _, rfl, rfl⟩
  · obtain ⟨o1, o2, rfl, rfl⟩ := hq
    exact k _ s2
def spInOrder (K : PySem.W.Frag) : Sp := fun vs H Q _ => ∃ (pn a : Addr) (zs : List Str) (us : List V) (pr : Row), vs = [.ref pn, .ref a] ∧ SqN K H pn zs ∧ zs.length ≤ 12 ∧ SqP K H a us ∧ Paired (HandR K H) us pr ∧ (pr.map Prod.fst).Nodup ∧ pr.length ≤ 12 ∧ ∀ (v : V) (H' : Hp), Same H H' → Tell H' (rowD (inOrder zs pr)) v → Q v H'
theorem val_find {z : Str} : ∀ {pr : Row}, valV (pr.map kvR) (Sum.inr z : Key) = (pr.find? fun p => decide (p.1 = z)).map fun p => V.int p.2
  | [] => rfl
  | p :: w => by
    rw [List.map_cons, List.find?_cons]
    by_cases e : p.1 = z
    · rw [valV_pos (show (kvR p).1 = Sum.inr z by unfold kvR; rw [e]), decide_eq_true e]
      rfl
    · rw [valV_neg (show ¬ (kvR p).1 = Sum.inr z from fun q => e (Sum.inr.inj q)), decide_eq_false e]
      exact val_find
theorem inOrder_snoc (zs : List Str) (z : Str) (pr : Row) : inOrder (zs ++ [z]) pr = inOrder zs pr ++ (match pr.find? fun p => decide (p.1 = z) with | some p => [p] | none => []) := by
  unfold inOrder
  rw [List.filterMap_append, List.filterMap_cons]
  cases pr.find? fun p => decide (p.1 = z) <;> rfl
theorem inOrder_len (zs : List Str) (pr : Row) : (inOrder zs pr).length ≤ zs.length := List.length_filterMap_le _ _
theorem ok_inorder (M : Bl mg) (F : Fun K "rows_in_order" "rows_in_order" srows_in_order f fd) : FnOk P w K mg base CX0 1 f fd prows_in_order (spInOrder K) := by
  have nd := scrows_in_order.nd
  refine F.ok scrows_in_order (fun vs H Q E h => ?_) (fun cdv A outer s H vs Q E hr h => ?_)
  · obtain ⟨pn, a, zs, us, pr, rfl, _⟩ := h
    rfl
  obtain ⟨pn, a, zs, us, pr, rfl, hn, z12, ha, hp, ndr, l12, k⟩ := h
  have hu := hu_of hr
  refine ⟨_, (pss_cons (ps_set (i := 2) nd rfl (Or.inr rfl) (pe_callTy (call_dict_of (K := K) rfl rfl) rfl M.dict PyProof.Rows.boot_dict (pa_cons (pv 1) pa_nil))) (pss_one (ps_ret (pe_callTy call_tuple_of rfl M.tuple PyProof.Rows.boot_tuple (pa_cons (pe_comp ["name"] ["values"] [2] rfl (comp_scope rfl (by decide +kernel) rfl (by decide +kernel) rfl rfl) (pi_seq (pv 0)) (fun _ _ _ _ _ => (pg_name (i := 0) (show ((["name"] : List PySem.Str) ++ (["values"] : List PySem.Str)).Nodup from by decide +kernel) rfl (Or.inl rfl))) (own_name (by decide)) mono_name (fun _ _ _ _ _ => (pts_one (pt_cmp (pc_din hu (pv 0) (pv 1))))) (fun _ _ _ _ _ => (pe_tup (pa_cons (pv 0) (pa_cons (pe_dget hu (pv 1) (pv 0) (fun _ _ => rfl)) pa_nil))))) pa_nil))))), ?_⟩
  have lu : us.length = pr.length := hp.length
  refine ⟨_, rfl, a, us, pr.map kvR, rfl, ha, HandR.pairs hp, by omega, ?_, fun d hd => ?_⟩
  · have e : (pr.map kvR).map (·.1) = (pr.map Prod.fst).map Sum.inr := by rw [List.map_map, List.map_map]; rfl
    rw [e, List.nodup_iff_pairwise_ne, List.pairwise_map]
    exact (List.nodup_iff_pairwise_ne.mp ndr).imp fun h e => h (Sum.inr.inj e)
  have s1 := same_new hd (.dK (pr.map kvR))
  have e1 : upd H d (.dK (pr.map kvR)) d = some (.dK (pr.map kvR)) := upd_same
  generalize upd H d (.dK (pr.map kvR)) = H1 at s1 e1
  obtain ⟨t, ht⟩ := SqS.of (SqN.keep s1 hn)
  refine ⟨_, rfl, pn, t, rfl, ⟨_, ht⟩, ?_⟩
  refine comp_seq (xs := zs.map V.str) (fun i ys H' => Same H1 H' ∧ Tells H' ((inOrder (zs.take i) pr).map pairD) ys) ⟨Same.refl _, by rw [List.take_zero]; exact .nil⟩ (fun i ys H' hi hq => ?_) (fun i x ys H' hx hq => ?_) (fun ys H' hq => ?_)
  · obtain ⟨g, t'⟩ := hq
    refine ⟨SqS.keep g ht, small1000 ?_⟩
    have := inOrder_len (zs.take i) pr
    rw [List.length_take] at this
    rw [t'.length, List.length_map]
    omega
  · obtain ⟨g, t'⟩ := hq
    rw [List.getElem?_map] at hx
    obtain ⟨z, ez, rfl⟩ := Option.map_eq_some_iff.mp hx
    refine ⟨_, rfl, _, rfl, d, _, rfl, DGet.k (k := Sum.inr z) (g _ _ e1), _, rfl, ?_⟩
    rw [val_find, take_snoc ez, inOrder_snoc]
    cases ev : pr.find? fun p => decide (p.1 = z) with
    | none =>
      refine iteF ⟨g, ?_⟩
      rw [List.append_nil]
      exact t'
    | some p =>
      have ep : p.1 = z := by
        have := List.find?_some ev
        exact of_decide_eq_true this
      refine iteT ⟨_, rfl, _, rfl, _, rfl, d, _, rfl, (show DGet _ d (kV (Sum.inr z)) (some (V.int p.2)) by rw [← show valV (pr.map kvR) (Sum.inr z : Key) = some (V.int p.2) by rw [val_find, ev]; rfl]; exact DGet.k (g _ _ e1)), (by show 2 ≤ sizeLine; decide), fun q hq => ⟨g.trans (same_new hq _), ?_⟩⟩
      rw [List.map_append]
      refine Tells.snoc (Tells.keep (same_new hq _) _ _ t') ?_
      rw [← ep]
      exact tell_tup upd_same (by show 2 ≤ 1000000; decide) (.cons (tell_str _) (.cons (tell_int _) .nil))
  · obtain ⟨g, t'⟩ := hq
    rw [List.length_map, List.take_length] at t'
    intro D hD
    refine ⟨D, ys, rfl, .inl ⟨SqL.of upd_same, fun q hq => k _ _ (s1.trans (g.trans ((same_new hD _).trans (same_new hq _)))) (tell_tup upd_same ?_ (Tells.keep ((same_new hD _).trans (same_new hq _)) _ _ t'))⟩⟩
    have := inOrder_len zs pr
    rw [List.length_map]
    omega
def spNmsOf : Sp := fun vs H Q _ => ∃ (a : Addr) (xs : List V) (w : Row), vs = [.ref a] ∧ H a = some (.tup xs) ∧ Tells H (w.map pairD) xs ∧ w.length ≤ 12 ∧ ∀ (l : Addr) (H' : Hp), Same H H' → H' l = some (.tup ((nmsOf w).map V.str)) → Q (.ref l) H'
theorem ok_nmsof (M : Bl mg) (F : Fun K "names_of_rows" "names_of_rows" snames_of_rows f fd) : FnOk P w K mg base CX0 1 f fd pnames_of_rows spNmsOf := by
  have nd := scnames_of_rows.nd
  refine F.ok scnames_of_rows (fun vs H Q E h => ?_) (fun cdv A outer s H vs Q E hr h => ?_)
  · obtain ⟨a, xs, w, rfl, _⟩ := h
    rfl
  obtain ⟨a, xs, w, rfl, ha, tw, l12, k⟩ := h
  refine ⟨_, (pss_one (ps_ret (pe_callTy call_tuple_of rfl M.tuple PyProof.Rows.boot_tuple (pa_cons (pe_comp ["name", "value"] [] [] rfl (comp_scope rfl (by decide +kernel) rfl (by decide +kernel) rfl rfl) (pi_tup (pv 0)) (fun _ _ _ _ _ => (pg_tupK (K := K) (n := 2) rfl rfl (pgs_cons (pg_name (i := 0) (show ((["name", "value"] : List PySem.Str) ++ ([] : List PySem.Str)).Nodup from by decide +kernel) rfl (Or.inl rfl)) (pgs_cons (pg_name (i := 1) (show ((["name", "value"] : List PySem.Str) ++ ([] : List PySem.Str)).Nodup from by decide +kernel) rfl (Or.inl rfl)) pgs_nil)))) (own_tup (own_cons (own_name (by decide)) mono_name (own_cons (own_name (by decide)) mono_name own_nil mono_nil) (mono_cons mono_name mono_nil))) (mono_tup (mono_cons mono_name (mono_cons mono_name mono_nil))) (fun _ _ _ _ _ => pts_nil) (fun _ _ _ _ _ => (pv 0))) pa_nil)))), ?_⟩
  have lx : xs.length = w.length := by rw [tw.length, List.length_map]
  refine ⟨_, rfl, a, rfl, ⟨_, SqT.of ha⟩, ?_⟩
  refine comp_tup (xs := xs) (fun i ys H' => H' = H ∧ ys = (nmsOf (w.take i)).map V.str) ⟨rfl, rfl⟩ (fun i ys H' hi hq => ?_) (fun i x ys H' hx hq => ?_) (fun ys H' hq => ?_)
  · obtain ⟨rfl, rfl⟩ := hq
    refine ⟨SqT.of ha, small1000 ?_⟩
    unfold nmsOf
    rw [List.length_map, List.length_map, List.length_take]
    omega
  · obtain ⟨rfl, rfl⟩ := hq
    obtain ⟨p, b, ep, rfl, hb⟩ := tells_pairs tw i x hx
    refine ⟨b, _, rfl, SqT.of hb, rfl, _, _, rfl, _, _, rfl, rfl, ?_⟩
    refine ⟨_, rfl, rfl, ?_⟩
    unfold nmsOf
    rw [take_snoc ep, List.map_append, List.map_append]
    rfl
  · obtain ⟨rfl, rfl⟩ := hq
    rw [lx, List.take_length]
    intro D hD
    exact ⟨D, _, rfl, .inl ⟨SqL.of upd_same, fun q hq => k q _ ((same_new hD _).trans (same_new hq _)) upd_same⟩⟩
def OfD (K : PySem.W.Frag) (C : Addr) : OfP := fun H p fp zs r rows => ∃ (dx pn pl : Addr) (fs : List (Str × V)) (xs : List V), fp = [p, dx, pl] ∧ H p = some (.ins C dx fs) ∧ H dx = some (.own p) ∧ H pn = some (.tup (zs.map V.str)) ∧ H pl = some (.lst xs) ∧
  fs.lookup ("names" : Str) = some (V.ref pn) ∧ fs.lookup ("reach" : Str) = some (V.int r) ∧ fs.lookup ("written" : Str) = some (V.ref pl) ∧ (∀ m ∈ (["refuse_writing", "write", "latest", "issue"] : List Str), fs.lookup m = none) ∧
  Tells H ((upI 1 rows.length).map fun n => issueD rows n r) xs ∧ rows.length ≤ 60 ∧ (∀ w ∈ rows, w.length ≤ 12) ∧ GoodN zs ∧ 0 ≤ r ∧ r ≤ 10
theorem ofOk {K : PySem.W.Frag} {C : Addr} : OfOk C ["write", "latest", "issue"] (OfD K C) := by
  refine ⟨fun h => ?_, fun h b hb => ?_, fun h s out nt => ?_⟩
  · obtain ⟨dx, pn, pl, fs, xs, e, h1, h2, h3, h4, l1, l2, l3, lm, _⟩ := h
    refine ⟨dx, fs, h1, fun m hm => lm m ?_⟩
    simp only [List.mem_cons, List.not_mem_nil, or_false] at hm ⊢
    rcases hm with h | h | h <;> simp [h]
  · obtain ⟨dx, pn, pl, fs, xs, rfl, h1, h2, h3, h4, _⟩ := h
    rcases List.mem_cons.mp hb with rfl | hb
    · exact ⟨_, h1, fun xs z => by cases z⟩
    rcases List.mem_cons.mp hb with rfl | hb
    · exact ⟨_, h2, fun xs z => by cases z⟩
    rw [List.mem_singleton.mp hb]
    exact ⟨_, h4, fun xs z => by cases z⟩
  · obtain ⟨dx, pn, pl, fs, xs, rfl, h1, h2, h3, h4, l1, l2, l3, lm, tl, g⟩ := h
    exact ⟨dx, pn, pl, fs, xs, rfl, s _ _ h1 (fun m => out _ m (by simp)), s _ _ h2 (fun m => out _ m (by simp)), s _ _ h3 (fun m => nt _ m _ h3), s _ _ h4 (fun m => out _ m (by simp)), l1, l2, l3, lm, Tells.but s nt _ _ tl, g⟩
theorem ok_ofinit {COffice : Addr} (M : Bl mg) (T : TxOffice K mg COffice) (F : Fun K "__init__" "Office.__init__" sOffice___init__ f fd) (Gbulletin_names : Cal P w K mg base 2 "bulletin_names" pbulletin_names (spBulletin K)) :
    FnOk P w K mg base CX0 3 f fd pOffice___init__ (spOfInit K COffice (OfD K COffice)) := by
  have nd := scOffice___init__.nd
  refine F.ok scOffice___init__ (fun vs H Q E h => ?_) (fun cdv A outer s H vs Q E hr h => ?_)
  · obtain ⟨x, dx, pn, zs, r, rfl, _⟩ := h
    rfl
  obtain ⟨x, dx, pn, zs, r, rfl, hx, ne, hdx, hn, g, r0, r1, k⟩ := h
  refine ⟨_, (pss_cons (ps_fld (pv 0) (pe_cal Gbulletin_names (rm hr) rfl (pa_cons (pv 1) (pa_cons (pv 2) pa_nil))) rfl) (pss_cons (ps_fld (pv 0) (pv 2) rfl) (pss_one (ps_fld (pv 0) (pe_lst pa_nil) rfl)))), ?_⟩
  refine ⟨_, rfl, _, rfl, pn, zs, r, rfl, hn, g, r0, r1, fun l H1 s1 e1 => ?_⟩
  refine ⟨_, rfl, x, COffice, dx, [], rfl, s1 _ _ hx, T.cl, T.n_names, by decide, ?_⟩
  have z1 := length_putF "names" (.ref l) []
  have z2 := length_putF "reach" (.int r) (putF "names" (.ref l) [])
  have z0 : ([] : List (Str × V)).length = 0 := rfl
  refine ⟨_, rfl, _, rfl, x, COffice, dx, _, rfl, upd_same, T.cl, T.n_reach, (by omega), ?_⟩
  rw [upd_upd]
  refine ⟨(by show 0 ≤ sizeLine; decide), fun pd hd => ?_⟩
  have nx : x ≠ pd := ne_of_none upd_same hd
  have ndd : dx ≠ pd := ne_of_none (show upd H1 x _ dx = some _ by rw [upd_ne ne]; exact s1 _ _ hdx) hd
  have nl : l ≠ x := ne_of e1 (s1 _ _ hx) (fun z => by cases z)
  have nlp : l ≠ pd := ne_of_none (show upd H1 x _ l = some _ by rw [upd_ne nl]; exact e1) hd
  have dfr : H1 pd = none := by rw [upd_ne (Ne.symm nx)] at hd; exact hd
  refine ⟨_, rfl, x, COffice, dx, _, rfl, (by rw [upd_ne nx, upd_same]), T.cl, T.n_written, (by omega), ?_⟩
  refine k [x, dx, pd] _ (fun b hb => ?_) (fun b o e nb => ?_) ⟨dx, l, pd, _, [], rfl, upd_same, ?_, ?_, ?_, ?_, ?_, ?_, ?_, .nil, by decide, fun _ q => (nomatch q), g, r0, r1⟩
  · simp only [List.mem_cons, List.not_mem_nil, or_false] at hb
    rcases hb with rfl | rfl | rfl
    · exact .inl rfl
    · exact .inr (.inl rfl)
    · exact .inr (.inr (s1.free dfr))
  · rw [List.mem_singleton] at nb
    rw [upd_ne nb, upd_ne (ne_of_none e (s1.free dfr)), upd_ne nb]
    exact s1 _ _ e
  · rw [upd_ne ne, upd_ne ndd, upd_ne ne]
    exact s1 _ _ hdx
  · rw [upd_ne nl, upd_ne nlp, upd_ne nl]
    exact e1
  · rw [upd_ne (Ne.symm nx), upd_same]
  · rw [lookup_putF, if_neg (by decide +kernel), lookup_putF, if_neg (by decide +kernel), lookup_putF, if_pos rfl]
  · rw [lookup_putF, if_neg (by decide +kernel), lookup_putF, if_pos rfl]
  · rw [lookup_putF, if_pos rfl]
  · intro m hm
    simp only [List.mem_cons, List.not_mem_nil, or_false] at hm
    rcases hm with rfl | rfl | rfl | rfl <;> rw [lookup_putF, if_neg (by decide +kernel), lookup_putF, if_neg (by decide +kernel), lookup_putF, if_neg (by decide +kernel)] <;> rfl
theorem ok_oflatest {COffice : Addr} (M : Bl mg) (T : TxOffice K mg COffice) (F : Fun K "latest" "Office.latest" sOffice_latest f fd) : FnOk P w K mg base CX0 1 f fd pOffice_latest (spOfLatest (OfD K COffice)) := by
  have nd := scOffice_latest.nd
  refine F.ok scOffice_latest (fun vs H Q E h => ?_) (fun cdv A outer s H vs Q E hr h => ?_)
  · obtain ⟨p, fp, zs, r, rows, rfl, _⟩ := h
    rfl
  obtain ⟨p, fp, zs, r, rows, rfl, of, k⟩ := h
  refine ⟨_, (pss_one (ps_ret (pe_callB call_len_seq rfl M.len PySem.boot_len (pa_cons (pe_fld (pv 0) rfl) pa_nil)))), ?_⟩
  obtain ⟨dx, pn, pl, fs, xs, rfl, h1, h2, h3, h4, l1, l2, l3, lm, tl, r60, w12, g, r0, r1⟩ := of
  have lx : xs.length = rows.length := by rw [tl.length, List.length_map, upI_length]
  refine ⟨_, rfl, p, COffice, dx, fs, _, rfl, h1, T.cl, T.n_written, l3, pl, xs, rfl, .inl (SqL.of h4), ?_⟩
  rw [lx]
  exact k H (Same.refl _)
theorem ok_ofissue {COffice : Addr} (M : Bl mg) (T : TxOffice K mg COffice) (F : Fun K "issue" "Office.issue" sOffice_issue f fd) : FnOk P w K mg base CX0 1 f fd pOffice_issue (spOfIssue (OfD K COffice)) := by
  have nd := scOffice_issue.nd
  refine F.ok scOffice_issue (fun vs H Q E h => ?_) (fun cdv A outer s H vs Q E hr h => ?_)
  · obtain ⟨p, fp, zs, r, rows, n, rfl, _⟩ := h
    rfl
  obtain ⟨p, fp, zs, r, rows, n, rfl, of, n1, n2, k⟩ := h
  refine ⟨_, (pss_cons (ps_if (PW.pt (pw_or (pt_cmpR op_lt (pv 1) pe_int (nomark _)) (pw_or1 (pt_cmpR op_gt (pv 1) (pe_callB call_len_seq rfl M.len PySem.boot_len (pa_cons (pe_fld (pv 0) rfl) pa_nil)) (nomark _))))) (pss_one ps_never) pss_nil) (pss_one (ps_ret (pe_ix ix_list (pe_fld (pv 0) rfl) (pe_op op_sub (pv 1) pe_int) (fun _ _ => rfl))))), ?_⟩
  obtain ⟨dx, pn, pl, fs, xs, rfl, h1, h2, h3, h4, l1, l2, l3, lm, tl, r60, w12, g, r0, r1⟩ := of
  have lx : xs.length = rows.length := by rw [tl.length, List.length_map, upI_length]
  refine ⟨_, rfl, _, _, rfl, rfl, _, rfl, ite2 (fun q => absurd (dec_of q) (by omega)) fun _ => ?_⟩
  refine ⟨_, rfl, _, rfl, p, COffice, dx, fs, _, rfl, h1, T.cl, T.n_written, l3, pl, xs, rfl, .inl (SqL.of h4), _, _, rfl, rfl, _, rfl, ite2 (fun q => absurd (dec_of q) (by omega)) fun _ => ?_⟩
  have hk : (n - 1).toNat < rows.length := by omega
  obtain ⟨v, ev, tv⟩ := tl.get (n - 1).toNat (issueD rows n r) (by
    unfold upI
    rw [List.getElem?_map, List.getElem?_map, List.getElem?_range hk]
    show some (issueD rows (1 + ((n - 1).toNat : Int)) r) = _
    rw [show (1 : Int) + ((n - 1).toNat : Int) = n by omega])
  have av : atI xs (n - 1) = some v := by
    rw [show n - 1 = (((n - 1).toNat : Nat) : Int) by omega]
    exact atI_nat ev
  exact ⟨_, rfl, p, COffice, dx, fs, _, rfl, h1, T.cl, T.n_written, l3, _, rfl, _, _, rfl, rfl, pl, xs, _, v, rfl, rfl, SqL.of h4, av, k v H (Same.refl _) tv⟩
def spRefuseW (K : PySem.W.Frag) (Of : OfP) : Sp := fun vs H Q _ => ∃ (p a : Addr) (fp : List Addr) (zs : List Str) (r : Int) (rows : List Row) (us : List V) (pr : Row), vs = [.ref p, .ref a] ∧ Of H p fp zs r rows ∧ SqP K H a us ∧ Paired (HandR K H) us pr ∧ GoodR zs pr ∧ pr.length ≤ 12 ∧ rows.length < 60 ∧ ∀ H', Same H H' → Q .non H'
theorem ok_refusew {COffice : Addr} (M : Bl mg) (T : TxOffice K mg COffice) (F : Fun K "refuse_writing" "Office.refuse_writing" sOffice_refuse_writing f fd) (Grefuse_bad_rows : Cal P w K mg base 2 "refuse_bad_rows" prefuse_bad_rows (spBadRows K)) :
    FnOk P w K mg base CX0 3 f fd pOffice_refuse_writing (spRefuseW K (OfD K COffice)) := by
  have nd := scOffice_refuse_writing.nd
  refine F.ok scOffice_refuse_writing (fun vs H Q E h => ?_) (fun cdv A outer s H vs Q E hr h => ?_)
  · obtain ⟨p, a, fp, zs, r, rows, us, pr, rfl, _⟩ := h
    rfl
  obtain ⟨p, a, fp, zs, r, rows, us, pr, rfl, of, ha, hp, g', l12, l60, k⟩ := h
  refine ⟨_, (pss_cons (ps_if (pt_cmpR op_ge (pe_callB call_len_seq rfl M.len PySem.boot_len (pa_cons (pe_fld (pv 0) rfl) pa_nil)) (pe_con_int rfl M.MOST_NUMBERS) (nomark _)) (pss_one ps_never) pss_nil) (pss_one (ps_expr (pe_cal Grefuse_bad_rows (rm hr) rfl (pa_cons (pe_fld (pv 0) rfl) (pa_cons (pv 1) pa_nil)))))), ?_⟩
  obtain ⟨dx, pn, pl, fs, xs, rfl, h1, h2, h3, h4, l1, l2, l3, lm, tl, r60, w12, g, r0, r1⟩ := of
  have lx : xs.length = rows.length := by rw [tl.length, List.length_map, upI_length]
  refine ⟨_, rfl, p, COffice, dx, fs, _, rfl, h1, T.cl, T.n_written, l3, pl, xs, rfl, .inl (SqL.of h4), _, _, rfl, rfl, _, rfl, ite2 (fun q => absurd (dec_of q) (by omega)) fun _ => ?_⟩
  exact ⟨_, rfl, p, COffice, dx, fs, _, rfl, h1, T.cl, T.n_names, l1, _, rfl, pn, a, zs, us, pr, rfl, .inr (SqT.of h3), ha, hp, g', l12, fun H' s => k H' s⟩
theorem issueD_more (rows : List Row) (x : Row) {n r : Int} (n1 : 1 ≤ n) (n2 : n ≤ rows.length) : issueD (rows ++ [x]) n r = issueD rows n r := by
  have e := issueD_take (rows := rows ++ [x]) (j := rows.length) (r := r) n1 n2
  rw [List.take_left] at e
  exact e.symm
theorem tailN_tsN (m : Nat) (r : Int) (r0 : 0 ≤ r) : tailN ((m : Int) + 1) r = tsN m r.toNat := by
  have falls : ∀ {l1 l2 : List Int}, l1.Pairwise (· > ·) → l2.Pairwise (· > ·) → (∀ x, x ∈ l1 ↔ x ∈ l2) → l1 = l2 := fun {l1 l2} p1 p2 h => by
    have e := rise_ext (l1 := l1.reverse) (l2 := l2.reverse) (List.pairwise_reverse.mpr p1) (List.pairwise_reverse.mpr p2) fun x => by rw [List.mem_reverse, List.mem_reverse]; exact h x
    have e2 := congrArg List.reverse e
    rw [List.reverse_reverse, List.reverse_reverse] at e2
    exact e2
  refine falls ((dnI_falls _ _).filter _) ((dnI_falls _ _).filter _) fun x => ?_
  rw [mem_tsN]
  unfold tailN
  rw [List.mem_filter, mem_dnI, decide_eq_true_eq]
  omega
theorem tailD_tsD (rows : List Row) (x : Row) (r : Int) (r0 : 0 ≤ r) : tailD (rows ++ [x]) ((rows.length : Int) + 1) r = tsD (rows.map nmsOf) r := by
  unfold tailD tsD
  rw [tailN_tsN _ _ r0, List.length_map]
  congr 1
  refine List.map_congr_left fun k hk => ?_
  have hk := mem_tsN.mp hk
  unfold tailP tsP rowAt
  have h1 : (k - 1).toNat < rows.length := by omega
  rw [List.getD_eq_getElem?_getD, List.getD_eq_getElem?_getD, List.getElem?_append_left h1, List.getElem?_map, List.getElem?_eq_getElem h1]
  rfl
theorem ok_ofwrite {COffice : Addr} (M : Bl mg) (T : TxOffice K mg COffice) (F : Fun K "write" "Office.write" sOffice_write f fd) (GOffice_refuse_writing : MCal P w K mg base 3 COffice "refuse_writing" pOffice_refuse_writing (spRefuseW K (OfD K COffice)))
    (Gnames_of_rows : Cal P w K mg base 1 "names_of_rows" pnames_of_rows spNmsOf) (Grows_in_order : Cal P w K mg base 1 "rows_in_order" prows_in_order (spInOrder K)) (Gtail_for : Cal P w K mg base 2 "tail_for" ptail_for (spTail K)) :
    FnOk P w K mg base CX0 4 f fd pOffice_write (spOfWrite K (OfD K COffice)) := by
  have nd := scOffice_write.nd
  refine F.ok scOffice_write (fun vs H Q E h => ?_) (fun cdv A outer s H vs Q E hr h => ?_)
  · obtain ⟨p, v, fp, zs, r, rows, pr, rfl, _⟩ := h
    rfl
  obtain ⟨p, v, fp, zs, r, rows, pr, rfl, of, ⟨a, us, rfl, ha, na, hp⟩, gr, l12, l60, k⟩ := h
  refine ⟨_, (pss_cons (ps_expr (pe_mcal GOffice_refuse_writing (rm hr) (pv 0) (pa_cons (pv 1) pa_nil))) (pss_cons (ps_set (i := 2) nd rfl (Or.inl rfl) (pe_op op_add (pe_callB call_len_seq rfl M.len PySem.boot_len (pa_cons (pe_fld (pv 0) rfl) pa_nil)) pe_int)) (pss_cons (ps_comp (i := 3) ["issue"] [] [] rfl nd rfl (Or.inl rfl) (comp_scope rfl (by decide +kernel) rfl (by decide +kernel) rfl rfl) (pi_list (pe_fld (pv 0) rfl)) (fun _ _ _ _ _ => (pg_name (i := 0) (show ((["issue"] : List PySem.Str) ++ ([] : List PySem.Str)).Nodup from by decide +kernel) rfl (Or.inl rfl))) (own_name (by decide)) mono_name (fun _ _ _ _ _ => pts_nil) (fun _ _ _ _ _ => (pe_cal Gnames_of_rows (rm hr) rfl (pa_cons (pe_ix (r := rIxT K) ix_tup (pv 0) pe_int (fun _ _ => rfl)) pa_nil)))) (pss_cons (ps_expr (pe_bm PySem.F.plainAttrs_list PySem.F.slot_list_append PySem.F.type_list_append mt_append (pe_fld (pv 0) rfl) (pa_cons (pe_tup (pa_cons (pv 2) (pa_cons (pe_cal Grows_in_order (rm hr) rfl (pa_cons (pe_fld (pv 0) rfl) (pa_cons (pv 1) pa_nil))) (pa_cons (pe_cal Gtail_for (rm hr) rfl (pa_cons (pv 3) (pa_cons (pe_fld (pv 0) rfl) pa_nil))) pa_nil)))) pa_nil))) (pss_one (ps_ret (pv 2))))))), ?_⟩
  have hp' := HandR.of hp
  obtain ⟨dx, pn, pl, fs, xs, rfl, h1, h2, h3, h4, l1, l2, l3, lm, tl, r60, w12, g, r0, r1⟩ := id of
  have lx : xs.length = rows.length := by rw [tl.length, List.length_map, upI_length]
  refine ⟨_, rfl, p, dx, fs, rfl, h1, lm _ (by simp), _, rfl, p, a, _, zs, r, rows, us, pr, rfl, of, ha, hp', gr, l12, l60, fun H1 s1 => ?_⟩
  refine ⟨_, rfl, p, COffice, dx, fs, _, rfl, s1 _ _ h1, T.cl, T.n_written, l3, pl, xs, rfl, .inl (SqL.of (s1 _ _ h4)), _, _, rfl, rfl, ?_⟩
  -- sets
  refine ⟨_, rfl, p, COffice, dx, fs, _, rfl, s1 _ _ h1, T.cl, T.n_written, l3, pl, rfl, ⟨_, SqL.of (s1 _ _ h4)⟩, ?_⟩
  refine comp_list (xs := xs) (fun i ys H' => Same H1 H' ∧ Tells H' (((rows.take i).map nmsOf).map nmsD) ys) ⟨Same.refl _, by rw [List.take_zero]; exact .nil⟩ (fun i ys H' hi hq => ?_) (fun i x ys H' hx hq => ?_) (fun ys H' hq => ?_)
  · obtain ⟨gg, t⟩ := hq
    refine ⟨SqL.of (gg _ _ (s1 _ _ h4)), small1000 ?_⟩
    rw [t.length, List.length_map, List.length_map, List.length_take]
    omega
  · obtain ⟨gg, t⟩ := hq
    have hi : i < rows.length := by
      have := (List.getElem?_eq_some_iff.mp hx).1
      omega
    obtain ⟨d, ed, td⟩ := tl.at i x hx
    unfold upI at ed
    rw [List.getElem?_map, List.getElem?_map, List.getElem?_range hi] at ed
    have ed' : issueD rows (1 + (i : Int)) r = d := Option.some.inj ed
    subst ed'
    have ew : rowAt rows (1 + (i : Int)) = rows[i] := by
      unfold rowAt
      rw [show (1 + (i : Int) - 1).toNat = i by omega, List.getD_eq_getElem?_getD, List.getElem?_eq_getElem hi]
      rfl
    obtain ⟨b, bs, rfl, eb, _, tb⟩ := tell_tup_inv td
    obtain ⟨x0, ur, rfl, t0, tb⟩ := tells_cons_inv tb
    obtain ⟨x1, ur, rfl, t1, tb⟩ := tells_cons_inv tb
    rw [ew] at t1
    obtain ⟨c, cs, rfl, ec, _, tc⟩ := tell_tup_inv t1
    refine ⟨_, rfl, b, _, _, _, rfl, rfl, SqT.of (gg _ _ (s1 _ _ eb)), atI_nat rfl, c, cs, rows[i], rfl, gg _ _ (s1 _ _ ec), Tells.keep (s1.trans gg) _ _ tc, w12 _ (List.getElem_mem hi), fun l H2 s2 e2 => ⟨gg.trans s2, ?_⟩⟩
    rw [take_snoc (List.getElem?_eq_getElem hi), List.map_append, List.map_append]
    refine Tells.snoc (Tells.keep s2 _ _ t) (tell_tup e2 ?_ (tells_strs _))
    have := w12 _ (List.getElem_mem hi)
    unfold nmsOf
    rw [List.length_map, List.length_map]
    omega
  obtain ⟨gg, t⟩ := hq
  rw [lx, List.take_length] at t
  intro D hD
  have s2 := s1.trans (gg.trans (same_new hD (.lst ys)))
  have eD : upd H' D (.lst ys) D = some (.lst ys) := upd_same
  have t2 := Tells.keep (same_new hD (.lst ys)) _ _ t
  generalize upd H' D (.lst ys) = H2 at s2 eD t2
  have l60' : ((rows.map nmsOf)).length ≤ 59 := by rw [List.length_map]; omega
  refine ⟨_, rfl, p, COffice, dx, fs, _, rfl, s2 _ _ h1, T.cl, T.n_written, l3, .inl ⟨rfl, _, SqL.of (s2 _ _ h4)⟩, ?_⟩
  refine ⟨_, rfl, _, rfl, p, COffice, dx, fs, _, rfl, s2 _ _ h1, T.cl, T.n_names, l1, _, rfl, pn, a, zs, us, pr, rfl, .inr (SqT.of (s2 _ _ h3)), g.hi, SqP.keep s2 ha, HandR.keep s2 hp', gr.nd, l12, fun v1 H3 s3 tv1 => ?_⟩
  have s23 := s2.trans s3
  refine ⟨_, rfl, _, rfl, p, COffice, dx, fs, _, rfl, s23 _ _ h1, T.cl, T.n_reach, l2, D, ys, rows.map nmsOf, r, rfl, .inl (SqL.of (s3 _ _ eD)), Tells.keep s3 _ _ t2, l60', ?_, r0, r1, fun v2 H4 s4 tv2 => ?_⟩
  · intro w' hw'
    obtain ⟨w0, hw0, rfl⟩ := List.mem_map.mp hw'
    have := w12 w0 hw0
    unfold nmsOf
    rw [List.length_map]
    exact this
  refine ⟨(by show 3 ≤ sizeLine; decide), fun q hq => ?_⟩
  have s24 := s23.trans (s4.trans (same_new hq (.tup [V.int ((xs.length : Int) + 1), v1, v2])))
  have eq' : upd H4 q (.tup [V.int ((xs.length : Int) + 1), v1, v2]) q = some (.tup [V.int ((xs.length : Int) + 1), v1, v2]) := upd_same
  have tv1' := Tell.keep (s4.trans (same_new hq (.tup [V.int ((xs.length : Int) + 1), v1, v2]))) _ _ tv1
  have tv2' := Tell.keep (same_new hq (.tup [V.int ((xs.length : Int) + 1), v1, v2])) _ _ tv2
  generalize upd H4 q (.tup [V.int ((xs.length : Int) + 1), v1, v2]) = H5 at s24 eq' tv1' tv2'
  refine ⟨pl, xs, .ref q, rfl, rfl, s24 _ _ h4, small1000 (by omega), ?_⟩
  refine ⟨_, rfl, ?_⟩
  have np : p ≠ pl := ne_of h1 h4 (fun z => by cases z)
  have nx : dx ≠ pl := ne_of h2 h4 (fun z => by cases z)
  have nn : pn ≠ pl := ne_of h3 h4 (fun z => by cases z)
  have h5 := s24 _ _ h4
  have e := k [p, dx, pl] (upd H5 pl (.lst (xs ++ [.ref q]))) (fun b hb => .inl hb) (fun b o e nb => by rw [upd_ne (fun z => nb (by rw [z]; simp))]; exact s24 _ _ e)
    ⟨dx, pn, pl, fs, _, rfl, by rw [upd_ne np]; exact s24 _ _ h1, by rw [upd_ne nx]; exact s24 _ _ h2, by rw [upd_ne nn]; exact s24 _ _ h3, upd_same, l1, l2, l3, lm, ?_, ?_, ?_, g, r0, r1⟩
  · rw [← lx] at e
    exact e
  · refine Tells.over h5 (fun _ z => by cases z) _ _ ?_
    rw [List.length_append, List.length_singleton, upI_succ, List.map_append]
    have e1 : (upI 1 rows.length).map (fun n => issueD (rows ++ [inOrder zs pr]) n r) = (upI 1 rows.length).map fun n => issueD rows n r := List.map_congr_left fun n hn => by
      have := mem_upI.mp hn
      exact issueD_more rows _ (by omega) (by omega)
    rw [e1]
    refine Tells.snoc (Tells.keep s24 _ _ tl) ?_
    have en : (1 : Int) + (rows.length : Int) = (rows.length : Int) + 1 := by omega
    have er : rowAt (rows ++ [inOrder zs pr]) ((rows.length : Int) + 1) = inOrder zs pr := by
      unfold rowAt
      rw [show ((rows.length : Int) + 1 - 1).toNat = rows.length by omega, List.getD_eq_getElem?_getD, List.getElem?_concat_length]
      rfl
    show Tell H5 (issueD (rows ++ [inOrder zs pr]) (1 + (rows.length : Int)) r) (.ref q)
    unfold issueD
    rw [en, er, tailD_tsD rows _ r r0]
    rw [lx] at eq'
    exact tell_tup eq' (by show 3 ≤ 1000000; decide) (.cons (tell_int _) (.cons tv1' (.cons tv2' .nil)))
  · rw [List.length_append, List.length_singleton]
    omega
  · intro w' hw'
    rcases List.mem_append.mp hw' with hw' | hw'
    · exact w12 w' hw'
    · rw [List.mem_singleton] at hw'
      rw [hw']
      exact Nat.le_trans (inOrder_len zs pr) g.hi
abbrev Deed := Option Int × Int
def deedV : Deed → List V
  | (none, n) => [.str "write", .int n]
  | (some r, n) => [.str "deliver", .int r, .int n]
def DeedAt (H : Hp) (u : V) (d : Deed) : Prop := ∃ b, u = .ref b ∧ H b = some (.tup (deedV d))
theorem deeds_len {H : Hp} {us : List V} {log : List Deed} (h : Paired (DeedAt H) us log) : us.length = log.length := by
  induction h with
  | nil => rfl
  | cons _ _ ih => rw [List.length_cons, List.length_cons, ih]
def gotL (log : List Deed) (rd : Int) : List Int := log.foldl (fun acc d => if d.1 = some rd then addN acc d.2 else acc) []
theorem gotL_snoc (log : List Deed) (d : Deed) (rd : Int) : gotL (log ++ [d]) rd = if d.1 = some rd then addN (gotL log rd) d.2 else gotL log rd := by
  unfold gotL
  rw [List.foldl_append]
  rfl
theorem mem_gotL {log : List Deed} {rd n : Int} : n ∈ gotL log rd ↔ ((some rd, n) : Deed) ∈ log := by
  have go : ∀ (log : List Deed) (acc : List Int), n ∈ log.foldl (fun acc d => if d.1 = some rd then addN acc d.2 else acc) acc ↔ n ∈ acc ∨ ((some rd, n) : Deed) ∈ log := by
    intro log
    induction log with
    | nil => intro acc; exact ⟨.inl, fun h => h.elim id fun q => (nomatch q)⟩
    | cons d log ih =>
      intro acc
      rw [List.foldl_cons, ih, List.mem_cons]
      obtain ⟨a, m⟩ := d
      by_cases c : a = some rd
      · subst c
        rw [if_pos rfl, mem_addN, or_assoc]
        exact or_congr Iff.rfl (or_congr ⟨fun e => by rw [e], fun e => congrArg Prod.snd e⟩ Iff.rfl)
      · rw [if_neg c]
        exact or_congr Iff.rfl ⟨.inr, fun h => h.elim (fun e => absurd (congrArg Prod.fst e).symm c) id⟩
  unfold gotL
  rw [go]
  exact ⟨fun h => h.elim (fun q => (nomatch q)) id, .inr⟩
abbrev BkP := Hp → Addr → List Addr → List Str → Int → Int → List Row → List Deed → Prop
structure BkOk (C : Addr) (ms : List Str) (Bk : BkP) : Prop where
  ins : ∀ {H p fp zs r k rows log}, Bk H p fp zs r k rows log → ∃ dx fs, H p = some (.ins C dx fs) ∧ ∀ m ∈ ms, fs.lookup m = none
  own : ∀ {H p fp zs r k rows log}, Bk H p fp zs r k rows log → ∀ b ∈ fp, ∃ o, H b = some o ∧ ∀ xs, o ≠ .tup xs
  keep : ∀ {H H' p fp gp zs r k rows log}, Bk H p fp zs r k rows log → SameBut gp H H' → (∀ b ∈ gp, b ∉ fp) → NoTup H gp → Bk H' p fp zs r k rows log
theorem BkOk.same {C : Addr} {ms : List Str} {Bk : BkP} (O : BkOk C ms Bk) {H H' : Hp} {p : Addr} {fp : List Addr} {zs : List Str} {r k : Int} {rows : List Row} {log : List Deed} (h : Bk H p fp zs r k rows log) (s : Same H H') : Bk H' p fp zs r k rows log :=
  O.keep (gp := []) h (.of s) (fun _ q => by cases q) fun _ q => by cases q
theorem BkOk.noTup {C : Addr} {ms : List Str} {Bk : BkP} (O : BkOk C ms Bk) {H : Hp} {p : Addr} {fp : List Addr} {zs : List Str} {r k : Int} {rows : List Row} {log : List Deed} (h : Bk H p fp zs r k rows log) : NoTup H fp := fun b m xs e => by
  obtain ⟨o, e1, n⟩ := O.own h b m
  rw [e1] at e
  exact n xs (Option.some.inj e)
def spBkInit (K : PySem.W.Frag) (C : Addr) (Bk : BkP) : Sp := fun vs H Q _ => ∃ (x dx pn : Addr) (zs : List Str) (r k : Int), vs = [.ref x, .ref pn, .int r, .int k] ∧ H x = some (.ins C dx []) ∧ dx ≠ x ∧ H dx = some (.own x) ∧ HdN K H pn zs ∧ GoodN zs ∧ 0 ≤ r ∧ r ≤ 10 ∧ 1 ≤ k ∧ k ≤ 10 ∧
  ∀ (fp : List Addr) (H' : Hp), (∀ b ∈ fp, b = x ∨ b = dx ∨ H b = none) → SameBut [x] H H' → Bk H' x fp zs r k [] [] → Q .non H'
def spBkWrite (K : PySem.W.Frag) (Bk : BkP) : Sp := fun vs H Q _ => ∃ (p : Addr) (v : V) (fp : List Addr) (zs : List Str) (r k : Int) (rows : List Row) (log : List Deed) (pr : Row), vs = [.ref p, v] ∧ Bk H p fp zs r k rows log ∧ Handed K H fp v pr ∧ GoodR zs pr ∧ pr.length ≤ 12 ∧ rows.length < 60 ∧ log.length < 400 ∧
  ∀ (fp' : List Addr) (H' : Hp), (∀ b ∈ fp', b ∈ fp ∨ H b = none) → SameBut fp H H' → Bk H' p fp' zs r k (rows ++ [inOrder zs pr]) (log ++ [(none, (rows.length : Int) + 1)]) → Q (.int (rows.length + 1)) H'
def spBkDeliver (Bk : BkP) : Sp := fun vs H Q _ => ∃ (p : Addr) (fp : List Addr) (zs : List Str) (r k : Int) (rows : List Row) (log : List Deed) (rd n : Int), vs = [.ref p, .int rd, .int n] ∧ Bk H p fp zs r k rows log ∧ 1 ≤ rd ∧ rd ≤ k ∧ 1 ≤ n ∧ n ≤ rows.length ∧ log.length < 400 ∧
  ∀ (H' : Hp), SameBut fp H H' → Bk H' p fp zs r k rows (log ++ [(some rd, n)]) → Q (.bl (decide (((some rd, n) : Deed) ∉ log))) H'
def spBkDeeds (Bk : BkP) : Sp := fun vs H Q _ => ∃ (p : Addr) (fp : List Addr) (zs : List Str) (r k : Int) (rows : List Row) (log : List Deed), vs = [.ref p] ∧ Bk H p fp zs r k rows log ∧ Q (.int log.length) H
def dedV : Option Nat → V
  | none => .non
  | some d => .int d
def spBkShelf (Bk : BkP) (Sh : ShP) : Sp := fun vs H Q _ => ∃ (p : Addr) (fp : List Addr) (zs : List Str) (r k : Int) (rows : List Row) (log : List Deed) (rd : Int) (o : Option Nat), vs = [.ref p, .int rd, dedV o] ∧ Bk H p fp zs r k rows log ∧ 1 ≤ rd ∧ rd ≤ k ∧ (∀ d, o = some d → d ≤ log.length) ∧
  ∀ (x : Addr) (fq : List Addr) (H' : Hp), (∀ b ∈ fq, H b = none) → Same H H' → Sh H' x fq zs r (fun n => issueD rows n r) (gotL (log.take (o.getD log.length)) rd) → Q (.ref x) H'
theorem DeedsAt.but {fp : List Addr} {H H' : Hp} {us : List V} {log : List Deed} (s : SameBut fp H H') (n : NoTup H fp) (h : Paired (DeedAt H) us log) : Paired (DeedAt H') us log :=
  L2.Paired.mapP h fun u d ⟨b, e, q⟩ => ⟨b, e, s _ _ q fun m => n b m _ q⟩
structure BkIn (K : PySem.W.Frag) (CB CO : Addr) (H : Hp) (p dx po pd : Addr) (fs : List (Str × V)) (fo : List Addr) (us : List V) (zs : List Str) (r k : Int) (rows : List Row) (log : List Deed) : Prop where
  hp : H p = some (.ins CB dx fs)
  hdx : H dx = some (.own p)
  of : OfD K CO H po fo zs r rows
  hd : H pd = some (.lst us)
  ds : Paired (DeedAt H) us log
  npo : p ∉ fo
  ndo : dx ∉ fo
  ndn : pd ∉ fo
  lo : fs.lookup ("office" : Str) = some (V.ref po)
  lr : fs.lookup ("readers" : Str) = some (V.int k)
  ld : fs.lookup ("done" : Str) = some (V.ref pd)
  lm : ∀ m ∈ (["refuse_unknown_reader", "refuse_further_deed", "write", "deliver", "latest", "issue", "deeds", "deed", "shelf"] : List Str), fs.lookup m = none
  l4 : log.length ≤ 400
  in1 : ∀ d ∈ log, 1 ≤ d.2 ∧ d.2 ≤ rows.length
  k1 : 1 ≤ k
  k10 : k ≤ 10
def BkD (K : PySem.W.Frag) (CB CO : Addr) : BkP := fun H p fp zs r k rows log => ∃ (dx po pd : Addr) (fs : List (Str × V)) (fo : List Addr) (us : List V), fp = p :: dx :: pd :: fo ∧ BkIn K CB CO H p dx po pd fs fo us zs r k rows log
theorem bkOk {K : PySem.W.Frag} {CB CO : Addr} : BkOk CB ["write", "deliver", "latest", "issue", "deeds", "deed", "shelf"] (BkD K CB CO) := by
  refine ⟨fun h => ?_, fun h b hb => ?_, fun h s out nt => ?_⟩
  · obtain ⟨dx, po, pd, fs, fo, us, rfl, B⟩ := h
    refine ⟨dx, fs, B.hp, fun m hm => B.lm m ?_⟩
    exact List.mem_cons_of_mem _ (List.mem_cons_of_mem _ hm)
  · obtain ⟨dx, po, pd, fs, fo, us, rfl, B⟩ := h
    rcases List.mem_cons.mp hb with rfl | hb
    · exact ⟨_, B.hp, fun xs z => by cases z⟩
    rcases List.mem_cons.mp hb with rfl | hb
    · exact ⟨_, B.hdx, fun xs z => by cases z⟩
    rcases List.mem_cons.mp hb with rfl | hb
    · exact ⟨_, B.hd, fun xs z => by cases z⟩
    exact ofOk.own B.of b hb
  · obtain ⟨dx, po, pd, fs, fo, us, rfl, B⟩ := h
    exact ⟨dx, po, pd, fs, fo, us, rfl, { B with
      hp := s _ _ B.hp fun m => out _ m (by simp)
      hdx := s _ _ B.hdx fun m => out _ m (by simp)
      of := ofOk.keep B.of s (fun b m z => out b m (by simp [z])) nt
      hd := s _ _ B.hd fun m => out _ m (by simp)
      ds := DeedsAt.but s nt B.ds }⟩
def spBadReaders : Sp := fun vs H Q _ => ∃ k : Int, vs = [.int k] ∧ 1 ≤ k ∧ k ≤ 10 ∧ Q .non H
theorem ok_badreaders (M : Bl mg) (F : Fun K "refuse_bad_readers" "refuse_bad_readers" srefuse_bad_readers f fd) : FnOk P w K mg base CX0 1 f fd prefuse_bad_readers spBadReaders := by
  have nd := screfuse_bad_readers.nd
  refine F.ok screfuse_bad_readers (fun vs H Q E h => ?_) (fun cdv A outer s H vs Q E hr h => ?_)
  · obtain ⟨r, rfl, _⟩ := h
    rfl
  · obtain ⟨r, rfl, r0, r1, k⟩ := h
    refine ⟨_, (pss_one (ps_if (PW.pt (pw_or (pt_cmpR op_lt (pv 0) pe_int (nomark _)) (pw_or1 (pt_cmpR op_gt (pv 0) (pe_con_int rfl M.MOST_READERS) (nomark _))))) (pss_one ps_never) pss_nil)), ?_⟩
    refine ⟨_, rfl, _, _, rfl, rfl, _, rfl, ite2 (fun q => absurd (dec_of q) (by omega)) fun _ => ?_⟩
    exact ⟨_, rfl, _, _, rfl, rfl, _, rfl, ite2 (fun q => absurd (dec_of q) (by omega)) fun _ => k⟩
def spUnkReader (Bk : BkP) : Sp := fun vs H Q _ => ∃ (p : Addr) (fp : List Addr) (zs : List Str) (r k : Int) (rows : List Row) (log : List Deed) (rd : Int), vs = [.ref p, .int rd] ∧ Bk H p fp zs r k rows log ∧ 1 ≤ rd ∧ rd ≤ k ∧ Q .non H
theorem ok_unkreader {CBook COffice : Addr} (M : Bl mg) (T : TxBook K mg CBook) (F : Fun K "refuse_unknown_reader" "Book.refuse_unknown_reader" sBook_refuse_unknown_reader f fd) : FnOk P w K mg base CX0 1 f fd pBook_refuse_unknown_reader (spUnkReader (BkD K CBook COffice)) := by
  have nd := scBook_refuse_unknown_reader.nd
  refine F.ok scBook_refuse_unknown_reader (fun vs H Q E h => ?_) (fun cdv A outer s H vs Q E hr h => ?_)
  · obtain ⟨p, fp, zs, r, k, rows, log, rd, rfl, _⟩ := h
    rfl
  obtain ⟨p, fp, zs, r, k, rows, log, rd, rfl, ⟨dx, po, pd, fs, fo, us, rfl, B⟩, r1, r2, q⟩ := h
  refine ⟨_, (pss_one (ps_if (PW.pt (pw_or (pt_cmpR op_lt (pv 1) pe_int (nomark _)) (pw_or1 (pt_cmpR op_gt (pv 1) (pe_fld (pv 0) rfl) (nomark _))))) (pss_one ps_never) pss_nil)), ?_⟩
  refine ⟨_, rfl, _, _, rfl, rfl, _, rfl, ite2 (fun q => absurd (dec_of q) (by omega)) fun _ => ?_⟩
  exact ⟨_, rfl, _, rfl, p, CBook, dx, fs, _, rfl, B.hp, T.cl, T.n_readers, B.lr, _, _, rfl, rfl, _, rfl, ite2 (fun q => absurd (dec_of q) (by omega)) fun _ => q⟩
def spFurther (Bk : BkP) : Sp := fun vs H Q _ => ∃ (p : Addr) (fp : List Addr) (zs : List Str) (r k : Int) (rows : List Row) (log : List Deed), vs = [.ref p] ∧ Bk H p fp zs r k rows log ∧ log.length < 400 ∧ Q .non H
theorem ok_further {CBook COffice : Addr} (M : Bl mg) (T : TxBook K mg CBook) (F : Fun K "refuse_further_deed" "Book.refuse_further_deed" sBook_refuse_further_deed f fd) : FnOk P w K mg base CX0 1 f fd pBook_refuse_further_deed (spFurther (BkD K CBook COffice)) := by
  have nd := scBook_refuse_further_deed.nd
  refine F.ok scBook_refuse_further_deed (fun vs H Q E h => ?_) (fun cdv A outer s H vs Q E hr h => ?_)
  · obtain ⟨p, fp, zs, r, k, rows, log, rfl, _⟩ := h
    rfl
  obtain ⟨p, fp, zs, r, k, rows, log, rfl, ⟨dx, po, pd, fs, fo, us, rfl, B⟩, l4, q⟩ := h
  refine ⟨_, (pss_one (ps_if (pt_cmpR op_ge (pe_callB call_len_seq rfl M.len PySem.boot_len (pa_cons (pe_fld (pv 0) rfl) pa_nil)) (pe_con_int rfl M.MOST_DEEDS) (nomark _)) (pss_one ps_never) pss_nil)), ?_⟩
  have lu := deeds_len B.ds
  exact ⟨_, rfl, p, CBook, dx, fs, _, rfl, B.hp, T.cl, T.n_done, B.ld, pd, us, rfl, .inl (SqL.of B.hd), _, _, rfl, rfl, _, rfl, ite2 (fun q => absurd (dec_of q) (by omega)) fun _ => q⟩
theorem ok_bkdeeds {CBook COffice : Addr} (M : Bl mg) (T : TxBook K mg CBook) (F : Fun K "deeds" "Book.deeds" sBook_deeds f fd) : FnOk P w K mg base CX0 1 f fd pBook_deeds (spBkDeeds (BkD K CBook COffice)) := by
  have nd := scBook_deeds.nd
  refine F.ok scBook_deeds (fun vs H Q E h => ?_) (fun cdv A outer s H vs Q E hr h => ?_)
  · obtain ⟨p, fp, zs, r, k, rows, log, rfl, _⟩ := h
    rfl
  obtain ⟨p, fp, zs, r, k, rows, log, rfl, ⟨dx, po, pd, fs, fo, us, rfl, B⟩, q⟩ := h
  refine ⟨_, (pss_one (ps_ret (pe_callB call_len_seq rfl M.len PySem.boot_len (pa_cons (pe_fld (pv 0) rfl) pa_nil)))), ?_⟩
  have lu := deeds_len B.ds
  refine ⟨_, rfl, p, CBook, dx, fs, _, rfl, B.hp, T.cl, T.n_done, B.ld, pd, us, rfl, .inl (SqL.of B.hd), ?_⟩
  rw [lu]
  exact q
theorem ok_bkinit {CBook COffice : Addr} (M : Bl mg) (T : TxBook K mg CBook) (F : Fun K "__init__" "Book.__init__" sBook___init__ f fd) (GOffice : Mkr P w K mg base 3 COffice "Office" pOffice___init__ (spOfInit K COffice (OfD K COffice)))
    (Grefuse_bad_readers : Cal P w K mg base 1 "refuse_bad_readers" prefuse_bad_readers spBadReaders) : FnOk P w K mg base CX0 6 f fd pBook___init__ (spBkInit K CBook (BkD K CBook COffice)) := by
  have nd := scBook___init__.nd
  refine F.ok scBook___init__ (fun vs H Q E h => ?_) (fun cdv A outer s H vs Q E hr h => ?_)
  · obtain ⟨x, dx, pn, zs, r, k, rfl, _⟩ := h
    rfl
  obtain ⟨x, dx, pn, zs, r, k, rfl, hx, ne, hdx, hn, g, r0, r1, k1, k10, q⟩ := h
  refine ⟨_, (pss_cons (ps_fld (pv 0) (pe_mkr GOffice (rm hr) rfl (pa_cons (pv 1) (pa_cons (pv 2) pa_nil))) rfl) (pss_cons (ps_expr (pe_cal Grefuse_bad_readers (rm hr) rfl (pa_cons (pv 3) pa_nil))) (pss_cons (ps_fld (pv 0) (pv 3) rfl) (pss_one (ps_fld (pv 0) (pe_lst pa_nil) rfl))))), ?_⟩
  refine ⟨_, rfl, _, rfl, fun po dxo nx ndx neo => ?_⟩
  have m1 := same_made (C := COffice) (Same.refl H) nx ndx
  refine ⟨po, dxo, pn, zs, r, rfl, upd_same, neo, by rw [upd_ne neo, upd_same], HdN.keep m1 hn, g, r0, r1, fun fo H1 ff sb of => ⟨rfl, ?_⟩⟩
  have s1 : Same H H1 := same_init sb m1 nx
  have f1 : ∀ b ∈ fo, H b = none := fun b hb => fresh_init m1 nx ndx (ff b hb)
  refine ⟨_, rfl, x, CBook, dx, [], rfl, s1 _ _ hx, T.cl, T.n_office, by decide, ?_⟩
  have z1 := length_putF "office" (.ref po) []
  have z2 := length_putF "readers" (.int k) (putF "office" (.ref po) [])
  have z0 : ([] : List (Str × V)).length = 0 := rfl
  refine ⟨_, rfl, k, rfl, k1, k10, ?_⟩
  refine ⟨_, rfl, _, rfl, x, CBook, dx, _, rfl, upd_same, T.cl, T.n_readers, (by omega), ?_⟩
  rw [upd_upd]
  refine ⟨(by show 0 ≤ sizeLine; decide), fun pd hd => ?_⟩
  have nxp : x ≠ pd := ne_of_none upd_same hd
  have dfr : H1 pd = none := by rw [upd_ne (Ne.symm nxp)] at hd; exact hd
  have ndd : dx ≠ pd := ne_of_none (s1 _ _ hdx) dfr
  have out : ∀ {b : Addr} {o : HO}, H b = some o → b ∉ fo := fun e m => by rw [f1 _ m] at e; cases e
  refine ⟨_, rfl, x, CBook, dx, _, rfl, (by rw [upd_ne nxp, upd_same]), T.cl, T.n_done, (by omega), ?_⟩
  have sx : SameBut [x] H1 (upd (upd (upd H1 x (.ins CBook dx (putF "readers" (.int k) (putF "office" (.ref po) [])))) pd (.lst [])) x (.ins CBook dx (putF "done" (.ref pd) (putF "readers" (.int k) (putF "office" (.ref po) []))))) := fun b o e nb => by
    rw [List.mem_singleton] at nb
    rw [upd_ne nb, upd_ne (ne_of_none e dfr), upd_ne nb]
    exact e
  refine q (x :: dx :: pd :: fo) _ (fun b hb => ?_) (fun b o e nb => sx b o (s1 _ _ e) nb) ⟨dx, po, pd, _, fo, [], rfl, ⟨upd_same, ?_, ?_, ?_, .nil, out hx, out hdx, ?_, ?_, ?_, ?_, ?_, by decide, fun _ q => (nomatch q), k1, k10⟩⟩
  · rcases List.mem_cons.mp hb with rfl | hb
    · exact .inl rfl
    rcases List.mem_cons.mp hb with rfl | hb
    · exact .inr (.inl rfl)
    rcases List.mem_cons.mp hb with rfl | hb
    · exact .inr (.inr (s1.free dfr))
    · exact .inr (.inr (f1 b hb))
  · exact sx _ _ (s1 _ _ hdx) (by rw [List.mem_singleton]; exact ne)
  · refine ofOk.keep of sx (fun b m => ?_) fun b m xs e => ?_
    · rw [List.mem_singleton.mp m]
      exact out hx
    · rw [List.mem_singleton.mp m, s1 _ _ hx] at e
      cases e
  · rw [upd_ne (Ne.symm nxp), upd_same]
  · intro m
    obtain ⟨o, e, _⟩ := ofOk.own of pd m
    rw [dfr] at e
    cases e
  · rw [lookup_putF, if_neg (by decide +kernel), lookup_putF, if_neg (by decide +kernel), lookup_putF, if_pos rfl]
  · rw [lookup_putF, if_neg (by decide +kernel), lookup_putF, if_pos rfl]
  · rw [lookup_putF, if_pos rfl]
  · intro m hm
    simp only [List.mem_cons, List.not_mem_nil, or_false] at hm
    rcases hm with rfl | rfl | rfl | rfl | rfl | rfl | rfl | rfl | rfl <;> rw [lookup_putF, if_neg (by decide +kernel), lookup_putF, if_neg (by decide +kernel), lookup_putF, if_neg (by decide +kernel)] <;> rfl
theorem bk_add {K : PySem.W.Frag} {CB CO : Addr} {H H1 : Hp} {p dx po pd t : Addr} {fs : List (Str × V)} {fo fo' : List Addr} {us : List V} {zs : List Str} {r k : Int} {rows rows' : List Row} {log : List Deed} {d : Deed} (B : BkIn K CB CO H p dx po pd fs fo us zs r k rows log)
    (sb : SameBut fo H H1) (of : OfD K CO H1 po fo' zs r rows') (ff : ∀ b ∈ fo', b ∈ fo ∨ H b = none) (ht : H1 t = some (.tup (deedV d))) (hl : rows.length ≤ rows'.length) (hd1 : 1 ≤ d.2 ∧ d.2 ≤ rows'.length) (l4 : log.length < 400) :
    SameBut (p :: dx :: pd :: fo) H (upd H1 pd (.lst (us ++ [.ref t]))) ∧ BkD K CB CO (upd H1 pd (.lst (us ++ [.ref t]))) p (p :: dx :: pd :: fo') zs r k rows' (log ++ [d]) := by
  have ntf : NoTup H fo := ofOk.noTup B.of
  have hd' := sb _ _ B.hd B.ndn
  have out : ∀ {b : Addr} {o : HO}, H b = some o → b ∉ fo → b ∉ fo' := fun e n m => (ff _ m).elim n fun z => by rw [z] at e; cases e
  have s2 : SameBut [pd] H1 (upd H1 pd (.lst (us ++ [.ref t]))) := fun b o e nb => by
    rw [List.mem_singleton] at nb
    rw [upd_ne nb]
    exact e
  have nt2 : NoTup H1 [pd] := fun b m xs e => by
    rw [List.mem_singleton.mp m, hd'] at e
    cases e
  have npd : p ≠ pd := ne_of B.hp B.hd (fun z => by cases z)
  have ndd : dx ≠ pd := ne_of B.hdx B.hd (fun z => by cases z)
  refine ⟨fun b o e nb => ?_, dx, po, pd, fs, fo', us ++ [.ref t], rfl, { B with
    hp := by rw [upd_ne npd]; exact sb _ _ B.hp B.npo
    hdx := by rw [upd_ne ndd]; exact sb _ _ B.hdx B.ndo
    of := ofOk.keep of s2 (fun b m => by rw [List.mem_singleton.mp m]; exact out B.hd B.ndn) nt2
    hd := upd_same
    ds := ?_
    npo := out B.hp B.npo
    ndo := out B.hdx B.ndo
    ndn := out B.hd B.ndn
    l4 := by rw [List.length_append]; exact l4
    in1 := fun x hx => ?_ }⟩
  · rw [List.mem_cons, List.mem_cons, List.mem_cons, not_or, not_or, not_or] at nb
    rw [upd_ne nb.2.2.1]
    exact sb _ _ e nb.2.2.2
  · exact Paired.snoc (DeedsAt.but s2 nt2 (DeedsAt.but sb ntf B.ds)) ⟨t, rfl, s2 _ _ ht fun m => nt2 t m _ ht⟩
  · rcases List.mem_append.mp hx with hx | hx
    · have := B.in1 x hx
      omega
    · rw [List.mem_singleton.mp hx]
      exact hd1
theorem ok_bkwrite {CBook COffice : Addr} (M : Bl mg) (T : TxBook K mg CBook) (F : Fun K "write" "Book.write" sBook_write f fd) (GOffice_refuse_writing : MCal P w K mg base 3 COffice "refuse_writing" pOffice_refuse_writing (spRefuseW K (OfD K COffice)))
    (GOffice_write : MCal P w K mg base 4 COffice "write" pOffice_write (spOfWrite K (OfD K COffice))) (GBook_refuse_further_deed : MCal P w K mg base 1 CBook "refuse_further_deed" pBook_refuse_further_deed (spFurther (BkD K CBook COffice))) :
    FnOk P w K mg base CX0 5 f fd pBook_write (spBkWrite K (BkD K CBook COffice)) := by
  have nd := scBook_write.nd
  refine F.ok scBook_write (fun vs H Q E h => ?_) (fun cdv A outer s H vs Q E hr h => ?_)
  · obtain ⟨p, v, fp, zs, r, k, rows, log, pr, rfl, _⟩ := h
    rfl
  obtain ⟨p, v, fp, zs, r, k, rows, log, pr, rfl, bk, ⟨a, vs, rfl, ha, na, hpr⟩, gr, l12, l60, l4, q⟩ := h
  refine ⟨_, (pss_cons (ps_expr (pe_mcal GOffice_refuse_writing (rm hr) (pe_fld (pv 0) rfl) (pa_cons (pv 1) pa_nil))) (pss_cons (ps_expr (pe_mcal0 GBook_refuse_further_deed (rm hr) (pv 0))) (pss_cons (ps_set (i := 2) nd rfl (Or.inl rfl) (pe_mcal GOffice_write (rm hr) (pe_fld (pv 0) rfl) (pa_cons (pv 1) pa_nil))) (pss_cons (ps_expr (pe_bm PySem.F.plainAttrs_list PySem.F.slot_list_append PySem.F.type_list_append mt_append (pe_fld (pv 0) rfl) (pa_cons (pe_tup (pa_cons (pe_con_str rfl M.WRITE) (pa_cons (pv 2) pa_nil))) pa_nil))) (pss_one (ps_ret (pv 2))))))), ?_⟩
  obtain ⟨dx, po, pd, fs, fo, us, rfl, B⟩ := id bk
  have no : ∀ {b : Addr}, b ∉ p :: dx :: pd :: fo → b ∉ fo := fun n m => n (by simp [m])
  have hand : Paired (HandRow K H fo) vs pr := L2.Paired.mapP hpr fun u x ⟨b, e, q, n⟩ => ⟨b, e, q, no n⟩
  obtain ⟨dxo, pno, plo, fso, xso, efo, h1, h2, h3, h4, l1, l2, l3, lmo, _⟩ := id B.of
  refine ⟨_, rfl, p, CBook, dx, fs, _, rfl, B.hp, T.cl, T.n_office, B.lo, po, dxo, fso, rfl, h1, lmo _ (by simp), _, rfl, po, a, fo, zs, r, rows, vs, pr, rfl, B.of, ha, HandR.of hand, gr, l12, l60, fun H1 s1 => ?_⟩
  refine ⟨_, rfl, p, dx, fs, rfl, s1 _ _ B.hp, B.lm _ (by simp), p, _, zs, r, k, rows, log, rfl, bkOk.same bk s1, l4, ?_⟩
  have ha1 : Handed K H1 fo (.ref a) pr := ⟨a, vs, rfl, SqP.keep s1 ha, no na, L2.Paired.mapP hand fun u x ⟨b, e, q, n⟩ => ⟨b, e, q.imp (fun z => s1.seq z) fun z => same_tup s1 z, n⟩⟩
  refine ⟨_, rfl, p, CBook, dx, fs, _, rfl, s1 _ _ B.hp, T.cl, T.n_office, B.lo, po, dxo, fso, rfl, s1 _ _ h1, lmo _ (by simp), _, rfl, po, .ref a, fo, zs, r, rows, pr, rfl, ofOk.same B.of s1, ha1, gr, l12, l60, fun fo' H2 ff sb of2 => ?_⟩
  have sb2 : SameBut fo H H2 := fun b o e n => sb _ _ (s1 _ _ e) n
  have lu := deeds_len B.ds
  refine ⟨_, rfl, p, CBook, dx, fs, _, rfl, sb2 _ _ B.hp B.npo, T.cl, T.n_done, B.ld, .inl ⟨rfl, _, SqL.of (sb2 _ _ B.hd B.ndn)⟩, ?_⟩
  refine ⟨_, rfl, (by show 2 ≤ sizeLine; decide), fun t ht => ⟨pd, us, _, rfl, rfl, same_new ht _ _ _ (sb2 _ _ B.hd B.ndn), small1000 (by omega), ?_⟩⟩
  have s3 := same_new ht (.tup [V.str "write", V.int ((rows.length : Int) + 1)])
  have et : upd H2 t (.tup [V.str "write", V.int ((rows.length : Int) + 1)]) t = some (.tup (deedV (none, (rows.length : Int) + 1))) := upd_same
  have sb3 : SameBut fo H (upd H2 t (.tup [V.str "write", V.int ((rows.length : Int) + 1)])) := fun b o e n => s3 _ _ (sb2 _ _ e n)
  have of3 := ofOk.same of2 s3
  obtain ⟨g1, g2⟩ := bk_add B sb3 of3 (fun b m => (ff b m).imp id fun z => s1.free z) et (by rw [List.length_append]; omega) ⟨by show (1 : Int) ≤ rows.length + 1; omega, by show ((rows.length : Int) + 1) ≤ _; rw [List.length_append]; exact Int.le_refl _⟩ l4
  refine ⟨_, rfl, q (p :: dx :: pd :: fo') _ (fun b hb => ?_) g1 g2⟩
  rcases List.mem_cons.mp hb with rfl | hb
  · exact .inl (by simp)
  rcases List.mem_cons.mp hb with rfl | hb
  · exact .inl (by simp)
  rcases List.mem_cons.mp hb with rfl | hb
  · exact .inl (by simp)
  exact (ff b hb).imp (fun z => by simp [z]) fun z => s1.free z
theorem deed_is (d : Deed) (rd n : Int) : tupEq (deedV d) (deedV (some rd, n)) = decide (d = (some rd, n)) := by
  obtain ⟨a, m⟩ := d
  cases a with
  | none =>
    rw [decide_eq_false (fun e => by cases e)]
    rfl
  | some r =>
    show (eqV (.str "deliver") (.str "deliver") && (eqV (.int r) (.int rd) && (eqV (.int m) (.int n) && true))) = _
    rw [eqV_refl rfl, Bool.true_and, Bool.and_true, Bool.eq_iff_iff, Bool.and_eq_true, decide_eq_true_eq]
    show (r == rd) = true ∧ (m == n) = true ↔ _
    rw [beq_iff_eq, beq_iff_eq]
    exact ⟨fun h => by rw [h.1, h.2], fun h => by cases h; exact ⟨rfl, rfl⟩⟩
theorem deed_any (log : List Deed) (rd n : Int) : (!(log.map deedV).any fun ys => tupEq ys (deedV (some rd, n))) = decide (((some rd, n) : Deed) ∉ log) := by
  rw [List.any_map, Bool.eq_iff_iff, Bool.not_eq_true', decide_eq_true_eq, List.any_eq_false]
  refine ⟨fun h m => h _ m ?_, fun h d hd e => h ?_⟩
  · show tupEq _ _ = true
    rw [deed_is]
    exact decide_eq_true rfl
  · have e' : tupEq (deedV d) (deedV (some rd, n)) = true := e
    rw [deed_is] at e'
    rw [← of_decide_eq_true e']
    exact hd
theorem deed_flat (d : Deed) : (deedV d).all flatV = true := by
  obtain ⟨a, m⟩ := d
  cases a <;> rfl
theorem ok_bkdeliver {CBook COffice : Addr} (M : Bl mg) (T : TxBook K mg CBook) (F : Fun K "deliver" "Book.deliver" sBook_deliver f fd) (GOffice_issue : MCal P w K mg base 1 COffice "issue" pOffice_issue (spOfIssue (OfD K COffice)))
    (GBook_refuse_unknown_reader : MCal P w K mg base 1 CBook "refuse_unknown_reader" pBook_refuse_unknown_reader (spUnkReader (BkD K CBook COffice))) (GBook_refuse_further_deed : MCal P w K mg base 1 CBook "refuse_further_deed" pBook_refuse_further_deed (spFurther (BkD K CBook COffice))) :
    FnOk P w K mg base CX0 5 f fd pBook_deliver (spBkDeliver (BkD K CBook COffice)) := by
  have nd := scBook_deliver.nd
  refine F.ok scBook_deliver (fun vs H Q E h => ?_) (fun cdv A outer s H vs Q E hr h => ?_)
  · obtain ⟨p, fp, zs, r, k, rows, log, rd, n, rfl, _⟩ := h
    rfl
  obtain ⟨p, fp, zs, r, k, rows, log, rd, n, rfl, bk, r1, r2, n1, n2, l4, q⟩ := h
  have hu := hu_of hr
  refine ⟨_, (pss_cons (ps_expr (pe_mcal GOffice_issue (rm hr) (pe_fld (pv 0) rfl) (pa_cons (pv 2) pa_nil))) (pss_cons (ps_expr (pe_mcal GBook_refuse_unknown_reader (rm hr) (pv 0) (pa_cons (pv 1) pa_nil))) (pss_cons (ps_expr (pe_mcal0 GBook_refuse_further_deed (rm hr) (pv 0))) (pss_cons (ps_set (i := 3) nd rfl (Or.inl rfl) (pe_tup (pa_cons (pe_con_str rfl M.DELIVER) (pa_cons (pv 1) (pa_cons (pv 2) pa_nil))))) (pss_cons (ps_set (i := 4) nd rfl (Or.inl rfl) (pe_cmpR (op_notInT hu) (pv 3) (pe_fld (pv 0) rfl) (by with_unfolding_all rfl))) (pss_cons (ps_expr (pe_bm PySem.F.plainAttrs_list PySem.F.slot_list_append PySem.F.type_list_append mt_append (pe_fld (pv 0) rfl) (pa_cons (pv 3) pa_nil))) (pss_one (ps_ret (pv 4))))))))), ?_⟩
  obtain ⟨dx, po, pd, fs, fo, us, rfl, B⟩ := id bk
  obtain ⟨dxo, pno, plo, fso, xso, efo, h1, h2, h3, h4, l1, l2, l3, lmo, _⟩ := id B.of
  refine ⟨_, rfl, p, CBook, dx, fs, _, rfl, B.hp, T.cl, T.n_office, B.lo, po, dxo, fso, rfl, h1, lmo _ (by simp), _, rfl, po, fo, zs, r, rows, n, rfl, B.of, n1, n2, fun v H1 s1 _ => ?_⟩
  have bk1 := bkOk.same bk s1
  refine ⟨_, rfl, p, dx, fs, rfl, s1 _ _ B.hp, B.lm _ (by simp), _, rfl, p, _, zs, r, k, rows, log, rd, rfl, bk1, r1, r2, ?_⟩
  refine ⟨_, rfl, p, dx, fs, rfl, s1 _ _ B.hp, B.lm _ (by simp), p, _, zs, r, k, rows, log, rfl, bk1, l4, ?_⟩
  refine ⟨_, rfl, _, rfl, (by show 3 ≤ sizeLine; decide), fun t ht => ?_⟩
  have s2 := s1.trans (same_new ht (.tup [V.str "deliver", V.int rd, V.int n]))
  have et : upd H1 t (.tup [V.str "deliver", V.int rd, V.int n]) t = some (.tup (deedV (some rd, n))) := upd_same
  generalize upd H1 t (.tup [V.str "deliver", V.int rd, V.int n]) = H2 at s2 et
  have lu := deeds_len B.ds
  have prs : Paired (fun u ys => ∃ b, u = .ref b ∧ SqT K H2 b ys ∧ ys.all flatV = true) us (log.map deedV) := by
    have go : ∀ {us : List V} {log : List Deed}, Paired (DeedAt H) us log → Paired (fun u ys => ∃ b, u = .ref b ∧ SqT K H2 b ys ∧ ys.all flatV = true) us (log.map deedV) := by
      intro us log h
      induction h with
      | nil => exact .nil
      | cons h t ih =>
        obtain ⟨b, e, q⟩ := h
        exact .cons ⟨b, e, SqT.of (s2 _ _ q), deed_flat _⟩ ih
    exact go B.ds
  refine ⟨_, rfl, _, rfl, p, CBook, dx, fs, _, rfl, s2 _ _ B.hp, T.cl, T.n_done, B.ld, t, pd, _, us, _, rfl, rfl, SqT.of et, deed_flat _, SqL.of (s2 _ _ B.hd), prs, ?_⟩
  rw [deed_any]
  refine ⟨_, rfl, p, CBook, dx, fs, _, rfl, s2 _ _ B.hp, T.cl, T.n_done, B.ld, .inl ⟨rfl, _, SqL.of (s2 _ _ B.hd)⟩, _, rfl, pd, us, _, rfl, rfl, s2 _ _ B.hd, small1000 (by omega), ?_⟩
  obtain ⟨g1, g2⟩ := bk_add B (.of s2) (ofOk.same B.of s2) (fun b m => .inl m) et (Nat.le_refl _) ⟨n1, n2⟩ l4
  exact ⟨_, rfl, q _ g1 g2⟩
theorem cut_tk {xs : List V} {k : Nat} (h : k ≤ xs.length) : cutV xs none (some (k : Int)) = xs.take k := by
  unfold cutV
  have e1 : HT.sIx xs.length 0 none = 0 := rfl
  have e2 : HT.sIx xs.length xs.length (some (k : Int)) = k := by
    rw [HT.sIx_nat, Nat.min_eq_left h]
  rw [e1, e2, List.drop_zero, Nat.sub_zero]
theorem deeds_at {H : Hp} : ∀ {us : List V} {log : List Deed}, Paired (DeedAt H) us log → ∀ (c i : Nat) (u : V), (us.take c)[i]? = some u → ∃ d, (log.take c)[i]? = some d ∧ DeedAt H u d := by
  intro us log h
  induction h with
  | nil => intro c i u e; rw [List.take_nil] at e; simp at e
  | cons h t ih =>
    intro c i u e
    cases c with
    | zero => simp at e
    | succ c =>
      rw [List.take_succ_cons] at e ⊢
      cases i with
      | zero =>
        simp at e
        subst e
        exact ⟨_, rfl, h⟩
      | succ i =>
        obtain ⟨d, q1, q2⟩ := ih c i u (by simpa using e)
        exact ⟨d, by simpa using q1, q2⟩
theorem deed_two (d : Deed) (rd : Int) : tupEq ((deedV d).take 2) [.str "deliver", .int rd] = decide (d.1 = some rd) := by
  obtain ⟨a, m⟩ := d
  cases a with
  | none =>
    rw [decide_eq_false (fun e => by cases e)]
    rfl
  | some r =>
    show (eqV (.str "deliver") (.str "deliver") && (eqV (.int r) (.int rd) && true)) = _
    rw [eqV_refl rfl, Bool.true_and, Bool.and_true, Bool.eq_iff_iff, decide_eq_true_eq]
    show (r == rd) = true ↔ _
    rw [beq_iff_eq]
    exact ⟨fun h => by rw [h], fun h => Option.some.inj h⟩
theorem ok_bkshelf {CBook COffice CShelf T0 : Addr} {items : Array Value} (M : Bl mg) (T : TxBook K mg CBook) (TO : TxOffice K mg COffice) (F : FunD K "shelf" "Book.shelf" sBook_shelf f fd T0 items) (GOffice_issue : MCal P w K mg base 1 COffice "issue" pOffice_issue (spOfIssue (OfD K COffice)))
    (GBook_refuse_unknown_reader : MCal P w K mg base 1 CBook "refuse_unknown_reader" pBook_refuse_unknown_reader (spUnkReader (BkD K CBook COffice))) (GShelf : Mkr P w K mg base 3 CShelf "Shelf" pShelf___init__ (spShInit K CShelf (ShD K CShelf)))
    (GShelf_put : MCal P w K mg base 1 CShelf "put" pShelf_put (spPut (ShD K CShelf))) : FnOk P w K mg base CX0 6 f fd pBook_shelf (spBkShelf (BkD K CBook COffice) (ShD K CShelf)) := by
  have nd := scBook_shelf.nd
  refine F.ok scBook_shelf (fun vs H Q E h => ?_) (fun cdv A outer s H vs Q E hr h => ?_)
  · obtain ⟨p, fp, zs, r, k, rows, log, rd, o, rfl, _⟩ := h
    rfl
  obtain ⟨p, fp, zs, r, k, rows, log, rd, o, rfl, bk, r1, r2, od, q⟩ := h
  refine ⟨_, (pss_cons (ps_set (i := 3) nd rfl (Or.inl rfl) (pe_ifExp (pt_cmp (pc_isN (pv 2))) (pe_callB call_len_seq rfl M.len PySem.boot_len (pa_cons (pe_fld (pv 0) rfl) pa_nil)) (pv 2))) (pss_cons (ps_if (PW.pt (pw_or (pt_cmpR op_lt (pv 3) pe_int (nomark _)) (pw_or1 (pt_cmpR op_gt (pv 3) (pe_callB call_len_seq rfl M.len PySem.boot_len (pa_cons (pe_fld (pv 0) rfl) pa_nil)) (nomark _))))) (pss_one ps_never) pss_nil) (pss_cons (ps_expr (pe_mcal GBook_refuse_unknown_reader (rm hr) (pv 0) (pa_cons (pv 1) pa_nil))) (pss_cons (ps_set (i := 4) nd rfl (Or.inl rfl) (pe_mkr GShelf (rm hr) rfl (pa_cons (pe_fld (pe_fld (pv 0) rfl) rfl) (pa_cons (pe_fld (pe_fld (pv 0) rfl) rfl) pa_nil)))) (pss_cons (ps_for PassesOwn.never rfl (pi_list (pe_slice sl_list (pe_fld (pv 0) rfl) po_none (po_some (pv 3)))) (pg_name (i := 5) nd rfl (Or.inl rfl)) (pss_one (ps_if (pt_cmpR (op_eqT hr.units0) (pe_slice sl_tupA (pv 5) po_none (po_some pe_int)) (pe_tup (pa_cons (pe_con_str rfl M.DELIVER) (pa_cons (pv 1) pa_nil))) (nomark _)) (pss_one (ps_expr (pe_mcal GShelf_put (rm hr) (pv 4) (pa_cons (pe_mcal GOffice_issue (rm hr) (pe_fld (pv 0) rfl) (pa_cons (pe_ix ix_tup (pv 5) pe_int (fun _ _ => rfl)) pa_nil)) pa_nil)))) pss_nil))) (pss_one (ps_ret (pv 4)))))))), ?_⟩
  obtain ⟨dx, po, pd, fs, fo, us, rfl, B⟩ := id bk
  obtain ⟨dxo, pno, plo, fso, xso, efo, h1, h2, h3, h4, l1, l2, l3, lmo, _, _, _, g, r0, r10⟩ := id B.of
  have lu := deeds_len B.ds
  have cle : o.getD log.length ≤ log.length := by
    cases o with
    | none => exact Nat.le_refl _
    | some d => exact od d rfl
  have beh : ∀ (Qk : VK), Qk (.int (o.getD log.length : Nat)) H → tIf (tB (tIsN (tVar 2))) (tCB (fun xs H_1 Q => ∃ p ys, xs = [V.ref p] ∧ (SqL K H_1 p ys ∨ SqT K H_1 p ys) ∧ Q (V.int ys.length) H_1) (tCons (tFld K (tVar 0) "done") tNil)) (tVar 2) (start ["self", "reader", "deed", "behind", "told", "past"] [.ref p, .int rd, dedV o]) H Qk := fun Qk hq => by
    cases o with
    | none =>
      refine ⟨_, rfl, _, rfl, iteT ⟨_, rfl, p, CBook, dx, fs, _, rfl, B.hp, T.cl, T.n_done, B.ld, pd, us, rfl, .inl (SqL.of B.hd), ?_⟩⟩
      rw [lu]
      exact hq
    | some d => exact ⟨_, rfl, _, rfl, iteF ⟨_, rfl, hq⟩⟩
  refine beh _ ?_
  generalize o.getD log.length = c at cle q
  clear beh
  refine ⟨_, rfl, _, _, rfl, rfl, _, rfl, ite2 (fun q => absurd (dec_of q) (by omega)) fun _ => ⟨_, rfl, _, rfl, p, CBook, dx, fs, _, rfl, B.hp, T.cl, T.n_done, B.ld, pd, us, rfl, .inl (SqL.of B.hd), _, _, rfl, rfl, _, rfl, ite2 (fun q => absurd (dec_of q) (by omega)) fun _ => ?_⟩⟩
  refine ⟨_, rfl, p, dx, fs, rfl, B.hp, B.lm _ (by simp), _, rfl, p, _, zs, r, k, rows, log, rd, rfl, bk, r1, r2, ?_⟩
  refine ⟨_, rfl, p, CBook, dx, fs, _, rfl, B.hp, T.cl, T.n_office, B.lo, po, COffice, dxo, fso, _, rfl, h1, TO.cl, TO.n_names, l1, _, rfl, p, CBook, dx, fs, _, rfl, B.hp, T.cl, T.n_office, B.lo, po, COffice, dxo, fso, _, rfl, h1, TO.cl, TO.n_reach, l2, fun x dxs nx ndx ne => ?_⟩
  have m1 := same_made (C := CShelf) (Same.refl H) nx ndx
  refine ⟨x, dxs, pno, zs, r, rfl, upd_same, ne, by rw [upd_ne ne, upd_same], .inr (m1 _ _ h3), g, r0, r10, fun fq H1 ff sb sh => ⟨rfl, ?_⟩⟩
  have s1 : Same H H1 := same_init sb m1 nx
  have f1 : ∀ b ∈ fq, H b = none := fun b hb => fresh_init m1 nx ndx (ff b hb)
  have sh1 : ShD K CShelf H1 x fq zs r (fun n => issueD rows n r) [] := sh _
  refine ⟨_, rfl, p, CBook, dx, fs, _, rfl, s1 _ _ B.hp, T.cl, T.n_done, B.ld, _, rfl, _, rfl, pd, _, rfl, SqL.of (s1 _ _ B.hd), fun lq hlq => ?_⟩
  rw [cut_tk (by omega)]
  have s2 := s1.trans (same_new hlq (.lst (us.take c)))
  have e2 : upd H1 lq (.lst (us.take c)) lq = some (.lst (us.take c)) := upd_same
  have sh2 := shOk.same sh1 (same_new hlq (.lst (us.take c)))
  have f2 : lq ∉ fq := fun m => by
    obtain ⟨o, e, _⟩ := shOk.own sh1 lq m
    rw [hlq] at e
    cases e
  generalize upd H1 lq (.lst (us.take c)) = H2 at s2 e2 sh2
  have nt2 : NoTup H2 fq := shOk.noTup sh2
  have out : ∀ {b : Addr} {o : HO}, H b = some o → b ∉ fq := fun e m => by rw [f1 _ m] at e; cases e
  have lt : (us.take c).length = c := by rw [List.length_take]; omega
  refine ⟨lq, rfl, ⟨_, SqL.of e2⟩, for_list (K := K) (a := lq) (xs := us.take c) (fun i σ H' => ∃ (fq' : List Addr) (o5 : Option V), SameBut fq H2 H' ∧ ShD K CShelf H' x fq' zs r (fun n => issueD rows n r) (gotL ((log.take c).take i) rd) ∧ (∀ b ∈ fq', b ∈ fq ∨ H2 b = none) ∧
      σ = [some (.ref p), some (.int rd), some (dedV o), some (.int c), some (.ref x), o5]) ⟨fq, none, .of (Same.refl _), sh2, fun b m => .inl m, rfl⟩ (fun i σ H' _ ⟨_, _, bt, _⟩ => SqL.of (bt _ _ e2 f2)) ?_ ?_⟩
  · rintro i u σ H' hi ⟨fq', o5, bt, shx, ffx, rfl⟩
    obtain ⟨d, ed, b, rfl, hb⟩ := deeds_at B.ds c i u hi
    have sk : ∀ {b : Addr} {o : HO}, H b = some o → H' b = some o := fun e => bt _ _ (s2 _ _ e) (out e)
    have hin := B.in1 d (List.mem_of_mem_take (List.mem_of_getElem? ed))
    have l2d : 2 ≤ (deedV d).length := by
      obtain ⟨a, m⟩ := d
      cases a
      · show 2 ≤ 2; decide
      · show 2 ≤ 3; decide
    have cut : ∀ (Qk : VK), (∀ (t1 : Addr) (G : Hp), Same H' G → G t1 = some (.tup ((deedV d).take 2)) → Qk (.ref t1) G) → rSlA K (.ref b) none (some 2) H' Qk := fun Qk hq => by
      refine ⟨b, _, rfl, SqT.of (sk hb), fun hw => hq b H' (Same.refl _) ?_, fun _ t1 ht1 => hq t1 _ (same_new ht1 _) ?_⟩
      · rw [sk hb, List.take_of_length_le]
        have := hw.2
        have e : HT.sIx (deedV d).length (deedV d).length (some (2 : Int)) = min 2 (deedV d).length := HT.sIx_nat _ _ 2
        omega
      · rw [upd_same]
        exact congrArg (fun z => some (HO.tup z)) (cut_tk (k := 2) l2d)
    refine ⟨_, rfl, _, rfl, cut _ fun t1 G sG e1' => ⟨_, rfl, (by show 2 ≤ sizeLine; decide), fun t2 ht2 => ?_⟩⟩
    have s3 := sG.trans (same_new ht2 (.tup [V.str "deliver", V.int rd]))
    have e3 : upd G t2 (.tup [V.str "deliver", V.int rd]) t1 = some (.tup ((deedV d).take 2)) := same_new ht2 _ _ _ e1'
    have e4 : upd G t2 (.tup [V.str "deliver", V.int rd]) t2 = some (.tup [V.str "deliver", V.int rd]) := upd_same
    generalize upd G t2 (.tup [V.str "deliver", V.int rd]) = H3 at s3 e3 e4
    have fl : ((deedV d).take 2).all flatV = true := by
      obtain ⟨a, m⟩ := d
      cases a <;> rfl
    refine ⟨t1, t2, _, _, rfl, rfl, SqT.of e3, SqT.of e4, fl, rfl, _, rfl, ?_⟩
    rw [deed_two, take_snoc ed, gotL_snoc]
    have sh3 := shOk.same shx s3
    refine ite2 (fun cc => ?_) (fun cc => ?_)
    · have c' := dec_of cc
      rw [if_pos c']
      obtain ⟨a, n⟩ := d
      have ea : a = some rd := c'
      subst ea
      obtain ⟨d1, g1, z1, w1⟩ := shOk.ins sh3
      refine ⟨_, rfl, x, d1, g1, rfl, z1, w1 _ (by simp), _, rfl, p, CBook, dx, fs, _, rfl, s3 _ _ (sk B.hp), T.cl, T.n_office, B.lo, po, dxo, fso, rfl, s3 _ _ (sk h1), lmo _ (by simp), _, rfl, b, _, 2, _, rfl, rfl, SqT.of (s3 _ _ (sk hb)), rfl, po, fo, zs, r, rows, n, rfl, ?_, hin.1, hin.2, fun v H4 s4 tv => ?_⟩
      · exact ofOk.same (ofOk.keep (ofOk.same B.of s2) bt (fun b m z => by
          obtain ⟨o, e, _⟩ := ofOk.own B.of b z
          exact out e m) nt2) s3
      have n60 : rows.length ≤ 60 := by
        obtain ⟨_, _, _, _, _, _, _, _, _, _, _, _, _, _, _, n60, _⟩ := B.of
        exact n60
      refine ⟨x, v, fq', zs, r, _, _, n, _, rfl, shOk.same sh3 s4, tv, rfl, hin.1, by have := hin.2; have : n ≤ rows.length := this; omega, fun fq2 H5 ff5 sb5 sh5 => ?_⟩
      have g4 := s3.trans s4
      exact ⟨fq2, _, (fun b o e nb => sb5 b o (g4 _ _ (bt b o e nb)) fun m => (ffx b m).elim nb fun z => by rw [e] at z; cases z), sh5, ff_next bt ffx g4 ff5, rfl⟩
    · have c' := dec_no cc
      rw [if_neg c']
      exact ⟨fq', _, fun b o e nb => s3 _ _ (bt b o e nb), sh3, ffx, rfl⟩
  · rintro σ H' ⟨fq', o5, bt, shx, ffx, rfl⟩
    rw [lt, List.take_take, Nat.min_self] at shx
    exact ⟨_, rfl, q x fq' H' (fun b m => (ffx b m).elim (f1 b) fun z => s2.free z) (fun b o e => bt _ _ (s2 _ _ e) (out e)) shx⟩
def HT (H : Hp) (u : V) (p : Str × Int) : Prop := ∃ b, u = .ref b ∧ H b = some (.tup [.str p.1, .int p.2])
def wlog (n : Nat) : List Deed := (upI 1 n).map fun k => (none, k)
theorem wlog_succ (i : Nat) : wlog (i + 1) = wlog i ++ [(none, (i : Int) + 1)] := by
  unfold wlog
  rw [upI_succ, List.map_append, Int.add_comm]
  rfl
theorem wlog_len (i : Nat) : (wlog i).length = i := by
  unfold wlog
  rw [List.length_map, upI_length]
theorem riseL_mem {ns ms : List Int} (h : ∀ x, x ∈ ns ↔ x ∈ ms) (hall : ∀ x ∈ ms, 1 ≤ x ∧ x ≤ 60) (x : Int) : x ∈ riseL ns ↔ x ∈ ms := by
  rw [mem_riseL, h]
  exact ⟨fun q => q.2, fun q => ⟨by have := hall x q; omega, q⟩⟩
theorem tells_ht {H : Hp} : ∀ {w : Row} {xs : List V}, Tells H (w.map pairD) xs → Paired (HT H) xs w
  | [], xs, h => by
    rw [tells_nil_inv h]
    exact .nil
  | p :: w, xs, h => by
    obtain ⟨x, r, rfl, t, h'⟩ := tells_cons_inv h
    obtain ⟨a, us, rfl, ea, _, tu⟩ := tell_tup_inv (show Tell H (.tup [.str p.1, .int p.2]) x from t)
    obtain ⟨y1, r1, rfl, t1, h3⟩ := tells_cons_inv tu
    obtain ⟨y2, r2, rfl, t2, h4⟩ := tells_cons_inv h3
    have := tells_nil_inv h4
    subst this
    rw [tell_str_inv t1, tell_int_inv t2] at ea
    exact .cons ⟨a, rfl, ea⟩ (tells_ht h')
def spKnow (Sh : ShP) : Sp := fun vs H Q _ => ∃ (x : Addr) (fp : List Addr) (nm : List Str) (r : Int) (rows : List Row) (had : List Int), vs = [.ref x] ∧ Sh H x fp nm r (fun n => issueD rows n r) had ∧ GoodN nm ∧ Rws nm rows ∧ rows.length ≤ 60 ∧ (∀ n ∈ had, 1 ≤ n ∧ n ≤ rows.length) ∧ 0 ≤ r ∧ r ≤ 10 ∧
  ∀ (v : V) (H' : Hp), Same H H' → Tell H' (tableD nm (riseL had) rows r) v → Q v H'
theorem deep_table (nm : List Str) (ns : List Int) (rows : List Row) (r : Int) : (tableD nm ns rows r).deep ≤ 2 := deep_tup fun d hd => by
  obtain ⟨z, _, rfl⟩ := List.mem_map.mp hd
  unfold tabD
  refine deep_tup fun d hd => ?_
  rcases List.mem_cons.mp hd with rfl | hd
  · exact deep_str _ _
  rcases List.mem_cons.mp hd with rfl | hd
  · exact deep_str _ _
  rcases List.mem_cons.mp hd with rfl | hd
  · exact deep_int _ _
  rw [List.mem_singleton.mp hd]
  cases heldO (riseL ns) rows z with
  | none => unfold heldV DV.deep; exact Nat.zero_le _
  | some p => exact deep_int _ _
def spGapsOf (Sh : ShP) : Sp := fun vs H Q _ => ∃ (x : Addr) (fp : List Addr) (nm : List Str) (r : Int) (rows : List Row) (had : List Int), vs = [.ref x] ∧ Sh H x fp nm r (fun n => issueD rows n r) had ∧ GoodN nm ∧ Rws nm rows ∧ rows.length ≤ 60 ∧ (∀ n ∈ had, 1 ≤ n ∧ n ≤ rows.length) ∧ 0 ≤ r ∧ r ≤ 10 ∧
  ∀ (v : V) (H' : Hp), Same H H' → Tell H' (.tup (gapsL (riseL had) rows r)) v → Q v H'
def spLack (K : PySem.W.Frag) : Sp := fun vs H Q _ => ∃ (p : Addr) (ns : List Int), vs = [.ref p] ∧ SqI K H p ns ∧ (∀ x ∈ ns, 1 ≤ x ∧ x ≤ 60) ∧
  ∀ (l : Addr) (H' : Hp), H l = none → Same H H' → H' l = some (.tup ((lackL ns).map V.int)) → Q (.ref l) H'
theorem ok_lack (M : Bl mg) (F : Fun K "lacking_numbers" "lacking_numbers" slacking_numbers f fd) : FnOk P w K mg base CX0 1 f fd placking_numbers (spLack K) := by
  have nd := sclacking_numbers.nd
  refine F.ok sclacking_numbers (fun vs H Q E h => ?_) (fun cdv A outer s H vs Q E hr h => ?_)
  · obtain ⟨p, ns, rfl, _⟩ := h
    rfl
  obtain ⟨p, ns, rfl, hS, hall, q⟩ := h
  refine ⟨_, (pss_cons (ps_set (i := 1) nd rfl (Or.inl rfl) (pe_maxD rfl rfl M.max (pa_cons (pv 0) pa_nil) (pk_cons pe_int pk_nil))) (pss_one (ps_ret (pe_callTy call_tuple_of rfl M.tuple PyProof.Rows.boot_tuple (pa_cons (pe_comp ["number"] ["had"] [0] rfl (comp_scope rfl (by decide +kernel) rfl (by decide +kernel) rfl rfl) (pi_range2 rfl M.range (pa_cons pe_int (pa_cons (pe_op op_add (pv 1) pe_int) pa_nil))) (fun _ _ _ _ _ => (pg_name (i := 0) (show ((["number"] : List PySem.Str) ++ (["had"] : List PySem.Str)).Nodup from by decide +kernel) rfl (Or.inl rfl))) (own_name (by decide)) mono_name (fun _ _ _ _ _ => (pts_one (pt_cmpR (r := rIn K true) op_notIn_seq (pv 0) (pv 1) (by with_unfolding_all rfl)))) (fun _ _ _ _ _ => (pv 0))) pa_nil))))), ?_⟩
  refine ⟨_, rfl, p, ns, .int 0, rfl, rfl, hS, fun hnil => ?_, fun m hm top => ?_⟩
  · subst hnil
    refine ⟨_, rfl, _, _, rfl, rfl, _, _, rfl, ⟨by decide, by decide, by decide, by decide⟩, ?_⟩
    refine comp_up (lo := 1) (n := 0) (fun _ => true) (fun k => .int k) (by decide) (fun k ys N k0 k1 hN => by omega) ?_
    intro D hD
    refine ⟨D, _, rfl, .inl ⟨SqL.of upd_same, fun l hl => ?_⟩⟩
    have h1 : H l = none := (same_new hD _).free hl
    refine q l _ h1 ((same_new hD _).trans (same_new hl _)) ?_
    rw [upd_same, lackL_nil]
    rfl
  · have hm' := hall m hm
    refine ⟨_, rfl, _, _, rfl, rfl, _, _, rfl, ⟨by decide, by decide, by omega, by omega⟩, ?_⟩
    refine comp_up (lo := 1) (n := (m + 1 - 1).toNat) (fun k => !decide (k ∈ ns)) (fun k => .int k) (by omega) (fun k ys N k0 k1 hN => ?_) ?_
    · refine ⟨_, rfl, _, rfl, p, _, rfl, hS, rfl, flat_ints ns, _, rfl, ?_⟩
      rw [if_pos rfl, inV_ints]
      refine ite2 (fun c => ?_) (fun c => ?_)
      · rw [if_pos c] at hN
        exact ⟨_, rfl, hN⟩
      · rw [if_neg c] at hN
        exact hN
    · intro D hD
      refine ⟨D, _, rfl, .inl ⟨SqL.of upd_same, fun l hl => ?_⟩⟩
      have h1 : H l = none := (same_new hD _).free hl
      refine q l _ h1 ((same_new hD _).trans (same_new hl _)) ?_
      rw [upd_same]
      have e : keptV (fun k => !decide (k ∈ ns)) (fun k => V.int k) (upI 1 (m + 1 - 1).toNat) = (lackL ns).map V.int := by
        unfold keptV
        rw [lackL_max hm hall top]
      rw [e]
def spTeller (K : PySem.W.Frag) : Sp := fun vs H Q _ => ∃ (p : Addr) (ns : List Int) (n r : Int), vs = [.ref p, .int n, .int r] ∧ SqI K H p ns ∧ (∀ x ∈ ns, 1 ≤ x ∧ x ≤ 60) ∧ ns.length ≤ 900 ∧
  ∀ H', Same H H' → Q (.int (tellV ns n r)) H'
theorem ok_teller (M : Bl mg) (F : Fun K "teller_of" "teller_of" steller_of f fd) : FnOk P w K mg base CX0 1 f fd pteller_of (spTeller K) := by
  have nd := scteller_of.nd
  refine F.ok scteller_of (fun vs H Q E h => ?_) (fun cdv A outer s H vs Q E hr h => ?_)
  · obtain ⟨p, ns, n, r, rfl, _⟩ := h
    rfl
  obtain ⟨p, ns, n, r, rfl, hS, hall, hlen, q⟩ := h
  have fin : ∀ D, H D = none → (keptV (fun y => decide (n < y) && decide (y - r ≤ n)) (fun y => V.int y) ns = (ns.filter fun y => decide (n < y) && decide (y - r ≤ n)).map V.int) := fun _ _ => rfl
  have none' : (ns.filter fun y => decide (n < y) && decide (y - r ≤ n)) = [] → tellV ns n r = 0 := fun e => tellV_none fun y hy h1 h2 => by
    have : y ∈ ns.filter fun y => decide (n < y) && decide (y - r ≤ n) := List.mem_filter.mpr ⟨hy, by rw [decide_eq_true h1, decide_eq_true h2]; rfl⟩
    rw [e] at this
    cases this
  have some' : ∀ m, m ∈ (ns.filter fun y => decide (n < y) && decide (y - r ≤ n)) → (∀ y ∈ (ns.filter fun y => decide (n < y) && decide (y - r ≤ n)), m ≤ y) → tellV ns n r = m := fun m hm hl => by
    rw [List.mem_filter, Bool.and_eq_true, decide_eq_true_eq, decide_eq_true_eq] at hm
    exact tellV_of hall hm.1 hm.2.1 hm.2.2 fun y hy h1 h2 => hl y (List.mem_filter.mpr ⟨hy, by rw [decide_eq_true h1, decide_eq_true h2]; rfl⟩)
  rcases hS with hS | hS
  · refine ⟨_, (pss_cons (ps_comp (i := 3) ["above"] ["number", "reach"] [1, 2] rfl nd rfl (Or.inl rfl) (comp_scope rfl (by decide +kernel) rfl (by decide +kernel) rfl rfl) (pi_list (pv 0)) (fun _ _ _ _ _ => (pg_name (i := 0) (show ((["above"] : List PySem.Str) ++ (["number", "reach"] : List PySem.Str)).Nodup from by decide +kernel) rfl (Or.inl rfl))) (own_name (by decide)) mono_name (fun _ _ _ _ _ => (pts_one (PW.pt (pw_and (pt_cmpR op_gt (pv 0) (pv 1) (nomark _)) (pw_and1 (pt_cmpR op_le (pe_op op_sub (pv 0) (pv 2)) (pv 1) (nomark _))))))) (fun _ _ _ _ _ => (pv 0))) (pss_one (ps_ret (pe_minD rfl rfl M.min (pa_cons (pv 3) pa_nil) (pk_cons pe_int pk_nil))))), ?_⟩
    refine ⟨_, rfl, p, rfl, ⟨_, hS⟩, ?_⟩
    refine comp_ints (ns := ns) (fun y => decide (n < y) && decide (y - r ≤ n)) (fun y => .int y) hS (by omega) (fun y ys N hy hN => ?_) (fun D hD => ?_)
    · refine ⟨_, rfl, _, rfl, _, _, rfl, rfl, _, rfl, ?_⟩
      refine ite2 (fun c => ?_) (fun c => ?_)
      · refine ⟨_, rfl, _, rfl, _, _, rfl, rfl, _, rfl, _, _, rfl, rfl, _, rfl, ?_⟩
        rw [c, Bool.true_and] at hN
        refine ite2 (fun c2 => ?_) (fun c2 => ?_)
        · rw [if_pos c2] at hN
          exact ⟨_, rfl, hN⟩
        · rw [if_neg c2] at hN
          exact hN
      · rw [Bool.eq_false_iff.mpr c, Bool.false_and] at hN
        exact iteF hN
    · refine ⟨_, rfl, D, _, .int 0, rfl, rfl, .inl (SqL.of upd_same), fun e => ?_, fun m hm hl => ?_⟩
      · have := q _ (same_new hD (.lst (keptV (fun y => decide (n < y) && decide (y - r ≤ n)) (fun y => V.int y) ns)))
        rw [none' e] at this
        exact this
      · have := q _ (same_new hD (.lst (keptV (fun y => decide (n < y) && decide (y - r ≤ n)) (fun y => V.int y) ns)))
        rw [some' m hm hl] at this
        exact this
  · refine ⟨_, (pss_cons (ps_comp (i := 3) ["above"] ["number", "reach"] [1, 2] rfl nd rfl (Or.inl rfl) (comp_scope rfl (by decide +kernel) rfl (by decide +kernel) rfl rfl) (pi_tup (pv 0)) (fun _ _ _ _ _ => (pg_name (i := 0) (show ((["above"] : List PySem.Str) ++ (["number", "reach"] : List PySem.Str)).Nodup from by decide +kernel) rfl (Or.inl rfl))) (own_name (by decide)) mono_name (fun _ _ _ _ _ => (pts_one (PW.pt (pw_and (pt_cmpR op_gt (pv 0) (pv 1) (nomark _)) (pw_and1 (pt_cmpR op_le (pe_op op_sub (pv 0) (pv 2)) (pv 1) (nomark _))))))) (fun _ _ _ _ _ => (pv 0))) (pss_one (ps_ret (pe_minD rfl rfl M.min (pa_cons (pv 3) pa_nil) (pk_cons pe_int pk_nil))))), ?_⟩
    refine ⟨_, rfl, p, rfl, ⟨_, hS⟩, ?_⟩
    refine comp_intsT (ns := ns) (fun y => decide (n < y) && decide (y - r ≤ n)) (fun y => .int y) hS (by omega) (fun y ys N hy hN => ?_) (fun D hD => ?_)
    · refine ⟨_, rfl, _, rfl, _, _, rfl, rfl, _, rfl, ?_⟩
      refine ite2 (fun c => ?_) (fun c => ?_)
      · refine ⟨_, rfl, _, rfl, _, _, rfl, rfl, _, rfl, _, _, rfl, rfl, _, rfl, ?_⟩
        rw [c, Bool.true_and] at hN
        refine ite2 (fun c2 => ?_) (fun c2 => ?_)
        · rw [if_pos c2] at hN
          exact ⟨_, rfl, hN⟩
        · rw [if_neg c2] at hN
          exact hN
      · rw [Bool.eq_false_iff.mpr c, Bool.false_and] at hN
        exact iteF hN
    · refine ⟨_, rfl, D, _, .int 0, rfl, rfl, .inl (SqL.of upd_same), fun e => ?_, fun m hm hl => ?_⟩
      · have := q _ (same_new hD (.lst (keptV (fun y => decide (n < y) && decide (y - r ≤ n)) (fun y => V.int y) ns)))
        rw [none' e] at this
        exact this
      · have := q _ (same_new hD (.lst (keptV (fun y => decide (n < y) && decide (y - r ≤ n)) (fun y => V.int y) ns)))
        rw [some' m hm hl] at this
        exact this
def Pr (H : Hp) (u : V) (p : Int × Int) : Prop := ∃ a, u = .ref a ∧ H a = some (.tup [.int p.1, .int p.2])
theorem Pr.keep {H H' : Hp} (s : Same H H') {u : V} {p : Int × Int} (h : Pr H u p) : Pr H' u p := let ⟨a, e, q⟩ := h; ⟨a, e, s _ _ q⟩
abbrev Prs (H : Hp) : List V → List (Int × Int) → Prop := Paired (Pr H)
theorem Prs.keep {H H' : Hp} (s : Same H H') : ∀ {xs : List V} {ps : List (Int × Int)}, Prs H xs ps → Prs H' xs ps
  | _, _, .nil => .nil
  | _, _, .cons r t => .cons (r.keep s) (Prs.keep s t)
theorem Prs.get {H : Hp} : ∀ {xs : List V} {ps : List (Int × Int)}, Prs H xs ps → ∀ (i : Nat) (u : V), xs[i]? = some u → ∃ p, ps[i]? = some p ∧ Pr H u p
  | _, _, .nil, i, u, e => by simp at e
  | _, _, .cons r t, 0, u, e => by
    simp at e
    subst e
    exact ⟨_, rfl, r⟩
  | _, _, .cons r t, i + 1, u, e => by
    obtain ⟨p, h1, h2⟩ := Prs.get t i u (by simpa using e)
    exact ⟨p, by simpa using h1, h2⟩
theorem Prs.snoc {H : Hp} {xs : List V} {ps : List (Int × Int)} {u : V} {p : Int × Int} (h : Prs H xs ps) (q : Pr H u p) : Prs H (xs ++ [u]) (ps ++ [p]) := Paired.snoc h q
theorem Prs.len {H : Hp} : ∀ {xs : List V} {ps : List (Int × Int)}, Prs H xs ps → xs.length = ps.length
  | _, _, .nil => rfl
  | _, _, .cons _ t => by rw [List.length_cons, List.length_cons, Prs.len t]
def lwtL (ns : List Int) (r : Int) : List (Int × Int) := (lackL ns).map fun n => (n, tellV ns n r)
def darkF (ns : List Int) (r : Int) : List Int := ((lwtL ns r).filter fun q => decide (q.2 = 0)).map Prod.fst
def spLwt (K : PySem.W.Frag) : Sp := fun vs H Q _ => ∃ (p : Addr) (ns : List Int) (r : Int), vs = [.ref p, .int r] ∧ SqI K H p ns ∧ (∀ x ∈ ns, 1 ≤ x ∧ x ≤ 60) ∧ ns.length ≤ 900 ∧
  ∀ (l : Addr) (xs : List V) (H' : Hp), Same H H' → H' l = some (.tup xs) → Prs H' xs (lwtL ns r) → Q (.ref l) H'
theorem ok_lwt (M : Bl mg) (F : Fun K "lacking_with_tellers" "lacking_with_tellers" slacking_with_tellers f fd) (Glacking_numbers : Cal P w K mg base 1 "lacking_numbers" placking_numbers (spLack K))
    (Gteller_of : Cal P w K mg base 1 "teller_of" pteller_of (spTeller K)) : FnOk P w K mg base CX0 2 f fd placking_with_tellers (spLwt K) := by
  have nd := sclacking_with_tellers.nd
  refine F.ok sclacking_with_tellers (fun vs H Q E h => ?_) (fun cdv A outer s H vs Q E hr h => ?_)
  · obtain ⟨p, ns, r, rfl, _⟩ := h
    rfl
  obtain ⟨p, ns, r, rfl, hS, hall, hlen, q⟩ := h
  refine ⟨_, (pss_one (ps_ret (pe_callTy call_tuple_of rfl M.tuple PyProof.Rows.boot_tuple (pa_cons (pe_comp ["number"] ["had", "reach"] [0, 1] rfl (comp_scope rfl (by decide +kernel) rfl (by decide +kernel) rfl rfl) (pi_tup (pe_cal Glacking_numbers (rm hr) rfl (pa_cons (pv 0) pa_nil))) (fun _ _ _ _ _ => (pg_name (i := 0) (show ((["number"] : List PySem.Str) ++ (["had", "reach"] : List PySem.Str)).Nodup from by decide +kernel) rfl (Or.inl rfl))) (own_name (by decide)) mono_name (fun _ _ _ _ _ => pts_nil) (fun _ _ _ _ _ => (pe_tup (pa_cons (pv 0) (pa_cons (pe_cal Gteller_of (rm hr) rfl (pa_cons (pv 1) (pa_cons (pv 0) (pa_cons (pv 2) pa_nil)))) pa_nil))))) pa_nil)))), ?_⟩
  refine ⟨_, rfl, p, ns, rfl, hS, hall, fun lt H1 nlt s1 e1 => ⟨lt, rfl, ⟨_, SqT.of e1⟩, ?_⟩⟩
  have ll := lackL_len ns
  refine comp_tup (xs := (lackL ns).map V.int) (fun i ys H' => Same H1 H' ∧ Prs H' ys (((lackL ns).take i).map fun n => (n, tellV ns n r))) ⟨Same.refl _, .nil⟩ (fun i ys H' hi hp => ?_) (fun i x ys H' hx hp => ?_) (fun ys H' hp => ?_)
  · obtain ⟨g, pr⟩ := hp
    refine ⟨SqT.of (g _ _ e1), small1000 ?_⟩
    rw [pr.len, List.length_map, List.length_take]
    omega
  · obtain ⟨g, pr⟩ := hp
    rw [List.getElem?_map] at hx
    cases e : (lackL ns)[i]? with
    | none => rw [e] at hx; cases hx
    | some n =>
      rw [e] at hx
      cases hx
      refine ⟨_, rfl, _, rfl, _, rfl, _, rfl, p, ns, n, r, rfl, SqI.keep (s1.trans g) hS, hall, hlen, fun H2 g2 => ⟨(by show 2 ≤ sizeLine; decide), fun t ht => ?_⟩⟩
      refine ⟨g.trans (g2.trans (same_new ht _)), ?_⟩
      rw [take_snoc e, List.map_append]
      exact Prs.snoc (pr.keep (g2.trans (same_new ht _))) ⟨t, rfl, upd_same⟩
  · obtain ⟨g, pr⟩ := hp
    rw [List.length_map, List.take_length] at pr
    intro D hD
    refine ⟨D, _, rfl, .inl ⟨SqL.of upd_same, fun l hl => ?_⟩⟩
    exact q l ys _ (s1.trans (g.trans ((same_new hD _).trans (same_new hl _)))) upd_same (pr.keep ((same_new hD _).trans (same_new hl _)))
def spDark (K : PySem.W.Frag) : Sp := fun vs H Q _ => ∃ (p : Addr) (ns : List Int) (r : Int), vs = [.ref p, .int r] ∧ SqI K H p ns ∧ (∀ x ∈ ns, 1 ≤ x ∧ x ≤ 60) ∧ ns.length ≤ 900 ∧
  ∀ (l : Addr) (H' : Hp), Same H H' → H' l = some (.tup ((darkF ns r).map V.int)) → Q (.ref l) H'
theorem lwt_len (ns : List Int) (r : Int) : (lwtL ns r).length ≤ 60 := by
  unfold lwtL
  rw [List.length_map]
  exact lackL_len ns
theorem ok_dark (M : Bl mg) (F : Fun K "dark_numbers" "dark_numbers" sdark_numbers f fd) (Glacking_with_tellers : Cal P w K mg base 2 "lacking_with_tellers" placking_with_tellers (spLwt K)) : FnOk P w K mg base CX0 3 f fd pdark_numbers (spDark K) := by
  have nd := scdark_numbers.nd
  refine F.ok scdark_numbers (fun vs H Q E h => ?_) (fun cdv A outer s H vs Q E hr h => ?_)
  · obtain ⟨p, ns, r, rfl, _⟩ := h
    rfl
  obtain ⟨p, ns, r, rfl, hS, hall, hlen, q⟩ := h
  refine ⟨_, (pss_one (ps_ret (pe_callTy call_tuple_of rfl M.tuple PyProof.Rows.boot_tuple (pa_cons (pe_comp ["number", "teller"] [] [] rfl (comp_scope rfl (by decide +kernel) rfl (by decide +kernel) rfl rfl) (pi_tup (pe_cal Glacking_with_tellers (rm hr) rfl (pa_cons (pv 0) (pa_cons (pv 1) pa_nil)))) (fun _ _ _ _ _ => (pg_tupK (K := K) (n := 2) rfl rfl (pgs_cons (pg_name (i := 0) (show ((["number", "teller"] : List PySem.Str) ++ ([] : List PySem.Str)).Nodup from by decide +kernel) rfl (Or.inl rfl)) (pgs_cons (pg_name (i := 1) (show ((["number", "teller"] : List PySem.Str) ++ ([] : List PySem.Str)).Nodup from by decide +kernel) rfl (Or.inl rfl)) pgs_nil)))) (own_tup (own_cons (own_name (by decide)) mono_name (own_cons (own_name (by decide)) mono_name own_nil mono_nil) (mono_cons mono_name mono_nil))) (mono_tup (mono_cons mono_name (mono_cons mono_name mono_nil))) (fun _ _ _ _ _ => (pts_one (pt_cmpR op_eq (pv 1) pe_int (nomark _)))) (fun _ _ _ _ _ => (pv 0))) pa_nil)))), ?_⟩
  refine ⟨_, rfl, _, rfl, p, ns, r, rfl, hS, hall, hlen, fun lt xs H1 s1 e1 pr1 => ⟨lt, rfl, ⟨_, SqT.of e1⟩, ?_⟩⟩
  have ll := lwt_len ns r
  have lx := pr1.len
  refine comp_tup (xs := xs) (fun i ys H' => H' = H1 ∧ ys = (((lwtL ns r).take i).filter fun q => decide (q.2 = 0)).map fun q => V.int q.1) ⟨rfl, rfl⟩ (fun i ys H' hi hp => ?_) (fun i x ys H' hx hp => ?_) (fun ys H' hp => ?_)
  · obtain ⟨rfl, rfl⟩ := hp
    refine ⟨SqT.of e1, small1000 ?_⟩
    have h1 := List.length_filter_le (fun q : Int × Int => decide (q.2 = 0)) ((lwtL ns r).take i)
    rw [List.length_map]
    rw [List.length_take] at h1
    omega
  · obtain ⟨rfl, rfl⟩ := hp
    obtain ⟨⟨n, t⟩, e, a, rfl, ha⟩ := pr1.get i x hx
    refine ⟨a, _, rfl, SqT.of ha, rfl, _, _, rfl, _, _, rfl, rfl, ?_⟩
    refine ⟨_, rfl, rfl, _, rfl, ?_⟩
    rw [take_snoc e, List.filter_append, List.filter_cons, List.map_append]
    refine ite2 (fun c => ?_) (fun c => ?_)
    · have c' : decide (t = 0) = true := decide_eq_true (V.int.inj (dec_of c))
      refine ⟨_, rfl, rfl, ?_⟩
      rw [if_pos c']
      rfl
    · have c' : ¬ decide (t = 0) = true := fun z => c (decide_eq_true (congrArg V.int (dec_of z)))
      refine ⟨rfl, ?_⟩
      rw [if_neg c']
      simp
  · obtain ⟨rfl, rfl⟩ := hp
    rw [lx, List.take_length]
    intro D hD
    refine ⟨D, _, rfl, .inl ⟨SqL.of upd_same, fun l hl => ?_⟩⟩
    refine q l _ (s1.trans ((same_new hD _).trans (same_new hl _))) ?_
    rw [upd_same]
    unfold darkF
    rw [List.map_map]
    rfl
theorem darkF_len (ns : List Int) (r : Int) : (darkF ns r).length ≤ 60 := by
  have h := List.length_filter_le (fun q : Int × Int => decide (q.2 = 0)) (lwtL ns r)
  have := lwt_len ns r
  unfold darkF
  rw [List.length_map]
  omega
def behindF (ns : List Int) (r b : Int) : List Int := (darkF ns r).filter fun y => decide (b < y)
def spBehind (K : PySem.W.Frag) : Sp := fun vs H Q _ => ∃ (p : Addr) (ns : List Int) (r b : Int), vs = [.ref p, .int r, .int b] ∧ SqI K H p ns ∧ (∀ x ∈ ns, 1 ≤ x ∧ x ≤ 60) ∧ ns.length ≤ 900 ∧
  ∀ (l : Addr) (H' : Hp), Same H H' → H' l = some (.tup ((behindF ns r b).map V.int)) → Q (.ref l) H'
theorem ok_behind (M : Bl mg) (F : Fun K "dark_numbers_behind" "dark_numbers_behind" sdark_numbers_behind f fd) (Gdark_numbers : Cal P w K mg base 3 "dark_numbers" pdark_numbers (spDark K)) : FnOk P w K mg base CX0 4 f fd pdark_numbers_behind (spBehind K) := by
  have nd := scdark_numbers_behind.nd
  refine F.ok scdark_numbers_behind (fun vs H Q E h => ?_) (fun cdv A outer s H vs Q E hr h => ?_)
  · obtain ⟨p, ns, r, b, rfl, _⟩ := h
    rfl
  obtain ⟨p, ns, r, b, rfl, hS, hall, hlen, q⟩ := h
  refine ⟨_, (pss_one (ps_ret (pe_callTy call_tuple_of rfl M.tuple PyProof.Rows.boot_tuple (pa_cons (pe_comp ["number"] ["behind"] [2] rfl (comp_scope rfl (by decide +kernel) rfl (by decide +kernel) rfl rfl) (pi_tup (pe_cal Gdark_numbers (rm hr) rfl (pa_cons (pv 0) (pa_cons (pv 1) pa_nil)))) (fun _ _ _ _ _ => (pg_name (i := 0) (show ((["number"] : List PySem.Str) ++ (["behind"] : List PySem.Str)).Nodup from by decide +kernel) rfl (Or.inl rfl))) (own_name (by decide)) mono_name (fun _ _ _ _ _ => (pts_one (pt_cmpR op_gt (pv 0) (pv 1) (nomark _)))) (fun _ _ _ _ _ => (pv 0))) pa_nil)))), ?_⟩
  refine ⟨_, rfl, _, rfl, p, ns, r, rfl, hS, hall, hlen, fun lt H1 s1 e1 => ⟨lt, rfl, ⟨_, SqT.of e1⟩, ?_⟩⟩
  have ll := darkF_len ns r
  refine comp_intsT (ns := darkF ns r) (fun y => decide (b < y)) (fun y => .int y) (SqT.of e1) (by omega) (fun y ys N hy hN => ?_) (fun D hD => ?_)
  · refine ⟨_, rfl, _, rfl, _, _, rfl, rfl, _, rfl, ?_⟩
    refine ite2 (fun c => ?_) (fun c => ?_)
    · rw [if_pos c] at hN
      exact ⟨_, rfl, hN⟩
    · rw [if_neg c] at hN
      exact hN
  · exact ⟨D, _, rfl, .inl ⟨SqL.of upd_same, fun l hl => q l _ (s1.trans ((same_new hD _).trans (same_new hl _))) upd_same⟩⟩
def spTailOf (Sh : ShP) : Sp := fun vs H Q _ => ∃ (p : Addr) (fp : List Addr) (zs : List Str) (r : Int) (iss : Int → DV) (had : List Int) (n : Int) (d0 d1 d2 : DV), vs = [.ref p, .int n] ∧ Sh H p fp zs r iss had ∧ n ∈ had ∧ iss n = .tup [d0, d1, d2] ∧ ∀ v, Tell H d2 v → Q v H
theorem val_some {kvs : List (Key × V)} {had : List Int} (kk : kvs.map (·.1) = had.map Sum.inl) {n : Int} (h : n ∈ had) : ∃ v, valV kvs (Sum.inl n : Key) = some v ∧ ((Sum.inl n : Key), v) ∈ kvs := by
  have e := val_had kk n
  rw [decide_eq_true h] at e
  cases ev : valV kvs (Sum.inl n : Key) with
  | none => rw [ev] at e; cases e
  | some v =>
    refine ⟨v, rfl, ?_⟩
    unfold valV at ev
    obtain ⟨⟨k, u⟩, hf, rfl⟩ := Option.map_eq_some_iff.mp ev
    have h1 := List.mem_of_find?_eq_some hf
    have h2 := List.find?_some hf
    simp only [decide_eq_true_eq] at h2
    rw [h2] at h1
    exact h1
theorem ok_tailof {CShelf : Addr} (M : Bl mg) (T : TxShelf K mg CShelf) (F : Fun K "tail_of" "Shelf.tail_of" sShelf_tail_of f fd) : FnOk P w K mg base CX0 1 f fd pShelf_tail_of (spTailOf (ShD K CShelf)) := by
  have nd := scShelf_tail_of.nd
  refine F.ok scShelf_tail_of (fun vs H Q E h => ?_) (fun cdv A outer s H vs Q E hr h => ?_)
  · obtain ⟨p, fp, zs, r, iss, had, n, d0, d1, d2, rfl, _⟩ := h
    rfl
  obtain ⟨p, fp, zs, r, iss, had, n, d0, d1, d2, rfl, sh, hn, en, k⟩ := h
  have hu := hu_of hr
  refine ⟨_, (pss_one (ps_ret (pe_ix ix_tup (pe_dget hu (pe_fld (pv 0) rfl) (pv 1) (fun _ _ => rfl)) pe_int (fun _ _ => rfl)))), ?_⟩
  obtain ⟨dx, pn, pd, fs, kvs, rfl, h1, h2, h3, h4, l1, l2, l3, lm, kk, ndh, all, tl, g, r0, r1⟩ := sh
  obtain ⟨v, ev, mv⟩ := val_some kk hn
  have tv := tl n v mv
  rw [en] at tv
  obtain ⟨a, us, rfl, ea, _, tu⟩ := tell_tup_inv tv
  obtain ⟨x0, ur, rfl, t0, tu⟩ := tells_cons_inv tu
  obtain ⟨x1, ur, rfl, t1, tu⟩ := tells_cons_inv tu
  obtain ⟨x2, ur, rfl, t2, tu⟩ := tells_cons_inv tu
  refine ⟨_, rfl, p, CShelf, dx, fs, _, rfl, h1, T.cl, T.n_issues, l3, _, rfl, pd, _, rfl, (by rw [← ev]; exact DGet.k (k := Sum.inl n) h4), ?_⟩
  exact ⟨a, _, _, x2, rfl, rfl, SqT.of ea, atI_nat rfl, k x2 t2⟩
theorem tailN_nd (n r : Int) : (tailN n r).Nodup := by
  have h : (dnI (n - 1) (n - 1).toNat).Nodup := by
    unfold dnI
    rw [List.nodup_iff_pairwise_ne, List.pairwise_map]
    exact List.pairwise_lt_range.imp fun h => by omega
  exact h.filter _
theorem mem_tailN {n r k : Int} : k ∈ tailN n r ↔ 1 ≤ k ∧ k < n ∧ n - k ≤ r := by
  unfold tailN
  rw [List.mem_filter, mem_dnI, decide_eq_true_eq]
  omega
theorem tail_pairs {K : PySem.W.Frag} {H : Hp} {rows : List Row} : ∀ {ks : List Int} {xs : List V}, Tells H (ks.map (tailP rows)) xs → ∃ kvs : List (Key × V), Paired (PairV K H) xs kvs ∧ kvs.map (·.1) = ks.map Sum.inl ∧ ∀ k v, ((Sum.inl k : Key), v) ∈ kvs → Tell H (nmsD (nmsOf (rowAt rows k))) v
  | [], xs, h => by
    rw [tells_nil_inv h]
    exact ⟨[], .nil, rfl, fun _ _ q => (nomatch q)⟩
  | k :: ks, xs, h => by
    obtain ⟨x, r, rfl, t, h⟩ := tells_cons_inv h
    obtain ⟨kvs, p1, p2, p3⟩ := tail_pairs h
    obtain ⟨a, us, rfl, ea, _, tu⟩ := tell_tup_inv t
    obtain ⟨x0, ur, rfl, t0, tu⟩ := tells_cons_inv tu
    obtain ⟨x1, ur, rfl, t1, tu⟩ := tells_cons_inv tu
    have := tells_nil_inv tu
    subst this
    cases tell_int_inv t0
    refine ⟨(Sum.inl k, x1) :: kvs, .cons ⟨a, rfl, .inr (SqT.of ea)⟩ p1, by rw [List.map_cons, List.map_cons, p2], fun m v hv => ?_⟩
    rcases List.mem_cons.mp hv with e | hv
    · cases e
      exact t1
    · exact p3 m v hv
def toldD (rows : List Row) (n t : Int) : DV := if t = 0 then .tup [] else nmsD (nmsOf (rowAt rows n))
def spTold (Sh : ShP) : Sp := fun vs H Q _ => ∃ (x : Addr) (n t : Int) (fp : List Addr) (nm : List Str) (r : Int) (rows : List Row) (had : List Int), vs = [.ref x, .int n, .int t] ∧ Sh H x fp nm r (fun n => issueD rows n r) had ∧ (t ≠ 0 → t ∈ had ∧ t ≤ 60 ∧ n ∈ tailN t r) ∧
  ∀ (v : V) (H' : Hp), Same H H' → Tell H' (toldD rows n t) v → Q v H'
theorem ok_told {CShelf : Addr} (M : Bl mg) (T : TxShelf K mg CShelf) (F : Fun K "names_told_of" "names_told_of" snames_told_of f fd) (GShelf_tail_of : MCal P w K mg base 1 CShelf "tail_of" pShelf_tail_of (spTailOf (ShD K CShelf))) :
    FnOk P w K mg base CX0 2 f fd pnames_told_of (spTold (ShD K CShelf)) := by
  have nd := scnames_told_of.nd
  refine F.ok scnames_told_of (fun vs H Q E h => ?_) (fun cdv A outer s H vs Q E hr h => ?_)
  · obtain ⟨x, n, t, fp, nm, r, rows, had, rfl, _⟩ := h
    rfl
  obtain ⟨x, n, t, fp, nm, r, rows, had, rfl, sh, ht, k⟩ := h
  have hu := hu_of hr
  refine ⟨_, (pss_cons (ps_if (pt_cmpR op_eq (pv 2) pe_int (nomark _)) (pss_one (ps_ret (pe_tup pa_nil))) pss_nil) (pss_one (ps_ret (pe_dget hu (pe_callTy (call_dict_of (K := K) rfl rfl) rfl M.dict PyProof.Rows.boot_dict (pa_cons (pe_mcal GShelf_tail_of (rm hr) (pv 0) (pa_cons (pv 2) pa_nil)) pa_nil)) (pv 1) (fun _ _ => rfl))))), ?_⟩
  refine ⟨_, rfl, rfl, _, rfl, ite2 (fun c => ?_) (fun c => ?_)⟩
  · have c' : t = 0 := V.int.inj (dec_of c)
    refine ⟨(by show 0 ≤ sizeLine; decide), fun l hl => k _ _ (same_new hl _) ?_⟩
    unfold toldD
    rw [if_pos c']
    exact tell_tup upd_same (by show 0 ≤ 1000000; decide) .nil
  · have c' : t ≠ 0 := fun z => c (decide_eq_true (congrArg V.int z))
    obtain ⟨th, t60, tn⟩ := ht c'
    obtain ⟨dx, fs, h1, lm⟩ : ∃ dx fs, H x = some (.ins CShelf dx fs) ∧ fs.lookup ("tail_of" : Str) = none := by
      obtain ⟨dx, pn, pd, fs, kvs, _, h1, _, _, _, _, _, _, lm, _⟩ := sh
      exact ⟨dx, fs, h1, lm _ (by simp)⟩
    refine ⟨_, rfl, x, dx, fs, rfl, h1, lm, _, rfl, x, fp, nm, r, _, had, t, _, _, _, rfl, sh, th, rfl, fun v tv => ?_⟩
    obtain ⟨a, us, rfl, ea, _, tu⟩ := tell_tup_inv tv
    obtain ⟨kvs, p1, p2, p3⟩ := tail_pairs (K := K) tu
    have lu : us.length ≤ 1000 := by
      rw [tu.length, List.length_map]
      unfold tailN
      have := List.length_filter_le (fun k => decide (t - k ≤ r)) (dnI (t - 1) (t - 1).toNat)
      rw [dnI_len] at this
      omega
    refine ⟨a, us, kvs, rfl, .inr ea, p1, lu, ?_, fun l hl => ?_⟩
    · rw [p2]
      rw [List.nodup_iff_pairwise_ne, List.pairwise_map]
      exact (List.nodup_iff_pairwise_ne.mp (tailN_nd t r)).imp fun h e => h (Sum.inl.inj e)
    · obtain ⟨v, ev, mv⟩ := val_some p2 tn
      refine ⟨_, rfl, l, _, rfl, (by rw [← ev]; exact DGet.k (k := Sum.inl n) upd_same), ?_⟩
      refine k v _ (same_new hl _) ?_
      unfold toldD
      rw [if_neg c']
      exact Tell.keep (same_new hl _) _ _ (p3 n v mv)
theorem gap_tell {had : List Int} {r n : Int} (h60 : ∀ n ∈ had, 1 ≤ n ∧ n ≤ 60) (hn : n ∈ lackL (riseL had)) (h : tellV (riseL had) n r ≠ 0) : tellV (riseL had) n r ∈ had ∧ tellV (riseL had) n r ≤ 60 ∧ n ∈ tailN (tellV (riseL had) n r) r := by
  unfold tellV at h ⊢
  cases e : (upI 1 60).find? (tellC (riseL had) n r) with
  | none => rw [e] at h; exact absurd rfl h
  | some y =>
    obtain ⟨_, hc, _⟩ := find_is (upI_rise 1 60) e
    obtain ⟨a, b, c⟩ := tellC_iff.mp hc
    have hy := (mem_riseL.mp c).2
    have := h60 y hy
    have := (mem_lackL.mp hn).1
    show y ∈ had ∧ y ≤ 60 ∧ n ∈ tailN y r
    exact ⟨hy, by omega, mem_tailN.mpr (by omega)⟩
theorem ok_gapsof {CShelf : Addr} (M : Bl mg) (T : TxShelf K mg CShelf) (F : Fun K "gaps_of" "gaps_of" sgaps_of f fd) (GShelf_had : MCal P w K mg base 1 CShelf "had" pShelf_had (spShHad (ShD K CShelf)))
    (Glacking_with_tellers : Cal P w K mg base 2 "lacking_with_tellers" placking_with_tellers (spLwt K)) (Gnames_told_of : Cal P w K mg base 2 "names_told_of" pnames_told_of (spTold (ShD K CShelf))) :
    FnOk P w K mg base CX0 3 f fd pgaps_of (spGapsOf (ShD K CShelf)) := by
  have nd := scgaps_of.nd
  refine F.ok scgaps_of (fun vs H Q E h => ?_) (fun cdv A outer s H vs Q E hr h => ?_)
  · obtain ⟨x, fp, nm, r, rows, had, rfl, _⟩ := h
    rfl
  obtain ⟨x, fp, nm, r, rows, had, rfl, sh, gn, rw', l60, hh, r0, r1, k⟩ := h
  refine ⟨_, (pss_cons (ps_set (i := 1) nd rfl (Or.inl rfl) (pe_cal Glacking_with_tellers (rm hr) rfl (pa_cons (pe_mcal0 GShelf_had (rm hr) (pv 0)) (pa_cons (pe_fld (pv 0) rfl) pa_nil)))) (pss_one (ps_ret (pe_callTy call_tuple_of rfl M.tuple PyProof.Rows.boot_tuple (pa_cons (pe_comp ["number", "teller"] ["shelf"] [0] rfl (comp_scope rfl (by decide +kernel) rfl (by decide +kernel) rfl rfl) (pi_tup (pv 1)) (fun _ _ _ _ _ => (pg_tupK (K := K) (n := 2) rfl rfl (pgs_cons (pg_name (i := 0) (show ((["number", "teller"] : List PySem.Str) ++ (["shelf"] : List PySem.Str)).Nodup from by decide +kernel) rfl (Or.inl rfl)) (pgs_cons (pg_name (i := 1) (show ((["number", "teller"] : List PySem.Str) ++ (["shelf"] : List PySem.Str)).Nodup from by decide +kernel) rfl (Or.inl rfl)) pgs_nil)))) (own_tup (own_cons (own_name (by decide)) mono_name (own_cons (own_name (by decide)) mono_name own_nil mono_nil) (mono_cons mono_name mono_nil))) (mono_tup (mono_cons mono_name (mono_cons mono_name mono_nil))) (fun _ _ _ _ _ => pts_nil) (fun _ _ _ _ _ => (pe_tup (pa_cons (pv 0) (pa_cons (pv 1) (pa_cons (pe_cal Gnames_told_of (rm hr) rfl (pa_cons (pv 2) (pa_cons (pv 0) (pa_cons (pv 1) pa_nil)))) pa_nil)))))) pa_nil))))), ?_⟩
  have h60 : ∀ n ∈ had, 1 ≤ n ∧ n ≤ 60 := fun n hn => by have := hh n hn; omega
  obtain ⟨dx, fs, h1, lm, lr⟩ : ∃ dx fs, H x = some (.ins CShelf dx fs) ∧ fs.lookup ("had" : Str) = none ∧ fs.lookup ("reach" : Str) = some (V.int r) := by
    obtain ⟨dx, pn, pd, fs, kvs, _, h1, _, _, _, _, lr, _, lm, _⟩ := sh
    exact ⟨dx, fs, h1, lm _ (by simp), lr⟩
  refine ⟨_, rfl, x, dx, fs, rfl, h1, lm, x, fp, nm, r, _, had, rfl, sh, fun l H1 s1 e1 => ?_⟩
  refine ⟨_, rfl, x, CShelf, dx, fs, _, rfl, s1 _ _ h1, T.cl, T.n_reach, lr, l, riseL had, r, rfl, .inr (SqT.of e1), fun n hn => h60 n (mem_riseL.mp hn).2, Nat.le_trans (riseL_len had) (by decide), fun lt xs H2 s2 e2 pr2 => ?_⟩
  have sh2 : ShD K CShelf H2 x fp nm r (fun n => issueD rows n r) had := shOk.same sh (s1.trans s2)
  have lx : xs.length = (lackL (riseL had)).length := by rw [pr2.len]; unfold lwtL; rw [List.length_map]
  have ll := lackL_len (riseL had)
  refine ⟨_, rfl, lt, rfl, ⟨_, SqT.of e2⟩, ?_⟩
  refine comp_tup (xs := xs) (fun i ys H' => Same H2 H' ∧ Tells H' (((lackL (riseL had)).take i).map (gapD (riseL had) rows r)) ys) ⟨Same.refl _, by rw [List.take_zero]; exact .nil⟩ (fun i ys H' hi hp => ?_) (fun i y ys H' hy hp => ?_) (fun ys H' hp => ?_)
  · obtain ⟨g, t⟩ := hp
    refine ⟨SqT.of (g _ _ e2), small1000 ?_⟩
    rw [t.length, List.length_map, List.length_take]
    omega
  · obtain ⟨g, t⟩ := hp
    obtain ⟨⟨n, tl⟩, e, a, rfl, ha⟩ := pr2.get i y hy
    unfold lwtL at e
    rw [List.getElem?_map] at e
    obtain ⟨m, em, e3⟩ := Option.map_eq_some_iff.mp e
    cases e3
    refine ⟨a, _, rfl, SqT.of (g _ _ ha), rfl, _, _, rfl, _, _, rfl, rfl, ?_⟩
    refine ⟨_, rfl, _, rfl, _, rfl, _, rfl, _, rfl, x, n, _, fp, nm, r, rows, had, rfl, shOk.same sh2 g, gap_tell h60 (List.mem_of_getElem? em), fun v H3 s3 tv => ?_⟩
    refine ⟨(by show 3 ≤ sizeLine; decide), fun q hq => ⟨g.trans (s3.trans (same_new hq _)), ?_⟩⟩
    rw [List.take_add_one, em, List.map_append]
    exact Tells.snoc (Tells.keep (s3.trans (same_new hq _)) _ _ t) (tell_tup upd_same (by show 3 ≤ 1000000; decide) (.cons (tell_int _) (.cons (tell_int _) (.cons (Tell.keep (same_new hq _) _ _ tv) .nil))))
  · obtain ⟨g, t⟩ := hp
    rw [lx, List.take_length] at t
    intro D hD
    refine ⟨D, ys, rfl, .inl ⟨SqL.of upd_same, fun q hq => k _ _ (s1.trans (s2.trans (g.trans ((same_new hD _).trans (same_new hq _))))) (tell_tup upd_same ?_ (Tells.keep ((same_new hD _).trans (same_new hq _)) _ _ t))⟩⟩
    unfold gapsL
    rw [List.length_map]
    omega
def spRowsOf (Sh : ShP) : Sp := fun vs H Q _ => ∃ (p : Addr) (fp : List Addr) (zs : List Str) (r : Int) (iss : Int → DV) (had : List Int) (n : Int) (d0 d1 d2 : DV), vs = [.ref p, .int n] ∧ Sh H p fp zs r iss had ∧ n ∈ had ∧ iss n = .tup [d0, d1, d2] ∧ ∀ v, Tell H d1 v → Q v H
theorem ok_rowsof {CShelf : Addr} (M : Bl mg) (T : TxShelf K mg CShelf) (F : Fun K "rows_of" "Shelf.rows_of" sShelf_rows_of f fd) : FnOk P w K mg base CX0 1 f fd pShelf_rows_of (spRowsOf (ShD K CShelf)) := by
  have nd := scShelf_rows_of.nd
  refine F.ok scShelf_rows_of (fun vs H Q E h => ?_) (fun cdv A outer s H vs Q E hr h => ?_)
  · obtain ⟨p, fp, zs, r, iss, had, n, d0, d1, d2, rfl, _⟩ := h
    rfl
  obtain ⟨p, fp, zs, r, iss, had, n, d0, d1, d2, rfl, sh, hn, en, k⟩ := h
  have hu := hu_of hr
  refine ⟨_, (pss_one (ps_ret (pe_ix ix_tup (pe_dget hu (pe_fld (pv 0) rfl) (pv 1) (fun _ _ => rfl)) pe_int (fun _ _ => rfl)))), ?_⟩
  obtain ⟨dx, pn, pd, fs, kvs, rfl, h1, h2, h3, h4, l1, l2, l3, lm, kk, ndh, all, tl, g, r0, r1⟩ := sh
  obtain ⟨v, ev, mv⟩ := val_some kk hn
  have tv := tl n v mv
  rw [en] at tv
  obtain ⟨a, us, rfl, ea, _, tu⟩ := tell_tup_inv tv
  obtain ⟨x0, ur, rfl, t0, tu⟩ := tells_cons_inv tu
  obtain ⟨x1, ur, rfl, t1, tu⟩ := tells_cons_inv tu
  refine ⟨_, rfl, p, CShelf, dx, fs, _, rfl, h1, T.cl, T.n_issues, l3, _, rfl, pd, _, rfl, (by rw [← ev]; exact DGet.k (k := Sum.inl n) h4), ?_⟩
  exact ⟨a, _, _, x1, rfl, rfl, SqT.of ea, atI_nat rfl, k x1 t1⟩
theorem row_pairs {K : PySem.W.Frag} {H : Hp} : ∀ {w : Row} {xs : List V}, Tells H (w.map pairD) xs → Paired (PairV K H) xs (w.map kvR)
  | [], xs, h => by
    rw [tells_nil_inv h]
    exact .nil
  | p :: w, xs, h => by
    obtain ⟨x, r, rfl, t, h'⟩ := tells_cons_inv h
    obtain ⟨a, us, rfl, ea, _, tu⟩ := tell_tup_inv t
    obtain ⟨x0, ur, rfl, t0, tu⟩ := tells_cons_inv tu
    obtain ⟨x1, ur, rfl, t1, tu⟩ := tells_cons_inv tu
    have := tells_nil_inv tu
    subst this
    rw [tell_str_inv t0, tell_int_inv t1] at ea
    exact .cons ⟨a, rfl, .inr (SqT.of ea)⟩ (row_pairs h')
theorem foldV (w : Row) (z : Str) : ∀ acc : Option Int, w.foldl (fun acc p => if p.1 = z then some p.2 else acc) acc = match valL w z with | some v => some v | none => acc := by
  unfold valL
  induction w with
  | nil => intro acc; rfl
  | cons p w ih =>
    intro acc
    rw [List.foldl_cons, List.foldl_cons, ih, ih (if p.1 = z then some p.2 else none)]
    cases w.foldl (fun acc p => if p.1 = z then some p.2 else acc) none with
    | some v => rfl
    | none =>
      by_cases h : p.1 = z
      · rw [if_pos h, if_pos h]
      · rw [if_neg h, if_neg h]
theorem valL_cons (p : Str × Int) (w : Row) (z : Str) : valL (p :: w) z = match valL w z with | some v => some v | none => if p.1 = z then some p.2 else none := by
  conv => lhs; unfold valL
  rw [List.foldl_cons, foldV]
theorem valL_none {w : Row} {z : Str} (h : z ∉ w.map Prod.fst) : valL w z = none := by
  induction w with
  | nil => rfl
  | cons p w ih =>
    rw [List.map_cons, List.mem_cons, not_or] at h
    rw [valL_cons, ih h.2, if_neg (fun e => h.1 e.symm)]
theorem val_row {z : Str} : ∀ {w : Row}, (w.map Prod.fst).Nodup → valV (w.map kvR) (Sum.inr z : Key) = (valL w z).map V.int
  | [], _ => rfl
  | p :: w, h => by
    rw [List.map_cons, List.nodup_cons] at h
    rw [List.map_cons, valL_cons]
    by_cases e : p.1 = z
    · rw [valV_pos (show (kvR p).1 = Sum.inr z by unfold kvR; rw [e]), valL_none (e ▸ h.1), if_pos e]
      rfl
    · rw [valV_neg (show ¬ (kvR p).1 = Sum.inr z from fun q => e (Sum.inr.inj q)), val_row h.2, if_neg e]
      cases valL w z <;> rfl
theorem row_nd {nm : List Str} {rows : List Row} (g : GoodN nm) (R : Rws nm rows) (n : Int) : ((rowAt rows n).map Prod.fst).Nodup := by
  unfold rowAt
  rw [List.getD_eq_getElem?_getD]
  cases e : rows[(n - 1).toNat]? with
  | none => exact .nil
  | some w => exact (R.sub w (List.mem_of_getElem? e)).nodup g.nd
theorem row_len {nm : List Str} {rows : List Row} (g : GoodN nm) (R : Rws nm rows) (n : Int) : (rowAt rows n).length ≤ 12 := by
  unfold rowAt
  rw [List.getD_eq_getElem?_getD]
  cases e : rows[(n - 1).toNat]? with
  | none => exact Nat.zero_le _
  | some w =>
    have h := (R.sub w (List.mem_of_getElem? e)).length_le
    rw [List.length_map] at h
    exact Nat.le_trans h g.hi
def spHeldFor (Sh : ShP) : Sp := fun vs H Q _ => ∃ (x : Addr) (z : Str) (fp : List Addr) (nm : List Str) (r : Int) (rows : List Row) (had : List Int), vs = [.ref x, .str z] ∧ Sh H x fp nm r (fun n => issueD rows n r) had ∧ z ∈ nm ∧ GoodN nm ∧ Rws nm rows ∧
  ∀ (v : V) (H' : Hp), Same H H' → Tell H' (heldD (heldO (riseL had) rows z)) v → Q v H'
theorem ok_heldfor {CShelf : Addr} (M : Bl mg) (T : TxShelf K mg CShelf) (F : Fun K "held_for" "held_for" sheld_for f fd) (Grefuse_unknown_name : Cal P w K mg base 1 "refuse_unknown_name" prefuse_unknown_name (spUnk K))
    (GShelf_had : MCal P w K mg base 1 CShelf "had" pShelf_had (spShHad (ShD K CShelf))) (GShelf_rows_of : MCal P w K mg base 1 CShelf "rows_of" pShelf_rows_of (spRowsOf (ShD K CShelf))) :
    FnOk P w K mg base CX0 2 f fd pheld_for (spHeldFor (ShD K CShelf)) := by
  have nd := scheld_for.nd
  refine F.ok scheld_for (fun vs H Q E h => ?_) (fun cdv A outer s H vs Q E hr h => ?_)
  · obtain ⟨x, z, fp, nm, r, rows, had, rfl, _⟩ := h
    rfl
  obtain ⟨x, z, fp, nm, r, rows, had, rfl, sh, hz, gn, R, k⟩ := h
  have hu := hu_of hr
  refine ⟨_, (pss_cons (ps_expr (pe_cal Grefuse_unknown_name (rm hr) rfl (pa_cons (pe_fld (pv 0) rfl) (pa_cons (pv 1) pa_nil)))) (pss_cons (ps_for PassesOwn.never rfl (pi_rev rfl M.reversed (pa_cons (pe_mcal0 GShelf_had (rm hr) (pv 0)) pa_nil)) (pg_name (i := 2) nd rfl (Or.inl rfl)) (pss_cons (ps_set (i := 3) nd rfl (Or.inl rfl) (pe_callTy (call_dict_of (K := K) rfl rfl) rfl M.dict PyProof.Rows.boot_dict (pa_cons (pe_mcal GShelf_rows_of (rm hr) (pv 0) (pa_cons (pv 2) pa_nil)) pa_nil))) (pss_one (ps_if (pt_cmp (pc_din hu (pv 1) (pv 3))) (pss_one (ps_ret (pe_tup (pa_cons (pv 2) (pa_cons (pe_dget hu (pv 3) (pv 1) (fun _ _ => rfl)) pa_nil))))) pss_nil)))) (pss_one (ps_ret (pe_tup (pa_cons pe_int (pa_cons pe_non pa_nil))))))), ?_⟩
  obtain ⟨dx, pn, fs, h1, h3, ln, lh, lo⟩ : ∃ dx pn fs, H x = some (.ins CShelf dx fs) ∧ H pn = some (.tup (nm.map V.str)) ∧ fs.lookup ("names" : Str) = some (V.ref pn) ∧ fs.lookup ("had" : Str) = none ∧ fs.lookup ("rows_of" : Str) = none := by
    obtain ⟨dx, pn, pd, fs, kvs, _, h1, _, h3, _, l1, _, _, lm, _⟩ := sh
    exact ⟨dx, pn, fs, h1, h3, l1, lm _ (by simp), lm _ (by simp)⟩
  refine ⟨_, rfl, x, CShelf, dx, fs, _, rfl, h1, T.cl, T.n_names, ln, _, rfl, pn, nm, z, rfl, .inr (SqT.of h3), hz, ?_⟩
  refine ⟨_, rfl, x, dx, fs, rfl, h1, lh, x, fp, nm, r, _, had, rfl, sh, fun l H1 s1 e1 => ?_⟩
  refine ⟨l, _, rfl, SqT.of e1, ?_⟩
  have sh1 : ShD K CShelf H1 x fp nm r (fun n => issueD rows n r) had := shOk.same sh s1
  have L1 : ((riseL had).map V.int).length = (riseL had).length := List.length_map _
  refine for_rev (fun i σ H' => ∃ (o1 o2 : Option V), Same H1 H' ∧ heldO (riseL had) rows z = heldO ((riseL had).take ((riseL had).length - i)) rows z ∧ σ = [some (.ref x), some (.str z), o1, o2])
    ⟨none, none, Same.refl _, by rw [Nat.sub_zero, List.take_length], rfl⟩ (fun i σ H' _ ⟨_, _, g, _⟩ => SqT.of (g _ _ e1)) (fun i y σ H' hy hp => ?_) (fun σ H' hp => ?_)
  · obtain ⟨o1, o2, g, eh, rfl⟩ := hp
    rw [← List.map_reverse, List.getElem?_map] at hy
    obtain ⟨n, hn, rfl⟩ := Option.map_eq_some_iff.mp hy
    have hi : i < (riseL had).length := by
      have := (List.getElem?_eq_some_iff.mp hn).1
      rw [List.length_reverse] at this
      exact this
    rw [List.getElem?_reverse hi] at hn
    have et : (riseL had).take ((riseL had).length - i) = (riseL had).take ((riseL had).length - (i + 1)) ++ [n] := by
      have e : (riseL had).length - i = ((riseL had).length - (i + 1)) + 1 := by omega
      rw [e]
      refine take_snoc ?_
      rw [show (riseL had).length - (i + 1) = (riseL had).length - 1 - i by omega]
      exact hn
    have nh : n ∈ had := (mem_riseL.mp (List.mem_of_getElem? hn)).2
    refine ⟨_, rfl, x, dx, fs, rfl, g _ _ (s1 _ _ h1), lo, _, rfl, x, fp, nm, r, _, had, n, _, _, _, rfl, shOk.same sh1 g, nh, rfl, fun v tv => ?_⟩
    obtain ⟨a, us, rfl, ea, _, tu⟩ := tell_tup_inv tv
    have ndw := row_nd gn R n
    refine ⟨a, us, (rowAt rows n).map kvR, rfl, .inr ea, row_pairs tu, ?_, ?_, fun d hd => ?_⟩
    · rw [tu.length, List.length_map]
      have := row_len gn R n
      omega
    · have e : ((rowAt rows n).map kvR).map (·.1) = ((rowAt rows n).map Prod.fst).map Sum.inr := by rw [List.map_map, List.map_map]; rfl
      rw [e, List.nodup_iff_pairwise_ne, List.pairwise_map]
      exact (List.nodup_iff_pairwise_ne.mp ndw).imp fun h e => h (Sum.inr.inj e)
    refine ⟨_, rfl, _, rfl, d, _, rfl, DGet.k (k := Sum.inr z) upd_same, _, rfl, ?_⟩
    rw [val_row ndw]
    rw [et, heldO_snoc] at eh
    cases ev : valL (rowAt rows n) z with
    | none =>
      rw [ev] at eh
      exact iteF ⟨_, _, g.trans (same_new hd _), eh, rfl⟩
    | some v =>
      rw [ev] at eh
      refine iteT ⟨_, rfl, _, rfl, _, rfl, d, _, rfl, (show DGet _ d (kV (Sum.inr z)) (some (V.int v)) by rw [← show valV ((rowAt rows n).map kvR) (Sum.inr z : Key) = some (V.int v) by rw [val_row ndw, ev]; rfl]; exact DGet.k upd_same), (by show 2 ≤ sizeLine; decide), fun q hq => k _ _ (s1.trans (g.trans ((same_new hd _).trans (same_new hq _)))) ?_⟩
      rw [eh]
      exact tell_tup upd_same (by show 2 ≤ 1000000; decide) (.cons (tell_int _) (.cons (tell_int _) .nil))
  · obtain ⟨o1, o2, g, eh, rfl⟩ := hp
    rw [L1, Nat.sub_self, List.take_zero] at eh
    refine ⟨(by show 2 ≤ sizeLine; decide), fun q hq => k _ _ (s1.trans (g.trans (same_new hq _))) ?_⟩
    rw [eh]
    exact tell_tup upd_same (by show 2 ≤ 1000000; decide) (.cons (tell_int _) (.cons tell_non .nil))
def spSetAgain (Sh : ShP) : Sp := fun vs H Q _ => ∃ (x : Addr) (z : Str) (fp : List Addr) (nm : List Str) (r : Int) (rows : List Row) (had : List Int), vs = [.ref x, .str z] ∧ Sh H x fp nm r (fun n => issueD rows n r) had ∧ z ∈ nm ∧ GoodN nm ∧ Rws nm rows ∧ rows.length ≤ 60 ∧ (∀ n ∈ had, 1 ≤ n ∧ n ≤ rows.length) ∧ 0 ≤ r ∧ r ≤ 10 ∧
  ∀ (v : V) (H' : Hp), Same H H' → Tell H' (againD (riseL had) rows r (heldN (heldO (riseL had) rows z)) z) v → Q v H'
theorem ok_setagain {CShelf : Addr} (M : Bl mg) (T : TxShelf K mg CShelf) (F : Fun K "set_again" "set_again" sset_again f fd) (Gheld_for : Cal P w K mg base 2 "held_for" pheld_for (spHeldFor (ShD K CShelf)))
    (Ggaps_of : Cal P w K mg base 3 "gaps_of" pgaps_of (spGapsOf (ShD K CShelf))) : FnOk P w K mg base CX0 4 f fd pset_again (spSetAgain (ShD K CShelf)) := by
  have nd := scset_again.nd
  refine F.ok scset_again (fun vs H Q E h => ?_) (fun cdv A outer s H vs Q E hr h => ?_)
  · obtain ⟨x, z, fp, nm, r, rows, had, rfl, _⟩ := h
    rfl
  obtain ⟨x, z, fp, nm, r, rows, had, rfl, sh, hz, gn, R, l60, hh, r0, r1, k⟩ := h
  refine ⟨_, (pss_cons (ps_set (i := 2) nd rfl (Or.inr rfl) (pe_ix ix_tup (pe_cal Gheld_for (rm hr) rfl (pa_cons (pv 0) (pa_cons (pv 1) pa_nil))) pe_int (fun _ _ => rfl))) (pss_one (ps_ret (pe_callTy call_tuple_of rfl M.tuple PyProof.Rows.boot_tuple (pa_cons (pe_comp ["number", "teller", "names"] ["held_from", "name"] [2, 1] rfl (comp_scope rfl (by decide +kernel) rfl (by decide +kernel) rfl rfl) (pi_tup (pe_cal Ggaps_of (rm hr) rfl (pa_cons (pv 0) pa_nil))) (fun _ _ _ _ _ => (pg_tupK (K := K) (n := 3) rfl rfl (pgs_cons (pg_name (i := 0) (show ((["number", "teller", "names"] : List PySem.Str) ++ (["held_from", "name"] : List PySem.Str)).Nodup from by decide +kernel) rfl (Or.inl rfl)) (pgs_cons (pg_name (i := 1) (show ((["number", "teller", "names"] : List PySem.Str) ++ (["held_from", "name"] : List PySem.Str)).Nodup from by decide +kernel) rfl (Or.inl rfl)) (pgs_cons (pg_name (i := 2) (show ((["number", "teller", "names"] : List PySem.Str) ++ (["held_from", "name"] : List PySem.Str)).Nodup from by decide +kernel) rfl (Or.inl rfl)) pgs_nil))))) (own_tup (own_cons (own_name (by decide)) mono_name (own_cons (own_name (by decide)) mono_name (own_cons (own_name (by decide)) mono_name own_nil mono_nil) (mono_cons mono_name mono_nil)) (mono_cons mono_name (mono_cons mono_name mono_nil)))) (mono_tup (mono_cons mono_name (mono_cons mono_name (mono_cons mono_name mono_nil)))) (fun _ _ _ _ _ => (pts_one (PW.pt (pw_and (pt_cmpR op_gt (pv 0) (pv 3) (nomark _)) (pw_and1 (pt_cmpR (r := rIn K false) op_in_seq (pv 4) (pv 2) (by with_unfolding_all rfl))))))) (fun _ _ _ _ _ => (pe_tup (pa_cons (pv 0) (pa_cons (pv 1) pa_nil))))) pa_nil))))), ?_⟩
  refine ⟨_, rfl, _, rfl, x, z, fp, nm, r, rows, had, rfl, sh, hz, gn, R, fun v H1 s1 tv => ?_⟩
  obtain ⟨a, y, rfl, ea, _⟩ := held_inv tv
  refine ⟨a, _, _, _, rfl, rfl, SqT.of ea, atI_nat rfl, ?_⟩
  have sh1 := shOk.same sh s1
  refine ⟨_, rfl, x, fp, nm, r, rows, had, rfl, sh1, gn, R, l60, hh, r0, r1, fun u H2 s2 tu => ?_⟩
  obtain ⟨b, xs, rfl, eb, _, tb⟩ := tell_tup_inv tu
  have lx := gapsL_len tb
  have ll := lackL_len (riseL had)
  generalize heldN (heldO (riseL had) rows z) = num at *
  refine ⟨b, rfl, ⟨_, SqT.of eb⟩, ?_⟩
  refine comp_tup (xs := xs) (fun i ys H' => Same H2 H' ∧ Tells H' ((((lackL (riseL had)).take i).filter fun n => decide (num < n) && decide (z ∈ gapSet (riseL had) rows r n)).map fun n => .tup [.int n, .int (tellV (riseL had) n r)]) ys) ⟨Same.refl _, .nil⟩ (fun i ys H' hi hp => ?_) (fun i y ys H' hy hp => ?_) (fun ys H' hp => ?_)
  · obtain ⟨g, t⟩ := hp
    refine ⟨SqT.of (g _ _ eb), small1000 ?_⟩
    rw [t.length, List.length_map]
    have := List.length_filter_le (fun n => decide (num < n) && decide (z ∈ gapSet (riseL had) rows r n)) ((lackL (riseL had)).take i)
    rw [List.length_take] at this
    omega
  · obtain ⟨g, t⟩ := hp
    obtain ⟨n, c, d, en, rfl, ec, ed⟩ := tells_gap tb hy
    refine ⟨c, _, rfl, SqT.of (g _ _ ec), rfl, _, _, rfl, _, _, rfl, _, _, rfl, rfl, ?_⟩
    rw [take_snoc en, List.filter_append, List.filter_cons]
    refine ⟨_, rfl, _, rfl, _, _, rfl, rfl, _, rfl, ?_⟩
    have skip : ¬ (decide (num < n) && decide (z ∈ gapSet (riseL had) rows r n)) = true → Same H2 H' ∧ Tells H' (((((lackL (riseL had)).take i).filter fun n => decide (num < n) && decide (z ∈ gapSet (riseL had) rows r n)) ++ (if (decide (num < n) && decide (z ∈ gapSet (riseL had) rows r n)) = true then n :: List.filter (fun n => decide (num < n) && decide (z ∈ gapSet (riseL had) rows r n)) [] else List.filter (fun n => decide (num < n) && decide (z ∈ gapSet (riseL had) rows r n)) [])).map fun n => .tup [.int n, .int (tellV (riseL had) n r)]) ys := fun c => by
      rw [if_neg c, List.filter_nil, List.append_nil]
      exact ⟨g, t⟩
    refine ite2 (fun c => ?_) (fun c => ?_)
    · refine ⟨_, rfl, _, rfl, d, _, rfl, .inr (SqT.of (g _ _ ed)), rfl, flat_strs _, _, rfl, ?_⟩
      rw [if_neg Bool.false_ne_true, inV_strs']
      refine ite2 (fun c2 => ?_) (fun c2 => ?_)
      · refine ⟨_, rfl, _, rfl, (by show 2 ≤ sizeLine; decide), fun q hq => ⟨g.trans (same_new hq _), ?_⟩⟩
        rw [if_pos (by rw [Bool.and_eq_true]; exact ⟨c, c2⟩), List.filter_nil, List.map_append]
        exact Tells.snoc (Tells.keep (same_new hq _) _ _ t) (tell_tup upd_same (by show 2 ≤ 1000000; decide) (.cons (tell_int _) (.cons (tell_int _) .nil)))
      · exact skip (by rw [Bool.and_eq_true]; exact fun z => c2 z.2)
    · exact skip (by rw [Bool.and_eq_true]; exact fun z => c z.1)
  · obtain ⟨g, t⟩ := hp
    rw [lx, List.take_length] at t
    intro D hD
    refine ⟨D, ys, rfl, .inl ⟨SqL.of upd_same, fun q hq => k _ _ (s1.trans (s2.trans (g.trans ((same_new hD _).trans (same_new hq _))))) (tell_tup upd_same ?_ (Tells.keep ((same_new hD _).trans (same_new hq _)) _ _ t))⟩⟩
    rw [List.length_map]
    exact Nat.le_trans (againN_len (riseL had) rows r num z) (by decide)
theorem mem_darkF {ns : List Int} {r n : Int} : n ∈ darkF ns r ↔ n ∈ lackL ns ∧ tellV ns n r = 0 := by
  unfold darkF lwtL
  rw [List.mem_map]
  constructor
  · rintro ⟨⟨a, b⟩, h, rfl⟩
    rw [List.mem_filter, List.mem_map, decide_eq_true_eq] at h
    obtain ⟨⟨m, hm, e⟩, h2⟩ := h
    cases e
    exact ⟨hm, h2⟩
  · rintro ⟨h1, h2⟩
    refine ⟨(n, tellV ns n r), ?_, rfl⟩
    rw [List.mem_filter, List.mem_map, decide_eq_true_eq]
    exact ⟨⟨n, h1, rfl⟩, h2⟩
theorem darkOver_nil {ns : List Int} {r num : Int} : darkOver ns r num = [] ↔ ∀ n ∈ darkF ns r, n ≤ num := by
  unfold darkOver
  rw [List.filter_eq_nil_iff]
  constructor
  · intro h n hn
    obtain ⟨h1, h2⟩ := mem_darkF.mp hn
    have := h n h1
    rw [Bool.and_eq_true, decide_eq_true_eq, decide_eq_true_eq] at this
    rcases Int.lt_or_le num n with q | q
    · exact absurd ⟨q, h2⟩ this
    · exact q
  · intro h n hn
    rw [Bool.and_eq_true, decide_eq_true_eq, decide_eq_true_eq]
    rintro ⟨h1, h2⟩
    have := h n (mem_darkF.mpr ⟨hn, h2⟩)
    omega
theorem behindF_nil {ns : List Int} {r num : Int} : behindF ns r num = [] ↔ darkOver ns r num = [] := by
  rw [darkOver_nil]
  unfold behindF
  rw [List.filter_eq_nil_iff]
  exact ⟨fun h n hn => Int.not_lt.mp fun z => h n hn (decide_eq_true z), fun h n hn z => by have := h n hn; have := of_decide_eq_true z; omega⟩
def spStateOf (Sh : ShP) : Sp := fun vs H Q _ => ∃ (x : Addr) (z : Str) (fp : List Addr) (nm : List Str) (r : Int) (rows : List Row) (had : List Int), vs = [.ref x, .str z] ∧ Sh H x fp nm r (fun n => issueD rows n r) had ∧ z ∈ nm ∧ GoodN nm ∧ Rws nm rows ∧ rows.length ≤ 60 ∧ (∀ n ∈ had, 1 ≤ n ∧ n ≤ rows.length) ∧ 0 ≤ r ∧ r ≤ 10 ∧
  ∀ (H' : Hp), Same H H' → Q (.str (stateS (riseL had) rows r (heldN (heldO (riseL had) rows z)) z)) H'
theorem ok_stateof {CShelf : Addr} (M : Bl mg) (T : TxShelf K mg CShelf) (F : Fun K "state_of" "state_of" sstate_of f fd) (Gheld_for : Cal P w K mg base 2 "held_for" pheld_for (spHeldFor (ShD K CShelf)))
    (Gset_again : Cal P w K mg base 4 "set_again" pset_again (spSetAgain (ShD K CShelf))) (GShelf_had : MCal P w K mg base 1 CShelf "had" pShelf_had (spShHad (ShD K CShelf)))
    (Gdark_numbers_behind : Cal P w K mg base 4 "dark_numbers_behind" pdark_numbers_behind (spBehind K)) : FnOk P w K mg base CX0 5 f fd pstate_of (spStateOf (ShD K CShelf)) := by
  have nd := scstate_of.nd
  refine F.ok scstate_of (fun vs H Q E h => ?_) (fun cdv A outer s H vs Q E hr h => ?_)
  · obtain ⟨x, z, fp, nm, r, rows, had, rfl, _⟩ := h
    rfl
  obtain ⟨x, z, fp, nm, r, rows, had, rfl, sh, hz, gn, R, l60, hh, r0, r1, k⟩ := h
  refine ⟨_, (pss_cons (ps_if (pt_cmpR op_gt (pe_callB call_len_seq rfl M.len PySem.boot_len (pa_cons (pe_cal Gset_again (rm hr) rfl (pa_cons (pv 0) (pa_cons (pv 1) pa_nil))) pa_nil)) pe_int (nomark _)) (pss_one (ps_ret (pe_con_str rfl M.STALE))) pss_nil) (pss_cons (ps_set (i := 2) nd rfl (Or.inl rfl) (pe_ix ix_tup (pe_cal Gheld_for (rm hr) rfl (pa_cons (pv 0) (pa_cons (pv 1) pa_nil))) pe_int (fun _ _ => rfl))) (pss_cons (ps_set (i := 3) nd rfl (Or.inl rfl) (pe_cal Gdark_numbers_behind (rm hr) rfl (pa_cons (pe_mcal0 GShelf_had (rm hr) (pv 0)) (pa_cons (pe_fld (pv 0) rfl) (pa_cons (pv 2) pa_nil))))) (pss_one (ps_ret (pe_ifExp (pt_cmpR op_gt (pe_callB call_len_seq rfl M.len PySem.boot_len (pa_cons (pv 3) pa_nil)) pe_int (nomark _)) (pe_con_str rfl M.OPEN) (pe_con_str rfl M.SURE))))))), ?_⟩
  refine ⟨_, rfl, _, rfl, x, z, fp, nm, r, rows, had, rfl, sh, hz, gn, R, l60, hh, r0, r1, fun v H1 s1 tv => ?_⟩
  obtain ⟨a, xs, rfl, ea, _, ta⟩ := tell_tup_inv tv
  have lx := ta.length
  rw [List.length_map] at lx
  refine ⟨a, xs, rfl, .inr (SqT.of ea), _, _, rfl, rfl, _, rfl, ite2 (fun c => ?_) (fun c => ?_)⟩
  · have c' := dec_of c
    have e := k H1 s1
    unfold stateS at e
    rw [if_pos (by omega)] at e
    exact e
  · have c' := dec_no c
    have sh1 := shOk.same sh s1
    refine ⟨_, rfl, _, rfl, x, z, fp, nm, r, rows, had, rfl, sh1, hz, gn, R, fun v H2 s2 tv => ?_⟩
    obtain ⟨b, y, rfl, eb, _⟩ := held_inv tv
    refine ⟨b, _, _, _, rfl, rfl, SqT.of eb, atI_nat rfl, ?_⟩
    have sh2 := shOk.same sh1 s2
    obtain ⟨dx, fs, h1, lm, lr⟩ : ∃ dx fs, H2 x = some (.ins CShelf dx fs) ∧ fs.lookup ("had" : Str) = none ∧ fs.lookup ("reach" : Str) = some (V.int r) := by
      obtain ⟨dx, pn, pd, fs, kvs, _, h1, _, _, _, _, lr, _, lm, _⟩ := sh2
      exact ⟨dx, fs, h1, lm _ (by simp), lr⟩
    have h60 : ∀ n ∈ riseL had, 1 ≤ n ∧ n ≤ 60 := fun n hn => by have := hh n (mem_riseL.mp hn).2; omega
    refine ⟨_, rfl, x, dx, fs, rfl, h1, lm, x, fp, nm, r, _, had, rfl, sh2, fun l H3 s3 e3 => ?_⟩
    refine ⟨_, rfl, x, CShelf, dx, fs, _, rfl, s3 _ _ h1, T.cl, T.n_reach, lr, _, rfl, l, riseL had, r, _, rfl, .inr (SqT.of e3), h60, Nat.le_trans (riseL_len had) (by decide), fun d H4 s4 e4 => ?_⟩
    have e := k H4 (s1.trans (s2.trans (s3.trans s4)))
    unfold stateS at e
    rw [if_neg (by omega)] at e
    refine ⟨_, rfl, d, _, rfl, .inr (SqT.of e4), _, _, rfl, rfl, _, rfl, ?_⟩
    rw [List.length_map]
    refine ite2 (fun c => ?_) (fun c => ?_)
    · have c2 := dec_of c
      rw [if_neg (fun z => by rw [behindF_nil.mpr z] at c2; exact absurd c2 (by decide))] at e
      exact e
    · have c2 := dec_no c
      rw [if_pos (behindF_nil.mp (List.length_eq_zero_iff.mp (by omega)))] at e
      exact e
theorem riseL_idem (had : List Int) : riseL (riseL had) = riseL had := rise_ext (riseL_rise _) (riseL_rise _) fun x => by
  rw [mem_riseL, mem_riseL]
  exact ⟨fun h => h.2, fun h => ⟨h.1, h⟩⟩
def spStateHeld (Sh : ShP) : Sp := fun vs H Q _ => ∃ (x : Addr) (z : Str) (fp : List Addr) (nm : List Str) (r : Int) (rows : List Row) (had : List Int), vs = [.ref x, .str z] ∧ Sh H x fp nm r (fun n => issueD rows n r) had ∧ z ∈ nm ∧ GoodN nm ∧ Rws nm rows ∧ rows.length ≤ 60 ∧ (∀ n ∈ had, 1 ≤ n ∧ n ≤ rows.length) ∧ 0 ≤ r ∧ r ≤ 10 ∧
  ∀ (q : Addr) (y : V) (H' : Hp), Same H H' → H' q = some (.tup [.str (stateS (riseL had) rows r (heldN (heldO (riseL had) rows z)) z), .int (heldN (heldO (riseL had) rows z)), y]) → Tell H' (heldV (heldO (riseL had) rows z)) y → Q (.ref q) H'
theorem ok_stateheld {CShelf : Addr} (M : Bl mg) (F : Fun K "state_and_held" "state_and_held" sstate_and_held f fd) (Gheld_for : Cal P w K mg base 2 "held_for" pheld_for (spHeldFor (ShD K CShelf)))
    (Gstate_of : Cal P w K mg base 5 "state_of" pstate_of (spStateOf (ShD K CShelf))) : FnOk P w K mg base CX0 6 f fd pstate_and_held (spStateHeld (ShD K CShelf)) := by
  have nd := scstate_and_held.nd
  refine F.ok scstate_and_held (fun vs H Q E h => ?_) (fun cdv A outer s H vs Q E hr h => ?_)
  · obtain ⟨x, z, fp, nm, r, rows, had, rfl, _⟩ := h
    rfl
  obtain ⟨x, z, fp, nm, r, rows, had, rfl, sh, hz, gn, R, l60, hh, r0, r1, k⟩ := h
  refine ⟨_, (pss_one (ps_ret (pe_op (op_catTK (K := K) rfl) (pe_tup (pa_cons (pe_cal Gstate_of (rm hr) rfl (pa_cons (pv 0) (pa_cons (pv 1) pa_nil))) pa_nil)) (pe_cal Gheld_for (rm hr) rfl (pa_cons (pv 0) (pa_cons (pv 1) pa_nil)))))), ?_⟩
  refine ⟨_, rfl, _, rfl, x, z, fp, nm, r, rows, had, rfl, sh, hz, gn, R, l60, hh, r0, r1, fun H1 s1 => ?_⟩
  refine ⟨(by show 1 ≤ sizeLine; decide), fun a ha => ?_⟩
  have g2 := s1.trans (same_new ha (.tup [.str (stateS (riseL had) rows r (heldN (heldO (riseL had) rows z)) z)]))
  have e2 : upd H1 a (.tup [.str (stateS (riseL had) rows r (heldN (heldO (riseL had) rows z)) z)]) a = some (.tup [.str (stateS (riseL had) rows r (heldN (heldO (riseL had) rows z)) z)]) := upd_same
  generalize upd H1 a (.tup [.str (stateS (riseL had) rows r (heldN (heldO (riseL had) rows z)) z)]) = H2 at g2 e2
  refine ⟨_, rfl, _, rfl, x, z, fp, nm, r, rows, had, rfl, shOk.same sh g2, hz, gn, R, fun v H3 s3 tv => ?_⟩
  obtain ⟨b, y, rfl, eb, tb⟩ := held_inv tv
  exact ⟨a, b, _, _, rfl, rfl, SqT.of (s3 _ _ e2), SqT.of eb, by simp, (by show 3 ≤ sizeLine; decide), fun z => (nomatch z), fun _ q hq => k q y _ (g2.trans (s3.trans (same_new hq _))) upd_same (Tell.keep (same_new hq _) _ _ tb)⟩
theorem ok_knowledge {CShelf : Addr} (M : Bl mg) (T : TxShelf K mg CShelf) (F : Fun K "knowledge" "knowledge" sknowledge f fd) (Gstate_and_held : Cal P w K mg base 6 "state_and_held" pstate_and_held (spStateHeld (ShD K CShelf))) : FnOk P w K mg base CX0 7 f fd pknowledge (spKnow (ShD K CShelf)) := by
  have nd := scknowledge.nd
  refine F.ok scknowledge (fun vs H Q E h => ?_) (fun cdv A outer s H vs Q E hr h => ?_)
  · obtain ⟨x, fp, nm, r, rows, had, rfl, _⟩ := h
    rfl
  obtain ⟨x, fp, nm, r, rows, had, rfl, sh, gn, R, l60, hh, r0, r1, k⟩ := h
  refine ⟨_, (pss_one (ps_ret (pe_callTy call_tuple_of rfl M.tuple PyProof.Rows.boot_tuple (pa_cons (pe_comp ["name"] ["shelf"] [0] rfl (comp_scope rfl (by decide +kernel) rfl (by decide +kernel) rfl rfl) (pi_tup (pe_fld (pv 0) rfl)) (fun _ _ _ _ _ => (pg_name (i := 0) (show ((["name"] : List PySem.Str) ++ (["shelf"] : List PySem.Str)).Nodup from by decide +kernel) rfl (Or.inl rfl))) (own_name (by decide)) mono_name (fun _ _ _ _ _ => pts_nil) (fun _ _ _ _ _ => (pe_op (op_catTK (K := K) rfl) (pe_tup (pa_cons (pv 0) pa_nil)) (pe_cal Gstate_and_held (rm hr) rfl (pa_cons (pv 1) (pa_cons (pv 0) pa_nil)))))) pa_nil)))), ?_⟩
  obtain ⟨dx, pn, fs, h1, h3, ln⟩ : ∃ dx pn fs, H x = some (.ins CShelf dx fs) ∧ H pn = some (.tup (nm.map V.str)) ∧ fs.lookup ("names" : Str) = some (V.ref pn) := by
    obtain ⟨dx, pn, pd, fs, kvs, _, h1, _, h3, _, l1, _⟩ := sh
    exact ⟨dx, pn, fs, h1, h3, l1⟩
  have n12 := gn.hi
  refine ⟨_, rfl, x, CShelf, dx, fs, _, rfl, h1, T.cl, T.n_names, ln, pn, rfl, ⟨_, SqT.of h3⟩, ?_⟩
  refine comp_tup (xs := nm.map V.str) (fun i ys H' => Same H H' ∧ Tells H' ((nm.take i).map (tabD (riseL had) rows r)) ys) ⟨Same.refl _, by rw [List.take_zero]; exact .nil⟩ (fun i ys H' hi hp => ?_) (fun i y ys H' hy hp => ?_) (fun ys H' hp => ?_)
  · obtain ⟨g, t⟩ := hp
    refine ⟨SqT.of (g _ _ h3), small1000 ?_⟩
    rw [t.length, List.length_map, List.length_take]
    omega
  · obtain ⟨g, t⟩ := hp
    rw [List.getElem?_map] at hy
    obtain ⟨z, ez, rfl⟩ := Option.map_eq_some_iff.mp hy
    have hz := List.mem_of_getElem? ez
    have sh1 := shOk.same sh g
    refine ⟨_, rfl, (by show 1 ≤ sizeLine; decide), fun a ha => ?_⟩
    have g2 := same_new ha (.tup [.str z])
    have e2 : upd H' a (.tup [.str z]) a = some (.tup [.str z]) := upd_same
    generalize upd H' a (.tup [.str z]) = H2 at g2 e2
    refine ⟨_, rfl, _, rfl, x, z, fp, nm, r, rows, had, rfl, shOk.same sh1 g2, hz, gn, R, l60, hh, r0, r1, fun b y H3 s3 eb tb => ?_⟩
    refine ⟨a, b, _, _, rfl, rfl, SqT.of (s3 _ _ e2), SqT.of eb, by simp, (by show 4 ≤ sizeLine; decide), fun z => (nomatch z), fun _ q hq => ⟨g.trans (g2.trans (s3.trans (same_new hq _))), ?_⟩⟩
    rw [List.take_add_one, ez, List.map_append]
    refine Tells.snoc (Tells.keep (g2.trans (s3.trans (same_new hq _))) _ _ t) ?_
    unfold tabD
    rw [riseL_idem]
    exact tell_tup upd_same (by show 4 ≤ 1000000; decide) (.cons (tell_str _) (.cons (tell_str _) (.cons (tell_int _) (.cons (Tell.keep (same_new hq _) _ _ tb) .nil))))
  · obtain ⟨g, t⟩ := hp
    rw [List.length_map, List.take_length] at t
    intro D hD
    refine ⟨D, ys, rfl, .inl ⟨SqL.of upd_same, fun q hq => k _ _ (g.trans ((same_new hD _).trans (same_new hq _))) (tell_tup upd_same ?_ (Tells.keep ((same_new hD _).trans (same_new hq _)) _ _ t))⟩⟩
    rw [List.length_map]
    omega
def orP (acc : Option (Int × Int)) (n : Int) (v : Option Int) : Option (Int × Int) :=
  match acc with
  | some p => some p
  | none => v.map fun v => (n, v)
theorem heldO_cons (n : Int) (ns : List Int) (rows : List Row) (z : Str) : heldO (n :: ns) rows z = orP (heldO ns rows z) n (valL (rowAt rows n) z) := by
  have go : ∀ (ns : List Int) (acc : Option (Int × Int)), ns.foldl (fun acc n => match valL (rowAt rows n) z with | some v => some (n, v) | none => acc) acc = match ns.foldl (fun acc n => match valL (rowAt rows n) z with | some v => some (n, v) | none => acc) none with | some p => some p | none => acc := by
    intro ns
    induction ns with
    | nil => intro acc; rfl
    | cons n r ih =>
      intro acc
      rw [List.foldl_cons, List.foldl_cons, ih, ih (match valL (rowAt rows n) z with | some v => some (n, v) | none => none)]
      cases r.foldl (fun acc n => match valL (rowAt rows n) z with | some v => some (n, v) | none => acc) none with
      | some p => rfl
      | none => cases valL (rowAt rows n) z <;> rfl
  unfold heldO
  rw [List.foldl_cons]
  refine (go ns _).trans ?_
  cases valL (rowAt rows n) z <;> rfl
theorem heldO_mem {rows : List Row} {z : Str} {n v : Int} : ∀ {ns : List Int}, heldO ns rows z = some (n, v) → n ∈ ns
  | [], h => by cases h
  | m :: ns, h => by
    rw [heldO_cons] at h
    cases e : heldO ns rows z with
    | some p =>
      rw [e] at h
      have : p = (n, v) := Option.some.inj h
      rw [this] at e
      exact List.mem_cons_of_mem _ (heldO_mem e)
    | none =>
      rw [e] at h
      cases e2 : valL (rowAt rows m) z with
      | none => rw [e2] at h; cases h
      | some x =>
        rw [e2] at h
        have : (m, x) = (n, v) := Option.some.inj h
        cases this
        exact List.mem_cons_self
theorem dnI_rev (m : Nat) : (dnI (m : Int) m).reverse = upI 1 m := by
  refine List.ext_getElem? fun i => ?_
  have ld : (dnI (m : Int) m).length = m := dnI_len _ _
  by_cases h : i < m
  · rw [List.getElem?_reverse (by rw [ld]; exact h), ld]
    unfold dnI upI
    rw [List.getElem?_map, List.getElem?_map, List.getElem?_range (by omega), List.getElem?_range h]
    show some ((m : Int) - ((m - 1 - i : Nat) : Int)) = some (1 + (i : Int))
    exact congrArg some (by omega)
  · rw [List.getElem?_eq_none (by rw [List.length_reverse, ld]; omega), List.getElem?_eq_none (by rw [upI_length]; omega)]
theorem val_before {w : Row} {z : Str} {j : Nat} {p : Str × Int} (nd : (w.map Prod.fst).Nodup) (h : w[j]? = some p) (e : p.1 = z) : valL (w.take j) z = none := by
  refine valL_none fun m => ?_
  have t : w.take (j + 1) = w.take j ++ [p] := take_snoc h
  have n2 : ((w.take (j + 1)).map Prod.fst).Nodup := ((List.take_sublist _ _).map _).nodup nd
  rw [t, List.map_append, List.nodup_append] at n2
  exact n2.2.2 z m z (by rw [List.map_cons, e]; exact List.mem_cons_self) rfl
def spLast (K : PySem.W.Frag) : Sp := fun vs H Q _ => ∃ (lr : Addr) (us : List V) (rows : List Row) (m : Nat) (z : Str), vs = [.ref lr, .int m, .str z] ∧ SqL K H lr us ∧ Tells H (rows.map rowD) us ∧ m ≤ rows.length ∧ m ≤ 1000 ∧ (∀ w ∈ rows, (w.map Prod.fst).Nodup) ∧
  ∀ (v : V) (H' : Hp), Same H H' → Tell H' (heldD (heldO (upI 1 m) rows z)) v → Q v H'
theorem ok_llast (M : Bl mg) (F : Fun K "_law_last" "_law_last" s_law_last f fd) : FnOk P w K mg base CX0 1 f fd p_law_last (spLast K) := by
  have nd := sc_law_last.nd
  refine F.ok sc_law_last (fun vs H Q E h => ?_) (fun cdv A outer s H vs Q E hr h => ?_)
  · obtain ⟨lr, us, rows, m, z, rfl, _⟩ := h
    rfl
  obtain ⟨lr, us, rows, m, z, rfl, hR, tl, hm, m1000, ndr, q⟩ := h
  refine ⟨_, (pss_cons (ps_set (i := 3) nd rfl (Or.inl rfl) (pe_tup (pa_cons pe_int (pa_cons pe_non pa_nil)))) (pss_cons (ps_for PassesOwn.never rfl (pi_rangeD rfl M.range (pa_cons (pv 1) (pa_cons pe_int (pa_cons (pe_un un_neg pe_int) pa_nil)))) (pg_name (i := 4) nd rfl (Or.inl rfl)) (pss_one (ps_for PassesOwn.never rfl (pi_tup (pe_ix ix_list (pv 0) (pe_op op_sub (pv 4) pe_int) (fun _ _ => rfl))) (pg_name (i := 5) nd rfl (Or.inl rfl)) (pss_one (ps_if (PW.pt (pw_and (pt_cmpR op_eq (pe_ix ix_tup (pv 5) pe_int (fun _ _ => rfl)) (pv 2) (nomark _)) (pw_and1 (pt_cmpR op_eq (pe_ix ix_tup (pv 3) pe_int (fun _ _ => rfl)) pe_int (nomark _))))) (pss_one (ps_set (i := 3) nd rfl (Or.inl rfl) (pe_tup (pa_cons (pv 4) (pa_cons (pe_ix ix_tup (pv 5) pe_int (fun _ _ => rfl)) pa_nil))))) pss_nil))))) (pss_one (ps_ret (pv 3))))), ?_⟩
  refine ⟨(by show 2 ≤ sizeLine; decide), fun t0 ht0 => ?_⟩
  have s1 := same_new ht0 (.tup [V.int 0, V.non])
  have e1 : upd H t0 (.tup [V.int 0, V.non]) t0 = some (.tup [V.int 0, V.non]) := upd_same
  generalize upd H t0 (.tup [V.int 0, V.non]) = H1 at s1 e1
  refine ⟨_, rfl, _, rfl, (m : Int), 0, rfl, ⟨by omega, by omega, by decide, by decide⟩, ?_⟩
  have e0 : ((m : Int) - 0).toNat = m := by omega
  rw [e0]
  refine for_down (hi := (m : Int)) (n := m) (fun j σ H' => ∃ (hv : V) (o1 o2 : Option V), Same H1 H' ∧ Tell H' (heldD (heldO (dnI m j).reverse rows z)) hv ∧ σ = [some (.ref lr), some (.int m), some (.str z), some hv, o1, o2])
    ⟨.ref t0, none, none, Same.refl _, tell_tup e1 (by show 2 ≤ 1000000; decide) (.cons (tell_int 0) (.cons tell_non .nil)), rfl⟩ (fun j σ H' hj hp => ?_) (fun σ H' hp => ?_)
  · obtain ⟨hv, o1, o2, g, th, rfl⟩ := hp
    have hn1 : 1 ≤ (m : Int) - (j : Int) := by omega
    have er : (dnI (m : Int) (j + 1)).reverse = ((m : Int) - (j : Int)) :: (dnI m j).reverse := by rw [dnI_succ, List.reverse_append]; rfl
    have pos : ∀ n v, heldO (dnI (m : Int) j).reverse rows z = some (n, v) → 1 ≤ n := fun n v e => by
      have := mem_dnI.mp (List.mem_reverse.mp (heldO_mem e))
      omega
    have st : heldO (dnI (m : Int) (j + 1)).reverse rows z = orP (heldO (dnI (m : Int) j).reverse rows z) ((m : Int) - (j : Int)) (valL (rowAt rows ((m : Int) - (j : Int))) z) := by rw [er, heldO_cons]
    have hnm : (m : Int) - (j : Int) ≤ rows.length := by omega
    generalize heldO (dnI (m : Int) j).reverse rows z = acc at th pos st
    generalize (m : Int) - (j : Int) = n at hn1 hnm st
    obtain ⟨v, _, av, tv⟩ := tells_row (Tells.keep (s1.trans g) _ _ tl) (k := n) hn1 hnm
    obtain ⟨ar, xs, rfl, er', _, tp⟩ := tell_tup_inv tv
    have lw : xs.length = (rowAt rows n).length := by rw [tp.length, List.length_map]
    have ndw : ((rowAt rows n).map Prod.fst).Nodup := by
      have hk : (n - 1).toNat < rows.length := by omega
      have : rowAt rows n = rows[(n - 1).toNat] := by
        unfold rowAt
        rw [List.getD_eq_getElem?_getD, List.getElem?_eq_getElem hk]
        rfl
      rw [this]
      exact ndr _ (List.getElem_mem hk)
    refine ⟨_, rfl, _, rfl, _, _, rfl, rfl, lr, us, _, _, rfl, rfl, (s1.trans g).seq hR, av, ar, rfl, ⟨_, SqT.of er'⟩, ?_⟩
    refine for_tup (K := K) (a := ar) (xs := xs) (fun i σ H2' => ∃ (hv : V) (o2 : Option V), Same H' H2' ∧ Tell H2' (heldD (orP acc n (valL ((rowAt rows n).take i) z))) hv ∧
        σ = [some (.ref lr), some (.int m), some (.str z), some hv, some (.int n), o2]) ⟨hv, o2, Same.refl _, by cases acc <;> exact th, rfl⟩ (fun j σ H2' _ ⟨_, _, g2, _⟩ => SqT.of (g2 _ _ er')) ?_ ?_
    · rintro i y σ H2' hy ⟨hv2, o3, g2, th2, rfl⟩
      obtain ⟨pq, b, e1', rfl, e2'⟩ := tells_pairs tp i y hy
      have sb : SqT K H2' b [V.str pq.1, V.int pq.2] := SqT.of (g2 _ _ e2')
      have tk : (rowAt rows n).take (i + 1) = (rowAt rows n).take i ++ [pq] := take_snoc e1'
      obtain ⟨ah, yh, rfl, eh, _⟩ := held_inv th2
      refine ⟨_, rfl, b, _, 0, _, rfl, rfl, sb, rfl, _, rfl, rfl, _, rfl, ?_⟩
      refine ite2 (fun c => ?_) (fun c => ?_)
      · have c' : pq.1 = z := by
          have := dec_of c
          injection this
        refine ⟨_, rfl, ah, _, 0, _, rfl, rfl, SqT.of eh, rfl, rfl, _, rfl, ite2 (fun c2 => ?_) (fun c2 => ?_)⟩
        · have c2' : heldN (orP acc n (valL ((rowAt rows n).take i) z)) = 0 := by
            have := dec_of c2
            injection this
          refine ⟨_, rfl, _, rfl, b, _, 1, _, rfl, rfl, sb, rfl, (by show 2 ≤ sizeLine; decide), fun t ht => ?_⟩
          refine ⟨.ref t, _, g2.trans (same_new ht _), ?_, rfl⟩
          cases acc with
          | some p =>
            have := pos p.1 p.2 rfl
            have : p.1 = 0 := c2'
            omega
          | none =>
            rw [tk, valL_snoc, if_pos c']
            exact tell_tup upd_same (by show 2 ≤ 1000000; decide) (.cons (tell_int _) (.cons (tell_int _) .nil))
        · refine ⟨.ref ah, _, g2, ?_, rfl⟩
          cases acc with
          | some p => exact th2
          | none =>
            refine absurd ?_ (dec_no c2)
            rw [val_before ndw e1' c']
            rfl
      · have c' : ¬ pq.1 = z := fun e => dec_no c (by rw [e])
        refine iteF ⟨.ref ah, _, g2, ?_, rfl⟩
        rw [tk, valL_snoc, if_neg c']
        exact th2
    · rintro σ H2' ⟨hv2, o3, g2, th2, rfl⟩
      rw [lw, List.take_length, ← st] at th2
      exact ⟨hv2, _, _, g.trans g2, th2, rfl⟩
  · obtain ⟨hv, o1, o2, g, th, rfl⟩ := hp
    rw [dnI_rev] at th
    exact ⟨_, rfl, q hv H' (s1.trans g) th⟩
def deedD : Deed → DV
  | (none, n) => .tup [.str "write", .int n]
  | (some r, n) => .tup [.str "deliver", .int r, .int n]
theorem deed_tell {H : Hp} {u : V} {d : Deed} (h : DeedAt H u d) : Tell H (deedD d) u := by
  obtain ⟨b, rfl, e⟩ := h
  obtain ⟨a, n⟩ := d
  cases a with
  | none => exact tell_tup e (by show 2 ≤ 1000000; decide) (.cons (tell_str _) (.cons (tell_int _) .nil))
  | some r => exact tell_tup e (by show 3 ≤ 1000000; decide) (.cons (tell_str _) (.cons (tell_int _) (.cons (tell_int _) .nil)))
theorem deeds_get {H : Hp} : ∀ {us : List V} {log : List Deed}, Paired (DeedAt H) us log → ∀ (i : Nat) (d : Deed), log[i]? = some d → ∃ u, us[i]? = some u ∧ DeedAt H u d := by
  intro us log h
  induction h with
  | nil => intro i d e; simp at e
  | cons h t ih =>
    intro i d e
    cases i with
    | zero =>
      simp at e
      subst e
      exact ⟨_, rfl, h⟩
    | succ i =>
      obtain ⟨u, q1, q2⟩ := ih i d (by simpa using e)
      exact ⟨u, by simpa using q1, q2⟩
def spBkLatest (Bk : BkP) : Sp := fun vs H Q _ => ∃ (p : Addr) (fp : List Addr) (zs : List Str) (r k : Int) (rows : List Row) (log : List Deed), vs = [.ref p] ∧ Bk H p fp zs r k rows log ∧ ∀ H', Same H H' → Q (.int rows.length) H'
def spBkIssue (Bk : BkP) : Sp := fun vs H Q _ => ∃ (p : Addr) (fp : List Addr) (zs : List Str) (r k : Int) (rows : List Row) (log : List Deed) (n : Int), vs = [.ref p, .int n] ∧ Bk H p fp zs r k rows log ∧ 1 ≤ n ∧ n ≤ rows.length ∧
  ∀ (v : V) (H' : Hp), Same H H' → Tell H' (issueD rows n r) v → Q v H'
def spBkDeed (Bk : BkP) : Sp := fun vs H Q _ => ∃ (p : Addr) (fp : List Addr) (zs : List Str) (r k : Int) (rows : List Row) (log : List Deed) (i : Nat) (d : Deed), vs = [.ref p, .int ((i : Int) + 1)] ∧ Bk H p fp zs r k rows log ∧ log[i]? = some d ∧
  ∀ v, Tell H (deedD d) v → Q v H
theorem ok_bklatest {CBook COffice : Addr} (M : Bl mg) (T : TxBook K mg CBook) (F : Fun K "latest" "Book.latest" sBook_latest f fd) (GOffice_latest : MCal P w K mg base 1 COffice "latest" pOffice_latest (spOfLatest (OfD K COffice))) : FnOk P w K mg base CX0 2 f fd pBook_latest (spBkLatest (BkD K CBook COffice)) := by
  have nd := scBook_latest.nd
  refine F.ok scBook_latest (fun vs H Q E h => ?_) (fun cdv A outer s H vs Q E hr h => ?_)
  · obtain ⟨p, fp, zs, r, k, rows, log, rfl, _⟩ := h
    rfl
  obtain ⟨p, fp, zs, r, k, rows, log, rfl, ⟨dx, po, pd, fs, fo, us, rfl, B⟩, q⟩ := h
  refine ⟨_, (pss_one (ps_ret (pe_mcal0 GOffice_latest (rm hr) (pe_fld (pv 0) rfl)))), ?_⟩
  obtain ⟨dxo, pno, plo, fso, xso, efo, h1, h2, h3, h4, l1, l2, l3, lmo, _⟩ := id B.of
  exact ⟨_, rfl, p, CBook, dx, fs, _, rfl, B.hp, T.cl, T.n_office, B.lo, po, dxo, fso, rfl, h1, lmo _ (by simp), po, fo, zs, r, rows, rfl, B.of, q⟩
theorem ok_bkissue {CBook COffice : Addr} (M : Bl mg) (T : TxBook K mg CBook) (F : Fun K "issue" "Book.issue" sBook_issue f fd) (GOffice_issue : MCal P w K mg base 1 COffice "issue" pOffice_issue (spOfIssue (OfD K COffice))) : FnOk P w K mg base CX0 2 f fd pBook_issue (spBkIssue (BkD K CBook COffice)) := by
  have nd := scBook_issue.nd
  refine F.ok scBook_issue (fun vs H Q E h => ?_) (fun cdv A outer s H vs Q E hr h => ?_)
  · obtain ⟨p, fp, zs, r, k, rows, log, n, rfl, _⟩ := h
    rfl
  obtain ⟨p, fp, zs, r, k, rows, log, n, rfl, ⟨dx, po, pd, fs, fo, us, rfl, B⟩, n1, n2, q⟩ := h
  refine ⟨_, (pss_one (ps_ret (pe_mcal GOffice_issue (rm hr) (pe_fld (pv 0) rfl) (pa_cons (pv 1) pa_nil)))), ?_⟩
  obtain ⟨dxo, pno, plo, fso, xso, efo, h1, h2, h3, h4, l1, l2, l3, lmo, _⟩ := id B.of
  exact ⟨_, rfl, p, CBook, dx, fs, _, rfl, B.hp, T.cl, T.n_office, B.lo, po, dxo, fso, rfl, h1, lmo _ (by simp), _, rfl, po, fo, zs, r, rows, n, rfl, B.of, n1, n2, q⟩
theorem ok_bkdeed {CBook COffice : Addr} (M : Bl mg) (T : TxBook K mg CBook) (F : Fun K "deed" "Book.deed" sBook_deed f fd) : FnOk P w K mg base CX0 1 f fd pBook_deed (spBkDeed (BkD K CBook COffice)) := by
  have nd := scBook_deed.nd
  refine F.ok scBook_deed (fun vs H Q E h => ?_) (fun cdv A outer s H vs Q E hr h => ?_)
  · obtain ⟨p, fp, zs, r, k, rows, log, i, d, rfl, _⟩ := h
    rfl
  obtain ⟨p, fp, zs, r, k, rows, log, i, d, rfl, ⟨dx, po, pd, fs, fo, us, rfl, B⟩, ed, q⟩ := h
  refine ⟨_, (pss_cons (ps_if (PW.pt (pw_or (pt_cmpR op_lt (pv 1) pe_int (nomark _)) (pw_or1 (pt_cmpR op_gt (pv 1) (pe_callB call_len_seq rfl M.len PySem.boot_len (pa_cons (pe_fld (pv 0) rfl) pa_nil)) (nomark _))))) (pss_one ps_never) pss_nil) (pss_one (ps_ret (pe_ix ix_list (pe_fld (pv 0) rfl) (pe_op op_sub (pv 1) pe_int) (fun _ _ => rfl))))), ?_⟩
  have lu := deeds_len B.ds
  have hi := (List.getElem?_eq_some_iff.mp ed).1
  obtain ⟨u, eu, du⟩ := deeds_get B.ds i d ed
  have av : atI us ((i : Int) + 1 - 1) = some u := by
    rw [Int.add_sub_cancel]
    exact atI_nat eu
  refine ⟨_, rfl, _, _, rfl, rfl, _, rfl, ite2 (fun q => absurd (dec_of q) (by omega)) fun _ => ?_⟩
  refine ⟨_, rfl, _, rfl, p, CBook, dx, fs, _, rfl, B.hp, T.cl, T.n_done, B.ld, pd, us, rfl, .inl (SqL.of B.hd), _, _, rfl, rfl, _, rfl, ite2 (fun q => absurd (dec_of q) (by omega)) fun _ => ?_⟩
  exact ⟨_, rfl, p, CBook, dx, fs, _, rfl, B.hp, T.cl, T.n_done, B.ld, _, rfl, _, _, rfl, rfl, pd, us, _, u, rfl, rfl, SqL.of B.hd, av, q u (deed_tell du)⟩
def spLaw (K : PySem.W.Frag) : Sp := fun vs H Q _ => ∃ (a : Addr) (ns : List Int), vs = [.ref a] ∧ SqL K H a (ns.map V.int) ∧ ns.length ≤ 63 ∧ ∀ H', Q (.bl true) H'
theorem rows12 {nm : List Str} {rows : List Row} (R : Rws nm rows) (h : nm.length ≤ 12) : ∀ w ∈ rows, w.length ≤ 12 := fun w hw => by
  have := (R.sub w hw).length_le
  rw [List.length_map] at this
  omega
theorem goodRow {nm : List Str} {rows : List Row} {w : Row} (R : Rws nm rows) (nd : nm.Nodup) (hw : w ∈ rows) : GoodR nm w ∧ inOrder nm w = w := by
  have sb := R.sub w hw
  exact ⟨⟨sb.nodup nd, fun p hp => sb.subset (List.mem_map_of_mem hp), fun p hp => R.val w hw p hp⟩, inOrder_row nd sb⟩
def HL (H0 H : Hp) (u : V) (p : Str × Int) : Prop := ∃ b, u = .ref b ∧ H b = some (.lst [.str p.1, .int p.2]) ∧ H0 b = none
theorem HL.keep {H0 H H' : Hp} (g : Same H H') : ∀ {us : List V} {pr : Row}, Paired (HL H0 H) us pr → Paired (HL H0 H') us pr
  | _, _, .nil => .nil
  | _, _, .cons ⟨b, e, h, n⟩ t => .cons ⟨b, e, g _ _ h, n⟩ (HL.keep g t)
theorem HL.but {H0 H H' : Hp} {fp : List Addr} (g : SameBut fp H H') (no : ∀ {b : Addr}, H0 b = none → b ∉ fp) : ∀ {us : List V} {pr : Row}, Paired (HL H0 H) us pr → Paired (HL H0 H') us pr
  | _, _, .nil => .nil
  | _, _, .cons ⟨b, e, h, n⟩ t => .cons ⟨b, e, g _ _ h (no n), n⟩ (HL.but g no t)
theorem HL.hand {K : PySem.W.Frag} {H0 H : Hp} {fp : List Addr} (no : ∀ {b : Addr}, H0 b = none → b ∉ fp) : ∀ {us : List V} {pr : Row}, Paired (HL H0 H) us pr → Paired (HandRow K H fp) us pr
  | _, _, .nil => .nil
  | _, _, .cons ⟨b, e, h, n⟩ t => .cons ⟨b, e, .inl (SqL.of h), no n⟩ (HL.hand no t)
def AllL (H0 : Hp) (D : Addr) (G : Hp) (ys : List V) : Prop := ∀ u ∈ ys, ∃ (b : Addr) (s : Str) (v : Int), u = .ref b ∧ G b = some (.lst [.str s, .int v]) ∧ H0 b = none ∧ b ≠ D
theorem AllL.of {H0 H : Hp} {D : Addr} (nD : H D = none) : ∀ {us : List V} {pr : Row}, Paired (HL H0 H) us pr → AllL H0 D H us
  | _, _, .nil => fun _ h => nomatch h
  | _, _, .cons ⟨b, e, h, n⟩ t => fun u hu => by
    rcases List.mem_cons.mp hu with rfl | hu
    · exact ⟨b, _, _, e, h, n, ne_of_none h nD⟩
    · exact AllL.of nD t u hu
theorem AllL.keep {H0 G G' : Hp} {D : Addr} {ys : List V} (g : ∀ b o, G b = some o → H0 b = none → G' b = some o) (h : AllL H0 D G ys) : AllL H0 D G' ys := fun u hu => by
  obtain ⟨b, s, v, e, h1, h2, h3⟩ := h u hu
  exact ⟨b, s, v, e, g _ _ h1 h2, h2, h3⟩
theorem AllL.set {H0 G : Hp} {D b : Addr} {s : Str} {v : Int} {ys : List V} (h : AllL H0 D G ys) : AllL H0 D (upd G b (.lst [.str s, .int v])) ys := fun u hu => by
  obtain ⟨c, s', v', e, h1, h2, h3⟩ := h u hu
  by_cases q : c = b
  · subst q
    exact ⟨c, s, v, e, upd_same, h2, h3⟩
  · exact ⟨c, s', v', e, by rw [upd_ne q]; exact h1, h2, h3⟩
def spSpoil : Sp := fun vs H Q _ => ∃ (l : Addr) (c : Int) (xs : List V), vs = [.ref l, .int c] ∧ H l = some (.lst xs) ∧ xs.length ≤ 900 ∧ ∀ ys, Q .non (upd H l (.lst ys))
theorem ok_spoil (M : Bl mg) (F : Fun K "_law_spoil" "_law_spoil" s_law_spoil f fd) : FnOk P w K mg base CX0 1 f fd p_law_spoil spSpoil := by
  have nd := sc_law_spoil.nd
  refine F.ok sc_law_spoil (fun vs H Q E h => ?_) (fun cdv A outer s H vs Q E hr h => ?_)
  · obtain ⟨l, c, xs, rfl, _⟩ := h
    rfl
  obtain ⟨l, c, xs, rfl, e, l900, q⟩ := h
  refine ⟨_, (pss_one (ps_if (pt_cmpR op_eq (pe_op op_mod (pv 1) pe_int) pe_int (nomark _)) (pss_one (ps_expr (pe_bm0 PySem.F.plainAttrs_list PySem.F.slot_list_clear PySem.F.type_list_clear mt_clear (pv 0)))) (pss_one (ps_if (pt_cmpR op_eq (pe_op op_mod (pv 1) pe_int) pe_int (nomark _)) (pss_one (ps_expr (pe_bm PySem.F.plainAttrs_list PySem.F.slot_list_append PySem.F.type_list_append mt_append (pv 0) (pa_cons pe_str pa_nil)))) (pss_one (ps_expr (pe_bm0 PySem.F.plainAttrs_list PySem.F.slot_list_reverse PySem.F.type_list_reverse mt_reverse (pv 0)))))))), ?_⟩
  refine ⟨_, rfl, _, _, rfl, rfl, (by show (0 : Int) < 3; decide), rfl, _, rfl, ite2 (fun _ => ?_) (fun _ => ?_)⟩
  · exact ⟨_, rfl, .inl ⟨rfl, _, SqL.of e⟩, l, xs, rfl, rfl, e, q _⟩
  refine ⟨_, rfl, _, _, rfl, rfl, (by show (0 : Int) < 3; decide), rfl, _, rfl, ite2 (fun _ => ?_) (fun _ => ?_)⟩
  · exact ⟨_, rfl, .inl ⟨rfl, _, SqL.of e⟩, l, xs, _, rfl, rfl, e, small1000 (by omega), q _⟩
  · exact ⟨_, rfl, .inl ⟨rfl, _, SqL.of e⟩, l, xs, rfl, rfl, e, q _⟩
def spAbused (K : PySem.W.Frag) (Of : OfP) : Sp := fun vs H Q _ => ∃ (x lr : Addr) (c : Int) (fp : List Addr) (nm : List Str) (r : Int) (us : List V) (rows : List Row), vs = [.ref x, .ref lr, .int c] ∧ Of H x fp nm r [] ∧ H lr = some (.lst us) ∧ lr ∉ fp ∧ Tells H (rows.map rowD) us ∧ rows.length ≤ 50 ∧ Rws nm rows ∧ nm.Nodup ∧ nm.length ≤ 12 ∧
  ∀ (fp' : List Addr) (H' : Hp), (∀ b ∈ fp', b ∈ fp ∨ H b = none) → SameBut fp H H' → Of H' x fp' nm r rows → Q .non H'
theorem ok_abused (M : Bl mg) (F : Fun K "_law_abused" "_law_abused" s_law_abused f fd) {COffice : Addr} {Of : OfP} (OO : OfOk COffice ["write", "latest", "issue"] Of) (G_law_spoil : Cal P w K mg base 1 "_law_spoil" p_law_spoil spSpoil)
    (GOffice_write : MCal P w K mg base 7 COffice "write" pOffice_write (spOfWrite K Of)) : FnOk P w K mg base CX0 9 f fd p_law_abused (spAbused K Of) := by
  have nd := sc_law_abused.nd
  refine F.ok sc_law_abused (fun vs H Q E h => ?_) (fun cdv A outer s H vs Q E hr h => ?_)
  · obtain ⟨x, lr, c, fp, nm, r, us, rows, rfl, _⟩ := h
    rfl
  obtain ⟨x, lr, c, fp, nm, r, us, rows, rfl, of, eR, nlr, tR, r50, R, nmd, n12, q⟩ := h
  refine ⟨_, (pss_one (ps_for PassesOwn.never rfl (pi_range1 rfl M.range (pa_cons (pe_callB call_len_seq rfl M.len PySem.boot_len (pa_cons (pv 1) pa_nil)) pa_nil)) (pg_name (i := 3) nd rfl (Or.inl rfl)) (pss_cons (ps_comp (i := 4) ["_law_row_here"] [] [] rfl nd rfl (Or.inl rfl) (comp_scope rfl (by decide +kernel) rfl (by decide +kernel) rfl rfl) (pi_tup (pe_ix ix_list (pv 1) (pv 3) (fun _ _ => rfl))) (fun _ _ _ _ _ => (pg_name (i := 0) (show ((["_law_row_here"] : List PySem.Str) ++ ([] : List PySem.Str)).Nodup from by decide +kernel) rfl (Or.inl rfl))) (own_name (by decide)) mono_name (fun _ _ _ _ _ => pts_nil) (fun _ _ _ _ _ => (pe_callTy (call_list_ofK (K := K) rfl) rfl M.list PyProof.Rows.boot_list (pa_cons (pv 0) pa_nil)))) (pss_cons (ps_expr (pe_mcal GOffice_write (rm hr) (pv 0) (pa_cons (pv 4) pa_nil))) (pss_cons (ps_for PassesOwn.never rfl (pi_list (pv 4)) (pg_name (i := 5) nd rfl (Or.inl rfl)) (pss_one (ps_asg (pe_op op_mod (pe_op op_add (pe_ix ix_list (pv 5) pe_int (fun _ _ => rfl)) pe_int) pe_int) (pg_sub (pv 5) pe_int set_list)))) (pss_one (ps_expr (pe_cal G_law_spoil (rm hr) rfl (pa_cons (pv 4) (pa_cons (pe_op op_add (pv 2) (pv 3)) pa_nil)))))))))), ?_⟩
  have lus : us.length = rows.length := by rw [tR.length, List.length_map]
  have ntp : NoTup H fp := OO.noTup of
  refine ⟨_, rfl, lr, us, rfl, .inl (SqL.of eR), _, rfl, by omega, by omega, ?_⟩
  refine for_range (lo := 0) (n := ((us.length : Nat) : Int).toNat) (fun i σ H' => ∃ (fp' : List Addr) (o3 o4 o5 : Option V), SameBut fp H H' ∧ Of H' x fp' nm r (rows.take i) ∧ (∀ b ∈ fp', b ∈ fp ∨ H b = none) ∧ σ = [some (.ref x), some (.ref lr), some (.int c), o3, o4, o5]) ⟨fp, _, _, _, .of (Same.refl _), of, fun b m => .inl m, rfl⟩ (fun i σ H' hi hp => ?_) (fun σ H' hp => ?_)
  · obtain ⟨fp', o3, o4, o5, bt, of', ff, rfl⟩ := hp
    have hi' : i < rows.length := by omega
    have ez : (0 : Int) + (i : Int) = i := Int.zero_add _
    have eR' := bt _ _ eR nlr
    have tl' : Tells H' (rows.map rowD) us := Tells.but bt ntp _ _ tR
    obtain ⟨v, ev, tv⟩ := tl'.get i (rowD rows[i]) (by rw [List.getElem?_map, List.getElem?_eq_getElem hi'] <;> rfl)
    generalize ew : rows[i] = wr at tv
    have hw : wr ∈ rows := ew ▸ List.getElem_mem hi'
    have egw : rows[i]? = some wr := by rw [List.getElem?_eq_getElem hi', ew]
    obtain ⟨ar, xs, rfl, er, _, tp⟩ := tell_tup_inv tv
    have lw : xs.length = wr.length := by rw [tp.length, List.length_map]
    have w12 := rows12 R n12 wr hw
    refine ⟨_, rfl, _, rfl, lr, us, _, _, rfl, rfl, SqL.of eR', (by rw [ez]; exact atI_nat ev), ar, rfl, ⟨_, SqT.of er⟩, ?_⟩
    refine comp_tup (xs := xs) (fun j ys H2 => Same H' H2 ∧ Paired (HL H' H2) ys (wr.take j)) ⟨Same.refl _, by rw [List.take_zero]; exact .nil⟩ (fun j ys H2 hj hp => ?_) (fun j y ys H2 hy hp => ?_) (fun ys H2 hp => ?_)
    · obtain ⟨g, pr⟩ := hp
      refine ⟨SqT.of (g _ _ er), small1000 ?_⟩
      rw [pr.length, List.length_take]
      omega
    · obtain ⟨g, pr⟩ := hp
      obtain ⟨pq, b, e1, rfl, e2⟩ := tells_pairs tp j y hy
      refine ⟨_, rfl, b, _, rfl, .inr (SqT.of (g _ _ e2)), fun l hl => ⟨g.trans (same_new hl _), ?_⟩⟩
      rw [take_snoc e1]
      exact Paired.snoc (HL.keep (same_new hl _) pr) ⟨l, rfl, upd_same, g.free hl⟩
    obtain ⟨g, pr⟩ := hp
    rw [lw, List.take_length] at pr
    have lys : ys.length = wr.length := pr.length
    intro D hD
    have alD : AllL H' D H2 ys := AllL.of hD pr
    have sD := same_new hD (.lst ys)
    have gD := g.trans sD
    have eD : upd H2 D (.lst ys) D = some (.lst ys) := upd_same
    have pD := HL.keep sD pr
    have nDf : H' D = none := g.free hD
    have alD2 : AllL H' D (upd H2 D (.lst ys)) ys := alD.keep fun b o e _ => sD _ _ e
    generalize upd H2 D (.lst ys) = G0 at sD gD eD pD alD2
    have no : ∀ {b : Addr}, H' b = none → b ∉ fp' := fun e mm => by
      obtain ⟨o, e', _⟩ := OO.own of' _ mm
      rw [e] at e'
      cases e'
    obtain ⟨good, ino⟩ := goodRow R nmd hw
    have lti : (rows.take i).length = i := by rw [List.length_take]; omega
    have ofD := OO.same of' gD
    obtain ⟨d2, g2, z2, w2⟩ := OO.ins ofD
    refine ⟨_, rfl, x, d2, g2, rfl, z2, w2 _ (by simp), _, rfl, x, .ref D, fp', nm, r, rows.take i, wr, rfl, ofD, ⟨D, ys, rfl, .inl (SqL.of eD), no nDf, HL.hand no pD⟩, good, w12, by omega, fun fp2 H12 hf2 b12 of12 => ?_⟩
    rw [ino, ← take_snoc egw] at of12
    have out2 : ∀ {b : Addr} {o : HO}, G0 b = some o → H' b = none → b ∉ fp2 := fun e n mm => (hf2 _ mm).elim (no n) fun z => by rw [e] at z; cases z
    have al12 : AllL H' D H12 ys := alD2.keep fun b o e n => b12 b o e (no n)
    have eD12 := b12 _ _ eD (no nDf)
    have old12 : ∀ b o, H b = some o → b ∉ fp → H12 b = some o ∧ H' b ≠ none := fun b o e nb => by
      have e' := bt b o e nb
      exact ⟨b12 b o (gD _ _ e') (fun mm => (ff b mm).elim nb fun z => by rw [e] at z; cases z), fun h => by rw [e'] at h; cases h⟩
    -- the rows are spoilt
    refine ⟨_, rfl, D, rfl, ⟨_, SqL.of eD12⟩, for_list (K := K) (a := D) (xs := ys) (fun _ σ G => ∃ o5 : Option V, AllL H' D G ys ∧ G D = some (.lst ys) ∧ (∀ b o, H12 b = some o → H' b ≠ none → G b = some o) ∧ Of G x fp2 nm r (rows.take (i + 1)) ∧ (∀ b o, G b = some o → H' b = none → b ∈ fp2 → True) ∧ (∀ u ∈ ys, ∀ b, u = .ref b → b ∉ fp2) ∧
      σ = [some (.ref x), some (.ref lr), some (.int c), some (.int (0 + (i : Int))), some (.ref D), o5]) ⟨_, al12, eD12, fun _ _ e _ => e, of12, (fun _ _ _ _ _ => trivial), (fun u hu b e => by obtain ⟨b', s, v, e1, e2, e3, _⟩ := alD2 u hu; rw [e] at e1; cases e1; exact out2 e2 e3), rfl⟩ (fun j σ G _ ⟨_, _, e, _⟩ => SqL.of e) ?_ ?_⟩
    · rintro j u σ G hu ⟨o5, al, eG, old, ofG, _, nfp, rfl⟩
      have hum := List.mem_of_getElem? hu
      obtain ⟨b, s, v, rfl, eb, nb, nbD⟩ := al u hum
      have bfp := nfp _ hum b rfl
      refine ⟨_, rfl, b, _, 1, _, rfl, rfl, SqL.of eb, rfl, _, _, rfl, rfl, _, _, rfl, rfl, (by show (0 : Int) < 1000001; decide), _, rfl, b, _, 1, 1, rfl, rfl, eb, rfl, ?_⟩
      refine ⟨_, al.set, by rw [upd_ne (Ne.symm nbD)]; exact eG, fun b' o e n => by rw [upd_ne (fun h => n (by rw [h]; exact nb))]; exact old b' o e n, OO.keep ofG (gp := [b]) (fun b' o e n => by rw [upd_ne (fun h => n (List.mem_singleton.mpr h))]; exact e) (fun b' hb' => by rw [List.mem_singleton.mp hb']; exact bfp) (fun b' hb' xs' e => by rw [List.mem_singleton.mp hb', eb] at e; cases e), (fun _ _ _ _ _ => trivial), nfp, rfl⟩
    · rintro σ G ⟨o5', al, eG, old, ofG, _, nfp, rfl⟩
      refine ⟨_, rfl, _, rfl, _, rfl, _, _, rfl, rfl, D, _, ys, rfl, eG, by omega, fun zs => ?_⟩
      have DF : D ∉ fp2 := out2 eD nDf
      refine ⟨fp2, _, _, _, fun b o e nb => ?_, OO.keep ofG (gp := [D]) (fun b' o e n => by rw [upd_ne (fun h => n (List.mem_singleton.mpr h))]; exact e) (fun b' hb' => by rw [List.mem_singleton.mp hb']; exact DF) (fun b' hb' xs' e => by rw [List.mem_singleton.mp hb', eG] at e; cases e), ff_next bt ff gD hf2, rfl⟩
      obtain ⟨h1, h2⟩ := old12 b o e nb
      rw [upd_ne (fun h => h2 (by rw [h]; exact nDf))]
      exact old b o h1 h2
  · obtain ⟨fp', o3, o4, o5, bt, of', ff, rfl⟩ := hp
    have em : ((us.length : Nat) : Int).toNat = rows.length := by omega
    rw [em, List.take_length] at of'
    exact q fp' H' ff bt of'
def spBoth (K : PySem.W.Frag) (Of : OfP) (Bk : BkP) : Sp := fun vs H Q _ => ∃ (x y lr : Addr) (z : Str) (fp fq : List Addr) (nm : List Str) (r : Int) (us : List V) (rows : List Row), vs = [.ref x, .ref y, .ref lr, .str z] ∧ Of H x fp nm r [] ∧ Bk H y fq nm r 2 [] [] ∧ (∀ b ∈ fp, b ∉ fq) ∧ H lr = some (.lst us) ∧ lr ∉ fp ∧ lr ∉ fq ∧ Tells H (rows.map rowD) us ∧ rows.length ≤ 50 ∧ Rws nm rows ∧ nm.Nodup ∧ nm.length ≤ 12 ∧
  ∀ (fp' fq' : List Addr) (H' : Hp), (∀ b ∈ fp', b ∈ fp ++ fq ∨ H b = none) → (∀ b ∈ fq', b ∈ fp ++ fq ∨ H b = none) → SameBut (fp ++ fq) H H' → Of H' x fp' nm r rows → Bk H' y fq' nm r 2 rows (wlog rows.length) → (∀ b ∈ fp', b ∉ fq') → Q (.bl true) H'
theorem tuple_row {H0 G : Hp} : ∀ {ys : List V} {wr : Row} (j : Nat) (u : V), Paired (HL H0 G) ys wr → ys[j]? = some u → ∃ (b : Addr) (p : Str × Int), wr[j]? = some p ∧ u = .ref b ∧ G b = some (.lst [.str p.1, .int p.2])
  | _, _, 0, u, .cons ⟨b, e, h, n⟩ t, hu => by
    cases hu
    exact ⟨b, _, rfl, e, h⟩
  | _, _, j + 1, u, .cons _ t, hu => tuple_row j u t hu
  | _, _, j, u, .nil, hu => by cases hu
theorem deepRow (w : Row) : (rowD w).deep ≤ 2 := deep_tup fun d hd => by
  obtain ⟨x, _, rfl⟩ := List.mem_map.mp hd
  refine deep_tup fun d hd => ?_
  rcases List.mem_cons.mp hd with rfl | hd
  · exact deep_str _ _
  · rw [List.mem_singleton.mp hd]
    exact deep_int _ _
theorem ok_both (M : Bl mg) (F : Fun K "_law_both" "_law_both" s_law_both f fd) {COffice CBook : Addr} {Of : OfP} {Bk : BkP} (OO : OfOk COffice ["write", "latest", "issue"] Of) (O : BkOk CBook ["write", "deliver", "latest", "issue", "deeds", "deed", "shelf"] Bk) (G_law_same : Cal P w K mg base 5 "_law_same" p_law_same (spSame 5))
    (GOffice_write : MCal P w K mg base 7 COffice "write" pOffice_write (spOfWrite K Of)) (GBook_write : MCal P w K mg base 8 CBook "write" pBook_write (spBkWrite K Bk)) : FnOk P w K mg base CX0 10 f fd p_law_both (spBoth K Of Bk) := by
  have nd := sc_law_both.nd
  refine F.ok sc_law_both (fun vs H Q E h => ?_) (fun cdv A outer s H vs Q E hr h => ?_)
  · obtain ⟨x, y, lr, z, fp, fq, nm, r, us, rows, rfl, _⟩ := h
    rfl
  obtain ⟨x, y, lr, z, fp, fq, nm, r, us, rows, rfl, of, bk, apart, eR, nlr, nlq, tR, r50, R, nmd, n12, q⟩ := h
  refine ⟨_, (pss_cons (ps_for PassesOwn.never rfl (pi_range1 rfl M.range (pa_cons (pe_callB call_len_seq rfl M.len PySem.boot_len (pa_cons (pv 2) pa_nil)) pa_nil)) (pg_name (i := 4) nd rfl (Or.inl rfl)) (pss_cons (ps_comp (i := 5) ["_law_row_here"] [] [] rfl nd rfl (Or.inl rfl) (comp_scope rfl (by decide +kernel) rfl (by decide +kernel) rfl rfl) (pi_tup (pe_ix ix_list (pv 2) (pv 4) (fun _ _ => rfl))) (fun _ _ _ _ _ => (pg_name (i := 0) (show ((["_law_row_here"] : List PySem.Str) ++ ([] : List PySem.Str)).Nodup from by decide +kernel) rfl (Or.inl rfl))) (own_name (by decide)) mono_name (fun _ _ _ _ _ => pts_nil) (fun _ _ _ _ _ => (pe_callTy (call_list_ofK (K := K) rfl) rfl M.list PyProof.Rows.boot_list (pa_cons (pv 0) pa_nil)))) (pss_cons (ps_set (i := 6) nd rfl (Or.inl rfl) (pe_tup (pa_cons (pe_mcal GOffice_write (rm hr) (pv 0) (pa_cons (pv 5) pa_nil)) (pa_cons (pe_mcal GBook_write (rm hr) (pv 1) (pa_cons (pv 5) pa_nil)) pa_nil)))) (pss_cons (ps_if (pt_not (pt_val (pe_cal G_law_same (rm hr) rfl (pa_cons (pv 6) (pa_cons (pe_tup (pa_cons (pe_op op_add (pv 4) pe_int) (pa_cons (pe_op op_add (pv 4) pe_int) pa_nil))) pa_nil))))) (pss_one (ps_ret pe_bl)) pss_nil) (pss_cons (ps_if (pt_not (pt_val (pe_cal G_law_same (rm hr) rfl (pa_cons (pe_callTy call_tuple_of rfl M.tuple PyProof.Rows.boot_tuple (pa_cons (pe_comp ["_law_row_here"] [] [] rfl (comp_scope rfl (by decide +kernel) rfl (by decide +kernel) rfl rfl) (pi_list (pv 5)) (fun _ _ _ _ _ => (pg_name (i := 0) (show ((["_law_row_here"] : List PySem.Str) ++ ([] : List PySem.Str)).Nodup from by decide +kernel) rfl (Or.inl rfl))) (own_name (by decide)) mono_name (fun _ _ _ _ _ => pts_nil) (fun _ _ _ _ _ => (pe_callTy (call_tuple_ofK (K := K) rfl) rfl M.tuple PyProof.Rows.boot_tuple (pa_cons (pv 0) pa_nil)))) pa_nil)) (pa_cons (pe_callTy call_tuple_of rfl M.tuple PyProof.Rows.boot_tuple (pa_cons (pe_ix ix_list (pv 2) (pv 4) (fun _ _ => rfl)) pa_nil)) pa_nil))))) (pss_one (ps_ret pe_bl)) pss_nil) (pss_cons (ps_for PassesOwn.never rfl (pi_list (pv 5)) (pg_name (i := 7) nd rfl (Or.inl rfl)) (pss_one (ps_asg pe_str (pg_sub (pv 7) pe_int set_list)))) (pss_one (ps_expr (pe_bm PySem.F.plainAttrs_list PySem.F.slot_list_append PySem.F.type_list_append mt_append (pv 5) (pa_cons (pe_lst (pa_cons (pv 3) (pa_cons pe_int pa_nil))) pa_nil)))))))))) (pss_one (ps_ret pe_bl))), ?_⟩
  have lus : us.length = rows.length := by rw [tR.length, List.length_map]
  have ntp : NoTup H (fp ++ fq) := fun b hb => (List.mem_append.mp hb).elim (OO.noTup of b) (O.noTup bk b)
  have nla : lr ∉ fp ++ fq := fun h => (List.mem_append.mp h).elim nlr nlq
  refine ⟨_, rfl, lr, us, rfl, .inl (SqL.of eR), _, rfl, by omega, by omega, ?_⟩
  refine for_range (lo := 0) (n := ((us.length : Nat) : Int).toNat) (fun i σ H' => ∃ (fp' fq' : List Addr) (o4 o5 o6 o7 : Option V), SameBut (fp ++ fq) H H' ∧ Of H' x fp' nm r (rows.take i) ∧ Bk H' y fq' nm r 2 (rows.take i) (wlog i) ∧ (∀ b ∈ fp', b ∈ fp ++ fq ∨ H b = none) ∧ (∀ b ∈ fq', b ∈ fp ++ fq ∨ H b = none) ∧ (∀ b ∈ fp', b ∉ fq') ∧
      σ = [some (.ref x), some (.ref y), some (.ref lr), some (.str z), o4, o5, o6, o7]) ⟨fp, fq, _, _, _, _, .of (Same.refl _), of, bk, (fun b m => .inl (List.mem_append_left _ m)), (fun b m => .inl (List.mem_append_right _ m)), apart, rfl⟩ (fun i σ H' hi hp => ?_) (fun σ H' hp => ?_)
  · obtain ⟨fp', fq', o4, o5, o6, o7, bt, of', bk', ff, fg, ap, rfl⟩ := hp
    have hi' : i < rows.length := by omega
    have ez : (0 : Int) + (i : Int) = i := Int.zero_add _
    have eR' := bt _ _ eR nla
    have tl' : Tells H' (rows.map rowD) us := Tells.but bt ntp _ _ tR
    obtain ⟨v, ev, tv⟩ := tl'.get i (rowD rows[i]) (by rw [List.getElem?_map, List.getElem?_eq_getElem hi'] <;> rfl)
    generalize ew : rows[i] = wr at tv
    have hw : wr ∈ rows := ew ▸ List.getElem_mem hi'
    have egw : rows[i]? = some wr := by rw [List.getElem?_eq_getElem hi', ew]
    have tv0 := tv
    obtain ⟨ar, xs, rfl, er, _, tp⟩ := tell_tup_inv tv
    have lw : xs.length = wr.length := by rw [tp.length, List.length_map]
    have w12 := rows12 R n12 wr hw
    refine ⟨_, rfl, _, rfl, lr, us, _, _, rfl, rfl, SqL.of eR', (by rw [ez]; exact atI_nat ev), ar, rfl, ⟨_, SqT.of er⟩, ?_⟩
    refine comp_tup (xs := xs) (fun j ys H2 => Same H' H2 ∧ Paired (HL H' H2) ys (wr.take j)) ⟨Same.refl _, by rw [List.take_zero]; exact .nil⟩ (fun j ys H2 hj hp => ?_) (fun j y ys H2 hy hp => ?_) (fun ys H2 hp => ?_)
    · obtain ⟨g, pr⟩ := hp
      refine ⟨SqT.of (g _ _ er), small1000 ?_⟩
      rw [pr.length, List.length_take]
      omega
    · obtain ⟨g, pr⟩ := hp
      obtain ⟨pq, b, e1, rfl, e2⟩ := tells_pairs tp j y hy
      refine ⟨_, rfl, b, _, rfl, .inr (SqT.of (g _ _ e2)), fun l hl => ⟨g.trans (same_new hl _), ?_⟩⟩
      rw [take_snoc e1]
      exact Paired.snoc (HL.keep (same_new hl _) pr) ⟨l, rfl, upd_same, g.free hl⟩
    obtain ⟨g, pr⟩ := hp
    rw [lw, List.take_length] at pr
    have lys : ys.length = wr.length := pr.length
    intro D hD
    have alD : AllL H' D H2 ys := AllL.of hD pr
    have sD := same_new hD (.lst ys)
    have gD := g.trans sD
    have eD : upd H2 D (.lst ys) D = some (.lst ys) := upd_same
    have pD := HL.keep sD pr
    have nDf : H' D = none := g.free hD
    have alD2 : AllL H' D (upd H2 D (.lst ys)) ys := alD.keep fun b o e _ => sD _ _ e
    generalize upd H2 D (.lst ys) = G0 at sD gD eD pD alD2
    have no : ∀ {b : Addr}, H' b = none → b ∉ fp' := fun e mm => by
      obtain ⟨o, e', _⟩ := OO.own of' _ mm
      rw [e] at e'
      cases e'
    have nq : ∀ {b : Addr}, H' b = none → b ∉ fq' := fun e mm => by
      obtain ⟨o, e', _⟩ := O.own bk' _ mm
      rw [e] at e'
      cases e'
    obtain ⟨good, ino⟩ := goodRow R nmd hw
    have lti : (rows.take i).length = i := by rw [List.length_take]; omega
    have ofD := OO.same of' gD
    have bkD := O.same bk' gD
    obtain ⟨d2, g2, z2, w2⟩ := OO.ins ofD
    refine ⟨_, rfl, x, d2, g2, rfl, z2, w2 _ (by simp), _, rfl, x, .ref D, fp', nm, r, rows.take i, wr, rfl, ofD, ⟨D, ys, rfl, .inl (SqL.of eD), no nDf, HL.hand no pD⟩, good, w12, by omega, fun fp2 H12 hf2 b12 of12 => ?_⟩
    rw [ino, ← take_snoc egw] at of12
    have bk12 := O.keep bkD b12 ap (OO.noTup ofD)
    have p12 := HL.but b12 no pD
    have eD12 := b12 _ _ eD (no nDf)
    have ap2 : ∀ b ∈ fp2, b ∉ fq' := fun b hb mm => (hf2 b hb).elim (fun h => ap b h mm) fun h => by
      obtain ⟨o, e', _⟩ := O.own bkD _ mm
      rw [h] at e'
      cases e'
    obtain ⟨d3, g3, z3, w3⟩ := O.ins bk12
    refine ⟨_, rfl, y, d3, g3, rfl, z3, w3 _ (by simp), _, rfl, y, .ref D, fq', nm, r, 2, rows.take i, wlog i, wr, rfl, bk12, ⟨D, ys, rfl, .inl (SqL.of eD12), nq nDf, HL.hand nq p12⟩, good, w12, by omega, by rw [wlog_len]; omega, fun fq2 H13 hg2 b13 bk13 => ⟨le2, fun t1 ht1 => ?_⟩⟩
    rw [ino, lti, ← take_snoc egw, ← wlog_succ] at bk13
    have of13 := OO.keep of12 b13 (fun b hb mm => ap2 b mm hb) (O.noTup bk12)
    have p13 := HL.but b13 nq p12
    have eD13 := b13 _ _ eD12 (nq nDf)
    have ap3 : ∀ b ∈ fp2, b ∉ fq2 := fun b hb mm => (hg2 b mm).elim (ap2 b hb) fun h => by
      obtain ⟨o, e', _⟩ := OO.own of12 _ hb
      rw [h] at e'
      cases e'
    have out2 : ∀ {b : Addr} {o : HO}, G0 b = some o → H' b = none → b ∉ fp2 ∧ b ∉ fq2 := fun {b o} e n => ⟨(fun mm => (hf2 _ mm).elim (no n) fun z => by rw [e] at z; cases z), (fun mm => (hg2 _ mm).elim (nq n) fun z => by rw [b12 _ _ e (no n)] at z; cases z)⟩
    have old13 : ∀ b o, H b = some o → b ∉ fp ++ fq → H13 b = some o ∧ H' b ≠ none := fun b o e nb => by
      have e' := bt b o e nb
      have n1 : b ∉ fp' := fun mm => (ff b mm).elim nb fun z => by rw [e] at z; cases z
      have n2 : b ∉ fq' := fun mm => (fg b mm).elim nb fun z => by rw [e] at z; cases z
      exact ⟨b13 _ _ (b12 b o (gD _ _ e') n1) n2, fun h => by rw [e'] at h; cases h⟩
    have al13 : AllL H' D H13 ys := AllL.keep (fun b o e n => b13 _ _ (b12 b o e (no n)) (nq n)) alD2
    have tv13 : Tell H13 (rowD wr) (.ref ar) := Tell.but b13 (O.noTup bk12) _ _ (Tell.but b12 (OO.noTup ofD) _ _ (Tell.keep gD _ _ tv0))
    have er13 : H13 ar = some (.tup xs) := by
      obtain ⟨a', xs', e', h', _⟩ := tell_tup_inv tv13
      cases e'
      have n1 : ar ∉ fp' := fun mm => OO.noTup of' ar mm xs er
      have n2 : ar ∉ fq' := fun mm => O.noTup bk' ar mm xs er
      exact b13 _ _ (b12 _ _ (gD _ _ er) n1) n2
    have n1 : lr ∉ fp' := fun mm => (ff lr mm).elim nla fun z => by rw [eR] at z; cases z
    have n2 : lr ∉ fq' := fun mm => (fg lr mm).elim nla fun z => by rw [eR] at z; cases z
    have eR13 := b13 _ _ (b12 _ _ (gD _ _ eR') n1) n2
    -- what was told
    have st1 := same_new ht1 (.tup [V.int ((rows.take i).length + 1), V.int ((rows.take i).length + 1)])
    refine ⟨_, rfl, _, rfl, _, _, rfl, rfl, _, rfl, _, _, rfl, rfl, le2, fun t2 ht2 => ?_⟩
    have st2 := same_new ht2 (.tup [V.int (0 + (i : Int) + 1), V.int (0 + (i : Int) + 1)])
    have ei : (((rows.take i).length : Nat) : Int) + 1 = 0 + (i : Int) + 1 := by rw [lti]; omega
    refine ⟨.ref t1, .ref t2, rfl, (alike_tell (.tup [.int (0 + (i : Int) + 1), .int (0 + (i : Int) + 1)]) _ _ (tell_tup (st2 _ _ upd_same) (by show 2 ≤ 1000000; decide) (.cons (by rw [ei]; exact tell_int _) (.cons (by rw [ei]; exact tell_int _) .nil))) (tell_tup upd_same (by show 2 ≤ 1000000; decide) (.cons (tell_int _) (.cons (tell_int _) .nil)))).mono (Nat.le_trans (deep_tup (n := 0) fun d hd => by
      rcases List.mem_cons.mp hd with rfl | hd
      · exact deep_int _ _
      · rw [List.mem_singleton.mp hd]
        exact deep_int _ _) (by decide)), fun G4 g4 => ⟨_, rfl, iteF ?_⟩⟩
    have c4 := st1.trans (st2.trans g4)
    have p4 := HL.keep c4 p13
    have eD4 := c4 _ _ eD13
    -- nothing was changed
    refine ⟨_, rfl, D, rfl, ⟨_, SqL.of eD4⟩, ?_⟩
    refine comp_list (xs := ys) (fun j ts G => Same G4 G ∧ Tells G ((wr.take j).map pairD) ts) ⟨Same.refl _, by rw [List.take_zero]; exact .nil⟩ (fun j ts G hj hp => ?_) (fun j u ts G hu hp => ?_) (fun ts G hp => ?_)
    · obtain ⟨g', th⟩ := hp
      have := th.length
      rw [List.length_map, List.length_take] at this
      exact ⟨SqL.of (g' _ _ eD4), small1000 (by omega)⟩
    · obtain ⟨g', th⟩ := hp
      obtain ⟨b, pq, ep, rfl, eb⟩ := tuple_row j u (HL.keep g' p4) hu
      refine ⟨_, rfl, b, _, rfl, .inl ⟨SqL.of eb, fun t ht => ⟨g'.trans (same_new ht _), ?_⟩⟩⟩
      rw [take_snoc ep, List.map_append]
      exact (Tells.keep (same_new ht _) _ _ th).snoc (tell_tup upd_same (by show 2 ≤ 1000000; decide) (.cons (tell_str _) (.cons (tell_int _) .nil)))
    obtain ⟨g5, th⟩ := hp
    rw [lys, List.take_length] at th
    intro L hL
    refine ⟨L, _, rfl, .inl ⟨SqL.of upd_same, fun t3 ht3 => ?_⟩⟩
    have s5 := (same_new hL (.lst ts)).trans (same_new ht3 (.tup ts))
    have e5 : upd (upd G L (.lst ts)) t3 (.tup ts) t3 = some (.tup ts) := upd_same
    generalize upd (upd G L (.lst ts)) t3 (.tup ts) = G6 at s5 e5
    have c6 := c4.trans (g5.trans s5)
    refine ⟨_, rfl, _, rfl, lr, us, _, _, rfl, rfl, SqL.of (c6 _ _ eR13), (by rw [ez]; exact atI_nat ev), ar, _, rfl, .inr ⟨SqT.of (c6 _ _ er13), ?_⟩⟩
    refine ⟨.ref t3, .ref ar, rfl, (alike_tell (rowD wr) _ _ (tell_tup e5 (by rw [List.length_map]; omega) (Tells.keep s5 _ _ th)) (Tell.keep c6 _ _ tv13)).mono (Nat.le_trans (deepRow _) (by decide)), fun G7 g7 => ⟨_, rfl, iteF ?_⟩⟩
    have c7 := c6.trans g7
    have al7 : AllL H' D G7 ys := AllL.keep (fun b o e _ => c7 _ _ e) al13
    have eD7 := c7 _ _ eD13
    have of7 := OO.same of13 c7
    have bk7 := O.same bk13 c7
    -- the rows are spoilt
    refine ⟨_, rfl, D, rfl, ⟨_, SqL.of eD7⟩, for_list (K := K) (a := D) (xs := ys) (fun _ σ G => ∃ o7 : Option V, AllL H' D G ys ∧ G D = some (.lst ys) ∧ (∀ b o, G7 b = some o → H' b ≠ none → G b = some o) ∧ Of G x fp2 nm r (rows.take (i + 1)) ∧ Bk G y fq2 nm r 2 (rows.take (i + 1)) (wlog (i + 1)) ∧
      σ = [some (.ref x), some (.ref y), some (.ref lr), some (.str z), some (.int (0 + (i : Int))), some (.ref D), some (.ref t1), o7]) ⟨_, al7, eD7, fun _ _ e _ => e, of7, bk7, rfl⟩ (fun j σ G _ ⟨_, _, e, _⟩ => SqL.of e) ?_ ?_⟩
    · rintro j u σ G8 hu ⟨o7, al, eG, old, ofG, bkG, rfl⟩
      have hum := List.mem_of_getElem? hu
      obtain ⟨b, s', v', rfl, eb, nb, nbD⟩ := al u hum
      obtain ⟨b', s2, v2, e1, e2, e3, _⟩ := alD2 _ hum
      cases e1
      obtain ⟨bf, bg⟩ := out2 e2 e3
      have sb : SameBut [b] G8 (upd G8 b (.lst [.str "a stranger of twenty", .int v'])) := fun b' o e n => by rw [upd_ne (fun h => n (List.mem_singleton.mpr h))]; exact e
      have nb1 : NoTup G8 [b] := fun b' hb' xs' e => by rw [List.mem_singleton.mp hb', eb] at e; cases e
      refine ⟨_, rfl, b, _, 0, 0, rfl, rfl, eb, rfl, ?_⟩
      exact ⟨_, al.set, by rw [upd_ne (Ne.symm nbD)]; exact eG, fun b' o e n => by rw [upd_ne (fun h => n (by rw [h]; exact nb))]; exact old b' o e n, OO.keep ofG sb (fun b' hb' => by rw [List.mem_singleton.mp hb']; exact bf) nb1, O.keep bkG sb (fun b' hb' => by rw [List.mem_singleton.mp hb']; exact bg) nb1, rfl⟩
    · rintro σ G8 ⟨o7, al, eG, old, ofG, bkG, rfl⟩
      refine ⟨_, rfl, .inl ⟨rfl, _, SqL.of eG⟩, _, rfl, le2, fun ln hln => ⟨D, _, _, rfl, rfl, same_new hln _ _ _ eG, small1000 (by omega), ?_⟩⟩
      have sn := same_new hln (.lst [V.str z, V.int 3])
      have DF := out2 eD nDf
      have sb : SameBut [D] (upd G8 ln (.lst [V.str z, V.int 3])) (upd (upd G8 ln (.lst [V.str z, V.int 3])) D (.lst (ys ++ [.ref ln]))) := fun b' o e n => by rw [upd_ne (fun h => n (List.mem_singleton.mpr h))]; exact e
      have nb1 : NoTup (upd G8 ln (.lst [V.str z, V.int 3])) [D] := fun b' hb' xs' e => by rw [List.mem_singleton.mp hb', sn _ _ eG] at e; cases e
      refine ⟨fp2, fq2, _, _, _, _, fun b o e nb => ?_, OO.keep (OO.same ofG sn) sb (fun b' hb' => by rw [List.mem_singleton.mp hb']; exact DF.1) nb1, O.keep (O.same bkG sn) sb (fun b' hb' => by rw [List.mem_singleton.mp hb']; exact DF.2) nb1, ff_next bt ff gD hf2, fun b mm => ?_, ap3, rfl⟩
      · obtain ⟨h1, h2⟩ := old13 b o e nb
        rw [upd_ne (fun h => h2 (by rw [h]; exact nDf))]
        exact sn _ _ (old b o (c7 _ _ h1) h2)
      · rcases hg2 b mm with h | h
        · exact fg b h
        · by_cases hb : b ∈ fp ++ fq
          · exact .inl hb
          · refine .inr ?_
            cases e : H b with
            | none => rfl
            | some o =>
              have e' := bt b o e hb
              have n1 : b ∉ fp' := fun mm => (ff b mm).elim hb fun z => by rw [e] at z; cases z
              rw [b12 b o (gD _ _ e') n1] at h
              cases h
  · obtain ⟨fp', fq', o4, o5, o6, o7, bt, of', bk', ff, fg, ap, rfl⟩ := hp
    have em : ((us.length : Nat) : Int).toNat = rows.length := by omega
    rw [em, List.take_length] at of' bk'
    exact q fp' fq' H' ff fg bt of' bk' ap
theorem riseSelf {l ms : List Int} (h1 : l.Pairwise (· < ·)) (h2 : ∀ x ∈ l, 1 ≤ x ∧ x ≤ 60) (e : ∀ x, x ∈ ms ↔ x ∈ l) : riseL ms = l := rise_ext (riseL_rise _) h1 fun x => riseL_mem e h2 x
theorem lack_up (m : Nat) : lackL (upI 1 m) = [] := by
  refine List.eq_nil_iff_forall_not_mem.mpr fun x hx => ?_
  obtain ⟨⟨a, _⟩, b, y, hy, c⟩ := mem_lackL.mp hx
  have := mem_upI.mp hy
  exact b (mem_upI.mpr (by omega))
theorem full_again (m : Nat) (rows : List Row) (r num : Int) (z : Str) : againN (upI 1 m) rows r num z = [] := by
  unfold againN
  rw [lack_up]
  rfl
theorem full_state (m : Nat) (rows : List Row) (r num : Int) (z : Str) : stateS (upI 1 m) rows r num z = "sure" := by
  unfold stateS
  rw [full_again, if_neg (by decide), if_pos]
  unfold darkOver
  rw [lack_up]
  rfl
theorem deepIssue (rows : List Row) (n r : Int) : (issueD rows n r).deep ≤ 4 := deep_tup fun d hd => by
  rcases List.mem_cons.mp hd with rfl | hd
  · exact deep_int _ _
  rcases List.mem_cons.mp hd with rfl | hd
  · refine deep_tup fun d hd => ?_
    obtain ⟨p, _, rfl⟩ := List.mem_map.mp hd
    refine deep_tup fun d hd => ?_
    rcases List.mem_cons.mp hd with rfl | hd
    · exact deep_str _ _
    · rw [List.mem_singleton.mp hd]
      exact deep_int _ _
  rw [List.mem_singleton.mp hd]
  refine deep_tup fun d hd => ?_
  obtain ⟨k, _, rfl⟩ := List.mem_map.mp hd
  refine deep_tup fun d hd => ?_
  rcases List.mem_cons.mp hd with rfl | hd
  · exact deep_int _ _
  · rw [List.mem_singleton.mp hd]
    exact deep_nms _
theorem ok_law (M : Bl mg) (F : Fun K "law" "law" slaw f fd) {COffice CBook CShelf : Addr} {Of : OfP} {Bk : BkP} {Sh : ShP} (OO : OfOk COffice ["write", "latest", "issue"] Of) (O : BkOk CBook ["write", "deliver", "latest", "issue", "deeds", "deed", "shelf"] Bk) (OS : ShOk CShelf ["put", "had", "latest"] Sh)
    (G_law_at : Cal P w K mg base 1 "_law_at" p_law_at (spAt K)) (G_law_pick : Cal P w K mg base 1 "_law_pick" p_law_pick spPick) (G_law_names : Cal P w K mg base 2 "_law_names" p_law_names (spNames K))
    (G_law_sets : Cal P w K mg base 2 "_law_sets" p_law_sets (spSets K)) (G_law_valued : Cal P w K mg base 2 "_law_valued" p_law_valued spValued) (G_law_same : Cal P w K mg base 6 "_law_same" p_law_same (spSame 6)) (G_law_issue : Cal P w K mg base 1 "_law_issue" p_law_issue (spIssue K)) (G_law_last : Cal P w K mg base 1 "_law_last" p_law_last (spLast K))
    (G_law_spoil : Cal P w K mg base 1 "_law_spoil" p_law_spoil spSpoil) (G_law_abused : Cal P w K mg base 9 "_law_abused" p_law_abused (spAbused K Of)) (G_law_both : Cal P w K mg base 10 "_law_both" p_law_both (spBoth K Of Bk)) (Gknowledge : Cal P w K mg base 8 "knowledge" pknowledge (spKnow Sh))
    (GOffice : Mkr P w K mg base 7 COffice "Office" pOffice___init__ (spOfInit K COffice Of)) (GOffice_latest : MCal P w K mg base 7 COffice "latest" pOffice_latest (spOfLatest Of)) (GOffice_issue : MCal P w K mg base 7 COffice "issue" pOffice_issue (spOfIssue Of))
    (GShelf : Mkr P w K mg base 7 CShelf "Shelf" pShelf___init__ (spShInit K CShelf Sh)) (GShelf_put : MCal P w K mg base 7 CShelf "put" pShelf_put (spPut Sh)) (GShelf_had : MCal P w K mg base 7 CShelf "had" pShelf_had (spShHad Sh))
    (GBook : Mkr P w K mg base 8 CBook "Book" pBook___init__ (spBkInit K CBook Bk)) (GBook_latest : MCal P w K mg base 8 CBook "latest" pBook_latest (spBkLatest Bk)) (GBook_issue : MCal P w K mg base 8 CBook "issue" pBook_issue (spBkIssue Bk)) (GBook_shelfD : MCalD P w K mg base 8 CBook "shelf" pBook_shelf (spBkShelf Bk Sh) [V.non]) : FnOk P w K mg base CX0 14 f fd plaw (spLaw K) := by
  have nd := sclaw.nd
  refine F.ok sclaw (fun vs H Q E h => ?_) (fun cdv A outer s H vs Q E hr h => ?_)
  · obtain ⟨a, ns, rfl, _⟩ := h
    rfl
  obtain ⟨a, ns, rfl, hS, h63, q⟩ := h
  refine ⟨_, (pss_cons (ps_set (i := 1) nd rfl (Or.inl rfl) (pe_cal G_law_names (rm hr) rfl (pa_cons (pv 0) pa_nil))) (pss_cons (ps_set (i := 2) nd rfl (Or.inl rfl) (pe_op op_add pe_int (pe_cal G_law_pick (rm hr) rfl (pa_cons (pe_cal G_law_at (rm hr) rfl (pa_cons (pv 0) (pa_cons pe_int pa_nil))) (pa_cons pe_int pa_nil))))) (pss_cons (ps_set (i := 3) nd rfl (Or.inl rfl) (pe_cal G_law_valued (rm hr) rfl (pa_cons (pe_cal G_law_sets (rm hr) rfl (pa_cons (pv 1) (pa_cons (pe_cal G_law_at (rm hr) rfl (pa_cons (pv 0) (pa_cons pe_int pa_nil))) (pa_cons (pv 2) pa_nil)))) (pa_cons (pe_cal G_law_at (rm hr) rfl (pa_cons (pv 0) (pa_cons pe_int pa_nil))) pa_nil)))) (pss_cons (ps_set (i := 4) nd rfl (Or.inl rfl) (pe_cal G_law_pick (rm hr) rfl (pa_cons (pe_cal G_law_at (rm hr) rfl (pa_cons (pv 0) (pa_cons pe_int pa_nil))) (pa_cons pe_int pa_nil)))) (pss_cons (ps_set (i := 5) nd rfl (Or.inl rfl) (pe_callTy call_list_of rfl M.list PyProof.Rows.boot_list (pa_cons (pv 1) pa_nil))) (pss_cons (ps_set (i := 6) nd rfl (Or.inl rfl) (pe_mkr GOffice (rm hr) rfl (pa_cons (pv 5) (pa_cons (pv 4) pa_nil)))) (pss_cons (ps_set (i := 7) nd rfl (Or.inl rfl) (pe_mkr GOffice (rm hr) rfl (pa_cons (pv 5) (pa_cons (pv 4) pa_nil)))) (pss_cons (ps_set (i := 8) nd rfl (Or.inl rfl) (pe_mkr GShelf (rm hr) rfl (pa_cons (pv 5) (pa_cons (pv 4) pa_nil)))) (pss_cons (ps_set (i := 9) nd rfl (Or.inl rfl) (pe_mkr GBook (rm hr) rfl (pa_cons (pv 5) (pa_cons (pv 4) (pa_cons pe_int pa_nil))))) (pss_cons (ps_if (pt_not (pt_val (pe_cal G_law_same (rm hr) rfl (pa_cons (pe_callTy call_tuple_of rfl M.tuple PyProof.Rows.boot_tuple (pa_cons (pv 5) pa_nil)) (pa_cons (pe_callTy call_tuple_of rfl M.tuple PyProof.Rows.boot_tuple (pa_cons (pv 1) pa_nil)) pa_nil))))) (pss_one (ps_ret pe_bl)) pss_nil) (pss_cons (ps_expr (pe_cal G_law_spoil (rm hr) rfl (pa_cons (pv 5) (pa_cons (pe_cal G_law_at (rm hr) rfl (pa_cons (pv 0) (pa_cons pe_int pa_nil))) pa_nil)))) (pss_cons (ps_expr (pe_cal G_law_abused (rm hr) rfl (pa_cons (pv 6) (pa_cons (pv 3) (pa_cons (pe_cal G_law_at (rm hr) rfl (pa_cons (pv 0) (pa_cons pe_int pa_nil))) pa_nil))))) (pss_cons (ps_if (PW.pt (pw_or (pt_not (pt_val (pe_cal G_law_same (rm hr) rfl (pa_cons (pe_mcal0 GOffice_latest (rm hr) (pv 7)) (pa_cons pe_int pa_nil))))) (pw_or1 (pt_not (pt_val (pe_cal G_law_same (rm hr) rfl (pa_cons (pe_mcal0 GBook_latest (rm hr) (pv 9)) (pa_cons pe_int pa_nil)))))))) (pss_one (ps_ret pe_bl)) pss_nil) (pss_cons (ps_if (pt_not (pt_val (pe_cal G_law_both (rm hr) rfl (pa_cons (pv 7) (pa_cons (pv 9) (pa_cons (pv 3) (pa_cons (pe_ix ix_list (pv 1) pe_int (fun _ _ => rfl)) pa_nil))))))) (pss_one (ps_ret pe_bl)) pss_nil) (pss_cons (ps_for PassesOwn.never rfl (pi_range2 rfl M.range (pa_cons pe_int (pa_cons (pe_op op_add (pv 2) pe_int) pa_nil))) (pg_name (i := 10) nd rfl (Or.inl rfl)) (pss_cons (ps_set (i := 11) nd rfl (Or.inl rfl) (pe_cal G_law_issue (rm hr) rfl (pa_cons (pv 3) (pa_cons (pv 10) (pa_cons (pv 4) pa_nil))))) (pss_cons (ps_if (pt_not (pt_val (pe_cal G_law_same (rm hr) rfl (pa_cons (pe_tup (pa_cons (pe_mcal GOffice_issue (rm hr) (pv 6) (pa_cons (pv 10) pa_nil)) (pa_cons (pe_mcal GOffice_issue (rm hr) (pv 7) (pa_cons (pv 10) pa_nil)) (pa_cons (pe_mcal GBook_issue (rm hr) (pv 9) (pa_cons (pv 10) pa_nil)) pa_nil)))) (pa_cons (pe_tup (pa_cons (pv 11) (pa_cons (pv 11) (pa_cons (pv 11) pa_nil)))) pa_nil))))) (pss_one (ps_ret pe_bl)) pss_nil) (pss_one (ps_expr (pe_mcal GShelf_put (rm hr) (pv 8) (pa_cons (pv 11) pa_nil))))))) (pss_cons (ps_set (i := 12) nd rfl (Or.inl rfl) (pe_lst pa_nil)) (pss_cons (ps_for PassesOwn.never rfl (pi_list (pv 1)) (pg_name (i := 13) nd rfl (Or.inl rfl)) (pss_cons (ps_set (i := 14) nd rfl (Or.inl rfl) (pe_cal G_law_last (rm hr) rfl (pa_cons (pv 3) (pa_cons (pv 2) (pa_cons (pv 13) pa_nil))))) (pss_one (ps_expr (pe_bm PySem.F.plainAttrs_list PySem.F.slot_list_append PySem.F.type_list_append mt_append (pv 12) (pa_cons (pe_tup (pa_cons (pv 13) (pa_cons pe_str (pa_cons (pe_ix ix_tup (pv 14) pe_int (fun _ _ => rfl)) (pa_cons (pe_ix ix_tup (pv 14) pe_int (fun _ _ => rfl)) pa_nil))))) pa_nil)))))) (pss_one (ps_ret (pe_cal G_law_same (rm hr) rfl (pa_cons (pe_tup (pa_cons (pe_cal Gknowledge (rm hr) rfl (pa_cons (pv 8) pa_nil)) (pa_cons (pe_mcal0 GShelf_had (rm hr) (pe_mcalD GBook_shelfD (rm hr) (pv 9) (pa_cons pe_int pa_nil))) pa_nil))) (pa_cons (pe_tup (pa_cons (pe_callTy call_tuple_of rfl M.tuple PyProof.Rows.boot_tuple (pa_cons (pv 12) pa_nil)) (pa_cons (pe_tup pa_nil) pa_nil))) pa_nil)))))))))))))))))))))), ?_⟩
  refine ⟨_, rfl, a, ns, rfl, hS, fun ln nm H1 nln s1 eN n1 n12 N => ?_⟩
  refine ⟨_, rfl, a, ns, 1, rfl, s1.seq hS, by decide, _, _, rfl, (by decide), fun mk m0 m1 => ⟨_, _, rfl, rfl, ?_⟩⟩
  refine ⟨_, rfl, _, rfl, a, ns, 2, rfl, s1.seq hS, by decide, _, rfl, ln, nm, _, 1 + mk, rfl, SqL.of eN, n1, n12, by omega, by omega, fun l0 xs0 ss H2 nl0 s2 e2 st len0 sub0 => ?_⟩
  have s12 := s1.trans s2
  refine ⟨_, rfl, a, ns, 3, rfl, s12.seq hS, by decide, l0, xs0, ss, _, rfl, e2, st, by rw [len0]; omega, fun s hs => Nat.le_trans (sub0 s hs).length_le n12, fun lr us rows H3 nlr s3 eR tl hm hv => ?_⟩
  have rl : rows.length = (1 + mk).toNat := by
    have := congrArg List.length hm
    rw [List.length_map, len0] at this
    exact this
  have R : Rws nm rows := ⟨fun r hr' => sub0 _ (by rw [← hm]; exact List.mem_map_of_mem hr'), hv⟩
  have s13 := s12.trans s3
  have eN3 := s3 _ _ (s2 _ _ eN)
  have hS3 := s13.seq hS
  have gn : GoodN nm := ⟨n1, n12, N.nd⟩
  have r12 := rows12 R n12
  clear st hm hv e2
  have sqA : ∀ {G : Hp}, Same H3 G → SqL K G a (ns.map V.int) := fun {G} g => g.seq hS3
  refine ⟨_, rfl, a, ns, 4, rfl, hS3, by decide, _, _, rfl, (by decide), fun r r0 r1 => ?_⟩
  refine ⟨_, rfl, ln, nm.map V.str, rfl, .inl (SqL.of eN3), fun lH hlH => ?_⟩
  have s4 := same_new hlH (.lst (nm.map V.str))
  have eH4 : upd H3 lH (.lst (nm.map V.str)) lH = some (.lst (nm.map V.str)) := upd_same
  generalize upd H3 lH (.lst (nm.map V.str)) = H4 at s4 eH4
  -- two offices, a shelf, a book
  refine ⟨_, rfl, _, rfl, fun x1 dx1 nx1 ndx1 ne1 => ?_⟩
  refine ⟨x1, dx1, lH, nm, r, rfl, upd_same, ne1, by rw [upd_ne ne1, upd_same], .inl (SqL.of (made_keep nx1 ndx1 eH4)), gn, r0, by omega, fun fp1 H5 hfp1 b5 of1 => ⟨rfl, ?_⟩⟩
  have mm1 := same_made (C := COffice) (Same.refl H4) nx1 ndx1
  have s5 : Same H4 H5 := same_init b5 mm1 nx1
  have f1 : ∀ b ∈ fp1, H4 b = none := fun b hb => fresh_init mm1 nx1 ndx1 (hfp1 b hb)
  refine ⟨_, rfl, _, rfl, fun x2 dx2 nx2 ndx2 ne2 => ?_⟩
  refine ⟨x2, dx2, lH, nm, r, rfl, upd_same, ne2, by rw [upd_ne ne2, upd_same], .inl (SqL.of (made_keep nx2 ndx2 (s5 _ _ eH4))), gn, r0, by omega, fun fp2 H6 hfp2 b6 of2 => ⟨rfl, ?_⟩⟩
  have mm2 := same_made (C := COffice) (Same.refl H5) nx2 ndx2
  have s6 : Same H5 H6 := same_init b6 mm2 nx2
  have f2 : ∀ b ∈ fp2, H5 b = none := fun b hb => fresh_init mm2 nx2 ndx2 (hfp2 b hb)
  refine ⟨_, rfl, _, rfl, fun x3 dx3 nx3 ndx3 ne3 => ?_⟩
  refine ⟨x3, dx3, lH, nm, r, rfl, upd_same, ne3, by rw [upd_ne ne3, upd_same], .inl (SqL.of (made_keep nx3 ndx3 (s6 _ _ (s5 _ _ eH4)))), gn, r0, by omega, fun fp3 H7 hfp3 b7 sh3' => ⟨rfl, ?_⟩⟩
  have mm3 := same_made (C := CShelf) (Same.refl H6) nx3 ndx3
  have s7 : Same H6 H7 := same_init b7 mm3 nx3
  have f3 : ∀ b ∈ fp3, H6 b = none := fun b hb => fresh_init mm3 nx3 ndx3 (hfp3 b hb)
  have sh3 := sh3' (fun n => issueD rows n r)
  refine ⟨_, rfl, _, rfl, fun x4 dx4 nx4 ndx4 ne4 => ?_⟩
  refine ⟨x4, dx4, lH, nm, r, 2, rfl, upd_same, ne4, by rw [upd_ne ne4, upd_same], .inl (SqL.of (made_keep nx4 ndx4 (s7 _ _ (s6 _ _ (s5 _ _ eH4))))), gn, r0, by omega, by decide, by decide, fun fp4 H8 hfp4 b8 bk4 => ⟨rfl, ?_⟩⟩
  have mm4 := same_made (C := CBook) (Same.refl H7) nx4 ndx4
  have s8 : Same H7 H8 := same_init b8 mm4 nx4
  have f4 : ∀ b ∈ fp4, H7 b = none := fun b hb => fresh_init mm4 nx4 ndx4 (hfp4 b hb)
  have a12 : ∀ b ∈ fp1, b ∉ fp2 := fun b hb mm => by obtain ⟨o, e, _⟩ := OO.own of1 b hb; rw [f2 b mm] at e; cases e
  have a13 : ∀ b ∈ fp1, b ∉ fp3 := fun b hb mm => by obtain ⟨o, e, _⟩ := OO.own of1 b hb; have e := s6 _ _ e; rw [f3 b mm] at e; cases e
  have a14 : ∀ b ∈ fp1, b ∉ fp4 := fun b hb mm => by obtain ⟨o, e, _⟩ := OO.own of1 b hb; have e := s7 _ _ (s6 _ _ e); rw [f4 b mm] at e; cases e
  have a23 : ∀ b ∈ fp2, b ∉ fp3 := fun b hb mm => by obtain ⟨o, e, _⟩ := OO.own of2 b hb; rw [f3 b mm] at e; cases e
  have a24 : ∀ b ∈ fp2, b ∉ fp4 := fun b hb mm => by obtain ⟨o, e, _⟩ := OO.own of2 b hb; have e := s7 _ _ e; rw [f4 b mm] at e; cases e
  have a34 : ∀ b ∈ fp3, b ∉ fp4 := fun b hb mm => by obtain ⟨o, e, _⟩ := OS.own sh3 b hb; rw [f4 b mm] at e; cases e
  have s58 := s6.trans (s7.trans s8)
  have s48 := s5.trans s58
  have o1 : ∀ {b : Addr} {o : HO}, H4 b = some o → b ∉ fp1 := fun e mm => by rw [f1 _ mm] at e; cases e
  have o2 : ∀ {b : Addr} {o : HO}, H4 b = some o → b ∉ fp2 := fun e mm => by have e := s5 _ _ e; rw [f2 _ mm] at e; cases e
  have o3 : ∀ {b : Addr} {o : HO}, H4 b = some o → b ∉ fp3 := fun e mm => by have e := s6 _ _ (s5 _ _ e); rw [f3 _ mm] at e; cases e
  have o4 : ∀ {b : Addr} {o : HO}, H4 b = some o → b ∉ fp4 := fun e mm => by have e := s7 _ _ (s6 _ _ (s5 _ _ e)); rw [f4 _ mm] at e; cases e
  have eH8 := s48 _ _ eH4
  have eN8 := s48 _ _ (s4 _ _ eN3)
  refine ⟨_, rfl, lH, _, rfl, .inl ⟨SqL.of eH8, fun t1 ht1 => ⟨_, rfl, ln, _, rfl, .inl ⟨SqL.of (same_new ht1 _ _ _ eN8), fun t2 ht2 => ?_⟩⟩⟩⟩
  have st1 := same_new ht1 (.tup (nm.map V.str))
  have st2 := same_new ht2 (.tup (nm.map V.str))
  refine ⟨.ref t1, .ref t2, rfl, (alike_tup (st2 _ _ upd_same) upd_same (fun u hu => by obtain ⟨z, _, rfl⟩ := List.mem_map.mp hu; rfl) (by rw [List.length_map]; omega)).mono (by decide), fun H9 s9 => ⟨_, rfl, iteF ?_⟩⟩
  have k9 := st1.trans (st2.trans s9)
  have c9 := s48.trans k9
  have eH9 := c9 _ _ eH4
  have s39 := s4.trans c9
  -- the names' list is spoilt
  refine ⟨_, rfl, _, rfl, a, ns, 5, rfl, sqA s39, by decide, lH, _, _, rfl, eH9, by rw [List.length_map]; omega, fun ys => ?_⟩
  have sb : SameBut [lH] H9 (upd H9 lH (.lst ys)) := fun b' o e n => by rw [upd_ne (fun h => n (List.mem_singleton.mpr h))]; exact e
  have nb1 : NoTup H9 [lH] := fun b' hb' xs' e => by rw [List.mem_singleton.mp hb', eH9] at e; cases e
  have of1A := OO.keep (OO.same of1 (s58.trans k9)) sb (fun b hb => by rw [List.mem_singleton.mp hb]; exact o1 eH4) nb1
  have of2A := OO.keep (OO.same of2 (s7.trans (s8.trans k9))) sb (fun b hb => by rw [List.mem_singleton.mp hb]; exact o2 eH4) nb1
  have sh3A := OS.keep (OS.same sh3 (s8.trans k9)) sb (fun b hb => by rw [List.mem_singleton.mp hb]; exact o3 eH4) nb1
  have bk4A := O.keep (O.same bk4 k9) sb (fun b hb => by rw [List.mem_singleton.mp hb]; exact o4 eH4) nb1
  have s3A : Same H3 (upd H9 lH (.lst ys)) := fun b o e => sb b o (s39 b o e) fun h => by rw [List.mem_singleton.mp h, hlH] at e; cases e
  generalize upd H9 lH (.lst ys) = HA at of1A of2A sh3A bk4A s3A
  clear sb nb1 eH9 s39 c9 k9 st1 st2 eN8 eH8 s58 of1 of2 sh3 sh3' bk4 mm1 mm2 mm3 mm4 b5 b6 b7 b8 hfp1 hfp2 hfp3 hfp4
  -- the first office is abused
  refine ⟨_, rfl, _, rfl, _, rfl, a, ns, 6, rfl, sqA s3A, by decide, x1, lr, _, fp1, nm, r, us, rows, rfl, of1A, s3A _ _ eR, o1 (s4 _ _ eR), Tells.keep s3A _ _ tl, by omega, R, N.nd, n12, fun fp1' HB hf1 bB of1B => ?_⟩
  have nt1 := OO.noTup of1A
  have of2B := OO.keep of2A bB a12 nt1
  have sh3B := OS.keep sh3A bB a13 nt1
  have bk4B := O.keep bk4A bB a14 nt1
  have s3B : Same H3 HB := fun b o e => bB b o (s3A b o e) (o1 (s4 _ _ e))
  have b12 : ∀ b ∈ fp1', b ∉ fp2 := fun b hb mm => (hf1 b hb).elim (fun h => a12 b h mm) fun h => by obtain ⟨o, e, _⟩ := OO.own of2A b mm; rw [h] at e; cases e
  have b13 : ∀ b ∈ fp1', b ∉ fp3 := fun b hb mm => (hf1 b hb).elim (fun h => a13 b h mm) fun h => by obtain ⟨o, e, _⟩ := OS.own sh3A b mm; rw [h] at e; cases e
  have b14 : ∀ b ∈ fp1', b ∉ fp4 := fun b hb mm => (hf1 b hb).elim (fun h => a14 b h mm) fun h => by obtain ⟨o, e, _⟩ := O.own bk4A b mm; rw [h] at e; cases e
  clear of1A of2A sh3A bk4A nt1 hf1 bB s3A
  obtain ⟨d2, g2, z2, w2⟩ := OO.ins of2B
  refine ⟨_, rfl, x2, d2, g2, rfl, z2, w2 _ (by simp), x2, fp2, nm, r, [], rfl, of2B, fun G1 h1 => ⟨_, _, rfl, .inl ⟨rfl, rfl⟩, fun G2 h2 => ⟨_, rfl, iteF ?_⟩⟩⟩
  have h12 := h1.trans h2
  have bk4' := O.same bk4B h12
  obtain ⟨d4, g4, z4, w4⟩ := O.ins bk4'
  refine ⟨_, rfl, x4, d4, g4, rfl, z4, w4 _ (by simp), x4, fp4, nm, r, 2, [], [], rfl, bk4', fun G3 h3 => ⟨_, _, rfl, .inl ⟨rfl, rfl⟩, fun G4 h4 => ⟨_, rfl, iteF ?_⟩⟩⟩
  have h14 := h12.trans (h3.trans h4)
  have s34 := s3B.trans h14
  -- the second one and the book
  have hz0 : 0 < nm.length := n1
  have apB : ∀ b ∈ fp2, b ∉ fp4 := a24
  refine ⟨_, rfl, _, rfl, _, rfl, _, rfl, ln, _, 0, _, rfl, rfl, SqL.of (s34 _ _ eN3), (atI_nat (j := 0) (v := V.str nm[0]) (by rw [List.getElem?_map, List.getElem?_eq_getElem hz0]; rfl)), x2, x4, lr, nm[0], fp2, fp4, nm, r, us, rows, rfl, OO.same of2B h14, O.same bk4B h14, apB, s34 _ _ eR, o2 (s4 _ _ eR), o4 (s4 _ _ eR), Tells.keep s34 _ _ tl, by omega, R, N.nd, n12, fun fp2' fp4' HC hf2 hf4 bC of2C bk4C a24' => ⟨_, rfl, iteF ?_⟩⟩
  have of1D := OO.same of1B h14
  have sh3D := OS.same sh3B h14
  have nt2 : NoTup G4 (fp2 ++ fp4) := fun b hb => (List.mem_append.mp hb).elim (OO.noTup (OO.same of2B h14) b) (O.noTup (O.same bk4B h14) b)
  have of1C := OO.keep of1D bC (fun b hb mm => (List.mem_append.mp hb).elim (b12 b mm) (b14 b mm)) nt2
  have sh3C := OS.keep sh3D bC (fun b hb mm => (List.mem_append.mp hb).elim (fun h => a23 b h mm) (a34 b mm)) nt2
  have s3C : Same H3 HC := fun b o e => bC b o (s34 b o e) fun h => (List.mem_append.mp h).elim (o2 (s4 _ _ e)) (o4 (s4 _ _ e))
  have c23 : ∀ b ∈ fp2', b ∉ fp3 := fun b hb mm => (hf2 b hb).elim (fun h => (List.mem_append.mp h).elim (fun h => a23 b h mm) (a34 b mm)) fun h => by obtain ⟨o, e, _⟩ := OS.own sh3D b mm; rw [h] at e; cases e
  have c43 : ∀ b ∈ fp4', b ∉ fp3 := fun b hb mm => (hf4 b hb).elim (fun h => (List.mem_append.mp h).elim (fun h => a23 b h mm) (a34 b mm)) fun h => by obtain ⟨o, e, _⟩ := OS.own sh3D b mm; rw [h] at e; cases e
  clear of1D sh3D nt2 hf2 hf4 bC h14 h12 bk4' bk4B of2B sh3B of1B s34 s3B
  have nt3 := OS.noTup sh3C
  have eRC := s3C _ _ eR
  have tlC := Tells.keep s3C _ _ tl
  -- each issue is told as it was written
  refine ⟨_, rfl, _, _, rfl, rfl, _, _, rfl, ⟨by decide, by decide, by omega, by omega⟩, ?_⟩
  refine for_range (lo := 1) (n := (1 + mk + 1 - 1).toNat) (fun i σ G => ∃ (fp' : List Addr) (had : List Int) (o10 o11 : Option V), SameBut fp3 HC G ∧ Sh G x3 fp' nm r (fun n => issueD rows n r) had ∧ (∀ n, n ∈ had ↔ n ∈ upI 1 i) ∧ (∀ b ∈ fp', b ∈ fp3 ∨ HC b = none) ∧
      σ = [some (.ref a), some (.ref ln), some (.int (1 + mk)), some (.ref lr), some (.int r), some (.ref lH), some (.ref x1), some (.ref x2), some (.ref x3), some (.ref x4), o10, o11, none, none, none]) ⟨fp3, [], _, _, .of (Same.refl _), sh3C, (fun n => by rw [show upI 1 0 = [] from rfl]), fun b hb => .inl hb, rfl⟩ (fun i σ G hi hp => ?_) (fun σ G hp => ?_)
  · obtain ⟨fp', had, o10, o11, bt, sh, gm, ff, rfl⟩ := hp
    have hn : 1 ≤ 1 + (i : Int) ∧ 1 + (i : Int) ≤ (rows.length : Int) := by omega
    have of1G := OO.keep of1C bt (fun b hb mm => b13 b mm hb) nt3
    have of2G := OO.keep of2C bt (fun b hb mm => c23 b mm hb) nt3
    have bk4G := O.keep bk4C bt (fun b hb mm => c43 b mm hb) nt3
    have eRG := bt _ _ eRC (o3 (s4 _ _ eR))
    have tlG := Tells.but bt nt3 _ _ tlC
    refine ⟨_, rfl, _, rfl, _, rfl, lr, us, rows, 1 + (i : Int), r, rfl, SqL.of eRG, tlG, by omega, r12, hn.1, hn.2, fun v G1 g1 tv => ?_⟩
    obtain ⟨d1, k1, z1, w1⟩ := OO.ins (OO.same of1G g1)
    refine ⟨_, rfl, x1, d1, k1, rfl, z1, w1 _ (by simp), _, rfl, x1, fp1', nm, r, rows, 1 + (i : Int), rfl, OO.same of1G g1, hn.1, hn.2, fun v1 G2 g2 t1 => ?_⟩
    have c2 := g1.trans g2
    obtain ⟨d2, k2, z2, w2⟩ := OO.ins (OO.same of2G c2)
    refine ⟨_, rfl, x2, d2, k2, rfl, z2, w2 _ (by simp), _, rfl, x2, fp2', nm, r, rows, 1 + (i : Int), rfl, OO.same of2G c2, hn.1, hn.2, fun v2 G3 g3 t2 => ?_⟩
    have c3 := c2.trans g3
    obtain ⟨d4, k4, z4, w4⟩ := O.ins (O.same bk4G c3)
    refine ⟨_, rfl, x4, d4, k4, rfl, z4, w4 _ (by simp), _, rfl, x4, fp4', nm, r, 2, rows, _, 1 + (i : Int), rfl, O.same bk4G c3, hn.1, hn.2, fun v4 G4 g4 t4 => ⟨(by show 3 ≤ sizeLine; decide), fun p1 hp1 => ⟨_, rfl, _, rfl, _, rfl, (by show 3 ≤ sizeLine; decide), fun p2 hp2 => ?_⟩⟩⟩
    have sp1 := same_new hp1 (.tup [v1, v2, v4])
    have sp2 := same_new hp2 (.tup [v, v, v])
    have sp := sp1.trans sp2
    have tv' := Tell.keep (g2.trans (g3.trans (g4.trans sp))) _ _ tv
    have dst : ∀ d ∈ [issueD rows (1 + (i : Int)) r, issueD rows (1 + (i : Int)) r, issueD rows (1 + (i : Int)) r], d.deep ≤ 4 := fun d hd => by
      rcases List.mem_cons.mp hd with rfl | hd
      · exact deepIssue _ _ _
      rcases List.mem_cons.mp hd with rfl | hd
      · exact deepIssue _ _ _
      · rw [List.mem_singleton.mp hd]
        exact deepIssue _ _ _
    refine ⟨.ref p1, .ref p2, rfl, (alike_tell (.tup [issueD rows (1 + (i : Int)) r, issueD rows (1 + (i : Int)) r, issueD rows (1 + (i : Int)) r]) _ _ (tell_tup (sp2 _ _ upd_same) (by show 3 ≤ 1000000; decide) (.cons (Tell.keep (g3.trans (g4.trans sp)) _ _ t1) (.cons (Tell.keep (g4.trans sp) _ _ t2) (.cons (Tell.keep sp _ _ t4) .nil)))) (tell_tup upd_same (by show 3 ≤ 1000000; decide) (.cons tv' (.cons tv' (.cons tv' .nil))))).mono (Nat.le_trans (deep_tup dst) (by decide)), fun G5 g5 => ⟨_, rfl, iteF ?_⟩⟩
    have k5 := g2.trans (g3.trans (g4.trans (sp.trans g5)))
    have c5 := g1.trans k5
    have sh5 := OS.same sh c5
    obtain ⟨d5, k5', z5, w5⟩ := OS.ins sh5
    refine ⟨_, rfl, x3, d5, k5', rfl, z5, w5 _ (by simp), _, rfl, x3, v, fp', nm, r, _, had, 1 + (i : Int), _, rfl, sh5, Tell.keep k5 _ _ tv, rfl, hn.1, by omega, fun fp'' G6 hf b6 sh6 => ?_⟩
    refine ⟨fp'', _, _, _, (fun b o e nb => b6 b o (c5 _ _ (bt b o e nb)) fun mm => (ff b mm).elim nb fun z => by rw [e] at z; cases z), sh6, fun n => ?_, ff_next bt ff c5 hf, rfl⟩
    rw [mem_addN, gm, upI_succ, List.mem_append, List.mem_singleton]
    try exact Or.comm
  obtain ⟨fp', had, o10, o11, bt, sh, gm, ff, rfl⟩ := hp
  have em : (1 + mk + 1 - 1).toNat = rows.length := by omega
  rw [em] at gm
  have up60 : ∀ n ∈ upI 1 rows.length, 1 ≤ n ∧ n ≤ 60 := fun n hn => by have := mem_upI.mp hn; omega
  have e1 : riseL had = upI 1 rows.length := riseSelf (upI_rise _ _) up60 gm
  have e2 : riseL (upI 1 rows.length) = upI 1 rows.length := riseSelf (upI_rise _ _) up60 fun _ => Iff.rfl
  have hadr : ∀ n ∈ had, 1 ≤ n ∧ n ≤ (rows.length : Int) := fun n hn => by have := mem_upI.mp ((gm n).mp hn); omega
  have bk4G := O.keep bk4C bt (fun b hb mm => c43 b mm hb) nt3
  have eRG := bt _ _ eRC (o3 (s4 _ _ eR))
  have eNG := bt _ _ (s3C _ _ eN3) (o3 (s4 _ _ eN3))
  have tlG : Tells G (rows.map rowD) us := Tells.but bt nt3 _ _ tlC
  -- the table due
  refine ⟨(by show 0 ≤ sizeLine; decide), fun ld hld => ?_⟩
  have sl := same_new hld (.lst [])
  refine ⟨_, rfl, ln, rfl, ⟨_, SqL.of (sl _ _ eNG)⟩, for_list (K := K) (a := ln) (xs := nm.map V.str) (fun i σ G' => ∃ (ts : List V) (o13 o14 : Option V), Same G G' ∧ G' ld = some (.lst ts) ∧ Tells G' ((nm.take i).map (tabD (upI 1 rows.length) rows r)) ts ∧
    σ = [some (.ref a), some (.ref ln), some (.int (1 + mk)), some (.ref lr), some (.int r), some (.ref lH), some (.ref x1), some (.ref x2), some (.ref x3), some (.ref x4), o10, o11, some (.ref ld), o13, o14]) ⟨[], none, none, sl, upd_same, by rw [List.take_zero]; exact .nil, rfl⟩ (fun i σ G' _ ⟨_, _, _, g, _⟩ => SqL.of (g _ _ eNG)) ?_ ?_⟩
  · rintro i y σ G' hi ⟨ts, o13, o14, g, eT, tTs, rfl⟩
    rw [List.getElem?_map] at hi
    obtain ⟨z, hz, rfl⟩ := Option.map_eq_some_iff.mp hi
    have lts : ts.length ≤ 12 := by
      rw [tTs.length, List.length_map, List.length_take]
      omega
    have emk : 1 + mk = (rows.length : Int) := by omega
    refine ⟨_, rfl, _, rfl, _, rfl, lr, us, rows, rows.length, z, congrArg (fun t => [V.ref lr, V.int t, V.str z]) emk, SqL.of (g _ _ eRG), Tells.keep g _ _ tlG, Nat.le_refl _, by omega, fun w hw => (R.sub w hw).nodup gn.nd, fun hv G1 g1 th => ?_⟩
    obtain ⟨ah, yv, rfl, eh, ty⟩ := held_inv th
    have sah : SqT K G1 ah [V.int (heldN (heldO (upI 1 rows.length) rows z)), yv] := SqT.of eh
    refine ⟨_, rfl, .inl ⟨rfl, _, SqL.of (g1 _ _ eT)⟩, _, rfl, _, rfl, ah, _, 0, _, rfl, rfl, sah, rfl, _, rfl, ah, _, 1, _, rfl, rfl, sah, rfl, (by show 4 ≤ sizeLine; decide), fun t ht' => ?_⟩
    have st := same_new ht' (.tup [V.str z, V.str "sure", V.int (heldN (heldO (upI 1 rows.length) rows z)), yv])
    have g2 := g1.trans st
    refine ⟨ld, _, _, rfl, rfl, g2 _ _ eT, small1000 (by omega), ?_⟩
    refine ⟨_, _, _, fun b o e => by rw [upd_ne (ne_of_none e hld)]; exact g2 _ _ (g b o e), upd_same, ?_, rfl⟩
    rw [take_snoc hz, List.map_append]
    refine Tells.over (g2 _ _ eT) (fun _ e => by cases e) _ _ (Tells.snoc (Tells.keep g2 _ _ tTs) ?_)
    show Tell _ (tabD (upI 1 rows.length) rows r z) _
    unfold tabD
    rw [e2, full_state]
    exact tell_tup upd_same (by show 4 ≤ 1000000; decide) (.cons (tell_str _) (.cons (tell_str _) (.cons (tell_int _) (.cons (Tell.keep st _ _ ty) .nil))))
  · rintro σ G' ⟨ts, o13, o14, g, eT, tTs, rfl⟩
    rw [List.length_map, List.take_length] at tTs
    refine ⟨_, rfl, x3, fp', nm, r, rows, had, rfl, OS.same sh g, gn, R, by omega, hadr, r0, by omega, fun kv G1 g1 tk => ?_⟩
    rw [e1] at tk
    have bkG := O.same bk4G (g.trans g1)
    obtain ⟨d3, g3, z3, w3⟩ := O.ins bkG
    refine ⟨_, rfl, x4, d3, g3, rfl, z3, w3 _ (by simp), x4, fp4', nm, r, 2, rows, _, 1, none, rfl, bkG, by decide, by decide, (fun d h => by cases h), fun x5 f5 G2 fn5 g2 sh5 => ?_⟩
    obtain ⟨d5, k5, z5, w5⟩ := OS.ins sh5
    refine ⟨x5, d5, k5, rfl, z5, w5 _ (by simp), x5, f5, nm, r, _, _, rfl, sh5, fun lt G3 g3' e3 => ⟨le2, fun p1 hp1 => ?_⟩⟩
    have non : riseL (gotL ((wlog rows.length).take (Option.getD none (wlog rows.length).length)) 1) = [] := List.eq_nil_iff_forall_not_mem.mpr fun n hn => by
      have := mem_gotL.mp (mem_riseL.mp hn).2
      have := List.mem_of_mem_take this
      unfold wlog at this
      obtain ⟨k, _, e⟩ := List.mem_map.mp this
      cases e
    rw [non] at e3
    have sp1 := same_new hp1 (.tup [kv, V.ref lt])
    have c4 := g1.trans (g2.trans (g3'.trans sp1))
    refine ⟨_, rfl, ld, ts, rfl, .inl ⟨SqL.of (c4 _ _ eT), fun p2 hp2 => ⟨(by show 0 ≤ sizeLine; decide), fun p3 hp3 => ⟨le2, fun p4 hp4 => ?_⟩⟩⟩⟩
    have sp2 := same_new hp2 (.tup ts)
    have sp3 := same_new hp3 (.tup [])
    have sp4 := same_new hp4 (.tup [V.ref p2, V.ref p3])
    have sp := sp2.trans (sp3.trans sp4)
    have dN : (DV.tup []).deep ≤ 2 := deep_tup fun _ h => nomatch h
    have d2 : ∀ d ∈ [tableD nm (upI 1 rows.length) rows r, DV.tup []], d.deep ≤ 2 := fun d hd => by
      rcases List.mem_cons.mp hd with rfl | hd
      · exact deep_table _ _ _ _
      · rw [List.mem_singleton.mp hd]
        exact dN
    exact ⟨.ref p1, .ref p4, rfl, (alike_tell (.tup [tableD nm (upI 1 rows.length) rows r, .tup []]) _ _ (tell_tup (sp _ _ upd_same) (by show 2 ≤ 1000000; decide) (.cons (Tell.keep (g2.trans (g3'.trans (sp1.trans sp))) _ _ tk) (.cons (tell_tup ((sp1.trans sp) _ _ e3) (Nat.zero_le _) .nil) .nil)))
      (tell_tup upd_same (by show 2 ≤ 1000000; decide) (.cons (tell_tup (sp4 _ _ (sp3 _ _ upd_same)) (by rw [List.length_map]; omega) (Tells.keep (c4.trans sp) _ _ tTs)) (.cons (tell_tup (sp4 _ _ upd_same) (Nat.zero_le _) .nil) .nil)))).mono (Nat.le_trans (deep_tup d2) (by decide)), fun G5 g5 => q _⟩

end
theorem all_mk {l : PySem.W.OpenLaw} {w : World} {K : PySem.W.Frag} {h : Heap} {mg : Str → Option Value} {fa : Addr} (X : K.In h) (G : h.Ns mainGlobals mg) (hfa : mg "law" = some (.ref fa))
    {f0 f1 f2 f3 f4 f5 f6 f7 f8 f9 f10 f11 f12 f13 f14 f15 f16 f17 f18 f19 f20 f21 f22 f23 f24 f25 f26 f27 f28 f29 f30 f31 f32 f33 f34 f35 f36 f37 f38 f39 f40 f41 f42 f43 f44 f45 f46 f47 f48 f49 f50 f51 f52 f53 f54 f55 f56 f57 f58 f59 COffice CShelf CBook T36 : Addr} {tMOST_NAMES tMOST_REACH tMOST_NUMBERS tMOST_VALUE tMOST_READERS tMOST_DEEDS tWRITE tDELIVER tSURE tSTALE tOPEN : Tok}
    (cOffice : DfC K "Office" COffice)
    (cShelf : DfC K "Shelf" CShelf)
    (cBook : DfC K "Book" CBook)
    (nOffice_names : PySem.W.findIn K (.ref COffice) "names" = some none)
    (nOffice_reach : PySem.W.findIn K (.ref COffice) "reach" = some none)
    (nOffice_written : PySem.W.findIn K (.ref COffice) "written" = some none)
    (nShelf_names : PySem.W.findIn K (.ref CShelf) "names" = some none)
    (nShelf_reach : PySem.W.findIn K (.ref CShelf) "reach" = some none)
    (nShelf_issues : PySem.W.findIn K (.ref CShelf) "issues" = some none)
    (nBook_office : PySem.W.findIn K (.ref CBook) "office" = some none)
    (nBook_readers : PySem.W.findIn K (.ref CBook) "readers" = some none)
    (nBook_done : PySem.W.findIn K (.ref CBook) "done" = some none)
    (a0 : DfT K "refuse_bad_names" srefuse_bad_names .none f0)
    (a1 : DfT K "refuse_bad_reach" srefuse_bad_reach .none f1)
    (a2 : DfT K "bulletin_names" sbulletin_names .none f2)
    (a3 : DfT K "refuse_unknown_name" srefuse_unknown_name .none f3)
    (a4 : DfT K "lacking_numbers" slacking_numbers .none f4)
    (a5 : DfT K "reached_by" sreached_by .none f5)
    (a6 : DfT K "teller_of" steller_of .none f6)
    (a7 : DfT K "lacking_with_tellers" slacking_with_tellers .none f7)
    (a8 : DfT K "dark_numbers" sdark_numbers .none f8)
    (a9 : DfT K "dark_numbers_behind" sdark_numbers_behind .none f9)
    (a10 : DfT K "tail_for" stail_for .none f10)
    (a11 : DfT K "refuse_bad_value" srefuse_bad_value .none f11)
    (a12 : DfT K "refuse_bad_rows" srefuse_bad_rows .none f12)
    (a13 : DfT K "rows_in_order" srows_in_order .none f13)
    (a14 : DfT K "names_of_rows" snames_of_rows .none f14)
    (a15 : DfM K COffice "__init__" "Office.__init__" sOffice___init__ .none f15)
    (a16 : DfM K COffice "refuse_writing" "Office.refuse_writing" sOffice_refuse_writing .none f16)
    (a17 : DfM K COffice "write" "Office.write" sOffice_write .none f17)
    (a18 : DfM K COffice "latest" "Office.latest" sOffice_latest .none f18)
    (a19 : DfM K COffice "issue" "Office.issue" sOffice_issue .none f19)
    (a20 : DfM K CShelf "__init__" "Shelf.__init__" sShelf___init__ .none f20)
    (a21 : DfM K CShelf "put" "Shelf.put" sShelf_put .none f21)
    (a22 : DfM K CShelf "had" "Shelf.had" sShelf_had .none f22)
    (a23 : DfM K CShelf "latest" "Shelf.latest" sShelf_latest .none f23)
    (a24 : DfM K CShelf "rows_of" "Shelf.rows_of" sShelf_rows_of .none f24)
    (a25 : DfM K CShelf "tail_of" "Shelf.tail_of" sShelf_tail_of .none f25)
    (a26 : DfT K "refuse_bad_readers" srefuse_bad_readers .none f26)
    (a27 : DfM K CBook "__init__" "Book.__init__" sBook___init__ .none f27)
    (a28 : DfM K CBook "refuse_unknown_reader" "Book.refuse_unknown_reader" sBook_refuse_unknown_reader .none f28)
    (a29 : DfM K CBook "refuse_further_deed" "Book.refuse_further_deed" sBook_refuse_further_deed .none f29)
    (a30 : DfM K CBook "write" "Book.write" sBook_write .none f30)
    (a31 : DfM K CBook "deliver" "Book.deliver" sBook_deliver .none f31)
    (a32 : DfM K CBook "latest" "Book.latest" sBook_latest .none f32)
    (a33 : DfM K CBook "issue" "Book.issue" sBook_issue .none f33)
    (a34 : DfM K CBook "deeds" "Book.deeds" sBook_deeds .none f34)
    (a35 : DfM K CBook "deed" "Book.deed" sBook_deed .none f35)
    (a36 : DfM K CBook "shelf" "Book.shelf" sBook_shelf (.ref T36) f36)
    (a37 : DfT K "held_for" sheld_for .none f37)
    (a38 : DfT K "names_told_of" snames_told_of .none f38)
    (a39 : DfT K "gaps_of" sgaps_of .none f39)
    (a40 : DfT K "set_again" sset_again .none f40)
    (a41 : DfT K "state_of" sstate_of .none f41)
    (a42 : DfT K "state_and_held" sstate_and_held .none f42)
    (a43 : DfT K "knowledge" sknowledge .none f43)
    (a44 : DfT K "_law_at" s_law_at .none f44)
    (a45 : DfT K "_law_pick" s_law_pick .none f45)
    (a46 : DfT K "_law_row" s_law_row .none f46)
    (a47 : DfT K "_law_same" s_law_same .none f47)
    (a48 : DfT K "_law_named" s_law_named .none f48)
    (a49 : DfT K "_law_doubled" s_law_doubled .none f49)
    (a50 : DfT K "_law_sets" s_law_sets .none f50)
    (a51 : DfT K "_law_value" s_law_value .none f51)
    (a52 : DfT K "_law_valued" s_law_valued .none f52)
    (a53 : DfT K "_law_issue" s_law_issue .none f53)
    (a54 : DfT K "_law_names" s_law_names .none f54)
    (a55 : DfT K "_law_last" s_law_last .none f55)
    (a56 : DfT K "_law_spoil" s_law_spoil .none f56)
    (a57 : DfT K "_law_abused" s_law_abused .none f57)
    (a58 : DfT K "_law_both" s_law_both .none f58)
    (a59 : DfT K "law" slaw .none f59)
    (d36 : DfD K T36 #[Value.none])
    (zlen : PySem.W.nsIn K mainGlobals "len" = some none) (zrange : PySem.W.nsIn K mainGlobals "range" = some none) (ztuple : PySem.W.nsIn K mainGlobals "tuple" = some none) (zlist : PySem.W.nsIn K mainGlobals "list" = some none) (zmax : PySem.W.nsIn K mainGlobals "max" = some none) (zmin : PySem.W.nsIn K mainGlobals "min" = some none) (zsorted : PySem.W.nsIn K mainGlobals "sorted" = some none) (zisinstance : PySem.W.nsIn K mainGlobals "isinstance" = some none) (zbool : PySem.W.nsIn K mainGlobals "bool" = some none) (zint : PySem.W.nsIn K mainGlobals "int" = some none) (zstr : PySem.W.nsIn K mainGlobals "str" = some none) (zset : PySem.W.nsIn K mainGlobals "set" = some none) (zreversed : PySem.W.nsIn K mainGlobals "reversed" = some none) (zdict : PySem.W.nsIn K mainGlobals "dict" = some none) (zzip : PySem.W.nsIn K mainGlobals "zip" = some none) (zall : PySem.W.nsIn K mainGlobals "all" = some none) (vMOST_NAMES : PySem.W.nsIn K mainGlobals "MOST_NAMES" = some (some (.int 12 tMOST_NAMES))) (vMOST_REACH : PySem.W.nsIn K mainGlobals "MOST_REACH" = some (some (.int 10 tMOST_REACH))) (vMOST_NUMBERS : PySem.W.nsIn K mainGlobals "MOST_NUMBERS" = some (some (.int 60 tMOST_NUMBERS))) (vMOST_VALUE : PySem.W.nsIn K mainGlobals "MOST_VALUE" = some (some (.int 1000000 tMOST_VALUE))) (vMOST_READERS : PySem.W.nsIn K mainGlobals "MOST_READERS" = some (some (.int 10 tMOST_READERS))) (vMOST_DEEDS : PySem.W.nsIn K mainGlobals "MOST_DEEDS" = some (some (.int 400 tMOST_DEEDS))) (vWRITE : PySem.W.nsIn K mainGlobals "WRITE" = some (some (.str "write" tWRITE))) (vDELIVER : PySem.W.nsIn K mainGlobals "DELIVER" = some (some (.str "deliver" tDELIVER))) (vSURE : PySem.W.nsIn K mainGlobals "SURE" = some (some (.str "sure" tSURE))) (vSTALE : PySem.W.nsIn K mainGlobals "STALE" = some (some (.str "stale" tSTALE))) (vOPEN : PySem.W.nsIn K mainGlobals "OPEN" = some (some (.str "open" tOPEN))) :
    ∃ fd : FuncData, (∀ (s : Shared) (v : Value), BindsTo s fd ⟨[v], []⟩ [("_law_script", v)]) ∧ ∀ base : Heap, K.In base → base.Ns mainGlobals mg → FnOk l.prog w K mg base CX0 14 fa fd ["_law_script"] (spLaw K) := by
  have M : Bl mg := ⟨PySem.W.mg_none_of X G zlen, PySem.W.mg_none_of X G zrange, PySem.W.mg_none_of X G ztuple, PySem.W.mg_none_of X G zlist, PySem.W.mg_none_of X G zmax, PySem.W.mg_none_of X G zmin, PySem.W.mg_none_of X G zsorted, PySem.W.mg_none_of X G zisinstance, PySem.W.mg_none_of X G zbool, PySem.W.mg_none_of X G zint, PySem.W.mg_none_of X G zstr, PySem.W.mg_none_of X G zset, PySem.W.mg_none_of X G zreversed, PySem.W.mg_none_of X G zdict, PySem.W.mg_none_of X G zzip, PySem.W.mg_none_of X G zall, ⟨_, PySem.W.mg_of X G vMOST_NAMES⟩, ⟨_, PySem.W.mg_of X G vMOST_REACH⟩, ⟨_, PySem.W.mg_of X G vMOST_NUMBERS⟩, ⟨_, PySem.W.mg_of X G vMOST_VALUE⟩, ⟨_, PySem.W.mg_of X G vMOST_READERS⟩, ⟨_, PySem.W.mg_of X G vMOST_DEEDS⟩, ⟨_, PySem.W.mg_of X G vWRITE⟩, ⟨_, PySem.W.mg_of X G vDELIVER⟩, ⟨_, PySem.W.mg_of X G vSURE⟩, ⟨_, PySem.W.mg_of X G vSTALE⟩, ⟨_, PySem.W.mg_of X G vOPEN⟩⟩
  have TOffice : TxOffice K mg COffice := ⟨cOffice.cls, cOffice.nm X G, nOffice_names, nOffice_reach, nOffice_written⟩
  have TShelf : TxShelf K mg CShelf := ⟨cShelf.cls, cShelf.nm X G, nShelf_names, nShelf_reach, nShelf_issues⟩
  have TBook : TxBook K mg CBook := ⟨cBook.cls, cBook.nm X G, nBook_office, nBook_readers, nBook_done⟩
  obtain ⟨_, Frefuse_bad_names⟩ := df_top X G a0
  obtain ⟨_, Frefuse_bad_reach⟩ := df_top X G a1
  obtain ⟨_, Fbulletin_names⟩ := df_top X G a2
  obtain ⟨_, Frefuse_unknown_name⟩ := df_top X G a3
  obtain ⟨_, Flacking_numbers⟩ := df_top X G a4
  obtain ⟨_, Freached_by⟩ := df_top X G a5
  obtain ⟨_, Fteller_of⟩ := df_top X G a6
  obtain ⟨_, Flacking_with_tellers⟩ := df_top X G a7
  obtain ⟨_, Fdark_numbers⟩ := df_top X G a8
  obtain ⟨_, Fdark_numbers_behind⟩ := df_top X G a9
  obtain ⟨_, Ftail_for⟩ := df_top X G a10
  obtain ⟨_, Frefuse_bad_value⟩ := df_top X G a11
  obtain ⟨_, Frefuse_bad_rows⟩ := df_top X G a12
  obtain ⟨_, Frows_in_order⟩ := df_top X G a13
  obtain ⟨_, Fnames_of_rows⟩ := df_top X G a14
  obtain ⟨_, FOffice___init__⟩ := df_init cOffice a15
  obtain ⟨_, FOffice_refuse_writing⟩ := df_meth a16
  obtain ⟨_, FOffice_write⟩ := df_meth a17
  obtain ⟨_, FOffice_latest⟩ := df_meth a18
  obtain ⟨_, FOffice_issue⟩ := df_meth a19
  obtain ⟨_, FShelf___init__⟩ := df_init cShelf a20
  obtain ⟨_, FShelf_put⟩ := df_meth a21
  obtain ⟨_, FShelf_had⟩ := df_meth a22
  obtain ⟨_, FShelf_latest⟩ := df_meth a23
  obtain ⟨_, FShelf_rows_of⟩ := df_meth a24
  obtain ⟨_, FShelf_tail_of⟩ := df_meth a25
  obtain ⟨_, Frefuse_bad_readers⟩ := df_top X G a26
  obtain ⟨_, FBook___init__⟩ := df_init cBook a27
  obtain ⟨_, FBook_refuse_unknown_reader⟩ := df_meth a28
  obtain ⟨_, FBook_refuse_further_deed⟩ := df_meth a29
  obtain ⟨_, FBook_write⟩ := df_meth a30
  obtain ⟨_, FBook_deliver⟩ := df_meth a31
  obtain ⟨_, FBook_latest⟩ := df_meth a32
  obtain ⟨_, FBook_issue⟩ := df_meth a33
  obtain ⟨_, FBook_deeds⟩ := df_meth a34
  obtain ⟨_, FBook_deed⟩ := df_meth a35
  obtain ⟨_, FBook_shelf⟩ := df_methD a36 d36
  have BBook_shelf := FBook_shelf.1.binds (ps := ["self", "reader", "deed"]) (ds := []) fun _ _ _ _ _ _ us hl => len3 (p := fun us => ∃ k, bindArgs _ ⟨us, []⟩ = seqItems? _ >>= k ∧ k (some _) = pure (List.zip _ (us ++ []))) hl fun _ _ _ => ⟨_, rfl, rfl⟩
  have BBook_shelfD := FBook_shelf.1.binds (ps := ["self", "reader", "deed"]) (ds := [Value.none]) fun _ _ _ _ _ _ us hl => len2 (p := fun us => ∃ k, bindArgs _ ⟨us, []⟩ = seqItems? _ >>= k ∧ k (some _) = pure (List.zip _ (us ++ [Value.none]))) (Nat.succ.inj (hl)) fun _ _ => ⟨_, rfl, rfl⟩
  obtain ⟨_, Fheld_for⟩ := df_top X G a37
  obtain ⟨_, Fnames_told_of⟩ := df_top X G a38
  obtain ⟨_, Fgaps_of⟩ := df_top X G a39
  obtain ⟨_, Fset_again⟩ := df_top X G a40
  obtain ⟨_, Fstate_of⟩ := df_top X G a41
  obtain ⟨_, Fstate_and_held⟩ := df_top X G a42
  obtain ⟨_, Fknowledge⟩ := df_top X G a43
  obtain ⟨_, F_law_at⟩ := df_top X G a44
  obtain ⟨_, F_law_pick⟩ := df_top X G a45
  obtain ⟨_, F_law_row⟩ := df_top X G a46
  obtain ⟨_, F_law_same⟩ := df_top X G a47
  obtain ⟨_, F_law_named⟩ := df_top X G a48
  obtain ⟨_, F_law_doubled⟩ := df_top X G a49
  obtain ⟨_, F_law_sets⟩ := df_top X G a50
  obtain ⟨_, F_law_value⟩ := df_top X G a51
  obtain ⟨_, F_law_valued⟩ := df_top X G a52
  obtain ⟨_, F_law_issue⟩ := df_top X G a53
  obtain ⟨_, F_law_names⟩ := df_top X G a54
  obtain ⟨_, F_law_last⟩ := df_top X G a55
  obtain ⟨_, F_law_spoil⟩ := df_top X G a56
  obtain ⟨_, F_law_abused⟩ := df_top X G a57
  obtain ⟨_, F_law_both⟩ := df_top X G a58
  obtain ⟨_, Flaw⟩ := df_top X G a59
  have e := hfa.symm.trans Flaw.2
  cases e
  refine ⟨_, law_binds Flaw.1, fun base _ _ => ?_⟩
  have C_same := same_all (P := l.prog) (w := w) (base := base) M F_law_same.1 (b2 F_law_same.1) F_law_same.2
  have cal := @calF l.prog w K mg base
  have mcl := @mclF l.prog w K mg base
  have mkr := @mkrF l.prog w K mg base
  have G_law_at := cal F_law_at (ok_at M F_law_at.1) (b2 F_law_at.1)
  have G_law_pick := cal F_law_pick (ok_pick F_law_pick.1) (b2 F_law_pick.1)
  have G_law_row := cal F_law_row (ok_row M F_law_row.1) (b3 F_law_row.1)
  have G_law_named := cal F_law_named (ok_named M F_law_named.1) (b2 F_law_named.1)
  have G_law_doubled := cal F_law_doubled (ok_doubled M F_law_doubled.1) (b1 F_law_doubled.1)
  have G_law_value := cal F_law_value (ok_value F_law_value.1) (b2 F_law_value.1)
  have G_law_issue := cal F_law_issue (ok_issue M F_law_issue.1) (b3 F_law_issue.1)
  have Grefuse_bad_names := cal Frefuse_bad_names (ok_badnames M Frefuse_bad_names.1) (b1 Frefuse_bad_names.1)
  have Grefuse_bad_reach := cal Frefuse_bad_reach (ok_badreach M Frefuse_bad_reach.1) (b1 Frefuse_bad_reach.1)
  have GShelf_put := mcl TShelf.cl FShelf_put (ok_put (CShelf := CShelf) M TShelf FShelf_put.1) (b2 FShelf_put.1)
  have GShelf_had := mcl TShelf.cl FShelf_had (ok_shhad (CShelf := CShelf) M TShelf FShelf_had.1) (b1 FShelf_had.1)
  have Greached_by := cal Freached_by (ok_reached M Freached_by.1) (b2 Freached_by.1)
  have Grefuse_unknown_name := cal Frefuse_unknown_name (ok_unk M Frefuse_unknown_name.1) (b2 Frefuse_unknown_name.1)
  have Grefuse_bad_value := cal Frefuse_bad_value (ok_badval M Frefuse_bad_value.1) (b1 Frefuse_bad_value.1)
  have Grows_in_order := cal Frows_in_order (ok_inorder M Frows_in_order.1) (b2 Frows_in_order.1)
  have Gnames_of_rows := cal Fnames_of_rows (ok_nmsof M Fnames_of_rows.1) (b1 Fnames_of_rows.1)
  have GOffice_latest := mcl TOffice.cl FOffice_latest (ok_oflatest (COffice := COffice) M TOffice FOffice_latest.1) (b1 FOffice_latest.1)
  have GOffice_issue := mcl TOffice.cl FOffice_issue (ok_ofissue (COffice := COffice) M TOffice FOffice_issue.1) (b2 FOffice_issue.1)
  have Grefuse_bad_readers := cal Frefuse_bad_readers (ok_badreaders M Frefuse_bad_readers.1) (b1 Frefuse_bad_readers.1)
  have GBook_refuse_unknown_reader := mcl TBook.cl FBook_refuse_unknown_reader (ok_unkreader (CBook := CBook) (COffice := COffice) M TBook FBook_refuse_unknown_reader.1) (b2 FBook_refuse_unknown_reader.1)
  have GBook_refuse_further_deed := mcl TBook.cl FBook_refuse_further_deed (ok_further (CBook := CBook) (COffice := COffice) M TBook FBook_refuse_further_deed.1) (b1 FBook_refuse_further_deed.1)
  have GBook_deeds := mcl TBook.cl FBook_deeds (ok_bkdeeds (CBook := CBook) (COffice := COffice) M TBook FBook_deeds.1) (b1 FBook_deeds.1)
  have Glacking_numbers := cal Flacking_numbers (ok_lack M Flacking_numbers.1) (b1 Flacking_numbers.1)
  have Gteller_of := cal Fteller_of (ok_teller M Fteller_of.1) (b3 Fteller_of.1)
  have GShelf_tail_of := mcl TShelf.cl FShelf_tail_of (ok_tailof (CShelf := CShelf) M TShelf FShelf_tail_of.1) (b2 FShelf_tail_of.1)
  have GShelf_rows_of := mcl TShelf.cl FShelf_rows_of (ok_rowsof (CShelf := CShelf) M TShelf FShelf_rows_of.1) (b2 FShelf_rows_of.1)
  have G_law_last := cal F_law_last (ok_llast M F_law_last.1) (b3 F_law_last.1)
  have GBook_deed := mcl TBook.cl FBook_deed (ok_bkdeed (CBook := CBook) (COffice := COffice) M TBook FBook_deed.1) (b2 FBook_deed.1)
  have G_law_spoil := cal F_law_spoil (ok_spoil M F_law_spoil.1) (b2 F_law_spoil.1)
  have G_law_sets := cal F_law_sets (ok_sets M F_law_sets.1 G_law_row.up G_law_doubled.up) (b3 F_law_sets.1)
  have G_law_valued := cal F_law_valued (ok_valued M F_law_valued.1 G_law_row.up G_law_value.up) (b2 F_law_valued.1)
  have G_law_names := cal F_law_names (ok_names F_law_names.1 G_law_at.up G_law_pick.up G_law_named.up) (b1 F_law_names.1)
  have Gbulletin_names := cal Fbulletin_names (ok_bulletin M Fbulletin_names.1 Grefuse_bad_names.up Grefuse_bad_reach.up) (b2 Fbulletin_names.1)
  have GShelf_latest := mcl TShelf.cl FShelf_latest (ok_latest (CShelf := CShelf) M TShelf FShelf_latest.1 GShelf_had.up) (b1 FShelf_latest.1)
  have Gtail_for := cal Ftail_for (ok_tail M Ftail_for.1 Greached_by.up) (b2 Ftail_for.1)
  have Grefuse_bad_rows := cal Frefuse_bad_rows (ok_badrows M Frefuse_bad_rows.1 Grefuse_unknown_name.up Grefuse_bad_value.up) (b2 Frefuse_bad_rows.1)
  have GBook_deliver := mcl TBook.cl FBook_deliver (ok_bkdeliver (CBook := CBook) (COffice := COffice) M TBook FBook_deliver.1 GOffice_issue.up GBook_refuse_unknown_reader.up GBook_refuse_further_deed.up) (b3 FBook_deliver.1)
  have Glacking_with_tellers := cal Flacking_with_tellers (ok_lwt M Flacking_with_tellers.1 Glacking_numbers.up Gteller_of.up) (b2 Flacking_with_tellers.1)
  have Gnames_told_of := cal Fnames_told_of (ok_told (CShelf := CShelf) M TShelf Fnames_told_of.1 GShelf_tail_of.up) (b3 Fnames_told_of.1)
  have Gheld_for := cal Fheld_for (ok_heldfor (CShelf := CShelf) M TShelf Fheld_for.1 Grefuse_unknown_name.up GShelf_had.up GShelf_rows_of.up) (b2 Fheld_for.1)
  have GBook_latest := mcl TBook.cl FBook_latest (ok_bklatest (CBook := CBook) (COffice := COffice) M TBook FBook_latest.1 GOffice_latest.up) (b1 FBook_latest.1)
  have GBook_issue := mcl TBook.cl FBook_issue (ok_bkissue (CBook := CBook) (COffice := COffice) M TBook FBook_issue.1 GOffice_issue.up) (b2 FBook_issue.1)
  have GShelf := mkr TShelf.mgC FShelf___init__ (ok_shinit (CShelf := CShelf) M TShelf FShelf___init__.1 Gbulletin_names.up) (b3 FShelf___init__.1)
  have GOffice := mkr TOffice.mgC FOffice___init__ (ok_ofinit (COffice := COffice) M TOffice FOffice___init__.1 Gbulletin_names.up) (b3 FOffice___init__.1)
  have GOffice_refuse_writing := mcl TOffice.cl FOffice_refuse_writing (ok_refusew (COffice := COffice) M TOffice FOffice_refuse_writing.1 Grefuse_bad_rows.up) (b2 FOffice_refuse_writing.1)
  have Gdark_numbers := cal Fdark_numbers (ok_dark M Fdark_numbers.1 Glacking_with_tellers.up) (b2 Fdark_numbers.1)
  have Ggaps_of := cal Fgaps_of (ok_gapsof (CShelf := CShelf) M TShelf Fgaps_of.1 GShelf_had.up Glacking_with_tellers.up Gnames_told_of.up) (b1 Fgaps_of.1)
  have GOffice_write := mcl TOffice.cl FOffice_write (ok_ofwrite (COffice := COffice) M TOffice FOffice_write.1 GOffice_refuse_writing.up Gnames_of_rows.up Grows_in_order.up Gtail_for.up) (b2 FOffice_write.1)
  have GBook := mkr TBook.mgC FBook___init__ (ok_bkinit (CBook := CBook) (COffice := COffice) M TBook FBook___init__.1 GOffice.up Grefuse_bad_readers.up) (b4 FBook___init__.1)
  have GBook_shelf : MCal l.prog w K mg base 6 CBook "shelf" pBook_shelf (spBkShelf (BkD K CBook COffice) (ShD K CShelf)) := .mk' TBook.cl (ok_bkshelf (CBook := CBook) (COffice := COffice) (CShelf := CShelf) M TBook TOffice FBook_shelf.1 GOffice_issue.up GBook_refuse_unknown_reader.up GShelf.up GShelf_put.up) BBook_shelf FBook_shelf.2
  have GBook_shelfD : MCalD l.prog w K mg base 6 CBook "shelf" pBook_shelf (spBkShelf (BkD K CBook COffice) (ShD K CShelf)) [V.non] := .mk' (.cons rfl .nil) TBook.cl (ok_bkshelf (CBook := CBook) (COffice := COffice) (CShelf := CShelf) M TBook TOffice FBook_shelf.1 GOffice_issue.up GBook_refuse_unknown_reader.up GShelf.up GShelf_put.up) BBook_shelfD FBook_shelf.2
  have Gdark_numbers_behind := cal Fdark_numbers_behind (ok_behind M Fdark_numbers_behind.1 Gdark_numbers.up) (b3 Fdark_numbers_behind.1)
  have Gset_again := cal Fset_again (ok_setagain (CShelf := CShelf) M TShelf Fset_again.1 Gheld_for.up Ggaps_of.up) (b2 Fset_again.1)
  have GBook_write := mcl TBook.cl FBook_write (ok_bkwrite (CBook := CBook) (COffice := COffice) M TBook FBook_write.1 GOffice_refuse_writing.up GOffice_write.up GBook_refuse_further_deed.up) (b2 FBook_write.1)
  have Gstate_of := cal Fstate_of (ok_stateof (CShelf := CShelf) M TShelf Fstate_of.1 Gheld_for.up Gset_again.up GShelf_had.up Gdark_numbers_behind.up) (b2 Fstate_of.1)
  have G_law_abused := cal F_law_abused (ok_abused (COffice := COffice) (Of := (OfD K COffice)) M F_law_abused.1 ofOk G_law_spoil.up GOffice_write.up) (b3 F_law_abused.1)
  have Gstate_and_held := cal Fstate_and_held (ok_stateheld (CShelf := CShelf) M Fstate_and_held.1 Gheld_for.up Gstate_of.up) (b2 Fstate_and_held.1)
  have G_law_both := cal F_law_both (ok_both (COffice := COffice) (CBook := CBook) (Bk := (BkD K CBook COffice)) (Of := (OfD K COffice)) M F_law_both.1 ofOk bkOk (C_same 5) GOffice_write.up GBook_write.up) (b4 F_law_both.1)
  have Gknowledge := cal Fknowledge (ok_knowledge (CShelf := CShelf) M TShelf Fknowledge.1 Gstate_and_held.up) (b1 Fknowledge.1)
  exact ok_law M Flaw.1 ofOk bkOk shOk G_law_at.up G_law_pick.up G_law_names.up G_law_sets.up G_law_valued.up (C_same 6) G_law_issue.up G_law_last.up G_law_spoil.up G_law_abused.up G_law_both.up Gknowledge.up GOffice.up GOffice_latest.up GOffice_issue.up GShelf.up GShelf_put.up GShelf_had.up GBook.up GBook_latest.up GBook_issue.up GBook_shelfD.up
theorem walk {l : PySem.W.OpenLaw} {q : Program} {loose : List Str} {XP : (Str → Option Value) → Heap → Prop} {YP : World → Heap → Prop} {d : DefRec} {K : Params → PySem.W.Frag} (hn : l.most = some 63) (hdf : d.params.defaults = [])
    (hY : ∀ (w : World) (h : Heap), YP w h → (K w.params).In h)
    (F : ∀ (w : World) (mg : Str → Option Value) (fa : Addr) (h : Heap), (K w.params).In h → h.Ns mainGlobals mg → mg d.name = some (.ref fa) →
      ∃ fd : FuncData, (∀ (s : Shared) (u : Value), BindsTo s fd ⟨[u], []⟩ [("_law_script", u)]) ∧ ∀ base : Heap, (K w.params).In base → base.Ns mainGlobals mg → FnOk l.prog w (K w.params) mg base CX0 14 fa fd ["_law_script"] (spLaw (K w.params))) :
    PySem.W.WalkO q loose XP YP l.row.toRowW d [] (fun f vs => PySem.call f vs) :=
  L2.walk_of (n := 63) (k := 14) (x := "_law_script") (CX := fun _ => CX0) (sp := fun w => spLaw (K w.params)) hn (by decide) hdf ⟨rfl, by decide, by decide⟩ hY F (fun _ _ a ns hl _ hS => ⟨a, ns, rfl, hS, hl, fun _ => rfl⟩) fun _ _ _ _ _ z => z
theorem walkX {q : Program} {loose : List Str} {XP : (Str → Option Value) → Heap → Prop} {r : PySem.W.RowW} {d : DefRec} {kwd : List (Str × Expr)} {run : Value → List Value → Sem Value} {K : Params → PySem.W.Frag} {ks : List Addr} {n t : Nat} (e : ∀ P, ks = (K P).map (·.1))
    (W : PySem.W.WalkO q loose XP (fun w h => (K w.params).In h) r d kwd run) : PySem.W.WalkX q loose XP (PySem.W.X.obsZ ks) (PySem.W.X.valZ K n t) r d kwd run :=
  fun w s₀ s₁ mg mb G y a o pm cd doc dV kV h1 h2 h3 h4 h5 h6 args vals as L g1 g2 g3 g4 g5 => W w s₀ s₁ mg mb G (PySem.W.InK.keeps w s₀.heap s₁.heap (PySem.W.X.z_facts e y).2.1 L.keeps) a o pm cd doc dV kV h1 h2 h3 h4 h5 h6 args vals as g1 g2 g3 g4 g5
end My
namespace PySem.W.Fast
def tw10024117859106843592:=()
def tw10031725685890321008:=()
def tw10085022832783784961:=()
def tw10165032553217496413:=()
def tw10184288348758540900:=()
def tw10262177101530734311:=()
def tw10320664691774301301:=()
def tw10372088166696321919:=()
def tw10383779883839625907:=()
def tw10386663020801072605:=()
def tw10475916520353368606:=()
def tw10604403191943714313:=()
def tw10638038233744926769:=()
def tw10744721673829340270:=()
def tw1076171191223564864:=()
def tw10804332682412109251:=()
def tw10805739948084023701:=()
def tw10826240393784493531:=()
def tw10853376337593162074:=()
def tw10935026207260896294:=()
def tw10953339402909478870:=()
def tw11037790000239267614:=()
def tw11063150617807814498:=()
def tw11154217588281207333:=()
def tw11200141106056724457:=()
def tw11227212048032167433:=()
def tw11305325555716948779:=()
def tw11360920810979234760:=()
def tw11380614183627897280:=()
def tw11430422372212791327:=()
def tw11447480233942028837:=()
def tw11448573693381783729:=()
def tw11455191977377883494:=()
def tw11478040927703316593:=()
def tw11488481681500078113:=()
def tw11533205036644755132:=()
def tw11545628863599831058:=()
def tw11551243210201186744:=()
def tw11584896191164751053:=()
def tw1162307237425182588:=()
def tw11776990182179864650:=()
def tw11800825692167123196:=()
def tw1182854967551422609:=()
def tw11859040563952424940:=()
def tw11865637511203815022:=()
def tw11889550796680920221:=()
def tw11902043290238311779:=()
def tw11904069254151615632:=()
def tw11939230998193878180:=()
def tw12024096590841740285:=()
def tw1205785407092755225:=()
def tw12104215311754635438:=()
def tw12202667467177447167:=()
def tw1224768129818627979:=()
def tw12257539393850100271:=()
def tw12322295815461028862:=()
def tw12442405438117713517:=()
def tw12550654781460734957:=()
def tw12591322020078553398:=()
def tw12632089157486293542:=()
def tw1263612992355630406:=()
def tw12757006281299299613:=()
def tw12780979120962930134:=()
def tw12815747536370138985:=()
def tw12824712908127453089:=()
def tw12872539145616463624:=()
def tw13012261047733493570:=()
def tw13050634050267422973:=()
def tw13080555767975054665:=()
def tw13201374561828740867:=()
def tw13207245936487038417:=()
def tw13225925133246320560:=()
def tw13289042843354174418:=()
def tw13321723677304509941:=()
def tw13337543743552521842:=()
def tw13370970391462247016:=()
def tw13387661504199231756:=()
def tw13401216312364568719:=()
def tw13569322430512222706:=()
def tw13617456021639605555:=()
def tw13754854192684337503:=()
def tw13926835150657621774:=()
def tw13982772469867853672:=()
def tw14000019769701116621:=()
def tw14045562488501893236:=()
def tw14070445787886777611:=()
def tw14079813995372436420:=()
def tw14115937376891303029:=()
def tw14221777482752635988:=()
def tw14232802848218140226:=()
def tw14268380356302448835:=()
def tw14297188890421857977:=()
def tw14381812025532676137:=()
def tw14419657205813648247:=()
def tw14442238849776166206:=()
def tw14459083167132742870:=()
def tw14491701800522189361:=()
def tw14526902538068970082:=()
def tw14591091821941618981:=()
def tw1460782987587781241:=()
def tw14620611609016321675:=()
def tw14632675508228114532:=()
def tw14643751214912468201:=()
def tw14661799505027563200:=()
def tw14675671785322825767:=()
def tw14698889358527064957:=()
def tw147711588961092025:=()
def tw14827920461916124597:=()
def tw14831046838784161443:=()
def tw14856743106196911812:=()
def tw14869758190395142307:=()
def tw14873456917778192882:=()
def tw14971355151850315008:=()
def tw15033651865208948085:=()
def tw15088997516025404048:=()
def tw15153588246283304276:=()
def tw15249294499452947640:=()
def tw15293037612873696748:=()
def tw1530869822842268777:=()
def tw15315184984870732681:=()
def tw15346760851751380008:=()
def tw15410338015884849815:=()
def tw15584496694660834132:=()
def tw15613933067863817243:=()
def tw15641985640095863915:=()
def tw15656887825235589607:=()
def tw15858744173955121202:=()
def tw15878968804557039755:=()
def tw15974890826559110325:=()
def tw15996574922314920502:=()
def tw16032284311456102392:=()
def tw16085595682812818602:=()
def tw16164432080763095965:=()
def tw16208909835234957221:=()
def tw1629692791116622514:=()
def tw16306319551004470685:=()
def tw16383446776744077978:=()
def tw16421075820458453513:=()
def tw16424750195388137394:=()
def tw16425556950596464698:=()
def tw16438780590555136894:=()
def tw16448345655649574233:=()
def tw16468921488952896973:=()
def tw16499571891211662935:=()
def tw16554058465944842763:=()
def tw16612883883379801355:=()
def tw16656186736790603463:=()
def tw1675381929479184946:=()
def tw16755610915479097303:=()
def tw16849755713372986730:=()
def tw16856035600139900007:=()
def tw16936813413818001628:=()
def tw1703506942278708633:=()
def tw17118183738869654500:=()
def tw17175385235795157012:=()
def tw17186711729396876111:=()
def tw17228189945078667799:=()
def tw1724017004655080642:=()
def tw17243066882264667945:=()
def tw17362689449276546147:=()
def tw17391559450780215655:=()
def tw17432007094606975235:=()
def tw17443058615703839011:=()
def tw17513467017647361431:=()
def tw17527508021149689270:=()
def tw17580997577319748441:=()
def tw17594657568004068821:=()
def tw17609177889221606003:=()
def tw17646543166315771606:=()
def tw17646850553109753271:=()
def tw17683919201947146969:=()
def tw17688157751035974317:=()
def tw17730825828207013509:=()
def tw17787383777526633370:=()
def tw1782109471945495473:=()
def tw17841195570808724840:=()
def tw1784573061637020470:=()
def tw17849388645917488624:=()
def tw17896703337346922850:=()
def tw17900615345393166600:=()
def tw17921761243440699235:=()
def tw17937063959302717303:=()
def tw17950671148284483734:=()
def tw17953107948595291278:=()
def tw18006629690359992219:=()
def tw18020946520750744080:=()
def tw18146946069752425925:=()
def tw18152799708239262515:=()
def tw18235570976199555764:=()
def tw18251198721888750538:=()
def tw18264956038654302677:=()
def tw18334182495538312121:=()
def tw18416057636057913121:=()
def tw18435369054085593087:=()
def tw1853486373998015149:=()
def tw1856799731355503575:=()
def tw1877380801002658684:=()
def tw1914509861298614485:=()
def tw1918806639531107507:=()
def tw1918930137791686491:=()
def tw1938595464991862709:=()
def tw2003835260718225478:=()
def tw2020687642726923703:=()
def tw2068396212794863930:=()
def tw2128208966985553795:=()
def tw2165204442019934963:=()
def tw2169619761180471170:=()
def tw2183970272614034102:=()
def tw2223499474345594678:=()
def tw2334541107485397125:=()
def tw2385323009188158987:=()
def tw2397839172265569653:=()
def tw2402470697156577447:=()
def tw2412773596753071968:=()
def tw2442156269649489623:=()
def tw2474197145602620303:=()
def tw2546237293026880248:=()
def tw2590022568571671187:=()
def tw2623297940474926996:=()
def tw264929780011261538:=()
def tw2671953054517843467:=()
def tw2698763300549626267:=()
def tw2749622422714300647:=()
def tw2759619074776873406:=()
def tw2782271536097785676:=()
def tw2815929622430344066:=()
def tw2862481307887480206:=()
def tw2872643330201465873:=()
def tw2913652871756503199:=()
def tw2966077975525886744:=()
def tw2977602026083489951:=()
def tw3008579666855355299:=()
def tw3072006654248539991:=()
def tw3077448362462371379:=()
def tw3087264765253783317:=()
def tw3140805357176183347:=()
def tw3143481710857525889:=()
def tw3145996769761184186:=()
def tw3172684960414998137:=()
def tw3202353446690854087:=()
def tw3291687511458764344:=()
def tw3425325589886918143:=()
def tw3435837057520314345:=()
def tw3455739142091396031:=()
def tw3484101958953901341:=()
def tw3569944790379039545:=()
def tw3573963271125901100:=()
def tw3598184029377205130:=()
def tw3624427073357694379:=()
def tw3636606262364113694:=()
def tw3702241702801776100:=()
def tw3739431037477378504:=()
def tw3797101558651998576:=()
def tw3855144580114448031:=()
def tw3866274771020841676:=()
def tw3874691456719919543:=()
def tw397352876719586802:=()
def tw3985620708236964393:=()
def tw4051581398316802474:=()
def tw4126065569433741242:=()
def tw4171279013215094664:=()
def tw4248884276338486387:=()
def tw4255472174031332188:=()
def tw4267273083057139316:=()
def tw4392407332945234873:=()
def tw4400504346546469055:=()
def tw4480691498399523473:=()
def tw4502118813301256246:=()
def tw4520350390193153403:=()
def tw4581211225821143206:=()
def tw4592603406723294539:=()
def tw4649974789938399257:=()
def tw4800184336669239734:=()
def tw4801811093879198454:=()
def tw4989911249270705580:=()
def tw5015605135599268829:=()
def tw502442824979266529:=()
def tw5029269344910925382:=()
def tw5054526920599503099:=()
def tw5054987437020466832:=()
def tw5068345757061134318:=()
def tw5086444461031115023:=()
def tw5150015908928241643:=()
def tw521864630511781669:=()
def tw5235535181900661803:=()
def tw5252264797055875575:=()
def tw528474052564889259:=()
def tw5308472752568816867:=()
def tw5413115935270095094:=()
def tw5424105323579129031:=()
def tw5452062515207893260:=()
def tw5462530997575095604:=()
def tw5462775607131530875:=()
def tw5528016094352838733:=()
def tw5539805197437493615:=()
def tw5542699189437973320:=()
def tw5718835372997890036:=()
def tw5815531773690810570:=()
def tw5825072474464360300:=()
def tw5841359291558734462:=()
def tw6005826176808927930:=()
def tw6048069827159648985:=()
def tw6085935055579453900:=()
def tw6095569279522403223:=()
def tw6159031752213237002:=()
def tw622883122427228321:=()
def tw6238969527156500763:=()
def tw6242002609155512068:=()
def tw6254271626743475774:=()
def tw6258126625069364066:=()
def tw6374584567447257928:=()
def tw6414003937919393123:=()
def tw6467641250161563434:=()
def tw6473563433799762715:=()
def tw6564272344549821611:=()
def tw6656769662132428323:=()
def tw6657176990397140561:=()
def tw6722345958347151661:=()
def tw6756047145277313039:=()
def tw6770426451459770176:=()
def tw6800250455056851313:=()
def tw6802444467567020931:=()
def tw6802987436409735221:=()
def tw6826926278567602602:=()
def tw6829786080071447601:=()
def tw6872352989555115048:=()
def tw6880981737058557975:=()
def tw6906515588290764105:=()
def tw6917581289200214799:=()
def tw6930375690180032796:=()
def tw7160731144729787142:=()
def tw716207763338178160:=()
def tw723954977493817169:=()
def tw7255420483071389737:=()
def tw7257225255308865325:=()
def tw7309059958604561927:=()
def tw7398247795429714719:=()
def tw7488653464561498860:=()
def tw7510193256153571031:=()
def tw7519074541958164134:=()
def tw7520928453350283293:=()
def tw7540368672774315175:=()
def tw7541880040417898110:=()
def tw7634596187008883651:=()
def tw7687550688380513173:=()
def tw7731595467102693464:=()
def tw7806556585304324214:=()
def tw7856706743459143304:=()
def tw7892503126061086682:=()
def tw7931107219355283477:=()
def tw794076936034930805:=()
def tw7966232691268110884:=()
def tw8085797676830380170:=()
def tw8126243344168262243:=()
def tw8173346017002116921:=()
def tw8192441779789356150:=()
def tw8262557762565905896:=()
def tw8285255879490271068:=()
def tw8299293644403108772:=()
def tw8327822542189637341:=()
def tw8329231636462060251:=()
def tw8333651733749965078:=()
def tw8477378200484988583:=()
def tw8532711836750854569:=()
def tw8568928718051591982:=()
def tw8582738308757705393:=()
def tw8643346205654865388:=()
def tw8659659006194139048:=()
def tw8683892541328351652:=()
def tw8700416195472178925:=()
def tw878941132070273063:=()
def tw8843027147918368902:=()
def tw8872482905219825270:=()
def tw9032725242656252221:=()
def tw9125454775218253347:=()
def tw9140827565219174464:=()
def tw9231235664917097150:=()
def tw9256387032012555871:=()
def tw9256449979039959513:=()
def tw9292807426911704534:=()
def tw9300797729791425664:=()
def tw9312925940856652114:=()
def tw9435767958616084913:=()
def tw9454377440827040941:=()
def tw9454968452162176488:=()
def tw9500394492465654863:=()
def tw9506868835064888411:=()
def tw9557636268255368347:=()
def tw9584331796810996161:=()
def tw9627073380864797901:=()
def tw9628163598472241389:=()
def tw9638646645539054202:=()
def tw9685912745813337165:=()
def tw9782444578424601176:=()
def tw9790425072047410897:=()
def tw9829910458492650831:=()
def tw9919278504135577967:=()
def tw9938762287393516071:=()
def tw9962174197668398979:=()
def tw9992972943645313858:=()
end PySem.W.Fast
open PySem PySem.W PyProof.Rows
set_option maxRecDepth 100000 in
set_option maxHeartbeats 0 in
theorem PySem.Challenge.cw_backissues_k10_lists_apart_holds : PySem.Challenge.rw_backissues_k10_lists_apart.Holds := by
  w_on; o_law; z_head; (case hw => w_witness2)
  k_fill
  refine My.walkX (fun _ => by kernel_rfl) ?_
  refine My.walk (l := PySem.Challenge.rw_backissues_k10_lists_apart) rfl rfl (fun w h Y => Y) ?F
  case F =>
    intro w mg fa h KX G hmg
    refine' My.all_mk KX G hmg ?cOffice ?cShelf ?cBook ?nOffice_names ?nOffice_reach ?nOffice_written ?nShelf_names ?nShelf_reach ?nShelf_issues ?nBook_office ?nBook_readers ?nBook_done ?a0 ?a1 ?a2 ?a3 ?a4 ?a5 ?a6 ?a7 ?a8 ?a9 ?a10 ?a11 ?a12 ?a13 ?a14 ?a15 ?a16 ?a17 ?a18 ?a19 ?a20 ?a21 ?a22 ?a23 ?a24 ?a25 ?a26 ?a27 ?a28 ?a29 ?a30 ?a31 ?a32 ?a33 ?a34 ?a35 ?a36 ?a37 ?a38 ?a39 ?a40 ?a41 ?a42 ?a43 ?a44 ?a45 ?a46 ?a47 ?a48 ?a49 ?a50 ?a51 ?a52 ?a53 ?a54 ?a55 ?a56 ?a57 ?a58 ?a59 ?d36 ?zlen ?zrange ?ztuple ?zlist ?zmax ?zmin ?zsorted ?zisinstance ?zbool ?zint ?zstr ?zset ?zreversed ?zdict ?zzip ?zall ?vMOST_NAMES ?vMOST_REACH ?vMOST_NUMBERS ?vMOST_VALUE ?vMOST_READERS ?vMOST_DEEDS ?vWRITE ?vDELIVER ?vSURE ?vSTALE ?vOPEN
    case' cOffice | cShelf | cBook => exact ⟨by k_is, by k_is, by k_is, by k_is, by k_is, by k_is, by k_is⟩
    case' nOffice_names | nOffice_reach | nOffice_written | nShelf_names | nShelf_reach | nShelf_issues | nBook_office | nBook_readers | nBook_done => k_is
    case' a0 | a1 | a2 | a3 | a4 | a5 | a6 | a7 | a8 | a9 | a10 | a11 | a12 | a13 | a14 | a26 | a37 | a38 | a39 | a40 | a41 | a42 | a43 | a44 | a45 | a46 | a47 | a48 | a49 | a50 | a51 | a52 | a53 | a54 | a55 | a56 | a57 | a58 | a59 => exact ⟨by k_is, _, _, _, _, _, _, _, _, _, by k_is, by k_is, by k_is⟩
    case' a15 | a16 | a17 | a18 | a19 | a20 | a21 | a22 | a23 | a24 | a25 | a27 | a28 | a29 | a30 | a31 | a32 | a33 | a34 | a35 | a36 => exact ⟨by k_is, by k_is, _, _, _, _, _, _, _, _, _, by k_is, by k_is, by k_is⟩
    case' d36 => exact ⟨_, _, _, _, by k_is⟩
    case' zlen | zrange | ztuple | zlist | zmax | zmin | zsorted | zisinstance | zbool | zint | zstr | zset | zreversed | zdict | zzip | zall | vMOST_NAMES | vMOST_REACH | vMOST_NUMBERS | vMOST_VALUE | vMOST_READERS | vMOST_DEEDS | vWRITE | vDELIVER | vSURE | vSTALE | vOPEN => k_is
