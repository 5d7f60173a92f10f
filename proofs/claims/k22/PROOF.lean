import PyProof.Rows.All
import Wide.All
import OpenK.AllK
import Wide.FinOn
import Lean
import PyProof.EqAt
import PyProof.EqKinds
import PyProof.TupleCall
import PyProof.WalksMore
import PyProof.ListRange
import PyProof.NeKinds
import PyProof.SliceStr2
import PyProof.StrOps2
import PyProof.Rows.SetFrom
import PyProof.MinMaxWalk
import KE.KRevIter
import KE.KDictList
import PyProof.AttrMiss
import PyProof.IsiH_list
import PyProof.IsiH_tuple
import KE.KDictOf
import PyProof.ZipIter
import PyProof.TupleIter
import KE.KxWritten
import OpenK.KOwn
import KE.KTryMore
import PyProof.StrLawsRepr
import PyProof.RulesDel
import PyProof.RulesAs
import PyProof.ExcArgsOwn
import KE.KIsAll
import PyProof.SetKind
import PyProof.TupleKey
import PySem.Challenge.RW_backissues_k22_at_most_4096
set_option Elab.async false
set_option linter.all false
set_option maxRecDepth 100000
namespace L2
open PySem PySem.Spec PyProof.Rows

abbrev Key := Sum Int Str
noncomputable def keyIs : Key → Value → Bool
  | .inl k, v => Value.isInt k v
  | .inr x, v => Value.isStrOf x v
noncomputable def keyH (w : World) : Key → Int
  | .inl k => hashInt k
  | .inr x => hashStr w x
theorem keyIs_shape : ∀ {k : Key} {v : Value}, keyIs k v = true → (∃ i t, k = Sum.inl i ∧ v = Value.int i t) ∨ (∃ x t, k = Sum.inr x ∧ v = Value.str x t)
  | .inl i, v, h => by
    obtain ⟨t, e⟩ := Value.isInt_shape (k := i) (v := v) h
    exact .inl ⟨i, t, rfl, e⟩
  | .inr x, v, h => by
    obtain ⟨t, e⟩ := Value.isStrOf_shape (x := x) (v := v) h
    exact .inr ⟨x, t, rfl, e⟩
theorem keyIs_int (i : Int) (t : Tok) : keyIs (.inl i) (.int i t) = true := by simp [keyIs, Value.isInt]
theorem keyIs_str (x : Str) (t : Tok) : keyIs (.inr x) (.str x t) = true := by simp [keyIs, Value.isStrOf]
theorem key_ll (a b : Int) : decide ((Sum.inl a : Key) = Sum.inl b) = (a == b) := by
  by_cases e : a = b
  · subst e; simp
  · have h : ¬ (Sum.inl a : Key) = Sum.inl b := fun q => e (Sum.inl.inj q)
    rw [decide_eq_false h]
    exact (beq_eq_false_iff_ne.mpr e).symm
theorem key_rr (a b : Str) : decide ((Sum.inr a : Key) = Sum.inr b) = decide (a = b) := by
  by_cases e : a = b
  · subst e; simp
  · have h : ¬ (Sum.inr a : Key) = Sum.inr b := fun q => e (Sum.inr.inj q)
    rw [decide_eq_false h, decide_eq_false e]
theorem key_lr (a : Int) (b : Str) : decide ((Sum.inl a : Key) = Sum.inr b) = false := decide_eq_false (fun q => nomatch q)
theorem key_rl (a : Str) (b : Int) : decide ((Sum.inr a : Key) = Sum.inl b) = false := decide_eq_false (fun q => nomatch q)

noncomputable def mixKind (prog : Program) (w : World) : PySem.KeyKind prog w Key where
  is := keyIs
  hash := keyH w
  inj := fun v a b ha hb => by
    rcases keyIs_shape ha with ⟨i, t, rfl, rfl⟩ | ⟨x, t, rfl, rfl⟩
    · rcases keyIs_shape hb with ⟨j, u, rfl, e⟩ | ⟨y, u, rfl, e⟩
      · injection e with e1 _; rw [e1]
      · exact nomatch e
    · rcases keyIs_shape hb with ⟨j, u, rfl, e⟩ | ⟨y, u, rfl, e⟩
      · exact nomatch e
      · injection e with e1 _; rw [e1]
  byValue := fun k v h => by
    rcases keyIs_shape h with ⟨i, t, rfl, rfl⟩ | ⟨x, t, rfl, rfl⟩ <;> rfl
  pyHash := fun hv h => by
    rcases keyIs_shape hv with ⟨i, t, rfl, rfl⟩ | ⟨x, t, rfl, rfl⟩
    · exact wpAny_pyHash_int h
    · exact wpAny_pyHash_str h
  eqBool := fun hu hv h => by
    rcases keyIs_shape hu with ⟨i, t, rfl, rfl⟩ | ⟨x, t, rfl, rfl⟩
    · rcases keyIs_shape hv with ⟨j, u, rfl, rfl⟩ | ⟨y, u, rfl, rfl⟩
      · rw [key_ll] at h; exact wpAny_eqBool_int h
      · rw [key_lr] at h; exact SeqAt.EqAt.int_str i t y u _ _ _ _ h
    · rcases keyIs_shape hv with ⟨j, u, rfl, rfl⟩ | ⟨y, u, rfl, rfl⟩
      · rw [key_rl] at h; exact SeqAt.EqAt.str_int x t j u _ _ _ _ h
      · rw [key_rr] at h; exact wpAny_eqBool_str h
  «strs» := fun k x t v h => by
    rcases keyIs_shape h with ⟨i, u, rfl, e⟩ | ⟨y, u, rfl, e⟩
    · exact nomatch e
    · injection e with e1 _
      subst e1
      cases v <;> rfl

theorem mixKind_int (prog : Program) (w : World) (i : Int) (t : Tok) : (mixKind prog w).is (.inl i) (.int i t) = true := keyIs_int i t
theorem mixKind_str (prog : Program) (w : World) (x : Str) (t : Tok) : (mixKind prog w).is (.inr x) (.str x t) = true := keyIs_str x t
end L2

namespace L2
open PySem PySem.Spec PyProof.Rows

inductive V where
  | non | bl (b : Bool) | int (i : Int) | str (x : Str) | byt (b : Array UInt8) | flt (b : UInt64) | ref (a : Addr) | ty (n : String)
  deriving DecidableEq

def RelV : V → Value → Prop
  | .non, u => u = Value.none
  | .bl b, u => u = Value.bool b
  | .int i, u => ∃ t, u = Value.int i t
  | .str x, u => ∃ t, u = Value.str x t
  | .byt b, u => ∃ t, u = Value.bytes b t
  | .flt b, u => ∃ t, u = Value.float b t
  | .ref a, u => u = Value.ref a
  | .ty n, u => u = Value.type n

abbrev Vals : List V → List Value → Prop := Paired RelV
theorem Vals.length {xs : List V} {us : List Value} (r : Vals xs us) : xs.length = us.length := Paired.length r
theorem Vals.get : ∀ {xs : List V} {us : List Value} {i : Nat} {x : V}, Vals xs us → xs[i]? = some x → ∃ u, us[i]? = some u ∧ RelV x u
  | _, _, _, _, .nil, e => by simp at e
  | _, _, 0, _, .cons r _, e => by simp at e; subst e; exact ⟨_, rfl, r⟩
  | _, _, i + 1, x, .cons _ t, e => by
    obtain ⟨u, h1, h2⟩ := Vals.get (i := i) (x := x) t (by simpa using e)
    exact ⟨u, by simpa using h1, h2⟩
theorem Vals.append : ∀ {xs ys : List V} {us ws : List Value}, Vals xs us → Vals ys ws → Vals (xs ++ ys) (us ++ ws)
  | _, _, _, _, .nil, s => s
  | _, _, _, _, .cons r t, s => .cons r (Vals.append t s)
theorem Vals.take : ∀ {xs : List V} {us : List Value} (n : Nat), Vals xs us → Vals (xs.take n) (us.take n)
  | _, _, 0, _ => .nil
  | _, _, _ + 1, .nil => .nil
  | _, _, n + 1, .cons r t => .cons r (Vals.take n t)
theorem Vals.drop : ∀ {xs : List V} {us : List Value} (n : Nat), Vals xs us → Vals (xs.drop n) (us.drop n)
  | _, _, 0, r => r
  | _, _, _ + 1, .nil => .nil
  | _, _, n + 1, .cons _ t => Vals.drop n t
noncomputable def RelO : Option V → Option Value → Prop
  | some v, some u => RelV v u
  | none, none => True
  | _, _ => False
noncomputable def KV {κ : Type} : List (κ × V) → List (κ × Value) → Prop := Paired fun (p : κ × V) (q : κ × Value) => p.1 = q.1 ∧ RelV p.2 q.2

def kV : Key → V
  | .inl i => .int i
  | .inr x => .str x

inductive HO where
  /-- a list -/
  | lst (xs : List V)
  /-- a tuple (never changes) -/
  | tup (xs : List V)
  /-- a dict whose keys are ints and texts; one whose keys are tuples of ints and texts (the empty one is both) -/
  | dK (kvs : List (Key × V)) | dT (kvs : List (List Key × V))
  /-- a set of ints: its members, its size -/
  | set (S : Int → Bool) (n : Nat)
  /-- an instance of the class at C, its dict at dx, its attributes -/
  | ins (C dx : Addr) (fs : List (Str × V))
  /-- the dict of the instance at x -/
  | own (x : Addr)
  /-- the dict of an exception -/
  | xd (fs : List (Str × V))
  /-- a bound method, f of x -/
  | met (f x : Addr)
  /-- a range object lo, lo + 1, .. below hi -/
  | rng (lo hi : Int)
  /-- a thing that is known to the object (the script; a dict while a loop walks it): read, never written while it is so -/
  | frz (o : Obj) (u : HO)
  /-- a code object's table -/
  | tbl (ps : Array Value)
  /-- any other thing, by what is true of its one object (a def of one's own: SetO a S n := HO.ext fun h => ..) -/
  | ext (φ : Heap → Prop)

abbrev Hp := Addr → Option HO
noncomputable def upd (H : Hp) (a : Addr) (o : HO) : Hp := fun b => if b = a then some o else H b
noncomputable def PlT (h : Heap) (a : Addr) (items : Array Value) : Prop := ∃ o, h.get? a = some o ∧ o.cls = .type "tuple" ∧ (∃ n, o.data = .seq items n) ∧ o.dict = none
theorem PlT.tup {h : Heap} {a : Addr} {items : Array Value} (p : PlT h a items) : IsTup h a items := let ⟨o, e, c, d, _⟩ := p; ⟨o, e, c, d⟩
theorem PlT.new (h : Heap) (items : Array Value) : PlT (h.push { cls := .type "tuple", data := .seq items }) h.objs.size items := ⟨_, Heap.get?_push_size _ rfl, rfl, ⟨_, rfl⟩, rfl⟩
theorem upd_same {H : Hp} {a : Addr} {o : HO} : upd H a o a = some o := by unfold upd; rw [if_pos rfl]
theorem upd_ne {H : Hp} {a b : Addr} {o : HO} (h : b ≠ a) : upd H a o b = H b := by unfold upd; rw [if_neg h]
theorem upd_upd {H : Hp} {a : Addr} {o u : HO} : upd (upd H a o) a u = upd H a u := by
  funext b; unfold upd; split <;> rfl
theorem ne_of {H : Hp} {a b : Addr} {o u : HO} (h : H a = some o) (h' : H b = some u) (d : o ≠ u) : a ≠ b := by
  intro e; subst e; rw [h] at h'; exact d (Option.some.inj h')
theorem ne_of_none {H : Hp} {a b : Addr} {o : HO} (h : H a = some o) (h' : H b = none) : a ≠ b := by
  intro e; subst e; rw [h] at h'; cases h'

section
variable (P : Program) (w : World)
noncomputable def ObjOk (H : Hp) (h : Heap) (a : Addr) : HO → Prop
  | .lst xs => xs.length ≤ sizeLine ∧ ∃ (its : List Value) (n : Nat), Vals xs its ∧ h.get? a = some { cls := .type "list", data := .seq its.toArray n }
  | .tup xs => xs.length ≤ sizeLine ∧ ∃ its : List Value, Vals xs its ∧ PlT h a its.toArray
  | .dK kvs => kvs.length ≤ sizeLine ∧ (a == sysModules) = false ∧ ∃ vs, KV kvs vs ∧ h.DictOf (mixKind P w) a vs
  | .dT kvs => kvs.length ≤ sizeLine ∧ (a == sysModules) = false ∧ ∃ xs : List (List Key × Addr × Value),
      Paired (fun (p : List Key × V) (q : List Key × Addr × Value) => p.1 = q.1 ∧ H q.2.1 = some (.tup (p.1.map kV)) ∧ RelV p.2 q.2.2) kvs xs ∧
      ∃ o es ep, h.get? a = some o ∧ o.ExactDict ∧ o.data = .dict es ep ∧ es.toList = xs.map (entryOfKey (tupleKind (mixKind P w))) ∧ (xs.map (·.1)).Nodup
  | .set S n => h.SetOf (intKind P w) a S n
  | .ins C dx fs => H dx = some (.own a) ∧ fs.length ≤ 1000 ∧ dx ≠ a ∧ h.get? a = some (PySem.W.instObj C dx) ∧
      ∃ mA, h.Ns1 dx mA ∧ (∀ f, RelO (fs.lookup f) (mA f)) ∧ PySem.Within mA (fs.map (·.1))
  | .own _ => ∃ o, h.get? a = some o
  | .xd fs => ∃ mA, h.Ns1 a mA ∧ ∀ f, RelO (fs.lookup f) (mA f)
  | .rng lo hi => ∃ t u v, h.get? a = some { cls := .type "range", data := .fields #[.int lo t, .int hi u, .int 1 v] }
  | .frz o u => h.get? a = some o ∧ ObjOk H h a u
  | .tbl ps => h.get? a = some { cls := .none, data := .fields ps }
  | .met f x => h.get? a = some (PySem.W.methodObj (.ref f) (.ref x))
  | .ext φ => φ h ∧ (∃ o, h.get? a = some o) ∧ ∀ h1 h2 : Heap, φ h1 → (∀ o, h1.get? a = some o → h2.get? a = some o) → φ h2
noncomputable def HOk (H : Hp) (h : Heap) : Prop := ∀ a o, H a = some o → ObjOk P w H h a o
end

section
variable {P : Program} {w : World} {H H' : Hp} {h h' : Heap} {a : Addr} {o : HO}
theorem ObjOk.lt (x : ObjOk P w H h a o) : a < h.objs.size := by
  cases o with
  | lst xs => obtain ⟨_, _, _, _, e⟩ := x; exact Heap.lt_size e
  | tup xs => obtain ⟨_, _, _, o, e, _⟩ := x; exact Heap.lt_size e
  | dK kvs => obtain ⟨_, _, _, _, o, _, _, e, _⟩ := x; exact Heap.lt_size e
  | dT kvs => obtain ⟨_, _, _, _, o, _, _, e, _⟩ := x; exact Heap.lt_size e
  | set S n => obtain ⟨o, _, _, _, e, _⟩ := x; exact Heap.lt_size e
  | ins C dx fs => obtain ⟨_, _, _, e, _⟩ := x; exact Heap.lt_size e
  | own y => obtain ⟨_, e⟩ := x; exact Heap.lt_size e
  | xd fs => obtain ⟨_, ⟨_, _, _, e, _⟩, _⟩ := x; exact Heap.lt_size e
  | rng lo hi => obtain ⟨_, _, _, e⟩ := x; exact Heap.lt_size e
  | frz ob u => obtain ⟨e, _⟩ := x; exact Heap.lt_size e
  | tbl ps => exact Heap.lt_size (show h.get? a = some _ from x)
  | met f y => exact Heap.lt_size (show h.get? a = some _ from x)
  | ext φ => obtain ⟨_, ⟨_, e⟩, _⟩ := x; exact Heap.lt_size e
theorem Paired.mapP {α β : Type} {F G : α → β → Prop} : ∀ {l₁ : List α} {l₂ : List β}, Paired F l₁ l₂ → (∀ a b, F a b → G a b) → Paired G l₁ l₂
  | _, _, .nil, _ => .nil
  | _, _, .cons r t, f => .cons (f _ _ r) (Paired.mapP t f)
theorem ObjOk.stay (x : ObjOk P w H h a o) (k : ∀ b u, (b = a ∨ H b = some (.own a)) → h.get? b = some u → h'.get? b = some u)
    (ho : ∀ b, H b = some (.own a) → H' b = some (.own a)) (ht : ∀ b xs, H b = some (.tup xs) → H' b = some (.tup xs)) : ObjOk P w H' h' a o := by
  induction o with
  | lst xs => obtain ⟨z, its, n, r, e⟩ := x; exact ⟨z, its, n, r, k _ _ (.inl rfl) e⟩
  | tup xs => obtain ⟨z, its, r, ob, e, c⟩ := x; exact ⟨z, its, r, ob, k _ _ (.inl rfl) e, c⟩
  | dK kvs => obtain ⟨z, y, vs, r, ob, es, ep, e, c⟩ := x; exact ⟨z, y, vs, r, ob, es, ep, k _ _ (.inl rfl) e, c⟩
  | dT kvs =>
    obtain ⟨z, y, xs, r, ob, es, ep, e, c⟩ := x
    exact ⟨z, y, xs, Paired.mapP r fun p q z => ⟨z.1, ht _ _ z.2.1, z.2.2⟩, ob, es, ep, k _ _ (.inl rfl) e, c⟩
  | set S n => obtain ⟨ob, es, ep, t, e, c⟩ := x; exact ⟨ob, es, ep, t, k _ _ (.inl rfl) e, c⟩
  | ins C dx fs =>
    obtain ⟨d, z, ne, e, mA, ⟨od, es, ep, e2, c⟩, r⟩ := x
    exact ⟨ho _ d, z, ne, k _ _ (.inl rfl) e, mA, ⟨od, es, ep, k _ _ (.inr d) e2, c⟩, r⟩
  | own y => obtain ⟨ob, e⟩ := x; exact ⟨ob, k _ _ (.inl rfl) e⟩
  | xd fs => obtain ⟨mA, ⟨od, es, ep, e, c⟩, r⟩ := x; exact ⟨mA, ⟨od, es, ep, k _ _ (.inl rfl) e, c⟩, r⟩
  | rng lo hi => obtain ⟨t, u, v, e⟩ := x; exact ⟨t, u, v, k _ _ (.inl rfl) e⟩
  | frz ob u ih => obtain ⟨e, q⟩ := x; exact ⟨k _ _ (.inl rfl) e, ih q⟩
  | tbl ps =>
    have e : h.get? a = some { cls := .none, data := .fields ps } := x
    show h'.get? a = some { cls := .none, data := .fields ps }
    exact k a _ (.inl rfl) e
  | met f y =>
    have e : h.get? a = some (PySem.W.methodObj (.ref f) (.ref y)) := x
    show h'.get? a = some (PySem.W.methodObj (.ref f) (.ref y))
    exact k a _ (.inl rfl) e
  | ext φ => obtain ⟨p, ⟨o, e⟩, st⟩ := x; exact ⟨st _ _ p fun o q => k _ _ (.inl rfl) q, ⟨o, k _ _ (.inl rfl) e⟩, st⟩
theorem HOk.lt (x : HOk P w H h) (e : H a = some o) : a < h.objs.size := (x a o e).lt
theorem HOk.fresh (x : HOk P w H h) (e : h.objs.size ≤ a) : H a = none := by
  cases q : H a with
  | none => rfl
  | some u => exact absurd (Nat.lt_of_lt_of_le (x.lt q) e) (Nat.lt_irrefl _)
theorem HOk.kept (x : HOk P w H h) (k : ∀ b u, h.get? b = some u → h'.get? b = some u) : HOk P w H h' := fun a o e =>
  (x a o e).stay (fun b u _ q => k b u q) (fun _ q => q) fun _ _ q => q
theorem HOk.laid (x : HOk P w H h) (k : ∀ b u, h.get? b = some u → h'.get? b = some u) (hp : h.objs.size ≤ a) (new : ObjOk P w (upd H a o) h' a o) : HOk P w (upd H a o) h' := fun b u e => by
  have hn := x.fresh hp
  by_cases hb : b = a
  · subst hb; rw [upd_same] at e; cases e; exact new
  · rw [upd_ne hb] at e
    exact (x b u e).stay (fun c v _ q => k c v q) (fun c q => by rw [upd_ne (ne_of_none q hn)]; exact q) fun c xs q => by rw [upd_ne (ne_of_none q hn)]; exact q
end

noncomputable def Rd (H : Hp) (a : Addr) (u : HO) : Prop := H a = some u ∨ ∃ o, H a = some (.frz o u)
theorem Rd.ok {P : Program} {w : World} {H : Hp} {h : Heap} {a : Addr} {u : HO} (r : Rd H a u) (x : HOk P w H h) : ObjOk P w H h a u := by
  rcases r with r | ⟨o, r⟩
  · exact x a u r
  · obtain ⟨_, q⟩ := x a _ r
    exact q
noncomputable def Mut : Option HO → Prop
  | some (.lst _) => True
  | some (.dK _) => True
  | some (.dT _) => True
  | some (.set _ _) => True
  | some (.ins _ _ _) => True
  | some (.ext _) => True
  | _ => False
section
variable {P : Program} {w : World} {H : Hp} {h h' : Heap} {x e : Addr} {o' : HO}
theorem HOk.write (ok : HOk P w H h) (mu : Mut (H x)) (he : e = x ∨ H e = some (.own x)) (k : ∀ b u, b ≠ e → h.get? b = some u → h'.get? b = some u) (heo : ∃ u, h'.get? e = some u)
    (new : ObjOk P w (upd H x o') h' x o') : HOk P w (upd H x o') h' := fun b u q => by
  have nown : ∀ c y, H c = some (.own y) → c ≠ x := fun c y r z => by subst z; rw [r] at mu; exact mu
  have ntup : ∀ c xs, H c = some (.tup xs) → c ≠ x := fun c xs r z => by subst z; rw [r] at mu; exact mu
  by_cases hb : b = x
  · subst hb; rw [upd_same] at q; cases q; exact new
  · rw [upd_ne hb] at q
    by_cases hbe : b = e
    · have q' : H b = some (.own x) := by
        rcases he with z | z
        · exact absurd (hbe.trans z) hb
        · rw [hbe]; exact z
      rw [q] at q'; cases q'
      obtain ⟨v, hv⟩ := heo
      exact ⟨v, by rw [hbe]; exact hv⟩
    · refine (ok b u q).stay (fun c v hc r => k c v ?_ r) (fun c r => by rw [upd_ne (nown c b r)]; exact r) fun c xs r => by rw [upd_ne (ntup c xs r)]; exact r
      rcases hc with rfl | hc
      · exact hbe
      · rintro rfl
        rcases he with z | z
        · exact nown c b hc z
        · rw [hc] at z; cases z; exact hb rfl
end

structure Un (fs ex : List Addr) (H H' : Hp) (h h' : Heap) : Prop where
  keep : ∀ b o, h.get? b = some o → H b = none → b ∉ fs → b ∉ ex → h'.get? b = some o
  slot : ∀ b o, h.get? b = some o → H b = none → b ∈ fs → b ∉ ex → ∃ sl, h'.get? b = some { o with slots := sl }
  free : ∀ b o, h.get? b = some o → H b = none → b ∉ ex → H' b = none
  there : ∀ b o, h.get? b = some o → b ∉ ex → ∃ o', h'.get? b = some o'
  tups : ∀ b xs, H b = some (.tup xs) → H' b = some (.tup xs)
  frzs : ∀ b o u, H b = some (.frz o u) → H' b = some (.frz o u)
  tbls : ∀ b ps, H b = some (.tbl ps) → ∃ more, H' b = some (.tbl (ps ++ more))
section
variable {fs fs' ex ex' : List Addr} {H H1 H2 : Hp} {h h1 h2 h' : Heap} {a x e : Addr} {o : HO}
theorem Un.any (u : Un fs ex H H1 h h1) {b : Addr} {ob : Obj} (q : h.get? b = some ob) (n : H b = none) (hx : b ∉ ex) : ∃ sl, h1.get? b = some { ob with slots := sl } := by
  by_cases hb : b ∈ fs
  · exact u.slot b ob q n hb hx
  · exact ⟨ob.slots, u.keep b ob q n hb hx⟩
theorem Un.kept (k : ∀ b u, h.get? b = some u → h'.get? b = some u) : Un fs ex H H h h' :=
  ⟨fun b ob q _ _ _ => k b ob q, fun b ob q _ _ _ => ⟨ob.slots, k b ob q⟩, fun _ _ _ n _ => n, fun b ob q _ => ⟨ob, k b ob q⟩, fun _ _ q => q, fun _ _ _ q => q, fun _ ps q => ⟨#[], by rw [q]; simp⟩⟩
theorem Un.refl : Un fs ex H H h h := Un.kept fun _ _ q => q
theorem Un.laid (k : ∀ b u, h.get? b = some u → h'.get? b = some u) (hp : h.objs.size ≤ a) (hn : H a = none) : Un fs ex H (upd H a o) h h' where
  keep := fun b u q _ _ _ => k b u q
  slot := fun b u q _ _ _ => ⟨u.slots, k b u q⟩
  free := fun b u q n _ => by rw [upd_ne (Nat.ne_of_lt (Nat.lt_of_lt_of_le (Heap.lt_size q) hp))]; exact n
  there := fun b u q _ => ⟨u, k b u q⟩
  tups := fun b xs q => by rw [upd_ne (ne_of_none q hn)]; exact q
  frzs := fun b u xs q => by rw [upd_ne (ne_of_none q hn)]; exact q
  tbls := fun b ps q => ⟨#[], by rw [upd_ne (ne_of_none q hn), q]; simp⟩
theorem Un.write (mu : Mut (H x)) (he : e = x ∨ H e = some (.own x)) (k : ∀ b u, b ≠ e → h.get? b = some u → h'.get? b = some u) (heo : ∃ u, h'.get? e = some u) : Un fs ex H (upd H x o) h h' := by
  have hx : ∀ b, H b = none → b ≠ x := fun b n z => by subst z; rw [n] at mu; exact mu
  have hb : ∀ b, H b = none → b ≠ e := fun b n z => by
    subst z
    rcases he with r | r
    · exact hx b n r
    · rw [n] at r; cases r
  have hm : ∀ b u, H b = some u → ¬ Mut (some u) → b ≠ x := fun b u q nm z => by subst z; rw [q] at mu; exact nm mu
  refine ⟨fun b u q n _ _ => k b u (hb b n) q, fun b u q n _ _ => ⟨u.slots, k b u (hb b n) q⟩, fun b u q n _ => by rw [upd_ne (hx b n)]; exact n, fun b u q _ => ?_,
    fun b xs q => by rw [upd_ne (hm b _ q fun z => z)]; exact q, fun b u xs q => by rw [upd_ne (hm b _ q fun z => z)]; exact q, fun b ps q => ⟨#[], by rw [upd_ne (hm b _ q fun z => z), q]; simp⟩⟩
  by_cases hbe : b = e
  · subst hbe; exact heo
  · exact ⟨u, k b u hbe q⟩
end

noncomputable def trk (h : Heap) (H : Hp) : List Addr := (List.range h.objs.size).filter fun a => (H a).isSome
noncomputable def hidT (h : Heap) (H : Hp) : Heap := PySem.W.hideAll h (trk h H)
theorem hidT_size (h : Heap) (H : Hp) : (hidT h H).objs.size = h.objs.size := PySem.W.hideAll_size _ _
theorem hidT_get {h : Heap} {H : Hp} {b : Addr} {o : Obj} (e : h.get? b = some o) (n : H b = none) : (hidT h H).get? b = some o :=
  PySem.W.hideAll_get _ e fun hm => by
    have q : (H b).isSome = true := (List.mem_filter.mp hm).2
    rw [n] at q; simp at q
theorem of_hidT {h : Heap} {H : Hp} {b : Addr} {o : Obj} (e : (hidT h H).get? b = some o) : h.get? b = some o ∧ H b = none := by
  have e' : h.get? b = some o := PySem.W.of_hideAll (trk h H) e
  refine ⟨e', ?_⟩
  cases q : H b with
  | none => rfl
  | some x =>
    have hm : b ∈ trk h H := List.mem_filter.mpr ⟨List.mem_range.mpr (Heap.lt_size e'), by simp [q]⟩
    have z : (hidT h H).get? b = none := PySem.W.hideAll_none (trk h H) hm
    rw [z] at e; cases e

noncomputable def allNews (g h : Heap) (L : Addr) : List (Addr × Obj) := (List.range h.objs.size).filterMap fun a => if a = L ∨ (g.get? a).isSome = true then none else (h.get? a).map fun o => (a, o)
noncomputable def rest (g h : Heap) (L d : Addr) : List (Addr × Obj) := (allNews g h L).filter fun p => decide (p.1 ≠ d)
end L2

namespace L2
open PySem PySem.Spec PyProof.Rows

structure Mod (K : PySem.W.Frag) (mg : Str → Option Value) (base : Heap) : Prop where
  kin : K.In base
  glob : base.Ns mainGlobals mg
  blt : ∃ mb, base.Ns builtinsNs mb ∧ ∀ x : Str, x ≠ "__name__" → mb x = bootBuiltins x
  nolimit : base.NoLimit

structure Cx where
  prog : Program
  w : World
  K : PySem.W.Frag
  mg : Str → Option Value
  base : Heap
  A : Around
  N : List Str
  s₀ : Shared
  H₀ : Hp
  env : Env
  outer : List Env
  stack : List Env
  ex : List Addr
  fn : Str → Bool
  calm : Bool
  pn : List (Addr × Obj)
  xe : Value → Shared → Prop
def frs (l : List Env) : List Addr := l.filterMap (·.frame)
abbrev Cx.fs (X : Cx) : List Addr := frs X.outer

noncomputable def Vis (sc : Scope) (x : Str) : Prop := sc.names.lookup x = some .local ∨ sc.names.lookup x = some .cell ∨ sc.names.lookup x = some .free
noncomputable def Loc (sc : Scope) (x : Str) : Prop := sc.names.lookup x = some .local ∨ sc.names.lookup x = some .cell
noncomputable def Look (env : Env) (h : Heap) (m : Str → Option Value) (x : Str) (u : Value) : Prop :=
  (env.kindOf x = some .local ∧ m x = some u) ∨ ((env.kindOf x = some .cell ∨ env.kindOf x = some .free) ∧ ∃ c, env.cells.lookup x = some c ∧ h.IsCell c (some u))

structure Cx.Ok (X : Cx) : Prop where
  mod : Mod X.K X.mg X.base
  kind : X.env.scope.kind = .function
  glob : X.env.globals = mainGlobals
  blt : X.env.builtins = builtinsNs
  above : X.s₀.heap.objs.size ≤ X.env.locals
  inj : ∀ x y c, X.env.cells.lookup x = some c → X.env.cells.lookup y = some c → x = y
  has : ∀ x, (X.env.kindOf x = some .cell ∨ X.env.kindOf x = some .free) → ∃ c, X.env.cells.lookup x = some c
  cab : ∀ x c, X.fn x = true → X.env.cells.lookup x = some c → X.s₀.heap.objs.size ≤ c
  hd : X.calm = true → X.A.handled = none
  frames : X.A.frames = some X.stack
  stk : X.stack = X.outer ∨ (X.stack = X.env :: X.outer ∧ X.env.frame = some X.env.locals)
  exf : ∀ b ∈ X.ex, b ≠ X.env.locals ∧ ∀ x c, X.env.cells.lookup x = some c → c ≠ b
  bs : ∀ b o, X.base.get? b = some o → X.s₀.heap.get? b = some o ∧ X.H₀ b = none
  bsz : X.base.objs.size ≤ X.s₀.heap.objs.size
  noex : ∀ b o, X.base.get? b = some o → b ∉ X.ex
  exfs : ∀ b ∈ X.ex, b ∉ X.fs
  funs : X.s₀.heap.FunFrames X.base X.outer
  frf : ∀ b ∈ X.fs, X.H₀ b = none

structure Inv (X : Cx) (pins : List (Addr × Obj)) (σ : List (Option V)) (H : Hp) (s : Shared) : Prop where
  ok : X.Ok
  os : s.os = X.s₀.os
  bare : AllBare s.gens
  base : Un X.fs X.ex X.H₀ H X.s₀.heap s.heap
  loc : ∃ m, s.heap.Ns X.env.locals m ∧ ∀ (i : Nat) (x : Str) (v : V), X.N[i]? = some x → σ[i]? = some (some v) → Vis X.env.scope x → ∃ u, RelV v u ∧ Look X.env s.heap m x u
  cell : ∀ x c, X.env.cells.lookup x = some c → ∃ v, s.heap.IsCell c v
  free : H X.env.locals = none
  freeC : ∀ x c, X.env.cells.lookup x = some c → H c = none
  pin : ∀ p ∈ X.pn ++ pins, s.heap.get? p.1 = some p.2 ∧ H p.1 = none ∧ p.1 ≠ X.env.locals ∧ p.1 ∉ X.fs ∧ ∀ v, p.2.data ≠ .cell v
  hok : HOk X.prog X.w H s.heap
  len : σ.length = X.N.length

section
variable {X : Cx} {pins : List (Addr × Obj)} {σ : List (Option V)} {H H' : Hp} {s : Shared} {h' : Heap}

theorem Cx.Ok.nofr (ok : X.Ok) {b : Addr} {o : Obj} (e : X.base.get? b = some o) : b ∉ X.fs := fun hb => by
  have := (ok.funs.mem hb).1
  rw [e] at this; cases this
theorem Inv.bs (I : Inv X pins σ H s) : ∀ b o, X.base.get? b = some o → s.heap.get? b = some o ∧ H b = none := fun b o e =>
  ⟨I.base.keep b o (I.ok.bs b o e).1 (I.ok.bs b o e).2 (I.ok.nofr e) (I.ok.noex b o e), I.base.free b o (I.ok.bs b o e).1 (I.ok.bs b o e).2 (I.ok.noex b o e)⟩
theorem Inv.bk (I : Inv X pins σ H s) : ∀ b o, X.base.get? b = some o → s.heap.get? b = some o := fun b o e => (I.bs b o e).1
theorem Inv.mod (I : Inv X pins σ H s) : Mod X.K X.mg X.base := I.ok.mod
theorem Inv.kIn (I : Inv X pins σ H s) : X.K.In s.heap := I.ok.mod.kin.keeps I.bk
theorem Inv.fr (I : Inv X pins σ H s) : ∃ m, Fr X.base X.env.locals s.heap m :=
  let ⟨m, hn, _⟩ := I.loc
  ⟨m, hn, I.bk, Nat.le_trans I.ok.bsz I.ok.above⟩
theorem Inv.lt (I : Inv X pins σ H s) : X.env.locals < s.heap.objs.size := let ⟨_, hn, _⟩ := I.loc; hn.lt
theorem Inv.sz (I : Inv X pins σ H s) : X.s₀.heap.objs.size ≤ s.heap.objs.size := Nat.le_trans I.ok.above (Nat.le_of_lt I.lt)
theorem Inv.nofs (I : Inv X pins σ H s) {a : Addr} (h : s.heap.objs.size ≤ a) : a ∉ X.fs := fun hb => by
  obtain ⟨_, o, ho, _⟩ := I.ok.funs.mem hb
  exact absurd (Nat.lt_of_lt_of_le (Heap.lt_size ho) (Nat.le_trans I.sz h)) (Nat.lt_irrefl _)
theorem Inv.cne (I : Inv X pins σ H s) : ∀ x c, X.env.cells.lookup x = some c → c ≠ X.env.locals := fun x c e z => by
  obtain ⟨v, o, ho, hd⟩ := I.cell x c e
  obtain ⟨m, ⟨o', es, ep, ho', hd', _⟩, _⟩ := I.loc
  rw [z, ho'] at ho; cases ho; rw [hd'] at hd; cases hd
theorem Inv.funs (I : Inv X pins σ H s) : s.heap.FunFrames X.base X.outer := by
  have all : ∀ (l : List Env), (∀ b ∈ frs l, b ∈ X.fs) → X.s₀.heap.FunFrames X.base l → s.heap.FunFrames X.base l := by
    intro l
    induction l with
    | nil => intro _ _; trivial
    | cons env r ih =>
      intro hs hl
      obtain ⟨hk, ⟨L, o, hf, hn, ho, hd⟩, hr⟩ := hl
      have hL : L ∈ X.fs := hs L (by unfold frs; rw [List.filterMap_cons, hf]; exact List.mem_cons_self)
      obtain ⟨sl, e⟩ := I.base.slot L o ho (I.ok.frf L hL) hL fun z => I.ok.exfs L z hL
      exact ⟨hk, ⟨L, _, hf, hn, e, hd⟩, ih (fun b hb => hs b (by unfold frs; rw [List.filterMap_cons, hf]; exact List.mem_cons_of_mem _ hb)) hr⟩
  exact all X.outer (fun _ hb => hb) I.ok.funs

theorem Inv.stack (I : Inv X pins σ H s) : s.heap.FunFrames X.base X.stack := by
  rcases I.ok.stk with e | ⟨e, hf⟩
  · rw [e]; exact I.funs
  · rw [e]
    obtain ⟨m, hn, _⟩ := I.loc
    refine .cons (by rw [I.ok.kind]; decide) hf hn ?_ I.funs
    exact Heap.get?_none_of_le (Nat.le_trans I.ok.bsz I.ok.above)
theorem Inv.stkSub (I : Inv X pins σ H s) : ∀ b ∈ frs X.stack, b ∈ X.env.locals :: X.fs := fun b hb => by
  rcases I.ok.stk with e | ⟨e, hf⟩
  · rw [e] at hb; exact List.mem_cons_of_mem _ hb
  · rw [e] at hb
    unfold frs at hb
    rw [List.filterMap_cons, hf] at hb
    exact hb
theorem Inv.stkFree (I : Inv X pins σ H s) : ∀ b ∈ frs X.stack, H b = none := fun b hb => by
  rcases List.mem_cons.mp (I.stkSub b hb) with e | hb
  · rw [e]; exact I.free
  · obtain ⟨_, o, ho, _⟩ := I.ok.funs.mem hb
    exact I.base.free b o ho (I.ok.frf b hb) fun z => I.ok.exfs b z hb

theorem Inv.step {g' : Array GenState} {t' : Nat} {d' : Drawn} {ch : List Addr} (I : Inv X pins σ H s)
    (hch : ∀ b ∈ ch, (b ∈ X.ex ∨ X.s₀.heap.objs.size ≤ b) ∧ b ≠ X.env.locals ∧ (∀ x c, X.env.cells.lookup x = some c → c ≠ b) ∧ ∀ p ∈ X.pn ++ pins, p.1 ≠ b)
    (keep : ∀ b o, b ≠ X.env.locals → b ∉ X.fs → b ∉ ch → s.heap.get? b = some o → H b = none → h'.get? b = some o)
    (slot : ∀ b o, b ≠ X.env.locals → b ∈ X.fs → b ∉ ch → s.heap.get? b = some o → H b = none → ∃ sl, h'.get? b = some { o with slots := sl }) (free : ∀ b o, b ∉ ch → s.heap.get? b = some o → H b = none → H' b = none)
    (there : ∀ b o, b ∉ ch → s.heap.get? b = some o → ∃ o', h'.get? b = some o')
    (tups : ∀ b xs, H b = some (.tup xs) → H' b = some (.tup xs)) (frzs : ∀ b o u, H b = some (.frz o u) → H' b = some (.frz o u)) (tbls : ∀ b ps, H b = some (.tbl ps) → ∃ more, H' b = some (.tbl (ps ++ more)))
    (ns : ∀ m, s.heap.Ns X.env.locals m → h'.Ns X.env.locals m) (hok : HOk X.prog X.w H' h') (hg : AllBare g') :
    Inv X pins σ H' { s with heap := h', gens := g', drawn := d', toks := t' } := by
  have neL : ∀ b o, X.s₀.heap.get? b = some o → b ≠ X.env.locals := fun b o e => Nat.ne_of_lt (Nat.lt_of_lt_of_le (Heap.lt_size e) I.ok.above)
  have neC : ∀ b o, X.s₀.heap.get? b = some o → b ∉ X.ex → b ∉ ch := fun b o e hx hb => by
    rcases (hch b hb).1 with z | z
    · exact hx z
    · exact absurd (Nat.lt_of_lt_of_le (Heap.lt_size e) z) (Nat.lt_irrefl _)
  have cellK : ∀ x c, X.env.cells.lookup x = some c → ∀ v, s.heap.IsCell c v → h'.IsCell c v := fun x c e v ⟨o, ho, hd⟩ => by
    have nch : c ∉ ch := fun z => (hch c z).2.2.1 x c e rfl
    by_cases hc : c ∈ X.fs
    · obtain ⟨sl, q⟩ := slot c o (I.cne x c e) hc nch ho (I.freeC x c e)
      exact ⟨_, q, hd⟩
    · exact ⟨o, keep c o (I.cne x c e) hc nch ho (I.freeC x c e), hd⟩
  refine ⟨I.ok, I.os, hg, ⟨fun b o e n hb hx => ?_, fun b o e n hb hx => ?_, fun b o e n hx => ?_, fun b o e hx => ?_, fun b xs e => tups b xs (I.base.tups b xs e), fun b o xs e => frzs b o xs (I.base.frzs b o xs e), fun b ps e => ?_⟩, ?_, fun x c e => ?_, ?_, fun x c e => ?_, fun p hp => ?_, hok, I.len⟩
  · exact keep b o (neL b o e) hb (neC b o e hx) (I.base.keep b o e n hb hx) (I.base.free b o e n hx)
  · obtain ⟨sl, e1⟩ := I.base.slot b o e n hb hx
    obtain ⟨sl', e2⟩ := slot b _ (neL b o e) hb (neC b o e hx) e1 (I.base.free b o e n hx)
    exact ⟨sl', e2⟩
  · obtain ⟨o', e1⟩ := I.base.there b o e hx
    exact free b o' (neC b o e hx) e1 (I.base.free b o e n hx)
  · obtain ⟨o', e1⟩ := I.base.there b o e hx
    exact there b o' (neC b o e hx) e1
  · obtain ⟨m1, e1⟩ := I.base.tbls b ps e
    obtain ⟨m2, e2⟩ := tbls b _ e1
    exact ⟨m1 ++ m2, by rw [e2, Array.append_assoc]⟩
  · obtain ⟨m, hn, hl⟩ := I.loc
    refine ⟨m, ns m hn, fun i x v e1 e2 e3 => ?_⟩
    obtain ⟨u, r, l⟩ := hl i x v e1 e2 e3
    refine ⟨u, r, ?_⟩
    rcases l with l | ⟨k, c, e, z⟩
    · exact .inl l
    · exact .inr ⟨k, c, e, cellK x c e _ z⟩
  · obtain ⟨v, z⟩ := I.cell x c e
    exact ⟨v, cellK x c e v z⟩
  · obtain ⟨m, ⟨o, _, _, ho, _⟩, _⟩ := I.loc
    exact free _ o (fun z => (hch _ z).2.1 rfl) ho I.free
  · obtain ⟨v, o, ho, hd⟩ := I.cell x c e
    exact free c o (fun z => (hch c z).2.2.1 x c e rfl) ho (I.freeC x c e)
  · obtain ⟨e, n, ne, nf, d⟩ := I.pin p hp
    have nch : p.1 ∉ ch := fun z => (hch p.1 z).2.2.2 p hp rfl
    exact ⟨keep p.1 p.2 ne nf nch e n, free p.1 p.2 nch e n, ne, nf, d⟩
theorem Inv.un {t' : Nat} (I : Inv X pins σ H s) (u : Un X.fs [] H H' s.heap h') (hok : HOk X.prog X.w H' h') : Inv X pins σ H' { s with heap := h', toks := t' } := by
  obtain ⟨m, ⟨o, es, ep, ho, r⟩, _⟩ := id I.loc
  obtain ⟨sl, hL⟩ := u.any ho I.free (by simp)
  exact I.step (g' := s.gens) (d' := s.drawn) (ch := []) (fun _ z => nomatch z) (fun b o _ hb _ e n => u.keep b o e n hb (by simp)) (fun b o _ hb _ e n => u.slot b o e n hb (by simp)) (fun b o _ e n => u.free b o e n (by simp)) (fun b o _ e => u.there b o e (by simp)) u.tups u.frzs u.tbls (fun m' hm => by
    obtain ⟨o', es', ep', ho', r'⟩ := hm
    rw [ho] at ho'; cases ho'
    exact ⟨_, es', ep', hL, r'⟩) hok I.bare
theorem Inv.call {g' : Array GenState} {t' : Nat} {d' : Drawn} {ch : List Addr} (I : Inv X pins σ H s) (u : Un (frs X.stack) ch H H' s.heap h') (hok : HOk X.prog X.w H' h') (hg : AllBare g')
    (hch : ∀ b ∈ ch, (b ∈ X.ex ∨ X.s₀.heap.objs.size ≤ b) ∧ b ≠ X.env.locals ∧ (∀ x c, X.env.cells.lookup x = some c → c ≠ b) ∧ ∀ p ∈ X.pn ++ pins, p.1 ≠ b) :
    Inv X pins σ H' { s with heap := h', gens := g', drawn := d', toks := t' } := by
  obtain ⟨m, ⟨o, es, ep, ho, r⟩, _⟩ := id I.loc
  obtain ⟨sl, hL⟩ := u.any ho I.free fun z => (hch _ z).2.1 rfl
  exact I.step (ch := ch) hch (fun b o hL hb hc e n => u.keep b o e n (fun z => (List.mem_cons.mp (I.stkSub b z)).elim hL hb) hc) (fun b o _ _ hc e n => u.any e n hc) (fun b o hc e n => u.free b o e n hc) (fun b o hc e => u.there b o e hc) u.tups u.frzs u.tbls (fun m' hm => by
    obtain ⟨o', es', ep', ho', r'⟩ := hm
    rw [ho] at ho'; cases ho'
    exact ⟨_, es', ep', hL, r'⟩) hok hg
theorem Inv.turned {t' : Nat} {it : Addr} (I : Inv X pins σ H s) (k : ∀ b o, b ≠ it → s.heap.get? b = some o → h'.get? b = some o) (hn : H it = none) (hL : it ≠ X.env.locals)
    (h1 : it ∈ X.ex ∨ X.s₀.heap.objs.size ≤ it) (h2 : ∀ x c, X.env.cells.lookup x = some c → c ≠ it) (h3 : ∀ p ∈ X.pn ++ pins, p.1 ≠ it) : Inv X pins σ H { s with heap := h', toks := t' } := by
  have nit : ∀ b u, H b = some u → b ≠ it := fun b u e z => by rw [z, hn] at e; cases e
  refine I.step (g' := s.gens) (d' := s.drawn) (ch := [it]) (fun b hb => ?_) (fun b o _ _ hc e _ => k b o (fun z => hc (by simp [z])) e) (fun b o _ _ hc e _ => ⟨o.slots, k b o (fun z => hc (by simp [z])) e⟩) (fun _ _ _ _ n => n)
    (fun b o hc e => ⟨o, k b o (fun z => hc (by simp [z])) e⟩) (fun _ _ e => e) (fun _ _ _ e => e) (fun b ps e => ⟨#[], by rw [e]; simp⟩) (fun m hm => ?_) (fun b u e => ?_) I.bare
  · have e : b = it := by simpa using hb
    subst e
    exact ⟨h1, hL, h2, h3⟩
  · obtain ⟨o, es, ep, ho, r⟩ := hm
    exact ⟨o, es, ep, k _ o (Ne.symm hL) ho, r⟩
  · refine (I.hok b u e).stay (fun c v hc q => k c v ?_ q) (fun _ q => q) fun _ _ q => q
    rcases hc with z | z
    · rw [z]; exact nit b u e
    · exact nit c _ z
theorem Inv.tok (I : Inv X pins σ H s) (t : Nat) : Inv X pins σ H { s with toks := t } := I.un (h' := s.heap) (t' := t) Un.refl I.hok
theorem Inv.kept {t' : Nat} (I : Inv X pins σ H s) (k : ∀ b u, s.heap.get? b = some u → h'.get? b = some u) : Inv X pins σ H { s with heap := h', toks := t' } := I.un (Un.kept k) (I.hok.kept k)
theorem Inv.laid {a : Addr} {o : HO} {t' : Nat} (I : Inv X pins σ H s) (k : ∀ b u, s.heap.get? b = some u → h'.get? b = some u) (hp : s.heap.objs.size ≤ a) (new : ObjOk X.prog X.w (upd H a o) h' a o) :
    Inv X pins σ (upd H a o) { s with heap := h', toks := t' } := I.un (Un.laid k hp (I.hok.fresh hp)) (I.hok.laid k hp new)
theorem Inv.write {x e : Addr} {o : HO} {t' : Nat} (I : Inv X pins σ H s) (mu : Mut (H x)) (he : e = x ∨ H e = some (.own x)) (k : ∀ b u, b ≠ e → s.heap.get? b = some u → h'.get? b = some u) (heo : ∃ u, h'.get? e = some u)
    (new : ObjOk X.prog X.w (upd H x o) h' x o) : Inv X pins σ (upd H x o) { s with heap := h', toks := t' } := I.un (Un.write mu he k heo) (I.hok.write mu he k heo new)
theorem Inv.weak {σ' : List (Option V)} (I : Inv X pins σ H s) (hl : σ'.length = σ.length) (w : ∀ (i : Nat) v, σ'[i]? = some (some v) → σ[i]? = some (some v)) : Inv X pins σ' H s :=
  ⟨I.ok, I.os, I.bare, I.base, let ⟨m, hn, hl'⟩ := I.loc; ⟨m, hn, fun i x v e1 e2 e3 => hl' i x v e1 (w i v e2) e3⟩, I.cell, I.free, I.freeC, I.pin, I.hok, hl.trans I.len⟩
theorem Inv.pins_of {pins' : List (Addr × Obj)} (I : Inv X pins σ H s) (h : ∀ p ∈ pins', s.heap.get? p.1 = some p.2 ∧ H p.1 = none ∧ p.1 ≠ X.env.locals ∧ p.1 ∉ X.fs ∧ ∀ v, p.2.data ≠ .cell v) : Inv X pins' σ H s :=
  ⟨I.ok, I.os, I.bare, I.base, I.loc, I.cell, I.free, I.freeC, fun p hp => (List.mem_append.mp hp).elim (fun z => I.pin p (List.mem_append_left _ z)) (h p), I.hok, I.len⟩

theorem nodup_ix {N : List Str} (hN : N.Nodup) {i j : Nat} {x : Str} (a : N[i]? = some x) (b : N[j]? = some x) : i = j := by
  obtain ⟨h1, e1⟩ := List.getElem?_eq_some_iff.mp a
  obtain ⟨h2, e2⟩ := List.getElem?_eq_some_iff.mp b
  exact (List.getElem_inj hN).mp (e1.trans e2.symm)

theorem store_ok2 {M : Model} {A : Around} {E : Value → Shared → Prop} {i : Nat} {x : Str} {v : V} {u : Value} {Q : Unit → Shared → Prop} (I : Inv X pins σ H s) (hN : X.N.Nodup) (hi : X.N[i]? = some x) (hx : Loc X.env.scope x) (r : RelV v u)
    (h : ∀ s', Inv X pins (σ.set i (some v)) H s' → (∃ a, Heap.SameBut a s.heap s'.heap ∧ (a = X.env.locals ∨ X.env.cells.lookup x = some a)) → Q () s') (hf : X.fn x = true ∨ X.env.scope.names.lookup x = some .local := by first | exact .inl rfl | exact .inr rfl | assumption) : wpAny M A (storeName X.env x u) Q E s := by
  obtain ⟨m, hn, hl⟩ := id I.loc
  have hcls : (X.env.scope.kind == .class || (X.env.scope.kind == .module && X.env.locals != X.env.globals)) = false := by rw [I.ok.kind]; rfl
  have hiσ : i < σ.length := by rw [I.len]; exact (List.getElem?_eq_some_iff.mp hi).1
  have cne := I.cne
  have tracked : ∀ {a : Addr} {h' : Heap}, (∃ o, s.heap.get? a = some o ∧ H a = none) → Heap.SameBut a s.heap h' → HOk X.prog X.w H h' := fun {a h'} ha hs b ob e => by
    obtain ⟨_, _, hfree⟩ := ha
    refine (I.hok b ob e).stay (fun c w' hc q => (hs.2 c ?_).trans q) (fun _ q => q) fun _ _ q => q
    rintro rfl
    rcases hc with rfl | hc
    · rw [hfree] at e; cases e
    · rw [hfree] at hc; cases hc
  rcases hx with hk | hk
  · refine wpAny_storeName_local hk hn (fun h' hn' hs => ?_) hcls
    obtain ⟨oL, _, _, hoL, _⟩ := id hn
    refine h _ ⟨I.ok, I.os, I.bare, ⟨fun b o e n hb hx => ?_, fun b o e n hb hx => ?_, I.base.free, fun b o e hx => ?_, I.base.tups, I.base.frzs, I.base.tbls⟩, ⟨_, hn', fun j y v' e1 e2 e3 => ?_⟩, fun y c e => ?_, I.free, I.freeC, fun p hp => ?_, tracked ⟨oL, hoL, I.free⟩ hs, by simpa using I.len⟩ ⟨_, hs, .inl rfl⟩
    · exact (hs.2 b (Nat.ne_of_lt (Nat.lt_of_lt_of_le (Heap.lt_size e) I.ok.above))).trans (I.base.keep b o e n hb hx)
    · obtain ⟨sl, e1⟩ := I.base.slot b o e n hb hx
      exact ⟨sl, (hs.2 b (Nat.ne_of_lt (Nat.lt_of_lt_of_le (Heap.lt_size e) I.ok.above))).trans e1⟩
    · obtain ⟨o', e1⟩ := I.base.there b o e hx
      exact ⟨o', (hs.2 b (Nat.ne_of_lt (Nat.lt_of_lt_of_le (Heap.lt_size e) I.ok.above))).trans e1⟩
    · by_cases hj : j = i
      · subst hj
        rw [hi] at e1; cases e1
        rw [List.getElem?_set_self hiσ] at e2
        cases e2
        exact ⟨u, r, .inl ⟨hk, by simp⟩⟩
      · rw [List.getElem?_set_ne (Ne.symm hj)] at e2
        obtain ⟨u', r', q⟩ := hl j y v' e1 e2 e3
        refine ⟨u', r', ?_⟩
        rcases q with ⟨k, e⟩ | ⟨k, c, e, z⟩
        · refine .inl ⟨k, ?_⟩
          have : y ≠ x := fun e => hj (nodup_ix hN e1 (e ▸ hi))
          simp [this, e]
        · exact .inr ⟨k, c, e, z.sameBut hs (cne y c e)⟩
    · obtain ⟨w', z⟩ := I.cell y c e
      exact ⟨w', z.sameBut hs (cne y c e)⟩
    · obtain ⟨e, n, ne, nf, d⟩ := I.pin p hp
      exact ⟨(hs.2 p.1 ne).trans e, n, ne, nf, d⟩
  · have hfn : X.fn x = true := by
      rcases hf with z | z
      · exact z
      · rw [z] at hk; cases hk
    obtain ⟨c, hc⟩ := I.ok.has x (.inl hk)
    obtain ⟨w', z⟩ := I.cell x c hc
    refine wpAny_storeName_cell I.ok.kind hk hc z (fun h' hc' hs => ?_)
    obtain ⟨oc, hoc, hocd⟩ := id z
    refine h { s with heap := h' } ⟨I.ok, I.os, I.bare, ⟨fun b o e n hb hx => ?_, fun b o e n hb hx => ?_, I.base.free, fun b o e hx => ?_, I.base.tups, I.base.frzs, I.base.tbls⟩, ⟨m, hn.sameBut hs (Ne.symm (cne x c hc)), fun j y v' e1 e2 e3 => ?_⟩, fun y c' e => ?_, I.free, I.freeC, fun p hp => ?_, tracked ⟨oc, hoc, I.freeC x c hc⟩ hs, by simpa using I.len⟩ ⟨c, hs, .inr hc⟩
    · exact (hs.2 b (Nat.ne_of_lt (Nat.lt_of_lt_of_le (Heap.lt_size e) (I.ok.cab x c hfn hc)))).trans (I.base.keep b o e n hb hx)
    · obtain ⟨sl, e1⟩ := I.base.slot b o e n hb hx
      exact ⟨sl, (hs.2 b (Nat.ne_of_lt (Nat.lt_of_lt_of_le (Heap.lt_size e) (I.ok.cab x c hfn hc)))).trans e1⟩
    · obtain ⟨o', e1⟩ := I.base.there b o e hx
      exact ⟨o', (hs.2 b (Nat.ne_of_lt (Nat.lt_of_lt_of_le (Heap.lt_size e) (I.ok.cab x c hfn hc)))).trans e1⟩
    · by_cases hj : j = i
      · subst hj
        rw [hi] at e1; cases e1
        rw [List.getElem?_set_self hiσ] at e2
        cases e2
        exact ⟨u, r, .inr ⟨.inl hk, c, hc, hc'⟩⟩
      · rw [List.getElem?_set_ne (Ne.symm hj)] at e2
        obtain ⟨u', r', q⟩ := hl j y v' e1 e2 e3
        refine ⟨u', r', ?_⟩
        rcases q with q | ⟨k, c', e, z'⟩
        · exact .inl q
        · refine .inr ⟨k, c', e, z'.sameBut hs ?_⟩
          rintro rfl
          exact hj (nodup_ix hN e1 (I.ok.inj _ _ _ e hc ▸ hi))
    · by_cases hcc : c' = c
      · subst hcc; exact ⟨_, hc'⟩
      · obtain ⟨w2, z2⟩ := I.cell y c' e
        exact ⟨w2, z2.sameBut hs hcc⟩
    · obtain ⟨e, n, ne, nf, d⟩ := I.pin p hp
      refine ⟨(hs.2 p.1 ?_).trans e, n, ne, nf, d⟩
      intro q
      rw [q, hoc] at e
      have q' : oc = p.2 := Option.some.inj e
      exact d w' (by rw [← q']; exact hocd)
theorem store_ok {M : Model} {A : Around} {E : Value → Shared → Prop} {i : Nat} {x : Str} {v : V} {u : Value} {Q : Unit → Shared → Prop} (I : Inv X pins σ H s) (hN : X.N.Nodup) (hi : X.N[i]? = some x) (hx : Loc X.env.scope x) (r : RelV v u)
    (h : ∀ s', Inv X pins (σ.set i (some v)) H s' → Q () s') (hf : X.fn x = true ∨ X.env.scope.names.lookup x = some .local := by first | exact .inl rfl | exact .inr rfl | assumption) : wpAny M A (storeName X.env x u) Q E s :=
  store_ok2 I hN hi hx r (fun s' I' _ => h s' I') hf
theorem Inv.call' {s' : Shared} {ch : List Addr} (I : Inv X pins σ H s) (ho : s'.os = s.os) (u : Un (frs X.stack) ch H H' s.heap s'.heap) (hok : HOk X.prog X.w H' s'.heap) (hg : AllBare s'.gens)
    (hch : ∀ b ∈ ch, (b ∈ X.ex ∨ X.s₀.heap.objs.size ≤ b) ∧ b ≠ X.env.locals ∧ (∀ x c, X.env.cells.lookup x = some c → c ≠ b) ∧ ∀ p ∈ X.pn ++ pins, p.1 ≠ b) : Inv X pins σ H' s' := by
  obtain ⟨h', g', d', t', o'⟩ := s'
  have e : o' = s.os := ho
  subst e
  exact I.call (g' := g') (t' := t') (d' := d') u hok hg hch
end

abbrev XK := Value → Option Addr → Hp → Prop
abbrev St := List (Option V)
abbrev VK := V → Hp → Prop
abbrev TE := St → Hp → VK → Prop
abbrev TT := St → Hp → (Bool → Hp → Prop) → Prop
abbrev TA := St → Hp → (List V → Hp → Prop) → Prop
structure Ends where
  nx : St → Hp → Prop
  rt : VK
  bk : St → Hp → Prop := fun _ _ => False
  ct : St → Hp → Prop := fun _ _ => False
abbrev TS := Ends → St → Hp → Prop

noncomputable def EP (X : Cx) (pins : List (Addr × Obj)) (σ : St) (Q : VK) (u : Value) (s' : Shared) : Prop := ∃ v H', Inv X pins σ H' s' ∧ RelV v u ∧ Q v H'
noncomputable def TP (X : Cx) (pins : List (Addr × Obj)) (σ : St) (Q : Bool → Hp → Prop) (b : Bool) (s' : Shared) : Prop := ∃ H', Inv X pins σ H' s' ∧ Q b H'
noncomputable def AP (X : Cx) (pins : List (Addr × Obj)) (σ : St) (Q : List V → Hp → Prop) (us : List Value) (s' : Shared) : Prop := ∃ vs H', Inv X pins σ H' s' ∧ Vals vs us ∧ Q vs H'
noncomputable def SP (X : Cx) (pins : List (Addr × Obj)) (D : Ends) (f : Flow) (s' : Shared) : Prop :=
  match f with
  | .next => ∃ σ' H', Inv X pins σ' H' s' ∧ D.nx σ' H'
  | .brk => ∃ σ' H', Inv X pins σ' H' s' ∧ D.bk σ' H'
  | .cont => ∃ σ' H', Inv X pins σ' H' s' ∧ D.ct σ' H'
  | .ret u => ∃ v σ' H', Inv X pins σ' H' s' ∧ RelV v u ∧ D.rt v H'

noncomputable def PE (X : Cx) (e : Expr) (t : TE) : Prop :=
  ∀ (pins : List (Addr × Obj)) (s : Shared) (σ : St) (H : Hp) (Q : VK), Inv X pins σ H s → t σ H Q → wpAny (model X.prog X.w) X.A (eval e X.env) (EP X pins σ Q) X.xe s
noncomputable def PT (X : Cx) (e : Expr) (t : TT) : Prop :=
  ∀ (pins : List (Addr × Obj)) (s : Shared) (σ : St) (H : Hp) (Q : Bool → Hp → Prop), Inv X pins σ H s → t σ H Q → wpAny (model X.prog X.w) X.A (isTrue e X.env (eval e X.env)) (TP X pins σ Q) X.xe s
noncomputable def PW (X : Cx) (e : Expr) (t : TT) : Prop :=
  ∀ (whole : Sem Value) (pins : List (Addr × Obj)) (s : Shared) (σ : St) (H : Hp) (Q : Bool → Hp → Prop), Inv X pins σ H s → t σ H Q → wpAny (model X.prog X.w) X.A (isTrue e X.env whole) (TP X pins σ Q) X.xe s
theorem PW.pt {X : Cx} {e : Expr} {t : TT} (h : PW X e t) : PT X e t := h _
noncomputable def PA (X : Cx) (es : List Expr) (t : TA) : Prop :=
  ∀ (pos : Pos) (pins : List (Addr × Obj)) (s : Shared) (σ : St) (H : Hp) (Q : List V → Hp → Prop), Inv X pins σ H s → t σ H Q → wpAny (model X.prog X.w) X.A (spliced (backTo pos (starEach es X.env))) (AP X pins σ Q) X.xe s
noncomputable def PS (X : Cx) (st : Stmt) (t : TS) : Prop :=
  ∀ (pins : List (Addr × Obj)) (s : Shared) (σ : St) (H : Hp) (D : Ends), Inv X pins σ H s → t D σ H → wpAny (model X.prog X.w) X.A (exec st X.env) (SP X pins D) X.xe s
noncomputable def PSs (X : Cx) (st : List Stmt) (t : TS) : Prop :=
  ∀ (pins : List (Addr × Obj)) (s : Shared) (σ : St) (H : Hp) (D : Ends), Inv X pins σ H s → t D σ H → wpAny (model X.prog X.w) X.A (execs st X.env) (SP X pins D) X.xe s
theorem thn {α : Type} {t : Sem α} {Q Q' : α → Shared → Prop} {M : Model} {A : Around} {E : Value → Shared → Prop} {s : Shared} (h : wpAny M A t Q E s) (hQ : ∀ a s, Q a s → Q' a s) : wpAny M A t Q' E s := wpAny_mono h hQ fun _ _ x => x
end L2

namespace L2
open PySem PySem.Spec PyProof.Rows
section
variable {X : Cx}

noncomputable def tVar (i : Nat) : TE := fun σ H Q => ∃ v, σ[i]? = some (some v) ∧ Q v H
noncomputable def tC (v : V) : TE := fun _ H Q => Q v H
theorem pe_var {i : Nat} {x : Str} {pos : Pos} (hN : X.N[i]? = some x) (hv : Vis X.env.scope x) (hd : (x == ("__debug__" : Str)) = false := by decide) (hcd : (x == ("__classdict__" : Str)) = false := by decide) : PE X (.Name x pos) (tVar i) := by
  intro pins s σ H Q I h
  obtain ⟨v, e, h⟩ := h
  obtain ⟨m, hn, hl⟩ := I.loc
  obtain ⟨u, r, l⟩ := hl i x v hN e hv
  have fin : EP X pins σ Q u s := ⟨v, H, I, r, h⟩
  rcases l with ⟨hk, hm⟩ | ⟨hk, c, hc, hcell⟩
  · exact wpAny_Name (wpAny_loadName_local I.ok.kind hk hn hm fin) hd
  · rcases hk with hk | hk
    · exact wpAny_Name (wpAny_loadName_cell I.ok.kind hk hc hcell fin) hd
    · exact wpAny_Name (wpAny_loadName_free I.ok.kind hk hc hcell fin hcd) hd
theorem pe_int {i j pos} : PE X (.Constant (.int i) j pos) (tC (.int i)) := fun _ _ _ H _ I h => wpAny_Constant_int ⟨.int i, H, I.tok _, ⟨_, rfl⟩, h⟩
theorem pe_bl {b j pos} : PE X (.Constant (.bool b) j pos) (tC (.bl b)) := fun _ _ _ H _ I h => Constant_bool ⟨.bl b, H, I, rfl, h⟩
theorem pe_non {j pos} : PE X (.Constant .none j pos) (tC .non) := fun _ _ _ H _ I h => Constant_none ⟨.non, H, I, rfl, h⟩
theorem pe_str {x j pos} : PE X (.Constant (.str x) j pos) (tC (.str x)) := fun _ _ _ H _ I h => Calls.Constant_str ⟨.str x, H, I.tok _, ⟨_, rfl⟩, h⟩

noncomputable def Gl (X : Cx) (x : Str) : Prop := X.env.kindOf x = some .globalImplicit
theorem ld_glob {E : Value → Shared → Prop} {pins : List (Addr × Obj)} {s : Shared} {σ : St} {H : Hp} {x : Str} {u : Value} {pos : Pos} {Q : Value → Shared → Prop} (I : Inv X pins σ H s) (hg : Gl X x) (hm : X.mg x = some u) (h : Q u s)
    (hd : (x == ("__debug__" : Str)) = false := by decide) : wpAny (model X.prog X.w) X.A (eval (.Name x pos) X.env) Q E s :=
  Calls.Name_function_global I.ok.kind hg (Calls.loadGlobal_global (by rw [I.ok.glob]; exact I.mod.glob.keeps I.bk) hm h) hd
theorem ld_blt {E : Value → Shared → Prop} {pins : List (Addr × Obj)} {s : Shared} {σ : St} {H : Hp} {x : Str} {u : Value} {pos : Pos} {Q : Value → Shared → Prop} (I : Inv X pins σ H s) (hg : Gl X x) (hm : X.mg x = none) (hv : bootBuiltins x = some u) (h : Q u s)
    (hn : x ≠ "__name__" := by decide) (hd : (x == ("__debug__" : Str)) = false := by decide) : wpAny (model X.prog X.w) X.A (eval (.Name x pos) X.env) Q E s := by
  obtain ⟨mb, h1, h2⟩ := I.mod.blt
  exact Calls.Name_function_global I.ok.kind hg (Calls.loadGlobal_builtin (by rw [I.ok.glob]; exact I.mod.glob.keeps I.bk) hm (by rw [I.ok.blt]; exact h1.keeps I.bk) ((h2 x hn).trans hv) h) hd
theorem pe_glob {x : Str} {v : V} {u : Value} {pos : Pos} (hg : Gl X x) (hm : X.mg x = some u) (r : RelV v u) (hd : (x == ("__debug__" : Str)) = false := by decide) : PE X (.Name x pos) (tC v) :=
  fun _ _ _ H _ I h => ld_glob I hg hm ⟨v, H, I, r, h⟩ hd
theorem pe_bltn {x : Str} {v : V} {u : Value} {pos : Pos} (hg : Gl X x) (hm : X.mg x = none) (hv : bootBuiltins x = some u) (r : RelV v u) (hn : x ≠ "__name__" := by decide) (hd : (x == ("__debug__" : Str)) = false := by decide) : PE X (.Name x pos) (tC v) :=
  fun _ _ _ H _ I h => ld_blt I hg hm hv ⟨v, H, I, r, h⟩ hn hd

variable {a b : Expr} {ta tb : TE} {pos : Pos}
noncomputable def PC (X : Cx) (op : CmpOp) (a b : Expr) (t : TE) : Prop :=
  ∀ (pins : List (Addr × Obj)) (s : Shared) (σ : St) (H : Hp) (Q : VK), Inv X pins σ H s → t σ H Q →
    wpAny (model X.prog X.w) X.A (eval a X.env) (fun v s₁ => wpAny (model X.prog X.w) X.A (eval b X.env) (fun u s₂ => wpAny (model X.prog X.w) X.A (compareOp op v u) (EP X pins σ Q) X.xe s₂) X.xe s₁) X.xe s
theorem nobehind (b : Expr) {op : CmpOp} (h : op ≠ .In) (h2 : op ≠ .NotIn) : behindInMarks op b = false := by
  have e1 : (op == CmpOp.In) = false := by cases op <;> first | rfl | exact absurd rfl h
  have e2 : (op == CmpOp.NotIn) = false := by cases op <;> first | rfl | exact absurd rfl h2
  cases b <;> simp [behindInMarks, e1, e2]
noncomputable def tIsN (ta : TE) : TE := fun σ H Q => ta σ H fun x H1 => Q (.bl (decide (x = .non))) H1
noncomputable def tNotN (ta : TE) : TE := fun σ H Q => ta σ H fun x H1 => Q (.bl (!decide (x = .non))) H1
theorem RelV.none_iff {x : V} {v : Value} (r : RelV x v) : (v == Value.none) = decide (x = .non) := by
  cases x with
  | non => cases r; rfl
  | bl _ => cases r; rfl
  | int _ => obtain ⟨t, rfl⟩ := r; rfl
  | str _ => obtain ⟨t, rfl⟩ := r; rfl
  | byt _ => obtain ⟨t, rfl⟩ := r; rfl
  | flt _ => obtain ⟨t, rfl⟩ := r; rfl
  | ref _ => cases r; rfl
  | ty _ => cases r; rfl
theorem pc_isN {j pos'} (ha : PE X a ta) : PC X .Is a (.Constant .none j pos') (tIsN ta) := by
  intro pins s σ H Q I h
  refine thn (ha pins s σ H _ I h) fun v s1 hz => ?_
  obtain ⟨x, H1, I1, r1, q1⟩ := hz
  exact Constant_none (is_none_gen ⟨.bl _, H1, I1, by rw [r1.none_iff]; rfl, q1⟩)
theorem pc_notN {j pos'} (ha : PE X a ta) : PC X .IsNot a (.Constant .none j pos') (tNotN ta) := by
  intro pins s σ H Q I h
  refine thn (ha pins s σ H _ I h) fun v s1 hz => ?_
  obtain ⟨x, H1, I1, r1, q1⟩ := hz
  exact Constant_none (isnot_none_gen ⟨.bl _, H1, I1, by rw [r1.none_iff]; rfl, q1⟩)
noncomputable def tB (t : TE) : TT := fun σ H Q => t σ H fun x H1 => ∃ c, x = .bl c ∧ Q c H1
theorem pe_cmp {op : CmpOp} {t : TE} (h : PC X op a b t) (h1 : behindInMarks op b = false := by first | exact nobehind _ (by decide) (by decide) | rfl) : PE X (.Compare a [op] [b] pos) t := fun pins s σ H Q I hw => wpAny_Compare1 (h pins s σ H Q I hw) h1
theorem pt_cmp {op : CmpOp} {t : TE} (h : PC X op a b t) (h1 : behindInMarks op b = false := by first | exact nobehind _ (by decide) (by decide) | rfl) : PT X (.Compare a [op] [b] pos) (tB t) := by
  intro pins s σ H Q I hw
  refine wpAny_isTrue_Compare1 (thn (h pins s σ H _ I hw) fun v s1 h1 => thn h1 fun u s2 h2 => thn h2 fun c s3 hz => ?_) h1
  obtain ⟨x, H1, I1, r1, q1⟩ := hz
  obtain ⟨d, rfl, q⟩ := q1
  cases r1
  exact wpAny_truthy_bool ⟨H1, I1, q⟩
theorem pt_val {e : Expr} {t : TE} (h : PE X e t) (he : ∀ whole, isTrue e X.env whole = (do let v ← whole; standAt e.pos; holding [v] (truthy v)) := by intro _; rfl) : PT X e (tB t) := by
  intro pins s σ H Q I hw
  refine isTrue_plain (thn (h pins s σ H _ I hw) fun v s1 hz => ?_) (he _)
  obtain ⟨x, H1, I1, r1, q1⟩ := hz
  obtain ⟨d, rfl, q⟩ := q1
  cases r1
  exact wpAny_truthy_bool ⟨H1, I1, q⟩

variable {tA tB' : TT} {rest : List Expr}
noncomputable def tAnd (t u : TT) : TT := fun σ H Q => t σ H fun c H1 => if c = true then u σ H1 Q else Q false H1
noncomputable def tOr (t u : TT) : TT := fun σ H Q => t σ H fun c H1 => if c = true then Q true H1 else u σ H1 Q
noncomputable def tNot (t : TT) : TT := fun σ H Q => t σ H fun c H1 => Q (!c) H1
theorem pw_and1 (ha : PT X a tA) : PW X (.BoolOp .And [a] pos) tA := by
  intro wh pins s σ H Q I h
  refine isTrue_and (thn (ha pins s σ H Q I h) fun c s1 e => ?_)
  cases c with
  | true => exact isTrue_and_nil e
  | false => exact e
theorem pw_or1 (ha : PT X a tA) : PW X (.BoolOp .Or [a] pos) tA := by
  intro wh pins s σ H Q I h
  refine isTrue_or (thn (ha pins s σ H Q I h) fun c s1 e => ?_)
  cases c with
  | false => exact isTrue_or_nil e
  | true => exact e
theorem pw_and (ha : PT X a tA) (hb : PW X (.BoolOp .And (b :: rest) pos) tB') : PW X (.BoolOp .And (a :: b :: rest) pos) (tAnd tA tB') := by
  intro wh pins s σ H Q I h
  refine isTrue_and (thn (ha pins s σ H _ I h) fun c s1 hz => ?_)
  obtain ⟨H1, I1, q1⟩ := hz
  cases c with
  | true => exact hb wh pins s1 σ H1 Q I1 q1
  | false => exact ⟨H1, I1, q1⟩
theorem pw_or (ha : PT X a tA) (hb : PW X (.BoolOp .Or (b :: rest) pos) tB') : PW X (.BoolOp .Or (a :: b :: rest) pos) (tOr tA tB') := by
  intro wh pins s σ H Q I h
  refine isTrue_or (thn (ha pins s σ H _ I h) fun c s1 hz => ?_)
  obtain ⟨H1, I1, q1⟩ := hz
  cases c with
  | true => exact ⟨H1, I1, q1⟩
  | false => exact hb wh pins s1 σ H1 Q I1 q1
theorem pt_not (ha : PT X a tA) : PT X (.UnaryOp .Not a pos) (tNot tA) := by
  intro pins s σ H Q I h
  exact isTrue_not (ha pins s σ H (fun c H1 => Q (!c) H1) I h)
noncomputable def tAndV (ta tb : TE) : TE := fun σ H Q => ta σ H fun x H1 => ∃ c, x = .bl c ∧ if c = true then tb σ H1 Q else Q (.bl false) H1
noncomputable def tNotV (ta : TE) : TE := fun σ H Q => ta σ H fun x H1 => ∃ c, x = .bl c ∧ Q (.bl (!c)) H1
theorem pe_one {op} {t : TE} (h : PE X a t) : PE X (.BoolOp op [a] pos) t := fun pins s σ H Q I hw => BoolOp_one (h pins s σ H Q I hw)
theorem pe_and (ha : PE X a ta) (hb : PE X (.BoolOp .And (b :: rest) pos) tb) : PE X (.BoolOp .And (a :: b :: rest) pos) (tAndV ta tb) := by
  intro pins s σ H Q I h
  refine BoolOp_and (thn (ha pins s σ H _ I h) fun v s1 hz => ?_)
  obtain ⟨x, H1, I1, r1, q1⟩ := hz
  obtain ⟨c, rfl, q1⟩ := q1
  cases r1
  refine wpAny_truthy_bool ?_
  cases c with
  | true => exact hb pins s1 σ H1 Q I1 q1
  | false => exact ⟨.bl false, H1, I1, rfl, q1⟩
theorem pe_not (ha : PE X a ta) : PE X (.UnaryOp .Not a pos) (tNotV ta) := by
  intro pins s σ H Q I h
  refine UnaryOp_ (thn (ha pins s σ H _ I h) fun v s1 hz => ?_)
  obtain ⟨x, H1, I1, r1, q1⟩ := hz
  obtain ⟨c, rfl, q1⟩ := q1
  cases r1
  exact not_of (wpAny_truthy_bool ⟨.bl (!c), H1, I1, rfl, q1⟩)
noncomputable def tIf (t : TT) (ta tb : TE) : TE := fun σ H Q => t σ H fun c H1 => if c = true then ta σ H1 Q else tb σ H1 Q
theorem pe_ifExp {c : Expr} (hc : PT X c tA) (ha : PE X a ta) (hb : PE X b tb) : PE X (.IfExp c a b pos) (tIf tA ta tb) := by
  intro pins s σ H Q I h
  refine wpAny_IfExp (thn (hc pins s σ H _ I h) fun d s1 hz => ?_)
  obtain ⟨H1, I1, q1⟩ := hz
  cases d with
  | true => exact ha pins s1 σ H1 Q I1 q1
  | false => exact hb pins s1 σ H1 Q I1 q1
end
end L2

namespace L2
open PySem PySem.Spec PyProof.Rows

noncomputable def SqL (K : PySem.W.Frag) (H : Hp) (a : Addr) (xs : List V) : Prop :=
  Rd H a (.lst xs) ∨
    ∃ (o : Obj) (its : Array Value) (n : Nat), K.lookup a = some o ∧ o.cls = .type "list" ∧ o.dict = none ∧ o.data = .seq its n ∧ its.size ≤ sizeLine ∧ Vals xs its.toList
noncomputable def SqT (K : PySem.W.Frag) (H : Hp) (a : Addr) (xs : List V) : Prop :=
  Rd H a (.tup xs) ∨
    ∃ (o : Obj) (its : Array Value) (n : Nat), K.lookup a = some o ∧ o.cls = .type "tuple" ∧ o.data = .seq its n ∧ its.size ≤ sizeLine ∧ Vals xs its.toList
noncomputable def absV : Value → Option V
  | .none => some .non
  | .bool b => some (.bl b)
  | .int i _ => some (.int i)
  | .str x _ => some (.str x)
  | .bytes b _ => some (.byt b)
  | .float b _ => some (.flt b)
  | .ref a => some (.ref a)
  | .type n => some (.ty n)
  | _ => none
theorem RelV.abs {x : V} {u : Value} (r : RelV x u) : absV u = some x := by
  cases x with
  | non => cases r; rfl
  | bl _ => cases r; rfl
  | int _ => obtain ⟨t, rfl⟩ := r; rfl
  | str _ => obtain ⟨t, rfl⟩ := r; rfl
  | byt _ => obtain ⟨t, rfl⟩ := r; rfl
  | flt _ => obtain ⟨t, rfl⟩ := r; rfl
  | ref _ => cases r; rfl
  | ty _ => cases r; rfl
theorem RelV.inj {x y : V} {u : Value} (r : RelV x u) (q : RelV y u) : x = y := Option.some.inj (r.abs.symm.trans q.abs)
theorem Vals.inj : ∀ {xs ys : List V} {us : List Value}, Vals xs us → Vals ys us → xs = ys
  | _, _, _, .nil, .nil => rfl
  | _, _, _, .cons r t, .cons r' t' => by rw [r.inj r', Vals.inj t t']
section
variable {X : Cx} {pins : List (Addr × Obj)} {σ : St} {H : Hp} {s : Shared} {a : Addr} {xs ys : List V}
theorem SqL.of {K : PySem.W.Frag} (h : H a = some (.lst xs)) : SqL K H a xs := .inl (.inl h)
theorem SqT.of {K : PySem.W.Frag} (h : H a = some (.tup xs)) : SqT K H a xs := .inl (.inl h)
theorem Inv.list (I : Inv X pins σ H s) (h : SqL X.K H a xs) : ∃ its : List Value, Vals xs its ∧ PlainL s.heap a its.toArray ∧ xs.length ≤ sizeLine := by
  rcases h with h | ⟨o, its, n, hk, hc, hd, hs, hz, r⟩
  · obtain ⟨z, its, n, r, e⟩ := h.ok I.hok
    exact ⟨its, r, ⟨_, n, e, rfl, rfl, rfl⟩, z⟩
  · refine ⟨its.toList, r, ⟨o, n, I.kIn a o hk, hc, hd, by simpa using hs⟩, ?_⟩
    have e := r.length
    simp only [Array.length_toList] at e
    omega
theorem Inv.tuple (I : Inv X pins σ H s) (h : SqT X.K H a xs) : ∃ its : List Value, Vals xs its ∧ IsTup s.heap a its.toArray ∧ xs.length ≤ sizeLine := by
  rcases h with h | ⟨o, its, n, hk, hc, hs, hz, r⟩
  · obtain ⟨z, its, r, p⟩ := h.ok I.hok
    exact ⟨its, r, PlT.tup p, z⟩
  · refine ⟨its.toList, r, ⟨o, I.kIn a o hk, hc, n, by simpa using hs⟩, ?_⟩
    have e := r.length
    simp only [Array.length_toList] at e
    omega
theorem Inv.list_inj (I : Inv X pins σ H s) (h : SqL X.K H a xs) (h' : SqL X.K H a ys) : xs = ys := by
  obtain ⟨its, r, ⟨o, n, e, _, _, d⟩, _⟩ := I.list h
  obtain ⟨its', r', ⟨o', n', e', _, _, d'⟩, _⟩ := I.list h'
  rw [e] at e'; cases e'
  rw [d] at d'
  injection d' with d1 _
  have : its = its' := by simpa using congrArg Array.toList d1
  subst this
  exact r.inj r'
theorem Inv.tuple_inj (I : Inv X pins σ H s) (h : SqT X.K H a xs) (h' : SqT X.K H a ys) : xs = ys := by
  obtain ⟨its, r, ⟨o, e, _, n, d⟩, _⟩ := I.tuple h
  obtain ⟨its', r', ⟨o', e', _, n', d'⟩, _⟩ := I.tuple h'
  rw [e] at e'; cases e'
  rw [d] at d'
  injection d' with d1 _
  have : its = its' := by simpa using congrArg Array.toList d1
  subst this
  exact r.inj r'
end

abbrev Cx.wish (X : Cx) (E : Value → Shared → Prop) : Cx := { X with xe := E }
abbrev Cx.nox (X : Cx) : Cx := X.wish fun _ _ => False
theorem Cx.Ok.wish {X : Cx} (ok : X.Ok) (E : Value → Shared → Prop) : (X.wish E).Ok :=
  ⟨ok.mod, ok.kind, ok.glob, ok.blt, ok.above, ok.inj, ok.has, ok.cab, ok.hd, ok.frames, ok.stk, ok.exf, ok.bs, ok.bsz, ok.noex, ok.exfs, ok.funs, ok.frf⟩
theorem Cx.Ok.unwish {X : Cx} {E : Value → Shared → Prop} (ok : (X.wish E).Ok) : X.Ok :=
  ⟨ok.mod, ok.kind, ok.glob, ok.blt, ok.above, ok.inj, ok.has, ok.cab, ok.hd, ok.frames, ok.stk, ok.exf, ok.bs, ok.bsz, ok.noex, ok.exfs, ok.funs, ok.frf⟩
section
variable {X : Cx} {pins : List (Addr × Obj)} {σ : St} {H : Hp} {s : Shared} {E : Value → Shared → Prop}
theorem Inv.wish (I : Inv X pins σ H s) (E : Value → Shared → Prop) : Inv (X.wish E) pins σ H s := ⟨I.ok.wish E, I.os, I.bare, I.base, I.loc, I.cell, I.free, I.freeC, I.pin, I.hok, I.len⟩
theorem Inv.unwish (I : Inv (X.wish E) pins σ H s) : Inv X pins σ H s := ⟨I.ok.unwish, I.os, I.bare, I.base, I.loc, I.cell, I.free, I.freeC, I.pin, I.hok, I.len⟩
theorem SP.unwish {D : Ends} {f : Flow} {s' : Shared} (h : SP (X.wish E) pins D f s') : SP X pins D f s' := by
  cases f with
  | next => obtain ⟨σ', H', I, q⟩ := h; exact ⟨σ', H', I.unwish, q⟩
  | brk => obtain ⟨σ', H', I, q⟩ := h; exact ⟨σ', H', I.unwish, q⟩
  | cont => obtain ⟨σ', H', I, q⟩ := h; exact ⟨σ', H', I.unwish, q⟩
  | ret u => obtain ⟨v, σ', H', I, r, q⟩ := h; exact ⟨v, σ', H', I.unwish, r, q⟩
theorem PSs.nox {st : List Stmt} {t : TS} (h : PSs X.nox st t) : PSs X st t := fun pins s σ H D I hw =>
  wpAny_mono (h pins s σ H D (I.wish _) hw) (fun _ _ q => q.unwish) fun _ _ z => False.elim z
end

section
variable {X : Cx} {st : Stmt} {rest : List Stmt} {t u : TS} {e : Expr} {te : TE} {pos : Pos}
noncomputable def tNext : TS := fun D σ H => D.nx σ H
noncomputable def tSeq (t u : TS) : TS := fun D σ H => t { D with nx := u D } σ H
theorem pss_nil : PSs X [] tNext := fun _ _ σ H _ I h => wpAny_execs_nil ⟨σ, H, I, h⟩
theorem pss_cons (h1 : PS X st t) (h2 : PSs X rest u) : PSs X (st :: rest) (tSeq t u) := by
  intro pins s σ H D I h
  refine wpAny_execs_cons (thn (h1 pins s σ H { D with nx := u D } I h) fun f s1 q => ?_)
  cases f with
  | next =>
    obtain ⟨σ', H', I', q⟩ := q
    exact h2 pins s1 σ' H' D I' q
  | ret v => exact q
  | brk => exact q
  | cont => exact q
theorem pss_one (h1 : PS X st t) : PSs X [st] t := by
  intro pins s σ H D I h
  refine wpAny_execs_cons (thn (h1 pins s σ H D I h) fun f s1 q => ?_)
  cases f with
  | next => exact wpAny_execs_nil q
  | ret v => exact q
  | brk => exact q
  | cont => exact q
theorem Inv.quiet {pins : List (Addr × Obj)} {σ : St} {H : Hp} {s : Shared} (I : Inv X pins σ H s) : interactive X.env = false := by simp [interactive, I.ok.kind]
noncomputable def tDrop (te : TE) : TS := fun D σ H => te σ H fun _ H1 => D.nx σ H1
theorem ps_expr (he : PE X e te) (hs : swapsWith e none pos.line X.env = pure false := by rfl) : PS X (.Expr e pos) (tDrop te) := by
  intro pins s σ H D I h
  exact wpAny_Expr_any (thn (he pins s σ H _ I h) fun v s1 ⟨x, H1, I1, r1, q1⟩ => ⟨σ, H1, I1, q1⟩) I.quiet hs
noncomputable def tRet (te : TE) : TS := fun D σ H => te σ H D.rt
theorem ps_ret (he : PE X e te) : PS X (.Return (some e) pos) (tRet te) := by
  intro pins s σ H D I h
  exact wpAny_Return_some (thn (he pins s σ H _ I h) fun v s1 ⟨x, H1, I1, r1, q1⟩ => ⟨x, σ, H1, I1, r1, q1⟩)
noncomputable def tIfS (c : TT) (t u : TS) : TS := fun D σ H => c σ H fun b H1 => if b = true then t D σ H1 else u D σ H1
theorem ps_if {c : Expr} {a b : List Stmt} {tc : TT} (hc : PT X c tc) (ha : PSs X a t) (hb : PSs X b u) : PS X (.If c a b pos) (tIfS tc t u) := by
  intro pins s σ H D I h
  refine wpAny_If (thn (hc pins s σ H _ I h) fun d s1 hz => ?_)
  obtain ⟨H1, I1, q1⟩ := hz
  cases d with
  | true => exact ha pins s1 σ H1 D I1 q1
  | false => exact hb pins s1 σ H1 D I1 q1
noncomputable def tNever : TS := fun _ _ _ => False
theorem ps_never : PS X st tNever := fun _ _ _ _ _ _ h => h.elim
end

abbrev TG := V → St → Hp → (St → Hp → Prop) → Prop
abbrev TGs := List V → St → Hp → (St → Hp → Prop) → Prop
noncomputable def PG (X : Cx) (target : Expr) (t : TG) : Prop :=
  ∀ (pins : List (Addr × Obj)) (s : Shared) (σ : St) (H : Hp) (v : V) (u : Value) (Q : St → Hp → Prop), Inv X pins σ H s → RelV v u → t v σ H Q →
    wpAny (model X.prog X.w) X.A (assign target X.env u) (fun _ s' => ∃ σ' H', Inv X pins σ' H' s' ∧ Q σ' H') X.xe s
noncomputable def PGs (X : Cx) (ts : List Expr) (t : TGs) : Prop :=
  ∀ (pins : List (Addr × Obj)) (s : Shared) (σ : St) (H : Hp) (vs : List V) (us : List Value) (Q : St → Hp → Prop), Inv X pins σ H s → Vals vs us → t vs σ H Q →
    wpAny (model X.prog X.w) X.A (assignInOrder ((assignEach ts X.env).map (·.2)) us) (fun _ s' => ∃ σ' H', Inv X pins σ' H' s' ∧ Q σ' H') X.xe s
section
variable {X : Cx} {pos : Pos}
noncomputable def gName (i : Nat) : TG := fun v σ H Q => Q (σ.set i (some v)) H
theorem pg_name {i : Nat} {x : Str} (hN : X.N.Nodup) (hi : X.N[i]? = some x) (hx : Loc X.env.scope x) (hf : X.fn x = true ∨ X.env.scope.names.lookup x = some .local := by first | exact .inl rfl | exact .inr rfl | assumption) : PG X (.Name x pos) (gName i) := by
  intro pins s σ H v u Q I r h
  exact wpAny_assign_Name (store_ok I hN hi hx r (fun s' I' => ⟨_, H, I', h⟩) hf)
noncomputable def gNil : TGs := fun vs σ H Q => vs = [] ∧ Q σ H
noncomputable def gCons (t : TG) (u : TGs) : TGs := fun vs σ H Q => ∃ v r, vs = v :: r ∧ t v σ H fun σ' H' => u r σ' H' Q
theorem pgs_nil : PGs X [] gNil := by
  intro pins s σ H vs us Q I r h
  obtain ⟨e, h⟩ := h
  subst e
  cases r
  exact assignInOrder_nil ⟨σ, H, I, h⟩
theorem pgs_cons {e : Expr} {es : List Expr} {t : TG} {u : TGs} (h1 : PG X e t) (h2 : PGs X es u)
    (hs : (assignEach (e :: es) X.env).map (·.2) = assign e X.env :: (assignEach es X.env).map (·.2) := by rfl) : PGs X (e :: es) (gCons t u) := by
  intro pins s σ H vs us Q I r h
  obtain ⟨v, vr, e1, h⟩ := h
  subst e1
  cases r with
  | cons r rr =>
    rw [hs]
    refine assignInOrder_cons (thn (h1 pins s σ H _ _ _ I r h) fun _ s1 hz => ?_)
    obtain ⟨σ1, H1, I1, q1⟩ := hz
    exact h2 pins s1 σ1 H1 _ _ Q I1 rr q1
noncomputable def gTup (K : PySem.W.Frag) (n : Nat) (t : TGs) : TG := fun v σ H Q => ∃ a xs, v = .ref a ∧ SqT K H a xs ∧ xs.length = n ∧ t xs σ H Q
theorem pg_tup {es : List Expr} {k : Nat} {t : TGs} {n : Nat} (hc : X.calm = true) (h : PGs X es t)
    (hn : (assignEach es X.env).length = n := by rfl) (hst : (assignEach es X.env).findIdx? (·.1) = none := by rfl) : PG X (.Tuple es k pos) (gTup X.K n t) := by
  intro pins s σ H v u Q I r hw
  obtain ⟨a, xs, e1, hq, hl, hw⟩ := hw
  subst e1
  cases r
  obtain ⟨its, rv, ht, hz⟩ := I.tuple hq
  refine assign_Tuple_tuple (I.ok.hd hc) ht (by simp [hn, ← hl, rv.length]) hst fun h' hx => ?_
  have I1 : Inv X pins σ H { s with heap := h' } := I.kept (t' := s.toks) fun b o e => hx b o (Nat.ne_of_lt (Heap.lt_size e)) e
  exact h pins _ σ H xs _ Q I1 (by simpa using rv) hw
noncomputable def tAsg (te : TE) (g : TG) : TS := fun D σ H => te σ H fun x H1 => g x σ H1 D.nx
theorem ps_set {i : Nat} {x : Str} {e : Expr} {te : TE} {pos' : Pos} (hN : X.N.Nodup) (hi : X.N[i]? = some x) (hx : Loc X.env.scope x) (he : PE X e te) (hs : swapsWith e (some (.Name x pos')) pos.line X.env = pure false := by rfl) (hf : X.fn x = true ∨ X.env.scope.names.lookup x = some .local := by first | exact .inl rfl | exact .inr rfl | assumption) :
    PS X (.Assign [.Name x pos'] e pos) (tAsg te (gName i)) := by
  intro pins s σ H D I h
  refine wpAny_Assign_Name (thn (he pins s σ H _ I h) fun v s1 hz => ?_) hs
  obtain ⟨y, H1, I1, r1, q1⟩ := hz
  exact store_ok I1 hN hi hx r1 (fun s2 I2 => ⟨_, H1, I2, q1⟩) hf
end

section
variable {X : Cx} {pos : Pos}
end

structure It where
  go : Nat → Hp → Prop
  yld : Nat → Hp → V → Hp → Prop
  stop : Nat → Hp → Prop
noncomputable def FpOk (X : Cx) (pins : List (Addr × Obj)) (H : Hp) (b : Addr) : Prop :=
  H b = none ∧ b ≠ X.env.locals ∧ b ∉ X.fs ∧ (b ∈ X.ex ∨ X.s₀.heap.objs.size ≤ b) ∧ (∀ x c, X.env.cells.lookup x = some c → c ≠ b) ∧ ∀ p ∈ X.pn ++ pins, p.1 ≠ b
theorem Inv.fpOk {X : Cx} {pins : List (Addr × Obj)} {σ : St} {H H' : Hp} {s : Shared} {b : Addr} (I : Inv X pins σ H s) (hb : s.heap.objs.size ≤ b) (hn : H' b = none) : FpOk X pins H' b := by
  refine ⟨hn, Nat.ne_of_gt (Nat.lt_of_lt_of_le I.lt hb), I.nofs hb, .inr (Nat.le_trans I.sz hb), fun x c e z => ?_, fun p hp z => ?_⟩
  · obtain ⟨v, q⟩ := I.cell x c e
    exact absurd (Nat.lt_of_lt_of_le q.lt (by rw [z]; exact hb)) (Nat.lt_irrefl _)
  · exact absurd (Nat.lt_of_lt_of_le (Heap.lt_size (I.pin p hp).1) (by rw [z]; exact hb)) (Nat.lt_irrefl _)
structure Turn (P : Program) (w : World) (K : PySem.W.Frag) (tg : Expr) (J : It) (fp : List Addr) (it : Addr) (tn : Nat → Heap → Prop) : Prop where
  mem : it ∈ fp
  obj : ∀ i h, tn i h → ∀ b ∈ fp, ∃ o, h.get? b = some o ∧ ∀ v, o.data ≠ .cell v
  keep : ∀ i h h', tn i h → (∀ b ∈ fp, ∀ o, h.get? b = some o → h'.get? b = some o) → tn i h'
  item : ∀ (X : Cx), X.prog = P → X.w = w → X.K = K → X.calm = true → ∀ (i : Nat) (pins : List (Addr × Obj)) (s : Shared) (σ : St) (H : Hp) (E : Value → Shared → Prop), Inv X pins σ H s → (∀ b ∈ fp, FpOk X pins H b) → tn i s.heap → J.go i H →
    wpAny (model P w) X.A (pyNext (.ref it)) (fun r s1 => ∃ u, r = some u ∧
      wpAny (model P w) X.A (letOwnedTupleGo tg (.ref it) u) (fun _ s2 => ∃ x H', Inv X pins σ H' s2 ∧ RelV x u ∧ J.yld i H x H' ∧ tn (i + 1) s2.heap ∧ ∀ b ∈ fp, H' b = none) E s1) E s
  done : ∀ (X : Cx), X.prog = P → X.w = w → X.K = K → X.calm = true → ∀ (i : Nat) (pins : List (Addr × Obj)) (s : Shared) (σ : St) (H : Hp) (E : Value → Shared → Prop), Inv X pins σ H s → (∀ b ∈ fp, FpOk X pins H b) → tn i s.heap → J.stop i H →
    wpAny (model P w) X.A (pyNext (.ref it)) (fun r s1 => r = none ∧ Inv X pins σ H s1) E s
  self : ∀ (A : Around) (i : Nat) (s : Shared) (Q : Value → Shared → Prop) (E : Value → Shared → Prop), tn i s.heap → Q (.ref it) s → wpAny (model P w) A (pyIter (.ref it)) Q E s
abbrev TI := St → Hp → (It → Hp → Prop) → Prop
noncomputable def PIE (X : Cx) (pins : List (Addr × Obj)) (σ : St) (tg : Expr) (R : It → Hp → Prop) (itv : Value) (s2 : Shared) : Prop :=
  ∃ (it : Addr) (fp : List Addr) (tn : Nat → Heap → Prop) (J : It) (H' : Hp), itv = .ref it ∧ Inv X pins σ H' s2 ∧ Turn X.prog X.w X.K tg J fp it tn ∧ tn 0 s2.heap ∧ (∀ b ∈ fp, FpOk X pins H' b) ∧ R J H'
noncomputable def PI (X : Cx) (tg iter : Expr) (wi : TI) : Prop :=
  ∀ (pins : List (Addr × Obj)) (s : Shared) (σ : St) (H : Hp) (R : It → Hp → Prop), Inv X pins σ H s → wi σ H R →
    wpAny (model X.prog X.w) X.A (eval iter X.env) (fun v s1 => wpAny (model X.prog X.w) X.A (pyIter v) (PIE X pins σ tg R) X.xe s1) X.xe s

theorem go_of {M : Model} {A : Around} {E : Value → Shared → Prop} {s : Shared} {tg : Expr} {it : Addr} {u : Value} {o : Obj} {n : String} {vs : Array Value} {Q : Unit → Shared → Prop} (ho : s.heap.get? it = some o) (hc : o.cls = .type n) (hd : o.data = .fields vs)
    (hn : ["enumerate", "zip", "dict_itemiterator", "dict_reverseitemiterator", "odict_iterator", "itertools.zip_longest", "itertools.pairwise"].contains n = false) (hQ : Q () s) : wpAny M A (letOwnedTupleGo tg (.ref it) u) Q E s := by
  unfold letOwnedTupleGo
  cases tg <;> first
    | exact wpAny_pure hQ
    | (cases u <;> first
        | exact wpAny_pure hQ
        | (refine wpAny_bind (wpAny_load ho ?_)
           rw [hc, hd]
           show wpAny M A (if (["enumerate", "zip", "dict_itemiterator", "dict_reverseitemiterator", "odict_iterator", "itertools.zip_longest", "itertools.pairwise"].contains n && vs[0]? == some (rawInt _)) = true then _ else _) Q E s
           rw [if_neg (by intro h; rw [hn, Bool.false_and] at h; cases h)]
           exact wpAny_pure hQ))

noncomputable def Itl (K : PySem.W.Frag) (a : Addr) : It :=
  ⟨fun i H => ∃ xs x, SqL K H a xs ∧ xs[i]? = some x, fun i H x H' => H' = H ∧ ∀ xs, SqL K H a xs → xs[i]? = some x, fun i H => ∃ xs, SqL K H a xs ∧ xs.length ≤ i⟩
noncomputable def Itt (K : PySem.W.Frag) (a : Addr) : It :=
  ⟨fun i H => ∃ xs x, SqT K H a xs ∧ xs[i]? = some x, fun i H x H' => H' = H ∧ ∀ xs, SqT K H a xs → xs[i]? = some x, fun i H => ∃ xs, SqT K H a xs ∧ xs.length ≤ i⟩
noncomputable def Itr (lo : Int) (n : Nat) : It := ⟨fun i _ => i < n, fun i H x H' => H' = H ∧ x = .int (lo + i), fun i _ => n ≤ i⟩
theorem turn_list {P : Program} {w : World} {K : PySem.W.Frag} {tg : Expr} (a it : Addr) : Turn P w K tg (Itl K a) [it] it (fun i h => h.IsListIter it a i) where
  mem := by simp
  obj := fun i h st b hb => by
    have e : b = it := by simpa using hb
    subst e
    obtain ⟨o, e, c, d⟩ := st
    exact ⟨o, e, fun v z => by rw [d] at z; cases z⟩
  keep := fun i h h' st k => st.at fun o e => k it (by simp) o e
  item := by
    intro X hP hw hK hc i pins s σ H E I hf st hg
    subst hP hw hK
    obtain ⟨xs, x, hq, hx⟩ := hg
    obtain ⟨its, rv, p, hz⟩ := I.list hq
    obtain ⟨u, hu, ru⟩ := rv.get hx
    obtain ⟨f0, f1, f2, f3, f4, f5⟩ := hf it (by simp)
    refine wpAny_pyNext_list_item st p.isList (x := u) (by simpa using hu) fun h' st' sb => ?_
    have I1 : Inv X pins σ H { s with heap := h' } := I.turned (t' := s.toks) (fun b o hb e => (sb.2 b hb).trans e) f0 f1 f3 f4 f5
    obtain ⟨o, e, c, d⟩ := id st'
    exact ⟨u, rfl, go_of (s := { s with heap := h' }) e c d (by decide) ⟨x, H, I1, ru, ⟨rfl, fun ys hy => by rw [I.list_inj hy hq]; exact hx⟩, st', fun b hb => (hf b hb).1⟩⟩
  done := by
    intro X hP hw hK hc i pins s σ H E I hf st hg
    subst hP hw hK
    obtain ⟨xs, hq, hx⟩ := hg
    obtain ⟨its, rv, p, hz⟩ := I.list hq
    obtain ⟨f0, f1, f2, f3, f4, f5⟩ := hf it (by simp)
    have hl := rv.length
    exact wpAny_pyNext_list_end (I.ok.hd hc) st p.isList (by simp; omega) fun h' eb => ⟨rfl, I.turned (t' := s.toks) (fun b o hb e => eb b o hb e) f0 f1 f3 f4 f5⟩
  self := fun _ _ _ _ _ st h => wpAny_pyIter_listiter st h
theorem turn_tuple {P : Program} {w : World} {K : PySem.W.Frag} {tg : Expr} (a it : Addr) : Turn P w K tg (Itt K a) [it] it (fun i h => h.IsTupleIter it a i) where
  mem := by simp
  obj := fun i h st b hb => by
    have e : b = it := by simpa using hb
    subst e
    obtain ⟨o, e, c, d⟩ := st
    exact ⟨o, e, fun v z => by rw [d] at z; cases z⟩
  keep := fun i h h' st k => st.at fun o e => k it (by simp) o e
  item := by
    intro X hP hw hK hc i pins s σ H E I hf st hg
    subst hP hw hK
    obtain ⟨xs, x, hq, hx⟩ := hg
    obtain ⟨its, rv, p, hz⟩ := I.tuple hq
    obtain ⟨u, hu, ru⟩ := rv.get hx
    obtain ⟨f0, f1, f2, f3, f4, f5⟩ := hf it (by simp)
    refine wpAny_pyNext_tuple_item st (show s.heap.IsTuple a its.toArray from p) (x := u) (by simpa using hu) fun h' st' sb => ?_
    have I1 : Inv X pins σ H { s with heap := h' } := I.turned (t' := s.toks) (fun b o hb e => (sb.2 b hb).trans e) f0 f1 f3 f4 f5
    obtain ⟨o, e, c, d⟩ := id st'
    exact ⟨u, rfl, go_of (s := { s with heap := h' }) e c d (by decide) ⟨x, H, I1, ru, ⟨rfl, fun ys hy => by rw [I.tuple_inj hy hq]; exact hx⟩, st', fun b hb => (hf b hb).1⟩⟩
  done := by
    intro X hP hw hK hc i pins s σ H E I hf st hg
    subst hP hw hK
    obtain ⟨xs, hq, hx⟩ := hg
    obtain ⟨its, rv, p, hz⟩ := I.tuple hq
    obtain ⟨f0, f1, f2, f3, f4, f5⟩ := hf it (by simp)
    have hl := rv.length
    exact wpAny_pyNext_tuple_end (I.ok.hd hc) st (show s.heap.IsTuple a its.toArray from p) (by simp; omega) fun h' eb => ⟨rfl, I.turned (t' := s.toks) (fun b o hb e => eb b o hb e) f0 f1 f3 f4 f5⟩
  self := fun _ _ _ _ _ st h => wpAny_pyIter_tupleiter st h
theorem turn_range {P : Program} {w : World} {K : PySem.W.Frag} {tg : Expr} (it : Addr) (lo : Int) (n : Nat) : Turn P w K tg (Itr lo n) [it] it (fun i h => IsRangeIter h it (lo + (i : Nat) * 1) ((n : Int) - (i : Nat)) 1) where
  mem := by simp
  obj := fun i h st b hb => by
    have e : b = it := by simpa using hb
    subst e
    exact ⟨_, st, fun v z => by
      have z' : Data.fields _ = Data.cell v := z
      cases z'⟩
  keep := fun i h h' st k => k it (by simp) _ st
  item := by
    intro X hP hw hK hc i pins s σ H E I hf st hg
    subst hP hw hK
    obtain ⟨f0, f1, f2, f3, f4, f5⟩ := hf it (by simp)
    have W := Walks.range (prog := X.prog) (w := X.w) (I.ok.hd hc) it lo 1 n
    refine W.item i s _ _ hg st fun v h' tk hv st' kk => ?_
    obtain ⟨t, rfl⟩ := hv
    have I1 : Inv X pins σ H { s with heap := h', toks := tk } := I.turned (fun b o hb e => kk b o (by simpa using hb) e) f0 f1 f3 f4 f5
    refine ⟨_, rfl, go_of (s := { s with heap := h', toks := tk }) (n := "range_iterator") st' rfl rfl (by decide) ⟨.int (lo + i), H, I1, ⟨t, ?_⟩, ⟨rfl, rfl⟩, st', fun b hb => (hf b hb).1⟩⟩
    rw [Int.mul_one]
  done := by
    intro X hP hw hK hc i pins s σ H E I hf st hg
    subst hP hw hK
    obtain ⟨f0, f1, f2, f3, f4, f5⟩ := hf it (by simp)
    exact wpAny_pyNext_range_end (I.ok.hd hc) st (by have : n ≤ i := hg; omega) fun h' eb => ⟨rfl, I.turned (t' := s.toks) (fun b o hb e => eb b o hb e) f0 f1 f3 f4 f5⟩
  self := fun _ _ _ _ _ st h => wpAny_pyIter_rangeiter st h
end L2

namespace L2
open PySem PySem.Spec PyProof.Rows
section
variable {X : Cx} {tg : Expr}
noncomputable def iList (K : PySem.W.Frag) (tl : TE) : TI := fun σ H R => tl σ H fun x H1 => ∃ a, x = .ref a ∧ (∃ xs, SqL K H1 a xs) ∧ R (Itl K a) H1
noncomputable def iTup (K : PySem.W.Frag) (tl : TE) : TI := fun σ H R => tl σ H fun x H1 => ∃ a, x = .ref a ∧ (∃ xs, SqT K H1 a xs) ∧ R (Itt K a) H1
theorem pi_list {l : Expr} {tl : TE} (hl : PE X l tl) : PI X tg l (iList X.K tl) := by
  intro pins s σ H R I h
  refine thn (hl pins s σ H _ I h) fun v s1 hz => ?_
  obtain ⟨x, H1, I1, r1, q1⟩ := hz
  obtain ⟨a, e, ⟨xs, hq⟩, q⟩ := q1
  subst e
  cases r1
  obtain ⟨its, rv, p, hz⟩ := I1.list hq
  refine wpAny_pyIter_list p.isList ?_
  refine ⟨s1.heap.objs.size, [s1.heap.objs.size], _, _, H1, rfl, I1.kept (t' := s1.toks) fun b o e => Heap.get?_push_of_some _ e, turn_list a _, ⟨_, Heap.get?_push_size _ rfl, rfl, rfl⟩, fun b hb => ?_, q⟩
  have e : b = s1.heap.objs.size := by simpa using hb
  subst e
  exact I1.fpOk (Nat.le_refl _) (I1.hok.fresh (Nat.le_refl _))
theorem pi_tup {l : Expr} {tl : TE} (hl : PE X l tl) : PI X tg l (iTup X.K tl) := by
  intro pins s σ H R I h
  refine thn (hl pins s σ H _ I h) fun v s1 hz => ?_
  obtain ⟨x, H1, I1, r1, q1⟩ := hz
  obtain ⟨a, e, ⟨xs, hq⟩, q⟩ := q1
  subst e
  cases r1
  obtain ⟨its, rv, p, hz⟩ := I1.tuple hq
  refine wpAny_pyIter_tuple (show s1.heap.IsTuple a its.toArray from p) ?_
  refine ⟨s1.heap.objs.size, [s1.heap.objs.size], _, _, H1, rfl, I1.kept (t' := s1.toks) fun b o e => Heap.get?_push_of_some _ e, turn_tuple a _, ⟨_, Heap.get?_push_size _ rfl, rfl, rfl⟩, fun b hb => ?_, q⟩
  have e : b = s1.heap.objs.size := by simpa using hb
  subst e
  exact I1.fpOk (Nat.le_refl _) (I1.hok.fresh (Nat.le_refl _))
theorem range_it {pins : List (Addr × Obj)} {σ : St} {H : Hp} {s : Shared} {R : It → Hp → Prop} {E : Value → Shared → Prop} {lo hi : Int} {t u v : Tok} {tk : Nat} (I : Inv X pins σ H s) (h1 : -(2 ^ 62) ≤ lo) (h2 : lo < 2 ^ 62) (h3 : -(2 ^ 62) ≤ hi) (h4 : hi < 2 ^ 62)
    (q : R (Itr lo (hi - lo).toNat) H) : wpAny (model X.prog X.w) X.A (pyIter (.ref s.heap.objs.size)) (PIE X pins σ tg R) E { s with heap := s.heap.push { cls := .type "range", data := .fields #[.int lo t, .int hi u, .int 1 v] }, toks := tk } := by
  refine wpAny_pyIter_range (IsRange.new ..) (small_one h1 h2 h3 h4) ?_
  have I1 : Inv X pins σ H { s with heap := s.heap.push { cls := .type "range", data := .fields #[.int lo t, .int hi u, .int 1 v] }, toks := tk } := I.kept fun b o e => Heap.get?_push_of_some _ e
  refine ⟨(s.heap.push { cls := .type "range", data := .fields #[.int lo t, .int hi u, .int 1 v] }).objs.size, [(s.heap.push { cls := .type "range", data := .fields #[.int lo t, .int hi u, .int 1 v] }).objs.size], _, _, H, rfl,
    I1.kept (t' := tk) fun b o e => Heap.get?_push_of_some _ e, turn_range _ lo (hi - lo).toNat, ?_, fun b hb => ?_, q⟩
  · have e1 : lo + ((0 : Nat) : Int) * 1 = lo := by simp
    have e2 : (((hi - lo).toNat : Nat) : Int) - ((0 : Nat) : Int) = Builtin.Range.rangeSize lo hi 1 := by rw [rangeSize_one]; split <;> omega
    show IsRangeIter _ _ (lo + ((0 : Nat) : Int) * 1) ((((hi - lo).toNat : Nat) : Int) - ((0 : Nat) : Int)) 1
    rw [e1, e2]
    exact Heap.get?_push_size _ rfl
  · have e : b = (s.heap.push { cls := .type "range", data := .fields #[.int lo t, .int hi u, .int 1 v] }).objs.size := by simpa using hb
    subst e
    exact I1.fpOk (Nat.le_refl _) (I1.hok.fresh (Nat.le_refl _))
noncomputable def iRng1 (ta : TA) : TI := fun σ H R => ta σ H fun vs H1 => ∃ j : Int, vs = [.int j] ∧ -(2 ^ 62) ≤ j ∧ j < 2 ^ 62 ∧ R (Itr 0 j.toNat) H1
noncomputable def iRng2 (ta : TA) : TI := fun σ H R => ta σ H fun vs H1 => ∃ i j : Int, vs = [.int i, .int j] ∧ (-(2 ^ 62) ≤ i ∧ i < 2 ^ 62 ∧ -(2 ^ 62) ≤ j ∧ j < 2 ^ 62) ∧ R (Itr i (j - i).toNat) H1
theorem pi_range1 {a : Expr} {ta : TA} {p pos : Pos} (hg : Gl X "range") (hm : X.mg "range" = none) (ha : PA X [a] ta) (hs : starEach [a] X.env = [(false, eval a X.env)] := by rfl) : PI X tg (.Call (.Name "range" p) [a] [] pos) (iRng1 ta) := by
  intro pins s σ H R I h
  refine Call_ (ld_blt I hg hm boot_range (PyProof.Rows.callWith_type1 (thn (ha pos pins s σ H _ I h) fun us s1 hz => ?_) hs rfl))
  obtain ⟨vs, H1, I1, r1, q1⟩ := hz
  obtain ⟨j, e, q1, q2, q⟩ := q1
  subst e
  cases r1 with
  | cons r rr =>
    cases rr
    obtain ⟨t, rfl⟩ := r
    exact call_range_1 (range_it I1 (by omega) (by omega) q1 q2 (by simpa using q))
theorem pi_range2 {a b : Expr} {ta : TA} {p pos : Pos} (hg : Gl X "range") (hm : X.mg "range" = none) (ha : PA X [a, b] ta) (hs : starEach [a, b] X.env = [(false, eval a X.env), (false, eval b X.env)] := by rfl) (hs2 : starEach [b] X.env = [(false, eval b X.env)] := by rfl) :
    PI X tg (.Call (.Name "range" p) [a, b] [] pos) (iRng2 ta) := by
  intro pins s σ H R I h
  refine Call_ (ld_blt I hg hm boot_range (PyProof.Rows.callWith_type1 (thn (ha pos pins s σ H _ I h) fun us s1 ⟨vs, H1, I1, r1, q1⟩ => ?_) (by rw [hs, hs2]) (by rw [hs2]; rfl)))
  obtain ⟨i, j, e, ⟨q1, q2, q3, q4⟩, q⟩ := q1
  subst e
  cases r1 with
  | cons r rr =>
    cases rr with
    | cons r' rr =>
      cases rr
      obtain ⟨t, rfl⟩ := r
      obtain ⟨t', rfl⟩ := r'
      exact call_range_2 (range_it I1 q1 q2 q3 q4 q)

noncomputable def tFor (wi : TI) (g : TG) (tb : TS) : TS := fun D σ H => wi σ H fun J H1 => ∃ W : Nat → Nat → St → Hp → Prop, (∃ m, W 0 m σ H1) ∧ ∀ i m σ H, W i m σ H →
  (J.stop i H ∧ D.nx σ H) ∨ (J.go i H ∧ ∃ N : St → Hp → Prop, (∀ σ' H', N σ' H' → ∃ m', m' < m ∧ W (i + 1) m' σ' H') ∧ ∀ x H', J.yld i H x H' → g x σ H' fun σ2 H2 => tb { D with nx := N, ct := N, bk := D.nx } σ2 H2)
noncomputable def pinsAt (fp : List Addr) (h : Heap) : List (Addr × Obj) := fp.filterMap fun b => (h.get? b).map fun o => (b, o)
theorem mem_pinsAt {fp : List Addr} {h : Heap} {b : Addr} {o : Obj} (hb : b ∈ fp) (e : h.get? b = some o) : (b, o) ∈ pinsAt fp h := List.mem_filterMap.mpr ⟨b, hb, by rw [e]; rfl⟩
theorem of_pinsAt {fp : List Addr} {h : Heap} {p : Addr × Obj} (hp : p ∈ pinsAt fp h) : p.1 ∈ fp ∧ h.get? p.1 = some p.2 := by
  obtain ⟨b, hb, e⟩ := List.mem_filterMap.mp hp
  cases q : h.get? b with
  | none => rw [q] at e; cases e
  | some o =>
    rw [q] at e
    have e' : (b, o) = p := Option.some.inj e
    subst e'
    exact ⟨hb, q⟩
theorem Inv.pinned {pins : List (Addr × Obj)} {σ : St} {H : Hp} {s : Shared} {fp : List Addr} (I : Inv X pins σ H s) (hf : ∀ b ∈ fp, FpOk X pins H b) (ho : ∀ b ∈ fp, ∃ o, s.heap.get? b = some o ∧ ∀ v, o.data ≠ .cell v) : Inv X (pins ++ pinsAt fp s.heap) σ H s :=
  I.pins_of fun p hp => (List.mem_append.mp hp).elim (fun z => I.pin p (List.mem_append_right _ z)) fun z => by
    obtain ⟨hb, e⟩ := of_pinsAt z
    obtain ⟨f0, f1, f2, _⟩ := hf p.1 hb
    obtain ⟨o, e', d⟩ := ho p.1 hb
    rw [e] at e'; cases e'
    exact ⟨e, f0, f1, f2, d⟩
theorem Inv.unpinned {pins pl : List (Addr × Obj)} {σ : St} {H : Hp} {s : Shared} (I : Inv X (pins ++ pl) σ H s) : Inv X pins σ H s := I.pins_of fun p hp => I.pin p (List.mem_append_right _ (List.mem_append_left _ hp))
theorem ps_for {iter : Expr} {body : List Stmt} {wi : TI} {g : TG} {tb : TS} {pos : Pos} (hp : PassesOwn (model X.prog X.w) X.A X.env X.xe) (hc : X.calm = true) (hi : PI X tg iter wi) (hg : PG X tg g) (hb : PSs X body tb)
    (hs : ∀ x, foldedSetIterable iter X.env x = pure x := by intro _; rfl) : PS X (.For tg iter body [] pos) (tFor wi g tb) := by
  intro pins s σ H D I h
  refine wpAny_For (thn (hi pins s σ H _ I h) fun v s1 h1 => thn h1 fun itv s2 h2 => ?_) hs
  obtain ⟨it, fp, tn, J, H2, e, I2, T, st2, f2, W, ⟨m0, w0⟩, turn⟩ := h2
  subst e
  -- what stays true of the iterator's objects through the loop
  have stat : ∀ {H' : Hp}, (∀ b ∈ fp, H' b = none) → ∀ b ∈ fp, FpOk X pins H' b := fun hn b hb => ⟨hn b hb, (f2 b hb).2⟩
  refine codeAny_forLoop_any (fun n s' => ∃ i σ' H', Inv X pins σ' H' s' ∧ tn i s'.heap ∧ (∀ b ∈ fp, H' b = none) ∧ W i n σ' H') ?_ m0 ⟨0, σ, H2, I2, st2, fun b hb => (f2 b hb).1, w0⟩
  rintro n s3 ⟨i, σ3, H3, I3, st3, fr3, w3⟩
  rcases turn i n σ3 H3 w3 with ⟨stop, qn⟩ | ⟨go, N, hN, step⟩
  · refine wpAny_passesOwn hp (thn (T.done X rfl rfl rfl hc i pins s3 σ3 H3 X.xe I3 (stat fr3) st3 stop) fun r s4 hz => ?_)
    obtain ⟨hr, I4⟩ := hz
    subst hr
    exact wpAny_execs_nil ⟨σ3, H3, I4, qn⟩
  · refine wpAny_passesOwn hp (thn (T.item X rfl rfl rfl hc i pins s3 σ3 H3 X.xe I3 (stat fr3) st3 go) fun r s4 hz => ?_)
    obtain ⟨u, hr, h4⟩ := hz
    subst hr
    refine wpAny_passesOwn hp (thn h4 fun _ s5 hz => ?_)
    obtain ⟨x, H5, I5, r5, y5, st5, fr5⟩ := hz
    have I5' := I5.pinned (stat fr5) (T.obj _ _ st5)
    refine wpAny_passesOwn hp (thn (hg _ s5 σ3 H5 x u _ I5' r5 (step x H5 y5)) fun _ s6 hz => ?_)
    obtain ⟨σ6, H6, I6, q6⟩ := hz
    refine wpAny_passesOwn hp (thn (hb _ s6 σ6 H6 _ I6 q6) fun f s7 q7 => ?_)
    have again : ∀ {σ7 : St} {H7 : Hp}, Inv X (pins ++ pinsAt fp s5.heap) σ7 H7 s7 → N σ7 H7 → ∃ m, m < n ∧ ∃ i σ' H', Inv X pins σ' H' s7 ∧ tn i s7.heap ∧ (∀ b ∈ fp, H' b = none) ∧ W i m σ' H' := fun {σ7 H7} I7 n7 => by
      obtain ⟨m', hm, w7⟩ := hN σ7 H7 n7
      refine ⟨m', hm, i + 1, σ7, H7, I7.unpinned, T.keep _ _ _ st5 fun b hb o e => (I7.pin (b, o) (List.mem_append_right _ (List.mem_append_right _ (mem_pinsAt hb e)))).1, fun b hb => ?_, w7⟩
      obtain ⟨o, e, d⟩ := T.obj _ _ st5 b hb
      exact (I7.pin (b, o) (List.mem_append_right _ (List.mem_append_right _ (mem_pinsAt hb e)))).2.1
    cases f with
    | next => obtain ⟨σ7, H7, I7, n7⟩ := q7; exact again I7 n7
    | cont => obtain ⟨σ7, H7, I7, n7⟩ := q7; exact again I7 n7
    | brk => obtain ⟨σ7, H7, I7, q7⟩ := q7; exact ⟨σ7, H7, I7.unpinned, q7⟩
    | ret v => obtain ⟨x7, σ7, H7, I7, r7, q7⟩ := q7; exact ⟨x7, σ7, H7, I7.unpinned, r7, q7⟩
end

theorem for_list {K : PySem.W.Frag} {a : Addr} {xs : List V} {g : TG} {tb : TS} {D : Ends} {σ : St} {H : Hp} (Pv : Nat → St → Hp → Prop) (h0 : Pv 0 σ H) (hl : ∀ i σ H, i ≤ xs.length → Pv i σ H → SqL K H a xs)
    (hs : ∀ i x σ H, xs[i]? = some x → Pv i σ H → g x σ H fun σ2 H2 => tb { D with nx := Pv (i + 1), ct := Pv (i + 1), bk := D.nx } σ2 H2) (hd : ∀ σ H, Pv xs.length σ H → D.nx σ H) :
    ∃ W : Nat → Nat → St → Hp → Prop, (∃ m, W 0 m σ H) ∧ ∀ i m σ H, W i m σ H →
      ((Itl K a).stop i H ∧ D.nx σ H) ∨ ((Itl K a).go i H ∧ ∃ N : St → Hp → Prop, (∀ σ' H', N σ' H' → ∃ m', m' < m ∧ W (i + 1) m' σ' H') ∧ ∀ x H', (Itl K a).yld i H x H' → g x σ H' fun σ2 H2 => tb { D with nx := N, ct := N, bk := D.nx } σ2 H2) := by
  refine ⟨fun i m σ H => m = xs.length - i ∧ i ≤ xs.length ∧ Pv i σ H, ⟨xs.length, by simp, Nat.zero_le _, h0⟩, ?_⟩
  rintro i m σ H ⟨rfl, hi, p⟩
  have q := hl i σ H hi p
  by_cases hlt : i < xs.length
  · refine .inr ⟨⟨xs, xs[i], q, by simp [hlt]⟩, Pv (i + 1), fun σ' H' p' => ⟨xs.length - (i + 1), by omega, rfl, hlt, p'⟩, fun x H' y => ?_⟩
    obtain ⟨e, y⟩ := y
    subst e
    exact hs i x σ _ (y xs q) p
  · have e : i = xs.length := by omega
    subst e
    exact .inl ⟨⟨xs, q, Nat.le_refl _⟩, hd σ H p⟩
theorem for_tup {K : PySem.W.Frag} {a : Addr} {xs : List V} {g : TG} {tb : TS} {D : Ends} {σ : St} {H : Hp} (Pv : Nat → St → Hp → Prop) (h0 : Pv 0 σ H) (hl : ∀ i σ H, i ≤ xs.length → Pv i σ H → SqT K H a xs)
    (hs : ∀ i x σ H, xs[i]? = some x → Pv i σ H → g x σ H fun σ2 H2 => tb { D with nx := Pv (i + 1), ct := Pv (i + 1), bk := D.nx } σ2 H2) (hd : ∀ σ H, Pv xs.length σ H → D.nx σ H) :
    ∃ W : Nat → Nat → St → Hp → Prop, (∃ m, W 0 m σ H) ∧ ∀ i m σ H, W i m σ H →
      ((Itt K a).stop i H ∧ D.nx σ H) ∨ ((Itt K a).go i H ∧ ∃ N : St → Hp → Prop, (∀ σ' H', N σ' H' → ∃ m', m' < m ∧ W (i + 1) m' σ' H') ∧ ∀ x H', (Itt K a).yld i H x H' → g x σ H' fun σ2 H2 => tb { D with nx := N, ct := N, bk := D.nx } σ2 H2) := by
  refine ⟨fun i m σ H => m = xs.length - i ∧ i ≤ xs.length ∧ Pv i σ H, ⟨xs.length, by simp, Nat.zero_le _, h0⟩, ?_⟩
  rintro i m σ H ⟨rfl, hi, p⟩
  have q := hl i σ H hi p
  by_cases hlt : i < xs.length
  · refine .inr ⟨⟨xs, xs[i], q, by simp [hlt]⟩, Pv (i + 1), fun σ' H' p' => ⟨xs.length - (i + 1), by omega, rfl, hlt, p'⟩, fun x H' y => ?_⟩
    obtain ⟨e, y⟩ := y
    subst e
    exact hs i x σ _ (y xs q) p
  · have e : i = xs.length := by omega
    subst e
    exact .inl ⟨⟨xs, q, Nat.le_refl _⟩, hd σ H p⟩
theorem for_range {lo : Int} {n : Nat} {g : TG} {tb : TS} {D : Ends} {σ : St} {H : Hp} (Pv : Nat → St → Hp → Prop) (h0 : Pv 0 σ H)
    (hs : ∀ i σ H, i < n → Pv i σ H → g (.int (lo + i)) σ H fun σ2 H2 => tb { D with nx := Pv (i + 1), ct := Pv (i + 1), bk := D.nx } σ2 H2) (hd : ∀ σ H, Pv n σ H → D.nx σ H) :
    ∃ W : Nat → Nat → St → Hp → Prop, (∃ m, W 0 m σ H) ∧ ∀ i m σ H, W i m σ H →
      ((Itr lo n).stop i H ∧ D.nx σ H) ∨ ((Itr lo n).go i H ∧ ∃ N : St → Hp → Prop, (∀ σ' H', N σ' H' → ∃ m', m' < m ∧ W (i + 1) m' σ' H') ∧ ∀ x H', (Itr lo n).yld i H x H' → g x σ H' fun σ2 H2 => tb { D with nx := N, ct := N, bk := D.nx } σ2 H2) := by
  refine ⟨fun i m σ H => m = n - i ∧ i ≤ n ∧ Pv i σ H, ⟨n, by simp, Nat.zero_le _, h0⟩, ?_⟩
  rintro i m σ H ⟨rfl, hi, p⟩
  by_cases hlt : i < n
  · refine .inr ⟨hlt, Pv (i + 1), fun σ' H' p' => ⟨n - (i + 1), by omega, rfl, hlt, p'⟩, fun x H' y => ?_⟩
    obtain ⟨e, y⟩ := y
    subst e y
    exact hs i σ _ hlt p
  · have e : i = n := by omega
    subst e
    exact .inl ⟨Nat.le_refl _, hd σ H p⟩
end L2

namespace L2
open PySem PySem.Spec PyProof.Rows

abbrev R2 := V → V → Hp → VK → Prop
noncomputable def OpR (X : Cx) (f : Value → Value → Sem Value) (r : R2) : Prop :=
  ∀ (pins : List (Addr × Obj)) (s : Shared) (σ : St) (H : Hp) (x y : V) (v u : Value) (Q : VK), Inv X pins σ H s → RelV x v → RelV y u → r x y H Q →
    wpAny (model X.prog X.w) X.A (f v u) (EP X pins σ Q) X.xe s
noncomputable def UnR (X : Cx) (f : Value → Sem Value) (r : V → Hp → VK → Prop) : Prop :=
  ∀ (pins : List (Addr × Obj)) (s : Shared) (σ : St) (H : Hp) (x : V) (v : Value) (Q : VK), Inv X pins σ H s → RelV x v → r x H Q →
    wpAny (model X.prog X.w) X.A (f v) (EP X pins σ Q) X.xe s
noncomputable def CallR (X : Cx) (f : Value) (r : List V → Hp → VK → Prop) : Prop :=
  ∀ (pins : List (Addr × Obj)) (s : Shared) (σ : St) (H : Hp) (xs : List V) (us : List Value) (Q : VK), Inv X pins σ H s → Vals xs us → r xs H Q →
    wpAny (model X.prog X.w) X.A (call f us) (EP X pins σ Q) X.xe s
noncomputable def tOp (r : R2) (ta tb : TE) : TE := fun σ H Q => ta σ H fun x H1 => tb σ H1 fun y H2 => r x y H2 Q
noncomputable def tUn (r : V → Hp → VK → Prop) (ta : TE) : TE := fun σ H Q => ta σ H fun x H1 => r x H1 Q
noncomputable def rI (C : Int → Int → Prop) (g : Int → Int → V) : R2 := fun x y H Q => ∃ i j, x = .int i ∧ y = .int j ∧ C i j ∧ Q (g i j) H
noncomputable def rI0 (g : Int → Int → V) : R2 := fun x y H Q => ∃ i j, x = .int i ∧ y = .int j ∧ Q (g i j) H
noncomputable def rU (g : Int → V) : V → Hp → VK → Prop := fun x H Q => ∃ i, x = .int i ∧ Q (g i) H

section
variable {X : Cx} {a b c : Expr} {ta tb tc : TE} {pos : Pos}

theorem binT (ha : PE X a ta) (hb : PE X b tb) {pins : List (Addr × Obj)} {s : Shared} {σ : St} {H : Hp} {R : V → V → Hp → Prop} (I : Inv X pins σ H s)
    (h : ta σ H fun x H1 => tb σ H1 fun y H2 => R x y H2) {Q : Value → Shared → Prop} {f : Value → Value → Sem Value}
    (hf : ∀ v u s2 x y H2, Inv X pins σ H2 s2 → RelV x v → RelV y u → R x y H2 → wpAny (model X.prog X.w) X.A (f v u) Q X.xe s2) :
    wpAny (model X.prog X.w) X.A (eval a X.env) (fun v s₁ => wpAny (model X.prog X.w) X.A (eval b X.env) (fun u s₂ => wpAny (model X.prog X.w) X.A (f v u) Q X.xe s₂) X.xe s₁) X.xe s := by
  refine thn (ha pins s σ H _ I h) fun v s1 hz => ?_
  obtain ⟨x, H1, I1, r1, q1⟩ := hz
  refine thn (hb pins s1 σ H1 _ I1 q1) fun u s2 hz => ?_
  obtain ⟨y, H2, I2, r2, q2⟩ := hz
  exact hf v u s2 x y H2 I2 r1 r2 q2

theorem pe_op {op : Operator} {r : R2} (ho : OpR X (binaryOp op) r) (ha : PE X a ta) (hb : PE X b tb) : PE X (.BinOp a op b pos) (tOp r ta tb) := by
  intro pins s σ H Q I h
  exact wpAny_BinOp (binT ha hb I h fun v u s2 x y H2 I2 rx ry q => ho pins s2 σ H2 x y v u Q I2 rx ry q)
theorem pe_un {op : UnaryOp} {r : V → Hp → VK → Prop} (ho : UnR X (unaryOp op) r) (ha : PE X a ta) : PE X (.UnaryOp op a pos) (tUn r ta) := by
  intro pins s σ H Q I h
  exact UnaryOp_ (thn (ha pins s σ H _ I h) fun v s1 ⟨x, H1, I1, r1, q1⟩ => ho pins s1 σ H1 x v Q I1 r1 q1)
theorem opI {f : Value → Value → Sem Value} {C : Int → Int → Prop} {g : Int → Int → Int}
    (rule : ∀ (i j : Int) (t u : Tok) (s : Shared) (Q : Value → Shared → Prop) (E : Value → Shared → Prop), C i j → Q (.int (g i j) s.toks) { s with toks := s.toks + 1 } → wpAny (model X.prog X.w) X.A (f (.int i t) (.int j u)) Q E s) :
    OpR X f (rI C fun i j => .int (g i j)) := by
  intro pins s σ H x y v u Q I rx ry h
  obtain ⟨i, j, rfl, rfl, hc, q⟩ := h
  obtain ⟨t, rfl⟩ := rx
  obtain ⟨t', rfl⟩ := ry
  exact rule i j t t' s _ _ hc ⟨.int (g i j), H, I.tok _, ⟨_, rfl⟩, q⟩
theorem opI0 {f : Value → Value → Sem Value} {g : Int → Int → Int}
    (rule : ∀ (i j : Int) (t u : Tok) (s : Shared) (Q : Value → Shared → Prop) (E : Value → Shared → Prop), Q (.int (g i j) s.toks) { s with toks := s.toks + 1 } → wpAny (model X.prog X.w) X.A (f (.int i t) (.int j u)) Q E s) :
    OpR X f (rI0 fun i j => .int (g i j)) := by
  intro pins s σ H x y v u Q I rx ry h
  obtain ⟨i, j, rfl, rfl, q⟩ := h
  obtain ⟨t, rfl⟩ := rx
  obtain ⟨t', rfl⟩ := ry
  exact rule i j t t' s _ _ ⟨.int (g i j), H, I.tok _, ⟨_, rfl⟩, q⟩
theorem opB0 {f : Value → Value → Sem Value} {g : Int → Int → Bool}
    (rule : ∀ (i j : Int) (t u : Tok) (s : Shared) (Q : Value → Shared → Prop) (E : Value → Shared → Prop), Q (.bool (g i j)) s → wpAny (model X.prog X.w) X.A (f (.int i t) (.int j u)) Q E s) :
    OpR X f (rI0 fun i j => .bl (g i j)) := by
  intro pins s σ H x y v u Q I rx ry h
  obtain ⟨i, j, rfl, rfl, q⟩ := h
  obtain ⟨t, rfl⟩ := rx
  obtain ⟨t', rfl⟩ := ry
  exact rule i j t t' s _ _ ⟨.bl (g i j), H, I, rfl, q⟩

noncomputable def CDiv (i j : Int) : Prop := 0 < j ∧ j < 1073741824
noncomputable def CMul (i j : Int) : Prop := (-(2 ^ 64) < i ∧ i < 2 ^ 64) ∨ (-(2 ^ 64) < j ∧ j < 2 ^ 64)
theorem CMul.ok {i j : Int} (h : CMul i j) : IntMulOk i j := by
  rcases h with ⟨h1, h2⟩ | ⟨h1, h2⟩
  · exact .of_left (intBits_le_64 h1 h2)
  · exact .of_right (intBits_le_64 h1 h2)
theorem op_add : OpR X (binaryOp .Add) (rI0 fun i j => .int (i + j)) := opI0 fun _ _ _ _ _ _ _ q => add_int q
theorem op_sub : OpR X (binaryOp .Sub) (rI0 fun i j => .int (i - j)) := opI0 fun _ _ _ _ _ _ _ q => sub_int q
theorem op_mul : OpR X (binaryOp .Mult) (rI CMul fun i j => .int (i * j)) := opI fun _ _ _ _ _ _ _ hc q => mul_int q hc.ok
theorem op_fdiv : OpR X (binaryOp .FloorDiv) (rI CDiv fun i j => .int (i / j)) := opI fun i j _ _ _ _ _ hc q => by
  have h1 : (0 : Int) < j := hc.1
  have h2 : j < 1073741824 := hc.2
  exact floordiv_int (by omega) (by rw [Int.fdiv_eq_ediv_of_nonneg i (by omega)]; exact q) (.inl (PyProof.noPylong_small (by omega)))
theorem op_mod : OpR X (binaryOp .Mod) (rI (fun _ j => 0 < j) fun i j => .int (i % j)) := opI fun i j _ _ _ _ _ hc q => by
  have h1 : (0 : Int) < j := hc
  exact mod_int' (by omega) (by rw [Int.fmod_eq_emod_of_nonneg i (by omega)]; exact q)
theorem unI {f : Value → Sem Value} {g : Int → Int}
    (rule : ∀ (i : Int) (t : Tok) (s : Shared) (Q : Value → Shared → Prop) (E : Value → Shared → Prop), Q (.int (g i) s.toks) { s with toks := s.toks + 1 } → wpAny (model X.prog X.w) X.A (f (.int i t)) Q E s) :
    UnR X f (rU fun i => .int (g i)) := by
  intro pins s σ H x v Q I rx h
  obtain ⟨i, rfl, q⟩ := h
  obtain ⟨t, rfl⟩ := rx
  exact rule i t s _ _ ⟨.int (g i), H, I.tok _, ⟨_, rfl⟩, q⟩
theorem un_neg : UnR X (unaryOp .USub) (rU fun i => .int (-i)) := unI fun _ _ _ _ _ q => neg_int q
end

noncomputable def scal : V → V → Bool
  | .non, .non => true | .non, .int _ => true | .int _, .non => true | .non, .bl _ => true | .bl _, .non => true | .non, .str _ => true | .str _, .non => true
  | .int _, .int _ => true | .bl _, .bl _ => true | .str _, .str _ => true | .byt _, .byt _ => true
  | .int _, .str _ => true | .str _, .int _ => true | .bl _, .str _ => true | .str _, .bl _ => true
  | _, _ => false
noncomputable def rEq : R2 := fun x y H Q => scal x y = true ∧ Q (.bl (decide (x = y))) H
noncomputable def rNe : R2 := fun x y H Q => scal x y = true ∧ Q (.bl (!decide (x = y))) H

theorem dec_int {i j : Int} : decide (V.int i = V.int j) = (i == j) := by
  rw [Bool.eq_iff_iff]
  simp
theorem dec_bl {i j : Bool} : decide (V.bl i = V.bl j) = (i == j) := by
  rw [Bool.eq_iff_iff]
  simp
theorem dec_str {i j : Str} : decide (V.str i = V.str j) = (i == j) := by
  rw [Bool.eq_iff_iff]
  simp
theorem dec_byt {i j : Array UInt8} : decide (V.byt i = V.byt j) = (i.toList == j.toList) := by
  rw [Bool.eq_iff_iff]
  cases i
  cases j
  simp

section
variable {X : Cx} {a b c : Expr} {ta tb tc : TE} {pos : Pos}
theorem fin_bl {pins : List (Addr × Obj)} {σ : St} {H : Hp} {s : Shared} {Q : VK} {k k' : Bool} (I : Inv X pins σ H s) (q : Q (.bl k) H) (e : k = k') : EP X pins σ Q (.bool k') s := by
  subst e
  exact ⟨.bl k, H, I, rfl, q⟩
theorem op_eq : OpR X (compareOp .Eq) rEq := by
  intro pins s σ H x y v u Q I rx ry h
  obtain ⟨hs, q⟩ := h
  cases x with
  | non =>
    cases rx
    cases y with
    | non => cases ry; exact PySem.EqNone.eq_none_none (fin_bl I q (by simp))
    | bl j => cases ry; exact PySem.EqNone.eq_none_bool (fin_bl I q (by simp))
    | int j => obtain ⟨t', rfl⟩ := ry; exact PySem.EqNone.eq_none_int (fin_bl I q (by simp))
    | str j => obtain ⟨t', rfl⟩ := ry; exact PySem.EqNone.eq_none_str (fin_bl I q (by simp))
    | _ => exact absurd (show false = true from hs) Bool.false_ne_true
  | bl i =>
    cases rx
    cases y with
    | non => cases ry; exact PySem.EqNone.eq_bool_none (fin_bl I q (by simp))
    | bl j => cases ry; exact eq_bool (fin_bl I q dec_bl)
    | str j => obtain ⟨t', rfl⟩ := ry; exact PySem.EqMixed.eq_bool_str (fin_bl I q (by simp))
    | _ => exact absurd (show false = true from hs) Bool.false_ne_true
  | int i =>
    obtain ⟨t, rfl⟩ := rx
    cases y with
    | non => cases ry; exact PySem.EqNone.eq_int_none (fin_bl I q (by simp))
    | int j => obtain ⟨t', rfl⟩ := ry; exact eq_int (fin_bl I q dec_int)
    | str j => obtain ⟨t', rfl⟩ := ry; exact PySem.EqMixed.eq_int_str (fin_bl I q (by simp))
    | _ => exact absurd (show false = true from hs) Bool.false_ne_true
  | str i =>
    obtain ⟨t, rfl⟩ := rx
    cases y with
    | non => cases ry; exact PySem.EqNone.eq_str_none (fin_bl I q (by simp))
    | bl j => cases ry; exact PySem.EqMixed.eq_str_bool (fin_bl I q (by simp))
    | int j => obtain ⟨t', rfl⟩ := ry; exact PySem.EqMixed.eq_str_int (fin_bl I q (by simp))
    | str j => obtain ⟨t', rfl⟩ := ry; exact eq_str (fin_bl I q dec_str)
    | _ => exact absurd (show false = true from hs) Bool.false_ne_true
  | byt i =>
    obtain ⟨t, rfl⟩ := rx
    cases y with
    | byt j => obtain ⟨t', rfl⟩ := ry; exact PySem.W.eq_bytes (fin_bl I q dec_byt)
    | _ => exact absurd (show false = true from hs) Bool.false_ne_true
  | _ => cases y <;> exact absurd (show false = true from hs) Bool.false_ne_true
theorem op_ne : OpR X (compareOp .NotEq) rNe := by
  intro pins s σ H x y v u Q I rx ry h
  obtain ⟨hs, q⟩ := h
  cases x with
  | non =>
    cases rx
    cases y with
    | non => cases ry; exact PySem.EqNone.ne_none_none (fin_bl I q (by simp))
    | bl j => cases ry; exact PySem.EqNone.ne_none_bool (fin_bl I q (by simp))
    | int j => obtain ⟨t', rfl⟩ := ry; exact PySem.EqNone.ne_none_int (fin_bl I q (by simp))
    | str j => obtain ⟨t', rfl⟩ := ry; exact PySem.EqNone.ne_none_str (fin_bl I q (by simp))
    | _ => exact absurd (show false = true from hs) Bool.false_ne_true
  | bl i =>
    cases rx
    cases y with
    | non => cases ry; exact PySem.EqNone.ne_bool_none (fin_bl I q (by simp))
    | bl j => cases ry; exact ne_bool (fin_bl I q (congrArg not dec_bl))
    | str j => obtain ⟨t', rfl⟩ := ry; exact PySem.EqMixed.ne_bool_str (fin_bl I q (by simp))
    | _ => exact absurd (show false = true from hs) Bool.false_ne_true
  | int i =>
    obtain ⟨t, rfl⟩ := rx
    cases y with
    | non => cases ry; exact PySem.EqNone.ne_int_none (fin_bl I q (by simp))
    | int j => obtain ⟨t', rfl⟩ := ry; exact ne_int (fin_bl I q (congrArg not dec_int))
    | str j => obtain ⟨t', rfl⟩ := ry; exact PySem.EqMixed.ne_int_str (fin_bl I q (by simp))
    | _ => exact absurd (show false = true from hs) Bool.false_ne_true
  | str i =>
    obtain ⟨t, rfl⟩ := rx
    cases y with
    | non => cases ry; exact PySem.EqNone.ne_str_none (fin_bl I q (by simp))
    | bl j => cases ry; exact PySem.EqMixed.ne_str_bool (fin_bl I q (by simp))
    | int j => obtain ⟨t', rfl⟩ := ry; exact PySem.EqMixed.ne_str_int (fin_bl I q (by simp))
    | str j => obtain ⟨t', rfl⟩ := ry; exact ne_str (fin_bl I q (congrArg not dec_str))
    | _ => exact absurd (show false = true from hs) Bool.false_ne_true
  | byt i =>
    obtain ⟨t, rfl⟩ := rx
    cases y with
    | byt j => obtain ⟨t', rfl⟩ := ry; exact PySem.W.ne_bytes (fin_bl I q (congrArg not dec_byt))
    | _ => exact absurd (show false = true from hs) Bool.false_ne_true
  | _ => cases y <;> exact absurd (show false = true from hs) Bool.false_ne_true

theorem op_lt : OpR X (compareOp .Lt) (rI0 fun i j => .bl (decide (i < j))) := opB0 fun _ _ _ _ _ _ _ q => lt_int q
theorem op_le : OpR X (compareOp .LtE) (rI0 fun i j => .bl (decide (i ≤ j))) := opB0 fun _ _ _ _ _ _ _ q => le_int q
theorem op_gt : OpR X (compareOp .Gt) (rI0 fun i j => .bl (decide (j < i))) := opB0 fun _ _ _ _ _ _ _ q => gt_int q
theorem op_ge : OpR X (compareOp .GtE) (rI0 fun i j => .bl (decide (j ≤ i))) := opB0 fun _ _ _ _ _ _ _ q => ge_int q
theorem nomark (b : Expr) {op : CmpOp} (h : op ≠ .In := by decide) (h2 : op ≠ .NotIn := by decide) : behindInMarks op b = false := by
  have e1 : (op == CmpOp.In) = false := by cases op <;> first | rfl | exact absurd rfl h
  have e2 : (op == CmpOp.NotIn) = false := by cases op <;> first | rfl | exact absurd rfl h2
  cases b <;> simp [behindInMarks, e1, e2]
theorem pe_cmpR {op : CmpOp} {r : R2} (ho : OpR X (compareOp op) r) (ha : PE X a ta) (hb : PE X b tb) (hm : behindInMarks op b = false) : PE X (.Compare a [op] [b] pos) (tOp r ta tb) := by
  intro pins s σ H Q I h
  exact wpAny_Compare1 (binT ha hb I h fun v u s2 x y H2 I2 rx ry q => ho pins s2 σ H2 x y v u Q I2 rx ry q) hm
noncomputable def tTest (t : TE) : TT := fun σ H Q => t σ H fun x H' => ∃ k, x = .bl k ∧ Q k H'
theorem pt_cmpR {op : CmpOp} {r : R2} (ho : OpR X (compareOp op) r) (ha : PE X a ta) (hb : PE X b tb) (hm : behindInMarks op b = false) : PT X (.Compare a [op] [b] pos) (tTest (tOp r ta tb)) := by
  intro pins s σ H Q I h
  refine wpAny_isTrue_Compare1 (thn (ha pins s σ H _ I h) fun v s1 ⟨x, H1, I1, r1, q1⟩ => thn (hb pins s1 σ H1 _ I1 q1) fun u s2 ⟨y, H2, I2, r2, q2⟩ =>
    thn (ho pins s2 σ H2 x y v u _ I2 r1 r2 q2) fun c s3 ⟨z, H3, I3, r3, k, e, q3⟩ => ?_) hm
  subst e
  cases r3
  exact wpAny_truthy_bool ⟨H3, I3, q3⟩
theorem line63 : (sizeLine : Nat) < 2 ^ 63 := by rw [sizeLine_eq]; decide
theorem op_add_str : OpR X (binaryOp .Add) (fun x y H Q => ∃ i j, x = .str i ∧ y = .str j ∧ i.length + j.length ≤ sizeLine ∧ Q (.str (i ++ j)) H) := by
  intro pins s σ H x y v u Q I rx ry h
  obtain ⟨i, j, rfl, rfl, hz, q⟩ := h
  obtain ⟨t, rfl⟩ := rx
  obtain ⟨t', rfl⟩ := ry
  exact add_str (fun t' tk => ⟨.str (i ++ j), H, I.tok _, ⟨_, rfl⟩, q⟩) hz
theorem vals1 {x : V} {us : List Value} (r : Vals [x] us) : ∃ u, us = [u] ∧ RelV x u := by
  cases r with
  | cons r1 r2 => cases r2; exact ⟨_, rfl, r1⟩
theorem vals2 {x y : V} {us : List Value} (r : Vals [x, y] us) : ∃ u w', us = [u, w'] ∧ RelV x u ∧ RelV y w' := by
  cases r with
  | cons r1 r2 =>
    cases r2 with
    | cons r3 r4 => cases r4; exact ⟨_, _, rfl, r1, r3⟩
end
end L2

namespace L2
open PySem PySem.Spec PyProof.Rows

structure ObjM (h : Heap) (x dx C : Addr) (mA : Str → Option Value) : Prop where
  obj : h.get? x = some (PySem.W.instObj C dx)
  ns : h.Ns1 dx mA
  ne : dx ≠ x

theorem lookIn_ns {h : Heap} {dx : Addr} {mA : Str → Option Value} (n : h.Ns1 dx mA) : ∃ od, h.get? dx = some od ∧ ∀ name, PySem.W.lookIn name od = some (mA name) := by
  obtain ⟨o, es, ep, ho, hd, hk, _, hm⟩ := n
  refine ⟨o, ho, fun name => ?_⟩
  have e := hm name
  unfold nsFind findBy at e
  rw [← Array.find?_toList] at e
  unfold PySem.W.lookIn
  rw [hd]
  dsimp only
  split
  · rename_i y q
    rw [q] at e
    exact congrArg some e
  · rename_i q
    rw [q] at e
    have a : es.toList.any (·.refKey) = false := by
      rw [List.any_eq_false]
      intro y hy
      obtain ⟨z, t, hkey⟩ := hk y (Array.mem_toList_iff.mp hy)
      simp [DictEntry.refKey, hkey]
    have a' : ¬ es.toList.any (·.refKey) = true := by rw [a]; exact Bool.false_ne_true
    rw [if_neg a']
    exact congrArg some e

theorem ObjM.look {h : Heap} {x dx C : Addr} {mA : Str → Option Value} (I : ObjM h x dx C mA) : ∃ od, PySem.W.InstAt h x (PySem.W.instObj C dx) C (some od) ∧ ∀ name, PySem.W.lookIn name od = some (mA name) :=
  let ⟨od, ho, hl⟩ := lookIn_ns I.ns
  ⟨od, ⟨I.obj, rfl, rfl, ho⟩, hl⟩

section
variable {prog : Program} {w : World} {A : Around} {E : Value → Shared → Prop} {s : Shared} {K : PySem.W.Frag} {x dx C f : Addr} {mA : Str → Option Value} {name : Str} {v : Value}

theorem get_map {expr : Bool} {Q : Value → Shared → Prop} (X : K.In s.heap) (I : ObjM s.heap x dx C mA) (hg : PySem.W.plainGet K C name = true) (hh : PySem.W.hasDictIn K C = true)
    (ha : PySem.W.findIn K (.ref C) name = some none) (hv : mA name = some v) (hv' : PySem.W.handedIn v = true) (h : Q v { s with toks := s.toks + 1 }) :
    wpAny (model prog w) A (getAttr (.ref x) name expr) Q E s := by
  obtain ⟨od, J, hl⟩ := I.look
  exact PySem.W.get_value X J (PySem.W.plainGet_of hg).1 (PySem.W.findObj_own hh ha rfl (by rw [hl, hv])) hv' h

theorem get_meth {pl : Sem Bool} {Q : Value × List Value → Shared → Prop} (X : K.In s.heap) (I : ObjM s.heap x dx C mA) (hg : PySem.W.plainGet K C name = true)
    (hf : PySem.W.findIn K (.ref C) name = some (some (.ref f))) (ht : PySem.W.isFn K (.ref f) = true) (hv : mA name = none) (h : Q (.ref f, [.ref x]) s) :
    wpAny (model prog w) A (getMethod (.ref x) name pl) Q E s := by
  obtain ⟨od, J, hl⟩ := I.look
  exact PySem.W.method_fn X J (PySem.W.plainGet_of hg).1 (PySem.W.plainGet_of hg).2 hf (beq_iff_eq.mp ht) (by show (PySem.W.lookIn name od).map (·.isSome) = some false; rw [hl, hv]; rfl) h

theorem set_map {ns : List Str} {Q : Unit → Shared → Prop} (X : K.In s.heap) (I : ObjM s.heap x dx C mA)
    (hs : PySem.W.findIn K (.ref C) "__setattr__" = some (some (.builtin "object.__setattr__"))) (hp : PySem.W.plainOver K C = true) (ht : PySem.W.takerIn K C name = some none) (hh : PySem.W.hasDictIn K C = true)
    (hw : PySem.Within mA ns) (hsz : ns.length ≤ sizeLine)
    (h : ∀ h', ObjM h' x dx C (fun y => if y = name then some v else mA y) → Heap.SameBut dx s.heap h' → Q () { s with heap := h', toks := s.toks + 2 }) :
    wpAny (model prog w) A (setAttr (.ref x) name v) Q E s := by
  obtain ⟨od, J, hl⟩ := I.look
  refine PySem.W.set_plain X J hs (PySem.W.osa_open (s := { s with toks := s.toks + 1 }) (r := none) X J hp ht fun b => ?_)
  obtain ⟨cd, hc, hd'⟩ := PySem.W.any_some hh
  have hx : s.heap.get? x = some ⟨.ref C, some dx, .plain, #[]⟩ := I.obj
  refine wpAny_bind (wpAny_pure (wpAny_bind (wpAny_bind (wpAny_loadPart hx (wpAny_bind (PySem.W.Looks.here (s := { s with toks := s.toks + 1 }) (PySem.W.looks_clsIn X hc) ?_))))))
  rw [hd']
  refine wpAny_pure (a := some dx) (wpAny_bind (wpAny_pure (wpAny_bind ?_)))
  refine wpAny_nsSet1 (s := { s with toks := s.toks + 1 }) I.ns fun h' hn2 hs2 => ?_
  obtain ⟨oD, esD, epD, hoD, hdD, hcD⟩ := hn2.count (PySem.Within.cons name v hw)
  refine wpAny_bind (wpAny_lookBehind hoD (by rw [hdD]; exact pastItsLine_dict (Nat.le_trans hcD (by rw [List.length_cons]; omega))) ?_)
  exact wpAny_pure (h _ ⟨(hs2.2 _ (Ne.symm I.ne)).trans I.obj, hn2, I.ne⟩ hs2)

theorem make_map {R : Result → Shared → Prop} {vs : List Value} {kw : List (Str × Value)} (X : K.In s.heap) (hm : PySem.W.makesIn K C = true)
    (hi : PySem.W.findIn K (.ref C) "__init__" = some (some (.ref f))) (hf : PySem.W.typeIn K (.ref f) = some (.type "function"))
    (h : codeAny (model prog w) (A.under (.builtin "type.__call__" ⟨.ref C :: vs, kw⟩)) (.call (.ref f) ⟨.ref (s.heap.objs.size + 1) :: vs, kw⟩) (PySem.W.InitBack (s.heap.objs.size + 1) R)
      { s with heap := (s.heap.push PySem.W.emptyDict).push (PySem.W.instObj C s.heap.objs.size) }) :
    codeAny (model prog w) A (.call (.ref C) ⟨vs, kw⟩) R s := by
  obtain ⟨hh, g, d, t, os⟩ := s
  exact PySem.W.make_core (PySem.W.makes_of X hm) (PySem.W.looks_findIn X hi) (fun self => PySem.W.bind_fn X self hf) (.inl rfl) h
end

noncomputable def putF (f : Str) (v : V) : List (Str × V) → List (Str × V)
  | [] => [(f, v)]
  | (g, x) :: r => if g = f then (g, v) :: r else (g, x) :: putF f v r
theorem lookup_putF (f g : Str) (v : V) : ∀ fs : List (Str × V), (putF f v fs).lookup g = if g = f then some v else fs.lookup g
  | [] => by
    show List.lookup g [(f, v)] = _
    by_cases h : g = f
    · have hb : (g == f) = true := beq_iff_eq.mpr h
      simp only [List.lookup, hb, if_pos h]
    · have hb : (g == f) = false := beq_eq_false_iff_ne.mpr h
      simp only [List.lookup, hb, if_neg h]
  | (k, x) :: r => by
    have ih := lookup_putF f g v r
    rw [show putF f v ((k, x) :: r) = (if k = f then (k, v) :: r else (k, x) :: putF f v r) from rfl]
    by_cases hk : k = f
    · rw [if_pos hk]
      by_cases h : g = k
      · have hb : (g == k) = true := beq_iff_eq.mpr h
        simp only [List.lookup, hb, if_pos (h.trans hk)]
      · have hb : (g == k) = false := beq_eq_false_iff_ne.mpr h
        simp only [List.lookup, hb, if_neg (fun e : g = f => h (e.trans hk.symm))]
    · rw [if_neg hk]
      by_cases h : g = k
      · have hb : (g == k) = true := beq_iff_eq.mpr h
        simp only [List.lookup, hb, if_neg (fun e : g = f => hk (h.symm.trans e))]
      · have hb : (g == k) = false := beq_eq_false_iff_ne.mpr h
        simp only [List.lookup, hb]
        exact ih
theorem keys_putF (f : Str) (v : V) : ∀ fs : List (Str × V), f ∈ (putF f v fs).map (·.1) ∧ ∀ g, g ∈ fs.map (·.1) → g ∈ (putF f v fs).map (·.1)
  | [] => ⟨by simp [putF], fun g h => by simp at h⟩
  | (k, x) :: r => by
    obtain ⟨i1, i2⟩ := keys_putF f v r
    rw [show putF f v ((k, x) :: r) = (if k = f then (k, v) :: r else (k, x) :: putF f v r) from rfl]
    by_cases hk : k = f
    · rw [if_pos hk]
      subst hk
      exact ⟨by simp, fun g h => by simpa using h⟩
    · rw [if_neg hk]
      refine ⟨?_, fun g h => ?_⟩
      · rw [List.map_cons]
        exact List.mem_cons_of_mem _ i1
      · rw [List.map_cons] at h ⊢
        rcases List.mem_cons.mp h with e | e
        · exact List.mem_cons.mpr (.inl e)
        · exact List.mem_cons_of_mem _ (i2 g e)
theorem length_putF (f : Str) (v : V) : ∀ fs : List (Str × V), (putF f v fs).length ≤ fs.length + 1
  | [] => by simp [putF]
  | (k, x) :: r => by
    have ih := length_putF f v r
    rw [show putF f v ((k, x) :: r) = (if k = f then (k, v) :: r else (k, x) :: putF f v r) from rfl]
    by_cases hk : k = f
    · rw [if_pos hk, List.length_cons, List.length_cons]; omega
    · rw [if_neg hk, List.length_cons, List.length_cons]; omega

theorem RelO.some_of {v : V} {o : Option Value} (r : RelO (some v) o) : ∃ u, o = some u ∧ RelV v u := by
  cases o with
  | none => exact (show False from r).elim
  | some u => exact ⟨u, rfl, r⟩
theorem RelO.none_of {o : Option Value} (r : RelO none o) : o = none := by
  cases o with
  | none => rfl
  | some u => exact (show False from r).elim
theorem handed_of {v : V} {u : Value} (r : RelV v u) : PySem.W.handedIn u = true := by
  cases v with
  | non => cases (show u = Value.none from r); rfl
  | bl b => cases (show u = Value.bool b from r); rfl
  | int i => obtain ⟨t, e⟩ := (show ∃ t, u = Value.int i t from r); cases e; rfl
  | str x => obtain ⟨t, e⟩ := (show ∃ t, u = Value.str x t from r); cases e; rfl
  | byt b => obtain ⟨t, e⟩ := (show ∃ t, u = Value.bytes b t from r); cases e; rfl
  | flt b => obtain ⟨t, e⟩ := (show ∃ t, u = Value.float b t from r); cases e; rfl
  | ref a => cases (show u = Value.ref a from r); rfl
  | ty n => cases (show u = Value.type n from r); rfl

section
variable {P : Program} {w : World} {H H' : Hp} {h h' : Heap} {a C dx : Addr} {fs fs' : List (Str × V)}
theorem ins_get (hok : HOk P w H h) (e : H a = some (.ins C dx fs)) : ∃ mA, ObjM h a dx C mA ∧ (∀ f, RelO (fs.lookup f) (mA f)) ∧ PySem.Within mA (fs.map (·.1)) ∧ fs.length ≤ 1000 ∧ H dx = some (.own a) := by
  obtain ⟨d, z, ne, ob, mA, n, r, q⟩ := (show ObjOk P w H h a (.ins C dx fs) from hok a _ e)
  exact ⟨mA, ⟨ob, n, ne⟩, r, q, z, d⟩
end

structure Cls (K : PySem.W.Frag) (C : Addr) : Prop where
  pg : PySem.W.plainGet K C Str.empty = true
  hd : PySem.W.hasDictIn K C = true
  po : PySem.W.plainOver K C = true
  sa : PySem.W.findIn K (.ref C) "__setattr__" = some (some (.builtin "object.__setattr__"))
theorem Cls.get {K : PySem.W.Frag} {C : Addr} (c : Cls K C) (f : Str) : PySem.W.plainGet K C f = true := c.pg
noncomputable def NoAttr (K : PySem.W.Frag) (C : Addr) (f : Str) : Prop := PySem.W.findIn K (.ref C) f = some none
theorem NoAttr.taker {K : PySem.W.Frag} {C : Addr} {f : Str} (n : NoAttr K C f) : PySem.W.takerIn K C f = some none := by
  unfold PySem.W.takerIn
  rw [show PySem.W.findIn K (.ref C) f = some none from n]
  rfl
structure Meth (K : PySem.W.Frag) (C : Addr) (m : Str) (f : Addr) : Prop where
  at_ : PySem.W.findIn K (.ref C) m = some (some (.ref f))
  fn : PySem.W.isFn K (.ref f) = true
  kp : PySem.W.keepIn K (.ref f) = true

section
variable {X : Cx} {pins : List (Addr × Obj)} {σ : St} {H : Hp} {s : Shared} {a C dx : Addr} {fs : List (Str × V)} {f : Str} {v : V} {A : Around} {E : Value → Shared → Prop}

theorem getattr_ok {b : Bool} {Q : Value → Shared → Prop} (I : Inv X pins σ H s) (e : H a = some (.ins C dx fs)) (c : Cls X.K C) (n : NoAttr X.K C f) (l : fs.lookup f = some v)
    (h : ∀ u s', Inv X pins σ H s' → RelV v u → Q u s') : wpAny (model X.prog X.w) A (getAttr (.ref a) f b) Q E s := by
  obtain ⟨mA, O, r, _, _, _⟩ := ins_get I.hok e
  obtain ⟨u, hu, ru⟩ := RelO.some_of (v := v) (o := mA f) (by rw [← l]; exact r f)
  exact get_map I.kIn O (c.get f) c.hd n hu (handed_of ru) (h u _ (I.tok _) ru)

theorem getmeth_ok {m : Str} {g : Addr} {pl : Sem Bool} {Q : Value × List Value → Shared → Prop} (I : Inv X pins σ H s) (e : H a = some (.ins C dx fs)) (c : Cls X.K C) (k : Meth X.K C m g) (l : fs.lookup m = none)
    (h : Q (.ref g, [.ref a]) s) : wpAny (model X.prog X.w) A (getMethod (.ref a) m pl) Q E s := by
  obtain ⟨mA, O, r, _, _, _⟩ := ins_get I.hok e
  have hn : mA m = none := RelO.none_of (by rw [← l]; exact r m)
  exact get_meth I.kIn O (c.get m) k.at_ k.fn hn h

theorem setattr_ok {y : V} {u : Value} {Q : Unit → Shared → Prop} (I : Inv X pins σ H s) (e : H a = some (.ins C dx fs)) (c : Cls X.K C) (n : NoAttr X.K C f) (hl : fs.length < 1000) (ry : RelV y u)
    (h : ∀ s', Inv X pins σ (upd H a (.ins C dx (putF f y fs))) s' → Q () s') : wpAny (model X.prog X.w) A (setAttr (.ref a) f u) Q E s := by
  obtain ⟨mA, O, r, wi, _, ho⟩ := ins_get I.hok e
  have hz : (fs.map (·.1)).length ≤ sizeLine := by rw [List.length_map, sizeLine_eq]; omega
  refine set_map I.kIn O c.sa c.po n.taker c.hd wi hz fun h' O' sb => h _ ?_
  have hd : ∃ o, h'.get? dx = some o := let ⟨o, _, _, e', _⟩ := O'.ns; ⟨o, e'⟩
  refine I.write (x := a) (e := dx) (by rw [e]; exact True.intro) (.inr ho) (fun b q hb z => (sb.2 b hb).trans z) hd ?_
  refine ⟨by rw [upd_ne O.ne]; exact ho, ?_, O.ne, O'.obj, _, O'.ns, fun g => ?_, fun g hg => ?_⟩
  · have := length_putF f y fs; omega
  · show RelO ((putF f y fs).lookup g) (if g = f then some u else mA g)
    rw [lookup_putF]
    by_cases q : g = f
    · rw [if_pos q, if_pos q]; exact ry
    · rw [if_neg q, if_neg q]; exact r g
  · by_cases q : g = f
    · rw [q]; exact (keys_putF f y fs).1
    · refine (keys_putF f y fs).2 g (wi g fun z => hg ?_)
      show (if g = f then some u else mA g) = none
      rw [if_neg q]; exact z

theorem Inv.made (I : Inv X pins σ H s) : Inv X pins σ (upd (upd H s.heap.objs.size (.own (s.heap.objs.size + 1))) (s.heap.objs.size + 1) (.ins C s.heap.objs.size []))
    { s with heap := (s.heap.push PySem.W.emptyDict).push (PySem.W.instObj C s.heap.objs.size) } := by
  have e1 : (s.heap.push PySem.W.emptyDict).get? s.heap.objs.size = some PySem.W.emptyDict := Heap.get?_push_size s.heap rfl
  have e2 : ((s.heap.push PySem.W.emptyDict).push (PySem.W.instObj C s.heap.objs.size)).get? (s.heap.objs.size + 1) = some (PySem.W.instObj C s.heap.objs.size) := by
    have := Heap.get?_push_size (s.heap.push PySem.W.emptyDict) (o := PySem.W.instObj C s.heap.objs.size) rfl
    rwa [Heap.size_push] at this
  have e3 : (s.heap.push PySem.W.emptyDict).Ns s.heap.objs.size (fun _ => none) := ⟨PySem.W.emptyDict, #[], _, e1, rfl, (fun e he => absurd he (by simp)), fun _ => rfl⟩
  have I1 := I.laid (a := s.heap.objs.size) (o := .own (s.heap.objs.size + 1)) (h' := s.heap.push PySem.W.emptyDict) (t' := s.toks) (fun b u q => Heap.get?_push_of_some _ q) (Nat.le_refl _) ⟨_, e1⟩
  refine I1.laid (a := s.heap.objs.size + 1) (o := .ins C s.heap.objs.size []) (t' := s.toks) (fun b u q => Heap.get?_push_of_some _ q) (Nat.le_of_eq (Heap.size_push _ _)) ?_
  have ne : s.heap.objs.size ≠ s.heap.objs.size + 1 := Nat.ne_of_lt (Nat.lt_succ_self _)
  refine ⟨by rw [upd_ne ne, upd_same], Nat.zero_le _, ne, e2, fun _ => none, (Heap.Ns1.of_empty e3).at fun o q => Heap.get?_push_of_some _ q, fun _ => True.intro, fun y hy => absurd rfl hy⟩

theorem attr_of {prog : Program} {w : World} {env : Env} {e : Expr} {f : Str} {pos : Pos} {s : Shared} {Q : Value → Shared → Prop} (hb : attributeBase e f env (eval e env) = eval e env)
    (h : wpAny (model prog w) A (eval e env) (fun o s₁ => wpAny (model prog w) A (getAttr o f true) Q E s₁) E s) : wpAny (model prog w) A (eval (.Attribute e f pos) env) Q E s :=
  Attribute_any_ h (by rw [arm_eval_Attribute, hb])
end

noncomputable def tFld (K : PySem.W.Frag) (ta : TE) (f : Str) : TE := fun σ H Q => ta σ H fun x H1 => ∃ a C dx fs v, x = .ref a ∧ H1 a = some (.ins C dx fs) ∧ Cls K C ∧ NoAttr K C f ∧ fs.lookup f = some v ∧ Q v H1
noncomputable def sFld (K : PySem.W.Frag) (ta tv : TE) (f : Str) : TS := fun D σ H => tv σ H fun y H1 => ta σ H1 fun x H2 => ∃ a C dx fs, x = .ref a ∧ H2 a = some (.ins C dx fs) ∧ Cls K C ∧ NoAttr K C f ∧ fs.length < 1000 ∧
  D.nx σ (upd H2 a (.ins C dx (putF f y fs)))
section
variable {X : Cx} {o e value : Expr} {f : Str} {pos pos' tpos : Pos} {ta tv : TE}
theorem pe_fld (he : PE X e ta) (hb : attributeBase e f X.env (eval e X.env) = eval e X.env) : PE X (.Attribute e f pos) (tFld X.K ta f) := by
  intro pins s σ H Q I h
  refine attr_of hb (thn (he pins s σ H _ I h) fun u s1 hz => ?_)
  obtain ⟨x, H1, I1, rx, a, C, dx, fs, v, ex, ea, c, n, l, q⟩ := hz
  subst ex
  obtain rfl : u = Value.ref a := rx
  exact getattr_ok I1 ea c n l fun u' s2 I2 ru => ⟨v, H1, I2, ru, q⟩
theorem ps_fld (ha : PE X o ta) (hv : PE X value tv) (hs : swapsWith value (some (.Attribute o f pos')) pos.line X.env = pure false) : PS X (.Assign [.Attribute o f pos'] value pos) (sFld X.K ta tv f) := by
  intro pins s σ H D I h
  refine plainObj_wpAny_Assign_Attribute (thn (hv pins s σ H _ I h) fun u s1 ⟨y, H1, I1, ry, q⟩ => thn (ha pins s1 σ H1 _ I1 q) fun ov s2 hz => ?_) hs
  obtain ⟨x, H2, I2, rx, a, C, dx, fs, ex, ea, c, n, l, q2⟩ := hz
  subst ex
  obtain rfl : ov = Value.ref a := rx
  exact setattr_ok I2 ea c n l ry fun s3 I3 => ⟨σ, _, I3, q2⟩
theorem methcall_of {pl : Sem Bool} {m : Str} {apos : Pos} {args : List Expr} {pins : List (Addr × Obj)} {s : Shared} {σ : St} {H : Hp} {Q : Value → Shared → Prop} {te : TE} (he : PE X e te) (I : Inv X pins σ H s)
    (h : te σ H fun x H1 => ∃ a C dx fs g, x = .ref a ∧ H1 a = some (.ins C dx fs) ∧ Cls X.K C ∧ Meth X.K C m g ∧ fs.lookup m = none ∧
      ∀ s1, Inv X pins σ H1 s1 → wpAny (model X.prog X.w) X.A (callWith pos (.ref g) [.ref a] (backTo pos (starEach args X.env)) (backToKw pos (keywordEach [] X.env))) Q X.xe s1)
    (ht : eval (.Call (.Attribute e m apos) args [] pos) X.env = (do
      let ov ← eval e X.env
      standAt apos.atName
      let (f, first) ← holding [ov] (getMethod ov m pl)
      callWith pos f first (backTo pos (starEach args X.env)) (backToKw pos (keywordEach [] X.env)))) :
    wpAny (model X.prog X.w) X.A (eval (.Call (.Attribute e m apos) args [] pos) X.env) Q X.xe s := by
  refine PySem.W.methodCall_KW (pl := pl) (thn (he pins s σ H _ I h) fun u s1 hz => ?_) ht
  obtain ⟨x, H1, I1, rx, a, C, dx, fs, g, ex, ea, c, k, l, q⟩ := hz
  subst ex
  obtain rfl : u = Value.ref a := rx
  exact getmeth_ok I1 ea c k l (q s1 I1)
end

section
variable {X : Cx} {pins : List (Addr × Obj)} {σ : St} {H : Hp} {s : Shared} {A : Around} {E : Value → Shared → Prop} {Q : Value → Shared → Prop} {c : Value} {b : Bool}
inductive TyOf (K : PySem.W.Frag) (H : Hp) : V → Value → Prop where
  | non : TyOf K H .non (.type "NoneType")
  | bl (x : Bool) : TyOf K H (.bl x) (.type "bool")
  | int (i : Int) : TyOf K H (.int i) (.type "int")
  | str (x : Str) : TyOf K H (.str x) (.type "str")
  | flt (x : UInt64) : TyOf K H (.flt x) (.type "float")
  | lst {a : Addr} {xs : List V} (e : H a = some (.lst xs)) : TyOf K H (.ref a) (.type "list")
  | frz {a : Addr} {o : Obj} {xs : List V} (e : H a = some (.frz o (.lst xs))) : TyOf K H (.ref a) (.type "list")
  | tup {a : Addr} {xs : List V} (e : H a = some (.tup xs)) : TyOf K H (.ref a) (.type "tuple")
  | dK {a : Addr} {kvs : List (Key × V)} (e : H a = some (.dK kvs)) : TyOf K H (.ref a) (.type "dict")
  | dT {a : Addr} {kvs : List (List Key × V)} (e : H a = some (.dT kvs)) : TyOf K H (.ref a) (.type "dict")
  | ins {a C dx : Addr} {fs : List (Str × V)} (e : H a = some (.ins C dx fs)) (cl : Cls K C) (ha : PySem.W.findIn K (.ref C) "__class__" = some (some (.builtin "object.__class__")))
      (hn : PySem.W.specialIn K (.builtin "object.__class__") "__get__" = some (some (.builtin "getset_descriptor.__get__"))) (htk : PySem.W.takesIn K (.builtin "object.__class__") = some true)
      (hm : PySem.W.mroIn K C (.type "object") = some true) : TyOf K H (.ref a) (.ref C)
theorem isinst_ok {x : V} {u t : Value} (I : Inv X pins σ H s) (rx : RelV x u) (ty : TyOf X.K H x t) (e : PySem.W.kitOne X.K t c = some b) (h : ∀ tk, Q (.bool b) { s with toks := tk }) :
    wpAny (model X.prog X.w) A (call (.builtin "isinstance") [u, c]) Q E s := by
  cases ty with
  | non => cases (show u = Value.none from rx); exact PySem.W.kia_one PySem.W.kitx_none I.kIn True.intro e (fun z => nomatch z) h
  | bl y => cases (show u = Value.bool y from rx); exact PySem.W.kia_one PySem.W.kitx_bool I.kIn True.intro e (fun z => nomatch z) h
  | int i => obtain ⟨t, q⟩ := (show ∃ t, u = Value.int i t from rx); cases q; exact PySem.W.kia_one PySem.W.kitx_int I.kIn True.intro e (fun z => nomatch z) h
  | str y => obtain ⟨t, q⟩ := (show ∃ t, u = Value.str y t from rx); cases q; exact PySem.W.kia_one PySem.W.kitx_str I.kIn True.intro e (fun z => nomatch z) h
  | flt y => obtain ⟨t, q⟩ := (show ∃ t, u = Value.float y t from rx); cases q; exact PySem.W.kia_one PySem.W.kitx_float I.kIn True.intro e (fun z => nomatch z) h
  | @lst a xs ea =>
    cases (show u = Value.ref a from rx)
    obtain ⟨_, _, n, _, h1⟩ := (show ObjOk X.prog X.w H s.heap a (.lst xs) from I.hok a _ ea)
    exact PySem.W.kia_one PySem.W.kitx_list I.kIn ⟨_, h1, rfl⟩ e (fun z => nomatch z) h
  | @frz a ob xs ea =>
    cases (show u = Value.ref a from rx)
    obtain ⟨_, _, _, n, _, h1⟩ := (show ObjOk X.prog X.w H s.heap a (.frz ob (.lst xs)) from I.hok a _ ea)
    exact PySem.W.kia_one PySem.W.kitx_list I.kIn ⟨_, h1, rfl⟩ e (fun z => nomatch z) h
  | @tup a xs ea =>
    cases (show u = Value.ref a from rx)
    obtain ⟨_, _, _, p⟩ := (show ObjOk X.prog X.w H s.heap a (.tup xs) from I.hok a _ ea)
    obtain ⟨o, h1, h2, _⟩ := p
    exact PySem.W.kia_one PySem.W.kitx_tuple I.kIn ⟨o, h1, h2⟩ e (fun z => nomatch z) h
  | @dK a kvs ea =>
    cases (show u = Value.ref a from rx)
    obtain ⟨_, _, vs, _, p⟩ := (show ObjOk X.prog X.w H s.heap a (.dK kvs) from I.hok a _ ea)
    obtain ⟨o, es, ep, h1, h2, _⟩ := p
    exact PySem.W.kia_one PySem.W.kitx_dict I.kIn ⟨o, h1, h2.1⟩ e (fun z => nomatch z) h
  | @dT a kvs ea =>
    cases (show u = Value.ref a from rx)
    obtain ⟨_, _, xs, _, o, es, ep, h1, h2, _⟩ := (show ObjOk X.prog X.w H s.heap a (.dT kvs) from I.hok a _ ea)
    exact PySem.W.kia_one PySem.W.kitx_dict I.kIn ⟨o, h1, h2.1⟩ e (fun z => nomatch z) h
  | @ins a C dx fs ea cl ha hn htk hm =>
    cases (show u = Value.ref a from rx)
    obtain ⟨mA, O, _⟩ := ins_get I.hok ea
    obtain ⟨od, J, _⟩ := O.look
    exact PySem.W.kia_one (PySem.W.kitx_own (cl.get _) cl.hd ha hn htk hm) I.kIn J e (fun z => nomatch z) h
end
end L2

namespace L2
open PySem PySem.Spec PyProof.Rows

structure Room (k : Nat) (A : Around) : Prop where
  hd : A.handled = none
  dp : A.depth + 3 * k + 5 < recursionLimit
  un : A.units + 16 * k + 200 < cLine
theorem Room.mono {j k : Nat} {A : Around} (r : Room k A) (h : j ≤ k) : Room j A := ⟨r.hd, by have := r.dp; omega, by have := r.un; omega⟩
theorem Room.deeper {k : Nat} {A : Around} (r : Room (k + 1) A) (env : Env) : Room k (A.deeper env) :=
  ⟨r.hd, by have := r.dp; show A.depth + 1 + 3 * k + 5 < _; omega, by have := r.un; show A.units + 3 + 16 * k + 200 < _; omega⟩
theorem make_depth {A : Around} {C : Addr} {us : List Value} {kw : List (Str × Value)} : (A.under (.builtin "type.__call__" ⟨.ref C :: us, kw⟩)).depth = A.depth + 1 := by
  first | rfl | simp [Around.under, Code.weight, Code.isCreation, Code.isGuard, Code.isCaller, Code.frames, Code.isFrame, guardIds]
theorem make_units {A : Around} {C : Addr} {us : List Value} {kw : List (Str × Value)} : (A.under (.builtin "type.__call__" ⟨.ref C :: us, kw⟩)).units = A.units + 1 := by
  first | rfl | simp [Around.under, Code.cUnits, Code.frames, Code.isFrame]
theorem Room.make {k : Nat} {A : Around} (r : Room (k + 1) A) (C : Addr) (us : List Value) (kw : List (Str × Value)) : Room k (A.under (.builtin "type.__call__" ⟨.ref C :: us, kw⟩)) :=
  ⟨r.hd, by have := r.dp; rw [make_depth]; omega, by have := r.un; rw [make_units]; omega⟩
theorem Room.depth {k : Nat} {A : Around} (r : Room k A) : A.depth < recursionLimit := by have := r.dp; omega
theorem Room.units {k : Nat} {A : Around} (r : Room k A) : A.units + 64 < cLine := by have := r.un; omega
theorem Room.units0 {k : Nat} {A : Around} (r : Room k A) : A.units < cLine := by have := r.un; omega

noncomputable def tNil : TA := fun _ H Q => Q [] H
noncomputable def tCons (ta : TE) (tr : TA) : TA := fun σ H Q => ta σ H fun x H1 => tr σ H1 fun xs H2 => Q (x :: xs) H2
section
variable {X : Cx} {e : Expr} {es : List Expr} {te : TE} {t : TA} {pos : Pos}
theorem pa_nil : PA X [] tNil := fun _ _ _ _ H Q I h => Calls.spliced_nil ⟨[], H, I, .nil, h⟩
theorem pa_cons (ha : PE X e te) (hr : PA X es t) (hs : starEach (e :: es) X.env = (false, eval e X.env) :: starEach es X.env := by rfl) : PA X (e :: es) (tCons te t) := by
  intro pos pins s σ H Q I h
  rw [hs]
  show wpAny _ _ (spliced ((false, eval e X.env) :: backTo pos (starEach es X.env))) _ _ s
  refine Calls.spliced_cons (thn (ha pins s σ H _ I h) fun u s1 hz => ?_)
  obtain ⟨x, H1, I1, r1, q1⟩ := hz
  exact thn (hr pos pins s1 σ H1 _ I1 q1) fun us s2 ⟨xs, H2, I2, r2, q2⟩ => ⟨x :: xs, H2, I2, .cons r1 r2, q2⟩

noncomputable def tTup (t : TA) : TE := fun σ H Q => t σ H fun xs H1 => xs.length ≤ sizeLine ∧ ∀ p, H1 p = none → Q (.ref p) (upd H1 p (.tup xs))
noncomputable def tLst (t : TA) : TE := fun σ H Q => t σ H fun xs H1 => xs.length ≤ sizeLine ∧ ∀ p, H1 p = none → Q (.ref p) (upd H1 p (.lst xs))
theorem pe_tup {x1} (h : PA X es t) : PE X (.Tuple es x1 pos) (tTup t) := by
  intro pins s σ H Q I hq
  refine wpAny_Tuple_spliced (thn (h pos pins s σ H _ I hq) fun us s1 ⟨xs, H1, I1, r, z, q⟩ => ⟨by rw [← r.length]; exact z, ?_⟩)
  have hf : H1 s1.heap.objs.size = none := I1.hok.fresh (Nat.le_refl _)
  refine ⟨.ref s1.heap.objs.size, upd H1 s1.heap.objs.size (.tup xs), I1.laid (t' := s1.toks) (fun b u e => Heap.get?_push_of_some _ e) (Nat.le_refl _) ?_, rfl, q _ hf⟩
  exact ⟨z, us, r, ⟨_, Heap.get?_push_size _ rfl, rfl, ⟨_, rfl⟩, rfl⟩⟩
theorem pe_lst (h : PA X es t) : PE X (.List es pos) (tLst t) := by
  intro pins s σ H Q I hq
  refine wpAny_List_spliced (thn (h pos pins s σ H _ I hq) fun us s1 ⟨xs, H1, I1, r, z, q⟩ => ⟨by rw [← r.length]; exact z, ?_⟩)
  have hf : H1 s1.heap.objs.size = none := I1.hok.fresh (Nat.le_refl _)
  refine ⟨.ref s1.heap.objs.size, upd H1 s1.heap.objs.size (.lst xs), I1.laid (t' := s1.toks) (fun b u e => Heap.get?_push_of_some _ e) (Nat.le_refl _) ?_, rfl, q _ hf⟩
  exact ⟨z, us, 0, r, Heap.get?_push_size _ rfl⟩
end

abbrev Sp := List V → Hp → VK → XK → Prop
abbrev CXT := List Env → Hp → Shared → XK → Value → Shared → Prop

structure Env0 (P : Program) (w : World) (K : PySem.W.Frag) (mg : Str → Option Value) (base : Heap) (A : Around) (outer : List Env) (s : Shared) (H : Hp) : Prop where
  frames : A.frames = some outer
  mod : Mod K mg base
  bs : ∀ b o, base.get? b = some o → s.heap.get? b = some o ∧ H b = none
  bsz : base.objs.size ≤ s.heap.objs.size
  funs : s.heap.FunFrames base outer
  frf : ∀ b ∈ frs outer, H b = none
  hok : HOk P w H s.heap
  bare : AllBare s.gens
noncomputable def CE (outer : List Env) (P : Program) (w : World) (H : Hp) (s : Shared) (Q : VK) (u : Value) (s' : Shared) : Prop :=
  ∃ v H', s'.os = s.os ∧ AllBare s'.gens ∧ Un (frs outer) [] H H' s.heap s'.heap ∧ HOk P w H' s'.heap ∧ RelV v u ∧ Q v H'
noncomputable def CR (CX : CXT) (outer : List Env) (P : Program) (w : World) (H : Hp) (s : Shared) (Q : VK) (E : XK) (r : Result) (s' : Shared) : Prop :=
  match r with
  | .ok (.ret u) => CE outer P w H s Q u s'
  | .ok _ => False
  | .error e => CX outer H s E e s'
structure FnOk (P : Program) (w : World) (K : PySem.W.Frag) (mg : Str → Option Value) (base : Heap) (CX : CXT) (k : Nat) (f : Addr) (fd : FuncData) (ps : List Str) (sp : Sp) : Prop where
  len : ∀ vs H Q E, sp vs H Q E → vs.length = ps.length
  run : ∀ (A : Around) (outer : List Env) (s : Shared) (H : Hp) (args : Args) (us : List Value) (vs : List V) (Q : VK) (E : XK), Room k A → Env0 P w K mg base A outer s H → BindsTo s fd args (ps.zip us) → Vals vs us → sp vs H Q E →
    codeAny (model P w) A (.call (.ref f) args) (CR CX outer P w H s Q E) s
theorem FnOk.mono {P : Program} {w : World} {K : PySem.W.Frag} {mg : Str → Option Value} {base : Heap} {CX : CXT} {j k : Nat} {f : Addr} {fd : FuncData} {ps : List Str} {sp : Sp} (F : FnOk P w K mg base CX j f fd ps sp) (h : j ≤ k) :
    FnOk P w K mg base CX k f fd ps sp := ⟨F.len, fun A outer s H args us vs Q E hr => F.run A outer s H args us vs Q E (hr.mono h)⟩
theorem Env0.make {P : Program} {w : World} {K : PySem.W.Frag} {mg : Str → Option Value} {base : Heap} {A : Around} {outer : List Env} {s : Shared} {H : Hp} (e : Env0 P w K mg base A outer s H) (C : Addr) (us : List Value) (kw : List (Str × Value)) :
    Env0 P w K mg base (A.under (.builtin "type.__call__" ⟨.ref C :: us, kw⟩)) outer s H := ⟨by first | exact e.frames | (simpa [Around.under, Code.envs, Code.isFrame, pushEnvs] using e.frames), e.mod, e.bs, e.bsz, e.funs, e.frf, e.hok, e.bare⟩
section
variable {X : Cx} {pins : List (Addr × Obj)} {σ : St} {H : Hp} {s s' : Shared}
theorem Inv.env0 (I : Inv X pins σ H s) : Env0 X.prog X.w X.K X.mg X.base X.A X.stack s H :=
  ⟨I.ok.frames, I.ok.mod, I.bs, Nat.le_trans I.ok.bsz I.sz, I.stack, I.stkFree, I.hok, I.bare⟩
theorem Inv.after {Q : VK} {u : Value} (I : Inv X pins σ H s) (h : CE X.stack X.prog X.w H s Q u s') : EP X pins σ Q u s' := by
  obtain ⟨v, H', os, bare, un, hok, r, q⟩ := h
  obtain ⟨hh, g, d, t, os'⟩ := s'
  obtain rfl : os' = s.os := os
  exact ⟨v, H', I.call (h' := hh) (g' := g) (d' := d) (t' := t) (ch := []) un hok bare (fun b z => absurd z (by simp)), r, q⟩
end

noncomputable def tCall (sp : Sp) (dvs : List V) (E : XK) (t : TA) : TE := fun σ H Q => t σ H fun vs H1 => sp (vs ++ dvs) H1 Q E
noncomputable def tMeth (C : Addr) (m : Str) (sp : Sp) (dvs : List V) (E : XK) (ta : TE) (t : TA) : TE := fun σ H Q => ta σ H fun x H1 => ∃ a dx fs, x = .ref a ∧ H1 a = some (.ins C dx fs) ∧ fs.lookup m = none ∧
  t σ H1 fun vs H2 => sp (x :: (vs ++ dvs)) H2 Q E
noncomputable def tMake (C : Addr) (sp : Sp) (dvs : List V) (E : XK) (t : TA) : TE := fun σ H Q => t σ H fun vs H1 => ∀ x dx, H1 x = none → H1 dx = none → dx ≠ x →
  sp (.ref x :: (vs ++ dvs)) (upd (upd H1 dx (.own x)) x (.ins C dx [])) (fun v H2 => v = .non ∧ Q (.ref x) H2) E

noncomputable def Binds (K : PySem.W.Frag) (fd : FuncData) (ps : List Str) (ds : List Value) : Prop :=
  ∀ (s : Shared) (us : List Value), K.In s.heap → (us ++ ds).length = ps.length → BindsTo s fd ⟨us, []⟩ (ps.zip (us ++ ds))
theorem Binds.all {K : PySem.W.Frag} {fd : FuncData} {ps : List Str} (h : ∀ us : List Value, us.length = ps.length → bindArgs fd ⟨us, []⟩ = pure (ps.zip us)) : Binds K fd ps [] := fun s us _ hl => by
  rw [List.append_nil] at hl ⊢
  exact .of_eq (h us hl)

noncomputable def Passes (CX : CXT) (X : Cx) (E : XK) : Prop := ∀ (pins : List (Addr × Obj)) (σ : St) (H : Hp) (s : Shared) (e : Value) (s' : Shared), Inv X pins σ H s → CX X.stack H s E e s' → X.xe e s'

section
variable {X : Cx} {CX : CXT} {k : Nat} {f C : Addr} {fd : FuncData} {ps : List Str} {sp : Sp} {dvs : List V} {ds : List Value} {E : XK} {x m : Str} {p pos apos : Pos} {e o : Expr} {es : List Expr} {ta : TE} {t : TA}

theorem run_fn {pins : List (Addr × Obj)} {σ : St} {H : Hp} {s : Shared} {Q : VK} {us : List Value} {vs : List V} (F : FnOk X.prog X.w X.K X.mg X.base CX k f fd ps sp) (hr : Room k X.A) (hb : Binds X.K fd ps ds) (hd : Vals dvs ds) (hx : Passes CX X E)
    (I : Inv X pins σ H s) (r : Vals vs us) (h : sp (vs ++ dvs) H Q E) : wpAny (model X.prog X.w) X.A (call (.ref f) us) (EP X pins σ Q) X.xe s := by
  have r2 : Vals (vs ++ dvs) (us ++ ds) := r.append hd
  have hl : (us ++ ds).length = ps.length := by rw [← r2.length]; exact F.len _ _ _ _ h
  refine wpAny_call (codeAny_mono (F.run X.A X.stack s H ⟨us, []⟩ (us ++ ds) (vs ++ dvs) Q E hr I.env0 (hb s us I.kIn hl) r2 h) fun r s' hq => ?_)
  cases r with
  | error e => exact hx pins σ H s e s' I hq
  | ok fl =>
    cases fl with
    | ret u => exact I.after hq
    | next => exact False.elim hq
    | brk => exact False.elim hq
    | cont => exact False.elim hq

theorem pe_call (F : FnOk X.prog X.w X.K X.mg X.base CX k f fd ps sp) (hr : Room k X.A) (hg : Gl X x) (hm : X.mg x = some (.ref f)) (hk : PySem.W.keepIn X.K (.ref f) = true) (hb : Binds X.K fd ps ds) (hd : Vals dvs ds) (hx : Passes CX X E)
    (ha : PA X (e :: es) t) (hdb : (x == ("__debug__" : Str)) = false := by decide) (he : starEach (e :: es) X.env = (false, eval e X.env) :: starEach es X.env := by rfl) (hpl : (backTo pos (starEach es X.env)).any (·.1) = false := by rfl) :
    PE X (.Call (.Name x p) (e :: es) [] pos) (tCall sp dvs E t) := by
  intro pins s σ H Q I h
  refine wpAny_Call_Name_kw (ld_glob I hg hm ?_ hdb)
  refine PySem.W.callWith_K (h₀ := X.base) I.ok.mod.kin hk (thn (ha pos pins s σ H _ I h) fun us s1 ⟨vs, H1, I1, r, q⟩ => ⟨I1.kIn, ?_⟩) he hpl
  exact run_fn F hr hb hd hx I1 r q
theorem pe_meth {pl : Sem Bool} (he : PE X o ta) (c : Cls X.K C) (hm : Meth X.K C m f) (F : FnOk X.prog X.w X.K X.mg X.base CX k f fd ps sp) (hr : Room k X.A) (hb : Binds X.K fd ps ds) (hd : Vals dvs ds) (hx : Passes CX X E) (ha : PA X (e :: es) t)
    (hst : starEach (e :: es) X.env = (false, eval e X.env) :: starEach es X.env := by rfl) (hpl : (backTo pos (starEach es X.env)).any (·.1) = false := by rfl)
    (ht : eval (.Call (.Attribute o m apos) (e :: es) [] pos) X.env = (do
      let ov ← eval o X.env
      standAt apos.atName
      let (f, first) ← holding [ov] (getMethod ov m pl)
      callWith pos f first (backTo pos (starEach (e :: es) X.env)) (backToKw pos (keywordEach [] X.env))) := by rfl) :
    PE X (.Call (.Attribute o m apos) (e :: es) [] pos) (tMeth C m sp dvs E ta t) := by
  intro pins s σ H Q I h
  refine PySem.W.methodCall_KW (pl := pl) (thn (he pins s σ H _ I h) fun u s1 hz => ?_) ht
  obtain ⟨x, H1, I1, rx, a, dx, fs, ex, ea, l, q⟩ := hz
  subst ex
  obtain rfl : u = Value.ref a := rx
  refine getmeth_ok I1 ea c hm l ?_
  refine PySem.W.callWith_K (first := [.ref a]) (h₀ := X.base) I.ok.mod.kin hm.kp (thn (ha pos pins s1 σ H1 _ I1 q) fun us s2 ⟨vs, H2, I2, r, q2⟩ => ⟨I2.kIn, ?_⟩) hst hpl
  exact run_fn (us := .ref a :: us) (vs := .ref a :: vs) F hr hb hd hx I2 (.cons rfl r) q2
theorem pe_meth0 {pl : Sem Bool} (he : PE X o ta) (c : Cls X.K C) (hm : Meth X.K C m f) (F : FnOk X.prog X.w X.K X.mg X.base CX k f fd ps sp) (hr : Room k X.A) (hb : Binds X.K fd ps ds) (hd : Vals dvs ds) (hx : Passes CX X E)
    (ht : eval (.Call (.Attribute o m apos) [] [] pos) X.env = (do
      let ov ← eval o X.env
      standAt apos.atName
      let (f, first) ← holding [ov] (getMethod ov m pl)
      callWith pos f first (backTo pos (starEach [] X.env)) (backToKw pos (keywordEach [] X.env))) := by rfl) :
    PE X (.Call (.Attribute o m apos) [] [] pos) (tMeth C m sp dvs E ta tNil) := by
  intro pins s σ H Q I h
  refine PySem.W.methodCall_KW (pl := pl) (thn (he pins s σ H _ I h) fun u s1 hz => ?_) ht
  obtain ⟨x, H1, I1, rx, a, dx, fs, ex, ea, l, q⟩ := hz
  subst ex
  obtain rfl : u = Value.ref a := rx
  refine getmeth_ok I1 ea c hm l ?_
  exact PySem.W.callWith_K0 (first := [.ref a]) I1.kIn hm.kp (run_fn (us := [.ref a]) (vs := [.ref a]) F hr hb hd hx I1 (.cons rfl .nil) q)

structure Mk (K : PySem.W.Frag) (C f : Addr) : Prop where
  makes : PySem.W.makesIn K C = true
  init : PySem.W.findIn K (.ref C) "__init__" = some (some (.ref f))
  fn : PySem.W.isFn K (.ref f) = true
  kp : PySem.W.keepIn K (.ref C) = true

theorem run_make {pins : List (Addr × Obj)} {σ : St} {H : Hp} {s : Shared} {Q : VK} {us : List Value} {vs : List V} (M : Mk X.K C f) (F : FnOk X.prog X.w X.K X.mg X.base CX k f fd ps sp) (hr : Room (k + 1) X.A) (hb : Binds X.K fd ps ds) (hd : Vals dvs ds)
    (hx : Passes CX X E) (I : Inv X pins σ H s) (r : Vals vs us)
    (h : ∀ x dx, H x = none → H dx = none → dx ≠ x → sp (.ref x :: (vs ++ dvs)) (upd (upd H dx (.own x)) x (.ins C dx [])) (fun v H2 => v = .non ∧ Q (.ref x) H2) E) :
    wpAny (model X.prog X.w) X.A (call (.ref C) us) (EP X pins σ Q) X.xe s := by
  have hq := h (s.heap.objs.size + 1) s.heap.objs.size (I.hok.fresh (Nat.le_succ _)) (I.hok.fresh (Nat.le_refl _)) (Nat.ne_of_lt (Nat.lt_succ_self _))
  have I2 := Inv.made (C := C) I
  have r2 : Vals (V.ref (s.heap.objs.size + 1) :: (vs ++ dvs)) (Value.ref (s.heap.objs.size + 1) :: (us ++ ds)) := .cons rfl (r.append hd)
  have hl : (Value.ref (s.heap.objs.size + 1) :: us ++ ds).length = ps.length := by
    have e := r2.length
    rw [F.len _ _ _ _ hq] at e
    exact e.symm
  refine wpAny_call (make_map (f := f) I.kIn M.makes M.init (beq_iff_eq.mp M.fn) (codeAny_mono (F.run _ X.stack _ _ ⟨Value.ref (s.heap.objs.size + 1) :: us, []⟩ (Value.ref (s.heap.objs.size + 1) :: (us ++ ds)) _ _ E (hr.make C us [])
    (I2.env0.make C us []) (hb _ (Value.ref (s.heap.objs.size + 1) :: us) I2.kIn hl) r2 hq) fun r s' hq' => ?_))
  cases r with
  | error e => exact hx pins σ _ _ e s' I2 hq'
  | ok fl =>
    cases fl with
    | ret u =>
      obtain ⟨v, H', I3, rv, ev, q3⟩ := I2.after hq'
      subst ev
      exact ⟨rv, ⟨V.ref (s.heap.objs.size + 1), H', I3, rfl, q3⟩⟩
    | next => exact False.elim hq'
    | brk => exact False.elim hq'
    | cont => exact False.elim hq'
theorem pe_make (M : Mk X.K C f) (F : FnOk X.prog X.w X.K X.mg X.base CX k f fd ps sp) (hr : Room (k + 1) X.A) (hg : Gl X x) (hm : X.mg x = some (.ref C)) (hb : Binds X.K fd ps ds) (hd : Vals dvs ds) (hx : Passes CX X E)
    (ha : PA X (e :: es) t) (hdb : (x == ("__debug__" : Str)) = false := by decide) (he : starEach (e :: es) X.env = (false, eval e X.env) :: starEach es X.env := by rfl) (hpl : (backTo pos (starEach es X.env)).any (·.1) = false := by rfl) :
    PE X (.Call (.Name x p) (e :: es) [] pos) (tMake C sp dvs E t) := by
  intro pins s σ H Q I h
  refine wpAny_Call_Name_kw (ld_glob I hg hm ?_ hdb)
  refine PySem.W.callWith_K (h₀ := X.base) I.ok.mod.kin M.kp (thn (ha pos pins s σ H _ I h) fun us s1 ⟨vs, H1, I1, r, q⟩ => ⟨I1.kIn, ?_⟩) he hpl
  exact run_make M F hr hb hd hx I1 r q
end

noncomputable def PK (X : Cx) (kws : List Keyword) (t : TA) : Prop :=
  ∀ (pos : Pos) (pins : List (Addr × Obj)) (s : Shared) (σ : St) (H : Hp) (Q : List V → Hp → Prop), Inv X pins σ H s → t σ H Q → wpAny (model X.prog X.w) X.A (evalAll ((backToKw pos (keywordEach kws X.env)).map (·.2))) (AP X pins σ Q) X.xe s
section
variable {X : Cx} {CX : CXT} {k : Nat} {f C : Addr} {fd : FuncData} {ps ks : List Str} {sp : Sp} {E : XK} {x m : Str} {p pos apos kpos : Pos} {e o : Expr} {es : List Expr} {kws : List Keyword} {te ta : TE} {t tk : TA} {nm : Option Str}
theorem pk_nil : PK X [] tNil := fun _ _ _ _ H Q I h => wpAny_evalAll_nil ⟨[], H, I, .nil, h⟩
theorem pk_cons (ha : PE X e te) (hr : PK X kws t) : PK X (⟨nm, e, kpos⟩ :: kws) (tCons te t) := by
  intro pos pins s σ H Q I h
  show wpAny _ _ (evalAll ((do let v ← eval e X.env; standAt pos; pure v) :: (backToKw pos (keywordEach kws X.env)).map (·.2))) _ _ s
  refine wpAny_evalAll_cons (wpAny_bind (thn (ha pins s σ H _ I h) fun u s1 ⟨x, H1, I1, r1, q1⟩ => wpAny_bind (wpAny_standAt (wpAny_pure ?_))))
  exact thn (hr pos pins s1 σ H1 _ I1 q1) fun us s2 ⟨xs, H2, I2, r2, q2⟩ => ⟨x :: xs, H2, I2, .cons r1 r2, q2⟩

variable {g : List Value → List Value → List Value} {gV : List V → List V → List V}
end

structure FnScope (N P : List Str) (sc : Scope) : Prop where
  kind : sc.kind = .function
  co : sc.isCoroutine = false
  gen : sc.isGenerator = false
  nd : N.Nodup
  pre : N.take P.length = P
  par : ∀ x ∈ P, sc.names.lookup x = some .local ∨ sc.names.lookup x = some .cell
  nofree : ∀ y ∈ sc.names, y.2 ≠ .free

theorem bindL_out {kindOf : Str → Option NameKind} {x : Str} : ∀ {binds : List (Str × Value)} {m : Str → Option Value}, (∀ v, (x, v) ∉ binds) → bindL kindOf binds m x = m x
  | [], _, _ => rfl
  | (n, v) :: r, m, h => by
    unfold bindL
    rw [bindL_out fun w hw => h w (List.mem_cons_of_mem _ hw)]
    split
    · have : x ≠ n := by rintro rfl; exact h v List.mem_cons_self
      simp [this]
    · rfl
theorem bindC_out {kindOf : Str → Option NameKind} {x : Str} : ∀ {binds : List (Str × Value)} {m : Str → Option Value}, (∀ v, (x, v) ∉ binds) → bindC kindOf binds m x = m x
  | [], _, _ => rfl
  | (n, v) :: r, m, h => by
    unfold bindC
    rw [bindC_out fun w hw => h w (List.mem_cons_of_mem _ hw)]
    split
    · rfl
    · have : x ≠ n := by rintro rfl; exact h v List.mem_cons_self
      simp [this]
theorem bindL_get {kindOf : Str → Option NameKind} {x : Str} {v : Value} : ∀ {P : List Str} {vs : List Value} {i : Nat} {m : Str → Option Value}, P.Nodup → P[i]? = some x → vs[i]? = some v → kindOf x = some .local →
    bindL kindOf (P.zip vs) m x = some v
  | [], _, _, _, _, h, _, _ => by simp at h
  | _ :: _, [], _, _, _, _, h, _ => by simp at h
  | p :: P, w :: vs, 0, m, nd, h1, h2, hk => by
    simp at h1 h2; subst h1; subst h2
    show bindL kindOf ((p, w) :: P.zip vs) m p = _
    unfold bindL
    rw [bindL_out fun v hv => (List.nodup_cons.mp nd).1 (List.of_mem_zip hv).1, if_pos hk]
    simp
  | p :: P, w :: vs, i + 1, m, nd, h1, h2, hk => by
    show bindL kindOf ((p, w) :: P.zip vs) m x = _
    unfold bindL
    exact bindL_get (i := i) (List.nodup_cons.mp nd).2 (by simpa using h1) (by simpa using h2) hk
theorem bindC_get {kindOf : Str → Option NameKind} {x : Str} {v : Value} : ∀ {P : List Str} {vs : List Value} {i : Nat} {m : Str → Option Value}, P.Nodup → P[i]? = some x → vs[i]? = some v → kindOf x ≠ some .local →
    bindC kindOf (P.zip vs) m x = some v
  | [], _, _, _, _, h, _, _ => by simp at h
  | _ :: _, [], _, _, _, _, h, _ => by simp at h
  | p :: P, w :: vs, 0, m, nd, h1, h2, hk => by
    simp at h1 h2; subst h1; subst h2
    show bindC kindOf ((p, w) :: P.zip vs) m p = _
    unfold bindC
    rw [bindC_out fun v hv => (List.nodup_cons.mp nd).1 (List.of_mem_zip hv).1, if_neg hk]
    simp
  | p :: P, w :: vs, i + 1, m, nd, h1, h2, hk => by
    show bindC kindOf ((p, w) :: P.zip vs) m x = _
    unfold bindC
    exact bindC_get (i := i) (List.nodup_cons.mp nd).2 (by simpa using h1) (by simpa using h2) hk

noncomputable def start (N : List Str) (vs : List V) : St := vs.map some ++ List.replicate (N.length - vs.length) none

noncomputable def cxOf (CX : CXT) (P : Program) (w : World) (K : PySem.W.Frag) (mg : Str → Option Value) (base : Heap) (N : List Str) (qual : Str) (scope : Scope) (f : Addr) (cd : Value) (A : Around) (outer : List Env) (s : Shared) (H : Hp) (E : XK) : Cx where
  prog := P
  w := w
  K := K
  mg := mg
  base := base
  A := A.deeper (envOfC qual scope s.heap.objs.size f cd)
  N := N
  s₀ := s
  H₀ := H
  env := envOfC qual scope s.heap.objs.size f cd
  outer := outer
  stack := envOfC qual scope s.heap.objs.size f cd :: outer
  ex := []
  calm := true
  fn := fun _ => true
  pn := []
  xe := fun e s' => wpAny (model P w) (A.deeper (envOfC qual scope s.heap.objs.size f cd)) (leaving (envOfC qual scope s.heap.objs.size f cd) e) (fun _ s'' => CX outer H s E e s'') (fun e' s'' => CX outer H s E e' s'') s'

theorem cell_has {sc : Scope} {n : Nat} {x : Str} (h : sc.names.lookup x = some .cell) : ∃ c, (cellsFrom n sc.names []).lookup x = some c := by
  have q := PySem.W.cellsFrom_some sc.names n [] (.inl h)
  exact Option.isSome_iff_exists.mp q

theorem inv_start {CX : CXT} {P : Program} {w : World} {K : PySem.W.Frag} {mg : Str → Option Value} {base : Heap} {N ps : List Str} {qual : Str} {scope : Scope} {f : Addr} {cd : Value} {A : Around} {outer : List Env} {s s1 : Shared} {H : Hp} {E : XK} {us : List Value} {vs : List V}
    (S : FnScope N ps scope) (hd : A.handled = none) (e0 : Env0 P w K mg base A outer s H) (hl : vs.length = ps.length) (r : Vals vs us)
    (x : InCallC s s.heap.objs.size (bindL (envOfC qual scope s.heap.objs.size f cd).kindOf (ps.zip us) fun _ => none) (cellsFrom (s.heap.objs.size + 1) scope.names []) (bindC (envOfC qual scope s.heap.objs.size f cd).kindOf (ps.zip us) fun _ => none) s1) :
    Inv (cxOf CX P w K mg base N qual scope f cd A outer s H E) [] (start N vs) H s1 := by
  have hpl : ps.length ≤ N.length := by have := congrArg List.length S.pre; rw [List.length_take] at this; omega
  obtain ⟨h1, tk, rfl, hk⟩ := x.done
  have noA : ∀ b : Addr, b ∉ (cxOf CX P w K mg base N qual scope f cd A outer s H E).ex := fun b z => absurd (show b ∈ ([] : List Addr) from z) (by simp)
  refine ⟨⟨e0.mod, S.kind, rfl, rfl, Nat.le_refl _, fun y z c h1 h2 => ?_, fun y hy => ?_, fun y c _ h => ?_, fun _ => hd, Around.frames_deeper e0.frames, .inr ⟨rfl, rfl⟩, fun b z => absurd z (noA b), e0.bs, e0.bsz, fun b _ _ => noA b, fun b z => absurd z (noA b), e0.funs, e0.frf⟩,
    rfl, e0.bare, Un.kept hk, ⟨_, x.toInCall.ns, fun i y v h1 h2 h3 => ?_⟩, fun y c h => ⟨_, x.cell y c h⟩, e0.hok.fresh (Nat.le_refl _), fun y c h => ?_, fun p hp => absurd (show p ∈ ([] : List (Addr × Obj)) from hp) (by simp), e0.hok.kept hk, ?_⟩
  · exact name_of_addr x.apart (PySem.mem_of_lookup h1) (PySem.mem_of_lookup h2)
  · have hy : scope.names.lookup y = some .cell ∨ scope.names.lookup y = some .free := hy
    rcases hy with hy | hy
    · exact cell_has hy
    · exact absurd rfl (S.nofree _ (PySem.mem_of_lookup hy))
  · exact Nat.le_of_lt (x.above y c (PySem.mem_of_lookup h))
  · have hi : i < vs.length := by
      unfold start at h2
      by_cases hi : i < vs.length
      · exact hi
      · rw [List.getElem?_append_right (by simpa using hi)] at h2
        rw [List.getElem?_replicate] at h2
        split at h2 <;> cases h2
    have ha : vs[i]? = some v := by
      unfold start at h2
      rw [List.getElem?_append_left (by simpa using hi), List.getElem?_map] at h2
      cases e : vs[i]? with
      | none => rw [e] at h2; cases h2
      | some a => rw [e] at h2; cases h2; rfl
    obtain ⟨u, hu, rv⟩ := r.get ha
    have hp : ps[i]? = some y := by
      rw [← S.pre, List.getElem?_take_of_lt (by omega)]; exact h1
    have ndP : ps.Nodup := by rw [← S.pre]; exact S.nd.sublist (List.take_sublist _ _)
    refine ⟨u, rv, ?_⟩
    rcases S.par y (List.mem_of_getElem? hp) with k | k
    · exact .inl ⟨k, bindL_get ndP hp hu k⟩
    · obtain ⟨c, e⟩ := cell_has (n := s.heap.objs.size + 1) k
      refine .inr ⟨.inl k, c, e, ?_⟩
      have q := x.cell y c e
      rw [bindC_get ndP hp hu (by show scope.names.lookup y ≠ _; rw [k]; decide)] at q
      exact q
  · exact e0.hok.fresh (Nat.le_of_lt (x.above y c (PySem.mem_of_lookup h)))
  · unfold start
    show _ = N.length
    rw [List.length_append, List.length_map, List.length_replicate]
    omega

theorem fn_of {CX : CXT} {P : Program} {w : World} {K : PySem.W.Frag} {mg : Str → Option Value} {base : Heap} {k : Nat} {f : Addr} {name qual : Str} {params : Arguments} {body : List Stmt} {scope : Scope} {dV kV doc pm cdv ct oc : Value} {an od : Option Addr}
    {osl : Array (Option Value)} {N ps : List Str} {sp : Sp} (lk : K.lookup f = some ⟨oc, od, .func (PySem.W.fnOf name qual params body scope dV kV doc pm an cdv ct), osl⟩) (hcd : PySem.W.codeIn K cdv qual = true) (S : FnScope N ps scope)
    (len : ∀ vs H Q E, sp vs H Q E → vs.length = ps.length)
    (hbody : ∀ (A : Around) (outer : List Env) (s : Shared) (H : Hp) (vs : List V) (Q : VK) (E : XK), Room k (A.deeper (envOfC qual scope s.heap.objs.size f cdv)) → sp vs H Q E →
      ∃ t, PSs (cxOf CX P w K mg base N qual scope f cdv A outer s H E) body t ∧ t { nx := fun _ H' => Q .non H', rt := Q } (start N vs) H) :
    FnOk P w K mg base CX (k + 1) f (PySem.W.fnOf name qual params body scope dV kV doc pm an cdv ct) ps sp := by
  refine ⟨len, fun A outer s H args us vs Q E hr e0 hb r hsp => ?_⟩
  have hl := len _ _ _ _ hsp
  have KX : K.In s.heap := e0.mod.kin.keeps fun b o e => (e0.bs b o e).1
  have lim : s.heap.NoLimit := e0.mod.nolimit.keeps fun b o e => (e0.bs b o e).1
  have hkind : ∀ y ∈ ps.zip us, scope.names.lookup y.1 = some .local ∨ (scope.names.lookup y.1 = some .cell ∧ ((cellsFrom (s.heap.objs.size + 1) scope.names []).lookup y.1).isSome = true) := fun ⟨n, v⟩ hy => by
    rcases S.par n (List.of_mem_zip hy).1 with q | q
    · exact .inl q
    · exact .inr ⟨q, PySem.W.cellsFrom_some _ _ _ (.inl q)⟩
  refine codeAny_call_function hr.depth (KX _ _ lk) rfl S.co S.gen rfl (PySem.W.codeRec_of KX hcd) (hb _ _ _ _ ?_)
  refine wpAny_newFunctionEnv_cells S.kind hkind fun env he s1 x => ?_
  subst he
  refine ⟨lim.keeps x.toInCall.keep, codeAny_func ?_⟩
  obtain ⟨t, ht, hq⟩ := hbody A outer s H vs Q E (hr.deeper _) hsp
  have I : Inv (cxOf CX P w K mg base N qual scope f cdv A outer s H E) [] (start N vs) H s1 := inv_start S hr.hd e0 hl r x
  refine wpAny_mono (ht [] s1 (start N vs) H _ I hq) (fun fl s' hs => ?_) fun e s' hs => hs
  have fin : ∀ {σ' : St} {H' : Hp} {v : V} {u : Value}, Inv (cxOf CX P w K mg base N qual scope f cdv A outer s H E) [] σ' H' s' → RelV v u → Q v H' → CE outer P w H s Q u s' :=
    fun {σ' H' v u} J rv q => ⟨v, H', J.os, J.bare, J.base, J.hok, rv, q⟩
  cases fl with
  | ret u =>
    obtain ⟨v, σ', H', J, rv, q⟩ := hs
    exact fin J rv q
  | next =>
    obtain ⟨σ', H', J, q⟩ := hs
    exact fin (v := V.non) (u := Value.none) J rfl q
  | brk =>
    obtain ⟨_, _, _, q⟩ := hs
    exact False.elim q
  | cont =>
    obtain ⟨_, _, _, q⟩ := hs
    exact False.elim q
end L2

namespace L2
open PySem PySem.Spec PyProof.Rows
section
variable {X : Cx} {x : Str} {p pos : Pos} {e : Expr} {es : List Expr} {t : TA} {id T : String} {r : List V → Hp → VK → Prop}

noncomputable def tCB (r : List V → Hp → VK → Prop) (t : TA) : TE := fun σ H Q => t σ H fun vs H1 => r vs H1 Q
theorem pe_callB (hc : CallR X (.builtin id) r) (hg : Gl X x) (hm : X.mg x = none) (hv : bootBuiltins x = some (.builtin id)) (ha : PA X (e :: es) t) (hn : x ≠ "__name__" := by decide) (hdb : (x == ("__debug__" : Str)) = false := by decide)
    (he : starEach (e :: es) X.env = (false, eval e X.env) :: starEach es X.env := by rfl) (hpl : (backTo pos (starEach es X.env)).any (·.1) = false := by rfl) : PE X (.Call (.Name x p) (e :: es) [] pos) (tCB r t) := by
  intro pins s σ H Q I h
  refine wpAny_Call_Name_kw (ld_blt I hg hm hv ?_ hn hdb)
  exact PyProof.Rows.callWith_builtin1 (thn (ha pos pins s σ H _ I h) fun us s1 ⟨vs, H1, I1, r1, q1⟩ => hc pins s1 σ H1 vs us Q I1 r1 q1) he hpl
theorem pe_callTy (hc : CallR X (.type T) r) (hg : Gl X x) (hm : X.mg x = none) (hv : bootBuiltins x = some (.type T)) (ha : PA X (e :: es) t) (hn : x ≠ "__name__" := by decide) (hdb : (x == ("__debug__" : Str)) = false := by decide)
    (he : starEach (e :: es) X.env = (false, eval e X.env) :: starEach es X.env := by rfl) (hpl : (backTo pos (starEach es X.env)).any (·.1) = false := by rfl) : PE X (.Call (.Name x p) (e :: es) [] pos) (tCB r t) := by
  intro pins s σ H Q I h
  refine wpAny_Call_Name_kw (ld_blt I hg hm hv ?_ hn hdb)
  exact PyProof.Rows.callWith_type1 (thn (ha pos pins s σ H _ I h) fun us s1 ⟨vs, H1, I1, r1, q1⟩ => hc pins s1 σ H1 vs us Q I1 r1 q1) he hpl
end
end L2

namespace HT
open PySem PyProof.Rows

section
open PySem.SeqAt
open PySem.AutoSeq1 (wpAny_loadPart')
open PySem.MeetsSeq PySem.MeetsSeq2 PySem.MeetsSeq3

end

section
variable {prog : Program} {w : World} {A : Around} {E : Value → Shared → Prop} {s : Shared}

theorem cat_tup {t b : Addr} {vs ws : List Value} {Q : Value → Shared → Prop} (ht : IsTup s.heap t vs.toArray) (hb : IsTup s.heap b ws.toArray) (hv : vs ≠ [])
    (h1 : ws = [] → Q (.ref t) s) (h2 : ws ≠ [] → Q (.ref s.heap.objs.size) { s with heap := s.heap.push { cls := .type "tuple", data := .seq (vs ++ ws).toArray } })
    (hsz : vs.length + ws.length ≤ sizeLine) : wpAny (model prog w) A (binaryOp .Add (.ref t) (.ref b)) Q E s := by
  obtain ⟨⟨cls, dd, data, sl⟩, ho, hc, n, hd⟩ := id ht
  obtain ⟨⟨cls2, dd2, data2, sl2⟩, ho2, hc2, n2, hd2⟩ := id hb
  simp only at hc hd hc2 hd2
  subst hc hd hc2 hd2
  have e : vs.toArray ++ ws.toArray = (vs ++ ws).toArray := by simp
  by_cases hw : ws = []
  · exact concat_meets ⟨_, ho, rfl⟩ ⟨_, ho2, rfl⟩ noFill_tuple_add seq_tuple_add PySem.F.slot_tuple_add PySem.F.entry_tuple_add (PySem.F.args_tuple_add_2 _ _)
      (tuple_addW1 t b vs.toArray ws.toArray n n2 dd dd2 sl sl2 (by simpa using hv) (by simp [hw])) ⟨ho, ho2, h1 hw⟩
  · refine concat_meets ⟨_, ho, rfl⟩ ⟨_, ho2, rfl⟩ noFill_tuple_add seq_tuple_add PySem.F.slot_tuple_add PySem.F.entry_tuple_add (PySem.F.args_tuple_add_2 _ _)
      (tuple_addW2 t b vs.toArray ws.toArray n n2 dd dd2 sl sl2 (by simpa using hv) (by simpa using hw) (by rw [List.size_toArray, List.size_toArray]; exact hsz)) ⟨ho, ho2, ?_⟩
    rw [e]
    exact h2 hw

noncomputable def sIx (n d : Nat) : Option Int → Nat
  | none => d
  | some v => if v < 0 then (v + (n : Int)).toNat else min v.toNat n
theorem sIx_le (n d : Nat) (hd : d ≤ n) (o : Option Int) : sIx n d o ≤ n := by
  cases o with
  | none => exact hd
  | some v =>
    show (if v < 0 then (v + (n : Int)).toNat else min v.toNat n) ≤ n
    by_cases hv : v < 0
    · rw [if_pos hv]; omega
    · rw [if_neg hv]; exact Nat.min_le_right _ _
end
end HT

namespace L2
open PySem PySem.Spec PyProof.Rows

abbrev TO := St → Hp → (Option Int → Hp → Prop) → Prop
noncomputable def PO (X : Cx) (e : Option Expr) (t : TO) : Prop :=
  ∀ (pins : List (Addr × Obj)) (s : Shared) (σ : St) (H : Hp) (Q : Option Int → Hp → Prop), Inv X pins σ H s → t σ H Q →
    wpAny (model X.prog X.w) X.A (evalPart e X.env) (fun u s' => ∃ o H', Inv X pins σ H' s' ∧ IsPart u o ∧ Q o H') X.xe s
noncomputable def tNoPart : TO := fun _ H Q => Q none H
noncomputable def tPart (t : TE) : TO := fun σ H Q => t σ H fun x H1 => ∃ i, x = .int i ∧ Q (some i) H1

section
variable {X : Cx} {e : Expr} {te : TE} {lo hi : Option Expr} {tl th : TO} {pos p2 : Pos}

theorem po_none : PO X none tNoPart := by
  intro pins s σ H Q I h
  rw [evalPart_none]
  exact wpAny_pure ⟨none, H, I, .none, h⟩
theorem po_some (h : PE X e te) : PO X (some e) (tPart te) := by
  intro pins s σ H Q I hw
  rw [evalPart_some]
  refine thn (h pins s σ H _ I hw) fun u s1 hz => ?_
  obtain ⟨x, H1, I1, r1, q1⟩ := hz
  obtain ⟨i, rfl, q⟩ := q1
  obtain ⟨t, rfl⟩ := r1
  exact ⟨some i, H1, I1, .int i t, q⟩

noncomputable def SlR (X : Cx) (r : V → Option Int → Option Int → Hp → VK → Prop) : Prop :=
  ∀ (pins : List (Addr × Obj)) (s : Shared) (σ : St) (H : Hp) (x : V) (v vl vu : Value) (lo hi : Option Int) (sl : Addr) (Q : VK), Inv X pins σ H s → RelV x v → s.heap.IsSliceOf sl vl vu .none → IsPart vl lo → IsPart vu hi → r x lo hi H Q →
    ∃ T id, typeLookup (.type T) "__getitem__" = pure (some (.builtin id)) ∧ s.TypeIs v T ∧ wpAny (model X.prog X.w) X.A (getItem v (.ref sl)) (EP X pins σ Q) X.xe s
noncomputable def tSl (r : V → Option Int → Option Int → Hp → VK → Prop) (te : TE) (tl th : TO) : TE := fun σ H Q => te σ H fun x H1 => tl σ H1 fun l H2 => th σ H2 fun u H3 => r x l u H3 Q
theorem pe_slice {r : V → Option Int → Option Int → Hp → VK → Prop} (hr : SlR X r) (he : PE X e te) (hl : PO X lo tl) (hu : PO X hi th) : PE X (.Subscript e (.Slice lo hi none p2) pos) (tSl r te tl th) := by
  intro pins s σ H Q I h
  refine Subscript_ (thn (he pins s σ H _ I h) fun v s1 hz => ?_)
  obtain ⟨x, H1, I1, r1, q1⟩ := hz
  refine wpAny_Slice (thn (hl pins s1 σ H1 _ I1 q1) fun vl s2 ⟨l, H2, I2, pl, q2⟩ => thn (hu pins s2 σ H2 _ I2 q2) fun vu s3 hz => ?_)
  obtain ⟨u, H3, I3, pu, q3⟩ := hz
  rw [evalPart_none]
  refine wpAny_pure ?_
  have I4 : Inv X pins σ H3 { s3 with heap := s3.heap.push { cls := .type "slice", data := .fields #[vl, vu, .none] } } := I3.kept (t' := s3.toks) fun b ob q => Heap.get?_push_of_some _ q
  obtain ⟨T, id, hT, ht, hg⟩ := hr pins { s3 with heap := s3.heap.push { cls := .type "slice", data := .fields #[vl, vu, .none] } } σ H3 x v vl vu l u s3.heap.objs.size Q I4 r1 (Heap.IsSliceOf.new ..) pl pu q3
  show wpAny (model X.prog X.w) X.A (subscriptTail e (.Slice lo hi none p2) v (.ref s3.heap.objs.size)) (EP X pins σ Q) X.xe { s3 with heap := s3.heap.push { cls := .type "slice", data := .fields #[vl, vu, .none] } }
  exact tail_any (ops := [.ref s3.heap.objs.size, v]) ht hT hg (by with_unfolding_all rfl)

noncomputable def cutV (xs : List V) (lo hi : Option Int) : List V := (xs.drop (HT.sIx xs.length 0 lo)).take (HT.sIx xs.length xs.length hi - HT.sIx xs.length 0 lo)
theorem cutV_length (xs : List V) (lo hi : Option Int) : (cutV xs lo hi).length ≤ xs.length := by
  unfold cutV
  rw [List.length_take, List.length_drop]
  omega
theorem Vals.nil_iff {xs : List V} {us : List Value} (r : Vals xs us) : us = [] ↔ xs = [] := by
  cases r with
  | nil => simp
  | cons _ _ => simp
end
end L2

namespace L2
open PySem PySem.Spec PyProof.Rows

noncomputable def ixN (n : Nat) (i : Int) : Option Nat := if 0 ≤ i then (if i < n then some i.toNat else none) else if -(n : Int) ≤ i then some (i + n).toNat else none
noncomputable def atI {α : Type} (xs : List α) (i : Int) : Option α := (ixN xs.length i).bind fun j => xs[j]?
theorem ixN_seq {n : Nat} {i : Int} {j : Nat} (h : ixN n i = some j) : seqIndex? i n = some j ∧ j < n ∧ -(n : Int) ≤ i ∧ i < n := by
  unfold ixN at h
  by_cases h0 : 0 ≤ i
  · rw [if_pos h0] at h
    by_cases h1 : i < n
    · rw [if_pos h1] at h
      have e : i.toNat = j := Option.some.inj h
      exact ⟨by rw [seqIndex_of h0 h1, e], by omega, by omega, h1⟩
    · rw [if_neg h1] at h; cases h
  · rw [if_neg h0] at h
    by_cases h1 : -(n : Int) ≤ i
    · rw [if_pos h1] at h
      have e : (i + n).toNat = j := Option.some.inj h
      exact ⟨by rw [seqIndex_neg (by omega) h1, e], by omega, h1, by omega⟩
    · rw [if_neg h1] at h; cases h
theorem atI_get {α : Type} {xs : List α} {i : Int} {v : α} (h : atI xs i = some v) : ∃ j, seqIndex? i xs.length = some j ∧ xs[j]? = some v ∧ j < xs.length ∧ -(xs.length : Int) ≤ i ∧ i < xs.length := by
  unfold atI at h
  cases e : ixN xs.length i with
  | none => rw [e] at h; cases h
  | some j =>
    rw [e] at h
    obtain ⟨h1, h2, h3, h4⟩ := ixN_seq e
    exact ⟨j, h1, h, h2, h3, h4⟩
theorem atI_nat {α : Type} {xs : List α} {j : Nat} {v : α} (h : xs[j]? = some v) : atI xs (j : Int) = some v := by
  have hj : j < xs.length := (List.getElem?_eq_some_iff.mp h).1
  have e : ixN xs.length (j : Int) = some j := by
    unfold ixN
    rw [if_pos (by omega), if_pos (by omega)]; simp
  unfold atI; rw [e]; exact h
noncomputable def PlainIx (b : Expr) : Prop := ∀ o i, subscripted b false o i = operate [o, i] (getItem o i)
noncomputable def IxR (X : Cx) (r : R2) : Prop :=
  ∀ (value slice : Expr) (pins : List (Addr × Obj)) (s : Shared) (σ : St) (H : Hp) (x y : V) (v u : Value) (Q : VK), Inv X pins σ H s → RelV x v → RelV y u → r x y H Q →
    subscripted slice false v u = operate [v, u] (getItem v u) → wpAny (model X.prog X.w) X.A (subscriptTail value slice v u) (EP X pins σ Q) X.xe s
noncomputable def MtR (X : Cx) (id : String) (r : V → List V → Hp → VK → Prop) : Prop :=
  ∀ (pins : List (Addr × Obj)) (s : Shared) (σ : St) (H : Hp) (x : V) (xs : List V) (v : Value) (us : List Value) (Q : VK), Inv X pins σ H s → RelV x v → Vals xs us → r x xs H Q →
    wpAny (model X.prog X.w) X.A (call (.builtin id) (v :: us)) (EP X pins σ Q) X.xe s
section
variable {X : Cx} {a b : Expr} {ta tb : TE} {pos : Pos}
theorem pe_ix {r : R2} (hr : IxR X r) (ha : PE X a ta) (hb : PE X b tb) (hs : PlainIx b) : PE X (.Subscript a b pos) (tOp r ta tb) := by
  intro pins s σ H Q I h
  exact Subscript_ (binT ha hb I h fun v u s2 x y H2 I2 rx ry q => hr a b pins s2 σ H2 x y v u Q I2 rx ry q (hs _ _))

noncomputable def rIxL (K : PySem.W.Frag) : R2 := fun x y H Q => ∃ p xs i v, x = .ref p ∧ y = .int i ∧ SqL K H p xs ∧ atI xs i = some v ∧ Q v H
noncomputable def rIxT (K : PySem.W.Frag) : R2 := fun x y H Q => ∃ p xs i v, x = .ref p ∧ y = .int i ∧ SqT K H p xs ∧ atI xs i = some v ∧ Q v H
noncomputable def rIxS : R2 := fun x y H Q => ∃ z i c, x = .str z ∧ y = .int i ∧ z.length ≤ sizeLine ∧ atI z.cps.toList i = some c ∧ Q (.str ⟨#[c]⟩) H
theorem ix_list : IxR X (rIxL X.K) := by
  intro value slice pins s σ H x y v u Q I rx ry h hs
  obtain ⟨p, xs, i, z, rfl, rfl, hq, he, q⟩ := h
  cases rx
  obtain ⟨t, rfl⟩ := ry
  obtain ⟨its, r, pl, hz⟩ := I.list hq
  obtain ⟨j, h1, h2, h3, h4, h5⟩ := atI_get he
  obtain ⟨w, ew, rw'⟩ := r.get h2
  have hl := r.length
  have hn := line63
  have fin : EP X pins σ Q w s := ⟨z, H, I, rw', q⟩
  by_cases h0 : 0 ≤ i
  · have hj : i.toNat = j := by
      rw [seqIndex_of h0 h5] at h1
      exact Option.some.inj h1
    exact item_listR pl.isList h0 (by omega) (by rw [hj]; simpa using ew) fin hs
  · have hj : (i + (its.toArray.size : Int)).toNat = j := by
      rw [seqIndex_neg (by omega) h4] at h1
      rw [List.size_toArray, ← hl]
      exact Option.some.inj h1
    exact subscriptTail_builtinR (x := w) pl.isList.typeIs slot_list_getitem.lookup
      (wpAny_getItem_list_neg (Q := fun r s' => r = w ∧ EP X pins σ Q r s') pl.isList (by omega) (by rw [List.size_toArray] <;> omega) (by omega) (by rw [hj]; simpa using ew) ⟨rfl, fin⟩) hs
theorem ix_tup : IxR X (rIxT X.K) := by
  intro value slice pins s σ H x y v u Q I rx ry h hs
  obtain ⟨p, xs, i, z, rfl, rfl, hq, he, q⟩ := h
  cases rx
  obtain ⟨t, rfl⟩ := ry
  obtain ⟨its, r, pl, hz⟩ := I.tuple hq
  obtain ⟨j, h1, h2, h3, h4, h5⟩ := atI_get he
  obtain ⟨w, ew, rw'⟩ := r.get h2
  have hl := r.length
  have hn := line63
  have fin : EP X pins σ Q w s := ⟨z, H, I, rw', q⟩
  exact subscriptTail_builtinR (x := w) pl.typeIs slot_tuple_getitem.lookup
    (getItem_tuple (j := j) (Q := fun r s' => r = w ∧ EP X pins σ Q r s') pl (by omega) (by omega) (by rw [List.size_toArray, ← hl]; exact h1) (by simpa using ew) ⟨rfl, fin⟩) hs
theorem ix_str : IxR X rIxS := by
  intro value slice pins s σ H x y v u Q I rx ry h hs
  obtain ⟨z, i, c, rfl, rfl, hz, he, q⟩ := h
  obtain ⟨t, rfl⟩ := rx
  obtain ⟨t', rfl⟩ := ry
  obtain ⟨j, h1, h2, h3, h4, h5⟩ := atI_get he
  have hl : z.cps.toList.length = z.length := by simp [Str.length]
  rw [hl] at h1 h4 h5
  have hn := line63
  exact tail_any (typeIs_str s z t) slot_str_getitem.lookup (getItem_str (c := c) (by
    have e1 : decide (i < -(2 ^ 63 : Int)) = false := decide_eq_false (by omega)
    have e2 : decide (i ≥ 2 ^ 63) = false := decide_eq_false (by omega)
    rw [e1, e2, Bool.or_false]) (by rw [h1]; simpa using h2) ⟨.str ⟨#[c]⟩, H, I.tok _, ⟨_, rfl⟩, q⟩) hs
theorem slice_bounds (lo hi : Option Int) (n : Nat) : (sliceBounds lo hi none n).1 = ((HT.sIx n 0 lo : Nat) : Int) ∧ (sliceBounds lo hi none n).2.1 = ((HT.sIx n n hi : Nat) : Int) ∧ (sliceBounds lo hi none n).2.2 = 1 := by
  refine ⟨?_, ?_, rfl⟩
  · cases lo with
    | none => simp [sliceBounds, HT.sIx]
    | some i =>
      simp only [sliceBounds, HT.sIx, Option.getD_none, show (1 : Int) > 0 by decide, if_true]
      by_cases h : i < 0
      · simp only [h, if_true] <;> omega
      · simp only [h, if_false] <;> omega
  · cases hi with
    | none => simp [sliceBounds, HT.sIx]
    | some i =>
      simp only [sliceBounds, HT.sIx, Option.getD_none, show (1 : Int) > 0 by decide, if_true]
      by_cases h : i < 0
      · simp only [h, if_true] <;> omega
      · simp only [h, if_false] <;> omega
theorem slicePick_cut (its : List Value) (lo hi : Option Int) : slicePick its.toArray lo hi none = ((its.drop (HT.sIx its.length 0 lo)).take (HT.sIx its.length its.length hi - HT.sIx its.length 0 lo)).toArray := by
  obtain ⟨h1, h2, h3⟩ := slice_bounds lo hi its.toArray.size
  unfold slicePick
  rw [h1, h2, h3]
  simp only [sliceRange_one, pick_run, List.size_toArray] <;> rfl
noncomputable def rSlL (K : PySem.W.Frag) : V → Option Int → Option Int → Hp → VK → Prop := fun x lo hi H Q => ∃ a xs, x = .ref a ∧ SqL K H a xs ∧ ∀ p, H p = none → Q (.ref p) (upd H p (.lst (cutV xs lo hi)))
theorem sl_list : SlR X (rSlL X.K) := by
  intro pins s σ H x v vl vu lo hi sl Q I rx hs pl pu h
  obtain ⟨a, xs, rfl, hx, q⟩ := h
  cases rx
  obtain ⟨its, r, ht, hz⟩ := I.list hx
  have hlen := r.length
  refine ⟨"list", _, slot_list_getitem.lookup, ht.isList.typeIs, ?_⟩
  refine wpAny_getItem_list_slice ht.isList hs pl pu .none (by simp) ?_ (by rw [List.size_toArray] <;> omega)
  rw [slicePick_cut, ← hlen]
  refine ⟨.ref s.heap.objs.size, _, I.laid (t' := s.toks) (o := .lst (cutV xs lo hi)) (fun b ob q => Heap.get?_push_of_some _ q) (Nat.le_refl _) ?_, rfl, q _ (I.hok.fresh (Nat.le_refl _))⟩
  exact ⟨Nat.le_trans (cutV_length xs lo hi) hz, _, 0, (r.drop (HT.sIx xs.length 0 lo)).take (HT.sIx xs.length xs.length hi - HT.sIx xs.length 0 lo), Heap.get?_push_size _ rfl⟩

noncomputable def flatV : V → Bool
  | .non => true
  | .bl _ => true
  | .int _ => true
  | .str _ => true
  | _ => false
noncomputable def eqV : V → V → Bool
  | .non, .non => true
  | .bl a, .bl b => a == b
  | .bl a, .int b => (if a then 1 else 0) == b
  | .int a, .bl b => a == (if b then 1 else 0)
  | .int a, .int b => a == b
  | .str a, .str b => a == b
  | _, _ => false
theorem eqAt_V {A : Around} {s : Shared} {y x : V} {u v : Value} (ry : RelV y u) (rx : RelV x v) (fy : flatV y = true) (fx : flatV x = true) : SeqAt.EqAt A s u v (eqV y x) := by
  cases y with
  | non =>
    cases ry
    cases x with
    | non => cases rx; exact SeqAt.EqAt.same _
    | bl b => cases rx; exact SeqAt.EqAt.none_bool b
    | int b => obtain ⟨t, rfl⟩ := rx; exact SeqAt.EqAt.none_int b t
    | str b => obtain ⟨t, rfl⟩ := rx; exact SeqAt.EqAt.none_str b t
    | _ => exact absurd (show false = true from fx) Bool.false_ne_true
  | bl a =>
    cases ry
    cases x with
    | non => cases rx; exact SeqAt.EqAt.bool_none a
    | bl b => cases rx; exact SeqAt.EqAt.bool_bool a b
    | int b => obtain ⟨t, rfl⟩ := rx; exact SeqAt.EqAt.bool_int a b t
    | str b => obtain ⟨t, rfl⟩ := rx; exact SeqAt.EqAt.bool_str a b t
    | _ => exact absurd (show false = true from fx) Bool.false_ne_true
  | int a =>
    obtain ⟨t', rfl⟩ := ry
    cases x with
    | non => cases rx; exact SeqAt.EqAt.int_none a t'
    | bl b => cases rx; exact SeqAt.EqAt.int_bool a t' b
    | int b => obtain ⟨t, rfl⟩ := rx; exact SeqAt.EqAt.int_int a t' b t
    | str b => obtain ⟨t, rfl⟩ := rx; exact SeqAt.EqAt.int_str a t' b t
    | _ => exact absurd (show false = true from fx) Bool.false_ne_true
  | str a =>
    obtain ⟨t', rfl⟩ := ry
    cases x with
    | non => cases rx; exact SeqAt.EqAt.str_none a t'
    | bl b => cases rx; exact SeqAt.EqAt.str_bool a t' b
    | int b => obtain ⟨t, rfl⟩ := rx; exact SeqAt.EqAt.str_int a t' b t
    | str b => obtain ⟨t, rfl⟩ := rx; exact SeqAt.EqAt.str_str a t' b t
    | _ => exact absurd (show false = true from fx) Bool.false_ne_true
  | _ => exact absurd (show false = true from fy) Bool.false_ne_true
noncomputable def eqU (x : V) (u : Value) : Bool := match u with
  | .none => eqV .non x
  | .bool b => eqV (.bl b) x
  | .int i _ => eqV (.int i) x
  | .str z _ => eqV (.str z) x
  | _ => false
theorem eqU_of {x y : V} {u : Value} (r : RelV y u) (f : flatV y = true) : eqU x u = eqV y x := by
  cases y with
  | non => cases r; rfl
  | bl b => cases r; rfl
  | int i => obtain ⟨t, rfl⟩ := r; rfl
  | str z => obtain ⟨t, rfl⟩ := r; rfl
  | _ => exact absurd (show false = true from f) Bool.false_ne_true
theorem any_eqU {x : V} : ∀ {xs : List V} {us : List Value}, Vals xs us → xs.all flatV = true → us.any (eqU x) = xs.any fun y => eqV y x
  | _, _, .nil, _ => rfl
  | y :: xs, u :: us, .cons r t, f => by
    rw [List.all_cons, Bool.and_eq_true] at f
    rw [List.any_cons, List.any_cons, eqU_of r f.1, any_eqU t f.2]
theorem mem_eqAt {A : Around} {s : Shared} {x : V} {v : Value} (rx : RelV x v) (fx : flatV x = true) : ∀ {xs : List V} {us : List Value}, Vals xs us → xs.all flatV = true → ∀ u ∈ us, SeqAt.EqAt A s u v (eqU x u)
  | _, _, .nil, _ => fun u hu => by cases hu
  | y :: xs, u :: us, .cons r t, f => fun u' hu => by
    rw [List.all_cons, Bool.and_eq_true] at f
    rcases List.mem_cons.mp hu with rfl | hu
    · rw [eqU_of r f.1]; exact eqAt_V r rx f.1 fx
    · exact mem_eqAt rx fx t f.2 u' hu
noncomputable def inV (x : V) (xs : List V) : Bool := xs.any fun y => eqV y x
noncomputable def rIn (K : PySem.W.Frag) (neg : Bool) : R2 := fun x y H Q => ∃ p xs, y = .ref p ∧ (SqL K H p xs ∨ SqT K H p xs) ∧ flatV x = true ∧ xs.all flatV = true ∧ Q (.bl (if neg then !inV x xs else inV x xs)) H
theorem op_notIn_seq : OpR X (compareOp .NotIn) (rIn X.K true) := by
  intro pins s σ H x y v u Q I rx ry h
  obtain ⟨p, xs, rfl, hq, fx, fs, q⟩ := h
  cases ry
  rcases hq with hq | hq
  · obtain ⟨its, r, pl, hz⟩ := I.list hq
    refine SeqAt.notIn_listAt (eqU x) pl.isList (fun w hw => mem_eqAt rx fx r fs w (by simpa using hw)) ⟨.bl _, H, I, rfl, ?_⟩
    rw [show its.toArray.any (eqU x) = its.any (eqU x) by simp, any_eqU r fs]
    exact q
  · obtain ⟨its, r, pl, hz⟩ := I.tuple hq
    refine SeqAt.notIn_tupleAt (eqU x) pl (fun w hw => mem_eqAt rx fx r fs w (by simpa using hw)) ⟨.bl _, H, I, rfl, ?_⟩
    rw [show its.toArray.any (eqU x) = its.any (eqU x) by simp, any_eqU r fs]
    exact q
theorem call_len_seq : CallR X (.builtin "len") (fun xs H Q => ∃ p ys, xs = [.ref p] ∧ (SqL X.K H p ys ∨ SqT X.K H p ys) ∧ Q (.int ys.length) H) := by
  intro pins s σ H xs us Q I r h
  obtain ⟨p, ys, rfl, hq, q⟩ := h
  obtain ⟨u, rfl, rx⟩ := vals1 r
  cases rx
  have hn := line63
  rcases hq with hq | hq
  · obtain ⟨its, r', pl, hz⟩ := I.list hq
    have hlen := r'.length
    exact Calls.call_len_list pl.isList (by simp only [List.size_toArray] <;> omega) ⟨.int ys.length, H, I.tok _, ⟨s.toks + 1, by rw [List.size_toArray, hlen]⟩, q⟩
  · obtain ⟨its, r', pl, hz⟩ := I.tuple hq
    have hlen := r'.length
    exact len_tuple pl (by simp only [List.size_toArray] <;> omega) ⟨.int ys.length, H, I.tok _, ⟨s.toks + 1, by rw [List.size_toArray, hlen]⟩, q⟩
theorem call_len_str : CallR X (.builtin "len") (fun xs H Q => ∃ z, xs = [.str z] ∧ z.length ≤ sizeLine ∧ Q (.int z.length) H) := by
  intro pins s σ H xs us Q I r h
  obtain ⟨z, rfl, hz, q⟩ := h
  obtain ⟨u, rfl, t, rfl⟩ := vals1 r
  have hn := line63
  exact len_str (by omega) ⟨.int z.length, H, I.tok _, ⟨_, rfl⟩, q⟩
theorem call_list_of : CallR X (.type "list") (fun xs H Q => ∃ p ys, xs = [.ref p] ∧ (SqL X.K H p ys ∨ SqT X.K H p ys) ∧ ∀ l, H l = none → Q (.ref l) (upd H l (.lst ys))) := by
  intro pins s σ H xs us Q I r h
  obtain ⟨p, ys, rfl, hq, q⟩ := h
  obtain ⟨u, rfl, rx⟩ := vals1 r
  cases rx
  have fin : ∀ (its : List Value), Vals ys its → ys.length ≤ sizeLine → ∀ (h' : Heap) (c' : Nat), (∀ b o', s.heap.get? b = some o' → h'.get? b = some o') →
      h'.get? s.heap.objs.size = some { cls := .type "list", dict := none, data := .seq its.toArray c', slots := #[] } → EP X pins σ Q (.ref s.heap.objs.size) { s with heap := h' } := fun its r' hz h' c' kp e =>
    ⟨.ref s.heap.objs.size, _, I.laid (t' := s.toks) kp (Nat.le_refl _) (show ObjOk X.prog X.w _ h' _ (.lst ys) from ⟨hz, its, c', r', e⟩), rfl, q _ (I.hok.fresh (Nat.le_refl _))⟩
  rcases hq with hq | hq
  · obtain ⟨its, r', pl, hz⟩ := I.list hq
    have hlen := r'.length
    obtain ⟨o, ho, hc, n, hd⟩ := pl.isList
    exact call_list_seq p (.inl rfl) ho hc hd (fun h' c' kp e => fin its r' hz h' c' kp e) (by simp only [List.size_toArray] <;> omega)
  · obtain ⟨its, r', pl, hz⟩ := I.tuple hq
    have hlen := r'.length
    obtain ⟨o, ho, hc, n, hd⟩ := pl
    exact call_list_seq p (.inr rfl) ho hc hd (fun h' c' kp e => fin its r' hz h' c' kp e) (by simp only [List.size_toArray] <;> omega)
theorem call_tuple_of : CallR X (.type "tuple") (fun xs H Q => ∃ p ys, xs = [.ref p] ∧ ((SqL X.K H p ys ∧ ∀ l, H l = none → Q (.ref l) (upd H l (.tup ys))) ∨ (SqT X.K H p ys ∧ Q (.ref p) H))) := by
  intro pins s σ H xs us Q I r h
  obtain ⟨p, ys, rfl, h⟩ := h
  obtain ⟨u, rfl, rx⟩ := vals1 r
  cases rx
  rcases h with ⟨hq, q⟩ | ⟨hq, q⟩
  · obtain ⟨its, r', pl, hz⟩ := I.list hq
    have hlen := r'.length
    refine call_tuple_list pl.isList (fun h' kp => ?_) (by simp only [List.size_toArray] <;> omega)
    have I1 : Inv X pins σ H { s with heap := h' } := I.kept (t' := s.toks) kp
    have I2 : Inv X pins σ (upd H h'.objs.size (.tup ys)) { s with heap := h'.push { cls := .type "tuple", data := .seq its.toArray } } :=
      I1.laid (t' := s.toks) (fun b o e => Heap.get?_push_of_some _ e) (Nat.le_refl _) (show ObjOk X.prog X.w _ _ _ (.tup ys) from ⟨hz, its, r', PlT.new _ _⟩)
    exact ⟨.ref h'.objs.size, _, I2, rfl, q _ (I1.hok.fresh (Nat.le_refl _))⟩
  · obtain ⟨its, r', pl, hz⟩ := I.tuple hq
    exact call_tuple_same pl ⟨.ref p, H, I, rfl, q⟩

noncomputable def tyV (K : PySem.W.Frag) (T : String) (x : V) (H : Hp) : Prop := match x with
  | .str _ => T = "str"
  | .int _ => T = "int"
  | .ref p => (T = "list" ∧ ∃ xs, SqL K H p xs) ∨ (T = "tuple" ∧ ∃ o, K.lookup p = some o ∧ o.cls = .type "tuple" ∧ o.dict = none) ∨
      (T = "dict" ∧ ((∃ kvs, H p = some (.dK kvs)) ∨ ∃ kvs, H p = some (.dT kvs))) ∨ (T = "set" ∧ ∃ S n, H p = some (.set S n))
  | _ => False
theorem tyV_is {pins : List (Addr × Obj)} {σ : St} {H : Hp} {s : Shared} {T : String} {x : V} {v : Value} (I : Inv X pins σ H s) (r : RelV x v) (ty : tyV X.K T x H) :
    s.TypeIs v T ∧ ∀ a, v = .ref a → ∃ ob, s.heap.get? a = some ob ∧ ob.dict = none := by
  cases x with
  | str z =>
    obtain ⟨t, rfl⟩ := r
    cases (show T = "str" from ty)
    exact ⟨typeIs_str s z t, fun _ e => nomatch e⟩
  | int i =>
    obtain ⟨t, rfl⟩ := r
    cases (show T = "int" from ty)
    exact ⟨typeIs_int s i t, fun _ e => nomatch e⟩
  | ref p =>
    cases r
    rcases ty with ⟨rfl, xs, hq⟩ | ⟨rfl, o, hk, hc, hd⟩ | ⟨rfl, hk⟩ | ⟨rfl, S, n, hk⟩
    · obtain ⟨its, _, pl, _⟩ := I.list hq
      refine ⟨pl.isList.typeIs, fun a e => ?_⟩
      cases e
      obtain ⟨o, n, e, c, hd, _⟩ := pl
      exact ⟨o, e, hd⟩
    · refine ⟨⟨o, I.kIn p o hk, hc⟩, fun a e => ?_⟩
      cases e
      exact ⟨o, I.kIn _ o hk, hd⟩
    · have z : ∃ o, s.heap.get? p = some o ∧ o.ExactDict := by
        rcases hk with ⟨kvs, hk⟩ | ⟨kvs, hk⟩
        · obtain ⟨_, _, _, _, o, _, _, e, ex, _⟩ := I.hok p _ hk
          exact ⟨o, e, ex⟩
        · obtain ⟨_, _, _, _, o, _, _, e, ex, _⟩ := I.hok p _ hk
          exact ⟨o, e, ex⟩
      obtain ⟨o, e, ex⟩ := z
      refine ⟨⟨o, e, ex.1⟩, fun a e2 => ?_⟩
      cases e2
      exact ⟨o, e, ex.2.1⟩
    · obtain ⟨o, _, _, _, e, ex, _⟩ := I.hok p _ hk
      refine ⟨⟨o, e, ex.1⟩, fun a e2 => ?_⟩
      cases e2
      exact ⟨o, e, ex.2.1⟩
  | _ => exact False.elim ty
noncomputable def tBM (K : PySem.W.Frag) (T : String) (r : V → List V → Hp → VK → Prop) (to : TE) (t : TA) : TE := fun σ H Q => to σ H fun x H1 => tyV K T x H1 ∧ t σ H1 fun xs H2 => r x xs H2 Q
variable {o e : Expr} {es : List Expr} {to : TE} {t : TA} {name : Str} {apos cpos : Pos} {T id : String} {r : V → List V → Hp → VK → Prop}
theorem pe_bm (pa : PlainAttrs T) (slot : Slot T name id) (hty : typeOf (.builtin id) = pure (.type "method_descriptor")) (hm : MtR X id r) (ho : PE X o to) (ha : PA X (e :: es) t)
    (hbase : attributeBase o name X.env (eval o X.env) = eval o X.env := by rfl)
    (hfew : ((backTo cpos (starEach (e :: es) X.env)).all (fun x => !x.1) && (backToKw cpos (keywordEach [] X.env)).all (fun x => x.1.isSome)
      && decide ((e :: es).length + ([] : List Keyword).length + (if ([] : List Keyword).isEmpty then 0 else 1) < 30)) = true := by rfl)
    (hline : (apos.endLine == cpos.line) = true := by rfl) (hs : starEach (e :: es) X.env = (false, eval e X.env) :: starEach es X.env := by rfl) (hplain : (backTo cpos (starEach es X.env)).any (·.1) = false := by rfl) :
    PE X (.Call (.Attribute o name apos) (e :: es) [] cpos) (tBM X.K T r to t) := by
  intro pins s σ H Q I h
  refine wpAny_Call_method_late hbase hfew hline rfl (thn (ho pins s σ H _ I h) fun v s1 hz => ?_)
  obtain ⟨x, H1, I1, r1, ty, q1⟩ := hz
  obtain ⟨h1, h2⟩ := tyV_is I1 r1 ty
  refine ⟨T, id, pa, slot, hty, h1, h2, ?_⟩
  have hA := ha cpos pins s1 σ H1 _ I1 q1
  rw [hs] at hA ⊢
  refine Calls.callWith_builtin (by show (false || (backTo cpos (starEach es X.env)).any (·.1)) = false; rw [hplain] <;> rfl) (Calls.evalArgs_plain ?_)
  exact thn hA fun us s2 ⟨vs, H2, I2, r2, q2⟩ => hm pins s2 σ H2 x vs v us Q I2 r1 r2 q2
end
end L2

namespace L2
open PySem PySem.Spec PyProof.Rows

noncomputable def MtM (X : Cx) (id : String) (r : V → List V → Hp → VK → Prop) : Prop :=
  ∀ (pins : List (Addr × Obj)) (s : Shared) (σ : St) (H : Hp) (x : V) (xs : List V) (v : Value) (us : List Value) (Q : VK), Inv X pins σ H s → RelV x v → Vals xs us → r x xs H Q →
    wpAny (model X.prog X.w) X.A (call (.builtin id) (v :: us)) (EP X pins σ Q) X.xe s

theorem Vals.one : ∀ {x : V} {us : List Value}, Vals [x] us → ∃ u, us = [u] ∧ RelV x u
  | _, _, .cons r .nil => ⟨_, rfl, r⟩
theorem Vals.dropLast {xs : List V} {us : List Value} (h : Vals xs us) : Vals xs.dropLast us.dropLast := by
  induction h with
  | nil => exact .nil
  | cons r t ih =>
    cases t with
    | nil => exact .nil
    | cons q t' => exact .cons r ih
theorem Vals.rep {xs : List V} {us : List Value} (h : Vals xs us) : ∀ k : Nat, Vals (List.replicate k xs).flatten (List.replicate k us).flatten
  | 0 => .nil
  | k + 1 => by
    rw [List.replicate_succ, List.replicate_succ, List.flatten_cons, List.flatten_cons]
    exact Vals.append h (Vals.rep h k)
theorem foldl_rep (its : List Value) : ∀ (k : Nat) (acc : List Value),
    List.foldl (fun x1 x2 => x1 ++ x2) acc.toArray (List.replicate k its.toArray) = (acc ++ (List.replicate k its).flatten).toArray
  | 0, acc => by simp
  | k + 1, acc => by
    have e : acc.toArray ++ its.toArray = (acc ++ its).toArray := by simp
    have e2 : (acc ++ its) ++ (List.replicate k its).flatten = acc ++ (List.replicate (k + 1) its).flatten := by
      rw [List.replicate_succ, List.flatten_cons, List.append_assoc]
    rw [← e2, ← foldl_rep its k (acc ++ its), ← e, List.replicate_succ, List.foldl_cons]

section
variable {X : Cx} {pins : List (Addr × Obj)} {σ : St} {H : Hp} {s : Shared} {l b : Addr} {xs ys zs : List V}

theorem Inv.lset {its its' : List Value} {n : Nat} {f : Array Value → Array Value} {t' : Nat} (I : Inv X pins σ H s) (hH : H l = some (.lst xs))
    (e : s.heap.get? l = some { cls := .type "list", data := .seq its.toArray n }) (hf : f its.toArray = its'.toArray) (hv : Vals ys its') (hz : ys.length ≤ sizeLine) :
    Inv X pins σ (upd H l (.lst ys)) { s with heap := s.heap.update l (Obj.mapSeq f), toks := t' } := by
  have q := PySem.IsL.update e f
  rw [hf] at q
  refine I.write (x := l) (e := l) (by rw [hH]; exact trivial) (.inl rfl) (fun b' u hb hu => (Heap.get?_update_other s.heap (Obj.mapSeq f) (Ne.symm hb)).trans hu) ⟨_, q⟩ ?_
  exact ⟨hz, its', _, hv, q⟩
theorem Inv.lnew {its : List Value} {t' : Nat} (I : Inv X pins σ H s) (hv : Vals ys its) (hz : ys.length ≤ sizeLine) :
    Inv X pins σ (upd H s.heap.objs.size (.lst ys)) { s with heap := s.heap.push { cls := .type "list", data := .seq its.toArray }, toks := t' } :=
  I.laid (fun _ _ q => Heap.get?_push_of_some _ q) (Nat.le_refl _) ⟨hz, its, 0, hv, Heap.get?_push_size _ rfl⟩
theorem Inv.fresh (I : Inv X pins σ H s) : H s.heap.objs.size = none := I.hok.fresh (Nat.le_refl _)
theorem Inv.lstM (I : Inv X pins σ H s) (hH : H l = some (.lst xs)) : xs.length ≤ sizeLine ∧ ∃ (its : List Value) (n : Nat), Vals xs its ∧ xs.length = its.length ∧ s.heap.get? l = some { cls := .type "list", data := .seq its.toArray n } := by
  obtain ⟨z, its, n, r, e⟩ := I.hok l _ hH
  exact ⟨z, its, n, r, r.length, e⟩

theorem notLongL {n : Nat} (h : n ≤ sizeLine) : Builtin.List.listTooLong n = false := by
  unfold Builtin.List.listTooLong
  exact decide_eq_false (by omega)
end

section
variable {X : Cx}

noncomputable def rAppend : V → List V → Hp → VK → Prop := fun x vs H Q => ∃ l xs y, x = .ref l ∧ vs = [y] ∧ H l = some (.lst xs) ∧ xs.length < sizeLine ∧ Q .non (upd H l (.lst (xs ++ [y])))
theorem mt_append : MtM X "list.append" rAppend := by
  intro pins s σ H x vs v us Q I rx rv h
  obtain ⟨l, xs, y, rfl, rfl, hH, hz, q⟩ := h
  cases rx
  obtain ⟨u, rfl, ru⟩ := rv.one
  obtain ⟨z, its, n, r, hl, e⟩ := I.lstM hH
  refine call_meets F.slot_list_append ⟨_, e, rfl⟩ F.entry_list_append (F.args_list_append_2 _ _) (PySem.list_append l its.toArray n u (by rw [List.size_toArray]; omega)) ⟨e, ?_⟩
  refine ⟨.non, _, I.lset (its' := its ++ [u]) hH e (by simp) (r.append (.cons ru .nil)) ?_, rfl, q⟩
  rw [List.length_append, List.length_singleton]
  omega

noncomputable def rExtend : V → List V → Hp → VK → Prop := fun x vs H Q => ∃ l b xs zs, x = .ref l ∧ vs = [.ref b] ∧ H l = some (.lst xs) ∧ H b = some (.lst zs) ∧ xs.length + zs.length ≤ sizeLine ∧ Q .non (upd H l (.lst (xs ++ zs)))
theorem mt_extend : MtM X "list.extend" rExtend := by
  intro pins s σ H x vs v us Q I rx rv h
  obtain ⟨l, b, xs, zs, rfl, rfl, hH, hB, hz, q⟩ := h
  cases rx
  obtain ⟨u, rfl, ru⟩ := rv.one
  cases ru
  obtain ⟨z, its, n, r, hl, e⟩ := I.lstM hH
  obtain ⟨z2, its2, n2, r2, hl2, e2⟩ := I.lstM hB
  have hsz : its.toArray.size + its2.toArray.size ≤ sizeLine := by rw [List.size_toArray, List.size_toArray]; omega
  have hlong : ¬ (!its.toArray.isEmpty && Builtin.List.listTooLong (its.toArray.size + its2.toArray.size)) = true := by
    rw [notLongL hsz, Bool.and_false]
    exact Bool.false_ne_true
  refine call_meets F.slot_list_extend ⟨_, e, rfl⟩ F.entry_list_extend (F.args_list_extend_2 _ _)
    (AutoSeq1.list_extend_list_list_0 l its.toArray n b its2.toArray n2 hlong (by rw [List.size_toArray]; omega) (by omega)) ⟨e, e2, ?_⟩
  refine ⟨.non, _, I.lset (its' := its ++ its2) hH e (by simp) (r.append r2) ?_, rfl, q⟩
  rw [List.length_append]
  omega

noncomputable def rCat : R2 := fun x y H Q => ∃ l b xs zs, x = .ref l ∧ y = .ref b ∧ H l = some (.lst xs) ∧ H b = some (.lst zs) ∧ xs.length + zs.length ≤ sizeLine ∧ ∀ p, H p = none → Q (.ref p) (upd H p (.lst (xs ++ zs)))
theorem op_cat : OpR X (binaryOp .Add) rCat := by
  intro pins s σ H x y v u Q I rx ry h
  obtain ⟨l, b, xs, zs, rfl, rfl, hH, hB, hz, q⟩ := h
  cases rx
  cases ry
  obtain ⟨z, its, n, r, hl, e⟩ := I.lstM hH
  obtain ⟨z2, its2, n2, r2, hl2, e2⟩ := I.lstM hB
  refine PySem.P.add_list e e2 ?_ (by rw [List.size_toArray, List.size_toArray]; omega)
  have ea : its.toArray ++ its2.toArray = (its ++ its2).toArray := by simp
  rw [ea]
  exact ⟨.ref _, _, I.lnew (t' := s.toks) (r.append r2) (by rw [List.length_append]; omega), rfl, q _ I.fresh⟩
noncomputable def rRep : R2 := fun x y H Q => ∃ l k xs, x = .ref l ∧ y = .int k ∧ H l = some (.lst xs) ∧ -(2 ^ 63) ≤ k ∧ k < 2 ^ 63 ∧ xs.length * k.toNat ≤ sizeLine ∧
  ∀ p, H p = none → Q (.ref p) (upd H p (.lst (List.replicate k.toNat xs).flatten))
theorem len_rep {α : Type} (xs : List α) (k : Nat) : (List.replicate k xs).flatten.length = k * xs.length := by
  induction k with
  | zero => simp
  | succ k ih => rw [List.replicate_succ, List.flatten_cons, List.length_append, ih, Nat.succ_mul, Nat.add_comm]
theorem op_rep : OpR X (binaryOp .Mult) rRep := by
  intro pins s σ H x y v u Q I rx ry h
  obtain ⟨l, k, xs, rfl, rfl, hH, h1, h2, hz, q⟩ := h
  cases rx
  obtain ⟨t, rfl⟩ := ry
  obtain ⟨z, its, n, r, hl, e⟩ := I.lstM hH
  have hlen : its.toArray.size * k.toNat ≤ sizeLine := by rw [List.size_toArray, ← hl]; exact hz
  have hcap : ¬ its.toArray.size * k.toNat > (2 ^ 63 - 1) / 8 := by
    have : (sizeLine : Nat) ≤ (2 ^ 63 - 1) / 8 := by decide
    omega
  have hfit : ¬ (!Builtin.List.listFitsIndex k) = true := by
    rw [fitsIndex_both h1 h2]
    exact Bool.false_ne_true
  have hlong : ¬ Builtin.List.listTooLong (its.toArray.size * k.toNat) = true := by
    rw [notLongL hlen]
    exact Bool.false_ne_true
  have hnew : List.foldl (fun x1 x2 => x1 ++ x2) #[] (List.replicate (if its.toArray.isEmpty = true then 0 else k.toNat) its.toArray) = (List.replicate k.toNat its).flatten.toArray := by
    have f0 : ∀ m : Nat, List.foldl (fun x1 x2 => x1 ++ x2) #[] (List.replicate m its.toArray) = (List.replicate m its).flatten.toArray := fun m => by
      have := foldl_rep its m []
      rw [List.nil_append] at this
      exact this
    rw [f0]
    cases its with
    | nil => simp
    | cons a r' => rw [if_neg (by simp)]
  refine wpAny_binaryOp_repeat_ref (T := "list") (U := "int") (by decide) ⟨_, e, rfl⟩ (fun s' => typeIs_int s' k t) noFill_list_mul F.fills_int_mul F.slot_int_rmul repeat_list F.slot_int_index.lookup
    (call_meets F.slot_int_rmul (typeIs_int s k t) F.entry_int_rmul (F.args_int_rmul_2 _ _) (int___rmul___int_list k t l its.toArray n)
      ⟨e, rfl, ⟨_, e, rfl⟩, call_meets F.slot_list_mul ⟨_, e, rfl⟩ F.entry_list_mul (F.args_list_mul_2 _ _) (AutoListH.list___mul___list_int_3 l its.toArray n k t hfit hcap hlong) ⟨e, ?_⟩⟩)
  rw [hnew]
  exact ⟨.ref _, _, I.lnew (t' := s.toks) (r.rep k.toNat) (by rw [len_rep, Nat.mul_comm]; exact hz), rfl, q _ I.fresh⟩

end

section
variable {prog : Program} {w : World} {A : Around} {E : Value → Shared → Prop} {s : Shared}
end

section
variable {X : Cx}
end
end L2

namespace Att
open PySem PySem.W PySem.Calls PyProof.Rows

theorem ints_of_wellAll {P : Params} {h : Heap} : ∀ (ns : List Int) (vs : List Value), WellAll P h vs (ns.map WData.int) → IntsAre vs ns := by
  intro ns
  induction ns with
  | nil =>
    intro vs w
    rw [List.map_nil] at w
    cases w
    exact .nil
  | cons n ns ih =>
    intro vs w
    rw [List.map_cons] at w
    cases w with
    | cons a b =>
      cases a
      exact .cons _ _ (ih _ b)

theorem script_of {l : OpenLaw} {n : Nat} (hn : l.most = some n) {P : Params} {h : Heap} {args : List WData} {vals : List Value}
    (hpre : l.row.toRowW.claim.pre args = true) (hwl : WellAll P h vals args) :
    ∃ a vs ns, vals = [Value.ref a] ∧ args = [WData.list (ns.map WData.int)] ∧ h.get? a = some { cls := .type "list", data := .seq vs.toArray } ∧ IntsAre vs ns ∧ ns.length ≤ n := by
  have hsh : WShape.hasAll [] args [.list .int] = true := (pre_splitW hpre).1
  have hc : l.pre.holds [] { args := args } = true := (pre_splitW hpre).2
  obtain ⟨d, r, rfl, h1, h2⟩ := hasAllW_cons hsh
  obtain rfl := hasAllW_nil h2
  obtain ⟨xs, rfl, h3⟩ := hasW_list h1
  obtain ⟨ns, rfl⟩ := items_int h3
  have hlen : ns.length ≤ n := by
    unfold OpenLaw.pre at hc
    have h4 : (WTm.not (.lt (.lit (.int (n : Int))) (.len (.arg 0)))).holds [] { args := [.list (ns.map .int)] } = true := by
      have h4 := (holds_andW hc).1
      rw [hn] at h4
      exact h4
    have h5 := condW_of h4 (w_not (w_lt w_lit (w_len_list (w_arg rfl))))
    rw [List.length_map] at h5
    refine Nat.le_of_not_lt fun q => ?_
    have q' : (n : Int) < ((ns.length : Nat) : Int) := by omega
    first
      | (rw [decide_eq_true q'] at h5; exact absurd h5 (by decide))
      | (simp at h5; omega)
  cases hwl with
  | cons w1 w2 =>
    cases w2
    cases w1 with
    | list ho hall => exact ⟨_, _, ns, rfl, rfl, ho, ints_of_wellAll ns _ hall, hlen⟩

theorem post_true (l : OpenLaw) (args : List WData) : l.row.toRowW.claim.post args (.bool true) args = true :=
  postW_of (r := l.row.toRowW) (X := (true == true))
    (show WShape.has [] (.bool true) .bool = true by first | rfl | decide | simp [WShape.has, WShape.arms, WShape.armsAll])
    (show (WTm.eq .res (.lit (.bool true))).value [] { args := args, res := some (.bool true), after := args } = some (.bool (true == true)) from w_eq_bool (w_res rfl) w_lit) rfl

theorem attach_call {l : OpenLaw} {n : Nat} {q : Program} {loose : List Str} {XP : (Str → Option Value) → Heap → Prop} {YP : World → Heap → Prop} {d : DefRec}
    (hn : l.most = some n) (hdf : d.params.defaults = [])
    (call : ∀ (w : World) (s₀ s₁ : Shared) (mg mb : Str → Option Value) (fa : Addr) (o : Obj) (pm cd doc : Value) (a : Addr) (vs : List Value) (ns : List Int),
      Ground q loose [] XP w s₀ mg mb s₁.heap → YP w s₁.heap →
      s₁.heap.get? fa = some o → o.data = .func (docDef d.name d.params d.body d.scope pm cd doc) → s₁.heap.CodeRec cd d.name → mg d.name = some (.ref fa) →
      s₁.heap.get? a = some { cls := .type "list", data := .seq vs.toArray } → IntsAre vs ns → ns.length ≤ n → s₁.gens = #[] →
      codeAny (model l.prog w) callerA (.call (.ref fa) ⟨[.ref a], []⟩) (fun r s' => r = .ok (.ret (.bool true)) ∧ OldK s₁.heap s'.heap ∧ s'.os = s₁.os ∧ AllBare s'.gens) s₁) :
    WalkO q loose XP YP l.row.toRowW d [] (fun f vs => PySem.call f vs) := by
  intro w s₀ s₁ mg mb G Y fa o pm cd doc dV kV ho hd hcd hD hmg hg args vals as hpre hlay hrd hwl hlo
  obtain rfl : dV = .none := Dflts.none hD hdf
  obtain rfl : kV = .none := Dflts.noKw hD
  obtain ⟨a, vs, ns, rfl, rfl, hobj, hints, hlen⟩ := script_of hn hpre hwl
  refine enter_call (codeAny_mono (call w s₀ s₁ mg mb fa o pm cd doc a vs ns G Y ho (fd_plain hd) hcd hmg hobj hints hlen hg) fun r s' hq => ?_)
  obtain ⟨rfl, h2, h3, h4⟩ := hq
  exact ⟨.inl ⟨.bool true, .bool true, [], rfl, fun _ => rfl, .bool true, post_true l _, fun _ => ⟨List.Pairwise.nil, fun _ hm => (nomatch hm)⟩⟩, h2, h3, h4⟩

section
variable {prog : Program} {w : World} {A : Around} {E : Value → Shared → Prop} {s : Shared} {K : Frag}

end
end Att

namespace L2
open PySem PySem.Spec PyProof.Rows

theorem vals_ints : ∀ {vs : List Value} {ns : List Int}, IntsAre vs ns → Vals (ns.map V.int) vs
  | _, _, .nil => .nil
  | _, _, .cons n t h => .cons ⟨t, rfl⟩ (vals_ints h)

noncomputable def Only (H : Hp) : Prop := ∀ b, H b = none ∨ ∃ o xs, H b = some (.frz o (.lst xs))

theorem law_call {P : Program} {w : World} {K : PySem.W.Frag} {mg mb : Str → Option Value} {CX : CXT} {k : Nat} {fa a : Addr} {fd : FuncData} {x : Str} {sp : Sp} {s₁ : Shared} {vs : List Value} {ns : List Int}
    (KX : K.In s₁.heap) (hns : s₁.heap.Ns mainGlobals mg) (hb : s₁.heap.Ns builtinsNs mb) (hbb : ∀ x : Str, x ≠ "__name__" → mb x = bootBuiltins x) (hlim : s₁.heap.NoLimit) (hg : s₁.gens = #[])
    (ha : s₁.heap.get? a = some { cls := .type "list", data := .seq vs.toArray }) (hi : IntsAre vs ns) (hl : ns.length ≤ sizeLine) (hr : Room k callerA)
    (F : ∀ base : Heap, K.In base → base.Ns mainGlobals mg → FnOk P w K mg base CX k fa fd [x] sp) (hbind : ∀ (s : Shared) (u : Value), BindsTo s fd ⟨[u], []⟩ [(x, u)])
    (hsp : ∀ H : Hp, Only H → SqL K H a (ns.map V.int) → sp [.ref a] H (fun v _ => v = .bl true) fun _ _ _ => False)
    (hCX : ∀ H e s', CX [] H s₁ (fun _ _ _ => False) e s' → False) :
    codeAny (model P w) callerA (.call (.ref fa) ⟨[.ref a], []⟩) (fun r s' => r = .ok (.ret (.bool true)) ∧ OldK s₁.heap s'.heap ∧ s'.os = s₁.os ∧ AllBare s'.gens) s₁ := by
  have rv := vals_ints hi
  have lenV := hi.length
  -- from an abstract heap in which nothing but the script may be tracked
  have core : ∀ H : Hp, Only H → SqL K H a (ns.map V.int) → HOk P w H s₁.heap → (∀ b, H b ≠ none → b = a) → (H a ≠ none → K.lookup a = none) →
      codeAny (model P w) callerA (.call (.ref fa) ⟨[.ref a], []⟩) (fun r s' => r = .ok (.ret (.bool true)) ∧ OldK s₁.heap s'.heap ∧ s'.os = s₁.os ∧ AllBare s'.gens) s₁ := by
    intro H hO hS hok hA hK
    have base_of : ∀ {b : Addr} {o : Obj}, s₁.heap.get? b = some o → H b = none → (hidT s₁.heap H).get? b = some o := fun e n => hidT_get e n
    have noA : ∀ {b : Addr} {o : Obj} {es : Array DictEntry} {ep : Nat}, s₁.heap.get? b = some o → o.data = .dict es ep → H b = none := fun {b o es ep} e d => by
      cases q : H b with
      | none => rfl
      | some u =>
        have e' : b = a := hA b (by rw [q]; simp)
        subst e'
        rw [ha] at e; cases e
        have d' : Data.seq vs.toArray _ = Data.dict es ep := d
        cases d'
    have nsK : ∀ {b : Addr} {m : Str → Option Value}, s₁.heap.Ns b m → (hidT s₁.heap H).Ns b m := fun {b m} ⟨o, es, ep, e, d, r⟩ => ⟨o, es, ep, base_of e (noA e d), d, r⟩
    have hKb : K.In (hidT s₁.heap H) := fun b o e => base_of (KX b o e) (by
      cases q : H b with
      | none => rfl
      | some u =>
        have e' : b = a := hA b (by rw [q]; simp)
        subst e'
        rw [hK (by rw [q]; simp)] at e; cases e)
    have hM : Mod K mg (hidT s₁.heap H) := ⟨hKb, nsK hns, ⟨mb, nsK hb, hbb⟩, let ⟨mc, h1, h2⟩ := hlim; ⟨mc, nsK h1, h2⟩⟩
    have e0 : Env0 P w K mg (hidT s₁.heap H) callerA [] s₁ H := ⟨rfl, hM, fun b o e => of_hidT e, Nat.le_of_eq (hidT_size _ _), trivial, fun b hb => absurd (show b ∈ ([] : List Addr) from hb) (by simp), hok, .of_eq hg⟩
    refine codeAny_mono ((F _ hKb (nsK hns)).run callerA [] s₁ H ⟨[.ref a], []⟩ [.ref a] [.ref a] _ _ hr e0 (hbind s₁ (.ref a)) (.cons rfl .nil) (hsp H hO hS)) fun r s' h => ?_
    cases r with
    | error e => exact (hCX H e s' h).elim
    | ok fl =>
      cases fl with
      | next => exact False.elim h
      | brk => exact False.elim h
      | cont => exact False.elim h
      | ret u =>
        obtain ⟨v, H', os, bare, un, hok', r', q⟩ := h
        have q' : v = .bl true := q
        subst q'
        obtain rfl : u = Value.bool true := r'
        refine ⟨rfl, OldK.of_keep fun b o e => ?_, os, bare⟩
        cases q : H b with
        | none => exact un.keep b o e q (by intro z; exact absurd (show b ∈ ([] : List Addr) from z) (by simp)) (by simp)
        | some u =>
          rcases hO b with z | ⟨ob, xs, z⟩
          · rw [q] at z; cases z
          · have z2 := un.frzs b ob _ z
            obtain ⟨e1, _⟩ := hok b _ z
            obtain ⟨e2, _⟩ := hok' b _ z2
            rw [e] at e1; cases e1
            exact e2
  cases hk : K.lookup a with
  | some o =>
    -- the script is one of the module's own objects
    have e := KX a o hk
    rw [ha] at e
    cases e
    refine core (fun _ => none) (fun _ => .inl rfl) (.inr ⟨_, vs.toArray, _, hk, rfl, rfl, rfl, by rw [List.size_toArray, lenV]; exact hl, by simpa using rv⟩) (fun b u z => by have z' : (none : Option HO) = some u := z; cases z') (fun b z => absurd rfl z) fun z => absurd rfl z
  | none =>
    refine core (fun b => if b = a then some (.frz { cls := .type "list", data := .seq vs.toArray } (.lst (ns.map V.int))) else none) (fun b => ?_) (.inl (.inr ⟨{ cls := .type "list", data := .seq vs.toArray }, if_pos rfl⟩)) (fun b u z => ?_) (fun b z => ?_) fun _ => hk
    · by_cases hb : b = a
      · exact .inr ⟨_, _, if_pos hb⟩
      · exact .inl (if_neg hb)
    · by_cases hb : b = a
      · have z' := (if_pos hb).symm.trans z
        cases z'
        subst hb
        exact ⟨ha, by rw [List.length_map]; exact hl, vs, _, rv, ha⟩
      · have z' := (if_neg hb).symm.trans z
        cases z'
    · by_cases hb : b = a
      · exact hb
      · exact absurd (if_neg hb) z
end L2

namespace L2
open PySem PySem.Spec PyProof.Rows

theorem walk_of {l : PySem.W.OpenLaw} {n k : Nat} {q : Program} {loose : List Str} {XP : (Str → Option Value) → Heap → Prop} {YP : World → Heap → Prop} {d : DefRec} {K : Params → PySem.W.Frag} {CX : World → CXT} {sp : World → Sp} {x : Str}
    (hn : l.most = some n) (hn2 : n ≤ sizeLine) (hdf : d.params.defaults = []) (hr : Room k callerA)
    (hY : ∀ (w : World) (h : Heap), YP w h → (K w.params).In h)
    (F : ∀ (w : World) (mg : Str → Option Value) (fa : Addr) (h : Heap), (K w.params).In h → h.Ns mainGlobals mg → mg d.name = some (.ref fa) →
      ∃ fd : FuncData, (∀ (s : Shared) (u : Value), BindsTo s fd ⟨[u], []⟩ [(x, u)]) ∧
        ∀ base : Heap, (K w.params).In base → base.Ns mainGlobals mg → FnOk l.prog w (K w.params) mg base (CX w) k fa fd [x] (sp w))
    (hsp : ∀ (w : World) (H : Hp) (a : Addr) (ns : List Int), ns.length ≤ n → Only H → SqL (K w.params) H a (ns.map V.int) → sp w [.ref a] H (fun v _ => v = .bl true) fun _ _ _ => False)
    (hCX : ∀ (w : World) (H : Hp) (s : Shared) (e : Value) (s' : Shared), CX w [] H s (fun _ _ _ => False) e s' → False) :
    PySem.W.WalkO q loose XP YP l.row.toRowW d [] (fun f vs => PySem.call f vs) := by
  refine Att.attach_call hn hdf fun w s₀ s₁ mg mb fa o pm cd doc a vs ns G Y ho hd hcd hmg hobj hints hlen hg => ?_
  have KX := hY w _ Y
  obtain ⟨fd, hb, hF⟩ := F w mg fa _ KX G.T.g hmg
  exact law_call KX G.T.g G.T.b G.T.builtins G.T.nolimit hg hobj hints (Nat.le_trans hlen hn2) hr hF hb (fun H hO hS => hsp w H a ns hlen hO hS) fun H e s' => hCX w H s₁ e s'
end L2

namespace L2
open PySem PySem.Spec PyProof.Rows

def inClass (s : Stmt) (j : Nat) : Stmt := match s with
  | .ClassDef _ _ _ body _ _ _ _ _ _ _ => body.getD j (.Pass ⟨0, 0, 0, 0⟩)
  | _ => .Pass ⟨0, 0, 0, 0⟩
noncomputable def defArgs (s : Stmt) : Arguments := match s with
  | .FunctionDef _ a _ _ _ _ _ _ _ _ => a
  | _ => { posonlyargs := [], args := [], vararg := none, kwonlyargs := [], kw_defaults := [], kwarg := none, defaults := [] }
noncomputable def defBody (s : Stmt) : List Stmt := match s with
  | .FunctionDef _ _ b _ _ _ _ _ _ _ => b
  | _ => []
noncomputable def defScope (s : Stmt) : Scope := match s with
  | .FunctionDef _ _ _ _ _ _ sc _ _ _ => sc
  | _ => { kind := .function, names := [], isGenerator := false, isCoroutine := false }

abbrev CX0 : CXT := fun _ _ _ _ _ _ => False
abbrev E0 : XK := fun _ _ _ => False
theorem pass0 {X : Cx} : Passes CX0 X E0 := fun _ _ _ _ _ _ _ h => h.elim

structure Fun (K : PySem.W.Frag) (x qual : Str) (st : Stmt) (f : Addr) (fd : FuncData) : Prop where
  ex : ∃ (oc : Value) (od : Option Addr) (kV doc pm : Value) (an : Option Addr) (cdv ct : Value) (osl : Array (Option Value)),
    fd = PySem.W.fnOf x qual (defArgs st) (defBody st) (defScope st) .none kV doc pm an cdv ct ∧ K.lookup f = some ⟨oc, od, .func fd, osl⟩ ∧ PySem.W.codeIn K cdv qual = true
  kp : PySem.W.keepIn K (.ref f) = true
section
variable {P : Program} {w : World} {K : PySem.W.Frag} {mg : Str → Option Value} {base : Heap}
theorem Fun.ok {x qual : Str} {st : Stmt} {f : Addr} {fd : FuncData} {N ps : List Str} {k : Nat} {sp : Sp} (F : Fun K x qual st f fd) (S : FnScope N ps (defScope st)) (len : ∀ vs H Q E, sp vs H Q E → vs.length = ps.length)
    (hbody : ∀ (cdv : Value) (A : Around) (outer : List Env) (s : Shared) (H : Hp) (vs : List V) (Q : VK) (E : XK), Room k (A.deeper (envOfC qual (defScope st) s.heap.objs.size f cdv)) → sp vs H Q E →
      ∃ t, PSs (cxOf CX0 P w K mg base N qual (defScope st) f cdv A outer s H E).nox (defBody st) t ∧ t { nx := fun _ H' => Q .non H', rt := Q } (start N vs) H) : FnOk P w K mg base CX0 (k + 1) f fd ps sp := by
  obtain ⟨oc, od, kV, doc, pm, an, cdv, ct, osl, rfl, lk, hcd⟩ := F.ex
  refine fn_of lk hcd S len fun A outer s H vs Q E hr hsp => ?_
  obtain ⟨t, h, q⟩ := hbody cdv A outer s H vs Q E hr hsp
  exact ⟨t, h.nox, q⟩
theorem Fun.binds {x qual : Str} {st : Stmt} {f : Addr} {fd : FuncData} {ps : List Str} (F : Fun K x qual st f fd)
    (h : ∀ (kV doc pm : Value) (an : Option Addr) (cdv ct : Value) (us : List Value), us.length = ps.length → bindArgs (PySem.W.fnOf x qual (defArgs st) (defBody st) (defScope st) .none kV doc pm an cdv ct) ⟨us, []⟩ = pure (ps.zip us)) : Binds K fd ps [] := by
  obtain ⟨oc, od, kV, doc, pm, an, cdv, ct, osl, rfl, lk, hcd⟩ := F.ex
  exact .all (h kV doc pm an cdv ct)
theorem fun_mk {x qual : Str} {st : Stmt} {f : Addr} {oc : Value} {od an : Option Addr} {osl : Array (Option Value)} {kV doc pm cdv ct : Value} (l : K.lookup f = some ⟨oc, od, .func (PySem.W.fnOf x qual (defArgs st) (defBody st) (defScope st) .none kV doc pm an cdv ct), osl⟩)
    (c : PySem.W.codeIn K cdv qual = true) (k : PySem.W.keepIn K (.ref f) = true) : Fun K x qual st f (PySem.W.fnOf x qual (defArgs st) (defBody st) (defScope st) .none kV doc pm an cdv ct) := ⟨⟨oc, od, kV, doc, pm, an, cdv, ct, osl, rfl, l, c⟩, k⟩
end
theorem hu_of {A : Around} {k : Nat} (hr : Room k A) : A.units + 1 < cLine := Nat.lt_of_le_of_lt (Nat.add_le_add_left (by decide : 1 ≤ 64) _) hr.units
theorem small1000 {n : Nat} (h : n ≤ 1000) : n < sizeLine := Nat.lt_of_le_of_lt h (by decide)

section
variable {X : Cx}
theorem pv (i : Nat) {x : Str} {pos : Pos} (hN : X.N[i]? = some x := by rfl) (hv : Vis X.env.scope x := by first | exact Or.inl rfl | exact Or.inr (Or.inl rfl) | exact Or.inr (Or.inr rfl)) (hd : (x == ("__debug__" : Str)) = false := by decide)
    (hcd : (x == ("__classdict__" : Str)) = false := by decide) : PE X (.Name x pos) (tVar i) := pe_var hN hv hd hcd
end

theorem iteF {A B : Prop} (h : B) : if false = true then A else B := by
  rw [if_neg Bool.false_ne_true]
  exact h
theorem iteT {A B : Prop} (h : A) : if true = true then A else B := by
  rw [if_pos rfl]
  exact h
theorem ite2 {c A B : Prop} [Decidable c] (h1 : c → A) (h2 : ¬ c → B) : if c then A else B := by
  by_cases h : c
  · rw [if_pos h]
    exact h1 h
  · rw [if_neg h]
    exact h2 h
theorem iteNS {c A B : Prop} [Decidable c] (hc : c) (h : B) : if (!decide c) = true then A else B := by
  rw [decide_eq_true hc]
  exact iteF h

noncomputable def Same (H H' : Hp) : Prop := ∀ b o, H b = some o → H' b = some o
theorem Same.refl (H : Hp) : Same H H := fun _ _ h => h
theorem Same.trans {H H1 H2 : Hp} (a : Same H H1) (b : Same H1 H2) : Same H H2 := fun c o h => b c o (a c o h)
theorem Same.free {H H' : Hp} (e : Same H H') {l : Addr} (h : H' l = Option.none) : H l = Option.none := by
  cases q : H l with
  | none => rfl
  | some o =>
    rw [e l o q] at h
    cases h
theorem Same.seq {K : PySem.W.Frag} {H H' : Hp} {a : Addr} {xs : List V} (e : Same H H') (h : SqL K H a xs) : SqL K H' a xs := by
  rcases h with (h | ⟨o, h⟩) | h
  · exact .inl (.inl (e _ _ h))
  · exact .inl (.inr ⟨o, e _ _ h⟩)
  · exact .inr h

end L2

set_option Elab.async false
set_option linter.all false
set_option maxRecDepth 100000
set_option maxHeartbeats 4000000
namespace L2
open PySem PySem.Spec PyProof.Rows

abbrev noE : Value → Shared → Prop := fun _ _ => False

theorem compLoop_go {prog : Program} {w : World} {A : Around} {R : Result → Shared → Prop} {s : Shared} {elt target iter : Expr} {ifs : List Expr} {scope : Scope} {pos : Pos} {it acc : Value} {env : Env} (I : Nat → Shared → Prop)
    (turn : ∀ n s, I n s → wpAny (model prog w) A (pyNext it) (fun r s1 => match r with
      | none => R (.ok .next) s1
      | some v => wpAny (model prog w) A (letOwnedTupleGo target it v) (fun _ s0 => wpAny (model prog w) A (assign target env v) (fun _ s2 =>
          wpAny (model prog w) A (forIn ifs true fun c r => if r = true then do let ok ← isTrue c env (eval c env); pure (ForInStep.yield ok) else pure (ForInStep.yield r)) (fun ok s3 =>
            if ok = true then wpAny (model prog w) A (eval elt env) (fun x s4 =>
              wpAny (model prog w) A (call (.builtin "list.append") [acc, x]) (fun _ s5 => ∃ m, m < n ∧ I m s5) noE s4) noE s3
            else ∃ m, m < n ∧ I m s3) noE s2) noE s0) noE s1) noE s)
    (n : Nat) (h : I n s) : codeAny (model prog w) A (.compLoop (.ListComp elt [⟨target, iter, ifs, 0⟩] scope pos) 0 it acc env) R s := by
  refine codeAny_loop rfl I (fun n s hI => ?_) n h
  show wpAny _ A ((compTurn (.ListComp elt [⟨target, iter, ifs, 0⟩] scope pos) 0 it acc env).onRaise (fun x => do noteFrame x env; theTreesLotGoes x)) _ _ s
  refine wpAny_noted ?_
  rw [compTurn_list]
  refine wpAny_bind (wpAny_standAt (wpAny_bind (wpAny_mono (turn n s hI) (fun r s1 h1 => ?_) fun _ _ z => False.elim z)))
  cases r with
  | none => exact wpAny_pure h1
  | some v =>
    refine wpAny_bind (wpAny_mono h1 (fun _ s0 h0 => ?_) fun _ _ z => False.elim z)
    refine wpAny_bind (wpAny_mono h0 (fun _ s2 h2 => wpAny_bind (wpAny_mono h2 (fun ok s3 h3 => ?_) fun _ _ z => False.elim z)) fun _ _ z => False.elim z)
    cases ok with
    | false => exact wpAny_pure ⟨rfl, h3⟩
    | true =>
      exact wpAny_bind (wpAny_bind (wpAny_mono h3 (fun x s4 h4 => wpAny_bind (wpAny_mono h4 (fun _ s5 h5 => wpAny_pure (wpAny_pure ⟨rfl, h5⟩)) fun _ _ z => False.elim z)) fun _ _ z => False.elim z))

noncomputable def captL (cells : List (Str × Addr)) : List (Str × NameKind) → List (Str × Addr) → Option (List (Str × Addr))
  | [], acc => some acc
  | (n, k) :: r, acc => if k == .free then (match cells.lookup n with
      | some a => captL cells r ((n, a) :: acc)
      | none => none) else captL cells r acc
theorem forIn_capt {env : Env} : ∀ (names : List (Str × NameKind)) (acc cl : List (Str × Addr)), captL env.cells names acc = some cl →
    (forIn names acc fun (x : Str × NameKind) (cs : List (Str × Addr)) => match x with
      | (name, kind) => if (kind == NameKind.free) = true then do let c ← cellOf env name; pure (ForInStep.yield ((name, c) :: cs)) else pure (ForInStep.yield cs) : Sem (List (Str × Addr))) = pure cl
  | [], acc, cl, h => by
    have h' : acc = cl := Option.some.inj h
    subst h'
    rfl
  | (n, k) :: r, acc, cl, h => by
    rw [List.forIn_cons]
    unfold captL at h
    by_cases hk : (k == NameKind.free) = true
    · rw [if_pos hk] at h
      cases e : env.cells.lookup n with
      | none => rw [e] at h; cases h
      | some a =>
        rw [e] at h
        have ih := forIn_capt r ((n, a) :: acc) cl h
        have hc : cellOf env n = pure a := by unfold cellOf; rw [e]
        dsimp only
        rw [if_pos hk, hc]
        simpa using ih
    · rw [if_neg hk] at h
      have ih := forIn_capt r acc cl h
      dsimp only
      rw [if_neg hk]
      simpa using ih
theorem closure_capt {scope : Scope} {env : Env} {cl : List (Str × Addr)} (h : captL env.cells scope.names [] = some cl) : closureFor scope env = pure cl := by
  have q := forIn_capt (env := env) scope.names [] cl h
  unfold closureFor
  simpa using q
theorem captL_sub {cells : List (Str × Addr)} : ∀ {names : List (Str × NameKind)} {acc cl : List (Str × Addr)}, captL cells names acc = some cl →
    (∀ x c, acc.lookup x = some c → cells.lookup x = some c) → ∀ x c, cl.lookup x = some c → cells.lookup x = some c
  | [], acc, cl, h, ha, x, c, e => by
    have h' : acc = cl := Option.some.inj h
    subst h'
    exact ha x c e
  | (n, k) :: r, acc, cl, h, ha, x, c, e => by
    unfold captL at h
    by_cases hk : (k == NameKind.free) = true
    · rw [if_pos hk] at h
      cases q : cells.lookup n with
      | none => rw [q] at h; cases h
      | some a =>
        rw [q] at h
        refine captL_sub (names := r) (acc := (n, a) :: acc) h (fun y d z => ?_) x c e
        rw [List.lookup_cons] at z
        cases hy : y == n with
        | true =>
          rw [hy] at z
          have z' : a = d := Option.some.inj z
          rw [← z', beq_iff_eq.mp hy]
          exact q
        | false =>
          rw [hy] at z
          exact ha y d z
    · rw [if_neg hk] at h
      exact captL_sub (names := r) (acc := acc) h ha x c e
theorem captL_has {cells : List (Str × Addr)} : ∀ {names : List (Str × NameKind)} {acc cl : List (Str × Addr)}, captL cells names acc = some cl →
    ∀ x, ((∃ c, acc.lookup x = some c) ∨ (x, NameKind.free) ∈ names) → ∃ c, cl.lookup x = some c
  | [], acc, cl, h, x, hx => by
    have h' : acc = cl := Option.some.inj h
    subst h'
    rcases hx with hx | hx
    · exact hx
    · cases hx
  | (n, k) :: r, acc, cl, h, x, hx => by
    unfold captL at h
    by_cases hk : (k == NameKind.free) = true
    · rw [if_pos hk] at h
      cases q : cells.lookup n with
      | none => rw [q] at h; cases h
      | some a =>
        rw [q] at h
        refine captL_has (names := r) (acc := (n, a) :: acc) h x ?_
        rcases hx with ⟨c, hx⟩ | hx
        · left
          rw [List.lookup_cons]
          cases hy : x == n with
          | true => exact ⟨a, rfl⟩
          | false => exact ⟨c, hx⟩
        · rcases List.mem_cons.mp hx with e | e
          · left
            have e1 : x = n := congrArg Prod.fst e
            rw [List.lookup_cons, e1, beq_self_eq_true]
            exact ⟨a, rfl⟩
          · exact .inr e
    · rw [if_neg hk] at h
      refine captL_has (names := r) (acc := acc) h x ?_
      rcases hx with hx | hx
      · exact .inl hx
      · rcases List.mem_cons.mp hx with e | e
        · have e2 : NameKind.free = k := congrArg Prod.snd e
          exact absurd (by rw [← e2]; rfl) hk
        · exact .inr e
theorem lookup_mem' {α β : Type} [BEq α] [LawfulBEq α] : ∀ {l : List (α × β)} {x : α} {b : β}, l.lookup x = some b → (x, b) ∈ l
  | [], x, b, h => by cases h
  | (a, c) :: r, x, b, h => by
    rw [List.lookup_cons] at h
    cases hx : x == a with
    | true =>
      rw [hx] at h
      have h' : c = b := Option.some.inj h
      rw [beq_iff_eq.mp hx, h']
      exact List.mem_cons_self
    | false =>
      rw [hx] at h
      exact List.mem_cons_of_mem _ (lookup_mem' h)
theorem relabel_free {scope : Scope} {env : Env} (hcell : ∀ y ∈ scope.names, y.2 ≠ .cell) {x : Str} (h : (relabel scope env).names.lookup x = some .cell ∨ (relabel scope env).names.lookup x = some .free) : (x, NameKind.free) ∈ scope.names := by
  have go : ∀ k, (relabel scope env).names.lookup x = some k → (k = .cell ∨ k = .free) → (x, NameKind.free) ∈ scope.names := fun k h hk => by
    have m := lookup_mem' h
    obtain ⟨⟨n, k'⟩, hm, e⟩ := List.mem_map.mp m
    dsimp only at e
    by_cases c : (k' == NameKind.free && env.scope.kind == .function && env.kindOf n == some .cell) = true
    · rw [if_pos c] at e
      have e1 : n = x := congrArg Prod.fst e
      have c1 : (k' == NameKind.free) = true := by
        rw [Bool.and_eq_true, Bool.and_eq_true] at c
        exact c.1.1
      have c2 : k' = .free := eq_of_beq c1
      rw [← e1, ← c2]
      exact hm
    · rw [if_neg c] at e
      have e1 : n = x := congrArg Prod.fst e
      have e2 : k' = k := congrArg Prod.snd e
      rcases hk with z | z
      · exact absurd (e2.trans z) (hcell _ hm)
      · rw [← e1, ← z, ← e2]
        exact hm
  rcases h with h | h
  · exact go _ h (.inl rfl)
  · exact go _ h (.inr rfl)

noncomputable def compCx (X : Cx) (scope : Scope) (cl : List (Str × Addr)) (N : List Str) (C : Addr) (s3 : Shared) (H1 : Hp) (ex : List Addr) (pins : List (Addr × Obj)) : Cx :=
  { X with N := N, s₀ := s3, H₀ := H1, env := compEnvC scope cl C X.env, outer := X.stack, ex := ex, fn := fun _ => false, pn := X.pn ++ pins, xe := noE }
noncomputable def compSt (own : Nat) (ix : List Nat) (σ : St) : St := List.replicate own none ++ ix.map fun i => (σ[i]?).join

structure CompScope (X : Cx) (scope : Scope) (cl : List (Str × Addr)) (own caps : List Str) (ix : List Nat) : Prop where
  clos : captL X.env.cells scope.names [] = some cl
  cell : ∀ y ∈ scope.names, y.2 ≠ .cell
  kind : scope.kind = .function
  names : ∀ y ∈ scope.names, y.2 = .local → scope.names.lookup y.1 = some .local
  capn : caps.length = ix.length
  cap : ∀ (j i : Nat) (x : Str), caps[j]? = some x → ix[j]? = some i → X.N[i]? = some x ∧ X.env.kindOf x ≠ some .local ∧ Vis X.env.scope x ∧ ((relabel scope X.env).names.lookup x = some .cell ∨ (relabel scope X.env).names.lookup x = some .free)

theorem Inv.track {X : Cx} {pins : List (Addr × Obj)} {σ : St} {H : Hp} {s : Shared} {D : Addr} {o : HO} (I : Inv X pins σ H s) (f : FpOk X pins H D) (new : ObjOk X.prog X.w (upd H D o) s.heap D o) : Inv X pins σ (upd H D o) s := by
  obtain ⟨f0, f1, f2, f3, f4, f5⟩ := f
  have q := I.step (H' := upd H D o) (h' := s.heap) (g' := s.gens) (t' := s.toks) (d' := s.drawn) (ch := [D]) (fun b hb => by
      have e : b = D := by simpa using hb
      subst e
      exact ⟨f3, f1, f4, f5⟩)
    (fun _ _ _ _ _ e _ => e) (fun b ob _ _ _ e _ => ⟨ob.slots, e⟩) (fun b ob hb _ n => by
      have e : b ≠ D := fun z => hb (by simp [z])
      rw [upd_ne e]; exact n)
    (fun b ob _ e => ⟨ob, e⟩) (fun b xs e => by rw [upd_ne (ne_of_none e f0)]; exact e) (fun b ob u e => by rw [upd_ne (ne_of_none e f0)]; exact e)
    (fun b ps e => ⟨#[], by rw [upd_ne (ne_of_none e f0), e]; simp⟩) (fun _ hm => hm) (fun b u e => by
      by_cases hb : b = D
      · subst hb
        rw [upd_same] at e
        cases e
        exact new
      · rw [upd_ne hb] at e
        exact (I.hok b u e).stay (fun _ _ _ q => q) (fun c q => by rw [upd_ne (ne_of_none q f0)]; exact q) fun c xs q => by rw [upd_ne (ne_of_none q f0)]; exact q) I.bare
  exact q

section
variable {X : Cx} {scope : Scope} {cl : List (Str × Addr)} {own caps : List Str} {ix : List Nat}

theorem CompScope.look (S : CompScope X scope cl own caps ix) : ∀ x c, cl.lookup x = some c → X.env.cells.lookup x = some c :=
  captL_sub S.clos fun x c e => by cases e

theorem comp_inv {pins : List (Addr × Obj)} {σ : St} {H1 : Hp} {s3 : Shared} {h1 : Heap} {ex : List Addr} {m : Str → Option Value} {tk : Nat} (S : CompScope X scope cl own caps ix) (I : Inv X pins σ H1 s3)
    (hex : ∀ b ∈ ex, b < s3.heap.objs.size ∧ b ≠ X.env.locals ∧ b ∉ X.fs ∧ (b ∈ X.ex ∨ X.s₀.heap.objs.size ≤ b) ∧ ∀ x c, X.env.cells.lookup x = some c → c ≠ b)
    (hn : h1.Ns s3.heap.objs.size m) (hk : ∀ b o, s3.heap.get? b = some o → h1.get? b = some o) :
    Inv (compCx X scope cl (own ++ caps) s3.heap.objs.size s3 H1 ex pins) [] (compSt own.length ix σ) H1 { s3 with heap := h1, toks := tk } := by
  have stkN : ∀ b ∈ frs X.stack, b < s3.heap.objs.size := fun b hb => by
    obtain ⟨_, o, ho, _⟩ := I.stack.mem hb
    exact Heap.lt_size ho
  have lt0 : ∀ b o, X.base.get? b = some o → b < X.s₀.heap.objs.size := fun b o e => Heap.lt_size (I.ok.bs b o e).1
  refine ⟨⟨I.ok.mod, S.kind, I.ok.glob, I.ok.blt, Nat.le_refl _, ?_, ?_, ?_, I.ok.hd, I.ok.frames, .inl rfl, ?_, I.bs, Nat.le_trans I.ok.bsz I.sz, ?_, ?_, I.stack, I.stkFree⟩, rfl, I.bare, ?_, ?_, ?_, ?_, ?_, ?_, ?_, ?_⟩
  · intro x y c e1 e2
    exact I.ok.inj x y c (S.look x c e1) (S.look y c e2)
  · intro x hx
    exact captL_has S.clos x (.inr (relabel_free S.cell hx))
  · intro x c hf
    exact absurd hf Bool.false_ne_true
  · intro b hb
    obtain ⟨l, a1, a2, a3, a4⟩ := hex b hb
    exact ⟨Nat.ne_of_lt l, fun x c e => a4 x c (S.look x c e)⟩
  · intro b o e hb
    obtain ⟨l, a1, a2, a3, a4⟩ := hex b hb
    rcases a3 with z | z
    · exact I.ok.noex b o e z
    · exact absurd (Nat.lt_of_lt_of_le (lt0 b o e) z) (Nat.lt_irrefl _)
  · intro b hb hf
    obtain ⟨l, a1, a2, a3, a4⟩ := hex b hb
    rcases List.mem_cons.mp (I.stkSub b hf) with z | z
    · exact a1 z
    · exact a2 z
  · exact Un.kept hk
  · refine ⟨m, hn, fun i x v e1 e2 e3 => ?_⟩
    have e2' : (List.replicate own.length none ++ ix.map fun i => (σ[i]?).join : St)[i]? = some (some v) := e2
    have e1' : (own ++ caps)[i]? = some x := e1
    by_cases hi : i < own.length
    · rw [List.getElem?_append_left (by simpa using hi), List.getElem?_replicate, if_pos hi] at e2'
      cases e2'
    · have hi' : own.length ≤ i := Nat.le_of_not_lt hi
      rw [List.getElem?_append_right (by simpa using hi'), List.length_replicate, List.getElem?_map] at e2'
      rw [List.getElem?_append_right hi'] at e1'
      cases q : ix[i - own.length]? with
      | none => rw [q] at e2'; cases e2'
      | some k =>
        rw [q] at e2'
        have e2'' : (σ[k]?).join = some v := Option.some.inj e2'
        have e4 : σ[k]? = some (some v) := by
          cases z : σ[k]? with
          | none => rw [z] at e2''; cases e2''
          | some u => rw [z] at e2''; rw [show u = some v from e2'']
        obtain ⟨n1, n2, n3, n4⟩ := S.cap (i - own.length) k x e1' q
        obtain ⟨mX, _, hl⟩ := I.loc
        obtain ⟨u, r, l⟩ := hl k x v n1 e4 n3
        refine ⟨u, r, ?_⟩
        rcases l with ⟨kl, _⟩ | ⟨_, c, ec, ic⟩
        · exact absurd kl n2
        · obtain ⟨c', ec'⟩ := captL_has S.clos x (.inr (relabel_free S.cell n4))
          have e5 := S.look x c' ec'
          rw [ec] at e5
          cases e5
          exact .inr ⟨n4, c, ec', ic.keeps hk⟩
  · intro x c e
    obtain ⟨v, q⟩ := I.cell x c (S.look x c e)
    exact ⟨v, q.keeps hk⟩
  · exact I.hok.fresh (Nat.le_refl _)
  · intro x c e
    exact I.freeC x c (S.look x c e)
  · intro p hp
    have hp' : p ∈ X.pn ++ pins := by
      have : p ∈ (X.pn ++ pins) ++ [] := hp
      rwa [List.append_nil] at this
    obtain ⟨e, n, ne, nf, d⟩ := I.pin p hp'
    refine ⟨hk _ _ e, n, Nat.ne_of_lt (Heap.lt_size e), fun z => ?_, d⟩
    rcases List.mem_cons.mp (I.stkSub p.1 z) with z | z
    · exact ne z
    · exact nf z
  · exact I.hok.kept hk
  · show (List.replicate own.length none ++ ix.map fun i => (σ[i]?).join : St).length = (own ++ caps).length
    rw [List.length_append, List.length_replicate, List.length_map, List.length_append, S.capn]

noncomputable def PTs (X : Cx) (ifs : List Expr) (t : TT) : Prop :=
  ∀ (pins : List (Addr × Obj)) (s : Shared) (σ : St) (H : Hp) (Q : Bool → Hp → Prop), Inv X pins σ H s → t σ H Q →
    wpAny (model X.prog X.w) X.A (forIn ifs true fun c r => if r = true then do let ok ← isTrue c X.env (eval c X.env); pure (ForInStep.yield ok) else pure (ForInStep.yield r)) (TP X pins σ Q) X.xe s
noncomputable def tYes : TT := fun _ H Q => Q true H
theorem pts_nil : PTs X [] tYes := fun _ _ _ H _ I h => wpAny_tests_nil ⟨H, I, h⟩
theorem pts_one {c : Expr} {t : TT} (hc : PT X c t) : PTs X [c] t := fun pins s σ H Q I h => wpAny_tests_one (hc pins s σ H Q I h)

noncomputable def FrameS (n : Nat) (σ σ' : St) : Prop := σ'.length = σ.length ∧ ∀ i, n ≤ i → σ'[i]? = σ[i]?
noncomputable def OwnG (n : Nat) (g : TG) : Prop := ∀ v σ H Q, g v σ H Q → g v σ H fun σ' H' => Q σ' H' ∧ FrameS n σ σ'
noncomputable def OwnGs (n : Nat) (g : TGs) : Prop := ∀ vs σ H Q, g vs σ H Q → g vs σ H fun σ' H' => Q σ' H' ∧ FrameS n σ σ'
theorem FrameS.refl (n : Nat) (σ : St) : FrameS n σ σ := ⟨rfl, fun _ _ => rfl⟩
theorem FrameS.trans {n : Nat} {a b c : St} (x : FrameS n a b) (y : FrameS n b c) : FrameS n a c := ⟨y.1.trans x.1, fun i h => (y.2 i h).trans (x.2 i h)⟩
theorem own_name {n i : Nat} (h : i < n) : OwnG n (gName i) := fun v σ H Q q => ⟨q, by simp, fun j hj => List.getElem?_set_ne (by omega)⟩
theorem own_nil {n : Nat} : OwnGs n gNil := fun vs σ H Q q => ⟨q.1, q.2, FrameS.refl n σ⟩
noncomputable def MonoG (g : TG) : Prop := ∀ v σ H (Q Q' : St → Hp → Prop), (∀ σ' H', Q σ' H' → Q' σ' H') → g v σ H Q → g v σ H Q'
noncomputable def MonoGs (g : TGs) : Prop := ∀ vs σ H (Q Q' : St → Hp → Prop), (∀ σ' H', Q σ' H' → Q' σ' H') → g vs σ H Q → g vs σ H Q'
theorem mono_name {i : Nat} : MonoG (gName i) := fun _ _ _ _ _ f q => f _ _ q
theorem mono_nil : MonoGs gNil := fun _ _ _ _ _ f q => ⟨q.1, f _ _ q.2⟩
theorem mono_cons {t : TG} {u : TGs} (a : MonoG t) (b : MonoGs u) : MonoGs (gCons t u) := fun vs σ H Q Q' f q => by
  obtain ⟨v, r, e, q⟩ := q
  exact ⟨v, r, e, a _ _ _ _ _ (fun σ' H' z => b _ _ _ _ _ f z) q⟩
theorem mono_tup {K : PySem.W.Frag} {n : Nat} {t : TGs} (a : MonoGs t) : MonoG (gTup K n t) := fun v σ H Q Q' f q => by
  obtain ⟨p, xs, e, h1, h2, q⟩ := q
  exact ⟨p, xs, e, h1, h2, a _ _ _ _ _ f q⟩
theorem own_cons {n : Nat} {t : TG} {u : TGs} (a : OwnG n t) (m : MonoG t) (b : OwnGs n u) (m' : MonoGs u) : OwnGs n (gCons t u) := fun vs σ H Q q => by
  obtain ⟨v, r, e, q⟩ := q
  refine ⟨v, r, e, m _ _ _ _ _ (fun σ' H' z => ?_) (a _ _ _ _ q)⟩
  exact m' _ _ _ _ _ (fun σ2 H2 y => ⟨y.1, z.2.trans y.2⟩) (b _ _ _ _ z.1)
theorem own_tup {K : PySem.W.Frag} {n k : Nat} {t : TGs} (a : OwnGs n t) : OwnG n (gTup K k t) := fun v σ H Q q => by
  obtain ⟨p, xs, e, h1, h2, q⟩ := q
  exact ⟨p, xs, e, h1, h2, a _ _ _ _ q⟩

def compTurnT (g : TG) (tc : TT) (te : TE) (σ0 : St) (x : V) (H : Hp) (ys : List V) (N : List V → Hp → Prop) : Prop :=
  g x σ0 H fun σ2 H2 => tc σ2 H2 fun b H3 => if b = true then te σ2 H3 fun y H4 => N (ys ++ [y]) H4 else N ys H3
noncomputable def tCompI (own : Nat) (ix : List Nat) (wi : TI) (g : TG) (tc : TT) (te : TE) (σ : St) (H : Hp) (F : List V → Hp → Prop) : Prop :=
  wi σ H fun J H1 => ∃ W : Nat → Nat → List V → Hp → Prop, (∃ m, W 0 m [] H1) ∧ ∀ i m ys H, W i m ys H →
    (J.stop i H ∧ F ys H) ∨ (J.go i H ∧ ys.length < sizeLine ∧ ∃ N : List V → Hp → Prop, (∀ zs H', N zs H' → ∃ m', m' < m ∧ W (i + 1) m' zs H') ∧
      ∀ x H', J.yld i H x H' → compTurnT g tc te (compSt own ix σ) x H' ys N)

theorem comp_block {elt iter tg : Expr} {ifs : List Expr} {pos : Pos} {pins : List (Addr × Obj)} {σ : St} {s2 : Shared} {itv : Value} {g : TG} {tc : TT} {te : TE} {F : List V → Hp → Prop} {RR : Value → Addr → Result → Shared → Prop} {E : Value → Shared → Prop}
    (S : CompScope X scope cl own caps ix) (hc : X.calm = true)
    (hg : ∀ C s3 H1 ex pn, PG (compCx X scope cl (own ++ caps) C s3 H1 ex pn) tg g) (og : OwnG own.length g) (mg : MonoG g)
    (ht : ∀ C s3 H1 ex pn, PTs (compCx X scope cl (own ++ caps) C s3 H1 ex pn) ifs tc)
    (he : ∀ C s3 H1 ex pn, PE (compCx X scope cl (own ++ caps) C s3 H1 ex pn) elt te)
    (h : PIE X pins σ tg (fun J H1 => ∃ W : Nat → Nat → List V → Hp → Prop, (∃ m, W 0 m [] H1) ∧ ∀ i m ys H, W i m ys H →
      (J.stop i H ∧ F ys H) ∨ (J.go i H ∧ ys.length < sizeLine ∧ ∃ N : List V → Hp → Prop, (∀ zs H', N zs H' → ∃ m', m' < m ∧ W (i + 1) m' zs H') ∧
        ∀ x H', J.yld i H x H' → compTurnT g tc te (compSt own.length ix σ) x H' ys N)) itv s2)
    (hRR : ∀ D C m H' ys s', Inv X pins σ (upd H' D (.lst ys)) s' → FpOk X pins (upd H' D (.lst ys)) C → s'.heap.Ns C m → H' D = none → F ys H' → RR (.ref D) C (.ok .next) s') :
    wpAny (model X.prog X.w) X.A (newList []) (fun acc s3 => wpAny (model X.prog X.w) X.A (newFunctionEnv scope X.env.globals cl [] X.env.qual none .none (some X.env)) (fun cenv s4 =>
      codeAny (model X.prog X.w) X.A (.compStart (.ListComp elt [⟨tg, iter, ifs, 0⟩] scope pos) 0 itv acc { cenv with scope := relabel scope X.env }) (RR acc cenv.locals) s4) E s3) E s2 := by
  obtain ⟨it, fp, tn, J, H1, e, I2, T, st2, f2, W, ⟨m0, w0⟩, turn⟩ := h
  subst e
  refine wpAny_newObj_type (wpAny_newFunctionEnv S.cell (by intro y hy; simp at hy) (fun h1 hns1 hsb1 => ?_) S.kind)
  dsimp only at hns1 hsb1 ⊢
  generalize hH2 : s2.heap.push { cls := .type "list", dict := none, data := .seq ([] : List Value).toArray } = h2 at hns1 hsb1 ⊢
  have keep2 : ∀ b o, s2.heap.get? b = some o → h2.get? b = some o := fun b o e => hH2 ▸ Heap.get?_push_of_some _ e
  have sz2 : h2.objs.size = s2.heap.objs.size + 1 := by rw [← hH2, Heap.size_push]
  have hDC : s2.heap.objs.size ≠ h2.objs.size := by omega
  have keep1 : ∀ b o, h2.get? b = some o → h1.get? b = some o := fun b o e => hsb1.extBut b o (Nat.ne_of_lt (Heap.lt_size e)) (Heap.get?_push_of_some _ e)
  have getD2 : h2.get? s2.heap.objs.size = some { cls := .type "list", dict := none, data := .seq ([] : List Value).toArray } := hH2 ▸ Heap.get?_push_size _ rfl
  have I3 : Inv X pins σ H1 { s2 with heap := h2, toks := s2.toks } := I2.kept keep2
  have fD : FpOk X pins H1 s2.heap.objs.size := I2.fpOk (Nat.le_refl _) I2.fresh
  have fDs : ∀ {H' : Hp}, H' s2.heap.objs.size = none → FpOk X pins H' s2.heap.objs.size := fun hn => ⟨hn, fD.2⟩
  have fpLt : ∀ b ∈ fp, b < s2.heap.objs.size := fun b hb => by
    obtain ⟨o, e, _⟩ := T.obj _ _ st2 b hb
    exact Heap.lt_size e
  have hDfp : s2.heap.objs.size ∉ fp := fun z => Nat.lt_irrefl _ (fpLt _ z)
  have exOk : ∀ b ∈ s2.heap.objs.size :: fp, b < h2.objs.size ∧ b ≠ X.env.locals ∧ b ∉ X.fs ∧ (b ∈ X.ex ∨ X.s₀.heap.objs.size ≤ b) ∧ ∀ x c, X.env.cells.lookup x = some c → c ≠ b := fun b hb => by
    rcases List.mem_cons.mp hb with rfl | hb
    · exact ⟨by omega, fD.2.1, fD.2.2.1, fD.2.2.2.1, fD.2.2.2.2.1⟩
    · have := fpLt b hb
      obtain ⟨_, a1, a2, a3, a4, _⟩ := f2 b hb
      exact ⟨by rw [sz2]; exact Nat.lt_succ_of_lt this, a1, a2, a3, a4⟩
  have I4 : Inv (compCx X scope cl (own ++ caps) h2.objs.size { s2 with heap := h2, toks := s2.toks } H1 (s2.heap.objs.size :: fp) pins) [] (compSt own.length ix σ) H1 { s2 with heap := h1, toks := s2.toks + ([] : List (Str × Value)).length } :=
    comp_inv S I3 exOk hns1 keep1
  generalize hX : compCx X scope cl (own ++ caps) h2.objs.size { s2 with heap := h2, toks := s2.toks } H1 (s2.heap.objs.size :: fp) pins = Y at I4
  have HG : PG Y tg g := by rw [← hX]; exact hg _ _ _ _ _
  have HT : PTs Y ifs tc := by rw [← hX]; exact ht _ _ _ _ _
  have HE : PE Y elt te := by rw [← hX]; exact he _ _ _ _ _
  have eP : Y.prog = X.prog := by rw [← hX]; rfl
  have eW : Y.w = X.w := by rw [← hX]; rfl
  have eK : Y.K = X.K := by rw [← hX]; rfl
  have eA : Y.A = X.A := by rw [← hX]; rfl
  have eC : Y.calm = true := by rw [← hX]; exact hc
  have eE : Y.xe = noE := by rw [← hX]; rfl
  have eEnv : Y.env = compEnvC scope cl h2.objs.size X.env := by rw [← hX]; rfl
  have eEx : Y.ex = s2.heap.objs.size :: fp := by rw [← hX]; rfl
  have ePn : Y.pn = X.pn ++ pins := by rw [← hX]; rfl
  have eFs : Y.fs = frs X.stack := by rw [← hX]; rfl
  have eCells : ∀ x c, Y.env.cells.lookup x = some c → X.env.cells.lookup x = some c := fun x c e => by
    rw [eEnv] at e
    exact S.look x c e
  have eLoc : Y.env.locals = h2.objs.size := by rw [eEnv]; rfl
  -- the block's own records may turn
  have fY : ∀ {pl : List (Addr × Obj)} {H' : Hp} {b : Addr}, b ∈ s2.heap.objs.size :: fp → H' b = none → (∀ p ∈ pl, p.1 ≠ b) → FpOk Y pl H' b := fun {pl H' b} hb hn hpl => by
    obtain ⟨l, a1, a2, a3, a4⟩ := exOk b hb
    refine ⟨hn, by rw [eLoc]; exact Nat.ne_of_lt l, fun z => ?_, .inl (by rw [eEx]; exact hb), fun x c e => a4 x c (eCells x c e), fun p hp => ?_⟩
    · rw [eFs] at z
      rcases List.mem_cons.mp (I3.stkSub b z) with z | z
      · exact a1 z
      · exact a2 z
    · rcases List.mem_append.mp hp with z | z
      · rw [ePn] at z
        rcases List.mem_cons.mp hb with rfl | hb
        · exact fD.2.2.2.2.2 p z
        · exact (f2 b hb).2.2.2.2.2 p z
      · exact hpl p z
  let IV : Nat → Shared → Prop := fun n s' => ∃ i ys its c H', Inv Y [] (compSt own.length ix σ) H' s' ∧ tn i s'.heap ∧ (∀ b ∈ fp, H' b = none) ∧ H' s2.heap.objs.size = none ∧ Vals ys its ∧
    s'.heap.get? s2.heap.objs.size = some { cls := .type "list", data := .seq its.toArray c } ∧ ys.length ≤ sizeLine ∧ W i n ys H'
  have loop : ∀ s3 : Shared, s3 = { s2 with heap := h1, toks := s2.toks + ([] : List (Str × Value)).length } →
      codeAny (model X.prog X.w) X.A (.compLoop (.ListComp elt [⟨tg, iter, ifs, 0⟩] scope pos) 0 (.ref it) (.ref s2.heap.objs.size) (compEnvC scope cl h2.objs.size X.env)) (RR (.ref s2.heap.objs.size) h2.objs.size) s3 := by
    rintro s3 rfl
    refine compLoop_go IV ?_ m0 ⟨0, [], [], _, H1, I4, T.keep _ _ _ st2 fun b _ o e => keep1 b o (keep2 b o e), fun b hb => (f2 b hb).1, I2.fresh, .nil, keep1 _ _ getD2, Nat.zero_le _, w0⟩
    rintro n s5 ⟨i, ys, its, c, H5, I5, st5, fr5, nD5, v5, gD5, z5, w5⟩
    have I5p : Inv Y [(s2.heap.objs.size, { cls := .type "list", data := .seq its.toArray c })] (compSt own.length ix σ) H5 s5 := I5.pins_of fun p hp => by
      have e : p = (s2.heap.objs.size, { cls := .type "list", data := .seq its.toArray c }) := by simpa using hp
      subst e
      obtain ⟨_, b1, b2, _⟩ := fY (pl := []) (H' := H5) (b := s2.heap.objs.size) List.mem_cons_self nD5 (fun p hp => nomatch hp)
      exact ⟨gD5, nD5, b1, b2, fun v z => by cases z⟩
    have fps : ∀ {H' : Hp}, (∀ b ∈ fp, H' b = none) → ∀ b ∈ fp, FpOk Y [(s2.heap.objs.size, { cls := .type "list", data := .seq its.toArray c })] H' b := fun hn b hb =>
      fY (List.mem_cons_of_mem _ hb) (hn b hb) fun p hp => by
        have e : p = (s2.heap.objs.size, { cls := .type "list", data := .seq its.toArray c }) := by simpa using hp
        subst e
        exact fun z => hDfp (by have z' : s2.heap.objs.size = b := z; rw [z']; exact hb)
    rcases turn i n ys H5 w5 with ⟨stop, fin⟩ | ⟨go, hlen, N, hN, step⟩
    · have q := T.done Y eP eW eK eC i _ s5 _ H5 noE I5p (fps fr5) st5 stop
      rw [eA] at q
      refine thn q fun r s6 ⟨hr, I6⟩ => ?_
      subst hr
      have gD6 := (I6.pin (s2.heap.objs.size, { cls := .type "list", data := .seq its.toArray c }) (List.mem_append_right _ (by simp))).1
      have u6 : Un (frs X.stack) (s2.heap.objs.size :: fp) H1 H5 h2 s6.heap := by
        have := I6.base
        rw [eFs, eEx] at this
        rw [← hX] at this
        exact this
      have os6 : s6.os = s2.os := by
        have := I6.os
        rw [← hX] at this
        exact this
      have hok6 : HOk X.prog X.w H5 s6.heap := by
        have := I6.hok
        rw [eP, eW] at this
        exact this
      have J6 : Inv X pins σ H5 s6 := I3.call' (s' := s6) os6 u6 hok6 I6.bare fun b hb => by
        obtain ⟨l, a1, a2, a3, a4⟩ := exOk b hb
        refine ⟨a3, a1, a4, ?_⟩
        rcases List.mem_cons.mp hb with rfl | hb
        · exact fD.2.2.2.2.2
        · exact (f2 b hb).2.2.2.2.2
      have J7 : Inv X pins σ (upd H5 s2.heap.objs.size (.lst ys)) s6 := J6.track (fDs nD5) ⟨z5, its, c, v5, gD6⟩
      obtain ⟨mC, hC, _⟩ := I6.loc
      rw [eLoc] at hC
      have nC : H5 h2.objs.size = none := by
        have := I6.free
        rw [eLoc] at this
        exact this
      refine hRR _ _ mC H5 ys s6 J7 (I3.fpOk (Nat.le_refl _) ?_) hC nD5 fin
      show upd H5 s2.heap.objs.size (.lst ys) h2.objs.size = none
      rw [upd_ne (Ne.symm hDC)]
      exact nC
    · have q := T.item Y eP eW eK eC i _ s5 _ H5 noE I5p (fps fr5) st5 go
      rw [eA] at q
      refine thn q fun r s6 ⟨u, hr, h6⟩ => ?_
      subst hr
      refine thn h6 fun _ s7 ⟨x, H7, I7, r7, y7, st7, fr7⟩ => ?_
      have I7p := I7.pinned (fps fr7) (T.obj _ _ st7)
      have st := og _ _ _ _ (step x H7 y7)
      have q2 := HG _ s7 _ H7 x u _ I7p r7 st
      rw [eE, eP, eW, eA, eEnv] at q2
      refine thn q2 fun _ s8 ⟨σ8, H8, I8, q8, fr8⟩ => ?_
      have q3 := HT _ s8 σ8 H8 _ I8 q8
      rw [eE, eP, eW, eA, eEnv] at q3
      refine thn q3 fun ok s9 ⟨H9, I9, q9⟩ => ?_
      -- what every end of the turn has
      have back : ∀ {H' : Hp} {s' : Shared}, Inv Y ([(s2.heap.objs.size, ({ cls := .type "list", data := .seq its.toArray c } : Obj))] ++ pinsAt fp s7.heap) σ8 H' s' →
          Inv Y [] (compSt own.length ix σ) H' s' ∧ tn (i + 1) s'.heap ∧ (∀ b ∈ fp, H' b = none) ∧ H' s2.heap.objs.size = none ∧ s'.heap.get? s2.heap.objs.size = some { cls := .type "list", data := .seq its.toArray c } := fun {H' s'} I' => by
        have pD := I'.pin (s2.heap.objs.size, { cls := .type "list", data := .seq its.toArray c }) (List.mem_append_right _ (List.mem_append_left _ (by simp)))
        refine ⟨(I'.pins_of (pins' := []) fun p hp => nomatch hp).weak fr8.1.symm fun j v e => ?_, T.keep _ _ _ st7 fun b hb o e => (I'.pin (b, o) (List.mem_append_right _ (List.mem_append_right _ (mem_pinsAt hb e)))).1, fun b hb => ?_, pD.2.1, pD.1⟩
        · by_cases hj : j < own.length
          · have e' : (List.replicate own.length none ++ ix.map fun i => (σ[i]?).join : St)[j]? = some (some v) := e
            rw [List.getElem?_append_left (by simpa using hj), List.getElem?_replicate, if_pos hj] at e'
            cases e'
          · rw [fr8.2 j (Nat.le_of_not_lt hj)]
            exact e
        · obtain ⟨o, e, d⟩ := T.obj _ _ st7 b hb
          exact (I'.pin (b, o) (List.mem_append_right _ (List.mem_append_right _ (mem_pinsAt hb e)))).2.1
      cases ok with
      | false =>
        obtain ⟨m', hm, w9⟩ := hN _ _ (show N ys H9 from q9)
        obtain ⟨b1, b2, b3, b4, b5⟩ := back I9
        exact ⟨m', hm, i + 1, ys, its, c, H9, b1, b2, b3, b4, v5, b5, z5, w9⟩
      | true =>
        have q9' : te σ8 H9 fun y H4 => N (ys ++ [y]) H4 := q9
        have q4 := HE _ s9 σ8 H9 _ I9 q9'
        rw [eE, eP, eW, eA, eEnv] at q4
        refine thn q4 fun yv s10 ⟨y, H10, I10, r10, n10⟩ => ?_
        obtain ⟨b1, b2, b3, b4, b5⟩ := back I10
        obtain ⟨m', hm, w10⟩ := hN _ _ n10
        have hl := v5.length
        refine call_meets PySem.F.slot_list_append ⟨_, b5, rfl⟩ PySem.F.entry_list_append (PySem.F.args_list_append_2 _ _) (PySem.list_append s2.heap.objs.size its.toArray c yv (by rw [List.size_toArray]; omega)) ⟨b5, ?_⟩
        have q5 := PySem.IsL.update b5 (fun a => a.push yv)
        have e5 : its.toArray.push yv = (its ++ [yv]).toArray := by simp
        rw [e5] at q5
        have k5 : ∀ b o, b ≠ s2.heap.objs.size → s10.heap.get? b = some o → (s10.heap.update s2.heap.objs.size (Obj.mapSeq fun a => a.push yv)).get? b = some o := fun b o hb e =>
          (Heap.get?_update_other s10.heap (Obj.mapSeq fun a => a.push yv) (Ne.symm hb)).trans e
        obtain ⟨f0, f1, f2', f3, f4, f5⟩ := fY (pl := []) (H' := H10) (b := s2.heap.objs.size) List.mem_cons_self b4 (fun p hp => nomatch hp)
        have b1' := b1.turned (t' := s10.toks) k5 f0 f1 f3 f4 f5
        refine ⟨m', hm, i + 1, ys ++ [y], its ++ [yv], _, H10, b1', T.keep _ _ _ b2 fun b hb o e => k5 b o (fun z => hDfp (by rw [← z]; exact hb)) e, b3, b4, v5.append (.cons r10 .nil), q5, ?_, w10⟩
        · rw [List.length_append, List.length_singleton]
          omega
  exact codeAny_compStart_list (loop _ rfl) (T.self _ 0 _ _ _ (T.keep _ _ _ st2 fun b _ o e => keep1 b o (keep2 b o e)) (loop _ rfl))

noncomputable def tComp (own : Nat) (ix : List Nat) (wi : TI) (g : TG) (tc : TT) (te : TE) : TE := fun σ H Q => tCompI own ix wi g tc te σ H fun ys H' => ∀ D, H' D = none → Q (.ref D) (upd H' D (.lst ys))
theorem pe_comp {elt iter tg : Expr} {ifs : List Expr} {pos : Pos} {wi : TI} {g : TG} {tc : TT} {te : TE} (own caps : List Str) (ix : List Nat)
    (hc : X.calm = true) (S : CompScope X scope cl own caps ix) (hi : PI X tg iter wi)
    (hg : ∀ C s3 H1 ex pn, PG (compCx X scope cl (own ++ caps) C s3 H1 ex pn) tg g) (og : OwnG own.length g) (mg : MonoG g)
    (ht : ∀ C s3 H1 ex pn, PTs (compCx X scope cl (own ++ caps) C s3 H1 ex pn) ifs tc)
    (he : ∀ C s3 H1 ex pn, PE (compCx X scope cl (own ++ caps) C s3 H1 ex pn) elt te)
    (hs : ∀ x, foldedSetIterable iter X.env x = pure x := by intro _; rfl) :
    PE X (.ListComp elt [⟨tg, iter, ifs, 0⟩] scope pos) (tComp own.length ix wi g tc te) := by
  intro pins s σ H Q I h
  rw [eval_ListComp]
  refine wpAny_comprehension_free (use := none) rfl hs (closure_capt S.clos) S.kind S.names (thn (hi pins s σ H _ I h) fun v s1 h1 => thn h1 fun itv s2 h2 => ?_)
  refine comp_block (RR := fun acc C => compPost (model X.prog X.w) X.A X.xe none (EP X pins σ Q) acc C) S hc hg og mg ht he h2 ?_
  intro D C m H' ys s' I' fC hn hD fin
  refine ⟨m, hn, fun h' sb => ?_⟩
  obtain ⟨f0, f1, f2, f3, f4, f5⟩ := fC
  have I2 := I'.turned (t' := s'.toks) (h' := h') (it := C) (fun b o hb e => (sb.2 b hb).trans e) f0 f1 f3 f4 f5
  exact ⟨.ref D, _, I2, rfl, fin D hD⟩

theorem ps_comp {elt iter tg : Expr} {ifs : List Expr} {pos pos' spos : Pos} {x : Str} {i : Nat} {wi : TI} {g : TG} {tc : TT} {te : TE} (own caps : List Str) (ix : List Nat)
    (hc : X.calm = true) (hN : X.N.Nodup) (hx : X.N[i]? = some x) (hl : Loc X.env.scope x) (S : CompScope X scope cl own caps ix) (hi : PI X tg iter wi)
    (hg : ∀ C s3 H1 ex pn, PG (compCx X scope cl (own ++ caps) C s3 H1 ex pn) tg g) (og : OwnG own.length g) (mg : MonoG g)
    (ht : ∀ C s3 H1 ex pn, PTs (compCx X scope cl (own ++ caps) C s3 H1 ex pn) ifs tc)
    (he : ∀ C s3 H1 ex pn, PE (compCx X scope cl (own ++ caps) C s3 H1 ex pn) elt te)
    (hsw : swapsWith (.ListComp elt [⟨tg, iter, ifs, 0⟩] scope pos) (some (.Name x pos')) spos.line X.env = pure true := by rfl)
    (hf : X.fn x = true ∨ X.env.scope.names.lookup x = some .local := by first | exact .inl rfl | exact .inr rfl | assumption)
    (hs : ∀ x, foldedSetIterable iter X.env x = pure x := by intro _; rfl) :
    PS X (.Assign [.Name x pos'] (.ListComp elt [⟨tg, iter, ifs, 0⟩] scope pos) spos) (tAsg (tComp own.length ix wi g tc te) (gName i)) := by
  intro pins s σ H D I h
  rw [exec_Assign_Name_used _ _ _ _ hsw]
  refine wpAny_bind (wpAny_standAt (wpAny_bind ?_))
  show wpAny _ X.A (do let _ ← comprehension (.ListComp elt [⟨tg, iter, ifs, 0⟩] scope pos) scope X.env _ (newList []) false (eval iter X.env) (some (assign (.Name x pos') X.env))) _ _ s
  refine wpAny_bind (wpAny_mono (wpAny_comprehension_free (use := some (assign (.Name x pos') X.env)) (Q := fun _ s' => SP X pins D .next s') rfl hs (closure_capt S.clos) S.kind S.names
    (thn (hi pins s σ H _ I h) fun v s1 h1 => thn h1 fun itv s2 h2 => ?_)) (fun _ s' hq => wpAny_pure (wpAny_pure hq)) fun _ _ e => e)
  refine comp_block (RR := fun acc C => compPost (model X.prog X.w) X.A X.xe (some (assign (.Name x pos') X.env)) (fun _ s' => SP X pins D .next s') acc C) S hc hg og mg ht he h2 ?_
  intro D' C m H' ys s' I' fC hn hD fin
  obtain ⟨f0, f1, f2, f3, f4, f5⟩ := fC
  obtain ⟨oC, es, ep, hoC, hdC, hr⟩ := id hn
  show wpAny _ X.A (assign (.Name x pos') X.env (.ref D')) _ _ _
  have Ip : Inv X (pins ++ [(C, oC)]) σ (upd H' D' (.lst ys)) s' := I'.pins_of fun p hp => (List.mem_append.mp hp).elim (fun z => I'.pin p (List.mem_append_right _ z)) fun z => by
    have e : p = (C, oC) := by simpa using z
    subst e
    exact ⟨hoC, f0, f1, f2, fun v z => by rw [hdC] at z; cases z⟩
  refine thn (pg_name hN hx hl hf (pins ++ [(C, oC)]) s' σ _ (.ref D') (.ref D') _ Ip rfl (fin D' hD)) fun _ s3 ⟨σ3, H3, I3, q3⟩ => ?_
  have pC := I3.pin (C, oC) (List.mem_append_right _ (List.mem_append_right _ (by simp)))
  refine ⟨m, ⟨oC, es, ep, pC.1, hdC, hr⟩, fun h' sb => ?_⟩
  have I4 : Inv X pins σ3 H3 s3 := I3.unpinned
  exact ⟨σ3, H3, I4.turned (t' := s3.toks) (h' := h') (it := C) (fun b o hb e => (sb.2 b hb).trans e) pC.2.1 f1 f3 f4 f5, q3⟩
end
end L2

set_option Elab.async false
set_option linter.all false
set_option maxRecDepth 100000
set_option maxHeartbeats 4000000
namespace L2
open PySem PySem.Spec PyProof.Rows
section
variable {prog : Program} {w : World} {A : Around} {R : Result → Shared → Prop} {I : Addr} {fp wr : List Addr} {n : Nat} {P : Nat → Value → Prop} {St : Nat → Heap → Prop}

theorem max_more (W : Walks prog w A.in1 I fp wr n P St) (bt : Nat → Nat → Bool) (hcmp : CmpOf prog w A.in1 .Gt P bt) (S : Addr) (hSf : S ∉ fp) (kw : List (Str × Value)) :
    ∀ (k j : Nat) (s : Shared) (vb : Value) (c : Nat), n - (j + 1) = k → j + 1 ≤ n → St (j + 1) s.heap → P (argBest bt j) vb →
    s.heap.get? S = some { cls := .type "list", dict := none, data := .seq #[vb, vb] c, slots := #[] } →
    (∀ v h' tk, P (argBest bt (n - 1)) v → (∀ b o, b ∉ wr → b ≠ S → s.heap.get? b = some o → h'.get? b = some o) → R (.ok (.ret v)) { s with heap := h', toks := tk }) →
    codeAny (model prog w) A (.builtin "max.loop" ⟨[.ref I, .none, .ref S], kw⟩) R s := by
  have hSw : S ∉ wr := fun h => hSf (W.sub _ h)
  have hname : (toString "max" ++ toString ".loop" : String) = "max.loop" := by decide
  intro k
  induction k with
  | zero =>
    intro j s vb c hk hj hst hPb hS hR
    have hin : j + 1 = n := by omega
    refine codeAny_builtin PySem.F.entry_max_loop ?_
    rw [Around.under_plainId PySem.F.plain_max_loop _]
    show wpAny _ A.in1 (seqItems? (.ref S) >>= _) _ _ s
    refine wpAny_bind (wpAny_seqItems hS rfl ?_)
    show wpAny _ A.in1 (tryCatch (pyNext (.ref I)) _ >>= _) _ _ s
    refine wpAny_bind (wpAny_tryCatch (W.done s _ _ (hin ▸ hst) fun h' tk hk' => ?_))
    have hS' := hk' S _ hSw hS
    show wpAny _ A.in1 (updateSeq S (fun _ => #[]) >>= _) _ _ _
    refine wpAny_bind ?_
    refine wpAny_updateSeq hS' rfl (wpAny_bind (wpAny_letGo (wpAny_pure ?_)))
    refine hR vb _ tk (by rw [← hin]; exact hPb) fun b o hbw hbS e => (Heap.get?_update_other _ _ (Ne.symm hbS)).trans (hk' b o hbw e)
  | succ k ih =>
    intro j s vb c hk hj hst hPb hS hR
    have hlt : j + 1 < n := by omega
    refine codeAny_builtin PySem.F.entry_max_loop ?_
    rw [Around.under_plainId PySem.F.plain_max_loop _]
    show wpAny _ A.in1 (seqItems? (.ref S) >>= _) _ _ s
    refine wpAny_bind (wpAny_seqItems hS rfl ?_)
    show wpAny _ A.in1 (tryCatch (pyNext (.ref I)) _ >>= _) _ _ s
    refine wpAny_bind (wpAny_tryCatch (W.item (j + 1) s _ _ hlt hst fun v h' tk hP hst' hk' => ?_))
    have hS' := hk' S _ hSw hS
    show wpAny _ A.in1 (tryCatch (holding [v, v] (richCompare .Gt v vb >>= _)) _ >>= _) _ _ _
    refine wpAny_bind (wpAny_tryCatch (wpAny_holding (wpAny_bind (hcmp (j + 1) (argBest bt j) v vb _ _ _ hP hPb ?_))))
    refine wpAny_bind (wpAny_holding (wpAny_truthy_bool ?_))
    refine wpAny_bind (wpAny_letGo (wpAny_pure ?_))
    cases hb : bt (j + 1) (argBest bt j) with
    | true =>
      simp only [if_true]
      refine wpAny_bind ?_
      refine wpAny_updateSeq hS' rfl (wpAny_bind (wpAny_letGo ?_))
      rw [hname]
      refine wpAny_pure ⟨plainId_quiet PySem.F.plain_max_loop _, ih (j + 1) _ v _ (by omega) hlt (W.frame _ _ _ hst' fun b hbf o e => ?_) (by simp only [argBest, hb, if_true]; exact hP) (Heap.get?_update_self _ hS' rfl)
        fun v' h'' tk'' hP' hk'' => ?_⟩
      · exact (Heap.get?_update_other _ _ (fun h : S = b => hSf (by rw [h]; exact hbf))).trans e
      · exact hR v' h'' tk'' hP' fun b o hbw hbS e => hk'' b o hbw hbS ((Heap.get?_update_other _ _ (Ne.symm hbS)).trans (hk' b o hbw e))
    | false =>
      simp only [Bool.false_eq_true, if_false]
      refine wpAny_bind (wpAny_letGo ?_)
      rw [hname]
      refine wpAny_pure ⟨plainId_quiet PySem.F.plain_max_loop _, ih (j + 1) _ vb c (by omega) hlt hst' (by simp only [argBest, hb, Bool.false_eq_true, if_false]; exact hPb) hS' fun v' h'' tk'' hP' hk'' => ?_⟩
      exact hR v' h'' tk'' hP' fun b o hbw hbS e => hk'' b o hbw hbS (hk' b o hbw e)

theorem max_first (W : Walks prog w A.in1 I fp wr n P St) (bt : Nat → Nat → Bool) (hcmp : CmpOf prog w A.in1 .Gt P bt) (S : Addr) (hSf : S ∉ fp) (kw : List (Str × Value)) (hn : 0 < n) {s : Shared} {c : Nat} (hst : St 0 s.heap)
    (hS : s.heap.get? S = some { cls := .type "list", dict := none, data := .seq #[] c, slots := #[] })
    (hR : ∀ v h' tk, P (argBest bt (n - 1)) v → (∀ b o, b ∉ wr → b ≠ S → s.heap.get? b = some o → h'.get? b = some o) → R (.ok (.ret v)) { s with heap := h', toks := tk }) :
    codeAny (model prog w) A (.builtin "max.loop" ⟨[.ref I, .none, .ref S], kw⟩) R s := by
  have hSw : S ∉ wr := fun h => hSf (W.sub _ h)
  have hname : (toString "max" ++ toString ".loop" : String) = "max.loop" := by decide
  refine codeAny_builtin PySem.F.entry_max_loop ?_
  rw [Around.under_plainId PySem.F.plain_max_loop _]
  show wpAny _ A.in1 (seqItems? (.ref S) >>= _) _ _ s
  refine wpAny_bind (wpAny_seqItems hS rfl ?_)
  show wpAny _ A.in1 (tryCatch (pyNext (.ref I)) _ >>= _) _ _ s
  refine wpAny_bind (wpAny_tryCatch (W.item 0 s _ _ hn hst fun v h' tk hP hst' hk' => ?_))
  have hS' := hk' S _ hSw hS
  show wpAny _ A.in1 (updateSeq S (fun _ => #[v, v]) >>= _) _ _ _
  refine wpAny_bind ?_
  refine wpAny_updateSeq hS' rfl ?_
  rw [hname]
  refine wpAny_pure ⟨plainId_quiet PySem.F.plain_max_loop _, max_more W bt hcmp S hSf kw _ 0 _ v _ rfl hn (W.frame _ _ _ hst' fun b hbf o e => ?_) hP (Heap.get?_update_self _ hS' rfl) fun v' h'' tk'' hP' hk'' => ?_⟩
  · exact (Heap.get?_update_other _ _ (fun h : S = b => hSf (by rw [h]; exact hbf))).trans e
  · exact hR v' h'' tk'' hP' fun b o hbw hbS e => hk'' b o hbw hbS ((Heap.get?_update_other _ _ (Ne.symm hbS)).trans (hk' b o hbw e))

theorem max_none (W : Walks prog w A.in1 I fp wr n P St) (S : Addr) (hSf : S ∉ fp) (kn : Str) (d : Value) (hn : n = 0) {s : Shared} {c : Nat} (hst : St 0 s.heap)
    (hS : s.heap.get? S = some { cls := .type "list", dict := none, data := .seq #[] c, slots := #[] })
    (hR : ∀ h' tk, (∀ b o, b ∉ wr → s.heap.get? b = some o → h'.get? b = some o) → R (.ok (.ret d)) { s with heap := h', toks := tk }) :
    codeAny (model prog w) A (.builtin "max.loop" ⟨[.ref I, .none, .ref S], [(kn, d)]⟩) R s := by
  refine codeAny_builtin PySem.F.entry_max_loop ?_
  rw [Around.under_plainId PySem.F.plain_max_loop _]
  show wpAny _ A.in1 (seqItems? (.ref S) >>= _) _ _ s
  refine wpAny_bind (wpAny_seqItems hS rfl ?_)
  show wpAny _ A.in1 (tryCatch (pyNext (.ref I)) _ >>= _) _ _ s
  refine wpAny_bind (wpAny_tryCatch (W.done s _ _ (hn ▸ hst) fun h' tk hk' => ?_))
  exact wpAny_bind (wpAny_rule (wpAny_pure (hR h' tk hk')))

theorem args_max_default (a v : Value) : argsOk "max" ⟨[a], [(Str.ofString "default", v)]⟩ := by unfold argsOk; kernel_rfl
theorem max_call {x d : Value} {s : Shared} {E : Value → Shared → Prop} {Q : Value → Shared → Prop}
    (h : wpAny (model prog w) A.in1 (pyIter x) (fun it s2 => ∃ I fp wr n P St bt, it = .ref I ∧ Walks prog w A.in1 I fp wr n P St ∧ St 0 s2.heap ∧ (∀ b ∈ fp, b < s2.heap.objs.size) ∧ CmpOf prog w A.in1 .Gt P bt ∧
      (n = 0 → ∀ h' tk, (∀ b o, b ∉ wr → s2.heap.get? b = some o → h'.get? b = some o) → Q d { s2 with heap := h', toks := tk }) ∧
      (0 < n → ∀ v h' tk, P (argBest bt (n - 1)) v → (∀ b o, b ∉ wr → s2.heap.get? b = some o → h'.get? b = some o) → Q v { s2 with heap := h', toks := tk })) E s) :
    wpAny (model prog w) A (call (.builtin "max") [x] [(Str.ofString "default", d)]) Q E s := by
  have hname : (toString "max" ++ toString ".loop" : String) = "max.loop" := by decide
  refine kmk_tree PySem.F.kind_max PySem.F.plain_max PySem.F.entry_max (args_max_default _ _) ?_
  show wpAny _ A.in1 (Builtin.Builtins.bindParams "max" ["key", "default"] 0 ⟨[], [(Str.ofString "default", d)]⟩ >>= _) _ _ s
  refine wpAny_bind (wpAny_of_eq (show Builtin.Builtins.bindParams "max" ["key", "default"] 0 ⟨[], [(Str.ofString "default", d)]⟩ = pure [none, some d] from by kernel_rfl) ?_)
  refine wpAny_bind (wpAny_pure ?_)
  refine wpAny_bind (wpAny_mono h (fun it s2 h2 => ?_) fun _ _ e => e)
  obtain ⟨I, fp, wr, n, P, St, bt, rfl, W, hst, hfp, hcmp, hQ0, hQ⟩ := h2
  refine wpAny_bind (wpAny_newObj_type ?_)
  have hSf : s2.heap.objs.size ∉ fp := fun hm => Nat.lt_irrefl _ (hfp _ hm)
  rw [hname]
  refine wpAny_pure ⟨plainId_quiet PySem.F.plain_max_loop _, ?_⟩
  by_cases hn : n = 0
  · exact max_none W s2.heap.objs.size hSf _ d hn (W.frame _ _ _ hst fun b _ o e => Heap.get?_push_of_some _ e) (Heap.get?_push_size _ rfl) fun h' tk hk => hQ0 hn h' tk fun b o hbw e => hk b o hbw (Heap.get?_push_of_some _ e)
  · exact max_first W bt hcmp s2.heap.objs.size hSf _ (Nat.pos_of_ne_zero hn) (W.frame _ _ _ hst fun b _ o e => Heap.get?_push_of_some _ e) (Heap.get?_push_size _ rfl) fun v h' tk hP hk =>
      hQ (Nat.pos_of_ne_zero hn) v h' tk hP fun b o hbw e => hk b o hbw (Nat.ne_of_lt (Heap.lt_size e)) (Heap.get?_push_of_some _ e)

theorem min_more (W : Walks prog w A.in1 I fp wr n P St) (bt : Nat → Nat → Bool) (hcmp : CmpOf prog w A.in1 .Lt P bt) (S : Addr) (hSf : S ∉ fp) (kw : List (Str × Value)) :
    ∀ (k j : Nat) (s : Shared) (vb : Value) (c : Nat), n - (j + 1) = k → j + 1 ≤ n → St (j + 1) s.heap → P (argBest bt j) vb →
    s.heap.get? S = some { cls := .type "list", dict := none, data := .seq #[vb, vb] c, slots := #[] } →
    (∀ v h' tk, P (argBest bt (n - 1)) v → (∀ b o, b ∉ wr → b ≠ S → s.heap.get? b = some o → h'.get? b = some o) → R (.ok (.ret v)) { s with heap := h', toks := tk }) →
    codeAny (model prog w) A (.builtin "min.loop" ⟨[.ref I, .none, .ref S], kw⟩) R s := by
  have hSw : S ∉ wr := fun h => hSf (W.sub _ h)
  have hname : (toString "min" ++ toString ".loop" : String) = "min.loop" := by decide
  intro k
  induction k with
  | zero =>
    intro j s vb c hk hj hst hPb hS hR
    have hin : j + 1 = n := by omega
    refine codeAny_builtin PySem.F.entry_min_loop ?_
    rw [Around.under_plainId PySem.F.plain_min_loop _]
    show wpAny _ A.in1 (seqItems? (.ref S) >>= _) _ _ s
    refine wpAny_bind (wpAny_seqItems hS rfl ?_)
    show wpAny _ A.in1 (tryCatch (pyNext (.ref I)) _ >>= _) _ _ s
    refine wpAny_bind (wpAny_tryCatch (W.done s _ _ (hin ▸ hst) fun h' tk hk' => ?_))
    have hS' := hk' S _ hSw hS
    show wpAny _ A.in1 (updateSeq S (fun _ => #[]) >>= _) _ _ _
    refine wpAny_bind ?_
    refine wpAny_updateSeq hS' rfl (wpAny_bind (wpAny_letGo (wpAny_pure ?_)))
    refine hR vb _ tk (by rw [← hin]; exact hPb) fun b o hbw hbS e => (Heap.get?_update_other _ _ (Ne.symm hbS)).trans (hk' b o hbw e)
  | succ k ih =>
    intro j s vb c hk hj hst hPb hS hR
    have hlt : j + 1 < n := by omega
    refine codeAny_builtin PySem.F.entry_min_loop ?_
    rw [Around.under_plainId PySem.F.plain_min_loop _]
    show wpAny _ A.in1 (seqItems? (.ref S) >>= _) _ _ s
    refine wpAny_bind (wpAny_seqItems hS rfl ?_)
    show wpAny _ A.in1 (tryCatch (pyNext (.ref I)) _ >>= _) _ _ s
    refine wpAny_bind (wpAny_tryCatch (W.item (j + 1) s _ _ hlt hst fun v h' tk hP hst' hk' => ?_))
    have hS' := hk' S _ hSw hS
    show wpAny _ A.in1 (tryCatch (holding [v, v] (richCompare .Lt v vb >>= _)) _ >>= _) _ _ _
    refine wpAny_bind (wpAny_tryCatch (wpAny_holding (wpAny_bind (hcmp (j + 1) (argBest bt j) v vb _ _ _ hP hPb ?_))))
    refine wpAny_bind (wpAny_holding (wpAny_truthy_bool ?_))
    refine wpAny_bind (wpAny_letGo (wpAny_pure ?_))
    cases hb : bt (j + 1) (argBest bt j) with
    | true =>
      simp only [if_true]
      refine wpAny_bind ?_
      refine wpAny_updateSeq hS' rfl (wpAny_bind (wpAny_letGo ?_))
      rw [hname]
      refine wpAny_pure ⟨plainId_quiet PySem.F.plain_min_loop _, ih (j + 1) _ v _ (by omega) hlt (W.frame _ _ _ hst' fun b hbf o e => ?_) (by simp only [argBest, hb, if_true]; exact hP) (Heap.get?_update_self _ hS' rfl)
        fun v' h'' tk'' hP' hk'' => ?_⟩
      · exact (Heap.get?_update_other _ _ (fun h : S = b => hSf (by rw [h]; exact hbf))).trans e
      · exact hR v' h'' tk'' hP' fun b o hbw hbS e => hk'' b o hbw hbS ((Heap.get?_update_other _ _ (Ne.symm hbS)).trans (hk' b o hbw e))
    | false =>
      simp only [Bool.false_eq_true, if_false]
      refine wpAny_bind (wpAny_letGo ?_)
      rw [hname]
      refine wpAny_pure ⟨plainId_quiet PySem.F.plain_min_loop _, ih (j + 1) _ vb c (by omega) hlt hst' (by simp only [argBest, hb, Bool.false_eq_true, if_false]; exact hPb) hS' fun v' h'' tk'' hP' hk'' => ?_⟩
      exact hR v' h'' tk'' hP' fun b o hbw hbS e => hk'' b o hbw hbS (hk' b o hbw e)

theorem min_first (W : Walks prog w A.in1 I fp wr n P St) (bt : Nat → Nat → Bool) (hcmp : CmpOf prog w A.in1 .Lt P bt) (S : Addr) (hSf : S ∉ fp) (kw : List (Str × Value)) (hn : 0 < n) {s : Shared} {c : Nat} (hst : St 0 s.heap)
    (hS : s.heap.get? S = some { cls := .type "list", dict := none, data := .seq #[] c, slots := #[] })
    (hR : ∀ v h' tk, P (argBest bt (n - 1)) v → (∀ b o, b ∉ wr → b ≠ S → s.heap.get? b = some o → h'.get? b = some o) → R (.ok (.ret v)) { s with heap := h', toks := tk }) :
    codeAny (model prog w) A (.builtin "min.loop" ⟨[.ref I, .none, .ref S], kw⟩) R s := by
  have hSw : S ∉ wr := fun h => hSf (W.sub _ h)
  have hname : (toString "min" ++ toString ".loop" : String) = "min.loop" := by decide
  refine codeAny_builtin PySem.F.entry_min_loop ?_
  rw [Around.under_plainId PySem.F.plain_min_loop _]
  show wpAny _ A.in1 (seqItems? (.ref S) >>= _) _ _ s
  refine wpAny_bind (wpAny_seqItems hS rfl ?_)
  show wpAny _ A.in1 (tryCatch (pyNext (.ref I)) _ >>= _) _ _ s
  refine wpAny_bind (wpAny_tryCatch (W.item 0 s _ _ hn hst fun v h' tk hP hst' hk' => ?_))
  have hS' := hk' S _ hSw hS
  show wpAny _ A.in1 (updateSeq S (fun _ => #[v, v]) >>= _) _ _ _
  refine wpAny_bind ?_
  refine wpAny_updateSeq hS' rfl ?_
  rw [hname]
  refine wpAny_pure ⟨plainId_quiet PySem.F.plain_min_loop _, min_more W bt hcmp S hSf kw _ 0 _ v _ rfl hn (W.frame _ _ _ hst' fun b hbf o e => ?_) hP (Heap.get?_update_self _ hS' rfl) fun v' h'' tk'' hP' hk'' => ?_⟩
  · exact (Heap.get?_update_other _ _ (fun h : S = b => hSf (by rw [h]; exact hbf))).trans e
  · exact hR v' h'' tk'' hP' fun b o hbw hbS e => hk'' b o hbw hbS ((Heap.get?_update_other _ _ (Ne.symm hbS)).trans (hk' b o hbw e))

theorem min_none (W : Walks prog w A.in1 I fp wr n P St) (S : Addr) (hSf : S ∉ fp) (kn : Str) (d : Value) (hn : n = 0) {s : Shared} {c : Nat} (hst : St 0 s.heap)
    (hS : s.heap.get? S = some { cls := .type "list", dict := none, data := .seq #[] c, slots := #[] })
    (hR : ∀ h' tk, (∀ b o, b ∉ wr → s.heap.get? b = some o → h'.get? b = some o) → R (.ok (.ret d)) { s with heap := h', toks := tk }) :
    codeAny (model prog w) A (.builtin "min.loop" ⟨[.ref I, .none, .ref S], [(kn, d)]⟩) R s := by
  refine codeAny_builtin PySem.F.entry_min_loop ?_
  rw [Around.under_plainId PySem.F.plain_min_loop _]
  show wpAny _ A.in1 (seqItems? (.ref S) >>= _) _ _ s
  refine wpAny_bind (wpAny_seqItems hS rfl ?_)
  show wpAny _ A.in1 (tryCatch (pyNext (.ref I)) _ >>= _) _ _ s
  refine wpAny_bind (wpAny_tryCatch (W.done s _ _ (hn ▸ hst) fun h' tk hk' => ?_))
  exact wpAny_bind (wpAny_rule (wpAny_pure (hR h' tk hk')))

theorem args_min_default (a v : Value) : argsOk "min" ⟨[a], [(Str.ofString "default", v)]⟩ := by unfold argsOk; kernel_rfl
theorem min_call {x d : Value} {s : Shared} {E : Value → Shared → Prop} {Q : Value → Shared → Prop}
    (h : wpAny (model prog w) A.in1 (pyIter x) (fun it s2 => ∃ I fp wr n P St bt, it = .ref I ∧ Walks prog w A.in1 I fp wr n P St ∧ St 0 s2.heap ∧ (∀ b ∈ fp, b < s2.heap.objs.size) ∧ CmpOf prog w A.in1 .Lt P bt ∧
      (n = 0 → ∀ h' tk, (∀ b o, b ∉ wr → s2.heap.get? b = some o → h'.get? b = some o) → Q d { s2 with heap := h', toks := tk }) ∧
      (0 < n → ∀ v h' tk, P (argBest bt (n - 1)) v → (∀ b o, b ∉ wr → s2.heap.get? b = some o → h'.get? b = some o) → Q v { s2 with heap := h', toks := tk })) E s) :
    wpAny (model prog w) A (call (.builtin "min") [x] [(Str.ofString "default", d)]) Q E s := by
  have hname : (toString "min" ++ toString ".loop" : String) = "min.loop" := by decide
  refine kmk_tree PySem.F.kind_min PySem.F.plain_min PySem.F.entry_min (args_min_default _ _) ?_
  show wpAny _ A.in1 (Builtin.Builtins.bindParams "min" ["key", "default"] 0 ⟨[], [(Str.ofString "default", d)]⟩ >>= _) _ _ s
  refine wpAny_bind (wpAny_of_eq (show Builtin.Builtins.bindParams "min" ["key", "default"] 0 ⟨[], [(Str.ofString "default", d)]⟩ = pure [none, some d] from by kernel_rfl) ?_)
  refine wpAny_bind (wpAny_pure ?_)
  refine wpAny_bind (wpAny_mono h (fun it s2 h2 => ?_) fun _ _ e => e)
  obtain ⟨I, fp, wr, n, P, St, bt, rfl, W, hst, hfp, hcmp, hQ0, hQ⟩ := h2
  refine wpAny_bind (wpAny_newObj_type ?_)
  have hSf : s2.heap.objs.size ∉ fp := fun hm => Nat.lt_irrefl _ (hfp _ hm)
  rw [hname]
  refine wpAny_pure ⟨plainId_quiet PySem.F.plain_min_loop _, ?_⟩
  by_cases hn : n = 0
  · exact min_none W s2.heap.objs.size hSf _ d hn (W.frame _ _ _ hst fun b _ o e => Heap.get?_push_of_some _ e) (Heap.get?_push_size _ rfl) fun h' tk hk => hQ0 hn h' tk fun b o hbw e => hk b o hbw (Heap.get?_push_of_some _ e)
  · exact min_first W bt hcmp s2.heap.objs.size hSf _ (Nat.pos_of_ne_zero hn) (W.frame _ _ _ hst fun b _ o e => Heap.get?_push_of_some _ e) (Heap.get?_push_size _ rfl) fun v h' tk hP hk =>
      hQ (Nat.pos_of_ne_zero hn) v h' tk hP fun b o hbw e => hk b o hbw (Nat.ne_of_lt (Heap.lt_size e)) (Heap.get?_push_of_some _ e)

end
end L2

set_option Elab.async false
set_option linter.all false
set_option maxRecDepth 100000
set_option maxHeartbeats 4000000
namespace L2
open PySem PySem.Spec PyProof.Rows

theorem best_max (f : Nat → Int) : ∀ k, argBest (fun i j => decide (f i > f j)) k ≤ k ∧ ∀ i, i ≤ k → f i ≤ f (argBest (fun i j => decide (f i > f j)) k)
  | 0 => ⟨Nat.le_refl _, fun i hi => by rw [Nat.le_zero.mp hi]; exact Int.le_refl _⟩
  | k + 1 => by
    obtain ⟨h1, h2⟩ := best_max f k
    unfold argBest
    by_cases c : f (k + 1) > f (argBest (fun i j => decide (f i > f j)) k)
    · rw [if_pos (decide_eq_true c)]
      refine ⟨Nat.le_refl _, fun i hi => ?_⟩
      by_cases e : i = k + 1
      · rw [e]; exact Int.le_refl _
      · have := h2 i (by omega)
        omega
    · rw [if_neg (by rw [decide_eq_false c]; exact Bool.false_ne_true)]
      refine ⟨by omega, fun i hi => ?_⟩
      by_cases e : i = k + 1
      · rw [e]; omega
      · exact h2 i (by omega)
theorem best_min (f : Nat → Int) : ∀ k, argBest (fun i j => decide (f i < f j)) k ≤ k ∧ ∀ i, i ≤ k → f (argBest (fun i j => decide (f i < f j)) k) ≤ f i
  | 0 => ⟨Nat.le_refl _, fun i hi => by rw [Nat.le_zero.mp hi]; exact Int.le_refl _⟩
  | k + 1 => by
    obtain ⟨h1, h2⟩ := best_min f k
    unfold argBest
    by_cases c : f (k + 1) < f (argBest (fun i j => decide (f i < f j)) k)
    · rw [if_pos (decide_eq_true c)]
      refine ⟨Nat.le_refl _, fun i hi => ?_⟩
      by_cases e : i = k + 1
      · rw [e]; exact Int.le_refl _
      · have := h2 i (by omega)
        omega
    · rw [if_neg (by rw [decide_eq_false c]; exact Bool.false_ne_true)]
      refine ⟨by omega, fun i hi => ?_⟩
      by_cases e : i = k + 1
      · rw [e]; omega
      · exact h2 i (by omega)

section
variable {X : Cx}
noncomputable def SqI (K : PySem.W.Frag) (H : Hp) (p : Addr) (ns : List Int) : Prop := SqL K H p (ns.map V.int) ∨ SqT K H p (ns.map V.int)

theorem ints_get {ns : List Int} {its : List Value} (r : Vals (ns.map V.int) its) : ∀ (i : Nat) (v : Value), its.toArray[i]? = some v → ∃ t, v = .int (ns.getD i 0) t := by
  intro i v e
  have e' : its[i]? = some v := by simpa using e
  have hi : i < its.length := (List.getElem?_eq_some_iff.mp e').1
  have hl := r.length
  rw [List.length_map] at hl
  obtain ⟨u, hu, ru⟩ := r.get (i := i) (x := .int (ns.getD i 0)) (by
    rw [List.getElem?_map, List.getD_eq_getElem?_getD]
    have : ns[i]? = some ns[i] := List.getElem?_eq_getElem (by omega)
    rw [this]; rfl)
  rw [e'] at hu
  cases hu
  exact ru

theorem iter_walk {pins : List (Addr × Obj)} {σ : St} {H : Hp} {s : Shared} {p : Addr} {ns : List Int} {A : Around} {E : Value → Shared → Prop} {Q : Value → Shared → Prop} (I : Inv X pins σ H s) (hh : A.handled = none) (hq : SqI X.K H p ns)
    (h : ∀ (it : Addr) (fp : List Addr) (St : Nat → Heap → Prop) (its : List Value) (s2 : Shared), Vals (ns.map V.int) its → Walks X.prog X.w A it fp [it] its.toArray.size (fun i v => its.toArray[i]? = some v) St → St 0 s2.heap → (∀ b ∈ fp, b < s2.heap.objs.size) →
      (∀ h' tk, (∀ b o, b ∉ [it] → s2.heap.get? b = some o → h'.get? b = some o) → Inv X pins σ H { s2 with heap := h', toks := tk }) → Q (.ref it) s2) :
    wpAny (model X.prog X.w) A (pyIter (.ref p)) Q E s := by
  have back : ∀ (o : Obj) (h' : Heap) (tk : Nat), (∀ b ob, b ∉ [s.heap.objs.size] → (s.heap.push o).get? b = some ob → h'.get? b = some ob) → Inv X pins σ H { s with heap := h', toks := tk } := fun o h' tk k =>
    I.kept fun b ob e => k b ob (fun z => absurd (Heap.lt_size e) (by rw [List.mem_singleton.mp z]; exact Nat.lt_irrefl _)) (Heap.get?_push_of_some _ e)
  rcases hq with hq | hq
  · obtain ⟨its, r, pl, hz⟩ := I.list hq
    have hlt : p < s.heap.objs.size := by obtain ⟨_, e, _⟩ := pl.isList; exact Heap.lt_size e
    refine wpAny_pyIter_list pl.isList ?_
    refine h s.heap.objs.size [s.heap.objs.size, p] _ its _ r (Walks.list hh s.heap.objs.size p (Nat.ne_of_lt hlt) its.toArray) ⟨⟨_, Heap.get?_push_size _ rfl, rfl, rfl⟩, pl.isList.push _⟩ (fun b hb => ?_) fun h' tk k => back _ h' tk k
    show b < (s.heap.push _).objs.size
    rw [Heap.size_push]
    rcases List.mem_cons.mp hb with rfl | hb
    · exact Nat.lt_succ_self _
    · rw [List.mem_singleton.mp hb]; exact Nat.lt_succ_of_lt hlt
  · obtain ⟨its, r, pl, hz⟩ := I.tuple hq
    have hlt : p < s.heap.objs.size := by obtain ⟨_, e, _⟩ := pl; exact Heap.lt_size e
    refine wpAny_pyIter_tuple (show s.heap.IsTuple p its.toArray from pl) ?_
    refine h s.heap.objs.size [s.heap.objs.size, p] _ its _ r (Walks.tuple hh s.heap.objs.size p (Nat.ne_of_lt hlt) its.toArray) ⟨⟨_, Heap.get?_push_size _ rfl, rfl, rfl⟩, ?_⟩ (fun b hb => ?_) fun h' tk k => back _ h' tk k
    · obtain ⟨o, e, c⟩ := (show s.heap.IsTuple p its.toArray from pl)
      exact ⟨o, Heap.get?_push_of_some _ e, c⟩
    · show b < (s.heap.push _).objs.size
      rw [Heap.size_push]
      rcases List.mem_cons.mp hb with rfl | hb
      · exact Nat.lt_succ_self _
      · rw [List.mem_singleton.mp hb]; exact Nat.lt_succ_of_lt hlt

noncomputable def tBestD (K : PySem.W.Frag) (le : Int → Int → Prop) (ta td : TA) : TE := fun σ H Q => ta σ H fun xs H1 => td σ H1 fun ds H2 => ∃ p ns d, xs = [.ref p] ∧ ds = [d] ∧ SqI K H2 p ns ∧ (ns = [] → Q d H2) ∧ ∀ m, m ∈ ns → (∀ y ∈ ns, le y m) → Q (.int m) H2
theorem getD_mem {ns : List Int} {i : Nat} (h : i < ns.length) : ns.getD i 0 ∈ ns := by
  rw [List.getD_eq_getElem?_getD, List.getElem?_eq_getElem h]
  exact List.getElem_mem h
theorem mem_getD {ns : List Int} {y : Int} (h : y ∈ ns) : ∃ i, i < ns.length ∧ ns.getD i 0 = y := by
  obtain ⟨i, hi, e⟩ := List.mem_iff_getElem.mp h
  refine ⟨i, hi, ?_⟩
  rw [List.getD_eq_getElem?_getD, List.getElem?_eq_getElem hi]
  exact e

theorem pe_maxD {e : Expr} {p pos kp : Pos} {dx : Expr} {ta td : TA} (hc : X.calm = true) (hg : Gl X "max") (hm : X.mg "max" = none) (ha : PA X [e] ta) (hd : PK X [⟨some (Str.ofString "default"), dx, kp⟩] td)
    (he : backTo pos (starEach [e] X.env) = (false, eval e X.env) :: backTo pos (starEach [] X.env) := by rfl)
    (hplain : (backTo pos (starEach [e] X.env)).any (·.1) = false := by rfl)
    (hall : (backToKw pos (keywordEach [⟨some (Str.ofString "default"), dx, kp⟩] X.env)).all (·.1.isSome) = true := by rfl)
    (hkw : (backToKw pos (keywordEach [⟨some (Str.ofString "default"), dx, kp⟩] X.env)).any (·.1.isNone) = false := by rfl) :
    PE X (.Call (.Name "max" p) [e] [⟨some (Str.ofString "default"), dx, kp⟩] pos) (tBestD X.K (fun y m => y ≤ m) ta td) := by
  intro pins s σ H Q I h
  refine wpAny_Call_Name_kw (ld_blt I hg hm PyProof.Rows.boot_max ?_)
  refine PyProof.Rows.callWith_kw (thn (ha pos pins s σ H _ I h) fun us s1 ⟨vs, H1, I1, r, q⟩ => ?_) he hplain hall hkw
  refine thn (hd pos pins s1 σ H1 _ I1 q) fun ws s2 ⟨zs, H2, I2, rz, q2⟩ => ?_
  obtain ⟨a, ns, d, e1, e2, hq, q0, q1⟩ := q2
  subst e1 e2
  obtain ⟨u, rfl, ru⟩ := vals1 r
  cases ru
  obtain ⟨dv, rfl, rd⟩ := vals1 rz
  show wpAny _ X.A (call (.builtin "max") [.ref a] [(Str.ofString "default", dv)]) _ _ _
  refine max_call (iter_walk (A := X.A.in1) I2 (I2.ok.hd hc) hq fun it fp St its s3 rv W st hfp back => ?_)
  have hl := rv.length
  rw [List.length_map] at hl
  refine ⟨it, fp, [it], _, _, St, _, rfl, W, st, hfp, CmpOf.ints_gt (fun i => ns.getD i 0) (ints_get rv), fun hn h' tk k => ?_, fun hn v h' tk hv k => ?_⟩
  · rw [List.size_toArray] at hn
    exact ⟨d, H2, back h' tk k, rd, q0 (List.eq_nil_of_length_eq_zero (by omega))⟩
  · rw [List.size_toArray] at hn hv
    obtain ⟨t, rfl⟩ := ints_get rv _ _ hv
    obtain ⟨b1, b2⟩ := best_max (fun i => ns.getD i 0) (its.length - 1)
    refine ⟨.int _, H2, back h' tk k, ⟨t, rfl⟩, q1 _ (getD_mem (by omega)) fun y hy => ?_⟩
    obtain ⟨i, hi, rfl⟩ := mem_getD hy
    exact b2 i (by omega)

theorem pe_minD {e : Expr} {p pos kp : Pos} {dx : Expr} {ta td : TA} (hc : X.calm = true) (hg : Gl X "min") (hm : X.mg "min" = none) (ha : PA X [e] ta) (hd : PK X [⟨some (Str.ofString "default"), dx, kp⟩] td)
    (he : backTo pos (starEach [e] X.env) = (false, eval e X.env) :: backTo pos (starEach [] X.env) := by rfl)
    (hplain : (backTo pos (starEach [e] X.env)).any (·.1) = false := by rfl)
    (hall : (backToKw pos (keywordEach [⟨some (Str.ofString "default"), dx, kp⟩] X.env)).all (·.1.isSome) = true := by rfl)
    (hkw : (backToKw pos (keywordEach [⟨some (Str.ofString "default"), dx, kp⟩] X.env)).any (·.1.isNone) = false := by rfl) :
    PE X (.Call (.Name "min" p) [e] [⟨some (Str.ofString "default"), dx, kp⟩] pos) (tBestD X.K (fun y m => m ≤ y) ta td) := by
  intro pins s σ H Q I h
  refine wpAny_Call_Name_kw (ld_blt I hg hm PyProof.Rows.boot_min ?_)
  refine PyProof.Rows.callWith_kw (thn (ha pos pins s σ H _ I h) fun us s1 ⟨vs, H1, I1, r, q⟩ => ?_) he hplain hall hkw
  refine thn (hd pos pins s1 σ H1 _ I1 q) fun ws s2 ⟨zs, H2, I2, rz, q2⟩ => ?_
  obtain ⟨a, ns, d, e1, e2, hq, q0, q1⟩ := q2
  subst e1 e2
  obtain ⟨u, rfl, ru⟩ := vals1 r
  cases ru
  obtain ⟨dv, rfl, rd⟩ := vals1 rz
  show wpAny _ X.A (call (.builtin "min") [.ref a] [(Str.ofString "default", dv)]) _ _ _
  refine min_call (iter_walk (A := X.A.in1) I2 (I2.ok.hd hc) hq fun it fp St its s3 rv W st hfp back => ?_)
  have hl := rv.length
  rw [List.length_map] at hl
  refine ⟨it, fp, [it], _, _, St, _, rfl, W, st, hfp, CmpOf.ints_lt (fun i => ns.getD i 0) (ints_get rv), fun hn h' tk k => ?_, fun hn v h' tk hv k => ?_⟩
  · rw [List.size_toArray] at hn
    exact ⟨d, H2, back h' tk k, rd, q0 (List.eq_nil_of_length_eq_zero (by omega))⟩
  · rw [List.size_toArray] at hn hv
    obtain ⟨t, rfl⟩ := ints_get rv _ _ hv
    obtain ⟨b1, b2⟩ := best_min (fun i => ns.getD i 0) (its.length - 1)
    refine ⟨.int _, H2, back h' tk k, ⟨t, rfl⟩, q1 _ (getD_mem (by omega)) fun y hy => ?_⟩
    obtain ⟨i, hi, rfl⟩ := mem_getD hy
    exact b2 i (by omega)

noncomputable def rngV (i : Int) (n : Nat) : List V := (List.range n).map fun (k : Nat) => V.int (i + (k : Int))
theorem call_rng2 : CallR X (.type "range") (fun xs H Q => ∃ i j, xs = [.int i, .int j] ∧ ∀ p, H p = none → Q (.ref p) (upd H p (.rng i j))) := by
  intro pins s σ H xs us Q I r h
  obtain ⟨i, j, rfl, q⟩ := h
  obtain ⟨u, w', rfl, ⟨t, rfl⟩, ⟨t', rfl⟩⟩ := vals2 r
  refine call_range_2 ?_
  refine ⟨.ref s.heap.objs.size, _, I.laid (fun b o e => Heap.get?_push_of_some _ e) (Nat.le_refl _) (show ObjOk X.prog X.w _ _ _ (.rng i j) from ⟨t, t', s.toks, Heap.get?_push_size _ rfl⟩), rfl, q _ (I.hok.fresh (Nat.le_refl _))⟩

theorem vals_rng {a : Int} {acc : Array Value} {n : Nat} (h : ItemsOf (fun i v => ∃ t, v = Value.int (a + (i : Int) * 1) t) acc n) : Vals (rngV a n) acc.toList := by
  have go : ∀ (l : List Value) (k : Nat), (∀ (j : Nat) (v : Value), l[j]? = some v → ∃ t, v = Value.int (a + ((k + j : Nat) : Int)) t) → Vals ((List.range' k l.length).map fun (j : Nat) => V.int (a + (j : Int))) l := by
    intro l
    induction l with
    | nil => intro k _; exact .nil
    | cons x r ih =>
      intro k hx
      rw [List.length_cons, List.range'_succ, List.map_cons]
      refine .cons ?_ (ih (k + 1) fun j v e => ?_)
      · obtain ⟨t, e⟩ := hx 0 x rfl
        exact ⟨t, e⟩
      · obtain ⟨t, e'⟩ := hx (j + 1) v (by simpa using e)
        refine ⟨t, e'.trans ?_⟩
        congr 1
        omega
  have q := go acc.toList 0 fun j v e => by
    obtain ⟨t, e'⟩ := h.2 j v (by simpa using e)
    exact ⟨t, by rw [e']; congr 1; first | done | omega⟩
  unfold rngV
  rw [List.range_eq_range']
  have hn : acc.toList.length = n := by simpa using h.1
  rw [hn] at q
  exact q
noncomputable def Itd (hi : Int) (n : Nat) : It := ⟨fun i _ => i < n, fun i H x H' => H' = H ∧ x = .int (hi - i), fun i _ => n ≤ i⟩
theorem turn_down {P : Program} {w : World} {K : PySem.W.Frag} {tg : Expr} (it : Addr) (hi : Int) (n : Nat) : Turn P w K tg (Itd hi n) [it] it (fun i h => IsRangeIter h it (hi + (i : Nat) * (-1)) ((n : Int) - (i : Nat)) (-1)) where
  mem := by simp
  obj := fun i h st b hb => by
    have e : b = it := by simpa using hb
    subst e
    exact ⟨_, st, fun v z => by
      have z' : Data.fields _ = Data.cell v := z
      cases z'⟩
  keep := fun i h h' st k => k it (by simp) _ st
  item := by
    intro X hP hw hK hc i pins s σ H E I hf st hg
    subst hP hw hK
    obtain ⟨f0, f1, f2, f3, f4, f5⟩ := hf it (by simp)
    have W := Walks.range (prog := X.prog) (w := X.w) (I.ok.hd hc) it hi (-1) n
    refine W.item i s _ _ hg st fun v h' tk hv st' kk => ?_
    obtain ⟨t, rfl⟩ := hv
    have I1 : Inv X pins σ H { s with heap := h', toks := tk } := I.turned (fun b o hb e => kk b o (by simpa using hb) e) f0 f1 f3 f4 f5
    refine ⟨_, rfl, go_of (s := { s with heap := h', toks := tk }) (n := "range_iterator") st' rfl rfl (by decide) ⟨.int (hi - i), H, I1, ⟨t, ?_⟩, ⟨rfl, rfl⟩, st', fun b hb => (hf b hb).1⟩⟩
    congr 1
    omega
  done := by
    intro X hP hw hK hc i pins s σ H E I hf st hg
    subst hP hw hK
    obtain ⟨f0, f1, f2, f3, f4, f5⟩ := hf it (by simp)
    exact wpAny_pyNext_range_end (I.ok.hd hc) st (by have : n ≤ i := hg; omega) fun h' eb => ⟨rfl, I.turned (t' := s.toks) (fun b o hb e => eb b o hb e) f0 f1 f3 f4 f5⟩
  self := fun _ _ _ _ _ st h => wpAny_pyIter_rangeiter st h
theorem rangeSize_down (a b : Int) : Builtin.Range.rangeSize a b (-1) = (((a - b).toNat : Nat) : Int) := by
  unfold Builtin.Range.rangeSize
  rw [if_neg (by decide)]
  by_cases h : a > b
  · rw [if_pos h]
    have e : (a - b - 1) / (- -1) = a - b - 1 := by
      show (a - b - 1) / 1 = _
      exact Int.ediv_one _
    rw [e]
    omega
  · rw [if_neg h]
    omega
theorem small_down {a b : Int} (ha : -(2 ^ 62) ≤ a) (ha' : a < 2 ^ 62) (hb : -(2 ^ 62) ≤ b) (hb' : b < 2 ^ 62) : Builtin.Range.small a b (-1) = true := by
  unfold Builtin.Range.small
  rw [rangeSize_down]
  simp only [Builtin.Range.rangeFitsLong, Bool.and_eq_true, Bool.or_eq_true, decide_eq_true_eq, beq_iff_eq]
  refine ⟨?_, ?_⟩ <;> first | omega | (split <;> omega) | (simp <;> omega)
end
end L2

set_option Elab.async false
set_option linter.all false
set_option maxRecDepth 100000
set_option maxHeartbeats 4000000
namespace L2
open PySem PySem.Spec PyProof.Rows
section
variable {X : Cx} {tg : Expr}

noncomputable def iRngD (ta : TA) : TI := fun σ H R => ta σ H fun vs H1 => ∃ i j : Int, vs = [.int i, .int j, .int (-1)] ∧ (-(2 ^ 62) ≤ i ∧ i < 2 ^ 62 ∧ -(2 ^ 62) ≤ j ∧ j < 2 ^ 62) ∧ R (Itd i (i - j).toNat) H1
theorem pi_rangeD {a b c : Expr} {ta : TA} {p pos : Pos} (hg : Gl X "range") (hm : X.mg "range" = none) (ha : PA X [a, b, c] ta)
    (hs : starEach [a, b, c] X.env = [(false, eval a X.env), (false, eval b X.env), (false, eval c X.env)] := by rfl) (hs2 : starEach [b, c] X.env = [(false, eval b X.env), (false, eval c X.env)] := by rfl) :
    PI X tg (.Call (.Name "range" p) [a, b, c] [] pos) (iRngD ta) := by
  intro pins s σ H R I h
  refine Call_ (ld_blt I hg hm boot_range (PyProof.Rows.callWith_type1 (thn (ha pos pins s σ H _ I h) fun us s1 ⟨vs, H1, I1, r1, q1⟩ => ?_) (by rw [hs, hs2]) (by rw [hs2]; rfl)))
  obtain ⟨i, j, e, ⟨q1, q2, q3, q4⟩, q⟩ := q1
  subst e
  cases r1 with
  | cons r rr =>
    cases rr with
    | cons r' rr =>
      cases rr with
      | cons r'' rr =>
        cases rr
        obtain ⟨t, rfl⟩ := r
        obtain ⟨t', rfl⟩ := r'
        obtain ⟨t'', rfl⟩ := r''
        refine call_range_3 (by decide) ?_ (.inl (PyProof.noPylong_small (by decide)))
        refine wpAny_pyIter_range (IsRange.new ..) (small_down q1 q2 q3 q4) ?_
        have I2 : Inv X pins σ H1 { s1 with heap := s1.heap.push { cls := .type "range", data := .fields #[.int i t, .int j t', .int (-1) t''] }, toks := s1.toks } := I1.kept fun b o e => Heap.get?_push_of_some _ e
        refine ⟨(s1.heap.push { cls := .type "range", data := .fields #[.int i t, .int j t', .int (-1) t''] }).objs.size, [(s1.heap.push { cls := .type "range", data := .fields #[.int i t, .int j t', .int (-1) t''] }).objs.size], _, _, H1, rfl,
          I2.kept (t' := s1.toks) fun b o e => Heap.get?_push_of_some _ e, turn_down _ i (i - j).toNat, ?_, fun b hb => ?_, q⟩
        · have e1 : i + ((0 : Nat) : Int) * (-1) = i := by simp
          have e2 : (((i - j).toNat : Nat) : Int) - ((0 : Nat) : Int) = Builtin.Range.rangeSize i j (-1) := by rw [rangeSize_down]; omega
          show IsRangeIter _ _ (i + ((0 : Nat) : Int) * (-1)) ((((i - j).toNat : Nat) : Int) - ((0 : Nat) : Int)) (-1)
          rw [e1, e2]
          exact Heap.get?_push_size _ rfl
        · have e : b = (s1.heap.push { cls := .type "range", data := .fields #[.int i t, .int j t', .int (-1) t''] }).objs.size := by simpa using hb
          subst e
          exact I2.fpOk (Nat.le_refl _) (I2.hok.fresh (Nat.le_refl _))
end
theorem for_down {hi : Int} {n : Nat} {g : TG} {tb : TS} {D : Ends} {σ : St} {H : Hp} (Pv : Nat → St → Hp → Prop) (h0 : Pv 0 σ H)
    (hs : ∀ i σ H, i < n → Pv i σ H → g (.int (hi - i)) σ H fun σ2 H2 => tb { D with nx := Pv (i + 1), ct := Pv (i + 1), bk := D.nx } σ2 H2) (hd : ∀ σ H, Pv n σ H → D.nx σ H) :
    ∃ W : Nat → Nat → St → Hp → Prop, (∃ m, W 0 m σ H) ∧ ∀ i m σ H, W i m σ H →
      ((Itd hi n).stop i H ∧ D.nx σ H) ∨ ((Itd hi n).go i H ∧ ∃ N : St → Hp → Prop, (∀ σ' H', N σ' H' → ∃ m', m' < m ∧ W (i + 1) m' σ' H') ∧ ∀ x H', (Itd hi n).yld i H x H' → g x σ H' fun σ2 H2 => tb { D with nx := N, ct := N, bk := D.nx } σ2 H2) := by
  refine ⟨fun i m σ H => m = n - i ∧ i ≤ n ∧ Pv i σ H, ⟨n, by simp, Nat.zero_le _, h0⟩, ?_⟩
  rintro i m σ H ⟨rfl, hi', p⟩
  by_cases hlt : i < n
  · refine .inr ⟨hlt, Pv (i + 1), fun σ' H' p' => ⟨n - (i + 1), by omega, rfl, hlt, p'⟩, fun x H' y => ?_⟩
    obtain ⟨e, y⟩ := y
    subst e y
    exact hs i σ _ hlt p
  · have e : i = n := by omega
    subst e
    exact .inl ⟨Nat.le_refl _, hd σ H p⟩

abbrev CompW (J : It) (g : TG) (tc : TT) (te : TE) (σ0 : St) (H1 : Hp) (F : List V → Hp → Prop) : Prop :=
  ∃ W : Nat → Nat → List V → Hp → Prop, (∃ m, W 0 m [] H1) ∧ ∀ i m ys H, W i m ys H →
    (J.stop i H ∧ F ys H) ∨ (J.go i H ∧ ys.length < sizeLine ∧ ∃ N : List V → Hp → Prop, (∀ zs H', N zs H' → ∃ m', m' < m ∧ W (i + 1) m' zs H') ∧
      ∀ x H', J.yld i H x H' → compTurnT g tc te σ0 x H' ys N)
theorem comp_list {K : PySem.W.Frag} {a : Addr} {xs : List V} {g : TG} {tc : TT} {te : TE} {σ0 : St} {H1 : Hp} {F : List V → Hp → Prop} (Pv : Nat → List V → Hp → Prop) (h0 : Pv 0 [] H1)
    (hl : ∀ i ys H, i ≤ xs.length → Pv i ys H → SqL K H a xs ∧ ys.length < sizeLine)
    (hs : ∀ i x ys H, xs[i]? = some x → Pv i ys H → compTurnT g tc te σ0 x H ys (Pv (i + 1))) (hd : ∀ ys H, Pv xs.length ys H → F ys H) : CompW (Itl K a) g tc te σ0 H1 F := by
  refine ⟨fun i m ys H => m = xs.length - i ∧ i ≤ xs.length ∧ Pv i ys H, ⟨xs.length, by simp, Nat.zero_le _, h0⟩, ?_⟩
  rintro i m ys H ⟨rfl, hi, p⟩
  obtain ⟨q, z⟩ := hl i ys H hi p
  by_cases hlt : i < xs.length
  · refine .inr ⟨⟨xs, xs[i], q, by simp [hlt]⟩, z, Pv (i + 1), fun zs H' p' => ⟨xs.length - (i + 1), by omega, rfl, hlt, p'⟩, fun x H' y => ?_⟩
    obtain ⟨e, y⟩ := y
    subst e
    exact hs i x ys _ (y xs q) p
  · have e : i = xs.length := by omega
    subst e
    exact .inl ⟨⟨xs, q, Nat.le_refl _⟩, hd ys H p⟩
theorem comp_tup {K : PySem.W.Frag} {a : Addr} {xs : List V} {g : TG} {tc : TT} {te : TE} {σ0 : St} {H1 : Hp} {F : List V → Hp → Prop} (Pv : Nat → List V → Hp → Prop) (h0 : Pv 0 [] H1)
    (hl : ∀ i ys H, i ≤ xs.length → Pv i ys H → SqT K H a xs ∧ ys.length < sizeLine)
    (hs : ∀ i x ys H, xs[i]? = some x → Pv i ys H → compTurnT g tc te σ0 x H ys (Pv (i + 1))) (hd : ∀ ys H, Pv xs.length ys H → F ys H) : CompW (Itt K a) g tc te σ0 H1 F := by
  refine ⟨fun i m ys H => m = xs.length - i ∧ i ≤ xs.length ∧ Pv i ys H, ⟨xs.length, by simp, Nat.zero_le _, h0⟩, ?_⟩
  rintro i m ys H ⟨rfl, hi, p⟩
  obtain ⟨q, z⟩ := hl i ys H hi p
  by_cases hlt : i < xs.length
  · refine .inr ⟨⟨xs, xs[i], q, by simp [hlt]⟩, z, Pv (i + 1), fun zs H' p' => ⟨xs.length - (i + 1), by omega, rfl, hlt, p'⟩, fun x H' y => ?_⟩
    obtain ⟨e, y⟩ := y
    subst e
    exact hs i x ys _ (y xs q) p
  · have e : i = xs.length := by omega
    subst e
    exact .inl ⟨⟨xs, q, Nat.le_refl _⟩, hd ys H p⟩
theorem comp_range {lo : Int} {n : Nat} {g : TG} {tc : TT} {te : TE} {σ0 : St} {H1 : Hp} {F : List V → Hp → Prop} (Pv : Nat → List V → Hp → Prop) (h0 : Pv 0 [] H1)
    (hl : ∀ i ys H, i ≤ n → Pv i ys H → ys.length < sizeLine)
    (hs : ∀ i ys H, i < n → Pv i ys H → compTurnT g tc te σ0 (.int (lo + i)) H ys (Pv (i + 1))) (hd : ∀ ys H, Pv n ys H → F ys H) : CompW (Itr lo n) g tc te σ0 H1 F := by
  refine ⟨fun i m ys H => m = n - i ∧ i ≤ n ∧ Pv i ys H, ⟨n, by simp, Nat.zero_le _, h0⟩, ?_⟩
  rintro i m ys H ⟨rfl, hi, p⟩
  have z := hl i ys H hi p
  by_cases hlt : i < n
  · refine .inr ⟨hlt, z, Pv (i + 1), fun zs H' p' => ⟨n - (i + 1), by omega, rfl, hlt, p'⟩, fun x H' y => ?_⟩
    obtain ⟨e, y⟩ := y
    subst e y
    exact hs i ys _ hlt p
  · have e : i = n := by omega
    subst e
    exact .inl ⟨Nat.le_refl _, hd ys H p⟩
noncomputable def keptV {α : Type} (p : α → Bool) (f : α → V) (zs : List α) : List V := (zs.filter p).map f
theorem keptV_snoc {α : Type} (p : α → Bool) (f : α → V) (zs : List α) (z : α) : keptV p f (zs ++ [z]) = if p z = true then keptV p f zs ++ [f z] else keptV p f zs := by
  unfold keptV
  rw [List.filter_append, List.map_append]
  cases h : p z <;> simp [h]
theorem keptV_le {α : Type} (p : α → Bool) (f : α → V) (zs : List α) : (keptV p f zs).length ≤ zs.length := by
  unfold keptV
  rw [List.length_map]
  exact List.length_filter_le _ _
theorem take_snoc {α : Type} {zs : List α} {i : Nat} {z : α} (h : zs[i]? = some z) : zs.take (i + 1) = zs.take i ++ [z] := by
  rw [List.take_add_one, h]
  rfl
theorem comp_ints {K : PySem.W.Frag} {a : Addr} {ns : List Int} {g : TG} {tc : TT} {te : TE} {σ0 : St} {H1 : Hp} {F : List V → Hp → Prop} (p : Int → Bool) (f : Int → V) (hq : SqL K H1 a (ns.map V.int)) (hz : ns.length ≤ 1000)
    (hs : ∀ n ys N, n ∈ ns → N (if p n = true then ys ++ [f n] else ys) H1 → compTurnT g tc te σ0 (.int n) H1 ys N) (hd : F (keptV p f ns) H1) : CompW (Itl K a) g tc te σ0 H1 F := by
  refine comp_list (xs := ns.map V.int) (fun i ys H => H = H1 ∧ ys = keptV p f (ns.take i)) ⟨rfl, rfl⟩ (fun i ys H hi hp => ?_) (fun i x ys H hx hp => ?_) (fun ys H hp => ?_)
  · obtain ⟨rfl, rfl⟩ := hp
    refine ⟨hq, small1000 ?_⟩
    have h1 := keptV_le p f (ns.take i)
    have h2 := List.length_take_le i ns
    have h3 : (ns.take i).length ≤ ns.length := by rw [List.length_take]; omega
    omega
  · obtain ⟨rfl, rfl⟩ := hp
    rw [List.getElem?_map] at hx
    cases e : ns[i]? with
    | none => rw [e] at hx; cases hx
    | some n =>
      rw [e] at hx
      cases hx
      refine hs n _ _ (List.mem_of_getElem? e) ⟨rfl, ?_⟩
      rw [take_snoc e, keptV_snoc]
  · obtain ⟨rfl, rfl⟩ := hp
    rw [List.length_map, List.take_length]
    exact hd
theorem comp_intsT {K : PySem.W.Frag} {a : Addr} {ns : List Int} {g : TG} {tc : TT} {te : TE} {σ0 : St} {H1 : Hp} {F : List V → Hp → Prop} (p : Int → Bool) (f : Int → V) (hq : SqT K H1 a (ns.map V.int)) (hz : ns.length ≤ 1000)
    (hs : ∀ n ys N, n ∈ ns → N (if p n = true then ys ++ [f n] else ys) H1 → compTurnT g tc te σ0 (.int n) H1 ys N) (hd : F (keptV p f ns) H1) : CompW (Itt K a) g tc te σ0 H1 F := by
  refine comp_tup (xs := ns.map V.int) (fun i ys H => H = H1 ∧ ys = keptV p f (ns.take i)) ⟨rfl, rfl⟩ (fun i ys H hi hp => ?_) (fun i x ys H hx hp => ?_) (fun ys H hp => ?_)
  · obtain ⟨rfl, rfl⟩ := hp
    refine ⟨hq, small1000 ?_⟩
    have h1 := keptV_le p f (ns.take i)
    have h3 : (ns.take i).length ≤ ns.length := by rw [List.length_take]; omega
    omega
  · obtain ⟨rfl, rfl⟩ := hp
    rw [List.getElem?_map] at hx
    cases e : ns[i]? with
    | none => rw [e] at hx; cases hx
    | some n =>
      rw [e] at hx
      cases hx
      refine hs n _ _ (List.mem_of_getElem? e) ⟨rfl, ?_⟩
      rw [take_snoc e, keptV_snoc]
  · obtain ⟨rfl, rfl⟩ := hp
    rw [List.length_map, List.take_length]
    exact hd
noncomputable def upI (lo : Int) (n : Nat) : List Int := (List.range n).map fun (k : Nat) => lo + (k : Int)
theorem upI_succ (lo : Int) (n : Nat) : upI lo (n + 1) = upI lo n ++ [lo + (n : Int)] := by
  unfold upI
  rw [List.range_succ, List.map_append]
  rfl
theorem upI_length (lo : Int) (n : Nat) : (upI lo n).length = n := by unfold upI; rw [List.length_map, List.length_range]
theorem mem_upI {lo : Int} {n : Nat} {x : Int} : x ∈ upI lo n ↔ lo ≤ x ∧ x < lo + n := by
  unfold upI
  rw [List.mem_map]
  constructor
  · rintro ⟨k, hk, rfl⟩
    have := List.mem_range.mp hk
    omega
  · rintro ⟨h1, h2⟩
    exact ⟨(x - lo).toNat, List.mem_range.mpr (by omega), by omega⟩
theorem comp_up {lo : Int} {n : Nat} {g : TG} {tc : TT} {te : TE} {σ0 : St} {H1 : Hp} {F : List V → Hp → Prop} (p : Int → Bool) (f : Int → V) (hz : n ≤ 1000)
    (hs : ∀ k ys N, lo ≤ k → k < lo + n → N (if p k = true then ys ++ [f k] else ys) H1 → compTurnT g tc te σ0 (.int k) H1 ys N) (hd : F (keptV p f (upI lo n)) H1) : CompW (Itr lo n) g tc te σ0 H1 F := by
  refine comp_range (fun i ys H => H = H1 ∧ ys = keptV p f (upI lo i)) ⟨rfl, rfl⟩ (fun i ys H hi hp => ?_) (fun i ys H hx hp => ?_) (fun ys H hp => ?_)
  · obtain ⟨rfl, rfl⟩ := hp
    have h1 := keptV_le p f (upI lo i)
    rw [upI_length] at h1
    exact small1000 (by omega)
  · obtain ⟨rfl, rfl⟩ := hp
    refine hs _ _ _ (by omega) (by omega) ⟨rfl, ?_⟩
    rw [upI_succ, keptV_snoc]
  · obtain ⟨rfl, rfl⟩ := hp
    exact hd

section
variable {X : Cx}
theorem call_isinst : CallR X (.builtin "isinstance") (fun xs H Q => ∃ x T t b, xs = [x, .ty T] ∧ TyOf X.K H x t ∧ PySem.W.kitOne X.K t (.type T) = some b ∧ Q (.bl b) H) := by
  intro pins s σ H xs us Q I r h
  obtain ⟨x, T, t, b, rfl, ty, e, q⟩ := h
  obtain ⟨u, w', rfl, rx, ry⟩ := vals2 r
  cases (show w' = Value.type T from ry)
  exact isinst_ok I rx ty e fun tk => ⟨.bl b, H, I.tok _, rfl, q⟩

end
end L2

set_option Elab.async false
set_option linter.all false
set_option maxRecDepth 100000
set_option maxHeartbeats 4000000
namespace L2
open PySem PySem.Spec PyProof.Rows
noncomputable def capChk (N : List Str) (kind : Str → Option NameKind) (rl : List (Str × NameKind)) : List Str → List Nat → Bool
  | x :: xs, i :: is => decide (N[i]? = some x) && (decide (kind x = some .cell) || decide (kind x = some .free)) && (decide (rl.lookup x = some .cell) || decide (rl.lookup x = some .free)) && capChk N kind rl xs is
  | _, _ => true
theorem cap_of {N : List Str} {kind : Str → Option NameKind} {rl : List (Str × NameKind)} : ∀ {caps : List Str} {ix : List Nat}, capChk N kind rl caps ix = true → ∀ (j i : Nat) (x : Str), caps[j]? = some x → ix[j]? = some i →
    N[i]? = some x ∧ (kind x = some .cell ∨ kind x = some .free) ∧ (rl.lookup x = some .cell ∨ rl.lookup x = some .free)
  | [], _, _, j, i, x, e, _ => by simp at e
  | _ :: _, [], _, j, i, x, _, e => by simp at e
  | y :: ys, k :: ks, h, j, i, x, e1, e2 => by
    unfold capChk at h
    rw [Bool.and_eq_true, Bool.and_eq_true, Bool.and_eq_true, Bool.or_eq_true, Bool.or_eq_true] at h
    obtain ⟨⟨⟨h1, h2⟩, h3⟩, h4⟩ := h
    cases j with
    | zero =>
      simp at e1 e2
      subst e1 e2
      exact ⟨of_decide_eq_true h1, h2.imp of_decide_eq_true of_decide_eq_true, h3.imp of_decide_eq_true of_decide_eq_true⟩
    | succ j => exact cap_of h4 j i x (by simpa using e1) (by simpa using e2)
theorem comp_scope {X : Cx} {scope : Scope} {cl : List (Str × Addr)} {own caps : List Str} {ix : List Nat} (clos : captL X.env.cells scope.names [] = some cl) (cell : ∀ y ∈ scope.names, y.2 ≠ .cell) (kind : scope.kind = .function)
    (names : ∀ y ∈ scope.names, y.2 = .local → scope.names.lookup y.1 = some .local) (n : caps.length = ix.length) (cap : capChk X.N X.env.kindOf (relabel scope X.env).names caps ix = true) : CompScope X scope cl own caps ix :=
  ⟨clos, cell, kind, names, n, fun j i x e1 e2 => by
    obtain ⟨a, b, c⟩ := cap_of cap j i x e1 e2
    refine ⟨a, fun z => ?_, b.elim (fun q => .inr (.inl q)) (fun q => .inr (.inr q)), c⟩
    rcases b with b | b <;> (rw [b] at z; cases z)⟩

theorem pg_tupK {X : Cx} {K : PySem.W.Frag} {es : List Expr} {k : Nat} {t : TGs} {n : Nat} {pos : Pos} (hK : X.K = K) (hc : X.calm = true) (h : PGs X es t)
    (hn : (assignEach es X.env).length = n := by rfl) (hst : (assignEach es X.env).findIdx? (·.1) = none := by rfl) : PG X (.Tuple es k pos) (gTup K n t) := by
  subst hK
  exact pg_tup hc h hn hst

structure Cal (P : Program) (w : World) (K : PySem.W.Frag) (mg : Str → Option Value) (base : Heap) (k : Nat) (x : Str) (ps : List Str) (sp : Sp) : Prop where
  ex : ∃ (f : Addr) (fd : FuncData), FnOk P w K mg base CX0 k f fd ps sp ∧ Binds K fd ps [] ∧ PySem.W.keepIn K (.ref f) = true ∧ mg x = some (.ref f)
theorem Cal.mk' {P : Program} {w : World} {K : PySem.W.Frag} {mg : Str → Option Value} {base : Heap} {k : Nat} {x : Str} {ps : List Str} {sp : Sp} {f : Addr} {fd : FuncData} (a : FnOk P w K mg base CX0 k f fd ps sp) (b : Binds K fd ps []) (c : PySem.W.keepIn K (.ref f) = true) (d : mg x = some (.ref f)) :
    Cal P w K mg base k x ps sp := ⟨⟨f, fd, a, b, c, d⟩⟩
theorem pe_cal {X : Cx} {k : Nat} {x : Str} {ps : List Str} {sp : Sp} {e : Expr} {es : List Expr} {t : TA} {p pos : Pos} (G : Cal X.prog X.w X.K X.mg X.base k x ps sp) (hr : Room k X.A) (hg : Gl X x) (ha : PA X (e :: es) t)
    (hdb : (x == ("__debug__" : Str)) = false := by decide) (he : starEach (e :: es) X.env = (false, eval e X.env) :: starEach es X.env := by rfl) (hpl : (backTo pos (starEach es X.env)).any (·.1) = false := by rfl) :
    PE X (.Call (.Name x p) (e :: es) [] pos) (tCall sp [] E0 t) := by
  obtain ⟨f, fd, a, b, c, d⟩ := G.ex
  exact pe_call a hr hg d c b .nil pass0 ha hdb he hpl
end L2

set_option Elab.async false
set_option linter.all false
set_option maxRecDepth 100000
set_option maxHeartbeats 4000000
namespace L2
open PySem PySem.Spec PyProof.Rows
noncomputable def cutS (z : Str) (lo hi : Option Int) : Str := ⟨((z.cps.toList.drop (HT.sIx z.length 0 lo)).take (HT.sIx z.length z.length hi - HT.sIx z.length 0 lo)).toArray⟩
theorem str_ext {x y : Str} (h : x.cps.toList = y.cps.toList) : x = y := by
  obtain ⟨a⟩ := x
  obtain ⟨b⟩ := y
  exact congrArg Str.mk (Array.toList_inj.mp h)
theorem str_len (z : Str) : z.cps.toList.length = z.length := by simp [Str.length]
theorem indices_cut (lo hi : Option Int) (n : Nat) : Builtin.Str.strSliceIndices lo hi 1 n = (List.range (HT.sIx n n hi - HT.sIx n 0 lo)).map (fun k => HT.sIx n 0 lo + k) := by
  obtain ⟨h1, h2, h3⟩ := slice_bounds lo hi n
  have e : Builtin.Str.strSliceIndices lo hi 1 n = sliceRange (sliceBounds lo hi none n).1 (sliceBounds lo hi none n).2.1 1 := by
    unfold Builtin.Str.strSliceIndices sliceBounds
    cases lo <;> cases hi <;> rfl
  rw [e, h1, h2, sliceRange_one]
theorem cut_made {z : Str} {t : Tok} {l u : Option (Int × Tok)} {Q : Value → Shared → Prop} {s : Shared} (hz : z.length ≤ sizeLine) (h : ∀ t' tk, Q (.str (cutS z (l.map (·.1)) (u.map (·.1))) t') { s with toks := tk }) : (sliceMade z t l u none).post Q s := by
  have picked : slicePicked z l u none = (List.range (HT.sIx z.length z.length (u.map (·.1)) - HT.sIx z.length 0 (l.map (·.1)))).map (fun k => HT.sIx z.length 0 (l.map (·.1)) + k) := indices_cut _ _ _
  have items : (slicePicked z l u none).filterMap (z.cps[·]?) = (cutS z (l.map (·.1)) (u.map (·.1))).cps.toList := by
    rw [picked, pick_run]
    rfl
  have lh := HT.sIx_le z.length z.length (Nat.le_refl _) (u.map (·.1))
  unfold sliceMade
  by_cases c : (((none : Option (Int × Tok)).map (·.1)).getD 1 == 1 && (slicePicked z l u none).length == z.length) = true
  · rw [if_pos c]
    rw [Bool.and_eq_true] at c
    have c2 : (slicePicked z l u none).length = z.length := eq_of_beq c.2
    rw [picked, List.length_map, List.length_range] at c2
    have e : cutS z (l.map (·.1)) (u.map (·.1)) = z := by
      apply str_ext
      show (z.cps.toList.drop _).take _ = _
      by_cases hz0 : z.length = 0
      · have : z.cps.toList = [] := List.eq_nil_of_length_eq_zero (by rw [str_len]; exact hz0)
        rw [this]
        simp
      · have e1 : HT.sIx z.length 0 (l.map (·.1)) = 0 := by omega
        rw [e1, List.drop_zero, List.take_of_length_le]
        rw [str_len]
        omega
    have := h t s.toks
    rw [e] at this
    exact this
  · rw [if_neg c, items]
    refine ⟨?_, ?_⟩
    · show (((cutS z (l.map (·.1)) (u.map (·.1))).cps.toList.toArray).size) ≤ sizeLine
      rw [List.size_toArray]
      show ((z.cps.toList.drop _).take _).length ≤ _
      rw [List.length_take, List.length_drop, str_len]
      omega
    · have := h s.toks (s.toks + 1)
      have e : (⟨(cutS z (l.map (·.1)) (u.map (·.1))).cps.toList.toArray⟩ : Str) = cutS z (l.map (·.1)) (u.map (·.1)) := str_ext (by simp)
      rw [e]
      exact this
section
variable {X : Cx}
theorem isPart_value {v : Value} {o : Option Int} (h : IsPart v o) : ∃ p : Option (Int × Tok), v = partValue p ∧ p.map (·.1) = o := by
  cases h with
  | none => exact ⟨none, rfl, rfl⟩
  | int i t => exact ⟨some (i, t), rfl, rfl⟩
noncomputable def rSlS : V → Option Int → Option Int → Hp → VK → Prop := fun x lo hi H Q => ∃ z, x = .str z ∧ z.length ≤ sizeLine ∧ Q (.str (cutS z lo hi)) H
theorem sl_str : SlR X rSlS := by
  intro pins s σ H x v vl vu lo hi sl Q I rx hs pl pu h
  obtain ⟨z, rfl, hz, q⟩ := h
  obtain ⟨t, rfl⟩ := rx
  obtain ⟨l, rfl, rfl⟩ := isPart_value pl
  obtain ⟨u, rfl, rfl⟩ := isPart_value pu
  refine ⟨"str", _, slot_str_getitem.lookup, typeIs_str s z t, ?_⟩
  obtain ⟨o, ho, hc, hd⟩ := hs
  refine wpAny_getItem_str_slice (l := l) (u := u) (st := none) ⟨o, ho, hc, hd⟩ rfl (cut_made hz fun t' tk => ?_)
  exact ⟨.str _, H, I.tok _, ⟨_, rfl⟩, q⟩
noncomputable def repS (z : Str) (n : Nat) : Str := ⟨(List.replicate n z.cps.toList).flatten.toArray⟩
theorem fold_rep (z : Array Nat) : ∀ (n : Nat) (acc : Array Nat), (List.foldl (fun a b => a ++ b) acc (List.replicate n z)).toList = acc.toList ++ (List.replicate n z.toList).flatten
  | 0, acc => by simp
  | n + 1, acc => by
    rw [List.replicate_succ, List.foldl_cons, fold_rep z n]
    simp [List.replicate_succ]
theorem op_mul_str : OpR X (binaryOp .Mult) (fun x y H Q => ∃ z n, x = .str z ∧ y = .int n ∧ 1 ≤ n ∧ n ≤ 1000 ∧ z.length ≤ 1000 ∧ Q (.str (repS z n.toNat)) H) := by
  intro pins s σ H x y v u Q I rx ry h
  obtain ⟨z, n, rfl, rfl, h1, h2, hz, q⟩ := h
  obtain ⟨t, rfl⟩ := rx
  obtain ⟨t', rfl⟩ := ry
  have hs : sizeLine = 16777216 := sizeLine_eq
  have hm : z.length * n.toNat ≤ 1000 * 1000 := Nat.mul_le_mul hz (by omega)
  have fin : ∀ t' tk, EP X pins σ Q (.str (repS z n.toNat) t') { s with toks := tk } := fun t' tk => ⟨.str _, H, I.tok _, ⟨_, rfl⟩, q⟩
  refine PySem.P.mul_str ?_ (fun _ _ => ?_) (fun _ _ => ?_) ?_
  · rw [decide_eq_false (show ¬ n < -(2 ^ 63 : Int) by omega), decide_eq_false (show ¬ n ≥ 2 ^ 63 by omega)]
    rfl
  · have : (1000 : Int) ≤ (2 ^ 63 - 1) / n := by
      apply Int.le_ediv_of_mul_le (by omega)
      have : 1000 * n ≤ 1000 * 1000 := Int.mul_le_mul_of_nonneg_left h2 (by decide)
      omega
    omega
  · unfold Builtin.Str.tooLong
    exact decide_eq_false (by omega)
  · rw [if_neg (by omega)]
    by_cases c : (n == 1 || z.length == 0) = true
    · rw [if_pos c]
      have e : repS z n.toNat = z := by
        apply str_ext
        show ((List.replicate n.toNat z.cps.toList).flatten.toArray).toList = _
        rw [Bool.or_eq_true] at c
        rcases c with c | c
        · have : n = 1 := eq_of_beq c
          subst this
          simp
        · have : z.length = 0 := eq_of_beq c
          have : z.cps.toList = [] := List.eq_nil_of_length_eq_zero (by rw [str_len]; exact this)
          rw [this]
          simp
      have := fin t s.toks
      rw [e] at this
      exact this
    · rw [if_neg c]
      have e : (⟨(List.replicate n.toNat z.cps).foldl (· ++ ·) #[]⟩ : Str) = repS z n.toNat := by
        apply str_ext
        show (List.foldl (fun a b => a ++ b) #[] (List.replicate n.toNat z.cps)).toList = ((List.replicate n.toNat z.cps.toList).flatten.toArray).toList
        rw [fold_rep]
        simp
      refine ⟨?_, ?_⟩
      · rw [e, ← str_len]
        show ((List.replicate n.toNat z.cps.toList).flatten.toArray).toList.length ≤ sizeLine
        have : ((List.replicate n.toNat z.cps.toList).flatten.toArray).toList.length = n.toNat * z.length := by
          simp [List.length_flatten, List.map_replicate, str_len]
          rfl
        rw [this, Nat.mul_comm]
        omega
      · rw [e]
        exact fin _ _
end
end L2

set_option Elab.async false
set_option linter.all false
set_option maxRecDepth 100000
set_option maxHeartbeats 4000000
namespace L2
open PySem
inductive DV where
  | non | bl (b : Bool) | int (i : Int) | str (x : Str) | tup (l : List DV)
mutual
noncomputable def Tell (H : Hp) : DV → V → Prop
  | .non, x => x = .non
  | .bl b, x => x = .bl b
  | .int i, x => x = .int i
  | .str s, x => x = .str s
  | .tup ds, x => ∃ a xs, x = .ref a ∧ H a = some (.tup xs) ∧ xs.length ≤ 1000000 ∧ Tells H ds xs
noncomputable def Tells (H : Hp) : List DV → List V → Prop
  | [], xs => xs = []
  | d :: ds, xs => ∃ x r, xs = x :: r ∧ Tell H d x ∧ Tells H ds r
end
mutual
theorem Tell.keep {H H' : Hp} (s : Same H H') : ∀ (d : DV) (x : V), Tell H d x → Tell H' d x
  | .non, _, h => h
  | .bl _, _, h => h
  | .int _, _, h => h
  | .str _, _, h => h
  | .tup ds, _, h => by
    unfold Tell at h ⊢
    obtain ⟨a, xs, e, h1, h2, h3⟩ := h
    exact ⟨a, xs, e, s _ _ h1, h2, Tells.keep s ds xs h3⟩
theorem Tells.keep {H H' : Hp} (s : Same H H') : ∀ (ds : List DV) (xs : List V), Tells H ds xs → Tells H' ds xs
  | [], _, h => h
  | d :: ds, _, h => by
    unfold Tells at h ⊢
    obtain ⟨x, r, e, h1, h2⟩ := h
    exact ⟨x, r, e, Tell.keep s d x h1, Tells.keep s ds r h2⟩
end
mutual
theorem Tell.over {H : Hp} {l : Addr} {o o' : HO} (hl : H l = some o) (hn : ∀ xs, o ≠ .tup xs) : ∀ (d : DV) (x : V), Tell H d x → Tell (upd H l o') d x
  | .non, _, h => h
  | .bl _, _, h => h
  | .int _, _, h => h
  | .str _, _, h => h
  | .tup ds, _, h => by
    unfold Tell at h ⊢
    obtain ⟨a, xs, e, h1, h2, h3⟩ := h
    exact ⟨a, xs, e, by rw [upd_ne (ne_of h1 hl (fun z => hn xs z.symm))]; exact h1, h2, Tells.over hl hn ds xs h3⟩
theorem Tells.over {H : Hp} {l : Addr} {o o' : HO} (hl : H l = some o) (hn : ∀ xs, o ≠ .tup xs) : ∀ (ds : List DV) (xs : List V), Tells H ds xs → Tells (upd H l o') ds xs
  | [], _, h => h
  | d :: ds, _, h => by
    unfold Tells at h ⊢
    obtain ⟨x, r, e, h1, h2⟩ := h
    exact ⟨x, r, e, Tell.over hl hn d x h1, Tells.over hl hn ds r h2⟩
end
theorem Tells.length {H : Hp} : ∀ {ds : List DV} {xs : List V}, Tells H ds xs → xs.length = ds.length
  | [], _, h => by unfold Tells at h; rw [h]; rfl
  | d :: ds, _, h => by
    unfold Tells at h
    obtain ⟨x, r, rfl, _, h2⟩ := h
    rw [List.length_cons, List.length_cons, Tells.length h2]
theorem Tells.get {H : Hp} : ∀ {ds : List DV} {xs : List V}, Tells H ds xs → ∀ (i : Nat) (d : DV), ds[i]? = some d → ∃ x, xs[i]? = some x ∧ Tell H d x
  | [], _, _, i, d, e => by simp at e
  | d0 :: ds, _, h, 0, d, e => by
    unfold Tells at h
    obtain ⟨x, r, rfl, h1, _⟩ := h
    simp at e
    subst e
    exact ⟨x, rfl, h1⟩
  | d0 :: ds, _, h, i + 1, d, e => by
    unfold Tells at h
    obtain ⟨x, r, rfl, _, h2⟩ := h
    obtain ⟨y, e1, e2⟩ := Tells.get h2 i d (by simpa using e)
    exact ⟨y, by simpa using e1, e2⟩
theorem Tells.at {H : Hp} : ∀ {ds : List DV} {xs : List V}, Tells H ds xs → ∀ (i : Nat) (x : V), xs[i]? = some x → ∃ d, ds[i]? = some d ∧ Tell H d x
  | [], _, h, i, x, e => by
    unfold Tells at h
    subst h
    simp at e
  | d0 :: ds, _, h, 0, x, e => by
    unfold Tells at h
    obtain ⟨x0, r, rfl, h1, _⟩ := h
    simp at e
    subst e
    exact ⟨d0, rfl, h1⟩
  | d0 :: ds, _, h, i + 1, x, e => by
    unfold Tells at h
    obtain ⟨x0, r, rfl, _, h2⟩ := h
    obtain ⟨y, e1, e2⟩ := Tells.at h2 i x (by simpa using e)
    exact ⟨y, by simpa using e1, e2⟩
theorem Tells.nil {H : Hp} : Tells H [] [] := by unfold Tells; rfl
theorem Tells.cons {H : Hp} {d : DV} {ds : List DV} {x : V} {xs : List V} (h : Tell H d x) (t : Tells H ds xs) : Tells H (d :: ds) (x :: xs) := by unfold Tells; exact ⟨x, xs, rfl, h, t⟩
theorem Tells.snoc {H : Hp} : ∀ {ds : List DV} {xs : List V} {d : DV} {x : V}, Tells H ds xs → Tell H d x → Tells H (ds ++ [d]) (xs ++ [x])
  | [], _, _, _, h, q => by
    unfold Tells at h
    subst h
    exact Tells.cons q .nil
  | d0 :: ds, _, _, _, h, q => by
    unfold Tells at h
    obtain ⟨x0, r, rfl, h1, h2⟩ := h
    exact Tells.cons h1 (Tells.snoc h2 q)
theorem Tells.append {H : Hp} : ∀ {ds es : List DV} {xs ys : List V}, Tells H ds xs → Tells H es ys → Tells H (ds ++ es) (xs ++ ys)
  | [], _, _, _, h, q => by
    unfold Tells at h
    subst h
    exact q
  | d0 :: ds, _, _, _, h, q => by
    unfold Tells at h
    obtain ⟨x0, r, rfl, h1, h2⟩ := h
    exact Tells.cons h1 (Tells.append h2 q)
theorem tell_int {H : Hp} (i : Int) : Tell H (.int i) (.int i) := by unfold Tell; rfl
theorem tell_str {H : Hp} (x : Str) : Tell H (.str x) (.str x) := by unfold Tell; rfl
theorem tell_non {H : Hp} : Tell H .non .non := by unfold Tell; rfl
theorem tell_tup {H : Hp} {a : Addr} {xs : List V} {ds : List DV} (h : H a = some (.tup xs)) (hl : ds.length ≤ 1000000) (t : Tells H ds xs) : Tell H (.tup ds) (.ref a) := by
  unfold Tell
  exact ⟨a, xs, rfl, h, by rw [t.length]; exact hl, t⟩
theorem tells_strs {H : Hp} : ∀ (l : List Str), Tells H (l.map DV.str) (l.map V.str)
  | [] => .nil
  | i :: r => .cons (tell_str i) (tells_strs r)
theorem tells_strs_inv {H : Hp} : ∀ {l : List Str} {xs : List V}, Tells H (l.map DV.str) xs → xs = l.map V.str
  | [], _, h => by unfold Tells at h; exact h
  | i :: r, _, h => by
    rw [List.map_cons] at h
    unfold Tells at h
    obtain ⟨x, t, rfl, h1, h2⟩ := h
    unfold Tell at h1
    rw [h1, tells_strs_inv h2]
    rfl
theorem tell_tup_inv {H : Hp} {ds : List DV} {x : V} (h : Tell H (.tup ds) x) : ∃ a xs, x = .ref a ∧ H a = some (.tup xs) ∧ xs.length ≤ 1000000 ∧ Tells H ds xs := by
  unfold Tell at h
  exact h
theorem tell_int_inv {H : Hp} {i : Int} {x : V} (h : Tell H (.int i) x) : x = .int i := by unfold Tell at h; exact h
theorem tell_str_inv {H : Hp} {i : Str} {x : V} (h : Tell H (.str i) x) : x = .str i := by unfold Tell at h; exact h
theorem tells_cons_inv {H : Hp} {d : DV} {ds : List DV} {xs : List V} (h : Tells H (d :: ds) xs) : ∃ x r, xs = x :: r ∧ Tell H d x ∧ Tells H ds r := by
  unfold Tells at h
  exact h
theorem tells_nil_inv {H : Hp} {xs : List V} (h : Tells H [] xs) : xs = [] := by unfold Tells at h; exact h
mutual
noncomputable def DV.deep : DV → Nat
  | .tup ds => DV.deeps ds + 1
  | _ => 0
noncomputable def DV.deeps : List DV → Nat
  | [] => 0
  | d :: ds => max d.deep (DV.deeps ds)
end
noncomputable def scalV : V → Bool
  | .non => true
  | .bl _ => true
  | .int _ => true
  | .str _ => true
  | _ => false
noncomputable def Alike (H : Hp) : Nat → V → V → Prop
  | 0, x, y => x = y ∧ scalV x = true
  | n + 1, x, y => (x = y ∧ scalV x = true) ∨ ∃ (a b : Addr) (xs ys : List V), x = .ref a ∧ y = .ref b ∧ H a = some (.tup xs) ∧ H b = some (.tup ys) ∧ xs.length = ys.length ∧ ys.length ≤ 1000000 ∧
      ∀ (i : Nat) (u v : V), xs[i]? = some u → ys[i]? = some v → Alike H n u v
theorem Alike.keep {H H' : Hp} (s : Same H H') : ∀ {n : Nat} {x y : V}, Alike H n x y → Alike H' n x y
  | 0, _, _, h => h
  | n + 1, x, y, h => by
    rcases h with h | ⟨a, b, xs, ys, e1, e2, h1, h2, hl, hm, h⟩
    · exact .inl h
    · exact .inr ⟨a, b, xs, ys, e1, e2, s _ _ h1, s _ _ h2, hl, hm, fun i u v hu hv => Alike.keep s (h i u v hu hv)⟩
theorem Alike.up {H : Hp} : ∀ {n : Nat} {x y : V}, Alike H n x y → Alike H (n + 1) x y
  | 0, _, _, h => .inl h
  | n + 1, x, y, h => by
    rcases h with h | ⟨a, b, xs, ys, e1, e2, h1, h2, hl, hm, h⟩
    · exact .inl h
    · exact .inr ⟨a, b, xs, ys, e1, e2, h1, h2, hl, hm, fun i u v hu hv => Alike.up (h i u v hu hv)⟩
theorem Alike.mono {H : Hp} {x y : V} {n m : Nat} (h : Alike H n x y) (hm : n ≤ m) : Alike H m x y := by
  induction hm with
  | refl => exact h
  | step _ ih => exact ih.up
mutual
theorem alike_tell {H : Hp} : ∀ (d : DV) (x y : V), Tell H d x → Tell H d y → Alike H d.deep x y
  | .non, x, y, h1, h2 => by
    unfold Tell at h1 h2
    subst h1 h2
    exact ⟨rfl, rfl⟩
  | .bl _, x, y, h1, h2 => by
    unfold Tell at h1 h2
    subst h1 h2
    exact ⟨rfl, rfl⟩
  | .int _, x, y, h1, h2 => by
    unfold Tell at h1 h2
    subst h1 h2
    exact ⟨rfl, rfl⟩
  | .str _, x, y, h1, h2 => by
    unfold Tell at h1 h2
    subst h1 h2
    exact ⟨rfl, rfl⟩
  | .tup ds, x, y, h1, h2 => by
    unfold Tell at h1 h2
    obtain ⟨a, xs, rfl, a1, a2, a3⟩ := h1
    obtain ⟨b, ys, rfl, b1, b2, b3⟩ := h2
    unfold DV.deep
    exact .inr ⟨a, b, xs, ys, rfl, rfl, a1, b1, by rw [a3.length, b3.length], b2, alike_tells ds xs ys a3 b3⟩
theorem alike_tells {H : Hp} : ∀ (ds : List DV) (xs ys : List V), Tells H ds xs → Tells H ds ys → ∀ (i : Nat) (u v : V), xs[i]? = some u → ys[i]? = some v → Alike H (DV.deeps ds) u v
  | [], xs, ys, h1, h2, i, u, v, e1, e2 => by
    unfold Tells at h1
    subst h1
    simp at e1
  | d :: ds, xs, ys, h1, h2, 0, u, v, e1, e2 => by
    unfold Tells at h1 h2
    obtain ⟨x, r, rfl, a1, a2⟩ := h1
    obtain ⟨y, t, rfl, b1, b2⟩ := h2
    simp at e1 e2
    subst e1 e2
    unfold DV.deeps
    exact (alike_tell d x y a1 b1).mono (Nat.le_max_left _ _)
  | d :: ds, xs, ys, h1, h2, i + 1, u, v, e1, e2 => by
    unfold Tells at h1 h2
    obtain ⟨x, r, rfl, a1, a2⟩ := h1
    obtain ⟨y, t, rfl, b1, b2⟩ := h2
    unfold DV.deeps
    exact (alike_tells ds r t a2 b2 i u v (by simpa using e1) (by simpa using e2)).mono (Nat.le_max_right _ _)
end
end L2

set_option Elab.async false
set_option linter.all false
set_option maxRecDepth 100000
set_option maxHeartbeats 4000000
namespace L2
open PySem PySem.Spec PyProof.Rows
section
variable {κ : Type} [DecidableEq κ]
def metL (ks : List κ) : List κ := ks.foldl (fun acc k => if k ∈ acc then acc else acc ++ [k]) []
theorem metL_snoc (ks : List κ) (k : κ) : metL (ks ++ [k]) = if k ∈ metL ks then metL ks else metL ks ++ [k] := by
  unfold metL
  rw [List.foldl_append]
  rfl
theorem metL_take {ks : List κ} {i : Nat} {k : κ} (h : ks[i]? = some k) : metL (ks.take (i + 1)) = if k ∈ metL (ks.take i) then metL (ks.take i) else metL (ks.take i) ++ [k] := by
  have e : ks.take (i + 1) = ks.take i ++ [k] := by rw [List.take_add_one, h] <;> rfl
  rw [e, metL_snoc]
theorem mem_foldMet (k : κ) : ∀ (ks acc : List κ), k ∈ ks.foldl (fun acc k => if k ∈ acc then acc else acc ++ [k]) acc ↔ k ∈ acc ∨ k ∈ ks
  | [], acc => by simp
  | x :: r, acc => by
    rw [List.foldl_cons, mem_foldMet k r]
    by_cases h : x ∈ acc
    · rw [if_pos h, List.mem_cons]
      constructor
      · rintro (a | a)
        · exact .inl a
        · exact .inr (.inr a)
      · rintro (a | rfl | a)
        · exact .inl a
        · exact .inl h
        · exact .inr a
    · rw [if_neg h, List.mem_append, List.mem_singleton, List.mem_cons, or_assoc]
theorem mem_metL {k : κ} {ks : List κ} : k ∈ metL ks ↔ k ∈ ks := by unfold metL; rw [mem_foldMet]; simp
theorem len_foldMet : ∀ (ks acc : List κ), (ks.foldl (fun acc k => if k ∈ acc then acc else acc ++ [k]) acc).length ≤ acc.length + ks.length
  | [], acc => by simp
  | x :: r, acc => by
    rw [List.foldl_cons]
    refine Nat.le_trans (len_foldMet r _) ?_
    by_cases h : x ∈ acc
    · rw [if_pos h, List.length_cons]; omega
    · rw [if_neg h, List.length_append, List.length_cons, List.length_cons, List.length_nil]; omega
theorem len_metL (ks : List κ) : (metL ks).length ≤ ks.length := by
  have := len_foldMet ks []
  simpa [metL] using this
theorem foldMet_nd : ∀ (ks acc : List κ), (acc ++ ks).Nodup → ks.foldl (fun acc k => if k ∈ acc then acc else acc ++ [k]) acc = acc ++ ks
  | [], acc, _ => by simp
  | x :: r, acc, h => by
    have hx : x ∉ acc := fun hx => by
      rw [List.nodup_append] at h
      exact h.2.2 x hx x (List.mem_cons_self) rfl
    rw [List.foldl_cons, if_neg hx, foldMet_nd r (acc ++ [x]) (by rw [List.append_assoc]; exact h), List.append_assoc]
    rfl
theorem metL_nd {ks : List κ} (h : ks.Nodup) : metL ks = ks := by
  have := foldMet_nd ks [] (by simpa using h)
  simpa [metL] using this
end

section
variable {prog : Program} {w : World} {A : Around} {κ : Type} [DecidableEq κ] {kd : KeyKind prog w κ} {I : Addr} {fp wr : List Addr} {G : Array GenState → Array GenState → Prop} {n : Nat} {P : Nat → Value → Prop} {St : Nat → Shared → Prop}
abbrev SetTo (kd : KeyKind prog w κ) (h : Heap) (a : Addr) (ks : List κ) : Prop := h.SetOf kd a (fun k => decide (k ∈ ks)) (metL ks).length
theorem SetTo.at {h h' : Heap} {a : Addr} {ks : List κ} (x : SetTo kd h a ks) (e : ∀ o, h.get? a = some o → h'.get? a = some o) : SetTo kd h' a ks := by
  obtain ⟨o, es, ep, t, ho, r⟩ := x
  exact ⟨o, es, ep, t, e o ho, r⟩
theorem set_fill {R : Result → Shared → Prop} (W : WalksS prog w A.in1 I fp wr G n P St) {a : Addr} (out : a ∉ fp) {ks : List κ} (lk : ks.length = n)
    (vals : ∀ i v, P i v → ∃ k, ks[i]? = some k ∧ kd.is k v = true ∧ v.scannable = true) (few : n + 1 < scanBound) :
    ∀ (todo i : Nat) (s : Shared), i + todo = n → St i s → SetTo kd s.heap a (ks.take i) →
      (∀ s', Moved (a :: wr) G s s' → SetTo kd s'.heap a ks → R (.ok (.ret .none)) s') → codeAny (model prog w) A (.builtin "set.update.loop" ⟨[.ref a, .ref I], []⟩) R s
  | 0, i, s, ei, st, sx, fin => by
    have e : ks.take i = ks := List.take_of_length_le (by omega)
    rw [e] at sx
    have ei' : i = n := by omega
    subst ei'
    refine codeAny_builtin F.entry_set_update_loop ?_
    rw [Around.under_plainId F.plain_set_update_loop _]
    refine wpAny_bind (W.done s _ _ st fun s' mv => wpAny_pure (fin s' (mv.mono fun b hb => .tail _ hb) (sx.at fun o => mv.heap a o fun q => out (W.sub _ q))))
  | todo + 1, i, s, ei, st, sx, fin => by
    refine codeAny_builtin F.entry_set_update_loop ?_
    rw [Around.under_plainId F.plain_set_update_loop _]
    refine wpAny_bind (W.item i s _ _ (by omega) st fun v s1 hv st1 mv => ?_)
    obtain ⟨k, ek, iv, sc⟩ := vals i v hv
    have sx1 := sx.at (h' := s1.heap) fun o => mv.heap a o fun q => out (W.sub _ q)
    refine wpAny_bind (wpAny_holding (m := setAdd a v) ?_)
    unfold setAdd
    refine wpAny_holding (wpAny_bind (kd.pyHash iv ?_))
    have lm := len_metL (ks.take i)
    rw [List.length_take] at lm
    refine wpAny_setAddHashed_of (s := { s1 with toks := s1.toks + 1 }) iv sc sx1 (by omega) fun h2 sb sx2 => ?_
    have sx3 : SetTo kd h2 a (ks.take (i + 1)) := by
      have e1 : (fun k' => decide (k' ∈ ks.take i) || decide (k' = k)) = fun k' => decide (k' ∈ ks.take (i + 1)) := by
        funext k'
        rw [List.take_add_one, ek]
        simp [Bool.decide_or]
      have e2 : (if decide (k ∈ ks.take i) = true then (metL (ks.take i)).length else (metL (ks.take i)).length + 1) = (metL (ks.take (i + 1))).length := by
        rw [metL_take ek]
        by_cases hk : k ∈ ks.take i
        · rw [if_pos (decide_eq_true hk), if_pos (mem_metL.mpr hk)]
        · rw [if_neg (by simpa using hk), if_neg (fun q => hk (mem_metL.mp q)), List.length_append]
          rfl
      rw [e1, e2] at sx2
      exact sx2
    have far : ∀ b, b ≠ a → h2.get? b = s1.heap.get? b := fun b hb => sb.2 b hb
    refine wpAny_pure ⟨plainId_quiet F.plain_set_update_loop _, set_fill W out lk vals few todo (i + 1) _ (by omega) (W.frame _ s1 _ _ st1 (Nat.le_succ _) fun b hb o q => ?_) sx3 fun s3 mv3 sx4 => ?_⟩
    · rw [far b fun z => out (z ▸ hb)]; exact q
    · refine fin s3 (.trans W.gtrans ((mv.mono fun b hb => .tail _ hb).then_heap (Nat.le_succ _) fun b o hb q => ?_) mv3) sx4
      rw [far b fun z => hb (z ▸ .head _)]; exact q
end

namespace Ty
theorem tuple_set : isSubtype (.type "tuple") (.type "set") = pure false := by rw [isSubtype_type]; kernel_rfl
theorem tuple_frozenset : isSubtype (.type "tuple") (.type "frozenset") = pure false := by rw [isSubtype_type]; kernel_rfl
end Ty
abbrev set0 (led : Bool) : Obj := { cls := .type "set", dict := none, data := .set #[] 0 (.fresh 0 0 led) }
section
variable {prog : Program} {w : World} {A : Around} {E : Value → Shared → Prop} {s : Shared} {κ : Type} [DecidableEq κ] {kd : KeyKind prog w κ}
theorem set_from {T : String} {p : Addr} {o : Obj} {its : Array Value} {c0 : Nat} {ks : List κ} {Q : Value → Shared → Prop} (hh : A.handled = none) (hp : s.heap.get? p = some o) (hc : o.cls = .type T) (hd : o.data = .seq its c0) (hT : T = "list" ∨ T = "tuple")
    (lk : ks.length = its.size) (vals : ∀ (i : Nat) v, its[i]? = some v → ∃ k, ks[i]? = some k ∧ kd.is k v = true ∧ v.scannable = true) (few : its.size + 1 < scanBound)
    (fin : ∀ (h' : Heap) (t : Nat), SetTo kd h' s.heap.objs.size ks → (∀ b u, b < s.heap.objs.size → s.heap.get? b = some u → h'.get? b = some u) → Q (.ref s.heap.objs.size) { s with heap := h', toks := t }) :
    wpAny (model prog w) A (call (.type "set") [.ref p]) Q E s := by
  obtain ⟨c, tl, hmro⟩ := F.called_set.mro
  have g1 := F.called_set.made
  have g2 := F.called_set.sub
  refine wpAny_call (codeAny_of_tree (wpAny_pure ⟨Code.quiet_builtin _ (by decide +kernel), codeAny_builtin F.entry_type_call ?_⟩))
  rw [Around.under_plain (weight_type_call_type "set" [.ref p] []) rfl]
  have g3 := F.called_set.notType
  have g4 := F.called_set.canCreate
  have g5 := F.typeCall_set_1 (.ref p)
  repeat (any_goals (first | assumption | wp_step))
  refine codeAny_mono (code_set_new_1 (.ref p) (E := E) (Q₁ := fun u s1 => ∃ led, u = .ref s.heap.objs.size ∧ s1 = { s with heap := s.heap.push (set0 led) }) fun led => ⟨led, rfl, rfl⟩) fun r s1 q1 => ?_
  rcases r with e | (_ | _ | _ | u)
  all_goals try exact q1.elim
  all_goals try exact q1
  obtain ⟨led, rfl, rfl⟩ := q1
  have at1 : (s.heap.push (set0 led)).get? s.heap.objs.size = some (set0 led) := Heap.get?_push_size _ rfl
  have ty1 : Shared.TypeIs { s with heap := s.heap.push (set0 led) } (.ref s.heap.objs.size) "set" := ⟨_, at1, rfl⟩
  have g6 := F.called_set.init.lookup
  have g7 := F.called_set.init.bind (.ref s.heap.objs.size)
  repeat (any_goals (first | assumption | wp_step))
  refine codeAny_mono (codeAny_call_builtin (R := wants (fun r s2 => r = .none ∧ ∃ h' t, s2 = { s with heap := h', toks := t } ∧ SetTo kd h' s.heap.objs.size ks ∧ ∀ b u, b < s.heap.objs.size → s.heap.get? b = some u → h'.get? b = some u) E)
    F.called_set.init.plain F.entry_set_init (check_set_init_1 ty1 ?_)) fun r s2 q2 => ?_
  case _ =>
    have hpS : p < s.heap.objs.size := Heap.lt_size hp
    obtain ⟨oc, od, oa, os⟩ := o
    simp only at hc hd
    subst hc; subst hd
    have hp1 : (s.heap.push (set0 led)).get? p = some { cls := .type T, dict := od, data := .seq its c0, slots := os } := Heap.get?_push_of_some _ hp
    have f1 : isSubtype (.type T) (.type "set") = pure false := by rcases hT with rfl | rfl <;> first | exact F.sub_list_set | exact Ty.tuple_set
    have f2 : isSubtype (.type T) (.type "frozenset") = pure false := by rcases hT with rfl | rfl <;> first | exact F.sub_list_frozenset | exact Ty.tuple_frozenset
    have f3 : (Value.type T == Value.type "dict") = false := by rcases hT with rfl | rfl <;> decide
    have hh3 : A.in1.in1.in1.handled = none := by simp [hh]
    have sz : (s.heap.push (set0 led)).objs.size = s.heap.objs.size + 1 := Heap.size_push _ _
    have apart : p ≠ (s.heap.push (set0 led)).objs.size := by rw [sz]; exact Nat.ne_of_lt (Nat.lt_succ_of_lt hpS)
    have out : s.heap.objs.size ∉ [(s.heap.push (set0 led)).objs.size, p] := by rw [sz, List.mem_cons, List.mem_singleton]; exact fun z => z.elim (Nat.ne_of_lt (Nat.lt_succ_self _)) (Nat.ne_of_gt hpS)
    have start : ∀ x : Obj, SetTo kd ((s.heap.push (set0 led)).push x) s.heap.objs.size (ks.take 0) := fun x => by
      have z := (setObjOf_fresh (knd := kd) led).setOf (Heap.get?_push_of_some x at1) (by unfold scanBound; omega)
      have e : (fun k : κ => decide (k ∈ ks.take 0)) = fun _ => false := by funext k; simp
      show Heap.SetOf kd _ _ (fun k => decide (k ∈ ks.take 0)) _
      rw [e]
      exact z
    have ends : ∀ (x : Obj) (s' : Shared), Moved [s.heap.objs.size, (s.heap.push (set0 led)).objs.size] (fun a b => b = a) { s with heap := (s.heap.push (set0 led)).push x } s' → SetTo kd s'.heap s.heap.objs.size ks →
        ∃ h' t, s' = { s with heap := h', toks := t } ∧ SetTo kd h' s.heap.objs.size ks ∧ ∀ b u, b < s.heap.objs.size → s.heap.get? b = some u → h'.get? b = some u := fun x s' mv sx => by
      obtain ⟨h', g', d', t', o'⟩ := s'
      obtain rfl : g' = s.gens := mv.gens
      obtain rfl : d' = s.drawn := mv.drawn
      obtain rfl : o' = s.os := mv.os
      exact ⟨h', t', rfl, sx, fun b u hb q => mv.heap b u (by rw [sz, List.mem_cons, List.mem_singleton]; exact fun z => z.elim (Nat.ne_of_lt hb) (Nat.ne_of_lt (Nat.lt_succ_of_lt hb))) (Heap.get?_push_of_some _ (Heap.get?_push_of_some _ q))⟩
    unfold Builtin.«set.__init__» noKeywords Builtin.Frozenset.updateFrom
    generalize hPI : pyIter = PI
    wp_walk
    subst hPI
    rcases hT with rfl | rfl
    · have hl : (s.heap.push (set0 led)).IsList p its := ⟨_, hp1, rfl, c0, rfl⟩
      refine wpAny_pyIter_list hl (wpAny_bind (wpAny_runValue ?_))
      refine set_fill (kd := kd) ((Walks.list hh3 _ p apart its).toS) out lk vals few its.size 0 _ (Nat.zero_add _) ⟨⟨_, Heap.get?_push_size _ rfl, rfl, rfl⟩, hl.push _⟩ (start _) fun s' mv sx => ?_
      exact wpAny_pure (wpAny_pure ⟨rfl, ends _ s' mv sx⟩)
    · have hl : (s.heap.push (set0 led)).IsTuple p its := ⟨_, hp1, rfl, c0, rfl⟩
      refine wpAny_pyIter_tuple hl (wpAny_bind (wpAny_runValue ?_))
      refine set_fill (kd := kd) ((Walks.tuple hh3 _ p apart its).toS) out lk vals few its.size 0 _ (Nat.zero_add _) ⟨⟨_, Heap.get?_push_size _ rfl, rfl, rfl⟩, hl.push _⟩ (start _) fun s' mv sx => ?_
      exact wpAny_pure (wpAny_pure ⟨rfl, ends _ s' mv sx⟩)
  · rcases r with e | (_ | _ | _ | u)
    all_goals try exact q2.elim
    all_goals try exact q2
    obtain ⟨rfl, h', t, rfl, sx, kp⟩ := q2
    repeat (any_goals (first | assumption | wp_step))
    exact fin _ _ sx kp
end
section
variable {X : Cx}
noncomputable def SetT (P : Program) (w : World) (a : Addr) (zs : List Str) : HO := .ext fun h => SetTo (strKind P w) h a zs
theorem SetT.new {P : Program} {w : World} {H : Hp} {h : Heap} {a : Addr} {zs : List Str} (x : SetTo (strKind P w) h a zs) : ObjOk P w H h a (SetT P w a zs) := by
  refine ⟨x, ?_, fun h1 h2 y e => SetTo.at y e⟩
  obtain ⟨o, _, _, _, e, _⟩ := x
  exact ⟨o, e⟩
theorem texts_at : ∀ {zs : List Str} {us : List Value}, Vals (zs.map V.str) us → ∀ (i : Nat) (v : Value), us[i]? = some v → ∃ (k : Str) (t : Tok), zs[i]? = some k ∧ v = .str k t
  | [], _, .nil, i, v, h => by simp at h
  | z :: zs, u :: us, .cons r rs, 0, v, h => by
    simp at h
    subst h
    obtain ⟨t, rfl⟩ := r
    exact ⟨z, t, rfl, rfl⟩
  | z :: zs, u :: us, .cons r rs, i + 1, v, h => by
    simp at h
    obtain ⟨k, t, a, b⟩ := texts_at rs i v h
    exact ⟨k, t, by simpa using a, b⟩
theorem call_set_texts (hc : X.calm = true) : CallR X (.type "set") (fun xs H Q => ∃ p zs, xs = [.ref p] ∧ (SqL X.K H p (zs.map V.str) ∨ SqT X.K H p (zs.map V.str)) ∧ zs.length ≤ 1000 ∧ ∀ l, H l = none → Q (.ref l) (upd H l (SetT X.prog X.w l zs))) := by
  intro pins s σ H xs us Q I r h
  obtain ⟨p, zs, rfl, hq, hl, q⟩ := h
  obtain ⟨u, rfl, rx⟩ := vals1 r
  cases rx
  have go : ∀ (T : String) (o : Obj) (its : List Value) (c0 : Nat), s.heap.get? p = some o → o.cls = .type T → o.data = .seq its.toArray c0 → (T = "list" ∨ T = "tuple") → Vals (zs.map V.str) its → wpAny (model X.prog X.w) X.A (call (.type "set") [.ref p]) (EP X pins σ Q) X.xe s :=
    fun T o its c0 ho hcl hda hT rv => by
      have ln : zs.length = its.length := by have := rv.length; rwa [List.length_map] at this
      refine set_from (kd := strKind X.prog X.w) (ks := zs) (I.ok.hd hc) ho hcl hda hT (by simpa using ln) (fun i v hv => ?_) (by simp [scanBound]; omega) fun h' t sx kp => ?_
      · obtain ⟨k, t, a, rfl⟩ := texts_at rv i v (by simpa using hv)
        exact ⟨k, a, strKind_is _ _ _ _, rfl⟩
      · refine ⟨.ref s.heap.objs.size, _, I.laid (a := s.heap.objs.size) (o := SetT X.prog X.w s.heap.objs.size zs) (h' := h') (t' := t) (fun b u q1 => kp b u (Heap.lt_size q1) q1) (Nat.le_refl _) (SetT.new sx), rfl, q _ (I.hok.fresh (Nat.le_refl _))⟩
  rcases hq with hq | hq
  · obtain ⟨its, rv, pl, _⟩ := I.list hq
    obtain ⟨o, ho, hcl, n, hda⟩ := pl.isList
    exact go "list" o its n ho hcl hda (.inl rfl) rv
  · obtain ⟨its, rv, pl, _⟩ := I.tuple hq
    obtain ⟨o, ho, hcl, n, hda⟩ := pl
    exact go "tuple" o its n ho hcl hda (.inr rfl) rv
theorem call_len_setT : CallR X (.builtin "len") (fun xs H Q => ∃ p zs, xs = [.ref p] ∧ H p = some (SetT X.prog X.w p zs) ∧ zs.length ≤ 1000 ∧ Q (.int (metL zs).length) H) := by
  intro pins s σ H xs us Q I r h
  obtain ⟨p, zs, rfl, hp, hl, q⟩ := h
  obtain ⟨u, rfl, rx⟩ := vals1 r
  cases rx
  obtain ⟨⟨o, es, ep, t, e1, e2, e3, _, _, _, e4, e5⟩, _⟩ := (show ObjOk X.prog X.w H s.heap p (SetT X.prog X.w p zs) from I.hok p _ hp)
  have := len_metL zs
  exact PySem.call_len_set e1 e2 e3 e4 (by omega) ⟨.int (metL zs).length, H, I.tok _, ⟨s.toks + 1, by rw [e5]⟩, q⟩
end
end L2

set_option Elab.async false
set_option linter.all false
set_option maxRecDepth 100000
set_option maxHeartbeats 4000000
namespace L2
open PySem PySem.Spec PyProof.Rows

section
variable {κ : Type} [DecidableEq κ]
noncomputable def valV (kvs : List (κ × V)) (k : κ) : Option V := (kvs.find? fun kv => decide (kv.1 = k)).map (·.2)
noncomputable def putK (kvs : List (κ × V)) (k : κ) (v : V) : List (κ × V) :=
  if (kvs.any fun kv => decide (kv.1 = k)) = true then kvs.map (fun kv => if kv.1 = k then (kv.1, v) else kv) else kvs ++ [(k, v)]
theorem valV_pos {p : κ × V} {r : List (κ × V)} {k : κ} (e : p.1 = k) : valV (p :: r) k = some p.2 := by simp [valV, List.find?_cons, e]
theorem valV_neg {p : κ × V} {r : List (κ × V)} {k : κ} (e : ¬ p.1 = k) : valV (p :: r) k = valV r k := by simp [valV, List.find?_cons, e]
theorem valV_any (k : κ) : ∀ kvs : List (κ × V), (kvs.any fun kv => decide (kv.1 = k)) = (valV kvs k).isSome
  | [] => rfl
  | p :: r => by
    rw [List.any_cons]
    by_cases e : p.1 = k
    · simp only [valV_pos e, decide_eq_true e, Bool.true_or, Option.isSome_some]
    · rw [valV_neg e, decide_eq_false e, Bool.false_or]; exact valV_any k r
theorem length_putK (kvs : List (κ × V)) (k : κ) (v : V) : (putK kvs k v).length ≤ kvs.length + 1 := by
  unfold putK
  split
  · rw [List.length_map]; omega
  · rw [List.length_append, List.length_cons, List.length_nil]; omega
theorem putK_new {kvs : List (κ × V)} {k : κ} (v : V) (h : valV kvs k = none) : putK kvs k v = kvs ++ [(k, v)] := by
  unfold putK
  rw [valV_any, h]
  exact if_neg (by decide)

theorem RelO.isSome_eq {o : Option V} {u : Option Value} (r : RelO o u) : o.isSome = u.isSome := by
  cases o with
  | none => cases u with
    | none => rfl
    | some _ => exact (show False from r).elim
  | some _ => cases u with
    | none => exact (show False from r).elim
    | some _ => rfl
theorem KV.val {kvs : List (κ × V)} {vs : List (κ × Value)} (r : KV kvs vs) (k : κ) : RelO (valV kvs k) (valueAt vs k) := by
  unfold KV at r
  induction r with
  | nil => exact True.intro
  | @cons p q ps qs h t ih =>
    obtain ⟨h1, h2⟩ := h
    by_cases e : p.1 = k
    · have e' : q.1 = k := h1.symm.trans e
      have b : valueAt (q :: qs) k = some q.2 := by simp [valueAt, List.find?_cons, e']
      rw [valV_pos e, b]; exact h2
    · have e' : ¬ q.1 = k := fun z => e (h1.trans z)
      have b : valueAt (q :: qs) k = valueAt qs k := by simp [valueAt, List.find?_cons, e']
      rw [valV_neg e, b]; exact ih
theorem KV.any {kvs : List (κ × V)} {vs : List (κ × Value)} (r : KV kvs vs) (k : κ) : (kvs.any fun kv => decide (kv.1 = k)) = vs.any fun kv => decide (kv.1 = k) := by
  unfold KV at r
  induction r with
  | nil => rfl
  | cons h t ih => rw [List.any_cons, List.any_cons, ih, h.1]
theorem KV.repl {kvs : List (κ × V)} {vs : List (κ × Value)} (r : KV kvs vs) (k : κ) {y : V} {u : Value} (ry : RelV y u) :
    KV (kvs.map fun kv => if kv.1 = k then (kv.1, y) else kv) (vs.map fun kv => if kv.1 = k then (kv.1, u) else kv) := by
  unfold KV at r ⊢
  induction r with
  | nil => exact .nil
  | @cons p q ps qs h t ih =>
    rw [List.map_cons, List.map_cons]
    refine .cons ?_ ih
    obtain ⟨h1, h2⟩ := h
    by_cases e : p.1 = k
    · rw [if_pos e, if_pos (h1.symm.trans e)]; exact ⟨h1, ry⟩
    · rw [if_neg e, if_neg (fun z => e (h1.trans z))]; exact ⟨h1, h2⟩
theorem KV.put {kvs : List (κ × V)} {vs : List (κ × Value)} (r : KV kvs vs) (k : κ) {y : V} {u : Value} (ry : RelV y u) : KV (putK kvs k y) (stored vs k u) := by
  unfold putK stored
  rw [r.any k]
  by_cases e : (vs.any fun kv => decide (kv.1 = k)) = true
  · rw [if_pos e, if_pos e]; exact r.repl k ry
  · rw [if_neg e, if_neg e]; exact Paired.snoc r ⟨rfl, ry⟩
theorem KV.keys {kvs : List (κ × V)} {vs : List (κ × Value)} (r : KV kvs vs) : kvs.map (·.1) = vs.map (·.1) := by
  unfold KV at r
  induction r with
  | nil => rfl
  | cons h t ih => rw [List.map_cons, List.map_cons, ih, h.1]
theorem KV.length {kvs : List (κ × V)} {vs : List (κ × Value)} (r : KV kvs vs) : kvs.length = vs.length := Paired.length r
end

theorem kV_is {P : Program} {w : World} {k : Key} {u : Value} (r : RelV (kV k) u) : (mixKind P w).is k u = true := by
  cases k with
  | inl i => obtain ⟨t, e⟩ := (show ∃ t, u = Value.int i t from r); subst e; exact mixKind_int P w i t
  | inr x => obtain ⟨t, e⟩ := (show ∃ t, u = Value.str x t from r); subst e; exact mixKind_str P w x t
theorem items_are {P : Program} {w : World} : ∀ {ks : List Key} {us : List Value}, Vals (ks.map kV) us → ItemsAre (mixKind P w) ks us
  | [], _, r => by rw [List.map_nil] at r; cases r; exact .nil
  | k :: ks, _, r => by
    rw [List.map_cons] at r
    cases r with
    | cons h t => exact .cons (kV_is h) (items_are t)

abbrev KT (H : Hp) : List (List Key × V) → List (List Key × Addr × Value) → Prop := Paired fun p q => p.1 = q.1 ∧ H q.2.1 = some (.tup (p.1.map kV)) ∧ RelV p.2 q.2.2
theorem KT.val {H : Hp} {kvs : List (List Key × V)} {xs : List (List Key × Addr × Value)} (r : KT H kvs xs) (k : List Key) : RelO (valV kvs k) ((atKey xs k).map (·.2)) := by
  induction r with
  | nil => exact True.intro
  | @cons p q ps qs h t ih =>
    obtain ⟨h1, _, h2⟩ := h
    by_cases e : p.1 = k
    · have e' : q.1 = k := h1.symm.trans e
      have b : atKey (q :: qs) k = some q.2 := by simp [atKey, List.find?_cons, e']
      rw [valV_pos e, b]; exact h2
    · have e' : ¬ q.1 = k := fun z => e (h1.trans z)
      have b : atKey (q :: qs) k = atKey qs k := by simp [atKey, List.find?_cons, e']
      rw [valV_neg e, b]; exact ih
theorem KT.repl {H : Hp} {kvs : List (List Key × V)} {xs : List (List Key × Addr × Value)} (r : KT H kvs xs) (k : List Key) {y : V} {u : Value} (ry : RelV y u) :
    KT H (kvs.map fun kv => if kv.1 = k then (kv.1, y) else kv) (xs.map (putAt k u)) := by
  induction r with
  | nil => exact .nil
  | @cons p q ps qs h t ih =>
    rw [List.map_cons, List.map_cons]
    refine .cons ?_ ih
    obtain ⟨h1, h2, h3⟩ := h
    unfold putAt
    by_cases e : p.1 = k
    · rw [if_pos e, if_pos (h1.symm.trans e)]; exact ⟨h1, h2, ry⟩
    · rw [if_neg e, if_neg (fun z => e (h1.trans z))]; exact ⟨h1, h2, h3⟩
theorem KT.put {H : Hp} {kvs : List (List Key × V)} {xs : List (List Key × Addr × Value)} (r : KT H kvs xs) (k : List Key) {b : Addr} {y : V} {u : Value} (hb : H b = some (.tup (k.map kV))) (ry : RelV y u) :
    KT H (putK kvs k y) (storedH xs k b u) := by
  have e : (kvs.any fun kv => decide (kv.1 = k)) = (atKey xs k).isSome := by
    rw [valV_any, (r.val k).isSome_eq, Option.isSome_map]
  unfold putK storedH
  rw [e]
  by_cases q : (atKey xs k).isSome = true
  · rw [if_pos q, if_pos q]; exact r.repl k ry
  · rw [if_neg q, if_neg q]; exact Paired.snoc r ⟨rfl, hb, ry⟩
theorem KT.keeps {H H' : Hp} {kvs : List (List Key × V)} {xs : List (List Key × Addr × Value)} (r : KT H kvs xs) (ht : ∀ b ys, H b = some (.tup ys) → H' b = some (.tup ys)) : KT H' kvs xs :=
  Paired.mapP r fun _ _ z => ⟨z.1, ht _ _ z.2.1, z.2.2⟩

section
variable {P : Program} {w : World} {H : Hp} {h : Heap} {a : Addr}
theorem rd_of {u : HO} (ok : HOk P w H h) (e : Rd H a u) : ObjOk P w H h a u := e.ok ok
theorem dk_rd {kvs : List (Key × V)} (ok : HOk P w H h) (e : Rd H a (.dK kvs)) : kvs.length ≤ sizeLine ∧ (a == sysModules) = false ∧ ∃ vs, KV kvs vs ∧ h.DictOf (mixKind P w) a vs :=
  show ObjOk P w H h a (.dK kvs) from rd_of ok e
theorem dk_of {kvs : List (Key × V)} (ok : HOk P w H h) (e : H a = some (.dK kvs)) : kvs.length ≤ sizeLine ∧ (a == sysModules) = false ∧ ∃ vs, KV kvs vs ∧ h.DictOf (mixKind P w) a vs := dk_rd ok (.inl e)
theorem key_of {ks : List Key} (ok : HOk P w H h) (e : H a = some (.tup (ks.map kV))) : (tupleKind (mixKind P w)).is h ks a := by
  obtain ⟨_, its, r, o, h1, h2, ⟨n, h3⟩, _⟩ := (show ObjOk P w H h a (.tup (ks.map kV)) from ok a _ e)
  exact ⟨o, its.toArray, n, h1, h2, h3, by simpa using items_are r⟩
theorem dt_rd {kvs : List (List Key × V)} (ok : HOk P w H h) (e : Rd H a (.dT kvs)) : kvs.length ≤ sizeLine ∧ (a == sysModules) = false ∧
    ∃ xs, KT H kvs xs ∧ h.DictOfH (tupleKind (mixKind P w)) a xs := by
  obtain ⟨z, y, xs, r, o, es, ep, h1, h2, h3, h4, h5⟩ := (show ObjOk P w H h a (.dT kvs) from rd_of ok e)
  refine ⟨z, y, xs, r, o, es, ep, h1, h2, h3, h4, fun x hx => ?_, h5⟩
  have all : ∀ {l : List (List Key × V)} {m : List (List Key × Addr × Value)}, KT H l m → ∀ x ∈ m, (tupleKind (mixKind P w)).is h x.1 x.2.1 := by
    intro l m q
    induction q with
    | nil => intro x hx; exact nomatch hx
    | @cons p q ps qs hq t ih =>
      intro x hx
      rcases List.mem_cons.mp hx with e | hx
      · subst e
        exact key_of ok (by rw [← hq.1]; exact hq.2.1)
      · exact ih x hx
  exact all r x hx
theorem dt_of {kvs : List (List Key × V)} (ok : HOk P w H h) (e : H a = some (.dT kvs)) : kvs.length ≤ sizeLine ∧ (a == sysModules) = false ∧
    ∃ xs, KT H kvs xs ∧ h.DictOfH (tupleKind (mixKind P w)) a xs := dt_rd ok (.inl e)
end

noncomputable def DGet (H : Hp) (a : Addr) (y : V) (r : Option V) : Prop :=
  (∃ kvs k, Rd H a (.dK kvs) ∧ y = kV k ∧ r = valV kvs k) ∨ ∃ kvs k b, Rd H a (.dT kvs) ∧ y = .ref b ∧ H b = some (.tup (k.map kV)) ∧ r = valV kvs k
noncomputable def DPut (H : Hp) (a : Addr) (y v : V) (H' : Hp) : Prop :=
  (∃ kvs k, H a = some (.dK kvs) ∧ y = kV k ∧ kvs.length < sizeLine ∧ H' = upd H a (.dK (putK kvs k v))) ∨
  ∃ kvs k b, H a = some (.dT kvs) ∧ y = .ref b ∧ H b = some (.tup (k.map kV)) ∧ kvs.length < sizeLine ∧ H' = upd H a (.dT (putK kvs k v))
theorem DGet.k {H : Hp} {a : Addr} {kvs : List (Key × V)} {k : Key} (e : H a = some (.dK kvs)) : DGet H a (kV k) (valV kvs k) := .inl ⟨kvs, k, .inl e, rfl, rfl⟩
theorem DPut.k {H : Hp} {a : Addr} {kvs : List (Key × V)} {k : Key} {v : V} (e : H a = some (.dK kvs)) (hl : kvs.length < sizeLine) : DPut H a (kV k) v (upd H a (.dK (putK kvs k v))) := .inl ⟨kvs, k, e, rfl, hl, rfl⟩
section
variable {X : Cx} {pins : List (Addr × Obj)} {σ : St} {H : Hp} {s : Shared} {a : Addr} {y v : V} {u r : Value} {o : Option V} {A : Around} {E : Value → Shared → Prop}

theorem Inv.big (I : Inv X pins σ H s) : sysModules < s.heap.objs.size := by
  have h : mainGlobals < s.heap.objs.size := (I.mod.glob.keeps I.bk).lt
  exact Nat.lt_trans (by decide) h

theorem d_getItem {Q : Value → Shared → Prop} (hu : A.units + 1 < cLine) (I : Inv X pins σ H s) (g : DGet H a y (some v)) (ry : RelV y u) (h : ∀ w' s', Inv X pins σ H s' → RelV v w' → Q w' s') :
    wpAny (model X.prog X.w) A (getItem (.ref a) u) Q E s := by
  rcases g with ⟨kvs, k, e, ey, l⟩ | ⟨kvs, k, b, e, ey, eb, l⟩
  · subst ey
    obtain ⟨z, hd, vs, rel, dd⟩ := dk_rd I.hok e
    obtain ⟨w', hw, rw'⟩ := RelO.some_of (v := v) (o := valueAt vs k) (by rw [l]; exact rel.val k)
    exact wpAny_getItem_of (kV_is ry) dd.mapOf hw (h w' _ (I.tok _) rw')
  · subst ey
    cases (show u = Value.ref b from ry)
    obtain ⟨z, hd, xs, rel, dd⟩ := dt_rd I.hok e
    obtain ⟨w', hw, rw'⟩ := RelO.some_of (v := v) (o := (atKey xs k).map (·.2)) (by rw [l]; exact rel.val k)
    obtain ⟨p, hp, hp2⟩ := Option.map_eq_some_iff.mp hw
    refine wpAny_getItem_heap (tupleKind_room_in1 hu) (key_of I.hok eb) dd hp ?_
    rw [hp2]
    exact h w' _ (I.tok _) rw'
theorem d_in {Q : Value → Shared → Prop} (hu : A.units + 1 < cLine) (I : Inv X pins σ H s) (g : DGet H a y o) (ry : RelV y u) (h : ∀ s', Inv X pins σ H s' → Q (.bool o.isSome) s') :
    wpAny (model X.prog X.w) A (compareOp .In u (.ref a)) Q E s := by
  rcases g with ⟨kvs, k, e, ey, l⟩ | ⟨kvs, k, b, e, ey, eb, l⟩
  · subst ey
    obtain ⟨z, hd, vs, rel, dd⟩ := dk_rd I.hok e
    refine wpAny_in_of (kV_is ry) hd dd.mapOf ?_
    rw [← (rel.val k).isSome_eq, ← l]
    exact h _ (I.tok _)
  · subst ey
    cases (show u = Value.ref b from ry)
    obtain ⟨z, hd, xs, rel, dd⟩ := dt_rd I.hok e
    refine wpAny_in_heap (tupleKind_room_in1 hu) (key_of I.hok eb) hd dd ?_
    have q := (rel.val k).isSome_eq
    rw [Option.isSome_map] at q
    rw [← q, ← l]
    exact h _ (I.tok _)
theorem d_write {h' : Heap} {t' : Nat} {ob : HO} (I : Inv X pins σ H s) (mu : Mut (H a)) (hs : Heap.SameBut a s.heap h') (he : ∃ q, h'.get? a = some q) (new : ObjOk X.prog X.w (upd H a ob) h' a ob) :
    Inv X pins σ (upd H a ob) { s with heap := h', toks := t' } :=
  I.write (x := a) (e := a) mu (.inl rfl) (fun b q hb z => (hs.2 b hb).trans z) he new
theorem dk_new {P : Program} {w : World} {H' : Hp} {h' : Heap} {kvs : List (Key × V)} {vs : List (Key × Value)} (z : kvs.length ≤ sizeLine) (hd : (a == sysModules) = false) (rel : KV kvs vs) (dd : h'.DictOf (mixKind P w) a vs) :
    ObjOk P w H' h' a (.dK kvs) := ⟨z, hd, vs, rel, dd⟩
theorem d_setItem {H' : Hp} {Q : Unit → Shared → Prop} (hu : A.units + 1 < cLine) (I : Inv X pins σ H s) (g : DPut H a y v H') (ry : RelV y u) (rv : RelV v r) (h : ∀ s', Inv X pins σ H' s' → Q () s') :
    wpAny (model X.prog X.w) A (setItem (.ref a) u r) Q E s := by
  rcases g with ⟨kvs, k, e, ey, l, eH⟩ | ⟨kvs, k, b, e, ey, eb, l, eH⟩
  · subst ey eH
    obtain ⟨z, hd, vs, rel, dd⟩ := dk_of I.hok e
    have hz : vs.length ≤ sizeLine := by rw [← rel.length]; exact z
    have hl : (putK kvs k v).length ≤ sizeLine := by have := length_putK kvs k v; omega
    refine wpAny_setItem_pairs (hsz := hz) (kV_is ry) dd fun h' dd' hs => h _ ?_
    have he : ∃ q, h'.get? a = some q := let ⟨q, _, _, hq, _⟩ := dd'; ⟨q, hq⟩
    exact d_write I (by rw [e]; exact True.intro) hs he (dk_new hl hd (rel.put k rv) dd')
  · subst ey eH
    cases (show u = Value.ref b from ry)
    obtain ⟨z, hd, xs, rel, dd⟩ := dt_of I.hok e
    have hz : xs.length ≤ sizeLine := by rw [← Paired.length rel]; exact z
    have hl : (putK kvs k v).length ≤ sizeLine := by have := length_putK kvs k v; omega
    refine wpAny_setItem_heap (hsz := hz) (tupleKind_room_in1 hu) (key_of I.hok eb) dd fun h' dd' hs => h _ ?_
    obtain ⟨q, es, ep, hq, h2, h3, h4, _, h5⟩ := dd'
    refine d_write I (by rw [e]; exact True.intro) hs ⟨q, hq⟩ ⟨hl, hd, _, (rel.put k eb rv).keeps fun c ys ec => ?_, q, es, ep, hq, h2, h3, h4, h5⟩
    rw [upd_ne (ne_of ec e (fun z => nomatch z))]
    exact ec
end

section
variable {X : Cx} {pins : List (Addr × Obj)} {σ : St} {H : Hp} {s : Shared} {a : Addr} {kvs : List (Key × V)} {k : Key} {u : Value} {A : Around} {E : Value → Shared → Prop}
end

noncomputable def NoSl (i : Expr) : Prop := ∀ ov iv, subscripted i false ov iv = operate [ov, iv] (getItem ov iv)
theorem subD_of {prog : Program} {w : World} {A : Around} {E : Value → Shared → Prop} {s : Shared} {env : Env} {value slice : Expr} {pos : Pos} {T id : String} {Q : Value → Shared → Prop}
    (hl : typeLookup (.type T) "__getitem__" = pure (some (.builtin id))) (hs : NoSl slice)
    (h : wpAny (model prog w) A (eval value env) (fun o s₁ => wpAny (model prog w) A (eval slice env) (fun i s₂ => s₂.TypeIs o T ∧ wpAny (model prog w) A (getItem o i) Q E s₂) E s₁) E s) :
    wpAny (model prog w) A (eval (.Subscript value slice pos) env) Q E s := by
  refine Subscript_ (wpAny_mono h (fun o s₁ h₁ => wpAny_mono h₁ (fun i s₂ h₂ => ?_) fun _ _ x => x) fun _ _ x => x)
  obtain ⟨hT, h₂⟩ := h₂
  unfold subscriptTail
  refine wpAny_bind ?_
  rw [getitemInPython_of_ne hT.not_modules]
  refine wpAny_bind (wpAny_specialOf hT hl ?_)
  have fin : wpAny (model prog w) A (subscripted slice false o i) (fun r s₃ => wpAny (model prog w) A (letTemporaryGo value o r >>= fun _ => pure r) Q E s₃) E s₂ := by
    rw [hs o i]
    exact wpAny_operating (wpAny_mono h₂ (fun r s₃ h₃ => wpAny_bind (wpAny_letTemporaryGo (wpAny_pure h₃))) fun _ _ x => x)
  first
    | exact wpAny_pure (wpAny_bind fin)
    | exact wpAny_bind (wpAny_pure (wpAny_bind fin))
    | exact wpAny_bind fin

theorem dict_typeIs {X : Cx} {pins : List (Addr × Obj)} {σ : St} {H : Hp} {s : Shared} {a : Addr} {y : V} {o : Option V} (I : Inv X pins σ H s) (g : DGet H a y o) : s.TypeIs (.ref a) "dict" := by
  rcases g with ⟨kvs, k, e, _, _⟩ | ⟨kvs, k, b, e, _, _, _⟩
  · obtain ⟨_, _, vs, _, dd⟩ := dk_rd I.hok e
    exact dd.typeIs
  · obtain ⟨_, _, xs, _, dd⟩ := dt_rd I.hok e
    exact dd.typeIs
noncomputable def tDGet (td ty : TE) : TE := fun σ H Q => td σ H fun x H1 => ty σ H1 fun y H2 => ∃ a v, x = .ref a ∧ DGet H2 a y (some v) ∧ Q v H2
noncomputable def tDIn (ty td : TE) : TE := fun σ H Q => ty σ H fun y H1 => td σ H1 fun x H2 => ∃ a o, x = .ref a ∧ DGet H2 a y o ∧ Q (.bl o.isSome) H2
noncomputable def sDPut (td ty tv : TE) : TS := fun D σ H => tv σ H fun v H1 => td σ H1 fun x H2 => ty σ H2 fun y H3 => ∃ a H4, x = .ref a ∧ DPut H3 a y v H4 ∧ D.nx σ H4
section
variable {X : Cx} {o i e value : Expr} {pos pos' tpos : Pos} {td ty tv : TE}
theorem pe_dget (hu : X.A.units + 1 < cLine) (ho : PE X o td) (hi : PE X i ty) (hs : NoSl i) : PE X (.Subscript o i pos) (tDGet td ty) := by
  intro pins s σ H Q I h
  refine subD_of PySem.F.slot_dict_getitem.lookup hs (thn (ho pins s σ H _ I h) fun u s1 ⟨x, H1, I1, rx, q1⟩ => thn (hi pins s1 σ H1 _ I1 q1) fun iv s2 hz => ?_)
  obtain ⟨y, H2, I2, ry, a, v, ex, g, q2⟩ := hz
  subst ex
  obtain rfl : u = Value.ref a := rx
  exact ⟨dict_typeIs I2 g, d_getItem hu I2 g ry fun w' s3 I3 rw' => ⟨v, H2, I3, rw', q2⟩⟩
theorem pc_din (hu : X.A.units + 1 < cLine) (hi : PE X i ty) (ho : PE X o td) : PC X .In i o (tDIn ty td) := by
  intro pins s σ H Q I h
  refine thn (hi pins s σ H _ I h) fun iv s1 ⟨y, H1, I1, ry, q1⟩ => thn (ho pins s1 σ H1 _ I1 q1) fun u s2 hz => ?_
  obtain ⟨x, H2, I2, rx, a, ov, ex, g, q2⟩ := hz
  subst ex
  obtain rfl : u = Value.ref a := rx
  exact d_in hu I2 g ry fun s3 I3 => ⟨.bl ov.isSome, H2, I3, rfl, q2⟩
theorem ps_dput (hu : X.A.units + 1 < cLine) (ho : PE X o td) (hi : PE X i ty) (hv : PE X value tv) (hs : swapsWith value (some (.Subscript o i pos')) pos.line X.env = pure false) :
    PS X (.Assign [.Subscript o i pos'] value pos) (sDPut td ty tv) := by
  intro pins s σ H D I h
  refine wpAny_Assign_Subscript (thn (hv pins s σ H _ I h) fun r s1 ⟨v, H1, I1, rv, q1⟩ => thn (ho pins s1 σ H1 _ I1 q1) fun u s2 ⟨x, H2, I2, rx, q2⟩ => thn (hi pins s2 σ H2 _ I2 q2) fun iv s3 hz => ?_) hs
  obtain ⟨y, H3, I3, ry, a, H4, ex, g, q3⟩ := hz
  subst ex
  obtain rfl : u = Value.ref a := rx
  exact d_setItem hu I3 g ry rv fun s4 I4 => ⟨σ, H4, I4, q3⟩
end

theorem dk_empty {P : Program} {w : World} {H : Hp} (h : Heap) (hb : sysModules < h.objs.size) : ObjOk P w H (h.push { cls := .type "dict", data := .dict #[] }) h.objs.size (.dK []) :=
  ⟨Nat.zero_le _, beq_eq_false_iff_ne.mpr (Ne.symm (Nat.ne_of_lt hb)), [], .nil, Heap.DictOf.new h⟩
noncomputable def tDNewK : TE := fun _ H Q => ∀ p, H p = none → Q (.ref p) (upd H p (.dK []))
section
variable {X : Cx} {pos : Pos}
theorem pe_dnewK : PE X (.Dict [] [] pos) tDNewK := fun pins s σ H Q I h =>
  wpAny_Dict_empty ⟨.ref s.heap.objs.size, _, I.laid (a := s.heap.objs.size) (o := .dK []) (t' := s.toks) (fun _ _ q => Heap.get?_push_of_some _ q) (Nat.le_refl _) (dk_empty s.heap I.big), rfl, h _ (I.hok.fresh (Nat.le_refl _))⟩
end

section
variable {X : Cx} {pins : List (Addr × Obj)} {σ : St} {H : Hp} {s : Shared} {a : Addr} {y d : V} {u r : Value} {o : Option V} {A : Around} {E : Value → Shared → Prop}
end

section
variable {X : Cx} {o e f : Expr} {apos cpos : Pos} {td ty tx : TE}
end

section
variable {X : Cx} {pins : List (Addr × Obj)} {σ : St} {H : Hp} {s : Shared} {a : Addr} {kvs : List (Key × V)} {A : Around} {E : Value → Shared → Prop}
end

section
variable {X : Cx} {pins : List (Addr × Obj)} {σ : St} {H : Hp} {s : Shared} {a : Addr} {y : V} {u : Value} {A : Around} {E : Value → Shared → Prop}
end
end L2

set_option Elab.async false
set_option linter.all false
set_option maxRecDepth 100000
set_option maxHeartbeats 4000000
namespace L2
open PySem PySem.Spec PyProof.Rows
structure MCal (P : Program) (w : World) (K : PySem.W.Frag) (mg : Str → Option Value) (base : Heap) (k : Nat) (C : Addr) (m : Str) (ps : List Str) (sp : Sp) : Prop where
  cl : Cls K C
  ex : ∃ (f : Addr) (fd : FuncData), FnOk P w K mg base CX0 k f fd ps sp ∧ Binds K fd ps [] ∧ Meth K C m f
theorem MCal.mk' {P : Program} {w : World} {K : PySem.W.Frag} {mg : Str → Option Value} {base : Heap} {k : Nat} {C : Addr} {m : Str} {ps : List Str} {sp : Sp} {f : Addr} {fd : FuncData} (c : Cls K C) (a : FnOk P w K mg base CX0 k f fd ps sp) (b : Binds K fd ps []) (d : Meth K C m f) :
    MCal P w K mg base k C m ps sp := ⟨c, f, fd, a, b, d⟩
section
variable {X : Cx} {k : Nat} {C : Addr} {m x : Str} {ps : List Str} {sp : Sp} {o e : Expr} {es : List Expr} {ta : TE} {t : TA} {p pos apos : Pos} {pl : Sem Bool}
theorem pe_mcal (G : MCal X.prog X.w X.K X.mg X.base k C m ps sp) (hr : Room k X.A) (he : PE X o ta) (ha : PA X (e :: es) t)
    (hst : starEach (e :: es) X.env = (false, eval e X.env) :: starEach es X.env := by rfl) (hpl : (backTo pos (starEach es X.env)).any (·.1) = false := by rfl)
    (ht : eval (.Call (.Attribute o m apos) (e :: es) [] pos) X.env = (do
      let ov ← eval o X.env
      standAt apos.atName
      let (f, first) ← holding [ov] (getMethod ov m pl)
      callWith pos f first (backTo pos (starEach (e :: es) X.env)) (backToKw pos (keywordEach [] X.env))) := by rfl) :
    PE X (.Call (.Attribute o m apos) (e :: es) [] pos) (tMeth C m sp [] E0 ta t) := by
  obtain ⟨f, fd, a, b, d⟩ := G.ex
  exact pe_meth he G.cl d a hr b .nil pass0 ha hst hpl ht
theorem pe_mcal0 (G : MCal X.prog X.w X.K X.mg X.base k C m ps sp) (hr : Room k X.A) (he : PE X o ta)
    (ht : eval (.Call (.Attribute o m apos) [] [] pos) X.env = (do
      let ov ← eval o X.env
      standAt apos.atName
      let (f, first) ← holding [ov] (getMethod ov m pl)
      callWith pos f first (backTo pos (starEach [] X.env)) (backToKw pos (keywordEach [] X.env))) := by rfl) :
    PE X (.Call (.Attribute o m apos) [] [] pos) (tMeth C m sp [] E0 ta tNil) := by
  obtain ⟨f, fd, a, b, d⟩ := G.ex
  exact pe_meth0 he G.cl d a hr b .nil pass0 ht
end
structure Mkr (P : Program) (w : World) (K : PySem.W.Frag) (mg : Str → Option Value) (base : Heap) (k : Nat) (C : Addr) (x : Str) (ps : List Str) (sp : Sp) : Prop where
  ex : ∃ (f : Addr) (fd : FuncData), FnOk P w K mg base CX0 k f fd ps sp ∧ Binds K fd ps [] ∧ Mk K C f ∧ mg x = some (.ref C)
theorem Mkr.mk' {P : Program} {w : World} {K : PySem.W.Frag} {mg : Str → Option Value} {base : Heap} {k : Nat} {C : Addr} {x : Str} {ps : List Str} {sp : Sp} {f : Addr} {fd : FuncData} (a : FnOk P w K mg base CX0 k f fd ps sp) (b : Binds K fd ps []) (c : Mk K C f) (d : mg x = some (.ref C)) :
    Mkr P w K mg base k C x ps sp := ⟨f, fd, a, b, c, d⟩
section
variable {X : Cx} {k : Nat} {C : Addr} {m x : Str} {ps : List Str} {sp : Sp} {o e : Expr} {es : List Expr} {ta : TE} {t : TA} {p pos apos : Pos}
theorem pe_mkr (G : Mkr X.prog X.w X.K X.mg X.base k C x ps sp) (hr : Room (k + 1) X.A) (hg : Gl X x) (ha : PA X (e :: es) t)
    (hdb : (x == ("__debug__" : Str)) = false := by decide) (he : starEach (e :: es) X.env = (false, eval e X.env) :: starEach es X.env := by rfl) (hpl : (backTo pos (starEach es X.env)).any (·.1) = false := by rfl) :
    PE X (.Call (.Name x p) (e :: es) [] pos) (tMake C sp [] E0 t) := by
  obtain ⟨f, fd, a, b, c, d⟩ := G.ex
  exact pe_make c a hr hg d b .nil pass0 ha hdb he hpl
theorem pe_con_int {n : Int} (hg : Gl X x) (hm : ∃ t, X.mg x = some (.int n t)) (hd : (x == ("__debug__" : Str)) = false := by decide) : PE X (.Name x pos) (tC (.int n)) := by
  obtain ⟨t, e⟩ := hm
  exact pe_glob hg e ⟨t, rfl⟩ hd
end
section
variable {X : Cx} {K : PySem.W.Frag}
end
end L2

set_option Elab.async false
set_option linter.all false
set_option maxRecDepth 100000
set_option maxHeartbeats 4000000
namespace L2
open PySem PySem.Spec PyProof.Rows
section
variable {X : Cx}
end
end L2

set_option Elab.async false
set_option linter.all false
set_option maxRecDepth 100000
set_option maxHeartbeats 4000000
namespace L2
open PySem
noncomputable def Ris (xs : Array Nat) : Prop := ∀ i j, i < j → j < xs.size → xs.getD i 0 < xs.getD j 0
theorem getD_any {xs : Array Nat} {i d e : Nat} (h : i < xs.size) : xs.getD i d = xs.getD i e := by simp [Array.getD, h]
structure Lo (xs : Array Nat) (j r : Nat) : Prop where
  le : r ≤ xs.size
  lt : ∀ i, i < r → xs.getD i 0 < j
  ge : ∀ i, r ≤ i → i < xs.size → j ≤ xs.getD i 0
theorem below_go {xs : Array Nat} {j : Nat} (hr : Ris xs) : ∀ (fuel lo hi : Nat), hi - lo ≤ fuel → lo ≤ hi → hi ≤ xs.size → (∀ i, i < lo → xs.getD i 0 < j) → (∀ i, hi ≤ i → i < xs.size → j ≤ xs.getD i 0) → Lo xs j (SetTable.below.go xs j fuel lo hi)
  | 0, lo, hi, h, hl, hs, a, b => by
    unfold SetTable.below.go
    have : lo = hi := by omega
    subst this
    exact ⟨hs, a, b⟩
  | fuel + 1, lo, hi, h, hl, hs, a, b => by
    unfold SetTable.below.go
    by_cases c : lo < hi
    · rw [if_pos c]
      have m1 : lo ≤ (lo + hi) / 2 := by omega
      have m2 : (lo + hi) / 2 < hi := by omega
      have m3 : (lo + hi) / 2 < xs.size := by omega
      dsimp only
      rw [getD_any (e := 0) m3]
      by_cases d : xs.getD ((lo + hi) / 2) 0 < j
      · rw [if_pos d]
        refine below_go hr fuel _ hi (by omega) (by omega) hs (fun i hi' => ?_) b
        by_cases e : i = (lo + hi) / 2
        · rw [e]; exact d
        · exact Nat.lt_trans (hr i _ (by omega) m3) d
      · rw [if_neg d]
        refine below_go hr fuel lo _ (by omega) m1 (by omega) a fun i hi' hz => ?_
        by_cases e : i = (lo + hi) / 2
        · rw [e]; omega
        · have := hr _ i (show (lo + hi) / 2 < i by omega) hz
          omega
    · rw [if_neg c]
      have : lo = hi := by omega
      subst this
      exact ⟨hs, a, b⟩
theorem slot_empty {t : SetTable} (hd : t.dummies = #[]) {j : Nat} (h : t.slot j = .empty) : t.place[SetTable.below t.place j]? ≠ some j := by
  intro e
  unfold SetTable.slot at h
  dsimp only at h
  rw [e] at h
  simp at h
theorem slot_dummy {t : SetTable} (hd : t.dummies = #[]) {j : Nat} : t.slot j ≠ .dummy := by
  unfold SetTable.slot
  dsimp only
  intro h
  split at h
  · cases h
  · split at h
    · rename_i h2
      rw [hd] at h2
      unfold SetTable.has at h2
      simp at h2
    · cases h
theorem probe_go {t : SetTable} {ha : Nat → Int} {h : Int} (hd : t.dummies = #[]) (hne : ∀ i, (ha i == h) = false) : ∀ (fuel : Nat) (p : SetTable.Probe) (j : Nat) (d : Option Nat), p.dummy = none → SetTable.probe.go t ha h fuel p = some (.empty j d) → d = none ∧ t.slot j = .empty
  | 0, p, j, d, _, e => by
    unfold SetTable.probe.go at e
    cases e
  | fuel + 1, p, j, d, hp, e => by
    unfold SetTable.probe.go at e
    cases hs : t.slot p.j with
    | empty =>
      rw [hs] at e
      simp at e
      obtain ⟨rfl, rfl⟩ := e
      exact ⟨hp, hs⟩
    | dummy => exact absurd hs (slot_dummy hd)
    | live i =>
      rw [hs] at e
      dsimp only at e
      rw [hne i, if_neg Bool.false_ne_true] at e
      refine probe_go hd hne fuel _ j d ?_ e
      unfold SetTable.advance
      split
      · exact hp
      · exact hp
section
variable {prog : Program} {w : World} {A : Around} {E : Value → Shared → Prop} {s : Shared} {κ : Type} [DecidableEq κ] {kd : KeyKind prog w κ} {led : Bool}
end
end L2

set_option Elab.async false
set_option linter.all false
set_option maxRecDepth 100000
set_option maxHeartbeats 4000000
namespace L2
open PySem PySem.Spec PyProof.Rows
namespace Ty
end Ty
section
variable {prog : Program} {w : World} {A : Around} {E : Value → Shared → Prop} {s : Shared}
end
end L2

set_option Elab.async false
set_option linter.all false
set_option maxRecDepth 100000
set_option maxHeartbeats 4000000
namespace L2
open PySem PySem.Spec PyProof.Rows
namespace Ty
end Ty
section
variable {prog : Program} {w : World} {A : Around} {E : Value → Shared → Prop} {s : Shared} {κ : Type} [DecidableEq κ] {kd : KeyKind prog w κ}
end
end L2

set_option Elab.async false
set_option linter.all false
set_option maxRecDepth 100000
set_option maxHeartbeats 4000000
namespace L2
open PySem PySem.Spec PyProof.Rows
section
variable {X : Cx}
end
end L2

set_option Elab.async false
set_option linter.all false
set_option maxRecDepth 100000
set_option maxHeartbeats 4000000
namespace L2
open PySem PySem.Spec PyProof.Rows
section
variable {prog : Program} {w : World} {A : Around} {E : Value → Shared → Prop} {s : Shared}
end
section
variable {X : Cx} {tg : Expr}
end
theorem len0 {us : List Value} {p : List Value → Prop} (h : us.length = 0) (k : p []) : p us := by rw [List.eq_nil_of_length_eq_zero h]; exact k
theorem len1 {us : List Value} {p : List Value → Prop} (h : us.length = 1) (k : ∀ a, p [a]) : p us := by
  obtain ⟨a, r, rfl⟩ := List.exists_cons_of_length_eq_add_one h
  exact len0 (p := fun r => p (a :: r)) (Nat.succ.inj h) (k a)
theorem len2 {us : List Value} {p : List Value → Prop} (h : us.length = 2) (k : ∀ a b, p [a, b]) : p us := by
  obtain ⟨a, r, rfl⟩ := List.exists_cons_of_length_eq_add_one h
  exact len1 (p := fun r => p (a :: r)) (Nat.succ.inj h) (k a)
theorem len3 {us : List Value} {p : List Value → Prop} (h : us.length = 3) (k : ∀ a b c, p [a, b, c]) : p us := by
  obtain ⟨a, r, rfl⟩ := List.exists_cons_of_length_eq_add_one h
  exact len2 (p := fun r => p (a :: r)) (Nat.succ.inj h) (k a)
theorem len4 {us : List Value} {p : List Value → Prop} (h : us.length = 4) (k : ∀ a b c d, p [a, b, c, d]) : p us := by
  obtain ⟨a, r, rfl⟩ := List.exists_cons_of_length_eq_add_one h
  exact len3 (p := fun r => p (a :: r)) (Nat.succ.inj h) (k a)
theorem len5 {us : List Value} {p : List Value → Prop} (h : us.length = 5) (k : ∀ a b c d e, p [a, b, c, d, e]) : p us := by
  obtain ⟨a, r, rfl⟩ := List.exists_cons_of_length_eq_add_one h
  exact len4 (p := fun r => p (a :: r)) (Nat.succ.inj h) (k a)
theorem Cal.mono {P : Program} {w : World} {K : PySem.W.Frag} {mg : Str → Option Value} {base : Heap} {j k : Nat} {x : Str} {ps : List Str} {sp : Sp} (G : Cal P w K mg base j x ps sp) (h : j ≤ k) : Cal P w K mg base k x ps sp := by
  obtain ⟨f, fd, a, b, c, d⟩ := G.ex
  exact ⟨f, fd, a.mono h, b, c, d⟩
theorem MCal.mono {P : Program} {w : World} {K : PySem.W.Frag} {mg : Str → Option Value} {base : Heap} {j k : Nat} {C : Addr} {m : Str} {ps : List Str} {sp : Sp} (G : MCal P w K mg base j C m ps sp) (h : j ≤ k) : MCal P w K mg base k C m ps sp := by
  obtain ⟨f, fd, a, b, c⟩ := G.ex
  exact ⟨G.cl, f, fd, a.mono h, b, c⟩
theorem Mkr.mono {P : Program} {w : World} {K : PySem.W.Frag} {mg : Str → Option Value} {base : Heap} {j k : Nat} {C : Addr} {x : Str} {ps : List Str} {sp : Sp} (G : Mkr P w K mg base j C x ps sp) (h : j ≤ k) : Mkr P w K mg base k C x ps sp := by
  obtain ⟨f, fd, a, b, c, d⟩ := G.ex
  exact ⟨f, fd, a.mono h, b, c, d⟩
end L2

set_option Elab.async false
set_option linter.all false
set_option maxRecDepth 100000
set_option maxHeartbeats 4000000
namespace L2
open PySem PySem.Spec PyProof.Rows
section
variable {X : Cx}
theorem ints_of_keys {P : Program} {w : World} : ∀ {ns : List Int} {vs : List Value}, vs.length = ns.length → (∀ (j : Nat) (v : Value), vs[j]? = some v → ∃ k : Key, (ns.map Sum.inl)[j]? = some k ∧ (mixKind P w).is k v = true) → IntsAre vs ns
  | [], [], _, _ => .nil
  | [], _ :: _, h, _ => by cases h
  | _ :: _, [], h, _ => by cases h
  | n :: ns, v :: vs, h, q => by
    obtain ⟨k, e, hk⟩ := q 0 v rfl
    cases e
    rcases keyIs_shape (show keyIs (Sum.inl n) v = true from hk) with ⟨i, t, e1, rfl⟩ | ⟨x, t, e1, _⟩
    · cases e1
      exact .cons n t (ints_of_keys (Nat.succ.inj h) fun j u hu => q (j + 1) u hu)
    · cases e1
theorem dict_collect {prog : Program} {w : World} {A : Around} {E : Value → Shared → Prop} {s : Shared} {R : List Value → Shared → Prop} {T : String} {r d : Addr} {n : Nat} {P : Nat → Value → Prop} {OK : Heap → Prop} (K : PySem.W.KdlSrc prog w T r d n P OK) (hh : A.handled = none) (hok : OK s.heap) (hn : n ≤ sizeLine)
    (fin : ∀ (h' : Heap) (tk : Nat) (acc : Array Value), (∀ b o, s.heap.get? b = some o → h'.get? b = some o) → s.heap.objs.size < h'.objs.size → ItemsOf P acc n → R acc.toList { s with heap := h', toks := tk }) : wpAny (model prog w) A (collect (.ref r)) R E s := by
  have hlt := K.there _ hok
  unfold collect
  refine wpAny_bind (wpAny_runValue (codeAny_builtin entry_proto_collect' ?_))
  rw [Around.under_plainId PySem.F.plain_proto_collect _]
  refine (show wpAny _ A.in1 (newList [] >>= fun l => again (.builtin "list.__iadd__" ⟨[l, .ref r], []⟩)) _ _ s from wpAny_bind (wpAny_newObj_type (wpAny_pure ⟨plainId_quiet PySem.F.plain_list_iadd _, codeAny_builtin entry_list_iadd' ?_⟩)))
  rw [Around.under_plainId PySem.F.plain_list_iadd _]
  have g1 : (s.heap.push { cls := .type "list", data := .seq ([] : List Value).toArray }).get? s.heap.objs.size = some { cls := .type "list", data := .seq #[] } := Heap.get?_push_size _ rfl
  have ext := PySem.W.kdl_extend (A := A) (s := { s with heap := s.heap.push { cls := .type "list", data := .seq ([] : List Value).toArray } })
    (R := fun (q : Result) (s' : Shared) => ∃ (h' : Heap) (tk : Nat) (acc : Array Value) (c' : Nat), q = .ok (.ret (.ref s.heap.objs.size)) ∧ s' = { s with heap := h', toks := tk } ∧ (∀ b o, s.heap.get? b = some o → h'.get? b = some o) ∧
      h'.get? s.heap.objs.size = some { cls := .type "list", dict := none, data := .seq acc c', slots := #[] } ∧ ItemsOf P acc n)
    K hh (K.keep _ _ hok fun b _ o e => Heap.get?_push_of_some _ e) s.heap.objs.size (Nat.ne_of_gt hlt.1) (Nat.ne_of_gt hlt.2) (.ref s.heap.objs.size) 0 g1
    (fun h' tk acc c' k hS' so => ⟨h', tk, acc, c', rfl, rfl, fun b o e => k b o (Nat.ne_of_lt (Heap.lt_size e)) (Heap.get?_push_of_some _ e), hS', so⟩) hn
  refine (show wpAny _ A.in1 (Builtin.List.listExtendWith (.ref s.heap.objs.size) (.ref r) (.ref s.heap.objs.size)) _ _ _ from wpAny_mono ext (fun f s' x => ?_) fun e s' x => ?_)
  · cases f with
    | done f =>
      obtain ⟨h', tk, acc, c', e, rfl, k, hS', so⟩ := x
      cases e
      exact (show wpAny _ A (load s.heap.objs.size >>= _) _ _ _ from wpAny_bind (wpAny_load hS' (wpAny_pure (fin h' tk _ k (Heap.lt_size hS') so))))
    | again c1 =>
      refine ⟨x.1, codeAny_mono x.2 fun q s2 y => ?_⟩
      obtain ⟨h', tk, acc, c', rfl, rfl, k, hS', so⟩ := y
      exact (show wpAny _ A (load s.heap.objs.size >>= _) _ _ _ from wpAny_bind (wpAny_load hS' (wpAny_pure (fin h' tk _ k (Heap.lt_size hS') so))))
  · obtain ⟨_, _, _, _, e', _⟩ := x
    cases e'
theorem call_sorted_dict (hc : X.calm = true) : CallR X (.builtin "sorted") (fun xs H Q => ∃ (p : Addr) (kvs : List (Key × V)) (ns : List Int), xs = [.ref p] ∧ H p = some (.dK kvs) ∧ kvs.map (·.1) = ns.map Sum.inl ∧ ns.length < 64 ∧
    ∀ (l : Addr) (ms : List Int), H l = none → ms.Perm ns → ms.Pairwise (· ≤ ·) → Q (.ref l) (upd H l (.lst (ms.map V.int)))) := by
  intro pins s σ H xs us Q I r h
  obtain ⟨p, kvs, ns, rfl, hp, hk, h64, q⟩ := h
  obtain ⟨u, rfl, rx⟩ := vals1 r
  cases rx
  obtain ⟨_, lo, kv, rk, dd⟩ := dk_of I.hok hp
  obtain ⟨ep, hat⟩ := dd.dictAt
  have lk : kv.length = ns.length := by
    have e1 := rk.length
    have e2 := congrArg List.length hk
    rw [List.length_map, List.length_map] at e2
    omega
  refine Calls.call_function_entry kind_sorted plain_sorted entry_sorted (args_sorted1 _) ?_
  unfold Builtin.«sorted»
  refine wpAny_bind (m := checkCount "sorted" 1 1 _) (wpAny_pure ?_)
  refine wpAny_bind (dict_collect (A := X.A.in1) (PySem.W.kdl_dict (knd := mixKind X.prog X.w) (kvs := kv) (ep := ep) lo) (I.ok.hd hc) hat (by rw [sizeLine_eq]; omega) fun h' tk acc kp slt items => ?_)
  have hi : IntsAre acc.toList ns := ints_of_keys (P := X.prog) (w := X.w) (by rw [Array.length_toList, items.1, lk]) fun j v hv => by
    obtain ⟨k, x, e, ik⟩ := items.2 j v (by rw [← Array.getElem?_toList]; exact hv)
    refine ⟨k, ?_, ik⟩
    rw [← hk, rk.keys, List.getElem?_map, e]
    rfl
  have lv : acc.toList.length < 64 := by rw [IntsAre.length hi]; exact h64
  refine wpAny_bind (wpAny_newList ?_ (by rw [sizeLine_eq]; omega))
  have g1 : (h'.push (seqObj "list" acc.toList.toArray 0)).get? h'.objs.size = some (seqObj "list" acc.toList.toArray 0) := Heap.get?_push_size _ rfl
  refine wpAny_bind (wpAny_holding (wpAny_call_entry slot_list_sort ⟨_, g1, rfl⟩ entry_list_sort (list_sort_tree g1 hi lv fun out ns' a1 a2 a3 => ⟨_, rfl, ?_⟩) (args_list_sort _)))
  refine wpAny_pure ⟨_, rfl, ?_⟩
  obtain ⟨e, he⟩ := sortedHeap_at (out := out) g1
  have sle : s.heap.objs.size ≤ h'.objs.size := Nat.le_of_lt slt
  have old : ∀ b o, s.heap.get? b = some o → (sortedHeap (h'.push (seqObj "list" acc.toList.toArray 0)) h'.objs.size acc.toList out).get? b = some o := fun b o e => by
    have hb := Heap.lt_size (kp b o e)
    rw [sortedHeap_old (Nat.ne_of_lt hb) (by rw [size_push']; exact Nat.lt_succ_of_lt hb)]
    exact Heap.get?_push_of_some _ (kp b o e)
  refine ⟨.ref h'.objs.size, _, I.laid (a := h'.objs.size) (o := .lst (ns'.map V.int)) (t' := tk) old sle (show ObjOk X.prog X.w _ _ _ (.lst (ns'.map V.int)) from ⟨?_, out.toList, e, vals_ints a1, ?_⟩), rfl, q _ ns' (I.hok.fresh sle) a2 a3⟩
  · rw [List.length_map, a2.length_eq, sizeLine_eq]
    omega
  · simpa using he
end
end L2

set_option Elab.async false
set_option linter.all false
set_option maxRecDepth 100000
set_option maxHeartbeats 4000000
namespace L2
open PySem PySem.Spec PyProof.Rows
theorem look_list_keys : typeLookup (.type "list") "keys" = pure none := am_miss_of_fast (by kernel_rfl)
theorem look_tuple_keys : typeLookup (.type "tuple") "keys" = pure none := am_miss_of_fast (by kernel_rfl)
theorem look_list_ga : typeLookup (.type "list") "__getattr__" = pure none := by rw [typeLookup_type, builtinLookup_eq_fast]; kernel_rfl
theorem look_tuple_ga : typeLookup (.type "tuple") "__getattr__" = pure none := by rw [typeLookup_type, builtinLookup_eq_fast]; kernel_rfl
section
variable {prog : Program} {w : World} {A : Around} {E : Value → Shared → Prop} {s : Shared}
theorem ga_list_keys {a : Addr} {items : Array Value} {n : Nat} {sl : Array (Option Value)} {u : Tok} {R : Result → Shared → Prop} (hA : A.handled = none) (ho : s.heap.get? a = some ⟨.type "list", none, .seq items n, sl⟩) (h : ∀ h' tk e, Heap.NewAttrErr s.heap h' e (.ref a) "keys" → R (.error (.ref e)) { s with heap := h', toks := tk }) :
    wpAny (model prog w) A.in1 (Builtin.«object.__getattribute__» ⟨[.ref a, .str "keys" u], []⟩) (fun fin s' => match fin with | .done f => R (.ok f) s' | .again c' => c'.quiet = true ∧ codeAny (model prog w) A c' R s') (fun e s' => R (.error e) s') s := by
  obtain ⟨hp, g, d, tk, os⟩ := s
  have hT : (⟨hp, g, d, tk, os⟩ : Shared).TypeIs (.ref a) "list" := ⟨_, ho, rfl⟩
  have f1 := look_list_keys
  unfold Builtin.«object.__getattribute__»
  repeat (any_goals (first | assumption | wp_step))
  exact wpAny_raiseAttrError hA h (attrMsg_fits (by decide +kernel) (by decide +kernel))
theorem ga_tuple_keys {a : Addr} {items : Array Value} {n : Nat} {sl : Array (Option Value)} {u : Tok} {R : Result → Shared → Prop} (hA : A.handled = none) (ho : s.heap.get? a = some ⟨.type "tuple", none, .seq items n, sl⟩) (h : ∀ h' tk e, Heap.NewAttrErr s.heap h' e (.ref a) "keys" → R (.error (.ref e)) { s with heap := h', toks := tk }) :
    wpAny (model prog w) A.in1 (Builtin.«object.__getattribute__» ⟨[.ref a, .str "keys" u], []⟩) (fun fin s' => match fin with | .done f => R (.ok f) s' | .again c' => c'.quiet = true ∧ codeAny (model prog w) A c' R s') (fun e s' => R (.error e) s') s := by
  obtain ⟨hp, g, d, tk, os⟩ := s
  have hT : (⟨hp, g, d, tk, os⟩ : Shared).TypeIs (.ref a) "tuple" := ⟨_, ho, rfl⟩
  have f1 := look_tuple_keys
  unfold Builtin.«object.__getattribute__»
  repeat (any_goals (first | assumption | wp_step))
  exact wpAny_raiseAttrError hA h (attrMsg_fits (by decide +kernel) (by decide +kernel))
theorem code_list_keys {a : Addr} {items : Array Value} {n : Nat} {sl : Array (Option Value)} {u : Tok} {R : Result → Shared → Prop} (hA : A.handled = none) (ho : s.heap.get? a = some ⟨.type "list", none, .seq items n, sl⟩) (h : ∀ h' tk e, Heap.NewAttrErr s.heap h' e (.ref a) "keys" → R (.error (.ref e)) { s with heap := h', toks := tk }) :
    codeAny (model prog w) A (.call (.builtin "list.__getattribute__") ⟨[.ref a, .str "keys" u], []⟩) R s :=
  codeAny_call_builtin F.slot_list_getattribute.plain F.entry_list_ga (F.slot_list_getattribute.check _ _ _ _ _ _ _ _ (show s.TypeIs (.ref a) "list" from ⟨_, ho, rfl⟩) (F.args_list_getattribute_2 _ _) (ga_list_keys (R := R) hA ho h))
theorem miss_list_keys {a : Addr} {items : Array Value} {n : Nat} {sl : Array (Option Value)} {Q : Option Value → Shared → Prop} (hA : A.handled = none) (ho : s.heap.get? a = some ⟨.type "list", none, .seq items n, sl⟩) (h : ∀ h' tk, (∀ b o, s.heap.get? b = some o → h'.get? b = some o) → Q none { s with heap := h', toks := tk }) :
    wpAny (model prog w) A (getAttr? (.ref a) "keys") Q E s := by
  obtain ⟨hp, g, d, tk, os⟩ := s
  have hT : ∀ tk', (⟨hp, g, d, tk', os⟩ : Shared).TypeIs (.ref a) "list" := fun _ => ⟨_, ho, rfl⟩
  have f1 := sub_AttributeError
  have f3 := F.slot_list_getattribute.lookup
  have f4 := F.slot_list_getattribute.bind (.ref a)
  have f5 := look_list_ga
  unfold getAttr? getAttrBy? getAttrBy
  repeat (any_goals (first | assumption | exact hT _ | wp_step))
  refine code_list_keys (s := ⟨hp, g, d, tk + 1, os⟩) hA ho fun h' tk' e hx => ?_
  obtain ⟨t', u', he⟩ := hx.there
  show wpAny _ _ (getattributeRaised _ _ _ _ _ _ _) _ _ _
  unfold getattributeRaised
  repeat (any_goals (first | assumption | wp_step))
  exact h _ _ hx.keeps
theorem code_tuple_keys {a : Addr} {items : Array Value} {n : Nat} {sl : Array (Option Value)} {u : Tok} {R : Result → Shared → Prop} (hA : A.handled = none) (ho : s.heap.get? a = some ⟨.type "tuple", none, .seq items n, sl⟩) (h : ∀ h' tk e, Heap.NewAttrErr s.heap h' e (.ref a) "keys" → R (.error (.ref e)) { s with heap := h', toks := tk }) :
    codeAny (model prog w) A (.call (.builtin "tuple.__getattribute__") ⟨[.ref a, .str "keys" u], []⟩) R s :=
  codeAny_call_builtin F.slot_tuple_getattribute.plain F.entry_tuple_ga (F.slot_tuple_getattribute.check _ _ _ _ _ _ _ _ (show s.TypeIs (.ref a) "tuple" from ⟨_, ho, rfl⟩) (F.args_tuple_getattribute_2 _ _) (ga_tuple_keys (R := R) hA ho h))
theorem miss_tuple_keys {a : Addr} {items : Array Value} {n : Nat} {sl : Array (Option Value)} {Q : Option Value → Shared → Prop} (hA : A.handled = none) (ho : s.heap.get? a = some ⟨.type "tuple", none, .seq items n, sl⟩) (h : ∀ h' tk, (∀ b o, s.heap.get? b = some o → h'.get? b = some o) → Q none { s with heap := h', toks := tk }) :
    wpAny (model prog w) A (getAttr? (.ref a) "keys") Q E s := by
  obtain ⟨hp, g, d, tk, os⟩ := s
  have hT : ∀ tk', (⟨hp, g, d, tk', os⟩ : Shared).TypeIs (.ref a) "tuple" := fun _ => ⟨_, ho, rfl⟩
  have f1 := sub_AttributeError
  have f3 := F.slot_tuple_getattribute.lookup
  have f4 := F.slot_tuple_getattribute.bind (.ref a)
  have f5 := look_tuple_ga
  unfold getAttr? getAttrBy? getAttrBy
  repeat (any_goals (first | assumption | exact hT _ | wp_step))
  refine code_tuple_keys (s := ⟨hp, g, d, tk + 1, os⟩) hA ho fun h' tk' e hx => ?_
  obtain ⟨t', u', he⟩ := hx.there
  show wpAny _ _ (getattributeRaised _ _ _ _ _ _ _) _ _ _
  unfold getattributeRaised
  repeat (any_goals (first | assumption | wp_step))
  exact h _ _ hx.keeps
end
end L2

set_option Elab.async false
set_option linter.all false
set_option maxRecDepth 100000
set_option maxHeartbeats 4000000
namespace L2
open PySem PySem.Spec PyProof.Rows
theorem entry_upd_loop : entryFor table "dict.update.loop" = some Builtin.«dict.update.loop» := entryFor_of_tree (by kernel_rfl)
theorem plain_upd_loop : plainId "dict.update.loop" = true := by decide +kernel
section
variable {prog : Program} {w : World} {A : Around} {κ : Type} [DecidableEq κ] {kd : KeyKind prog w κ} {I : Addr} {fp wr : List Addr} {G : Array GenState → Array GenState → Prop} {n : Nat} {P : Nat → Value → Prop} {St : Nat → Shared → Prop}
noncomputable def PairAt (kd : KeyKind prog w κ) (h : Heap) (v : Value) (kv : κ × Value) (out : List Addr) : Prop := ∃ (a : Addr) (o : Obj) (T : String) (k : Value) (c : Nat), v = .ref a ∧ h.get? a = some o ∧ o.cls = .type T ∧ (T = "list" ∨ T = "tuple") ∧ o.data = .seq #[k, kv.2] c ∧ kd.is kv.1 k = true ∧ a ∉ out
theorem dict_fill {R : Result → Shared → Prop} (W : WalksS prog w A.in1 I fp wr G n P St) {d : Addr} (out : d ∉ fp) {h0 : Heap} {vs : List (κ × Value)} (lk : vs.length = n)
    (vals : ∀ i v, P i v → ∃ kv, vs[i]? = some kv ∧ PairAt kd h0 v kv (d :: wr)) (few : n ≤ 1000) :
    ∀ (todo i : Nat) (s : Shared), i + todo = n → St i s → s.heap.DictOf kd d (merged [] (vs.take i)) → (∀ b o, b ∉ d :: wr → h0.get? b = some o → s.heap.get? b = some o) →
      (∀ s', Moved (d :: wr) G s s' → s'.heap.DictOf kd d (merged [] vs) → R (.ok (.ret .none)) s') → codeAny (model prog w) A (.builtin "dict.update.loop" ⟨[.ref d, .ref I, rawInt i, .none], []⟩) R s
  | 0, i, s, ei, st, sx, kp, fin => by
    have e : vs.take i = vs := List.take_of_length_le (by omega)
    rw [e] at sx
    have ei' : i = n := by omega
    subst ei'
    refine codeAny_builtin entry_upd_loop ?_
    rw [Around.under_plainId plain_upd_loop _]
    refine wpAny_bind (W.done s _ _ st fun s' mv => wpAny_bind (wpAny_pure (wpAny_pure (fin s' (mv.mono fun b hb => .tail _ hb) (sx.at fun o => mv.heap d o fun q => out (W.sub _ q))))))
  | todo + 1, i, s, ei, st, sx, kp, fin => by
    refine codeAny_builtin entry_upd_loop ?_
    rw [Around.under_plainId plain_upd_loop _]
    refine wpAny_bind (W.item i s _ _ (by omega) st fun v s1 hv st1 mv => ?_)
    obtain ⟨⟨key, y⟩, ek, a, o, T, k, c, rfl, ho, hc, hT, hd, ik, na⟩ := vals i v hv
    have sx1 := sx.at (h' := s1.heap) fun o => mv.heap d o fun q => out (W.sub _ q)
    have ho1 : s1.heap.get? a = some o := mv.heap a o (fun q => na (.tail _ q)) (kp a o na ho)
    have ty : s1.TypeIs (.ref a) T := ⟨o, ho1, hc⟩
    refine wpAny_bind (wpAny_holding (m := (Builtin.Dict.pairItems (.ref a)).tryCatch _ >>= _) (wpAny_bind (wpAny_tryCatch ?_)))
    unfold Builtin.Dict.pairItems
    refine wpAny_bind (wpAny_typeOf ty ?_)
    rw [if_pos (by rcases hT with rfl | rfl <;> decide)]
    refine wpAny_bind (wpAny_seqItems ho1 hd (wpAny_pure ?_))
    show wpAny _ _ (holding [k, y] (dictSet d k y)) _ _ _
    have lm := merged_length_le [] (vs.take i)
    rw [List.length_take, List.length_nil] at lm
    refine wpAny_holding (wpAny_dictSet_pairs (hsz := by rw [sizeLine_eq]; omega) ik sx1 fun h2 sx2 sb => ?_)
    rw [← merged_take_succ [] vs i (key, y) ek] at sx2
    have far : ∀ b, b ≠ d → h2.get? b = s1.heap.get? b := fun b hb => sb.2 b hb
    refine wpAny_pure ⟨plainId_quiet plain_upd_loop _, dict_fill W out lk vals few todo (i + 1) _ (by omega) (W.frame _ s1 _ _ st1 (Nat.le_succ _) fun b hb o q => ?_) sx2 (fun b o nb q => ?_) fun s3 mv3 sx4 => ?_⟩
    · rw [far b fun z => out (z ▸ hb)]; exact q
    · rw [far b fun z => nb (z ▸ .head _)]
      exact mv.heap b o (fun q => nb (.tail _ q)) (kp b o nb q)
    · refine fin s3 (.trans W.gtrans ((mv.mono fun b hb => .tail _ hb).then_heap (Nat.le_succ _) fun b o hb q => ?_) mv3) sx4
      rw [far b fun z => hb (z ▸ .head _)]; exact q
end
section
variable {prog : Program} {w : World} {A : Around} {E : Value → Shared → Prop} {s : Shared} {κ : Type} [DecidableEq κ] {kd : KeyKind prog w κ}
theorem dict_of {T : String} {p : Addr} {its : Array Value} {c0 : Nat} {sl : Array (Option Value)} {vs : List (κ × Value)} {Q : Value → Shared → Prop} (hh : A.handled = none) (hp : s.heap.get? p = some ⟨.type T, none, .seq its c0, sl⟩) (hT : T = "list" ∨ T = "tuple")
    (lk : vs.length = its.size) (vals : ∀ (i : Nat) v, its[i]? = some v → ∃ kv, vs[i]? = some kv ∧ PairAt kd s.heap v kv []) (few : its.size ≤ 1000) (nd : (vs.map (·.1)).Nodup)
    (fin : ∀ (h' : Heap) (t : Nat), h'.DictOf kd s.heap.objs.size vs → (∀ b u, s.heap.get? b = some u → h'.get? b = some u) → Q (.ref s.heap.objs.size) { s with heap := h', toks := t }) :
    wpAny (model prog w) A (call (.type "dict") [.ref p]) Q E s := by
  refine callType_codes (Q₁ := fun obj s₁ => obj = .ref s.heap.objs.size ∧ s₁ = { s with heap := s.heap.push { cls := .type "dict", data := .dict #[] } }) PySem.F.kt_called_dict (PySem.F.kt_typeCall_dict_1 _) F.entry_dict_init (kt_code_dict_new _ ⟨rfl, rfl⟩) ?_
  rintro obj s₁ ⟨rfl, rfl⟩
  have hnew : (s.heap.push { cls := .type "dict", data := .dict #[] }).DictOf kd s.heap.objs.size [] := Heap.DictOf.new s.heap
  have hp1 : (s.heap.push { cls := .type "dict", data := .dict #[] }).get? p = some ⟨.type T, none, .seq its c0, sl⟩ := Heap.get?_push_of_some _ hp
  have hpl : p < s.heap.objs.size := Heap.lt_size hp
  refine ⟨hnew.typeIs, F.args_dict_init_2 _ _, ?_⟩
  unfold Builtin.«dict.__init__»
  refine wpAny_bind ?_
  unfold Builtin.Dict.selfAndRest
  refine wpAny_bind (wpAny_notOrdered_dict hnew.typeIs ?_)
  show wpAny _ _ (pure (s.heap.objs.size, [Value.ref p])) _ _ _
  refine wpAny_pure ?_
  show wpAny _ _ (Builtin.Dict.updateFrom "dict.__init__" s.heap.objs.size (.ref p) [] .none) _ _ _
  unfold Builtin.Dict.updateFrom
  refine wpAny_bind (wpAny_typeOf (T := T) ⟨_, hp1, rfl⟩ ?_)
  rw [if_pos (by rcases hT with rfl | rfl <;> decide)]
  have main : ∀ (h1 : Heap) (tk : Nat), (∀ b o, (s.heap.push { cls := .type "dict", data := .dict #[] }).get? b = some o → h1.get? b = some o) →
      wpAny (model prog w) A.in1.in1 (do
        rule (toString "dict.__init__" ++ toString ".from-pairs")
        return ← again (.builtin "dict.update.loop" ⟨[.ref s.heap.objs.size, ← pyIter (.ref p), rawInt 0, .none], []⟩))
        (fun fin s' => match fin with | .done f => wants (fun r s₂ => r = .none ∧ Q (.ref s.heap.objs.size) s₂) E (.ok f) s' | .again c' => c'.quiet = true ∧ codeAny (model prog w) A.in1 c' (wants (fun r s₂ => r = .none ∧ Q (.ref s.heap.objs.size) s₂) E) s')
        (fun e s' => wants (fun r s₂ => r = .none ∧ Q (.ref s.heap.objs.size) s₂) E (.error e) s') { s with heap := h1, toks := tk } := by
    intro h1 tk k1
    have hd1 := hnew.keep k1
    have dlt : s.heap.objs.size < h1.objs.size := by
      obtain ⟨_, _, _, e, _⟩ := hd1
      exact Heap.lt_size e
    have hp2 := k1 _ _ hp1
    have apart : p ≠ h1.objs.size := Nat.ne_of_lt (Heap.lt_size hp2)
    have out : s.heap.objs.size ∉ [h1.objs.size, p] := by rw [List.mem_cons, List.mem_singleton]; exact fun z => z.elim (Nat.ne_of_lt dlt) (Nat.ne_of_gt hpl)
    have hh2 : A.in1.in1.handled = none := by simp [hh]
    have nin : ∀ {b : Addr} {o : Obj}, s.heap.get? b = some o → b ∉ [s.heap.objs.size, h1.objs.size] := fun e m => by
      have hb := Heap.lt_size e
      rcases List.mem_cons.mp m with z | z
      · exact absurd hb (by rw [z]; exact Nat.lt_irrefl _)
      · rw [List.mem_singleton] at z
        exact absurd (Nat.lt_trans hb dlt) (by rw [z]; exact Nat.lt_irrefl _)
    have vals' : ∀ (i : Nat) v, its[i]? = some v → ∃ kv, vs[i]? = some kv ∧ PairAt kd s.heap v kv [s.heap.objs.size, h1.objs.size] := fun i v hv => by
      obtain ⟨kv, e, a, o, T, k, c, e1, e2, e3, e4, e5, e6, _⟩ := vals i v hv
      exact ⟨kv, e, a, o, T, k, c, e1, e2, e3, e4, e5, e6, nin e2⟩
    have ends : ∀ (x : Obj) (s' : Shared), Moved [s.heap.objs.size, h1.objs.size] (fun a b => b = a) { s with heap := h1.push x, toks := tk } s' → s'.heap.DictOf kd s.heap.objs.size (merged [] vs) → Q (.ref s.heap.objs.size) s' := fun x s' mv sx => by
      obtain ⟨h', g', d', t', o'⟩ := s'
      obtain rfl : g' = s.gens := mv.gens
      obtain rfl : d' = s.drawn := mv.drawn
      obtain rfl : o' = s.os := mv.os
      rw [merged_nil_of_nodup vs nd] at sx
      exact fin h' t' sx fun b u q => mv.heap b u (nin q) (Heap.get?_push_of_some _ (k1 _ _ (Heap.get?_push_of_some _ q)))
    refine wpAny_bind (wpAny_rule ?_)
    rcases hT with rfl | rfl
    · have hl : h1.IsList p its := ⟨_, hp2, rfl, c0, rfl⟩
      refine wpAny_bind (wpAny_pyIter_list hl (wpAny_pure ⟨plainId_quiet plain_upd_loop _, ?_⟩))
      exact dict_fill (kd := kd) ((Walks.list hh2 _ p apart its).toS) out (h0 := s.heap) lk vals' few its.size 0 _ (Nat.zero_add _) ⟨⟨_, Heap.get?_push_size _ rfl, rfl, rfl⟩, hl.push _⟩ (by rw [List.take_zero]; exact hd1.push _) (fun b o _ q => Heap.get?_push_of_some _ (k1 _ _ (Heap.get?_push_of_some _ q))) fun s' mv sx => ⟨rfl, ends _ s' mv sx⟩
    · have hl : h1.IsTuple p its := ⟨_, hp2, rfl, c0, rfl⟩
      refine wpAny_bind (wpAny_pyIter_tuple hl (wpAny_pure ⟨plainId_quiet plain_upd_loop _, ?_⟩))
      exact dict_fill (kd := kd) ((Walks.tuple hh2 _ p apart its).toS) out (h0 := s.heap) lk vals' few its.size 0 _ (Nat.zero_add _) ⟨⟨_, Heap.get?_push_size _ rfl, rfl, rfl⟩, hl.push _⟩ (by rw [List.take_zero]; exact hd1.push _) (fun b o _ q => Heap.get?_push_of_some _ (k1 _ _ (Heap.get?_push_of_some _ q))) fun s' mv sx => ⟨rfl, ends _ s' mv sx⟩
  have hh2 : A.in1.in1.handled = none := by simp [hh]
  rcases hT with rfl | rfl
  · refine wpAny_bind (miss_list_keys hh2 hp1 fun h1 tk k1 => ?_)
    exact main h1 tk k1
  · refine wpAny_bind (miss_tuple_keys hh2 hp1 fun h1 tk k1 => ?_)
    exact main h1 tk k1
end
section
variable {X : Cx}
noncomputable def PairV (K : PySem.W.Frag) (H : Hp) (u : V) (kv : Key × V) : Prop := ∃ a, u = .ref a ∧ (SqL K H a [kV kv.1, kv.2] ∨ SqT K H a [kV kv.1, kv.2])
noncomputable def SqP (K : PySem.W.Frag) (H : Hp) (p : Addr) (ys : List V) : Prop := SqL K H p ys ∨ H p = some (.tup ys)
noncomputable def rDictOf (K : PySem.W.Frag) : List V → Hp → VK → Prop := fun xs H Q => ∃ p ys kvs, xs = [.ref p] ∧ SqP K H p ys ∧ Paired (PairV K H) ys kvs ∧ ys.length ≤ 1000 ∧ (kvs.map (·.1)).Nodup ∧ ∀ l, H l = none → Q (.ref l) (upd H l (.dK kvs))
theorem pairs_real {pins : List (Addr × Obj)} {σ : St} {H : Hp} {s : Shared} (I : Inv X pins σ H s) : ∀ {ys : List V} {kvs : List (Key × V)} {its : List Value}, Paired (PairV X.K H) ys kvs → Vals ys its →
    ∃ vs, KV kvs vs ∧ vs.length = its.length ∧ ∀ (i : Nat) v, its[i]? = some v → ∃ kv, vs[i]? = some kv ∧ PairAt (mixKind X.prog X.w) s.heap v kv []
  | _, _, _, .nil, .nil => ⟨[], .nil, rfl, fun i v h => by simp at h⟩
  | _ :: ys, kv :: kvs, _ :: its, .cons ⟨a, e, hq⟩ t, .cons r rr => by
    obtain ⟨vs, k1, l1, p1⟩ := pairs_real I t rr
    subst e
    cases r
    have go : ∀ (T : String) (o : Obj) (us : List Value) (c : Nat), s.heap.get? a = some o → o.cls = .type T → (T = "list" ∨ T = "tuple") → o.data = .seq us.toArray c → Vals [kV kv.1, kv.2] us →
        ∃ vs', KV (kv :: kvs) vs' ∧ vs'.length = (Value.ref a :: its).length ∧ ∀ (i : Nat) v, (Value.ref a :: its)[i]? = some v → ∃ kv, vs'[i]? = some kv ∧ PairAt (mixKind X.prog X.w) s.heap v kv [] := fun T o us c h1 h2 h3 h4 h5 => by
      obtain ⟨u1, u2, rfl, r1, r2⟩ := vals2 h5
      refine ⟨(kv.1, u2) :: vs, .cons ⟨rfl, r2⟩ k1, by rw [List.length_cons, List.length_cons, l1], fun i v hv => ?_⟩
      cases i with
      | zero =>
        simp at hv
        subst hv
        exact ⟨_, rfl, a, o, T, u1, c, rfl, h1, h2, h3, by simpa using h4, kV_is r1, by simp⟩
      | succ i => exact p1 i v (by simpa using hv)
    rcases hq with hq | hq
    · obtain ⟨us, rv, pl, _⟩ := I.list hq
      obtain ⟨o, ho, hcl, n, hda⟩ := pl.isList
      exact go "list" o us n ho hcl (.inl rfl) hda rv
    · obtain ⟨us, rv, pl, _⟩ := I.tuple hq
      obtain ⟨o, ho, hcl, n, hda⟩ := pl
      exact go "tuple" o us n ho hcl (.inr rfl) hda rv
theorem call_dict_of {K : PySem.W.Frag} (hK : X.K = K) (hc : X.calm = true) : CallR X (.type "dict") (rDictOf K) := by
  subst hK
  intro pins s σ H xs us Q I r h
  obtain ⟨p, ys, kvs, rfl, hq, pr, hl, nd, q⟩ := h
  obtain ⟨u, rfl, rx⟩ := vals1 r
  cases rx
  have go : ∀ (T : String) (its : List Value) (c0 : Nat) (sl : Array (Option Value)), s.heap.get? p = some ⟨.type T, none, .seq its.toArray c0, sl⟩ → (T = "list" ∨ T = "tuple") → Vals ys its → wpAny (model X.prog X.w) X.A (call (.type "dict") [.ref p]) (EP X pins σ Q) X.xe s :=
    fun T its c0 sl ho hT rv => by
      obtain ⟨vs, k1, l1, p1⟩ := pairs_real I pr rv
      have ln : ys.length = its.length := rv.length
      refine dict_of (kd := mixKind X.prog X.w) (vs := vs) (I.ok.hd hc) ho hT (by simpa using l1) (fun i v hv => p1 i v (by simpa using hv)) (by simp; omega) (by rw [← k1.keys]; exact nd) fun h' t dd kp => ?_
      have big := I.big
      refine ⟨.ref s.heap.objs.size, _, I.laid (a := s.heap.objs.size) (o := .dK kvs) (h' := h') (t' := t) kp (Nat.le_refl _) (dk_new ?_ ?_ k1 dd), rfl, q _ (I.hok.fresh (Nat.le_refl _))⟩
      · have := k1.length
        rw [sizeLine_eq]
        omega
      · exact beq_false_of_ne (Nat.ne_of_gt big)
  rcases hq with hq | hq
  · obtain ⟨its, rv, pl, _⟩ := I.list hq
    obtain ⟨o, n, ho, hcl, hdi, hda⟩ := pl
    obtain ⟨oc, od, oa, os⟩ := o
    simp only at hcl hdi hda
    subst hcl hdi hda
    exact go "list" its n os ho (.inl rfl) rv
  · obtain ⟨_, its, rv, o, ho, hcl, ⟨n, hda⟩, hdi⟩ := (show ObjOk X.prog X.w H s.heap p (.tup ys) from I.hok p _ hq)
    obtain ⟨oc, od, oa, os⟩ := o
    simp only at hcl hdi hda
    subst hcl hdi hda
    exact go "tuple" its n os ho (.inr rfl) rv
end
end L2

set_option Elab.async false
set_option linter.all false
set_option maxRecDepth 100000
set_option maxHeartbeats 4000000
namespace L2
open PySem PySem.Spec PyProof.Rows
section
variable {X : Cx} {tg : Expr}
end
section
variable {prog : Program} {w : World} {A : Around} {E : Value → Shared → Prop}
end
end L2

set_option Elab.async false
set_option linter.all false
set_option maxRecDepth 100000
set_option maxHeartbeats 4000000
namespace L2
open PySem PySem.Spec PyProof.Rows
section
variable {X : Cx}
end
section
variable {P : Program} {w : World} {K : PySem.W.Frag} {mg : Str → Option Value} {base : Heap}
end
end L2

set_option Elab.async false
set_option linter.all false
set_option maxRecDepth 100000
set_option maxHeartbeats 4000000
namespace HT
open PySem PySem.Spec PyProof.Rows L2
section
variable {prog : Program} {w : World} {A : Around} {E : Value → Shared → Prop} {s : Shared}
end
end HT
namespace L2
open PySem PySem.Spec PyProof.Rows
noncomputable def tupEq : List V → List V → Bool
  | [], [] => true
  | x :: xs, y :: ys => eqV x y && tupEq xs ys
  | _, _ => false
theorem tupEq_eq : ∀ xs ys : List V, ((List.range (min xs.length ys.length)).all (fun j => eqV (xs.getD j .non) (ys.getD j .non)) && xs.length == ys.length) = tupEq xs ys
  | [], [] => rfl
  | [], _ :: _ => rfl
  | _ :: _, [] => rfl
  | x :: xs, y :: ys => by
    have ih := tupEq_eq xs ys
    unfold tupEq
    rw [← ih, List.length_cons, List.length_cons, Nat.succ_min_succ, List.range_succ_eq_map, List.all_cons, List.all_map, Bool.and_assoc]
    congr 1
    congr 1
    rw [Bool.eq_iff_iff]
    simp
theorem eqV_refl : ∀ {x : V}, flatV x = true → eqV x x = true := fun {x} h => by
  cases x with
  | non => rfl
  | bl b => exact beq_self_eq_true b
  | int i => exact beq_self_eq_true i
  | str z => exact beq_self_eq_true z
  | _ => exact absurd (show false = true from h) Bool.false_ne_true
theorem tupEq_refl : ∀ {xs : List V}, xs.all flatV = true → tupEq xs xs = true
  | [], _ => rfl
  | x :: xs, h => by
    rw [List.all_cons, Bool.and_eq_true] at h
    unfold tupEq
    rw [eqV_refl h.1, tupEq_refl h.2]
    rfl
theorem vals_at : ∀ {xs : List V} {us : List Value}, Vals xs us → xs.all flatV = true → ∀ (j : Nat) (h : j < us.length), RelV (xs.getD j .non) us[j] ∧ flatV (xs.getD j .non) = true
  | _, _, .nil, _, j, h => absurd h (Nat.not_lt_zero _)
  | x :: xs, u :: us, .cons r t, f, 0, h => by
    rw [List.all_cons, Bool.and_eq_true] at f
    exact ⟨r, f.1⟩
  | x :: xs, u :: us, .cons r t, f, j + 1, h => by
    rw [List.all_cons, Bool.and_eq_true] at f
    exact vals_at t f.2 j (Nat.lt_of_succ_lt_succ h)
section
variable {X : Cx}
end
end L2

set_option Elab.async false
set_option linter.all false
set_option maxRecDepth 100000
set_option maxHeartbeats 4000000
namespace L2
open PySem PySem.Spec PyProof.Rows
noncomputable def rNeT (K : PySem.W.Frag) : R2 := fun x y H Q => ∃ a b xs ys, x = .ref a ∧ y = .ref b ∧ SqT K H a xs ∧ SqT K H b ys ∧ xs.all flatV = true ∧ ys.all flatV = true ∧ Q (.bl (!tupEq xs ys)) H
theorem op_neT {X : Cx} (hu : X.A.units < cLine) : OpR X (compareOp .NotEq) (rNeT X.K) := by
  intro pins s σ H x y v u Q I rx ry h
  obtain ⟨a, b, xs, ys, rfl, rfl, ha, hb, f1, f2, q⟩ := h
  cases rx
  cases ry
  obtain ⟨its, r, pl, hz⟩ := I.tuple ha
  obtain ⟨its2, r2, pl2, hz2⟩ := I.tuple hb
  have h := SeqAt.RcNeAt.tuples (A := X.A) (e := fun j => eqV (xs.getD j .non) (ys.getD j .non)) pl pl2 hu fun j h1 h2 => by
    rw [List.size_toArray] at h1 h2
    obtain ⟨q1, q2⟩ := vals_at r f1 j h1
    obtain ⟨q3, q4⟩ := vals_at r2 f2 j h2
    exact eqAt_V q1 q3 q2 q4
  rw [List.size_toArray, List.size_toArray, ← r.length, ← r2.length, tupEq_eq] at h
  exact h X.prog X.w X.xe _ ⟨.bl _, H, I, rfl, q⟩
end L2

set_option Elab.async false
set_option linter.all false
set_option maxRecDepth 100000
set_option maxHeartbeats 4000000
namespace L2
open PySem PySem.Spec PyProof.Rows
noncomputable def stepN (a b c : Int) : Nat := (Builtin.Range.rangeSize a b c).toNat
section
variable {X : Cx} {tg : Expr}
end
end L2

set_option Elab.async false
set_option linter.all false
set_option maxRecDepth 100000
set_option maxHeartbeats 4000000
namespace L2
open PySem PySem.Spec PyProof.Rows
noncomputable def tCut (t u : TS) : TS := fun D σ H => ∃ W : St → Hp → Prop, t { D with nx := W } σ H ∧ ∀ σ' H', W σ' H' → u D σ' H'
theorem pss_cut {X : Cx} {st : Stmt} {rest : List Stmt} {t u : TS} (h1 : PS X st t) (h2 : PSs X rest u) : PSs X (st :: rest) (tCut t u) := by
  intro pins s σ H D I h
  obtain ⟨W, h, hw⟩ := h
  refine wpAny_execs_cons (thn (h1 pins s σ H { D with nx := W } I h) fun f s1 q => ?_)
  cases f with
  | next =>
    obtain ⟨σ', H', I', q⟩ := q
    exact h2 pins s1 σ' H' D I' (hw σ' H' q)
  | ret v => exact q
  | brk => exact q
  | cont => exact q
end L2

set_option Elab.async false
set_option linter.all false
set_option maxRecDepth 100000
set_option maxHeartbeats 4000000
namespace HT
open PySem PySem.Spec PyProof.Rows L2
section
variable {prog : Program} {w : World} {A : Around} {E : Value → Shared → Prop} {s : Shared}
theorem cat_tupA {t b : Addr} {vs ws : List Value} {Q : Value → Shared → Prop} (ht : IsTup s.heap t vs.toArray) (hb : IsTup s.heap b ws.toArray) (h0 : vs = [] → Q (.ref b) s)
    (h1 : vs ≠ [] → ws = [] → Q (.ref t) s) (h2 : vs ≠ [] → ws ≠ [] → Q (.ref s.heap.objs.size) { s with heap := s.heap.push { cls := .type "tuple", data := .seq (vs ++ ws).toArray } })
    (hsz : vs.length + ws.length ≤ sizeLine) : wpAny (model prog w) A (binaryOp .Add (.ref t) (.ref b)) Q E s := by
  by_cases hv : vs = []
  · obtain ⟨⟨cls, dd, data, sl⟩, ho, hc, n, hd⟩ := id ht
    obtain ⟨⟨cls2, dd2, data2, sl2⟩, ho2, hc2, n2, hd2⟩ := id hb
    simp only at hc hd hc2 hd2
    subst hc hd hc2 hd2
    exact concat_meets ⟨_, ho, rfl⟩ ⟨_, ho2, rfl⟩ noFill_tuple_add seq_tuple_add PySem.F.slot_tuple_add PySem.F.entry_tuple_add (PySem.F.args_tuple_add_2 _ _)
      (tuple_addW0 t b vs.toArray ws.toArray n n2 dd dd2 sl sl2 (by simp [hv])) ⟨ho, ho2, h0 hv⟩
  · exact cat_tup ht hb hv (h1 hv) (h2 hv) hsz
end
end HT
namespace L2
open PySem PySem.Spec PyProof.Rows
section
variable {X : Cx}
noncomputable def rCatA : R2 := fun x y H Q => ∃ a b xs ys, x = .ref a ∧ y = .ref b ∧ H a = some (.tup xs) ∧ H b = some (.tup ys) ∧ xs.length + ys.length ≤ sizeLine ∧ ∀ p H', Same H H' → H' p = some (.tup (xs ++ ys)) → Q (.ref p) H'
theorem op_catA : OpR X (binaryOp .Add) rCatA := by
  intro pins s σ H x y v u Q I rx ry h
  obtain ⟨a, b, xs, ys, rfl, rfl, ha, hb, hz, q⟩ := h
  cases rx
  cases ry
  obtain ⟨its, r1, p1, _⟩ := I.tuple (SqT.of ha)
  obtain ⟨its2, r2, p2, _⟩ := I.tuple (SqT.of hb)
  refine HT.cat_tupA p1 p2 (fun z => ?_) (fun z0 z => ?_) (fun z0 z => ?_) (by rw [← r1.length, ← r2.length]; exact hz)
  · refine ⟨.ref b, H, I, rfl, q b H (Same.refl _) ?_⟩
    rw [r1.nil_iff.mp z]
    exact hb
  · refine ⟨.ref a, H, I, rfl, q a H (Same.refl _) ?_⟩
    rw [r2.nil_iff.mp z, List.append_nil]
    exact ha
  · refine ⟨.ref s.heap.objs.size, _, I.laid (t' := s.toks) (o := .tup (xs ++ ys)) (fun b ob q => Heap.get?_push_of_some _ q) (Nat.le_refl _) ?_, rfl, q _ _ (fun c o e => ?_) upd_same⟩
    · exact ⟨by rw [List.length_append]; exact hz, _, r1.append r2, PlT.new _ _⟩
    · rw [upd_ne (ne_of_none e (I.hok.fresh (Nat.le_refl _)))]
      exact e
noncomputable def rIndexS (K : PySem.W.Frag) : V → List V → Hp → VK → Prop := fun x vs H Q => ∃ (l : Addr) (zs : List Str) (z : Str) (j : Nat), x = .ref l ∧ vs = [.str z] ∧ SqL K H l (zs.map V.str) ∧ zs[j]? = some z ∧ (∀ m, m < j → zs[m]? ≠ some z) ∧ Q (.int (j : Nat)) H
theorem flat_strs (zs : List Str) : (zs.map V.str).all flatV = true := by
  rw [List.all_map, List.all_eq_true]
  intro z _
  rfl
theorem mt_indexS : MtM X "list.index" (rIndexS X.K) := by
  intro pins s σ H x vs v us Q I rx rv h
  obtain ⟨l, zs, z, j, rfl, rfl, hL, ej, hno, q⟩ := h
  cases rx
  obtain ⟨u, rfl, ru⟩ := rv.one
  have ru0 := ru
  obtain ⟨t, rfl⟩ := ru
  obtain ⟨its, r, pl, hz⟩ := I.list hL
  have lr := r.length
  rw [List.length_map] at lr hz
  have hj := (List.getElem?_eq_some_iff.mp ej).1
  have line := sizeLine_eq
  have at_ : ∀ (m : Nat) (hm : m < its.toArray.size), eqU (.str z) its.toArray[m] = decide (zs[m]? = some z) := fun m hm => by
    have hm' : m < its.length := by rw [List.size_toArray] at hm; exact hm
    obtain ⟨q1, q2⟩ := vals_at r (flat_strs zs) m hm'
    have eu := eqU_of (x := .str z) q1 q2
    have eg : (zs.map V.str).getD m .non = .str (zs[m]'(by omega)) := by
      rw [List.getD_eq_getElem?_getD, List.getElem?_map, List.getElem?_eq_getElem (show m < zs.length by omega)]
      rfl
    rw [eg] at eu
    rw [List.getElem_toArray, eu, List.getElem?_eq_getElem (show m < zs.length by omega)]
    show (zs[m] == z) = decide (some zs[m] = some z)
    rw [Bool.eq_iff_iff, decide_eq_true_eq, beq_iff_eq, Option.some.injEq]
  obtain ⟨⟨cls, dd, data, sl⟩, ho, hc, n, hd⟩ := id pl.isList
  simp only at hc hd
  subst hc hd
  have hjs : j < its.toArray.size := by rw [List.size_toArray]; omega
  refine call_meets F.slot_list_index ⟨_, ho, rfl⟩ F.entry_list_index (F.args_list_index_2 _ _)
    (SeqAt.list_indexAt l its.toArray n dd sl (.str z t) (eqU (.str z)) j hjs (by omega) (by rw [at_ j hjs]; exact decide_eq_true ej) (fun m hm hlt => by rw [at_ m hm]; exact decide_eq_false (hno m hlt)))
    ⟨ho, fun w hw => mem_eqAt ru0 rfl r (flat_strs zs) w (by simpa using hw), ?_⟩
  exact ⟨.int j, H, I.tok _, ⟨_, rfl⟩, q⟩
end
end L2

set_option Elab.async false
set_option linter.all false
set_option maxRecDepth 100000
set_option maxHeartbeats 4000000
namespace L2
open PySem PySem.Spec PyProof.Rows
noncomputable def DfK (K : PySem.W.Frag) (x q : Str) (st : Stmt) (dV : Value) (f : Addr) : Prop := ∃ (oc : Value) (od : Option Addr) (kV doc pm : Value) (an : Option Addr) (cdv ct : Value) (osl : Array (Option Value)),
  K.lookup f = some ⟨oc, od, .func (PySem.W.fnOf x q (defArgs st) (defBody st) (defScope st) dV kV doc pm an cdv ct), osl⟩ ∧ PySem.W.codeIn K cdv q = true ∧ PySem.W.keepIn K (.ref f) = true
noncomputable def DfT (K : PySem.W.Frag) (x : Str) (st : Stmt) (dV : Value) (f : Addr) : Prop := PySem.W.nsIn K mainGlobals x = some (some (.ref f)) ∧ DfK K x x st dV f
noncomputable def DfM (K : PySem.W.Frag) (C : Addr) (x q : Str) (st : Stmt) (dV : Value) (f : Addr) : Prop := PySem.W.findIn K (.ref C) x = some (some (.ref f)) ∧ PySem.W.isFn K (.ref f) = true ∧ DfK K x q st dV f
noncomputable def DfC (K : PySem.W.Frag) (x : Str) (C : Addr) : Prop := PySem.W.nsIn K mainGlobals x = some (some (.ref C)) ∧ PySem.W.plainGet K C Str.empty = true ∧ PySem.W.hasDictIn K C = true ∧ PySem.W.plainOver K C = true ∧ PySem.W.findIn K (.ref C) "__setattr__" = some (some (.builtin "object.__setattr__")) ∧ PySem.W.makesIn K C = true ∧ PySem.W.keepIn K (.ref C) = true
section
variable {K : PySem.W.Frag} {mg : Str → Option Value} {x q : Str} {st : Stmt} {f C T : Addr} {fd : FuncData} {its : Array Value}
theorem DfK.fn (h : DfK K x q st .none f) : ∃ fd, Fun K x q st f fd := by
  obtain ⟨oc, od, kV, doc, pm, an, cdv, ct, osl, l, c, k⟩ := h
  exact ⟨_, fun_mk l c k⟩
theorem df_top {h : Heap} (X : K.In h) (G : h.Ns mainGlobals mg) (a : DfT K x st .none f) : ∃ fd, Fun K x x st f fd ∧ mg x = some (.ref f) := by
  obtain ⟨fd, F⟩ := a.2.fn
  exact ⟨fd, F, PySem.W.mg_of X G a.1⟩
theorem df_meth (a : DfM K C x q st .none f) : ∃ fd, Fun K x q st f fd ∧ Meth K C x f := by
  obtain ⟨fd, F⟩ := a.2.2.fn
  exact ⟨fd, F, a.1, a.2.1, F.kp⟩
theorem df_init {y : Str} (c : DfC K y C) (a : DfM K C "__init__" q st .none f) : ∃ fd, Fun K "__init__" q st f fd ∧ Mk K C f := by
  obtain ⟨fd, F⟩ := a.2.2.fn
  exact ⟨fd, F, c.2.2.2.2.2.1, a.1, a.2.1, c.2.2.2.2.2.2⟩
theorem DfC.cls {y : Str} (c : DfC K y C) : Cls K C := ⟨c.2.1, c.2.2.1, c.2.2.2.1, c.2.2.2.2.1⟩
theorem DfC.nm {h : Heap} (X : K.In h) (G : h.Ns mainGlobals mg) {y : Str} (c : DfC K y C) : mg y = some (.ref C) := PySem.W.mg_of X G c.1
theorem law_binds {p : Str} (F : Fun K x q st f fd) (h : ∀ kV doc pm an cdv ct v, bindArgs (PySem.W.fnOf x q (defArgs st) (defBody st) (defScope st) .none kV doc pm an cdv ct) ⟨[v], []⟩ = pure [(p, v)] := by intros; rfl) : ∀ (s : Shared) (v : Value), BindsTo s fd ⟨[v], []⟩ [(p, v)] := by
  obtain ⟨oc, od, kV, doc, pm, an, cdv, ct, osl, rfl, l, c⟩ := F.ex
  exact fun s v => .of_eq (h _ _ _ _ _ _ _)
theorem b0 (F : Fun K x q st f fd) (h : ∀ kV doc pm an cdv ct, bindArgs (PySem.W.fnOf x q (defArgs st) (defBody st) (defScope st) .none kV doc pm an cdv ct) ⟨[], []⟩ = pure (List.zip [] []) := by intros; rfl) : Binds K fd [] [] :=
  F.binds fun kV doc pm an cdv ct us hl => len0 (p := fun us => bindArgs _ ⟨us, []⟩ = pure (List.zip _ us)) hl (h kV doc pm an cdv ct)
theorem b1 {p1 : Str} (F : Fun K x q st f fd) (h : ∀ kV doc pm an cdv ct a, bindArgs (PySem.W.fnOf x q (defArgs st) (defBody st) (defScope st) .none kV doc pm an cdv ct) ⟨[a], []⟩ = pure (List.zip [p1] [a]) := by intros; rfl) : Binds K fd [p1] [] :=
  F.binds fun kV doc pm an cdv ct us hl => len1 (p := fun us => bindArgs _ ⟨us, []⟩ = pure (List.zip _ us)) hl (h kV doc pm an cdv ct)
theorem b2 {p1 p2 : Str} (F : Fun K x q st f fd) (h : ∀ kV doc pm an cdv ct a b, bindArgs (PySem.W.fnOf x q (defArgs st) (defBody st) (defScope st) .none kV doc pm an cdv ct) ⟨[a, b], []⟩ = pure (List.zip [p1, p2] [a, b]) := by intros; rfl) : Binds K fd [p1, p2] [] :=
  F.binds fun kV doc pm an cdv ct us hl => len2 (p := fun us => bindArgs _ ⟨us, []⟩ = pure (List.zip _ us)) hl (h kV doc pm an cdv ct)
theorem b3 {p1 p2 p3 : Str} (F : Fun K x q st f fd) (h : ∀ kV doc pm an cdv ct a b c, bindArgs (PySem.W.fnOf x q (defArgs st) (defBody st) (defScope st) .none kV doc pm an cdv ct) ⟨[a, b, c], []⟩ = pure (List.zip [p1, p2, p3] [a, b, c]) := by intros; rfl) : Binds K fd [p1, p2, p3] [] :=
  F.binds fun kV doc pm an cdv ct us hl => len3 (p := fun us => bindArgs _ ⟨us, []⟩ = pure (List.zip _ us)) hl (h kV doc pm an cdv ct)
theorem b4 {p1 p2 p3 p4 : Str} (F : Fun K x q st f fd) (h : ∀ kV doc pm an cdv ct a b c d, bindArgs (PySem.W.fnOf x q (defArgs st) (defBody st) (defScope st) .none kV doc pm an cdv ct) ⟨[a, b, c, d], []⟩ = pure (List.zip [p1, p2, p3, p4] [a, b, c, d]) := by intros; rfl) : Binds K fd [p1, p2, p3, p4] [] :=
  F.binds fun kV doc pm an cdv ct us hl => len4 (p := fun us => bindArgs _ ⟨us, []⟩ = pure (List.zip _ us)) hl (h kV doc pm an cdv ct)
theorem b5 {p1 p2 p3 p4 p5 : Str} (F : Fun K x q st f fd) (h : ∀ kV doc pm an cdv ct a b c d e, bindArgs (PySem.W.fnOf x q (defArgs st) (defBody st) (defScope st) .none kV doc pm an cdv ct) ⟨[a, b, c, d, e], []⟩ = pure (List.zip [p1, p2, p3, p4, p5] [a, b, c, d, e]) := by intros; rfl) : Binds K fd [p1, p2, p3, p4, p5] [] :=
  F.binds fun kV doc pm an cdv ct us hl => len5 (p := fun us => bindArgs _ ⟨us, []⟩ = pure (List.zip _ us)) hl (h kV doc pm an cdv ct)
end
theorem calF (P : Program) (w : World) (K : PySem.W.Frag) (mg : Str → Option Value) (base : Heap) {k : Nat} {x : Str} {ps : List Str} {sp : Sp} {st : Stmt} {f : Addr} {fd : FuncData} (F : Fun K x x st f fd ∧ mg x = some (.ref f)) (a : FnOk P w K mg base CX0 k f fd ps sp) (b : Binds K fd ps []) : Cal P w K mg base k x ps sp := .mk' a b F.1.kp F.2
theorem mclF (P : Program) (w : World) (K : PySem.W.Frag) (mg : Str → Option Value) (base : Heap) {k : Nat} {C : Addr} {x q : Str} {ps : List Str} {sp : Sp} {st : Stmt} {f : Addr} {fd : FuncData} (c : Cls K C) (F : Fun K x q st f fd ∧ Meth K C x f) (a : FnOk P w K mg base CX0 k f fd ps sp) (b : Binds K fd ps []) : MCal P w K mg base k C x ps sp := .mk' c a b F.2
theorem mkrF (P : Program) (w : World) (K : PySem.W.Frag) (mg : Str → Option Value) (base : Heap) {k : Nat} {C : Addr} {x y q : Str} {ps : List Str} {sp : Sp} {st : Stmt} {f : Addr} {fd : FuncData} (c : mg x = some (.ref C)) (F : Fun K y q st f fd ∧ Mk K C f) (a : FnOk P w K mg base CX0 k f fd ps sp) (b : Binds K fd ps []) : Mkr P w K mg base k C x ps sp := .mk' a b F.2 c
theorem scp {N P : List Str} {sc : Scope} (h1 : sc.kind = .function := by rfl) (h2 : sc.isCoroutine = false := by rfl) (h3 : sc.isGenerator = false := by rfl) (h4 : N.Nodup := by decide +kernel) (h5 : N.take P.length = P := by rfl)
    (h6 : ∀ x ∈ P, sc.names.lookup x = some .local ∨ sc.names.lookup x = some .cell := by decide +kernel) (h7 : ∀ y ∈ sc.names, y.2 ≠ .free := by decide +kernel) : FnScope N P sc := ⟨h1, h2, h3, h4, h5, h6, h7⟩
theorem rm {j k : Nat} {A : Around} (r : Room k A) (h : j ≤ k := by omega) : Room j A := r.mono h
theorem Cal.up {P : Program} {w : World} {K : PySem.W.Frag} {mg : Str → Option Value} {base : Heap} {j k : Nat} {x : Str} {ps : List Str} {sp : Sp} (G : Cal P w K mg base j x ps sp) (h : j ≤ k := by decide) : Cal P w K mg base k x ps sp := G.mono h
theorem MCal.up {P : Program} {w : World} {K : PySem.W.Frag} {mg : Str → Option Value} {base : Heap} {j k : Nat} {C : Addr} {x : Str} {ps : List Str} {sp : Sp} (G : MCal P w K mg base j C x ps sp) (h : j ≤ k := by decide) : MCal P w K mg base k C x ps sp := G.mono h
theorem Mkr.up {P : Program} {w : World} {K : PySem.W.Frag} {mg : Str → Option Value} {base : Heap} {j k : Nat} {C : Addr} {x : Str} {ps : List Str} {sp : Sp} (G : Mkr P w K mg base j C x ps sp) (h : j ≤ k := by decide) : Mkr P w K mg base k C x ps sp := G.mono h
section
variable {X : Cx} {mg : Str → Option Value}
end
end L2

set_option Elab.async false
set_option linter.all false
set_option maxRecDepth 100000
set_option maxHeartbeats 4000000
namespace HT
open PySem PySem.Spec PyProof.Rows L2
section
variable {prog : Program} {w : World} {A : Around} {E : Value → Shared → Prop} {s : Shared}
end
end HT
namespace L2
open PySem PySem.Spec PyProof.Rows
section
variable {X : Cx} {es : List Expr} {ec : Nat} {tp : Pos}
end
end L2

set_option Elab.async false
set_option linter.all false
set_option maxRecDepth 100000
set_option maxHeartbeats 4000000
namespace L2
open PySem PySem.Spec PyProof.Rows
section
variable {X : Cx}
theorem call_list_rng (hc : X.calm = true) : CallR X (.type "list") (fun xs H Q => ∃ p i j, xs = [.ref p] ∧ H p = some (.rng i j) ∧ (-(2 ^ 62) ≤ i ∧ i < 2 ^ 62 ∧ -(2 ^ 62) ≤ j ∧ j < 2 ^ 62) ∧ (j - i).toNat ≤ 2 ^ 24 ∧
    ∀ l, H l = none → Q (.ref l) (upd H l (.lst (rngV i (j - i).toNat)))) := by
  intro pins s σ H xs us Q I r h
  obtain ⟨p, i, j, rfl, hp, ⟨h1, h2, h3, h4⟩, hlen, q⟩ := h
  obtain ⟨u, rfl, rx⟩ := vals1 r
  cases rx
  obtain ⟨t, u', v, e⟩ := (show ObjOk X.prog X.w H s.heap p (.rng i j) from I.hok p _ hp)
  have hn : Builtin.Range.rangeSize i j 1 = (((j - i).toNat : Nat) : Int) := by rw [rangeSize_one]; split <;> omega
  have z : (rngV i (j - i).toNat).length ≤ sizeLine := by unfold rngV; rw [List.length_map, List.length_range, sizeLine_eq]; omega
  refine call_list_range (I.ok.hd hc) e (small_one h1 h2 h3 h4) hn hlen fun h' tk acc c' hk hS hacc => ?_
  exact ⟨.ref s.heap.objs.size, _, I.laid (t' := tk) hk (Nat.le_refl _) (show ObjOk X.prog X.w _ h' _ (.lst _) from ⟨z, acc.toList, c', vals_rng hacc, by simpa using hS⟩), rfl, q _ (I.hok.fresh (Nat.le_refl _))⟩
end
end L2

set_option Elab.async false
set_option linter.all false
set_option maxRecDepth 100000
namespace HT
open PySem PySem.Spec PyProof.Rows L2
section
variable {prog : Program} {w : World} {A : Around} {E : Value → Shared → Prop} {s : Shared}
end
end HT
namespace L2
open PySem PySem.Spec PyProof.Rows PySem.Builtin PySem.Builtin.Str
section
variable {X : Cx}
end
end L2

set_option Elab.async false
set_option linter.all false
set_option maxRecDepth 100000
set_option maxHeartbeats 4000000
namespace L2
open PySem PySem.Spec PyProof.Rows PySem.Builtin PySem.Builtin.Str
noncomputable def Stay (fs : List Addr) (h h' : Heap) (H' : Hp) (B : Heap) : Prop := ∀ b o, h'.get? b = some o → b ∉ fs → (H' b ≠ none ∨ ∃ o0, h.get? b = some o0) → B.get? b = some o
noncomputable def CX1 (P : Program) (w : World) : CXT := fun outer H s E e s' => ∃ (a : Addr) (C : Value) (H' : Hp) (B : Heap) (a0 : Value), e = .ref a ∧ s'.os = s.os ∧ AllBare s'.gens ∧ Un (frs outer) [] H H' s.heap s'.heap ∧ HOk P w H' s'.heap ∧
  Heap.FlyingW B outer a C a0 s'.heap ∧ Stay (frs outer) s.heap s'.heap H' B ∧ E C none H'
theorem ObjOk.there {P : Program} {w : World} {H : Hp} {h : Heap} {a : Addr} {o : HO} (x : ObjOk P w H h a o) : ∃ u, h.get? a = some u := by
  cases o with
  | lst xs => obtain ⟨_, _, _, _, e⟩ := x; exact ⟨_, e⟩
  | tup xs => obtain ⟨_, _, _, o, e, _⟩ := x; exact ⟨_, e⟩
  | dK kvs => obtain ⟨_, _, _, _, o, _, _, e, _⟩ := x; exact ⟨_, e⟩
  | dT kvs => obtain ⟨_, _, _, _, o, _, _, e, _⟩ := x; exact ⟨_, e⟩
  | set S n => obtain ⟨o, _, _, _, e, _⟩ := x; exact ⟨_, e⟩
  | ins C dx fs => obtain ⟨_, _, _, e, _⟩ := x; exact ⟨_, e⟩
  | own y => exact x
  | xd fs => obtain ⟨_, ⟨o, _, _, e, _⟩, _⟩ := x; exact ⟨_, e⟩
  | rng lo hi => obtain ⟨_, _, _, e⟩ := x; exact ⟨_, e⟩
  | frz o u => exact ⟨_, x.1⟩
  | tbl ps => exact ⟨_, (show h.get? a = some _ from x)⟩
  | met f y => exact ⟨_, (show h.get? a = some _ from x)⟩
  | ext φ => obtain ⟨_, e, _⟩ := x; exact e
section
variable {P : Program} {w : World} {fs : List Addr} {H H' : Hp} {h h1 h2 B : Heap}
theorem Stay.hok (st : Stay fs h h1 H' B) (k : B.StaysIn h2) (hf : ∀ b ∈ fs, H' b = none) (ok : HOk P w H' h1) : HOk P w H' h2 := fun a o e => by
  refine (ok a o e).stay (fun b u hb q => ?_) (fun _ q => q) (fun _ _ q => q)
  have hn : H' b ≠ none := by
    rcases hb with rfl | hb
    · rw [e]; exact fun z => nomatch z
    · rw [hb]; exact fun z => nomatch z
  exact k _ _ (st b u q (fun z => hn (hf b z)) (.inl hn))
theorem Stay.un (st : Stay fs h h1 H' B) (k : B.StaysIn h2) (us : h1.UpToSlots h2) (nf : ∀ b ∈ fs, ∃ o, h1.get? b = some o ∧ ∀ vs, o.data ≠ .fields vs) (u : Un fs [] H H' h h1) : Un fs [] H H' h h2 where
  keep := fun b o q n hb hx => k _ _ (st b o (u.keep b o q n hb hx) hb (.inr ⟨o, q⟩))
  slot := fun b o q n hb hx => by
    obtain ⟨sl, e⟩ := u.slot b o q n hb hx
    obtain ⟨o1, e1, d1⟩ := nf b hb
    rw [e] at e1
    cases e1
    obtain ⟨sl2, e2⟩ := us b _ e d1
    exact ⟨sl2, e2⟩
  free := u.free
  there := fun b o q hx => by
    obtain ⟨o1, e1⟩ := u.there b o q hx
    by_cases hb : b ∈ fs
    · obtain ⟨o2, e2, d2⟩ := nf b hb
      obtain ⟨sl, e3⟩ := us b o2 e2 d2
      exact ⟨_, e3⟩
    · exact ⟨o1, k _ _ (st b o1 e1 hb (.inr ⟨o, q⟩))⟩
  tups := u.tups
  frzs := u.frzs
  tbls := u.tbls
theorem Stay.next (st : Stay fs h h1 H' B) (k : B.StaysIn h2) (ok : HOk P w H' h1) (hf : ∀ b ∈ fs, H' b = none) (th : ∀ b o, h.get? b = some o → ∃ o', h1.get? b = some o') : Stay fs h h2 H' B := fun b o q hb hc => by
  have : ∃ o1, h1.get? b = some o1 := by
    rcases hc with hc | ⟨o0, e0⟩
    · cases e : H' b with
      | none => exact absurd e hc
      | some u => exact (ok b u e).there
    · exact th b o0 e0
  obtain ⟨o1, e1⟩ := this
  have e2 := st b o1 e1 hb hc
  rw [k _ _ e2] at q
  cases q
  exact e2
end
section
variable {X : Cx} {pins : List (Addr × Obj)} {σ : St} {H H' : Hp} {s : Shared} {h1 B : Heap}
theorem Inv.nolo (I : Inv X pins σ H s) {b : Addr} {o : Obj} (e : X.s₀.heap.get? b = some o) : b ≠ X.env.locals := fun z => by
  subst z
  exact absurd (Nat.lt_of_lt_of_le (Heap.lt_size e) I.ok.above) (Nat.lt_irrefl _)
theorem Inv.outward (I : Inv X pins σ H s) (hx : X.ex = []) (u : Un (frs X.stack) [] H H' s.heap h1) : Un X.fs [] X.H₀ H' X.s₀.heap h1 where
  keep := fun b o q n hb hc => u.keep b o (I.base.keep b o q n hb (by rw [hx]; exact hc)) (I.base.free b o q n (by rw [hx]; exact hc)) (fun z => (List.mem_cons.mp (I.stkSub b z)).elim (I.nolo q) hb) hc
  slot := fun b o q n hb hc => by
    obtain ⟨sl, e⟩ := I.base.slot b o q n hb (by rw [hx]; exact hc)
    obtain ⟨sl2, e2⟩ := u.any e (I.base.free b o q n (by rw [hx]; exact hc)) hc
    exact ⟨sl2, e2⟩
  free := fun b o q n hc => by
    obtain ⟨o1, e1⟩ := I.base.there b o q (by rw [hx]; exact hc)
    exact u.free b o1 e1 (I.base.free b o q n (by rw [hx]; exact hc)) hc
  there := fun b o q hc => by
    obtain ⟨o1, e1⟩ := I.base.there b o q (by rw [hx]; exact hc)
    exact u.there b o1 e1 hc
  tups := fun b xs q => u.tups b xs (I.base.tups b xs q)
  frzs := fun b o v q => u.frzs b o v (I.base.frzs b o v q)
  tbls := fun b ps q => by
    obtain ⟨m, e⟩ := I.base.tbls b ps q
    obtain ⟨m2, e2⟩ := u.tbls b _ e
    exact ⟨m ++ m2, by rw [e2, Array.append_assoc]⟩
theorem Inv.stayOut (I : Inv X pins σ H s) (hx : X.ex = []) (hf : ∀ b ∈ frs X.stack, H' b = none) (st : Stay (frs X.stack) s.heap h1 H' B) : Stay X.fs X.s₀.heap h1 H' B := fun b o q hb hc => by
  refine st b o q (fun z => ?_) ?_
  · rcases hc with hc | ⟨o0, e0⟩
    · exact hc (hf b z)
    · exact (List.mem_cons.mp (I.stkSub b z)).elim (I.nolo e0) hb
  · rcases hc with hc | ⟨o0, e0⟩
    · exact .inl hc
    · exact .inr (I.base.there b o0 e0 (by rw [hx]; exact fun z => nomatch z))
end
section
variable {P : Program} {w : World} {K : PySem.W.Frag} {mg : Str → Option Value} {base : Heap} {N : List Str} {qual : Str} {scope : Scope} {f : Addr} {cd : Value} {A : Around} {outer : List Env} {s0 : Shared} {H0 : Hp} {E : XK}
theorem passX : Passes (CX1 P w) (cxOf (CX1 P w) P w K mg base N qual scope f cd A outer s0 H0 E) E := by
  intro pins σ H s e s' I h
  obtain ⟨a, C, H', B, a0, rfl, hos, hg, un, hok, fl, st, hE⟩ := h
  have hfr := I.ok.frames
  have hf : ∀ b ∈ frs (envOfC qual scope s0.heap.objs.size f cd :: outer), H' b = none := fun b hb => by
    obtain ⟨_, o, ho, _⟩ := I.stack.mem hb
    exact un.free b o ho (I.stkFree b hb) (fun z => nomatch z)
  have nf : ∀ b ∈ frs (envOfC qual scope s0.heap.objs.size f cd :: outer), ∃ o, s'.heap.get? b = some o ∧ ∀ vs, o.data ≠ .fields vs := fun b hb => (fl.2.2.1.mem hb).2
  show wpAny (model P w) (A.deeper (envOfC qual scope s0.heap.objs.size f cd)) (leaving (envOfC qual scope s0.heap.objs.size f cd) (.ref a)) _ _ s'
  refine wpAny_leaves_onW hfr rfl fl fun h' fl' us => ?_
  have un2 := st.un fl'.1 us nf un
  have ok2 : HOk P w H' h' := st.hok fl'.1 hf hok
  have st2 := st.next fl'.1 hok hf (fun b o q => un.there b o q (fun z => nomatch z))
  exact ⟨a, C, H', B, a0, rfl, hos.trans I.os, hg, I.outward rfl un2, ok2, fl', I.stayOut rfl hf st2, hE⟩
end
abbrev veL : List Value := [.type "ValueError", .type "Exception", .type "BaseException", .type "object"]
structure Err (K : PySem.W.Frag) (mg : Str → Option Value) (x : Str) (C : Addr) : Prop where
  mgC : mg x = some (.ref C)
  ex : PySem.W.excIn K C veL "ValueError.__new__" = true
theorem Err.obj {K : PySem.W.Frag} {mg : Str → Option Value} {x : Str} {C : Addr} {h : Heap} (E : Err K mg x C) (X : K.In h) : OwnCls x C veL "ValueError.__new__" mg h := by
  refine ⟨E.mgC, ?_⟩
  have q := E.ex
  unfold PySem.W.excIn at q
  split at q
  · rename_i dd cd sl ho
    split at q
    · rename_i C' bm k0 k1 k2 k3 n k5 hm hs
      simp only [Bool.and_eq_true, beq_iff_eq, Bool.not_eq_true'] at q
      obtain ⟨⟨⟨⟨⟨rfl, rfl⟩, hdel⟩, ht⟩, hok⟩, hni⟩ := q
      obtain ⟨nm, bs, mro, ns, qn, hd, sn, sub, ab, col, del⟩ := cd
      dsimp only at hm hdel hok hni
      subst hm hdel
      have hsl : sl = #[k0, k1, k2, k3, some (.builtin "ValueError.__new__"), k5] := by
        obtain ⟨l⟩ := sl
        simp only at hs
        rw [hs]
      subst hsl
      exact ⟨bm, ns, nm, qn, bs, hd, sn, sub, ab, col, dd, k0, k1, k2, k3, k5, _, X _ _ ho, .of_isNs (PySem.W.isNs_of_in X hok), PySem.W.nsMap_none_of_in X hok hni, PySem.W.tail_of_in X ht⟩
    · cases q
  · cases q
noncomputable def tRaise (C : Addr) (E : XK) (t : TA) : TS := fun _ σ H => t σ H fun vs H1 => vs.length ≤ sizeLine ∧ E (.ref C) none H1
section
variable {P : Program} {w : World} {K : PySem.W.Frag} {mg : Str → Option Value} {base : Heap} {N : List Str} {qual : Str} {scope : Scope} {f : Addr} {cd : Value} {A : Around} {outer : List Env} {s0 : Shared} {H0 : Hp} {E : XK}
theorem ps_raise {x : Str} {C : Addr} {e0 : Expr} {es : List Expr} {t : TA} {np cpos pos : Pos} (er : Err K mg x C) (hg : Gl (cxOf (CX1 P w) P w K mg base N qual scope f cd A outer s0 H0 E) x)
    (ha : PA (cxOf (CX1 P w) P w K mg base N qual scope f cd A outer s0 H0 E) (e0 :: es) t)
    (hdb : (x == ("__debug__" : Str)) = false := by decide)
    (he : starEach (e0 :: es) (cxOf (CX1 P w) P w K mg base N qual scope f cd A outer s0 H0 E).env = (false, eval e0 (cxOf (CX1 P w) P w K mg base N qual scope f cd A outer s0 H0 E).env) :: starEach es (cxOf (CX1 P w) P w K mg base N qual scope f cd A outer s0 H0 E).env := by rfl)
    (hpl : (backTo cpos (starEach es (cxOf (CX1 P w) P w K mg base N qual scope f cd A outer s0 H0 E).env)).any (·.1) = false := by rfl) :
    PS (cxOf (CX1 P w) P w K mg base N qual scope f cd A outer s0 H0 E) (.Raise (some (.Call (.Name x np) (e0 :: es) [] cpos)) none pos) (tRaise C E t) := by
  intro pins s σ H D I h
  obtain ⟨bm, Ns, nm, q, bs, hdct, sn, sub, ab, col, dd, k0, k1, k2, k3, k5, mN, hC, hN, hni, T⟩ := (er.obj I.mod.kin).obj
  refine wpAny_Raise_call_subT (C := C) (nm := nm) (q := q) (N := Ns) (bs := bs) (bm := bm) (hdct := hdct) (sn := sn) (sub := sub) (ab := ab) (col := col) (dd := dd) (k0 := k0) (k1 := k1) (k2 := k2) (k3 := k3) (k5 := k5)
    PySem.F.excBase_ValueError (mN := mN) (T.hasType PySem.F.excBase_ValueError.hasBase) (I.ok.hd rfl) (by rw [he]; show (false || (backTo cpos (starEach es _)).any (·.1)) = false; rw [hpl]; rfl) hni (ld_glob I hg er.mgC ⟨rfl, ?_⟩ hdb)
  have hA := ha cpos pins s σ H _ I h
  rw [he] at hA ⊢
  refine Calls.evalArgs_plain (thn hA fun us s2 ⟨vs, H2, I2, r2, hz, hE⟩ => ⟨rfl, by rw [← r2.length]; exact hz, I2.bk _ _ hC, hN.keeps I2.bk, T.keeps I2.bk, fun h' e hm => ?_⟩)
  show wpAny (model P w) (A.deeper (envOfC qual scope s0.heap.objs.size f cd)) (leaving (envOfC qual scope s0.heap.objs.size f cd) (.ref e)) _ _ _
  have sk := I2.stack
  have hfr := I2.ok.frames
  refine wpAny_leaves_madeW (base := PySem.W.hideAll s2.heap (frs (envOfC qual scope s0.heap.objs.size f cd :: outer))) (h := s2.heap) hfr rfl (fun b o z => PySem.W.of_hideAll _ z) (PySem.W.funFrames_hide sk fun env hv b hb => List.mem_filterMap.mpr ⟨env, hv, hb⟩) hm fun h'' t' fl _ _ us' => ?_
  have hf : ∀ b ∈ frs (envOfC qual scope s0.heap.objs.size f cd :: outer), H2 b = none := I2.stkFree
  have ok1 : HOk P w H2 h' := I2.hok.kept hm.keeps
  have un1 : Un (frs (envOfC qual scope s0.heap.objs.size f cd :: outer)) [] H2 H2 s2.heap h' := Un.kept hm.keeps
  have nf : ∀ b ∈ frs (envOfC qual scope s0.heap.objs.size f cd :: outer), ∃ o, h'.get? b = some o ∧ ∀ vs, o.data ≠ .fields vs := fun b hb => by
    obtain ⟨_, o, ho, hd⟩ := sk.mem hb
    exact ⟨o, hm.keeps _ _ ho, hd⟩
  have st : Stay (frs (envOfC qual scope s0.heap.objs.size f cd :: outer)) s2.heap h' H2 (PySem.W.hideAll s2.heap (frs (envOfC qual scope s0.heap.objs.size f cd :: outer))) := fun b o z hb hc => by
    have : ∃ o1, s2.heap.get? b = some o1 := by
      rcases hc with hc | hc
      · cases e : H2 b with
        | none => exact absurd e hc
        | some u => exact (I2.hok b u e).there
      · exact hc
    obtain ⟨o1, e1⟩ := this
    rw [hm.keeps _ _ e1] at z
    cases z
    exact PySem.W.hideAll_get _ e1 hb
  have un2 := st.un fl.1 us' nf un1
  have ok2 : HOk P w H2 h'' := st.hok fl.1 hf ok1
  have st2 := st.next fl.1 ok1 hf (fun b o z => ⟨o, hm.keeps _ _ z⟩)
  exact ⟨e, .ref C, H2, _, _, rfl, I2.os, I2.bare, I2.outward rfl un2, ok2, fl, I2.stayOut rfl hf st2, hE⟩
end
section
variable {X : Cx} {e : Expr} {es : List Expr} {te : TE} {pos : Pos}
abbrev TJ := Str → St → Hp → (Str → Hp → Prop) → Prop
noncomputable def PJ (X : Cx) (es : List Expr) (t : TJ) : Prop := ∀ (acc : Str) (pins : List (Addr × Obj)) (s : Shared) (σ : St) (H : Hp) (Q : Str → Hp → Prop), Inv X pins σ H s → t acc σ H Q →
  Joins (model X.prog X.w) X.A X.xe (evalEach es X.env) acc (fun out s1 => ∃ H', Inv X pins σ H' s1 ∧ Q out H') s
theorem Joins.mono {M : Model} {A : Around} {E : Value → Shared → Prop} : ∀ {l : List (Sem Value)} {acc : Str} {Q Q' : Str → Shared → Prop} {s : Shared}, (∀ o s, Q o s → Q' o s) → Joins M A E l acc Q s → Joins M A E l acc Q' s
  | [], acc, Q, Q', s, k, h => k _ _ h
  | x :: l, acc, Q, Q', s, k, h => wpAny_mono h (fun v s1 ⟨y, t, e, z, r⟩ => ⟨y, t, e, z, Joins.mono k r⟩) fun _ _ x => x
theorem pj_nil : PJ X [] (fun acc _ H Q => Q acc H) := fun acc pins s σ H Q I h => ⟨H, I, h⟩
theorem pj_cons {tr : TJ} (h : PE X e te) (hr : PJ X es tr) : PJ X (e :: es) (fun acc σ H Q => te σ H fun x H1 => ∃ y, x = .str y ∧ (acc ++ y).length ≤ sizeLine ∧ tr (acc ++ y) σ H1 Q) := fun acc pins s σ H Q I q =>
  wpAny_mono (h pins s σ H _ I q) (fun v s1 ⟨x, H1, I1, rx, y, ey, hz, q1⟩ => by
    subst ey
    obtain ⟨t, rfl⟩ := rx
    exact ⟨y, t, rfl, hz, hr _ pins s1 σ H1 Q I1 q1⟩) fun _ _ x => x
noncomputable def tJoin (t : TJ) : TE := fun σ H Q => t Str.empty σ H fun out H1 => out.length ≤ sizeLine ∧ Q (.str out) H1
theorem pe_join {e1 e2 : Expr} {t : TJ} (h : PJ X (e1 :: e2 :: es) t) : PE X (.JoinedStr (e1 :: e2 :: es) pos) (tJoin t) := by
  intro pins s σ H Q I q
  refine wpAny_JoinedStr (Joins.mono (fun o s1 z => ?_) (h _ pins s σ H _ I q))
  obtain ⟨H1, I1, hz, q1⟩ := z
  exact ⟨hz, .str o, H1, I1.tok _, ⟨_, rfl⟩, q1⟩
noncomputable def tFmtI (te : TE) : TE := fun σ H Q => te σ H fun x H1 => ∃ i : Int, x = .int i ∧ i.natAbs.log2 < 1920 ∧ Q (.str (toString i)) H1
theorem pe_fmtI (h : PE X e te) : PE X (.FormattedValue e (-1) none pos) (tFmtI te) := by
  intro pins s σ H Q I q
  refine PyProof.Rows.FormattedValue_plain (thn (h pins s σ H _ I q) fun v s1 ⟨x, H1, I1, rx, i, ei, hd, q1⟩ => ?_)
  subst ei
  obtain ⟨t, rfl⟩ := rx
  exact PyProof.Rows.formatField_int_small hd ⟨.str (toString i), H1, I1.tok _, ⟨_, rfl⟩, q1⟩
end
noncomputable def ExcO (a : Addr) (C : Value) : HO := .ext fun h => ∃ o vs, h.get? a = some o ∧ o.cls = C ∧ o.data = .fields vs
theorem excO_ok {P : Program} {w : World} {H : Hp} {h : Heap} {a : Addr} {C : Value} {o : Obj} {vs : Array Value} (e : h.get? a = some o) (c : o.cls = C) (d : o.data = .fields vs) : ObjOk P w H h a (ExcO a C) :=
  ⟨⟨o, vs, e, c, d⟩, ⟨o, e⟩, fun h1 h2 ⟨o, vs, e, c, d⟩ k => ⟨o, vs, k o e, c, d⟩⟩
abbrev Cx.mark (X : Cx) (e : Value) : Cx := { X with A := X.A.mark (some e), calm := false, xe := fun _ _ => False }
abbrev Cx.pnd (X : Cx) (pn : List (Addr × Obj)) : Cx := { X with pn := pn }
section
variable {X : Cx} {pins : List (Addr × Obj)} {σ : St} {H H' : Hp} {s : Shared}
theorem Cx.Ok.mark (ok : X.Ok) (e : Value) : (X.mark e).Ok := ⟨ok.mod, ok.kind, ok.glob, ok.blt, ok.above, ok.inj, ok.has, ok.cab, (fun z => nomatch z), ok.frames, ok.stk, ok.exf, ok.bs, ok.bsz, ok.noex, ok.exfs, ok.funs, ok.frf⟩
theorem Cx.Ok.pnd (ok : X.Ok) (pn : List (Addr × Obj)) : (X.pnd pn).Ok := ⟨ok.mod, ok.kind, ok.glob, ok.blt, ok.above, ok.inj, ok.has, ok.cab, ok.hd, ok.frames, ok.stk, ok.exf, ok.bs, ok.bsz, ok.noex, ok.exfs, ok.funs, ok.frf⟩
theorem Inv.mark (I : Inv X pins σ H s) (e : Value) : Inv (X.mark e) pins σ H s := ⟨I.ok.mark e, I.os, I.bare, I.base, I.loc, I.cell, I.free, I.freeC, I.pin, I.hok, I.len⟩
theorem Inv.unmark {e : Value} (I : Inv (X.mark e) pins σ H s) (ok : X.Ok) : Inv X pins σ H s := ⟨ok, I.os, I.bare, I.base, I.loc, I.cell, I.free, I.freeC, I.pin, I.hok, I.len⟩
theorem Inv.pnd (I : Inv X pins σ H s) : Inv (X.pnd (X.pn ++ pins)) [] σ H s := ⟨I.ok.pnd _, I.os, I.bare, I.base, I.loc, I.cell, I.free, I.freeC, by rw [List.append_nil]; exact I.pin, I.hok, I.len⟩
theorem Inv.unpnd {ps : List (Addr × Obj)} (I : Inv (X.pnd (X.pn ++ pins)) ps σ H s) (ok : X.Ok) : Inv X pins σ H s := ⟨ok, I.os, I.bare, I.base, I.loc, I.cell, I.free, I.freeC, fun p hp => I.pin p (List.mem_append_left _ hp), I.hok, I.len⟩
theorem SP.unpnd {D : Ends} {f : Flow} {s' : Shared} {ps : List (Addr × Obj)} (ok : X.Ok) (h : SP (X.pnd (X.pn ++ pins)) ps D f s') : SP X pins D f s' := by
  cases f with
  | next => obtain ⟨σ', H', I, q⟩ := h; exact ⟨σ', H', I.unpnd ok, q⟩
  | brk => obtain ⟨σ', H', I, q⟩ := h; exact ⟨σ', H', I.unpnd ok, q⟩
  | cont => obtain ⟨σ', H', I, q⟩ := h; exact ⟨σ', H', I.unpnd ok, q⟩
  | ret u => obtain ⟨v, σ', H', I, r, q⟩ := h; exact ⟨v, σ', H', I.unpnd ok, r, q⟩
theorem wpAny_unbinds {M : Model} {A : Around} {E : Value → Shared → Prop} {env : Env} {n : Str} {pos : Pos} {m : Str → Option Value} {Q : Unit → Shared → Prop} (hl : env.kindOf n = some .local) (hn : s.heap.Ns env.locals m)
    (hp : (env.scope.kind == .class || (env.scope.kind == .module && env.locals != env.globals)) = false)
    (h : ∀ h' m' tk, h'.Ns env.locals m' → (∀ y, y ≠ n → m' y = m y) → Heap.SameBut env.locals s.heap h' → Q () { s with heap := h', toks := tk }) :
    wpAny M A (do bindName env n .none; unbindBehindTheSuite env n pos) Q E s := by
  refine wpAny_bind (wpAny_bindName (wpAny_storeName_local hl hn (fun h₁ hn₁ hs₁ => ?_) hp))
  unfold unbindBehindTheSuite
  exact wpAny_onRaise (wpAny_unbindName_local (v := .none) hl hn₁ (by simp) hp fun h₂ u hn₂ hs₂ => h h₂ _ _ hn₂ (fun y hy => by simp [hy]) (hs₁.trans hs₂))
theorem unbind_ok {M : Model} {A : Around} {E : Value → Shared → Prop} {i : Nat} {x : Str} {pos : Pos} {Q : Unit → Shared → Prop} (I : Inv X pins σ H s) (hN : X.N.Nodup) (hi : X.N[i]? = some x) (hk : X.env.kindOf x = some .local)
    (h : ∀ s', Inv X pins (σ.set i none) H s' → Q () s') : wpAny M A (do bindName X.env x .none; unbindBehindTheSuite X.env x pos) Q E s := by
  obtain ⟨m, hn, hl⟩ := id I.loc
  have hcls : (X.env.scope.kind == .class || (X.env.scope.kind == .module && X.env.locals != X.env.globals)) = false := by rw [I.ok.kind]; rfl
  have hiσ : i < σ.length := by rw [I.len]; exact (List.getElem?_eq_some_iff.mp hi).1
  have cne := I.cne
  refine wpAny_unbinds hk hn hcls fun h' m' tk hn' hm' hs => ?_
  obtain ⟨oL, _, _, hoL, _⟩ := id hn
  have tracked : HOk X.prog X.w H h' := fun b ob e => by
    refine (I.hok b ob e).stay (fun c w' hc q => (hs.2 c ?_).trans q) (fun _ q => q) fun _ _ q => q
    rintro rfl
    rcases hc with rfl | hc
    · rw [I.free] at e; cases e
    · rw [I.free] at hc; cases hc
  refine h _ ⟨I.ok, I.os, I.bare, ⟨fun b o e n hb hx => ?_, fun b o e n hb hx => ?_, I.base.free, fun b o e hx => ?_, I.base.tups, I.base.frzs, I.base.tbls⟩, ⟨_, hn', fun j y v' e1 e2 e3 => ?_⟩, fun y c e => ?_, I.free, I.freeC, fun p hp => ?_, tracked, by simpa using I.len⟩
  · exact (hs.2 b (I.nolo e)).trans (I.base.keep b o e n hb hx)
  · obtain ⟨sl, e1⟩ := I.base.slot b o e n hb hx
    exact ⟨sl, (hs.2 b (I.nolo e)).trans e1⟩
  · obtain ⟨o', e1⟩ := I.base.there b o e hx
    exact ⟨o', (hs.2 b (I.nolo e)).trans e1⟩
  · by_cases hj : j = i
    · subst hj
      rw [List.getElem?_set_self hiσ] at e2
      cases e2
    · rw [List.getElem?_set_ne (Ne.symm hj)] at e2
      obtain ⟨u', r', q⟩ := hl j y v' e1 e2 e3
      refine ⟨u', r', ?_⟩
      rcases q with ⟨k, e⟩ | ⟨k, c, e, z⟩
      · have : y ≠ x := fun e => hj (nodup_ix hN e1 (e ▸ hi))
        exact .inl ⟨k, by rw [hm' y this]; exact e⟩
      · exact .inr ⟨k, c, e, z.sameBut hs (cne y c e)⟩
  · obtain ⟨w', z⟩ := I.cell y c e
    exact ⟨w', z.sameBut hs (cne y c e)⟩
  · obtain ⟨e, n, ne, nf, d⟩ := I.pin p hp
    exact ⟨(hs.2 p.1 ne).trans e, n, ne, nf, d⟩
end
theorem matches_own {M : Model} {A : Around} {E : Value → Shared → Prop} {h : Heap} {g : Array GenState} {d : Drawn} {t : Nat} {os : OsState} {e C D N ND : Addr} {oe : Obj} {nm q nmD qD : Str} {bs bm bsD bmD : List Value} {hdct hdctD : Bool} {sn snD : List Str} {sub subD : List Value} {ab abD : Bool} {col colD : Option Bool} {dd ddD : Option Addr} {k0 k1 k2 k3 k5 j0 j1 j2 j3 j5 : Option Value} {newId newIdD : String} {Q : Bool → Shared → Prop}
    (hC : h.get? C = some (excClassObj nm q C N bs bm hdct sn sub ab col dd k0 k1 k2 k3 k5 newId)) (hD : h.get? D = some (excClassObj nmD qD D ND bsD bmD hdctD snD subD abD colD ddD j0 j1 j2 j3 j5 newIdD))
    (he : h.get? e = some oe) (hcls : oe.cls = .ref C) (hbase : bmD.contains (.type "BaseException") = true) (hcC : (Value.ref C :: bm).contains (.ref D) = true)
    (hq : Q true ⟨h, g, d, t, os⟩) : wpAny M A (excMatches (.ref e) (.ref D)) Q E ⟨h, g, d, t, os⟩ := by
  have hcB : (Value.ref D :: bmD).contains (.type "BaseException") = true := by rw [List.contains_cons, hbase, Bool.or_true]
  have f := tc_notTuple
  unfold excMatches
  repeat (first | (with_reducible refine wpAny_loadPart_at he ?_; rw [hcls]) | with_reducible refine wpAny_loadPart_at hD ?_ | (with_reducible refine wpAny_isSubtype_exc hD ?_; rw [hcB]) | (with_reducible refine wpAny_isSubtype_exc hC ?_; rw [hcC]) | wp_step)
  exact hq
noncomputable def xw (X : Cx) (EX : St → Value → Hp → Prop) : Value → Shared → Prop := fun e s' => ∃ pins σ H s, Inv X pins σ H s ∧ CX1 X.prog X.w X.stack H s (fun C _ H' => EX σ C H') e s'
structure Under (K : PySem.W.Frag) (C D : Addr) : Prop where
  ex : PySem.W.excIn K C veL "ValueError.__new__" = true
  sub : PySem.W.mroIn K C (.ref D) = some true
noncomputable def tTry (K : PySem.W.Frag) (i : Nat) (D : Addr) (tb : (St → Value → Hp → Prop) → TS) (ts : TS) : TS := fun Ds σ H => ∃ EX : St → Value → Hp → Prop, tb EX Ds σ H ∧ ∀ σ' C H', EX σ' C H' → (∃ c, C = .ref c ∧ Under K c D) ∧
  ∀ a, H' a = none → ts { nx := fun σ H => Ds.nx (σ.set i none) H, rt := Ds.rt, bk := fun σ H => Ds.bk (σ.set i none) H, ct := fun σ H => Ds.ct (σ.set i none) H } (σ'.set i (some (.ref a))) (upd H' a (ExcO a C))
theorem ps_try {X : Cx} {x n : Str} {i : Nat} {D : Addr} {body suite : List Stmt} {b0 : Stmt} {np hpos pos : Pos} {tb : (St → Value → Hp → Prop) → TS} {ts : TS} (er : Err X.K X.mg x D) (hg : Gl X x) (hN : X.N.Nodup) (hi : X.N[i]? = some n)
    (hl : X.env.scope.names.lookup n = some .local) (hst : X.stack = X.env :: X.outer) (hfr : X.env.frame = some X.env.locals)
    (hb : ∀ pn EX, PSs ((X.pnd pn).wish (xw (X.pnd pn) EX)) body (tb EX)) (hs : ∀ pn e, PSs ((X.pnd pn).mark e) (b0 :: suite) ts) (hdb : (x == ("__debug__" : Str)) = false := by decide) :
    PS X (.Try body [.ExceptHandler (some (.Name x np)) (some n) (b0 :: suite) hpos] [] [] pos) (tTry X.K i D tb ts) := by
  intro pins s σ H Ds I h
  obtain ⟨EX, hb', hh⟩ := h
  refine wpAny_Try_except (wpAny_mono (hb _ EX [] s σ H Ds (I.pnd.wish _) hb') (fun f s1 q => ?_) fun e s1 q => ?_)
  · have q' : SP X pins Ds f s1 := q.unwish.unpnd I.ok
    cases f with
    | next => exact wpAny_execs_nil q'
    | ret v => exact q'
    | brk => exact q'
    | cont => exact q'
  obtain ⟨ps, σ1, H1, s0, I1, a, C, H', B, a0, rfl, hos, hgn, un, hok, fl, st, hE⟩ := q
  obtain ⟨⟨c, rfl, hc⟩, hsu⟩ := hh σ1 C H' hE
  have hF : X.A.frames = some (X.env :: X.outer) := by rw [← hst]; exact I.ok.frames
  have fl0 : Heap.FlyingW B (X.env :: X.outer) a (.ref c) a0 s1.heap := by rw [← hst]; exact fl
  have hf : ∀ b ∈ frs X.stack, H' b = none := fun b hb => by
    obtain ⟨_, o, ho, _⟩ := I1.stack.mem hb
    exact un.free b o ho (I1.stkFree b hb) (fun z => nomatch z)
  have nf : ∀ b ∈ frs X.stack, ∃ o, s1.heap.get? b = some o ∧ ∀ vs, o.data ≠ .fields vs := fun b hb => (fl.2.2.1.mem hb).2
  obtain ⟨oe0, vs0, he0, _, hd0, _⟩ := fl.first
  have hna : a ∉ frs X.stack := fun z => by
    obtain ⟨o, e, d⟩ := nf a z
    rw [he0] at e
    cases e
    exact d vs0 hd0
  have hBa : B.get? a = none := fl.2.1
  have hH'a : H' a = none := by
    cases e : H' a with
    | none => rfl
    | some u =>
      have := st a oe0 he0 hna (.inl (by rw [e]; exact fun z => nomatch z))
      rw [hBa] at this
      cases this
  have hs0a : ∀ o, s0.heap.get? a ≠ some o := fun o e => by
    have := st a oe0 he0 hna (.inr ⟨o, e⟩)
    rw [hBa] at this
    cases this
  refine wpAny_looks_onW hF hfr fl0 fun h4 held4 us4 => ?_
  refine wpAny_landsW held4 fun h5 fl5 us5 => ?_
  have un5 : Un (frs X.stack) [] H1 H' s0.heap h5 := st.un fl5.1 (us4.trans us5) nf un
  have ok5 : HOk X.prog X.w H' h5 := st.hok fl5.1 hf hok
  have I5 : Inv (X.pnd (X.pn ++ pins)) ps σ1 H' { s1 with heap := h5 } := I1.call' (s' := { s1 with heap := h5 }) hos un5 ok5 hgn (fun b z => nomatch z)
  have M5 := I5.mark (.ref a)
  refine wpAny_handleBy_cons (codeAny_handlers_test (ld_glob (X := (X.pnd (X.pn ++ pins)).mark (.ref a)) M5 hg er.mgC ?_ hdb)) (by intro q; cases q)
  obtain ⟨bm, Ns, nm, q, bs, hdct, sn, sub, ab, col, dd, k0, k1, k2, k3, k5, mN, hC, hN', hni, T⟩ := ((⟨rfl, hc.ex⟩ : Err X.K (fun _ => some (.ref c)) x c).obj I5.kIn).obj
  obtain ⟨bmD, NsD, nmD, qD, bsD, hdctD, snD, subD, abD, colD, ddD, j0, j1, j2, j3, j5, mND, hD, hND, hniD, TD⟩ := (er.obj I5.kIn).obj
  obtain ⟨oe5, vs5, he5, hc5, hd5, _⟩ := fl5.first
  have hcD : (Value.ref c :: bm).contains (.ref D) = true := by
    obtain ⟨cd, e1, e2⟩ := Option.bind_eq_some_iff.mp hc.sub
    unfold PySem.W.clsIn at e1
    split at e1
    · rename_i c' d' cd' sl' ho
      cases e1
      have := I5.kIn _ _ ho
      rw [hC] at this
      cases this
      split at e2
      · cases e2
      · exact Option.some.inj e2
    · cases e1
  refine matches_own hC hD he5 hc5 (TD.hasType PySem.F.excBase_ValueError.hasBase) hcD ?_
  refine codeAny_handlers_suite_as ?_
  refine lands_againW fl5 fun h6 fl6 us6 => ?_
  have un6' : Un (frs X.stack) [] H1 H' s0.heap h6 := st.un fl6.1 ((us4.trans us5).trans us6) nf un
  have ok6' : HOk X.prog X.w H' h6 := st.hok fl6.1 hf hok
  obtain ⟨oe6, vs6, he6, hc6, hd6, _⟩ := fl6.first
  have un6 : Un (frs X.stack) [] H1 (upd H' a (ExcO a (.ref c))) s0.heap h6 :=
    ⟨un6'.keep, un6'.slot, fun b o q n hx => by
      rw [upd_ne (fun z => by rw [z] at q; exact hs0a o q)]
      exact un6'.free b o q n hx, un6'.there, fun b xs q => by
      have := un6'.tups b xs q
      rw [upd_ne (fun z => by rw [z, hH'a] at this; cases this)]
      exact this, fun b o u q => by
      have := un6'.frzs b o u q
      rw [upd_ne (fun z => by rw [z, hH'a] at this; cases this)]
      exact this, fun b ps q => by
      obtain ⟨m, e⟩ := un6'.tbls b ps q
      exact ⟨m, by rw [upd_ne (fun z => by rw [z, hH'a] at e; cases e)]; exact e⟩⟩
  have keep : ∀ {b : Addr} {u : HO}, H' b = some u → upd H' a (ExcO a (.ref c)) b = some u := fun {b u} e => by
    rw [upd_ne (fun z => by rw [z, hH'a] at e; cases e)]
    exact e
  have ok6 : HOk X.prog X.w (upd H' a (ExcO a (.ref c))) h6 := fun b o e => by
    by_cases hba : b = a
    · subst hba
      rw [upd_same] at e
      cases e
      exact excO_ok he6 hc6 hd6
    · rw [upd_ne hba] at e
      exact (ok6' b o e).stay (fun _ _ _ q => q) (fun _ q => keep q) (fun _ _ q => keep q)
  have I6 : Inv (X.pnd (X.pn ++ pins)) ps σ1 (upd H' a (ExcO a (.ref c))) { s1 with heap := h6 } := I1.call' (s' := { s1 with heap := h6 }) hos un6 ok6 hgn (fun b z => nomatch z)
  refine store_ok (X := (X.pnd (X.pn ++ pins)).mark (.ref a)) (I6.mark (.ref a)) hN hi (.inl hl) (v := .ref a) rfl (fun s7 I7 => ?_) (.inr hl)
  refine wpAny_mono (hs (X.pn ++ pins) (.ref a) ps s7 _ _ _ I7 (hsu a hH'a)) (fun f s8 q => ?_) (fun _ _ z => z.elim)
  have ok1 : (X.pnd (X.pn ++ pins)).Ok := I.ok.pnd _
  cases f with
  | next =>
    obtain ⟨σ', H2, J, q⟩ := q
    exact unbind_ok (X := X.pnd (X.pn ++ pins)) (J.unmark ok1) hN hi hl fun s9 J9 => ⟨_, _, J9.unpnd I.ok, q⟩
  | brk =>
    obtain ⟨σ', H2, J, q⟩ := q
    exact unbind_ok (X := X.pnd (X.pn ++ pins)) (J.unmark ok1) hN hi hl fun s9 J9 => ⟨_, _, J9.unpnd I.ok, q⟩
  | cont =>
    obtain ⟨σ', H2, J, q⟩ := q
    exact unbind_ok (X := X.pnd (X.pn ++ pins)) (J.unmark ok1) hN hi hl fun s9 J9 => ⟨_, _, J9.unpnd I.ok, q⟩
  | ret u =>
    obtain ⟨v, σ', H2, J, r, q⟩ := q
    exact unbind_ok (X := X.pnd (X.pn ++ pins)) (J.unmark ok1) hN hi hl fun s9 J9 => ⟨v, _, _, J9.unpnd I.ok, r, q⟩
structure Thr (X : Cx) (EX : St → XK) : Prop where
  pass : ∀ (pins : List (Addr × Obj)) (σ : St) (H : Hp) (s : Shared) (e : Value) (s' : Shared), Inv X pins σ H s → CX1 X.prog X.w X.stack H s (EX σ) e s' → X.xe e s'
theorem thr_try {X : Cx} {EX : St → Value → Hp → Prop} : Thr (X.wish (xw X EX)) (fun σ C _ H' => EX σ C H') := ⟨fun pins σ H s e s' I h => ⟨pins, σ, H, s, I.unwish, h⟩⟩
section
variable {X : Cx} {k : Nat} {f C : Addr} {fd : FuncData} {ps : List Str} {sp : Sp} {EX : St → XK} {x m : Str} {p pos apos : Pos} {e o : Expr} {es : List Expr} {ta : TE} {t : TA}
theorem run_fnX {pins : List (Addr × Obj)} {σ : St} {H : Hp} {s : Shared} {Q : VK} {us : List Value} {vs : List V} (T : Thr X EX) (F : FnOk X.prog X.w X.K X.mg X.base (CX1 X.prog X.w) k f fd ps sp) (hr : Room k X.A) (hb : Binds X.K fd ps [])
    (I : Inv X pins σ H s) (r : Vals vs us) (h : sp vs H Q (EX σ)) : wpAny (model X.prog X.w) X.A (call (.ref f) us) (EP X pins σ Q) X.xe s := by
  have hl : (us ++ []).length = ps.length := by rw [List.append_nil, ← r.length]; exact F.len _ _ _ _ h
  have r2 : Vals (vs ++ []) (us ++ []) := r.append .nil
  rw [← List.append_nil vs] at h
  refine wpAny_call (codeAny_mono (F.run X.A X.stack s H ⟨us, []⟩ (us ++ []) (vs ++ []) Q (EX σ) hr I.env0 (hb s us I.kIn hl) r2 h) fun r s' hq => ?_)
  cases r with
  | error e => exact T.pass pins σ H s e s' I hq
  | ok fl =>
    cases fl with
    | ret u => exact I.after hq
    | next => exact False.elim hq
    | brk => exact False.elim hq
    | cont => exact False.elim hq
noncomputable def tCallX (sp : Sp) (EX : St → XK) (t : TA) : TE := fun σ H Q => t σ H fun vs H1 => sp vs H1 Q (EX σ)
structure CalX (P : Program) (w : World) (K : PySem.W.Frag) (mg : Str → Option Value) (base : Heap) (k : Nat) (x : Str) (ps : List Str) (sp : Sp) : Prop where
  ex : ∃ (f : Addr) (fd : FuncData), FnOk P w K mg base (CX1 P w) k f fd ps sp ∧ Binds K fd ps [] ∧ PySem.W.keepIn K (.ref f) = true ∧ mg x = some (.ref f)
structure MCalX (P : Program) (w : World) (K : PySem.W.Frag) (mg : Str → Option Value) (base : Heap) (k : Nat) (C : Addr) (m : Str) (ps : List Str) (sp : Sp) : Prop where
  cl : Cls K C
  ex : ∃ (f : Addr) (fd : FuncData), FnOk P w K mg base (CX1 P w) k f fd ps sp ∧ Binds K fd ps [] ∧ Meth K C m f
structure MkrX (P : Program) (w : World) (K : PySem.W.Frag) (mg : Str → Option Value) (base : Heap) (k : Nat) (C : Addr) (x : Str) (ps : List Str) (sp : Sp) : Prop where
  ex : ∃ (f : Addr) (fd : FuncData), FnOk P w K mg base (CX1 P w) k f fd ps sp ∧ Binds K fd ps [] ∧ Mk K C f ∧ mg x = some (.ref C)
theorem pe_calX (T : Thr X EX) (G : CalX X.prog X.w X.K X.mg X.base k x ps sp) (hr : Room k X.A) (hg : Gl X x) (ha : PA X (e :: es) t)
    (hdb : (x == ("__debug__" : Str)) = false := by decide) (he : starEach (e :: es) X.env = (false, eval e X.env) :: starEach es X.env := by rfl) (hpl : (backTo pos (starEach es X.env)).any (·.1) = false := by rfl) :
    PE X (.Call (.Name x p) (e :: es) [] pos) (tCallX sp EX t) := by
  obtain ⟨f, fd, F, hb, hk, hm⟩ := G.ex
  intro pins s σ H Q I h
  refine wpAny_Call_Name_kw (ld_glob I hg hm ?_ hdb)
  refine PySem.W.callWith_K (h₀ := X.base) I.ok.mod.kin hk (thn (ha pos pins s σ H _ I h) fun us s1 ⟨vs, H1, I1, r, q⟩ => ⟨I1.kIn, ?_⟩) he hpl
  exact run_fnX T F hr hb I1 r q
end
section
variable {P : Program} {w : World} {K : PySem.W.Frag} {mg : Str → Option Value} {base : Heap}
theorem FnOk.toX {k : Nat} {f : Addr} {fd : FuncData} {ps : List Str} {sp : Sp} (F : FnOk P w K mg base CX0 k f fd ps sp) : FnOk P w K mg base (CX1 P w) k f fd ps sp :=
  ⟨F.len, fun A outer s H args us vs Q E hr he hb hv hs => codeAny_mono (F.run A outer s H args us vs Q E hr he hb hv hs) fun r s' q => by
    cases r with
    | error e => exact False.elim q
    | ok fl => cases fl <;> exact q⟩
theorem Fun.okX {x qual : Str} {st : Stmt} {f : Addr} {fd : FuncData} {N ps : List Str} {k : Nat} {sp : Sp} (F : Fun K x qual st f fd) (S : FnScope N ps (defScope st)) (len : ∀ vs H Q E, sp vs H Q E → vs.length = ps.length)
    (hbody : ∀ (cdv : Value) (A : Around) (outer : List Env) (s : Shared) (H : Hp) (vs : List V) (Q : VK) (E : XK), Room k (A.deeper (envOfC qual (defScope st) s.heap.objs.size f cdv)) → sp vs H Q E →
      ∃ t, PSs (cxOf (CX1 P w) P w K mg base N qual (defScope st) f cdv A outer s H E) (defBody st) t ∧ t { nx := fun _ H' => Q .non H', rt := Q } (start N vs) H) : FnOk P w K mg base (CX1 P w) (k + 1) f fd ps sp := by
  obtain ⟨oc, od, kV, doc, pm, an, cdv, ct, osl, rfl, lk, hcd⟩ := F.ex
  exact fn_of lk hcd S len fun A outer s H vs Q E hr hsp => hbody cdv A outer s H vs Q E hr hsp
theorem calFX (P : Program) (w : World) (K : PySem.W.Frag) (mg : Str → Option Value) (base : Heap) {k : Nat} {x : Str} {ps : List Str} {sp : Sp} {st : Stmt} {f : Addr} {fd : FuncData} (F : Fun K x x st f fd ∧ mg x = some (.ref f)) (a : FnOk P w K mg base (CX1 P w) k f fd ps sp) (b : Binds K fd ps []) : CalX P w K mg base k x ps sp := ⟨f, fd, a, b, F.1.kp, F.2⟩
theorem mclFX (P : Program) (w : World) (K : PySem.W.Frag) (mg : Str → Option Value) (base : Heap) {k : Nat} {C : Addr} {x q : Str} {ps : List Str} {sp : Sp} {st : Stmt} {f : Addr} {fd : FuncData} (c : Cls K C) (F : Fun K x q st f fd ∧ Meth K C x f) (a : FnOk P w K mg base (CX1 P w) k f fd ps sp) (b : Binds K fd ps []) : MCalX P w K mg base k C x ps sp := ⟨c, f, fd, a, b, F.2⟩
theorem mkrFX (P : Program) (w : World) (K : PySem.W.Frag) (mg : Str → Option Value) (base : Heap) {k : Nat} {C : Addr} {x y q : Str} {ps : List Str} {sp : Sp} {st : Stmt} {f : Addr} {fd : FuncData} (c : mg x = some (.ref C)) (F : Fun K y q st f fd ∧ Mk K C f) (a : FnOk P w K mg base (CX1 P w) k f fd ps sp) (b : Binds K fd ps []) : MkrX P w K mg base k C x ps sp := ⟨f, fd, a, b, F.2, c⟩
theorem CalX.up {j k : Nat} {x : Str} {ps : List Str} {sp : Sp} (G : CalX P w K mg base j x ps sp) (h : j ≤ k := by decide) : CalX P w K mg base k x ps sp := let ⟨f, fd, a, b, c⟩ := G.ex; ⟨f, fd, a.mono h, b, c⟩
end
end L2
namespace L2
open PySem PySem.Spec PyProof.Rows PySem.W PySem.Calls PySem.Builtin PySem.Builtin.ObjectAttr PySem.Builtin.Getset_descriptor
section
variable {prog : Program} {w : World} {A : Around} {E : Value → Shared → Prop} {s : Shared} {K : Frag} {a C : Addr} {o : Obj}
theorem xc_get {R : Result → Shared → Prop} {tp : Value} (X : K.In s.heap) (hx : s.heap.get? a = some o) (hc : o.cls = .ref C) (hm : mroIn K C (.type "object") = some true)
    (h : R (.ok (.ret (.ref C))) s) : codeAny (model prog w) A (.call (.builtin "getset_descriptor.__get__") ⟨[.builtin "object.__class__", .ref a, tp], []⟩) R s := by
  obtain ⟨hh, g, dr, t, os⟩ := s
  have L0 : Looks (model prog w) hh (typeOf (.ref a)) (.ref C) := hc ▸ (Looks.ld hx).andThen .now
  have L1 := looks_mroIn (M := model prog w) X hm
  refine codeAny_call_builtin KF.slot_gs.plain KF.entry_gs (KF.slot_gs.check _ _ _ _ _ _ _ _ KF.type_class (KF.args_gs _ _ _) ?_)
  unfold Builtin.«getset_descriptor.__get__» descrGet
  rw [dga_obj]
  refine wpAny_bind (wpAny_pure ?_)
  unfold descrGetter descrCheckInstance descrNameAndClass isInstance
  simp only [KF.owner_class]
  repeat lk
  refine ⟨Code.quiet_builtin _ (by decide +kernel), codeAny_builtin KF.entry_class ?_⟩
  unfold Builtin.«object.__class__» shownTypeOf
  repeat lk
  exact h
theorem xc_entry {tk : Tok} {Q : Fin → Shared → Prop} (X : K.In s.heap) (hx : s.heap.get? a = some o) (hc : o.cls = .ref C) (ha : findIn K (.ref C) "__class__" = some (some (.builtin "object.__class__")))
    (hm : mroIn K C (.type "object") = some true) (hq : Q (.done (.ret (.ref C))) s) :
    wpAny (model prog w) A (Builtin.«object.__getattribute__» ⟨[.ref a, .str "__class__" tk], []⟩) Q E s := by
  obtain ⟨hh, g, dr, t, os⟩ := s
  have L0 : Looks (model prog w) hh (typeOf (.ref a)) (.ref C) := hc ▸ (Looks.ld hx).andThen .now
  have L3 := looks_findIn (M := model prog w) X ha
  have hT5 : (⟨hh, g, dr, t, os⟩ : Shared).TypeIs (.builtin "object.__class__") "getset_descriptor" := F.typeOf_object_class
  have f5 := F.typeOf_object_class
  have f6 := F.slot_gs_get.lookup
  have f7 := F.slot_gs_set.lookup
  repeat (any_goals (first | assumption | (with_reducible refine wpAny_loadPart_at hx ?_; rw [hc]) | with_reducible refine L3.at ?_ | wp_step))
  refine xc_get X hx hc hm ?_
  repeat (any_goals (first | assumption | wp_step))
theorem xc_check {M : Model} {nameV : Value} {Q : Unit → Shared → Prop} (X : K.In s.heap) (hx : s.heap.get? a = some o) (hc : o.cls = .ref C) (hb : mroIn K C (.type "BaseException") = some true) (hq : Q () s) :
    wpAny M A (checkBuiltinCall "BaseException.__getattribute__" ⟨[.ref a, nameV], []⟩) Q E s := by
  obtain ⟨hh, g, dr, t, os⟩ := s
  have L1 := looks_mroIn (M := M) X hb
  have hk : builtinKind "BaseException.__getattribute__" = some .slot := by decide +kernel
  have hsplit : splitId "BaseException.__getattribute__" = some ("BaseException", "__getattribute__") := by decide +kernel
  have ha := F.args_bexc_ga (.ref a) nameV
  simp only [checkBuiltinCall, hk, hsplit]
  refine wpAny_bind ?_
  · unfold isInstance
    repeat (first | (with_reducible refine wpAny_loadPart_at hx ?_; rw [hc]) | with_reducible refine L1.at ?_ | wp_step)
    exact hq
theorem xc_by {tk : Tok} {fill expr : Bool} {Q : Value → Shared → Prop} (X : K.In s.heap) (hx : s.heap.get? a = some o) (hc : o.cls = .ref C) (ha : findIn K (.ref C) "__class__" = some (some (.builtin "object.__class__")))
    (hga : findIn K (.ref C) "__getattribute__" = some (some (.builtin "BaseException.__getattribute__"))) (hgn : findIn K (.ref C) "__getattr__" = some none)
    (hm : mroIn K C (.type "object") = some true) (hb : mroIn K C (.type "BaseException") = some true) (hq : Q (.ref C) s) :
    wpAny (model prog w) A (getAttrBy (.ref a) (.str "__class__" tk) fill expr) Q E s := by
  obtain ⟨hh, g, dr, t, os⟩ := s
  have L1 := looks_findIn (M := model prog w) X hga
  have L2 := looks_findIn (M := model prog w) X hgn
  have f3 := F.excAttr_ValueError.ga.bind (.ref a)
  have hx0 : (expr && onTheHeap (Value.builtin "BaseException.__getattribute__")) = false := by cases expr <;> rfl
  have hx2 : (Value.builtin "BaseException.__getattribute__" == Value.builtin "object.__getattribute__") = false := by decide +kernel
  have hx1 : (onTheHeap (Value.ref C) && Value.builtin "BaseException.__getattribute__" == Value.builtin "object.__getattribute__") = false := by rw [hx2]; rfl
  repeat (any_goals (first | assumption | (with_reducible refine wpAny_loadPart_at hx ?_; rw [hc]) | with_reducible refine L1.at ?_ | with_reducible refine L2.at ?_ | wp_step))
  refine codeAny_call_builtin F.excAttr_ValueError.ga.plain F.entry_bexc_ga (xc_check X hx hc hb (xc_entry X hx hc ha hm ?_))
  repeat (any_goals (first | assumption | wp_step))
theorem xc_attr {Q : Option Value → Shared → Prop} (X : K.In s.heap) (hx : s.heap.get? a = some o) (hc : o.cls = .ref C) (ha : findIn K (.ref C) "__class__" = some (some (.builtin "object.__class__")))
    (hga : findIn K (.ref C) "__getattribute__" = some (some (.builtin "BaseException.__getattribute__"))) (hgn : findIn K (.ref C) "__getattr__" = some none)
    (hm : mroIn K C (.type "object") = some true) (hb : mroIn K C (.type "BaseException") = some true) (hq : Q (some (.ref C)) { s with toks := s.toks + 1 }) :
    wpAny (model prog w) A (getAttr? (.ref a) "__class__") Q E s := by
  obtain ⟨hh, g, dr, t, os⟩ := s
  unfold getAttr? getAttrBy?
  refine wpAny_bind (wpAny_mkText (wpAny_bind (wpAny_attempt (xc_by (s := ⟨hh, g, dr, t + 1, os⟩) X hx hc ha hga hgn hm hb ?_))))
  exact wpAny_pure hq
end
noncomputable def errOne (K : Frag) (B c : Addr) : Bool := excIn K c veL "ValueError.__new__" && (mroIn K c (.ref B) == some true) && (mroIn K c (.type "object") == some true) && (mroIn K c (.type "BaseException") == some true) && (findIn K (.ref c) "__class__" == some (some (.builtin "object.__class__"))) &&
  (findIn K (.ref c) "__getattribute__" == some (some (.builtin "BaseException.__getattribute__"))) && (findIn K (.ref c) "__getattr__" == some none) && (kitOne K (.ref c) (.type "ValueError") == some true) && (clsIn K c).isSome
noncomputable def errChk (K : Frag) (B : Addr) (cs : List Addr) : Bool := cs.all (errOne K B) && cs.all (fun c => cs.all fun d => kitOne K (.ref c) (.ref d) == some (c == d)) && decide cs.Nodup
structure XCls (K : Frag) (C : Addr) : Prop where
  ha : findIn K (.ref C) "__class__" = some (some (.builtin "object.__class__"))
  hga : findIn K (.ref C) "__getattribute__" = some (some (.builtin "BaseException.__getattribute__"))
  hgn : findIn K (.ref C) "__getattr__" = some none
  hm : mroIn K C (.type "object") = some true
  hb : mroIn K C (.type "BaseException") = some true
  hv : kitOne K (.ref C) (.type "ValueError") = some true
  cl : (clsIn K C).isSome = true
structure Errs (K : Frag) (B : Addr) (cs : List Addr) : Prop where
  chk : errChk K B cs = true
theorem Errs.one {K : Frag} {B : Addr} {cs : List Addr} (E : Errs K B cs) {c : Addr} (h : c ∈ cs) : Under K c B ∧ XCls K c := by
  have q := E.chk
  unfold errChk at q
  rw [Bool.and_eq_true, Bool.and_eq_true] at q
  have := List.all_eq_true.mp q.1.1 c h
  unfold errOne at this
  simp only [Bool.and_eq_true, beq_iff_eq] at this
  obtain ⟨⟨⟨⟨⟨⟨⟨⟨h1, h2⟩, h3⟩, h4⟩, h5⟩, h6⟩, h7⟩, h8⟩, h9⟩ := this
  exact ⟨⟨h1, h2⟩, h5, h6, h7, h3, h4, h8, h9⟩
theorem Errs.two {K : Frag} {B : Addr} {cs : List Addr} (E : Errs K B cs) {c d : Addr} (h : c ∈ cs) (h' : d ∈ cs) : kitOne K (.ref c) (.ref d) = some (c == d) := by
  have q := E.chk
  unfold errChk at q
  rw [Bool.and_eq_true, Bool.and_eq_true] at q
  exact beq_iff_eq.mp (List.all_eq_true.mp (List.all_eq_true.mp q.1.2 c h) d h')
theorem Errs.nd {K : Frag} {B : Addr} {cs : List Addr} (E : Errs K B cs) : cs.Nodup := by
  have q := E.chk
  unfold errChk at q
  rw [Bool.and_eq_true] at q
  exact of_decide_eq_true q.2
theorem kitx_exc {K : Frag} {a D : Addr} (x : XCls K D) : KitX K (.ref a) (.ref D) (fun h => ∃ o vs, h.get? a = some o ∧ o.cls = .ref D ∧ o.data = .fields vs) where
  ty := fun M h _ ⟨o, vs, e, c, _⟩ => c ▸ (Looks.ld e).andThen .now
  it := fun _ _ X _ => by
    have hcD := x.cl
    unfold clsIn at hcD
    split at hcD
    · rename_i c' d' cd' sl' ho
      intro A' Q' E' s' k q
      unfold isType loadHead
      exact wpAny_bind (wpAny_loadPart (k _ _ (X _ _ ho)) (wpAny_pure q))
    · cases hcD
  ne := fun h tp dd its n sl X htp => by
    have hcD := x.cl
    refine Bool.eq_false_iff.mpr fun q => ?_
    have e : D = tp := Value.ref.inj (beq_iff_eq.mp q)
    subst e
    unfold clsIn at hcD
    split at hcD
    · rename_i c' d' cd' sl' ho
      have z := (X _ _ ho).symm.trans htp
      cases z
    · cases hcD
  ca := fun X ⟨o, vs, e, c, _⟩ k => xc_attr X e c x.ha x.hga x.hgn x.hm x.hb k
section
variable {X : Cx}
theorem call_isX {K : Frag} (hK : X.K = K) : CallR X (.builtin "isinstance") (fun xs H Q => ∃ a C D b, xs = [.ref a, .ref D] ∧ H a = some (ExcO a (.ref C)) ∧ XCls K C ∧ kitOne K (.ref C) (.ref D) = some b ∧ Q (.bl b) H) := by
  subst hK
  intro pins s σ H xs us Q I r h
  obtain ⟨a, C, D, b, rfl, ea, xc, e, q⟩ := h
  obtain ⟨u, w', rfl, rx, ry⟩ := vals2 r
  cases (show u = Value.ref a from rx)
  cases (show w' = Value.ref D from ry)
  have ok : ObjOk X.prog X.w H s.heap a (ExcO a (.ref C)) := I.hok a _ ea
  exact kia_one (kitx_exc xc) I.kIn ok.1 e (fun z => nomatch z) fun tk => ⟨.bl b, H, I.tok _, rfl, q⟩
theorem call_isXT {K : Frag} (hK : X.K = K) : CallR X (.builtin "isinstance") (fun xs H Q => ∃ a C T b, xs = [.ref a, .ty T] ∧ H a = some (ExcO a (.ref C)) ∧ XCls K C ∧ kitOne K (.ref C) (.type T) = some b ∧ Q (.bl b) H) := by
  subst hK
  intro pins s σ H xs us Q I r h
  obtain ⟨a, C, T, b, rfl, ea, xc, e, q⟩ := h
  obtain ⟨u, w', rfl, rx, ry⟩ := vals2 r
  cases (show u = Value.ref a from rx)
  cases (show w' = Value.type T from ry)
  have ok : ObjOk X.prog X.w H s.heap a (ExcO a (.ref C)) := I.hok a _ ea
  exact kia_one (kitx_exc xc) I.kIn ok.1 e (fun z => nomatch z) fun tk => ⟨.bl b, H, I.tok _, rfl, q⟩
theorem pe_own {x : Str} {C : Addr} {pos : Pos} (hg : Gl X x) (hm : X.mg x = some (.ref C)) (hdb : (x == ("__debug__" : Str)) = false := by decide) : PE X (.Name x pos) (fun _ H Q => Q (.ref C) H) := fun pins s σ H Q I h =>
  ld_glob I hg hm ⟨.ref C, H, I, rfl, h⟩ hdb
end
end L2
namespace L2
open PySem PySem.Spec PyProof.Rows
section
variable {X : Cx}
end
theorem boot_VE : bootBuiltins "ValueError" = some (.type "ValueError") := by first | rfl | kernel_rfl
end L2
namespace L2
open PySem PySem.Spec PyProof.Rows
noncomputable def spOr (a b : Sp) : Sp := fun vs H Q E => a vs H Q E ∨ b vs H Q E
theorem FnOk.or {P : Program} {w : World} {K : PySem.W.Frag} {mg : Str → Option Value} {base : Heap} {CX : CXT} {k : Nat} {f : Addr} {fd : FuncData} {ps : List Str} {a b : Sp} (F : FnOk P w K mg base CX k f fd ps a) (G : FnOk P w K mg base CX k f fd ps b) : FnOk P w K mg base CX k f fd ps (spOr a b) :=
  ⟨fun vs H Q E h => h.elim (F.len vs H Q E) (G.len vs H Q E), fun A outer s H args us vs Q E hr he hb hv h => h.elim (F.run A outer s H args us vs Q E hr he hb hv) (G.run A outer s H args us vs Q E hr he hb hv)⟩
end L2
namespace L2
open PySem PySem.Spec PyProof.Rows
end L2
namespace L2
open PySem PySem.Spec PyProof.Rows
end L2

set_option Elab.async false
set_option linter.all false
set_option maxRecDepth 100000
set_option maxHeartbeats 4000000
namespace L2
open PySem PySem.Spec PyProof.Rows
noncomputable def Flies (B : Heap) (l : List Env) (a : Addr) (C a0 : Value) (L : Addr) (h : Heap) : Prop := Heap.FlyingW B l a C a0 h ∨ Heap.HeldW B l a C a0 L h
theorem Flies.stays {B h : Heap} {l : List Env} {a L : Addr} {C a0 : Value} (x : Flies B l a C a0 L h) : B.StaysIn h ∧ B.get? a = none ∧ h.FunFrames B l := x.elim (fun y => ⟨y.1, y.2.1, y.2.2.1⟩) fun y => ⟨y.1, y.2.1, y.2.2.1⟩
noncomputable def xh (X : Cx) (EX : St → Value → Hp → Prop) : Value → Shared → Prop := fun e s' => ∃ (pins : List (Addr × Obj)) (σ : St) (H : Hp) (s : Shared), Inv X pins σ H s ∧ ∃ (a : Addr) (C : Value) (H' : Hp) (B : Heap) (a0 : Value), e = .ref a ∧ s'.os = s.os ∧ AllBare s'.gens ∧ Un (frs X.stack) [] H H' s.heap s'.heap ∧ HOk X.prog X.w H' s'.heap ∧
  Flies B X.stack a C a0 X.env.locals s'.heap ∧ Stay (frs X.stack) s.heap s'.heap H' B ∧ EX σ C H'
theorem xh_step {X : Cx} {EX : St → Value → Hp → Prop} {pins : List (Addr × Obj)} {σ : St} {H H' : Hp} {s s' : Shared} {a : Addr} {C a0 : Value} {B h2 : Heap} (I : Inv X pins σ H s) (hos : s'.os = s.os) (hg : AllBare s'.gens) (un : Un (frs X.stack) [] H H' s.heap s'.heap) (hok : HOk X.prog X.w H' s'.heap)
    (fl : s'.heap.FunFrames B X.stack) (st : Stay (frs X.stack) s.heap s'.heap H' B) (hE : EX σ C H') (us : s'.heap.UpToSlots h2) (fl2 : Flies B X.stack a C a0 X.env.locals h2) : xh X EX (.ref a) { s' with heap := h2 } := by
  have hf : ∀ b ∈ frs X.stack, H' b = none := fun b hb => by
    obtain ⟨_, o, ho, _⟩ := I.stack.mem hb
    exact un.free b o ho (I.stkFree b hb) (fun z => nomatch z)
  have nf : ∀ b ∈ frs X.stack, ∃ o, s'.heap.get? b = some o ∧ ∀ vs, o.data ≠ .fields vs := fun b hb => (fl.mem hb).2
  have k := fl2.stays.1
  exact ⟨pins, σ, H, s, I, a, C, H', B, a0, rfl, hos, hg, st.un k us nf un, st.hok k hf hok, fl2, st.next k hok hf (fun b o q => un.there b o q (fun z => nomatch z)), hE⟩
theorem passes_xh {X : Cx} {EX : St → Value → Hp → Prop} (hst : X.stack = X.env :: X.outer) (hfr : X.env.frame = some X.env.locals) : PassesOwn (model X.prog X.w) X.A X.env (xh X EX) := by
  intro e s' h
  obtain ⟨pins, σ, H, s, I, a, C, H', B, a0, rfl, hos, hg, un, hok, fl, st, hE⟩ := h
  have hF : X.A.frames = some (X.env :: X.outer) := by rw [← hst]; exact I.ok.frames
  have back : ∀ {h2 : Heap}, s'.heap.UpToSlots h2 → Heap.HeldW B X.stack a C a0 X.env.locals h2 → cameBackBy (model X.prog X.w) X.A X.env (xh X EX) (.ref a) { s' with heap := h2 } := by
    intro h2 us hh
    obtain ⟨f1, f2, f3, oe, vs, T, oT, ts, he, hcls, hd, h1, hnT, hTe, hT, hdT, h3⟩ := hh
    have hsz3 : 3 < ts.size := (Array.getElem?_eq_some_iff.mp h3).1
    unfold cameBackBy
    refine wpAny_bind (wpAny_field he hd h1 ?_)
    rw [if_neg (show ¬ ((Value.ref T == Value.none) = true) from by simp)]
    first | refine wpAny_bind (wpAny_pure ?_) | skip
    unfold setFlight
    refine wpAny_bind (wpAny_field he hd h1 ?_)
    rw [if_pos (show (Value.ref T != Value.none) = true from by simp)]
    rw [hfr]
    have other : ∀ b, b ≠ T → (h2.update T (Obj.mapFields (·.setIfInBounds 3 ((some X.env.locals : Option Addr).elim Value.none fun f => rawInt f)))).get? b = h2.get? b := fun b hb => Heap.get?_update_other _ _ (Ne.symm hb)
    have noRecord : ∀ b o, h2.get? b = some o → (∀ vs, o.data ≠ .fields vs) → b ≠ T := fun b o hb hnf q => by
      rw [q, hT] at hb; injection hb with hb; subst hb; exact hnf ts hdT
    refine wpAny_setField hT hdT hsz3 ?_
    refine xh_step (s' := s') (a0 := a0) I hos hg un hok fl.stays.2.2 st hE (us.trans fun b o hb hnf => ⟨o.slots, (other b (noRecord b o hb hnf)).trans hb⟩) (.inr ⟨fun b o hbo => (other b fun q => by rw [q, hnT] at hbo; cases hbo).trans (f1 b o hbo), f2, f3.of_keeps fun b o hb hnf => ⟨o, (other b (noRecord b o hb hnf)).trans hb, rfl⟩, ?_⟩)
    exact ⟨oe, vs, T, _, _, (other a (Ne.symm hTe)).trans he, hcls, hd, h1, hnT, hTe, Heap.get?_update_self _ hT (Obj.isFreed_of_fields (Obj.data_mapFields hdT _)), Obj.data_mapFields hdT _, by simp [hsz3]⟩
  unfold notedBy
  rcases fl with fl | fl
  · have fl0 : Heap.FlyingW B (X.env :: X.outer) a C a0 s'.heap := by rw [← hst]; exact fl
    refine wpAny_looks_onW hF hfr fl0 fun h4 held us => back us ?_
    rw [hst]
    exact held
  · refine wpAny_noteFrame_againW hfr fl.2.2.2 ?_
    exact back (Heap.UpToSlots.refl _) fl
theorem PS.imp {X : Cx} {E1 : Value → Shared → Prop} {st : Stmt} {t : TS} (h : PS (X.wish E1) st t) (hi : ∀ e s', E1 e s' → X.xe e s') : PS X st t := fun pins s σ H D I hw =>
  wpAny_mono (h pins s σ H D (I.wish _) hw) (fun _ _ q => q.unwish) hi
section
variable {P : Program} {w : World} {K : PySem.W.Frag} {mg : Str → Option Value} {base : Heap} {N : List Str} {qual : Str} {scope : Scope} {f : Addr} {cd : Value} {A : Around} {outer : List Env} {s0 : Shared} {H0 : Hp} {E : XK}
theorem leaves_xh {e : Value} {s' : Shared} (h : xh (cxOf (CX1 P w) P w K mg base N qual scope f cd A outer s0 H0 E) (fun _ C H' => E C none H') e s') : (cxOf (CX1 P w) P w K mg base N qual scope f cd A outer s0 H0 E).xe e s' := by
  obtain ⟨pins, σ, H, s, I, a, C, H', B, a0, rfl, hos, hg, un, hok, fl, st, hE⟩ := h
  rcases fl with fl | fl
  · exact passX pins σ H s (.ref a) s' I ⟨a, C, H', B, a0, rfl, hos, hg, un, hok, fl, st, hE⟩
  have hf : ∀ b ∈ frs (envOfC qual scope s0.heap.objs.size f cd :: outer), H' b = none := fun b hb => by
    obtain ⟨_, o, ho, _⟩ := I.stack.mem hb
    exact un.free b o ho (I.stkFree b hb) (fun z => nomatch z)
  have nf : ∀ b ∈ frs (envOfC qual scope s0.heap.objs.size f cd :: outer), ∃ o, s'.heap.get? b = some o ∧ ∀ vs, o.data ≠ .fields vs := fun b hb => (fl.2.2.1.mem hb).2
  show wpAny (model P w) (A.deeper (envOfC qual scope s0.heap.objs.size f cd)) (leaving (envOfC qual scope s0.heap.objs.size f cd) (.ref a)) _ _ s'
  unfold leaving
  refine wpAny_bind (wpAny_noteFrame_againW (L := s0.heap.objs.size) rfl fl.2.2.2 ?_)
  refine wpAny_landsW fl fun h' fl' us => ?_
  have un2 := st.un fl'.1 us nf un
  have ok2 : HOk P w H' h' := st.hok fl'.1 hf hok
  have st2 := st.next fl'.1 hok hf (fun b o q => un.there b o q (fun z => nomatch z))
  exact ⟨a, C, H', B, a0, rfl, hos.trans I.os, hg, I.outward rfl un2, ok2, ⟨fl'.1, fl'.2.1, fl'.2.2.1.2.2, fl'.2.2.2⟩, I.stayOut rfl hf st2, hE⟩
theorem ps_forX {iter tg : Expr} {body : List Stmt} {wi : TI} {g : TG} {tb : TS} {pos : Pos}
    (hi : PI ((cxOf (CX1 P w) P w K mg base N qual scope f cd A outer s0 H0 E).wish (xh (cxOf (CX1 P w) P w K mg base N qual scope f cd A outer s0 H0 E) (fun _ C H' => E C none H'))) tg iter wi)
    (hg : PG ((cxOf (CX1 P w) P w K mg base N qual scope f cd A outer s0 H0 E).wish (xh (cxOf (CX1 P w) P w K mg base N qual scope f cd A outer s0 H0 E) (fun _ C H' => E C none H'))) tg g)
    (hb : PSs ((cxOf (CX1 P w) P w K mg base N qual scope f cd A outer s0 H0 E).wish (xh (cxOf (CX1 P w) P w K mg base N qual scope f cd A outer s0 H0 E) (fun _ C H' => E C none H'))) body tb)
    (hs : ∀ x, foldedSetIterable iter (cxOf (CX1 P w) P w K mg base N qual scope f cd A outer s0 H0 E).env x = pure x := by intro _; rfl) :
    PS (cxOf (CX1 P w) P w K mg base N qual scope f cd A outer s0 H0 E) (.For tg iter body [] pos) (tFor wi g tb) :=
  (ps_for (passes_xh (X := cxOf (CX1 P w) P w K mg base N qual scope f cd A outer s0 H0 E) rfl rfl) rfl hi hg hb hs).imp fun e s' h => leaves_xh h
end
end L2

set_option Elab.async false
set_option linter.all false
set_option maxRecDepth 100000
set_option maxHeartbeats 4000000
namespace Tab
open PySem PySem.SetTable
noncomputable def stepN (x : Nat) : Nat := 5 * x + 1
noncomputable def rep {α : Type} (f : α → α) : Nat → α → α
  | 0, x => x
  | n + 1, x => rep f n (f x)
theorem rep_add {α : Type} (f : α → α) : ∀ (a b : Nat) (x : α), rep f (a + b) x = rep f b (rep f a x)
  | 0, b, x => by rw [Nat.zero_add]; rfl
  | a + 1, b, x => by
    rw [show a + 1 + b = (a + b) + 1 by omega]
    show rep f (a + b) (f x) = _
    rw [rep_add f a b]
    rfl
theorem rep_succ {α : Type} (f : α → α) (n : Nat) (x : α) : rep f (n + 1) x = f (rep f n x) := by
  rw [rep_add f n 1]
  rfl
theorem step_pow : ∀ k : Nat, ∃ a b : Nat, ∀ x, rep stepN (2 ^ k) x = (1 + 4 * 2 ^ k * a) * x + 2 ^ k * (1 + 2 * b)
  | 0 => ⟨1, 0, fun x => by show stepN x = _; unfold stepN; omega⟩
  | k + 1 => by
    obtain ⟨a, b, h⟩ := step_pow k
    refine ⟨a + 2 * 2 ^ k * (a * a), b + 2 ^ k * a * (1 + 2 * b), fun x => ?_⟩
    rw [show 2 ^ (k + 1) = 2 ^ k + 2 ^ k by rw [Nat.pow_succ]; omega, rep_add, h, h]
    generalize 2 ^ k = y
    grind
theorem orbit : ∀ (k x s : Nat), ∃ q, q < 2 ^ k ∧ rep stepN q x % 2 ^ k = s % 2 ^ k
  | 0, x, s => ⟨0, by decide, by rw [Nat.pow_zero, Nat.mod_one, Nat.mod_one]⟩
  | k + 1, x, s => by
    obtain ⟨q, hq, e⟩ := orbit k x s
    obtain ⟨a, b, h⟩ := step_pow k
    have p : 2 ^ (k + 1) = 2 * 2 ^ k := by rw [Nat.pow_succ]; omega
    have pos : 0 < 2 ^ k := Nat.two_pow_pos k
    rw [p]
    have e2 : rep stepN (q + 2 ^ k) x = rep stepN q x + 2 ^ k + 2 * 2 ^ k * (2 * a * rep stepN q x + b) := by
      rw [rep_add, h]
      generalize rep stepN q x = y
      generalize 2 ^ k = z
      grind
    generalize hy : rep stepN q x = y at e e2
    generalize 2 ^ k = z at *
    have m1 : y % (2 * z) = s % (2 * z) ∨ (y + z) % (2 * z) = s % (2 * z) := by
      have d1 := Nat.div_add_mod y z
      have d2 := Nat.div_add_mod s z
      rw [e] at d1
      have l := Nat.mod_lt s pos
      generalize s % z = r at d1 d2 l e
      generalize y / z = u at d1
      generalize s / z = v at d2
      have hu : u % 2 = v % 2 ∨ (u + 1) % 2 = v % 2 := by omega
      have f : ∀ w : Nat, (z * w + r) % (2 * z) = z * (w % 2) + r := fun w => by
        have hw := Nat.div_add_mod w 2
        have : z * w + r = (z * (w % 2) + r) + (2 * z) * (w / 2) := by
          generalize w / 2 = c at *
          generalize w % 2 = d at *
          subst hw
          grind
        rw [this, Nat.add_mul_mod_self_left]
        refine Nat.mod_eq_of_lt ?_
        have : w % 2 < 2 := Nat.mod_lt _ (by decide)
        rcases (show w % 2 = 0 ∨ w % 2 = 1 by omega) with h0 | h0 <;> rw [h0] <;> omega
      rcases hu with hu | hu
      · refine .inl ?_
        rw [← d1, ← d2, f, f, hu]
      · refine .inr ?_
        rw [← d1, ← d2, show z * u + r + z = z * (u + 1) + r by rw [Nat.mul_add]; omega, f, f, hu]
    rcases m1 with m1 | m1
    · exact ⟨q, by omega, by rw [hy]; exact m1⟩
    · exact ⟨q + z, by omega, by rw [e2, Nat.add_mul_mod_self_left]; exact m1⟩
theorem least {P : Nat → Prop} : ∀ n, P n → ∃ m, m ≤ n ∧ P m ∧ ∀ k, k < m → ¬ P k := by
  intro n
  induction n using Nat.strongRecOn with
  | _ n ih =>
    intro h
    by_cases c : ∃ k, k < n ∧ P k
    · obtain ⟨k, hk, pk⟩ := c
      obtain ⟨m, h1, h2, h3⟩ := ih k hk pk
      exact ⟨m, by omega, h2, h3⟩
    · exact ⟨n, Nat.le_refl _, h, fun k hk pk => c ⟨k, hk, pk⟩⟩
noncomputable def adv (m : Nat) (p : Probe) : Probe :=
  if p.more > 0 then { p with j := p.j + 1, more := p.more - 1 } else
  { p with j := (leap m p.i p.perturb).1, more := runEnd m (leap m p.i p.perturb).1 - (leap m p.i p.perturb).1, i := (leap m p.i p.perturb).1, perturb := (leap m p.i p.perturb).2 }
theorem adv_eq (t : SetTable) (p : Probe) : t.advance p = adv t.mask p := rfl
noncomputable def atP (m i b : Nat) : Probe := { j := i, more := runEnd m i - i, i, perturb := b, dummy := none }
theorem adv_dummy (m : Nat) (p : Probe) : (adv m p).dummy = p.dummy := by
  unfold adv
  split <;> rfl
theorem rep_dummy (m : Nat) : ∀ (n : Nat) (p : Probe), (rep (adv m) n p).dummy = p.dummy
  | 0, p => rfl
  | n + 1, p => by rw [show rep (adv m) (n + 1) p = rep (adv m) n (adv m p) from rfl, rep_dummy m n, adv_dummy]
theorem run_to (m : Nat) : ∀ (c : Nat) (p : Probe), c ≤ p.more → rep (adv m) c p = { p with j := p.j + c, more := p.more - c }
  | 0, p, _ => rfl
  | c + 1, p, h => by
    show rep (adv m) c (adv m p) = _
    have e : adv m p = { p with j := p.j + 1, more := p.more - 1 } := by unfold adv; rw [if_pos (by omega)]
    rw [e, run_to m c _ (by show c ≤ p.more - 1; omega)]
    show ({ p with j := p.j + 1 + c, more := p.more - 1 - c } : Probe) = _
    congr 1 <;> omega
theorem run_j {m i b k : Nat} (h : k ≤ runEnd m i - i) : (rep (adv m) k (atP m i b)).j = i + k := by
  rw [run_to m k _ h]
  rfl
theorem run_leap (m i b : Nat) : rep (adv m) (runEnd m i - i + 1) (atP m i b) = atP m (leap m i b).1 (leap m i b).2 := by
  rw [rep_succ, run_to m (runEnd m i - i) (atP m i b) (Nat.le_refl _)]
  unfold adv
  rw [if_neg (by show ¬ (runEnd m i - i) - (runEnd m i - i) > 0; omega)]
  rfl
theorem run_short (m i : Nat) : runEnd m i - i ≤ 9 := by
  unfold runEnd
  split <;> omega
theorem run_in {m i k : Nat} (hi : i ≤ m) (h : k ≤ runEnd m i - i) : i + k ≤ m := by
  unfold runEnd at h
  split at h <;> omega
noncomputable def leaps (m : Nat) : Nat → Nat → Nat → Nat × Nat
  | 0, i, b => (i, b)
  | r + 1, i, b => leaps m r (leap m i b).1 (leap m i b).2
theorem leaps_at (m : Nat) : ∀ (r i b : Nat), ∃ n, n ≤ 10 * r ∧ rep (adv m) n (atP m i b) = atP m (leaps m r i b).1 (leaps m r i b).2
  | 0, i, b => ⟨0, by omega, rfl⟩
  | r + 1, i, b => by
    obtain ⟨n, h1, h2⟩ := leaps_at m r (leap m i b).1 (leap m i b).2
    have := run_short m i
    exact ⟨runEnd m i - i + 1 + n, by omega, by rw [rep_add, run_leap, h2]; rfl⟩
theorem leaps_add (m : Nat) : ∀ (a c i b : Nat), leaps m (a + c) i b = leaps m c (leaps m a i b).1 (leaps m a i b).2
  | 0, c, i, b => by rw [Nat.zero_add]; rfl
  | a + 1, c, i, b => by
    rw [show a + 1 + c = (a + c) + 1 by omega]
    exact leaps_add m a c _ _
theorem leap_lt (m i b : Nat) : (leap m i b).1 ≤ m := Nat.le_of_lt_succ (Nat.mod_lt _ (Nat.succ_pos _))
theorem leaps_lt (m : Nat) : ∀ (r i b : Nat), i ≤ m → (leaps m r i b).1 ≤ m
  | 0, _, _, h => h
  | r + 1, i, b, _ => leaps_lt m r _ _ (leap_lt m i b)
theorem leaps_snd (m : Nat) : ∀ (r i b : Nat), (leaps m r i b).2 = b / 32 ^ r
  | 0, i, b => by rw [Nat.pow_zero, Nat.div_one]; rfl
  | r + 1, i, b => by
    show (leaps m r _ _).2 = _
    rw [leaps_snd m r]
    show b / 32 / 32 ^ r = _
    rw [Nat.div_div_eq_div_mul, Nat.pow_succ, Nat.mul_comm]
theorem leaps_zero (m : Nat) : ∀ (q i : Nat), i ≤ m → (leaps m q i 0).1 = rep stepN q i % (m + 1)
  | 0, i, h => (Nat.mod_eq_of_lt (Nat.lt_succ_of_le h)).symm
  | q + 1, i, h => by
    show (leaps m q (leap m i 0).1 (leap m i 0).2).1 = _
    have e2 : (leap m i 0).2 = 0 := rfl
    rw [e2, leaps_zero m q _ (leap_lt m i 0)]
    show rep stepN q _ % _ = rep stepN q (stepN i) % _
    have e1 : (leap m i 0).1 = stepN i % (m + 1) := by
      show (i * 5 + 1 + 0 / 32) % (m + 1) = _
      unfold stepN
      rw [Nat.zero_div, Nat.add_zero, Nat.mul_comm]
    rw [e1]
    have g : ∀ (q x y : Nat), x % (m + 1) = y % (m + 1) → rep stepN q x % (m + 1) = rep stepN q y % (m + 1) := by
      intro q
      induction q with
      | zero => exact fun x y e => e
      | succ q ih =>
        intro x y e
        refine ih _ _ ?_
        unfold stepN
        rw [Nat.add_mod, Nat.mul_mod, e, ← Nat.mul_mod, ← Nat.add_mod]
    exact g q _ _ (Nat.mod_mod _ _)
theorem cover {m k b i s : Nat} (hm : m + 1 = 2 ^ k) (hb : b < 2 ^ 64) (hi : i ≤ m) (hs : s ≤ m) : ∃ r, r ≤ m + 13 ∧ (leaps m r i b).1 = s := by
  obtain ⟨q, hq, e⟩ := orbit k (leaps m 13 i b).1 s
  refine ⟨13 + q, by omega, ?_⟩
  rw [leaps_add]
  have z : (leaps m 13 i b).2 = 0 := by
    rw [leaps_snd]
    exact Nat.div_eq_of_lt (Nat.lt_of_lt_of_le hb (by decide))
  rw [z, leaps_zero m q _ (leaps_lt m 13 i b hi), hm, e, ← hm, Nat.mod_eq_of_lt (by omega)]
theorem bits_lt (h : Int) : bits h < 2 ^ 64 := by
  unfold bits
  have h1 := Int.emod_lt_of_pos h (show (0 : Int) < 2 ^ 64 by decide)
  have h2 := Int.emod_nonneg h (show (2 : Int) ^ 64 ≠ 0 by decide)
  omega
theorem nd_len {α : Type} [DecidableEq α] : ∀ {a b : List α}, a.Nodup → (∀ x ∈ a, x ∈ b) → a.length ≤ b.length
  | [], b, _, _ => Nat.zero_le _
  | x :: r, b, nd, sub => by
    rw [List.nodup_cons] at nd
    have hx := sub x List.mem_cons_self
    have := nd_len (a := r) (b := b.erase x) nd.2 fun y hy => (List.mem_erase_of_ne (show y ≠ x from fun e => nd.1 (e ▸ hy))).mpr (sub y (List.mem_cons_of_mem _ hy))
    have hl := List.length_erase_of_mem hx
    have hp : 0 < b.length := List.length_pos_of_mem hx
    rw [List.length_cons]
    omega
theorem some_free {l : List Nat} {m : Nat} (h : l.length ≤ m) : ∃ s, s ≤ m ∧ s ∉ l := by
  refine Classical.byContradiction fun c => ?_
  have all : ∀ s ∈ List.range (m + 1), s ∈ l := fun s hs => Classical.byContradiction fun n => c ⟨s, by have := List.mem_range.mp hs; omega, n⟩
  have := nd_len List.nodup_range all
  rw [List.length_range] at this
  omega
noncomputable def way (m : Nat) (h : Int) (n : Nat) : Nat := (rep (adv m) n (atP m (bits h % (m + 1)) (bits h))).j
theorem way_lt (m : Nat) (h : Int) (n : Nat) : way m h n ≤ m := by
  have go : ∀ (n : Nat) (p : Probe), p.j + p.more ≤ m → (rep (adv m) n p).j ≤ m := by
    intro n
    induction n with
    | zero => exact fun p h => by show p.j ≤ m; omega
    | succ n ih =>
      intro p hp
      refine ih _ ?_
      unfold adv
      split
      · show p.j + 1 + (p.more - 1) ≤ m
        omega
      · show (leap m p.i p.perturb).1 + (runEnd m (leap m p.i p.perturb).1 - (leap m p.i p.perturb).1) ≤ m
        exact run_in (leap_lt m _ _) (Nat.le_refl _)
  exact go n _ (run_in (Nat.le_of_lt_succ (Nat.mod_lt _ (Nat.succ_pos _))) (Nat.le_refl _))
theorem first_free {m k : Nat} (hm : m + 1 = 2 ^ k) {l : List Nat} (hl : l.length ≤ m) (h : Int) : ∃ e, e ≤ 10 * (m + 13) ∧ way m h e ∉ l ∧ ∀ n, n < e → way m h n ∈ l := by
  obtain ⟨s, hs, ns⟩ := some_free hl
  obtain ⟨r, hr, e⟩ := cover (i := bits h % (m + 1)) hm (bits_lt h) (Nat.le_of_lt_succ (Nat.mod_lt _ (Nat.succ_pos _))) hs
  obtain ⟨n, hn, en⟩ := leaps_at m r (bits h % (m + 1)) (bits h)
  obtain ⟨e0, h1, h2, h3⟩ := least (P := fun n => way m h n ∉ l) n (by show (rep (adv m) n _).j ∉ l; rw [en]; show (leaps m r _ _).1 ∉ l; rw [e]; exact ns)
  exact ⟨e0, by omega, h2, fun n hn => Classical.byContradiction (h3 n hn)⟩
abbrev Rise (xs : Array Nat) : Prop := xs.toList.Pairwise (· < ·)
theorem rise_lt {xs : Array Nat} (h : Rise xs) {i k : Nat} (hik : i < k) (hk : k < xs.size) : xs.getD i 0 < xs.getD k 0 := by
  have := List.pairwise_iff_getElem.mp h i k (by simpa using (by omega : i < xs.size)) (by simpa using hk) hik
  have hi : i < xs.size := by omega
  simpa [Array.getD, hi, hk] using this
theorem below_go {xs : Array Nat} (mono : ∀ i k, i < k → k < xs.size → xs.getD i 0 < xs.getD k 0) (j : Nat) : ∀ (fuel lo hi : Nat), lo ≤ hi → hi ≤ xs.size → hi - lo ≤ fuel → (∀ i, i < lo → xs.getD i 0 < j) → (∀ i, hi ≤ i → i < xs.size → ¬ xs.getD i 0 < j) →
    below.go xs j fuel lo hi ≤ xs.size ∧ (∀ i, i < below.go xs j fuel lo hi → xs.getD i 0 < j) ∧ ∀ i, below.go xs j fuel lo hi ≤ i → i < xs.size → ¬ xs.getD i 0 < j := by
  intro fuel
  induction fuel with
  | zero =>
    intro lo hi h1 h2 h3 h4 h5
    unfold below.go
    exact ⟨by omega, h4, fun i hi' => h5 i (by omega)⟩
  | succ fuel ih =>
    intro lo hi h1 h2 h3 h4 h5
    unfold below.go
    by_cases c : lo < hi
    · rw [if_pos c]
      dsimp only
      have hm : (lo + hi) / 2 < xs.size := by omega
      rw [show xs.getD ((lo + hi) / 2) j = xs.getD ((lo + hi) / 2) 0 by simp [Array.getD, hm]]
      by_cases d : xs.getD ((lo + hi) / 2) 0 < j
      · rw [if_pos d]
        refine ih _ _ (by omega) h2 (by omega) (fun i hi' => ?_) h5
        rcases Nat.lt_or_ge i ((lo + hi) / 2) with q | q
        · exact Nat.lt_trans (mono i _ q (by omega)) d
        · rw [show i = (lo + hi) / 2 by omega]
          exact d
      · rw [if_neg d]
        refine ih _ _ (by omega) (by omega) (by omega) h4 (fun i hi' hs => ?_)
        rcases Nat.lt_or_ge ((lo + hi) / 2) i with q | q
        · have := mono _ i q hs
          omega
        · rw [show i = (lo + hi) / 2 by omega]
          exact d
    · rw [if_neg c]
      exact ⟨by omega, h4, fun i hi' => h5 i (by omega)⟩
theorem below_spec {xs : Array Nat} (h : Rise xs) (j : Nat) : below xs j ≤ xs.size ∧ (∀ i, i < below xs j → xs.getD i 0 < j) ∧ ∀ i, below xs j ≤ i → i < xs.size → ¬ xs.getD i 0 < j :=
  below_go (fun i k => rise_lt h) j _ _ _ (Nat.zero_le _) (Nat.le_refl _) (Nat.le_refl _) (fun i hi => absurd hi (Nat.not_lt_zero _)) fun i hi hs => absurd hs (by omega)
theorem getD_of {xs : Array Nat} {i j : Nat} (h : xs[i]? = some j) : xs.getD i 0 = j := by
  rw [Array.getD_eq_getD_getElem?, h]
  rfl
theorem size_of {xs : Array Nat} {i j : Nat} (h : xs[i]? = some j) : i < xs.size := (Array.getElem?_eq_some_iff.mp h).1
theorem below_at {xs : Array Nat} (h : Rise xs) {i j : Nat} (e : xs[i]? = some j) : below xs j = i := by
  obtain ⟨h1, h2, h3⟩ := below_spec h j
  have hs := size_of e
  have hd := getD_of e
  rcases Nat.lt_trichotomy (below xs j) i with q | q | q
  · have := rise_lt h q hs
    have := h3 _ (Nat.le_refl _) (by omega)
    omega
  · exact q
  · have := h2 i q
    omega
structure Plain (t : SetTable) : Prop where
  d0 : t.dummies = #[]
  rise : Rise t.place
theorem has_none (j : Nat) : has #[] j = false := by
  unfold has
  rfl
theorem slot_live {t : SetTable} (g : Plain t) {i j : Nat} (e : t.place[i]? = some j) : t.slot j = .live i := by
  unfold slot
  dsimp only
  rw [below_at g.rise e, if_pos (by rw [e]; exact beq_self_eq_true _)]
theorem slot_empty {t : SetTable} (g : Plain t) {j : Nat} (e : j ∉ t.place.toList) : t.slot j = .empty := by
  unfold slot
  dsimp only
  rw [if_neg (fun h => e ?_), g.d0, has_none]
  · rfl
  · have := eq_of_beq h
    exact List.mem_of_getElem? (by rw [Array.getElem?_toList]; exact this)
theorem mem_at {xs : Array Nat} {j : Nat} (h : j ∈ xs.toList) : ∃ i : Nat, xs[i]? = some j := by
  obtain ⟨i, hi⟩ := List.mem_iff_getElem?.mp h
  exact ⟨i, by rw [← Array.getElem?_toList]; exact hi⟩
theorem probe_go {t : SetTable} (g : Plain t) (hashAt : Nat → Int) (h : Int) (p : Probe) (hp : p.dummy = none) : ∀ (fuel e : Nat), e < fuel → (rep (adv t.mask) e p).j ∉ t.place.toList → (∀ n, n < e → (rep (adv t.mask) n p).j ∈ t.place.toList) →
    (probe.go t hashAt h fuel p = some (.empty (rep (adv t.mask) e p).j none) ∧ ∀ n i, n < e → t.place[i]? = some (rep (adv t.mask) n p).j → hashAt i ≠ h) ∨
    ∃ n i, n < e ∧ t.place[i]? = some (rep (adv t.mask) n p).j ∧ hashAt i = h ∧ probe.go t hashAt h fuel p = some (.candidate (rep (adv t.mask) n p).j i (rep (adv t.mask) (n + 1) p)) ∧ ∀ n' i', n' < n → t.place[i']? = some (rep (adv t.mask) n' p).j → hashAt i' ≠ h := by
  intro fuel
  induction fuel generalizing p with
  | zero => intro e he; exact absurd he (Nat.not_lt_zero _)
  | succ fuel ih =>
    intro e he free occ
    unfold probe.go
    cases e with
    | zero =>
      have hs : t.slot p.j = .empty := slot_empty g free
      rw [hs]
      refine .inl ⟨?_, fun n i hn => absurd hn (Nat.not_lt_zero _)⟩
      dsimp only
      rw [hp]
      rfl
    | succ e =>
      obtain ⟨i, hi⟩ := mem_at (occ 0 (Nat.succ_pos _))
      have hs : t.slot p.j = .live i := slot_live g hi
      rw [hs]
      dsimp only
      by_cases c : hashAt i = h
      · rw [if_pos (by rw [c]; exact beq_self_eq_true _)]
        exact .inr ⟨0, i, Nat.succ_pos _, hi, c, rfl, fun n' i' hn => absurd hn (Nat.not_lt_zero _)⟩
      · rw [if_neg (by rw [beq_iff_eq]; exact c), adv_eq]
        have one : ∀ {i' : Nat}, t.place[i']? = some p.j → i' = i := fun e' => by
          have a := below_at g.rise e'
          have b := below_at g.rise hi
          exact a.symm.trans b
        rcases ih (adv t.mask p) (by rw [adv_dummy]; exact hp) e (by omega) free (fun n hn => occ (n + 1) (by omega)) with ⟨q1, q2⟩ | ⟨n, i2, q1, q2, q3, q4, q5⟩
        · refine .inl ⟨q1, fun n i' hn hn' => ?_⟩
          cases n with
          | zero => rw [one hn']; exact c
          | succ n => exact q2 n i' (by omega) hn'
        · refine .inr ⟨n + 1, i2, by omega, q2, q3, q4, fun n' i' hn hn' => ?_⟩
          cases n' with
          | zero => rw [one hn']; exact c
          | succ n' => exact q5 n' i' (by omega) hn'
noncomputable def masks : List Nat := [7, 31, 127, 511, 2047, 8191]
theorem masks_pow {m : Nat} (h : m ∈ masks) : ∃ k, m + 1 = 2 ^ k := by
  unfold masks at h
  simp at h
  rcases h with rfl | rfl | rfl | rfl | rfl | rfl
  · exact ⟨3, rfl⟩
  · exact ⟨5, rfl⟩
  · exact ⟨7, rfl⟩
  · exact ⟨9, rfl⟩
  · exact ⟨11, rfl⟩
  · exact ⟨13, rfl⟩
theorem masks_le {m : Nat} (h : m ∈ masks) : 7 ≤ m ∧ m ≤ 8191 ∧ m % 2 = 1 := by
  unfold masks at h
  simp at h
  omega
structure Good (t : SetTable) (hs : List Int) : Prop extends Plain t where
  size : t.place.size = hs.length
  le : ∀ j ∈ t.place.toList, j ≤ t.mask
  msk : t.mask ∈ masks
  room : hs.length * 5 < t.mask * 3 + 5
  reach : ∀ (i j : Nat) (h : Int), t.place[i]? = some j → hs[i]? = some h → ∃ n, way t.mask h n = j ∧ ∀ n', n' < n → way t.mask h n' ∈ t.place.toList
theorem Good.len {t : SetTable} {hs : List Int} (g : Good t hs) : t.place.toList.length ≤ t.mask := by
  have := g.room
  have := masks_le g.msk
  rw [Array.length_toList, g.size]
  omega
theorem Good.fits {t : SetTable} {hs : List Int} (g : Good t hs) : t.fits hs.length = true := by
  have := g.len
  rw [Array.length_toList] at this
  unfold SetTable.fits SetTable.fill
  rw [g.size, g.d0]
  rw [g.size] at this
  simp
  exact this
theorem Good.gave {t : SetTable} {hs : List Int} (g : Good t hs) : t.gaveWay = false := by
  have := (masks_le g.msk).2.2
  unfold SetTable.gaveWay
  rw [this]
  rfl
theorem ins_at {α : Type} (l : List α) (p : Nat) (x : α) (hp : p ≤ l.length) (i : Nat) : (l.take p ++ x :: l.drop p)[i]? = if i < p then l[i]? else if i = p then some x else l[i - 1]? := by
  rw [List.getElem?_append, List.length_take, Nat.min_eq_left hp]
  by_cases c : i < p
  · rw [if_pos c, if_pos c, List.getElem?_take, if_pos c]
  · rw [if_neg c, if_neg c]
    by_cases d : i = p
    · rw [if_pos d, d, Nat.sub_self]
      rfl
    · rw [if_neg d, show i - p = (i - p - 1) + 1 by omega, List.getElem?_cons_succ, List.getElem?_drop]
      congr 1
      omega
theorem rise_ins {xs : Array Nat} (h : Rise xs) {j : Nat} (nj : j ∉ xs.toList) : (xs.toList.take (below xs j) ++ j :: xs.toList.drop (below xs j)).Pairwise (· < ·) := by
  obtain ⟨h1, h2, h3⟩ := below_spec h j
  have h' : (xs.toList.take (below xs j) ++ xs.toList.drop (below xs j)).Pairwise (· < ·) := by rw [List.take_append_drop]; exact h
  rw [List.pairwise_append] at h' ⊢
  have lo : ∀ a ∈ xs.toList.take (below xs j), a < j := fun a ha => by
    obtain ⟨i, hi⟩ := List.mem_iff_getElem?.mp ha
    rw [List.getElem?_take] at hi
    split at hi
    · rename_i c
      rw [Array.getElem?_toList] at hi
      have := h2 i c
      rwa [getD_of hi] at this
    · cases hi
  have hi' : ∀ b ∈ xs.toList.drop (below xs j), j < b := fun b hb => by
    obtain ⟨i, hi⟩ := List.mem_iff_getElem?.mp hb
    rw [List.getElem?_drop, Array.getElem?_toList] at hi
    have := h3 _ (by omega) (size_of hi)
    rw [getD_of hi] at this
    have : b ≠ j := fun e => nj (e ▸ List.mem_of_mem_drop hb)
    omega
  refine ⟨h'.1, List.pairwise_cons.mpr ⟨hi', h'.2.1⟩, fun a ha b hb => ?_⟩
  rcases List.mem_cons.mp hb with rfl | hb
  · exact lo a ha
  · exact h'.2.2 a ha b hb
theorem mem_ins {α : Type} {l : List α} {p : Nat} {x y : α} : y ∈ l.take p ++ x :: l.drop p ↔ y = x ∨ y ∈ l := by
  have : y ∈ l ↔ y ∈ l.take p ∨ y ∈ l.drop p := by rw [← List.mem_append, List.take_append_drop]
  rw [List.mem_append, List.mem_cons, this]
  constructor
  · rintro (h | h | h)
    · exact .inr (.inl h)
    · exact .inl h
    · exact .inr (.inr h)
  · rintro (h | h | h)
    · exact .inr (.inl h)
    · exact .inl h
    · exact .inr (.inr h)
theorem Good.put {t : SetTable} {hs : List Int} (g : Good t hs) (lt : hs.length * 5 < t.mask * 3) {h : Int} {e : Nat} (fr : way t.mask h e ∉ t.place.toList) (oc : ∀ n, n < e → way t.mask h n ∈ t.place.toList) :
    Good (t.put (way t.mask h e)).1 (hs.take (t.put (way t.mask h e)).2 ++ h :: hs.drop (t.put (way t.mask h e)).2) ∧ (t.put (way t.mask h e)).2 ≤ hs.length ∧ (t.put (way t.mask h e)).1.mask = t.mask := by
  obtain ⟨h1, h2, h3⟩ := below_spec g.rise (way t.mask h e)
  have hd : (t.put (way t.mask h e)).1.dummies = #[] := by
    show (if has t.dummies _ = true then _ else t.dummies) = #[]
    rw [g.d0, has_none]
    rfl
  have hp : (t.put (way t.mask h e)).1.place.toList = t.place.toList.take (below t.place (way t.mask h e)) ++ way t.mask h e :: t.place.toList.drop (below t.place (way t.mask h e)) := SetTable.toList_insertAt _ _ _
  have h2' : (t.put (way t.mask h e)).2 = below t.place (way t.mask h e) := rfl
  have h3' : (t.put (way t.mask h e)).1.mask = t.mask := rfl
  rw [h2', h3']
  generalize (t.put (way t.mask h e)).1 = t' at hd hp h3'
  have hm : ∀ {y : Nat}, y ∈ t'.place.toList ↔ y = way t.mask h e ∨ y ∈ t.place.toList := by rw [hp]; exact mem_ins
  refine ⟨⟨⟨hd, ?_⟩, ?_, ?_, by rw [h3']; exact g.msk, ?_, ?_⟩, by rw [← g.size]; exact h1, rfl⟩
  · show t'.place.toList.Pairwise _
    rw [hp]
    exact rise_ins g.rise fr
  · rw [← Array.length_toList, hp]
    simp [g.size]
  · intro j hj
    rw [h3']
    rcases hm.mp hj with rfl | hj
    · exact way_lt _ _ _
    · exact g.le j hj
  · rw [h3']
    simp
    omega
  · intro i j h0 ep eh
    rw [h3']
    rw [← Array.getElem?_toList, hp, ins_at _ _ _ (by simpa using h1)] at ep
    rw [ins_at _ _ _ (by rw [← g.size]; exact h1)] at eh
    by_cases c : i < below t.place (way t.mask h e)
    · rw [if_pos c] at ep eh
      rw [Array.getElem?_toList] at ep
      obtain ⟨n, a, b⟩ := g.reach i j h0 ep eh
      exact ⟨n, a, fun n' hn => hm.mpr (.inr (b n' hn))⟩
    · rw [if_neg c] at ep eh
      by_cases d : i = below t.place (way t.mask h e)
      · rw [if_pos d] at ep eh
        cases ep
        cases eh
        exact ⟨e, rfl, fun n' hn => hm.mpr (.inr (oc n' hn))⟩
      · rw [if_neg d] at ep eh
        rw [Array.getElem?_toList] at ep
        obtain ⟨n, a, b⟩ := g.reach _ j h0 ep eh
        exact ⟨n, a, fun n' hn => hm.mpr (.inr (b n' hn))⟩
theorem Good.fresh (a b : Nat) (led : Bool) : Good (SetTable.fresh a b led) [] := ⟨⟨rfl, .nil⟩, rfl, fun j hj => (nomatch hj), by show 7 ∈ masks; decide, by show 0 * 5 < 7 * 3 + 5; decide, fun i j h e => by simp [SetTable.fresh] at e⟩
theorem free_spec {m : Nat} {owner : Array (Option Nat)} {L : List Nat} (occ : ∀ j, j ≤ m → ((owner.getD j (some 0)).isNone = true ↔ j ∉ L)) : ∀ (fuel i b : Nat), i ≤ m → (∃ r, r < fuel ∧ (leaps m r i b).1 ∉ L) →
    ∃ e, layClean.free m owner fuel i b = some (rep (adv m) e (atP m i b)).j ∧ (rep (adv m) e (atP m i b)).j ∉ L ∧ ∀ n, n < e → (rep (adv m) n (atP m i b)).j ∈ L := by
  intro fuel
  induction fuel with
  | zero => rintro i b _ ⟨r, hr, _⟩; exact absurd hr (Nat.not_lt_zero _)
  | succ fuel ih =>
    rintro i b hi ⟨r, hr, nr⟩
    unfold layClean.free
    cases e : (List.range (runEnd m i + 1 - i)).find? fun k => (owner.getD (i + k) (some 0)).isNone with
    | some k =>
      rw [List.find?_range_eq_some] at e
      obtain ⟨e1, e2, e3⟩ := e
      have hk := List.mem_range.mp e2
      have rj : ∀ k', k' ≤ k → (rep (adv m) k' (atP m i b)).j = i + k' := fun k' h => run_j (by omega)
      refine ⟨k, by rw [rj k (Nat.le_refl _)], by rw [rj k (Nat.le_refl _)]; exact (occ _ (run_in hi (by omega))).mp e1, fun n hn => ?_⟩
      rw [rj n (by omega)]
      have := e3 n hn
      exact Classical.byContradiction fun c => by
        rw [(occ _ (run_in hi (by omega))).mpr c] at this
        exact absurd this (by decide)
    | none =>
      rw [List.find?_range_eq_none] at e
      have inL : ∀ k, k ≤ runEnd m i - i → i + k ∈ L := fun k hk => Classical.byContradiction fun c => by
        have := e k (by have := run_short m i; unfold runEnd at hk ⊢; split at hk <;> split <;> omega)
        rw [(occ _ (run_in hi hk)).mpr c] at this
        exact absurd this (by decide)
      dsimp only
      cases r with
      | zero => exact absurd (inL 0 (Nat.zero_le _)) nr
      | succ r =>
        obtain ⟨e', a1, a2, a3⟩ := ih (leap m i b).1 (leap m i b).2 (leap_lt m i b) ⟨r, by omega, nr⟩
        refine ⟨runEnd m i - i + 1 + e', ?_, ?_, fun n hn => ?_⟩
        · rw [rep_add, run_leap]
          exact a1
        · rw [rep_add, run_leap]
          exact a2
        · by_cases c : n ≤ runEnd m i - i
          · rw [run_j c]
            exact inL n c
          · have := a3 (n - (runEnd m i - i + 1)) (by omega)
            rw [← run_leap, ← rep_add] at this
            rwa [show runEnd m i - i + 1 + (n - (runEnd m i - i + 1)) = n by omega] at this
structure OwnL (m : Nat) (owner : Array (Option Nat)) (L : List Nat) (hs : List Int) : Prop where
  size : owner.size = m + 1
  own : ∀ j k : Nat, owner[j]? = some (some k) ↔ L[k]? = some j
  le : ∀ j ∈ L, j ≤ m
  len : L.length = hs.length
  reach : ∀ (k j : Nat) (h : Int), L[k]? = some j → hs[k]? = some h → ∃ n, way m h n = j ∧ ∀ n', n' < n → way m h n' ∈ L
theorem OwnL.occ {m : Nat} {owner : Array (Option Nat)} {L : List Nat} {hs : List Int} (o : OwnL m owner L hs) (j : Nat) (hj : j ≤ m) : (owner.getD j (some 0)).isNone = true ↔ j ∉ L := by
  have hs := o.size
  have hlt : j < owner.size := by omega
  have e : owner.getD j (some 0) = owner[j] := by simp [Array.getD, hlt]
  rw [e]
  constructor
  · intro h hm
    obtain ⟨k, hk⟩ := List.mem_iff_getElem?.mp hm
    have := (o.own j k).mpr hk
    rw [Array.getElem?_eq_getElem hlt] at this
    rw [Option.some.inj this] at h
    exact Bool.false_ne_true h
  · intro h
    cases c : owner[j] with
    | none => rfl
    | some k => exact absurd (List.mem_of_getElem? ((o.own j k).mp (by rw [Array.getElem?_eq_getElem hlt, c]))) h
theorem OwnL.step {m : Nat} {owner : Array (Option Nat)} {L : List Nat} {hs : List Int} (o : OwnL m owner L hs) (hm : ∃ k, m + 1 = 2 ^ k) (few : hs.length ≤ m) (h : Int) :
    ∃ j, layClean.free m owner (turns m) (bits h % (m + 1)) (bits h) = some j ∧ OwnL m (owner.setIfInBounds j (some hs.length)) (L ++ [j]) (hs ++ [h]) := by
  obtain ⟨kk, hk⟩ := hm
  obtain ⟨s, hs1, hs2⟩ := some_free (l := L) (m := m) (by rw [o.len]; exact few)
  obtain ⟨r, hr, er⟩ := cover (i := bits h % (m + 1)) hk (bits_lt h) (Nat.le_of_lt_succ (Nat.mod_lt _ (Nat.succ_pos _))) hs1
  obtain ⟨e, e1, e2, e3⟩ := free_spec (o.occ) (turns m) (bits h % (m + 1)) (bits h) (Nat.le_of_lt_succ (Nat.mod_lt _ (Nat.succ_pos _))) ⟨r, by unfold turns; omega, by rw [er]; exact hs2⟩
  refine ⟨_, e1, ?_⟩
  have jl : (rep (adv m) e (atP m (bits h % (m + 1)) (bits h))).j ≤ m := way_lt m h e
  have e3' : ∀ n, n < e → way m h n ∈ L := e3
  have ew : way m h e = (rep (adv m) e (atP m (bits h % (m + 1)) (bits h))).j := rfl
  generalize (rep (adv m) e (atP m (bits h % (m + 1)) (bits h))).j = j at e2 jl ew
  have hsz := o.size
  refine ⟨by rw [Array.size_setIfInBounds]; exact hsz, fun j' k => ?_, fun j' hj' => ?_, by rw [List.length_append, List.length_append, o.len]; rfl, fun k j' h' ek eh => ?_⟩
  · rw [Array.getElem?_setIfInBounds, ← o.len]
    by_cases c : j = j'
    · subst c
      rw [if_pos rfl, if_pos (by omega)]
      constructor
      · intro q
        cases q
        rw [List.getElem?_append_right (Nat.le_refl _), Nat.sub_self]
        rfl
      · intro q
        rw [List.getElem?_append] at q
        split at q
        · exact absurd (List.mem_of_getElem? q) e2
        · rename_i c2
          have := (List.getElem?_eq_some_iff.mp q).1
          rw [List.length_singleton] at this
          rw [show k = L.length by omega]
    · rw [if_neg c, o.own, List.getElem?_append]
      split
      · rfl
      · rename_i c2
        constructor
        · intro q
          exact absurd (List.getElem?_eq_some_iff.mp q).1 c2
        · intro q
          have hlen := (List.getElem?_eq_some_iff.mp q).1
          rw [List.length_singleton] at hlen
          rw [show k - L.length = 0 by omega] at q
          exact absurd (Option.some.inj q) c
  · rcases List.mem_append.mp hj' with q | q
    · exact o.le j' q
    · rw [List.mem_singleton.mp q]
      exact jl
  · have mem : ∀ {x : Nat}, x ∈ L → x ∈ L ++ [j] := fun q => List.mem_append.mpr (.inl q)
    rw [List.getElem?_append] at ek eh
    rw [o.len] at ek
    by_cases c : k < hs.length
    · rw [if_pos c] at ek eh
      obtain ⟨n, a, b⟩ := o.reach k j' h' ek eh
      exact ⟨n, a, fun n' hn => mem (b n' hn)⟩
    · rw [if_neg c] at ek eh
      have hlen := (List.getElem?_eq_some_iff.mp ek).1
      rw [List.length_singleton] at hlen
      rw [show k - hs.length = 0 by omega] at ek eh
      cases ek
      cases eh
      exact ⟨e, ew, fun n' hn => mem (e3' n' hn)⟩
theorem layClean_spec {m : Nat} (hm : ∃ k, m + 1 = 2 ^ k) (hs : List Int) (few : hs.length ≤ m) : ∃ owner L, layClean m hs.toArray = some owner ∧ OwnL m owner L hs := by
  have go : ∀ (rest pre : List Int) (owner : Array (Option Nat)) (L : List Nat), OwnL m owner L pre → (pre ++ rest).length ≤ m → ∃ owner' L', rest.foldl (fun acc h => (do
    let (owner, k) ← acc
    let j ← layClean.free m owner (turns m) (bits h % (m + 1)) (bits h)
    pure (owner.setIfInBounds j (some k), k + 1) : Option (Array (Option Nat) × Nat))) (some (owner, pre.length)) = some (owner', (pre ++ rest).length) ∧ OwnL m owner' L' (pre ++ rest) := by
    intro rest
    induction rest with
    | nil => intro pre owner L o _; exact ⟨owner, L, by rw [List.append_nil]; rfl, by rw [List.append_nil]; exact o⟩
    | cons h rest ih =>
      intro pre owner L o fw
      obtain ⟨j, e, o'⟩ := o.step hm (by rw [List.length_append] at fw; omega) h
      obtain ⟨owner', L', a, b⟩ := ih (pre ++ [h]) _ _ o' (by rw [List.append_assoc]; exact fw)
      refine ⟨owner', L', ?_, by rw [List.append_assoc] at b; exact b⟩
      rw [List.foldl_cons]
      rw [List.append_assoc, List.length_append (as := pre) (bs := [h])] at a
      rw [← show (pre ++ ([h] ++ rest)) = pre ++ h :: rest from rfl, ← a]
      congr 1
      show (layClean.free m owner (turns m) (bits h % (m + 1)) (bits h)).bind _ = _
      rw [e]
      rfl
  have o0 : OwnL m (Array.replicate (m + 1) none) [] [] := by
    refine ⟨Array.size_replicate, fun j k => ?_, fun j hj => (nomatch hj), rfl, fun k j h e => by simp at e⟩
    rw [Array.getElem?_replicate]
    constructor
    · intro q
      split at q <;> cases q
    · intro q
      simp at q
  obtain ⟨owner, L, a, b⟩ := go hs [] _ _ o0 few
  refine ⟨owner, L, ?_, b⟩
  unfold layClean
  rw [← Array.foldl_toList]
  show (List.foldl _ (some (Array.replicate (m + 1) none, ([] : List Int).length)) hs).map _ = _
  rw [a]
  rfl
theorem live_at {m : Nat} {owner : Array (Option Nat)} (hs : owner.size = m + 1) {j : Nat} {q : Nat × Nat} (hj : j ≤ m) : (owner.getD j none).map (j, ·) = some q ↔ q.1 = j ∧ owner[j]? = some (some q.2) := by
  have hlt : j < owner.size := by omega
  have e : owner.getD j none = owner[j] := by simp [Array.getD, hlt]
  rw [e, Array.getElem?_eq_getElem hlt]
  cases c : owner[j] with
  | none => simp
  | some k =>
    obtain ⟨a, b⟩ := q
    simp
    intro _
    constructor <;> exact fun h => h.symm
noncomputable def liveOf (m : Nat) (owner : Array (Option Nat)) : List (Nat × Nat) := (List.range (m + 1)).filterMap fun j => (owner.getD j none).map (j, ·)
theorem laid_spec {m f mv : Nat} {led pl : Bool} (hm : m ∈ masks) (hs : List Int) (few : hs.length * 5 < m * 3 + 5) : ∃ t order, laid m f mv led pl hs.toArray = some (t, order) ∧ t.mask = m ∧ t.led = led ∧ t.plain = pl ∧ order.toList.Perm (List.range hs.length) ∧ Good t (order.toList.map fun k => hs.getD k 0) := by
  have m7 := masks_le hm
  have le : hs.length ≤ m := by omega
  obtain ⟨owner, L, e, o⟩ := layClean_spec (masks_pow hm) hs le
  have mem : ∀ j k, (j, k) ∈ liveOf m owner ↔ L[k]? = some j := fun j k => by
    unfold liveOf
    rw [List.mem_filterMap]
    constructor
    · rintro ⟨a, ha, h⟩
      obtain ⟨h1, h2⟩ := (live_at o.size (by have := List.mem_range.mp ha; omega)).mp h
      dsimp only at h1 h2
      rw [h1]
      exact (o.own a k).mp h2
    · intro h
      have hj := o.le j (List.mem_of_getElem? h)
      exact ⟨j, List.mem_range.mpr (by omega), (live_at o.size hj).mpr ⟨rfl, (o.own j k).mpr h⟩⟩
  have pw : ((liveOf m owner).map (·.1)).Pairwise (· < ·) := by
    rw [List.pairwise_map]
    unfold liveOf
    rw [List.pairwise_filterMap]
    refine List.Pairwise.imp_of_mem (fun {a b} ha hb hab => ?_) List.pairwise_lt_range
    intro q hq q' hq'
    have h1 := ((live_at o.size (by have := List.mem_range.mp ha; omega)).mp hq).1
    have h2 := ((live_at o.size (by have := List.mem_range.mp hb; omega)).mp hq').1
    omega
  have inj : ∀ {q q' : Nat × Nat}, q ∈ liveOf m owner → q' ∈ liveOf m owner → q.1 = q'.1 → q.2 = q'.2 := fun {q q'} h1 h2 e => by
    obtain ⟨a, b⟩ := q
    obtain ⟨a', b'⟩ := q'
    dsimp only at e ⊢
    subst e
    have x := (o.own a b).mpr ((mem a b).mp h1)
    have y := (o.own a b').mpr ((mem a b').mp h2)
    rw [x] at y
    exact Option.some.inj (Option.some.inj y)
  have nd2 : ((liveOf m owner).map (·.2)).Nodup := by
    rw [List.Nodup, List.pairwise_map]
    have := List.pairwise_map.mp pw
    refine List.Pairwise.imp_of_mem (fun {a b} ha hb hab e => ?_) this
    have x := (mem a.1 a.2).mp ha
    have y := (mem b.1 b.2).mp hb
    rw [e, y] at x
    have := Option.some.inj x
    omega
  have perm : ((liveOf m owner).map (·.2)).Perm (List.range hs.length) := by
    have mm : ∀ k, k ∈ (liveOf m owner).map (·.2) ↔ k ∈ List.range hs.length := fun k => by
      rw [List.mem_map, List.mem_range, ← o.len]
      constructor
      · rintro ⟨q, hq, rfl⟩
        exact (List.getElem?_eq_some_iff.mp ((mem q.1 q.2).mp hq)).1
      · intro h
        exact ⟨(L[k], k), (mem _ _).mpr (List.getElem?_eq_getElem h), rfl⟩
    exact (List.perm_ext_iff_of_nodup nd2 List.nodup_range).mpr mm
  refine ⟨_, _, by unfold laid; rw [e]; rfl, rfl, rfl, rfl, perm, ?_⟩
  have len : (liveOf m owner).length = hs.length := by
    have := perm.length_eq
    rwa [List.length_map, List.length_range] at this
  have inP : ∀ {j : Nat}, j ∈ (liveOf m owner).map (·.1) ↔ j ∈ L := fun {j} => by
    rw [List.mem_map]
    constructor
    · rintro ⟨q, hq, rfl⟩
      exact List.mem_of_getElem? ((mem q.1 q.2).mp hq)
    · intro h
      obtain ⟨k, hk⟩ := List.mem_iff_getElem?.mp h
      exact ⟨(j, k), (mem j k).mpr hk, rfl⟩
  refine ⟨⟨rfl, pw⟩, ?_, fun j hj => o.le j (inP.mp hj), hm, ?_, fun i j h ep eh => ?_⟩
  · show ((liveOf m owner).map (·.1)).toArray.size = (((liveOf m owner).map (·.2)).map _).length
    simp
  · show (((liveOf m owner).map (·.2)).map _).length * 5 < m * 3 + 5
    rw [List.length_map, List.length_map, len]
    exact few
  · have ep' : ((liveOf m owner).map (·.1))[i]? = some j := by
      have h2 : (((liveOf m owner).map (·.1)).toArray)[i]? = some j := ep
      rwa [List.getElem?_toArray] at h2
    have eh' : (((liveOf m owner).map (·.2)).map fun k => hs.getD k 0)[i]? = some h := eh
    rw [List.getElem?_map] at ep' eh'
    rw [List.getElem?_map] at eh'
    cases c : (liveOf m owner)[i]? with
    | none => rw [c] at ep'; cases ep'
    | some q =>
      rw [c] at ep' eh'
      obtain ⟨a, b⟩ := q
      cases ep'
      have hq := (mem a b).mp (List.mem_of_getElem? c)
      have hb : b < hs.length := by rw [← o.len]; exact (List.getElem?_eq_some_iff.mp hq).1
      have eb : hs[b]? = some h := by
        have : hs.getD b 0 = h := Option.some.inj eh'
        rw [List.getD_eq_getElem?_getD, List.getElem?_eq_getElem hb] at this
        rw [List.getElem?_eq_getElem hb]
        exact congrArg some this
      obtain ⟨n, x, y⟩ := o.reach b a h hq eb
      exact ⟨n, x, fun n' hn => inP.mpr (y n' hn)⟩
theorem Good.relaid {t : SetTable} {hs : List Int} (g : Good t hs) (full : t.tooFull = true) (few : hs.length ≤ 4096) : ∃ t' order, t.relaid hs.toArray (SetTable.grown hs.length) = some (t', order) ∧ sizeAbove (SetTable.grown hs.length) ≤ 8192 ∧
    t'.led = t.led ∧ order.toList.Perm (List.range hs.length) ∧ Good t' (order.toList.map fun k => hs.getD k 0) ∧ hs.length * 5 < t'.mask * 3 := by
  have fl : hs.length * 5 ≥ t.mask * 3 := by
    unfold SetTable.tooFull SetTable.fill at full
    rw [g.size, g.d0] at full
    exact of_decide_eq_true full
  have rm := g.room
  have key : ∃ m', sizeAbove (SetTable.grown hs.length) - 1 = m' ∧ m' ∈ masks ∧ hs.length * 5 < m' * 3 ∧ sizeAbove (SetTable.grown hs.length) ≤ 8192 := by
    have hm := g.msk
    unfold masks at hm
    simp at hm
    rcases hm with h | h | h | h | h | h <;> rw [h] at fl rm
    · have e : hs.length = 5 := by omega
      rw [e]
      exact ⟨31, by decide, by decide, by decide, by decide⟩
    · have e : hs.length = 19 := by omega
      rw [e]
      exact ⟨127, by decide, by decide, by decide, by decide⟩
    · have e : hs.length = 77 := by omega
      rw [e]
      exact ⟨511, by decide, by decide, by decide, by decide⟩
    · have e : hs.length = 307 := by omega
      rw [e]
      exact ⟨2047, by decide, by decide, by decide, by decide⟩
    · have e : hs.length = 1229 := by omega
      rw [e]
      exact ⟨8191, by decide, by decide, by decide, by decide⟩
    · exfalso
      omega
  obtain ⟨m', e1, e2, e3, e4⟩ := key
  unfold SetTable.relaid
  rw [e1]
  obtain ⟨t', order, a, b, c, d, p, q⟩ := laid_spec (f := t.finger) (mv := t.movedTo m') (led := t.led) (pl := t.plain) e2 hs (by omega)
  exact ⟨t', order, a, e4, c, p, q, by rw [b]; exact e3⟩
theorem probe_way {t : SetTable} (g : Plain t) (hashAt : Nat → Int) (h : Int) {e m : Nat} (hm : m ≤ e) (he : e ≤ 10 * (t.mask + 13)) (fr : way t.mask h e ∉ t.place.toList) (oc : ∀ n, n < e → way t.mask h n ∈ t.place.toList) :
    (t.probe hashAt h (rep (adv t.mask) m (t.probeStart h)) = some (.empty (way t.mask h e) none) ∧ ∀ q i, m ≤ q → q < e → t.place[i]? = some (way t.mask h q) → hashAt i ≠ h) ∨
    ∃ q i, m ≤ q ∧ q < e ∧ t.place[i]? = some (way t.mask h q) ∧ hashAt i = h ∧ t.probe hashAt h (rep (adv t.mask) m (t.probeStart h)) = some (.candidate (way t.mask h q) i (rep (adv t.mask) (q + 1) (t.probeStart h))) ∧ ∀ q' i', m ≤ q' → q' < q → t.place[i']? = some (way t.mask h q') → hashAt i' ≠ h := by
  have wj : ∀ k, (rep (adv t.mask) k (rep (adv t.mask) m (t.probeStart h))).j = way t.mask h (m + k) := fun k => by
    rw [← rep_add]
    rfl
  rcases probe_go g hashAt h (rep (adv t.mask) m (t.probeStart h)) (by rw [rep_dummy]; rfl) (10 * turns t.mask) (e - m) (by unfold turns; omega) (by rw [wj, show m + (e - m) = e by omega]; exact fr) (fun n hn => by rw [wj]; exact oc _ (by omega)) with ⟨a, b⟩ | ⟨q, i, a, b, c, d, f⟩
  · refine .inl ⟨?_, fun q i h1 h2 h3 => b (q - m) i (by omega) ?_⟩
    · rw [wj, show m + (e - m) = e by omega] at a
      exact a
    · rw [wj, show m + (q - m) = q by omega]
      exact h3
  · rw [wj] at b
    rw [wj, ← rep_add] at d
    refine .inr ⟨m + q, i, by omega, by omega, b, c, ?_, fun q' i' h1 h2 h3 => f (q' - m) i' (by omega) ?_⟩
    · rw [show m + q + 1 = m + (q + 1) by omega]
      exact d
    · rw [wj, show m + (q' - m) = q' by omega]
      exact h3
end Tab

set_option Elab.async false
set_option linter.all false
set_option maxRecDepth 100000
set_option maxHeartbeats 4000000
namespace L2
open PySem PySem.Spec PyProof.Rows Tab
section
mutual
noncomputable def AtD (h : Heap) : DV → Value → Prop
  | .str z, v => ∃ t, v = .str z t
  | .tup ds, v => ∃ a its, v = .ref a ∧ h.IsTuple a its ∧ AtDs h ds its.toList
  | _, _ => False
noncomputable def AtDs (h : Heap) : List DV → List Value → Prop
  | [], vs => vs = []
  | d :: ds, vs => ∃ v r, vs = v :: r ∧ AtD h d v ∧ AtDs h ds r
end
noncomputable def Sub (h h' : Heap) : Prop := ∀ b o, h.get? b = some o → h'.get? b = some o
mutual
theorem AtD.mono {h h' : Heap} (s : Sub h h') : ∀ (d : DV) (v : Value), AtD h d v → AtD h' d v
  | .str _, _, q => by unfold AtD at q ⊢; exact q
  | .non, _, q => by unfold AtD at q; exact q.elim
  | .bl _, _, q => by unfold AtD at q; exact q.elim
  | .int _, _, q => by unfold AtD at q; exact q.elim
  | .tup ds, v, q => by
    unfold AtD at q ⊢
    obtain ⟨a, its, e, ⟨o, ho, r⟩, q2⟩ := q
    exact ⟨a, its, e, ⟨o, s _ _ ho, r⟩, AtDs.mono s ds _ q2⟩
theorem AtDs.mono {h h' : Heap} (s : Sub h h') : ∀ (ds : List DV) (vs : List Value), AtDs h ds vs → AtDs h' ds vs
  | [], _, q => by unfold AtDs at q ⊢; exact q
  | d :: ds, _, q => by
    unfold AtDs at q ⊢
    obtain ⟨v, r, e, q1, q2⟩ := q
    exact ⟨v, r, e, AtD.mono s d v q1, AtDs.mono s ds r q2⟩
end
theorem AtDs.length {h : Heap} : ∀ {ds : List DV} {vs : List Value}, AtDs h ds vs → vs.length = ds.length
  | [], _, q => by unfold AtDs at q; rw [q]; rfl
  | d :: ds, _, q => by
    unfold AtDs at q
    obtain ⟨v, r, rfl, _, q2⟩ := q
    rw [List.length_cons, List.length_cons, AtDs.length q2]
theorem AtDs.get {h : Heap} : ∀ {ds : List DV} {vs : List Value}, AtDs h ds vs → ∀ (i : Nat) (v : Value), vs[i]? = some v → ∃ d, ds[i]? = some d ∧ AtD h d v
  | [], _, q, i, v, e => by
    unfold AtDs at q
    rw [q] at e
    cases e
  | d :: ds, _, q, i, v, e => by
    unfold AtDs at q
    obtain ⟨v0, r, rfl, q1, q2⟩ := q
    cases i with
    | zero => cases e; exact ⟨d, rfl, q1⟩
    | succ i => exact AtDs.get q2 i v e
variable {prog : Program} {w : World} {A : Around} {E : Value → Shared → Prop} {s : Shared}
theorem hash_tup {a : Addr} {its : Array Value} {hs : List Int} {Q : Int → Shared → Prop} (it : s.heap.IsTuple a its) (hu : A.units < cLine) (lh : hs.length = its.size)
    (items : ∀ (i : Nat) (v : Value) (k : Int), its[i]? = some v → hs[i]? = some k → ∀ (t0 : Nat) (E' : Value → Shared → Prop) (Q' : Int → Shared → Prop), s.toks ≤ t0 → (∀ t, t0 ≤ t → Q' k { s with toks := t }) → wpAny (model prog w) A.in1 (pyHash v) Q' E' { s with toks := t0 })
    (fin : ∀ t, s.toks ≤ t → Q (reduceHash (Builtin.Tuple.tupleHashOf hs)) { s with toks := t }) : wpAny (model prog w) A (pyHash (.ref a)) Q E s := by
  obtain ⟨o, ho, hc, n, hd⟩ := it
  have hT : s.TypeIs (.ref a) "tuple" := ⟨o, ho, hc⟩
  unfold pyHash pyHashByItsType
  refine wpAny_bind (wpAny_cRoomFor_or (.inr hu) (wpAny_bind (wpAny_specialOf hT F.slot_tuple_hash.lookup ?_)))
  rw [if_neg (by rw [beq_builtin_none]; exact Bool.false_ne_true)]
  refine wpAny_bind (wpAny_specialOf hT F.slot_tuple_hash.lookup ?_)
  rw [if_neg (by decide)]
  refine wpAny_bind (wpAny_callSpecialIfBoundUnlessNone?_slot hT F.slot_tuple_hash (wpAny_call_entry F.slot_tuple_hash hT F.entry_tuple_hash ?_ (F.args_tuple_hash_1 _)))
  unfold Builtin.«tuple.__hash__»
  show wpAny _ _ (Builtin.Tuple.tupleItemsOf (.ref a) >>= _) _ _ s
  refine wpAny_bind (wpAny_tupleItemsOf ho hd (wpAny_bind ?_))
  rw [← Array.forIn_toList]
  refine wpAny_forIn_list _ (fun rest (b : Array Int) s' => ∃ i t, i ≤ its.size ∧ rest = its.toList.drop i ∧ b.toList = hs.take i ∧ s.toks ≤ t ∧ s' = { s with toks := t }) _ ?_ ?_ _ _ ⟨0, s.toks, Nat.zero_le _, rfl, rfl, Nat.le_refl _, rfl⟩
  · rintro x rest b s' ⟨i, t, hi, er, eb, tk, rfl⟩
    have hlt : i < its.size := by
      rcases Nat.lt_or_ge i its.size with h | h
      · exact h
      · rw [List.drop_of_length_le (by simpa using h)] at er
        cases er
    have ex : its[i]? = some x := by
      have := congrArg (·[0]?) er
      simp only [List.getElem?_cons_zero, List.getElem?_drop, Nat.add_zero, Array.getElem?_toList] at this
      exact this.symm
    have er' : rest = its.toList.drop (i + 1) := by
      have := congrArg List.tail er
      rw [List.tail_cons, List.tail_drop] at this
      exact this
    have eh : hs[i]? = some hs[i] := List.getElem?_eq_getElem (by omega)
    refine wpAny_bind (items i x _ ex eh _ _ _ tk fun t' tk' => ?_)
    refine wpAny_pure ⟨i + 1, t', by omega, er', ?_, Nat.le_trans tk tk', rfl⟩
    rw [Array.toList_push, eb, List.take_add_one, eh]
    rfl
  · rintro b s' ⟨i, t, hi, er, eb, tk, rfl⟩
    have hge : its.size ≤ i := by
      rcases Nat.lt_or_ge i its.size with h | h
      · have := congrArg List.length er
        simp at this
        omega
      · exact h
    rw [List.take_of_length_le (by omega)] at eb
    show wpAny _ _ (retInt (Builtin.Tuple.tupleHashOf b.toList)) _ _ _
    rw [eb]
    refine wpAny_ret_mkInt ?_
    dsimp only
    unfold pyHashByItsType.reduced
    unfold reduceHash at fin
    split
    · rename_i c
      rw [if_pos c] at fin
      exact wpAny_pure (fin _ (Nat.le_trans tk (Nat.le_succ _)))
    · rename_i c
      rw [if_neg c] at fin
      exact wpAny_bind (wpAny_rule (wpAny_pure (fin _ (Nat.le_trans tk (Nat.le_succ _)))))
mutual
noncomputable def hashD (prog : Program) (w : World) : DV → Int
  | .str z => (strKind prog w).hash z
  | .tup ds => reduceHash (Builtin.Tuple.tupleHashOf (hashDs prog w ds))
  | _ => 0
noncomputable def hashDs (prog : Program) (w : World) : List DV → List Int
  | [] => []
  | d :: ds => hashD prog w d :: hashDs prog w ds
end
theorem hashDs_len (prog : Program) (w : World) : ∀ ds : List DV, (hashDs prog w ds).length = ds.length
  | [] => by unfold hashDs; rfl
  | d :: ds => by unfold hashDs; rw [List.length_cons, List.length_cons, hashDs_len prog w ds]
mutual
theorem hash_at : ∀ (d : DV) (v : Value) (A : Around) (E : Value → Shared → Prop) (s : Shared) (Q : Int → Shared → Prop), AtD s.heap d v → A.units + d.deep < cLine → (∀ t, s.toks ≤ t → Q (hashD prog w d) { s with toks := t }) → wpAny (model prog w) A (pyHash v) Q E s
  | .str z, v, A, E, s, Q, q, _, fin => by
    unfold AtD at q
    obtain ⟨t, rfl⟩ := q
    refine (strKind prog w).pyHash (k := z) (strKind_is _ _ _ _) ?_
    have := fin (s.toks + 1) (Nat.le_succ _)
    unfold hashD at this
    exact this
  | .non, v, A, E, s, Q, q, _, fin => by unfold AtD at q; exact q.elim
  | .bl _, v, A, E, s, Q, q, _, fin => by unfold AtD at q; exact q.elim
  | .int _, v, A, E, s, Q, q, _, fin => by unfold AtD at q; exact q.elim
  | .tup ds, v, A, E, s, Q, q, hu, fin => by
    unfold AtD at q
    obtain ⟨a, its, rfl, it, q2⟩ := q
    unfold DV.deep at hu
    unfold hashD at fin
    refine hash_tup it (by omega) (by rw [hashDs_len, ← q2.length, Array.length_toList]) (fun i v k ei ek t0 E' Q' _ f => ?_) fin
    exact hash_ats ds its.toList A.in1 E' { s with toks := t0 } Q' q2 (by rw [Around.in1_units]; omega) i v k (by rw [Array.getElem?_toList]; exact ei) ek f
theorem hash_ats : ∀ (ds : List DV) (vs : List Value) (A : Around) (E : Value → Shared → Prop) (s : Shared) (Q : Int → Shared → Prop), AtDs s.heap ds vs → A.units + DV.deeps ds < cLine → ∀ (i : Nat) (v : Value) (k : Int), vs[i]? = some v → (hashDs prog w ds)[i]? = some k → (∀ t, s.toks ≤ t → Q k { s with toks := t }) → wpAny (model prog w) A (pyHash v) Q E s
  | [], vs, A, E, s, Q, q, hu, i, v, k, ei, ek, f => by
    unfold AtDs at q
    rw [q] at ei
    cases ei
  | d :: ds, vs, A, E, s, Q, q, hu, i, v, k, ei, ek, f => by
    unfold AtDs at q
    obtain ⟨v0, r, rfl, q1, q2⟩ := q
    unfold hashDs at ek
    unfold DV.deeps at hu
    cases i with
    | zero =>
      cases ei
      cases ek
      exact hash_at d v A E s Q q1 (Nat.lt_of_le_of_lt (Nat.add_le_add_left (Nat.le_max_left _ _) _) hu) f
    | succ i => exact hash_ats ds r A E s Q q2 (Nat.lt_of_le_of_lt (Nat.add_le_add_left (Nat.le_max_right _ _) _) hu) i v k ei ek f
end
mutual
theorem AtD.inj {h : Heap} : ∀ (d d' : DV) (v : Value), AtD h d v → AtD h d' v → d = d'
  | .str z, .str z', v, q, q' => by
    unfold AtD at q q'
    obtain ⟨t, rfl⟩ := q
    obtain ⟨t', e⟩ := q'
    cases e
    rfl
  | .str z, .tup ds', v, q, q' => by
    unfold AtD at q q'
    obtain ⟨t, rfl⟩ := q
    obtain ⟨a, its, e, _⟩ := q'
    cases e
  | .tup ds, .str z', v, q, q' => by
    unfold AtD at q q'
    obtain ⟨t, rfl⟩ := q'
    obtain ⟨a, its, e, _⟩ := q
    cases e
  | .tup ds, .tup ds', v, q, q' => by
    unfold AtD at q q'
    obtain ⟨a, its, rfl, ⟨o, ho, _, n, hd⟩, q⟩ := q
    obtain ⟨a', its', e, ⟨o', ho', _, n', hd'⟩, q'⟩ := q'
    cases e
    rw [ho] at ho'
    cases ho'
    rw [hd] at hd'
    cases hd'
    rw [AtDs.inj ds ds' _ q q']
  | .non, _, v, q, _ => by unfold AtD at q; exact q.elim
  | .bl _, _, v, q, _ => by unfold AtD at q; exact q.elim
  | .int _, _, v, q, _ => by unfold AtD at q; exact q.elim
  | .str _, .non, v, _, q => by unfold AtD at q; exact q.elim
  | .str _, .bl _, v, _, q => by unfold AtD at q; exact q.elim
  | .str _, .int _, v, _, q => by unfold AtD at q; exact q.elim
  | .tup _, .non, v, _, q => by unfold AtD at q; exact q.elim
  | .tup _, .bl _, v, _, q => by unfold AtD at q; exact q.elim
  | .tup _, .int _, v, _, q => by unfold AtD at q; exact q.elim
theorem AtDs.inj {h : Heap} : ∀ (ds ds' : List DV) (vs : List Value), AtDs h ds vs → AtDs h ds' vs → ds = ds'
  | [], [], _, _, _ => rfl
  | [], d :: ds', vs, q, q' => by
    unfold AtDs at q q'
    obtain ⟨v, r, e, _⟩ := q'
    rw [q] at e
    cases e
  | d :: ds, [], vs, q, q' => by
    unfold AtDs at q q'
    obtain ⟨v, r, e, _⟩ := q
    rw [q'] at e
    cases e
  | d :: ds, d' :: ds', vs, q, q' => by
    unfold AtDs at q q'
    obtain ⟨v, r, rfl, q1, q2⟩ := q
    obtain ⟨v', r', e, q1', q2'⟩ := q'
    cases e
    rw [AtD.inj d d' v q1 q1', AtDs.inj ds ds' r q2 q2']
end
noncomputable def Rk : Nat → DV → Prop
  | 0, d => ∃ z, d = .str z
  | n + 1, d => ∃ ds, d = .tup ds ∧ ∀ x ∈ ds, Rk n x
noncomputable instance decDV : DecidableEq DV := fun _ _ => Classical.propDecidable _
theorem AtDs.item {h : Heap} {ds : List DV} {its : Array Value} (q : AtDs h ds its.toList) {i : Nat} (hi : i < its.size) : ∃ d, ds[i]? = some d ∧ AtD h d its[i] :=
  q.get i its[i] (by rw [Array.getElem?_toList]; exact Array.getElem?_eq_getElem hi)
theorem all_same {α : Type} [DecidableEq α] : ∀ (a b : List α), ((List.range (min a.length b.length)).all (fun j => decide (a[j]? = b[j]?)) && a.length == b.length) = decide (a = b)
  | [], [] => by simp
  | [], _ :: _ => by simp
  | _ :: _, [] => by simp
  | x :: a, y :: b => by
    have ih := all_same a b
    rw [List.length_cons, List.length_cons, Nat.succ_min_succ, List.range_succ_eq_map, List.all_cons, List.all_map, Bool.and_assoc]
    have e : ((List.range (min a.length b.length)).all ((fun j => decide ((x :: a)[j]? = (y :: b)[j]?)) ∘ Nat.succ) && (a.length + 1 == b.length + 1)) = decide (a = b) := by
      rw [← ih]
      congr 1
      rw [Bool.eq_iff_iff]
      simp
    rw [e]
    simp
theorem eq_at : ∀ (n : Nat) (d d' : DV) (v v' : Value) (A : Around) (s : Shared), Rk n d → Rk n d' → AtD s.heap d v → AtD s.heap d' v' → A.units + n < cLine → SeqAt.EqAt A s v v' (decide (d = d')) := by
  intro n
  induction n with
  | zero =>
    rintro _ _ v v' A s ⟨z, rfl⟩ ⟨z', rfl⟩ q q' _ prog w E Q h
    unfold AtD at q q'
    obtain ⟨t, rfl⟩ := q
    obtain ⟨t', rfl⟩ := q'
    refine (strKind prog w).eqBool (a := z) (b := z') (strKind_is _ _ _ _) (strKind_is _ _ _ _) ?_
    have e : decide (z = z') = decide (DV.str z = DV.str z') := decide_eq_decide.mpr ⟨fun e => by rw [e], fun e => by cases e; rfl⟩
    rw [e]
    exact h
  | succ n ih =>
    rintro _ _ v v' A s ⟨ds, rfl, rk⟩ ⟨ds', rfl, rk'⟩ q q' hu
    have q0 := q
    have q0' := q'
    unfold AtD at q q'
    obtain ⟨a, its, rfl, it, qs⟩ := q
    obtain ⟨a', its', rfl, it', qs'⟩ := q'
    by_cases hne : a = a'
    · subst hne
      rw [decide_eq_true (AtD.inj _ _ _ q0 q0')]
      exact SeqAt.EqAt.same _
    refine SeqAt.EqAt.of_refs hne ?_
    have l1 : its.size = ds.length := by rw [← qs.length, Array.length_toList]
    have l2 : its'.size = ds'.length := by rw [← qs'.length, Array.length_toList]
    have hh := SeqAt.RcAt.tuples (A := A) (e := fun j => decide (ds[j]? = ds'[j]?)) it it' (by omega) fun j h1 h2 => by
      obtain ⟨d, ed, ad⟩ := qs.item h1
      obtain ⟨d', ed', ad'⟩ := qs'.item h2
      have := ih d d' its[j] its'[j] A.in1 s (rk d (List.mem_of_getElem? ed)) (rk' d' (List.mem_of_getElem? ed')) ad ad' (by rw [Around.in1_units]; omega)
      have e : decide (ds[j]? = ds'[j]?) = decide (d = d') := by
        rw [ed, ed']
        exact decide_eq_decide.mpr ⟨fun e => Option.some.inj e, fun e => by rw [e]⟩
      rw [e]
      exact this
    rw [l1, l2, all_same] at hh
    have e : decide (ds = ds') = decide (DV.tup ds = DV.tup ds') := decide_eq_decide.mpr ⟨fun e => by rw [e], fun e => by cases e; rfl⟩
    rw [e] at hh
    exact hh
theorem deep_rk : ∀ (n : Nat) (d : DV), Rk n d → d.deep ≤ n := by
  intro n
  induction n with
  | zero =>
    rintro _ ⟨z, rfl⟩
    unfold DV.deep
    exact Nat.le_refl _
  | succ n ih =>
    rintro _ ⟨ds, rfl, rk⟩
    unfold DV.deep
    refine Nat.succ_le_succ ?_
    induction ds with
    | nil => unfold DV.deeps; exact Nat.zero_le _
    | cons d r ihr =>
      unfold DV.deeps
      exact Nat.max_le.mpr ⟨ih d (rk d List.mem_cons_self), ihr fun x hx => rk x (List.mem_cons_of_mem _ hx)⟩
theorem quiet_at : ∀ (n m : Nat) (d : DV) (v : Value) (A : Around) (E : Value → Shared → Prop) (s : Shared) (Q : Bool → Shared → Prop), n ≤ m → Rk n d → AtD s.heap d v → Q true s → wpAny (model prog w) A (eqIsQuiet m v) Q E s := by
  intro n
  induction n with
  | zero =>
    rintro m _ v A E s Q hm ⟨z, rfl⟩ q h
    unfold AtD at q
    obtain ⟨t, rfl⟩ := q
    rw [eqIsQuiet_byValue m (v := .str z t) rfl]
    exact wpAny_pure h
  | succ n ih =>
    rintro m _ v A E s Q hm ⟨ds, rfl, rk⟩ q h
    unfold AtD at q
    obtain ⟨a, its, rfl, it, qs⟩ := q
    obtain ⟨o, ho, hc, k, hd⟩ := it
    have hT : s.TypeIs (.ref a) "tuple" := ⟨o, ho, hc⟩
    obtain ⟨m, rfl⟩ : ∃ m', m = m' + 1 := ⟨m - 1, by omega⟩
    unfold eqIsQuiet
    refine wpAny_bind (wpAny_specialOf hT F.slot_tuple_eq.lookup ?_)
    dsimp only
    refine wpAny_bind (wpAny_isInstance hT isSubtype_tuple_tuple ?_)
    rw [if_neg (by decide)]
    refine wpAny_bind (wpAny_seqItems ho hd (wpAny_bind ?_))
    show wpAny _ _ (forIn its _ _) _ _ s
    rw [← Array.forIn_toList]
    refine wpAny_forIn_list _ (fun rest r s' => r.1 = none ∧ s' = s ∧ ∀ v ∈ rest, v ∈ its.toList) _ ?_ ?_ _ _ ⟨rfl, rfl, fun v hv => hv⟩
    · rintro v rest r s' ⟨hr, rfl, hv⟩
      obtain ⟨i, hi⟩ := List.mem_iff_getElem?.mp (hv v List.mem_cons_self)
      obtain ⟨d, ed, ad⟩ := qs.get i v hi
      refine wpAny_bind (ih m d v _ _ _ _ (by omega) (rk d (List.mem_of_getElem? ed)) ad ?_)
      rw [if_neg (by decide)]
      exact wpAny_pure ⟨rfl, rfl, fun u hu => hv u (List.mem_cons_of_mem _ hu)⟩
    · rintro ⟨r1, r2⟩ s' ⟨hr, rfl, _⟩
      dsimp only at hr
      subst hr
      exact wpAny_pure h
theorem noclass_at : ∀ (n m : Nat) (d : DV) (v : Value) (A : Around) (E : Value → Shared → Prop) (s : Shared) (Q : Bool → Shared → Prop), n ≤ m → Rk n d → AtD s.heap d v → Q false s → wpAny (model prog w) A (ofAClassStatement m v) Q E s := by
  intro n
  induction n with
  | zero =>
    rintro m _ v A E s Q hm ⟨z, rfl⟩ q h
    unfold AtD at q
    obtain ⟨t, rfl⟩ := q
    unfold ofAClassStatement
    exact wpAny_pure h
  | succ n ih =>
    rintro m _ v A E s Q hm ⟨ds, rfl, rk⟩ q h
    unfold AtD at q
    obtain ⟨a, its, rfl, it, qs⟩ := q
    obtain ⟨o, ho, hc, k, hd⟩ := it
    have hT : s.TypeIs (.ref a) "tuple" := ⟨o, ho, hc⟩
    obtain ⟨m, rfl⟩ : ∃ m', m = m' + 1 := ⟨m - 1, by omega⟩
    unfold ofAClassStatement
    refine wpAny_bind (wpAny_typeOf hT ?_)
    dsimp only
    rw [if_pos (by decide)]
    refine wpAny_bind (wpAny_pure ?_)
    rw [if_neg (by decide)]
    refine wpAny_bind (wpAny_seqItems ho hd ?_)
    dsimp only
    refine wpAny_bind ?_
    rw [← Array.forIn_toList]
    refine wpAny_forIn_list _ (fun rest r s' => r.1 = none ∧ s' = s ∧ ∀ v ∈ rest, v ∈ its.toList) _ ?_ ?_ _ _ ⟨rfl, rfl, fun v hv => hv⟩
    · rintro v rest r s' ⟨hr, rfl, hv⟩
      obtain ⟨i, hi⟩ := List.mem_iff_getElem?.mp (hv v List.mem_cons_self)
      obtain ⟨d, ed, ad⟩ := qs.get i v hi
      refine wpAny_bind (ih m d v _ _ _ _ (by omega) (rk d (List.mem_of_getElem? ed)) ad ?_)
      rw [if_neg (by decide)]
      exact wpAny_pure ⟨rfl, rfl, fun u hu => hv u (List.mem_cons_of_mem _ hu)⟩
    · rintro ⟨r1, r2⟩ s' ⟨hr, rfl, _⟩
      dsimp only at hr
      subst hr
      exact wpAny_pure h
theorem byval_at : ∀ (n m : Nat) (d : DV) (v : Value) (A : Around) (E : Value → Shared → Prop) (s : Shared) (Q : Bool → Shared → Prop), n ≤ m → Rk n d → AtD s.heap d v → (∀ b, Q b s) → wpAny (model prog w) A (hashByValue m v) Q E s := by
  intro n
  induction n with
  | zero =>
    rintro m _ v A E s Q hm ⟨z, rfl⟩ q h
    unfold AtD at q
    obtain ⟨t, rfl⟩ := q
    unfold hashByValue
    exact wpAny_pure (h _)
  | succ n ih =>
    rintro m _ v A E s Q hm ⟨ds, rfl, rk⟩ q h
    unfold AtD at q
    obtain ⟨a, its, rfl, it, qs⟩ := q
    obtain ⟨o, ho, hc, k, hd⟩ := it
    have hT : s.TypeIs (.ref a) "tuple" := ⟨o, ho, hc⟩
    obtain ⟨m, rfl⟩ : ∃ m', m = m' + 1 := ⟨m - 1, by omega⟩
    unfold hashByValue
    refine wpAny_bind (wpAny_specialOf hT F.slot_tuple_hash.lookup ?_)
    dsimp only
    refine wpAny_bind (wpAny_seqItems ho hd (wpAny_bind ?_))
    show wpAny _ _ (forIn its _ _) _ _ s
    rw [← Array.forIn_toList]
    refine wpAny_forIn_list _ (fun rest r s' => r.1 = none ∧ s' = s ∧ ∀ v ∈ rest, v ∈ its.toList) _ ?_ ?_ _ _ ⟨rfl, rfl, fun v hv => hv⟩
    · rintro v rest r s' ⟨hr, rfl, hv⟩
      obtain ⟨i, hi⟩ := List.mem_iff_getElem?.mp (hv v List.mem_cons_self)
      obtain ⟨d, ed, ad⟩ := qs.get i v hi
      refine wpAny_bind (ih m d v _ _ _ _ (by omega) (rk d (List.mem_of_getElem? ed)) ad fun b => ?_)
      cases b with
      | true =>
        rw [if_neg (by decide)]
        exact wpAny_pure ⟨rfl, rfl, fun u hu => hv u (List.mem_cons_of_mem _ hu)⟩
      | false =>
        rw [if_pos (by decide)]
        refine wpAny_pure ?_
        exact wpAny_pure (h _)
    · rintro ⟨r1, r2⟩ s' ⟨hr, rfl, _⟩
      dsimp only at hr
      subst hr
      exact wpAny_pure (h _)
structure Els (prog : Program) (w : World) (n : Nat) (h0 : Heap) (es : Array (Int × Value)) (S : DV → Prop) : Prop where
  all : ∀ e ∈ es.toList, ∃ d, Rk n d ∧ AtD h0 d e.2 ∧ e.1 = hashD prog w d ∧ S d
  has : ∀ d, S d → ∃ e ∈ es.toList, AtD h0 d e.2
def HSet (prog : Program) (w : World) (n : Nat) (h0 h : Heap) (a : Addr) (S : DV → Prop) (k : Nat) : Prop :=
  ∃ o es ep t, h.get? a = some o ∧ o.ExactSet ∧ o.data = .set es ep t ∧ Good t (es.toList.map (·.1)) ∧ k * 5 < t.mask * 3 ∧ es.size = k ∧ Els prog w n h0 es S
theorem HSet.at {n : Nat} {h0 h h' : Heap} {a : Addr} {S : DV → Prop} {k : Nat} (x : HSet prog w n h0 h a S k) (e : ∀ o, h.get? a = some o → h'.get? a = some o) : HSet prog w n h0 h' a S k := by
  obtain ⟨o, es, ep, t, ho, r⟩ := x
  exact ⟨o, es, ep, t, e o ho, r⟩
theorem map_len (es : Array (Int × Value)) : (es.toList.map (·.1)).length = es.size := by rw [List.length_map, Array.length_toList]
theorem hash_idx (es : Array (Int × Value)) (i : Nat) : (es.toList.map (·.1))[i]? = es[i]?.map (·.1) := by rw [List.getElem?_map, Array.getElem?_toList]
theorem seen_no {n : Nat} (hn : n ≤ 8) {d : DV} {x : Value} (rk : Rk n d) (ax : AtD s.heap d x) : ∀ (stored : List Value), (∀ y ∈ stored, ∃ d', Rk n d' ∧ AtD s.heap d' y) → ∀ {Q : Bool → Shared → Prop}, Q false s → wpAny (model prog w) A (searchCouldBeSeen x stored) Q E s := by
  intro stored all Q h
  unfold searchCouldBeSeen
  refine wpAny_bind ?_
  refine wpAny_forIn_list _ (fun rest r s' => r.1 = none ∧ s' = s ∧ ∀ v ∈ rest, v ∈ stored) _ ?_ ?_ _ _ ⟨rfl, rfl, fun v hv => hv⟩
  · rintro v rest r s' ⟨hr, rfl, hv⟩
    obtain ⟨d', rk', ay⟩ := all v (hv v List.mem_cons_self)
    have nx : ∀ u ∈ rest, u ∈ stored := fun u hu => hv u (List.mem_cons_of_mem _ hu)
    dsimp only
    refine wpAny_ite_split (fun _ => ?_) (fun _ => ?_)
    · exact wpAny_pure ⟨rfl, rfl, nx⟩
    · refine wpAny_bind (quiet_at n 8 d x _ _ _ _ hn rk ax ?_)
      rw [if_neg (by decide)]
      refine wpAny_bind (quiet_at n 8 d' v _ _ _ _ hn rk' ay ?_)
      rw [if_neg (by decide)]
      refine wpAny_bind (noclass_at n 8 d x _ _ _ _ hn rk ax ?_)
      rw [if_neg (by decide)]
      refine wpAny_bind (noclass_at n 8 d' v _ _ _ _ hn rk' ay ?_)
      rw [if_neg (by decide)]
      exact wpAny_pure ⟨rfl, rfl, nx⟩
  · rintro ⟨r1, r2⟩ s' ⟨hr, rfl, _⟩
    dsimp only at hr
    subst hr
    exact wpAny_pure h
theorem same_ref {A : Around} {E : Value → Shared → Prop} {s : Shared} {b : Addr} {Q : Bool → Shared → Prop} (h : Q true s) : wpAny (model prog w) A (isSame (.ref b) (.ref b)) Q E s := by
  unfold isSame
  dsimp only
  rw [if_pos (beq_self_eq_true b)]
  exact wpAny_pure h
theorem ref_of {h : Heap} {n : Nat} {d : DV} {v : Value} (h1 : 1 ≤ n) (rk : Rk n d) (q : AtD h d v) : ∃ b, v = .ref b := by
  cases n with
  | zero => omega
  | succ n =>
    obtain ⟨ds, rfl, _⟩ := rk
    unfold AtD at q
    obtain ⟨a, its, e, _⟩ := q
    exact ⟨a, e⟩
theorem search_from {n : Nat} (h1 : 1 ≤ n) (h8 : n ≤ 8) {h0 : Heap} {a xa : Addr} {o : Obj} {es : Array (Int × Value)} {ep : Nat} {t : SetTable} {S : DV → Prop} {d : DV} {adding : Bool} {Q : SetFound → Shared → Prop} (hu : A.units + n < cLine)
    (ho : s.heap.get? a = some o) (hd : o.data = .set es ep t) (g : Good t (es.toList.map (·.1))) (els : Els prog w n h0 es S) (sub : Sub h0 s.heap) (rk : Rk n d) (ax : AtD s.heap d (.ref xa)) {e : Nat} (he : e ≤ 10 * (t.mask + 13)) (fr : way t.mask (hashD prog w d) e ∉ t.place.toList) (oc : ∀ k, k < e → way t.mask (hashD prog w d) k ∈ t.place.toList)
    (yes : S d → ∀ r, Q (.there r) s) (no : ¬ S d → Q (.free (way t.mask (hashD prog w d) e) false) s) : ∀ (fuel m : Nat) (stand : Option SetTable.Probe), m ≤ e → e - m < fuel → stand.getD (t.probeStart (hashD prog w d)) = rep (adv t.mask) m (t.probeStart (hashD prog w d)) →
      (∀ (q i : Nat) (en : Int × Value), q < m → t.place[i]? = some (way t.mask (hashD prog w d) q) → es[i]? = some en → ¬ AtD h0 d en.2) → wpAny (model prog w) A (setSearchFrom a (.ref xa) (hashD prog w d) adding fuel stand) Q E s := by
  have ft : t.fits es.size = true := by rw [← map_len]; exact g.fits
  intro fuel
  induction fuel with
  | zero => intro m stand _ h; exact absurd h (Nat.not_lt_zero _)
  | succ fuel ih =>
    intro m stand hm hf est vis
    unfold setSearchFrom
    refine wpAny_bind (wpAny_setState_of ho hd ft ?_)
    dsimp only
    rw [g.gave, if_neg (by decide), est]
    rcases probe_way g.toPlain (fun i => (es[i]?.map (·.1)).getD 0) (hashD prog w d) hm he fr oc with ⟨q1, q2⟩ | ⟨q, i, q1, q2, q3, q4, q5, q6⟩
    · erw [q1]
      dsimp only
      refine wpAny_pure (no fun sd => ?_)
      obtain ⟨en, hen, aen⟩ := els.has d sd
      obtain ⟨i, hi⟩ := List.mem_iff_getElem?.mp hen
      rw [Array.getElem?_toList] at hi
      have lt := (Array.getElem?_eq_some_iff.mp hi).1
      have hpl : i < t.place.size := by rw [g.size, map_len]; exact lt
      have epl : t.place[i]? = some t.place[i] := Array.getElem?_eq_getElem hpl
      obtain ⟨d', _, ad', eh, _⟩ := els.all en hen
      have ed := AtD.inj _ _ _ ad' aen
      subst ed
      obtain ⟨k, k1, k2⟩ := g.reach i _ en.1 epl (by rw [hash_idx, hi]; rfl)
      rw [eh] at k1 k2
      have kl : k < e := by
        rcases Nat.lt_trichotomy k e with c | c | c
        · exact c
        · rw [c] at k1
          exact absurd (List.mem_of_getElem? (by rw [Array.getElem?_toList]; exact epl)) (k1 ▸ fr)
        · exact absurd (k2 e c) fr
      rw [← k1] at epl
      by_cases c : m ≤ k
      · exact q2 k i c kl epl (by rw [hi]; exact eh)
      · exact vis k i en (by omega) epl hi ad'
    · erw [q5]
      dsimp only
      have hi : i < es.size := by
        have := (Array.getElem?_eq_some_iff.mp q3).1
        rw [g.size, map_len] at this
        exact this
      have ei : es[i]? = some es[i] := Array.getElem?_eq_getElem hi
      generalize es[i] = en at ei
      obtain ⟨hk, y⟩ := en
      have hen : (hk, y) ∈ es.toList := List.mem_of_getElem? (by rw [Array.getElem?_toList]; exact ei)
      obtain ⟨d', rk', ad', eh, sd'⟩ := els.all _ hen
      dsimp only at ad' eh
      obtain ⟨b, rfl⟩ := ref_of h1 rk' ad'
      have ad2 := AtD.mono sub _ _ ad'
      have sm : t.sameMemory t.moves t.mask = some true := by
        unfold SetTable.sameMemory
        rw [if_pos (beq_self_eq_true _)]
      refine wpAny_ite_split (fun _ => ?_) (fun _ => ?_)
      · refine wpAny_bind (seen_no h8 rk ax _ (fun y hy => ?_) ?_)
        · obtain ⟨z, hz, rfl⟩ := List.mem_map.mp hy
          obtain ⟨d2, rk2, ad2', _⟩ := els.all z (Array.mem_toList_iff.mpr (Array.mem_filter.mp (Array.mem_toList_iff.mp hz)).1)
          exact ⟨d2, rk2, AtD.mono sub _ _ ad2'⟩
        rw [if_neg (by decide)]
        rw [ei]
        dsimp only
        refine wpAny_bind (wpAny_holding (eq_at n d' d (.ref b) (.ref xa) A s rk' rk ad2 ax hu prog w _ _ (wpAny_bind (wpAny_setState_of ho hd ft ?_))))
        dsimp only
        by_cases c : d' = d
        · subst c
          rw [decide_eq_true rfl]
          refine wpAny_ite_split (fun _ => wpAny_pure (yes sd' _)) (fun _ => ?_)
          rw [sm]
          dsimp only
          rw [if_pos rfl, slot_live g.toPlain q3]
          dsimp only
          rw [ei]
          refine wpAny_bind (same_ref (wpAny_bind (wpAny_pure ?_)))
          exact wpAny_pure (yes sd' _)
        · rw [decide_eq_false c, Bool.and_false, if_neg (by decide), sm]
          dsimp only
          rw [if_pos rfl, slot_live g.toPlain q3]
          dsimp only
          rw [ei]
          refine wpAny_bind (same_ref (wpAny_bind (wpAny_pure ?_)))
          refine ih (q + 1) _ (by omega) (by omega) rfl fun q' i' en' hq' hp' he' => ?_
          by_cases z1 : q' < m
          · exact vis q' i' en' z1 hp' he'
          by_cases z2 : q' < q
          · intro had'
            have hn := q6 q' i' (by omega) z2 hp'
            rw [he'] at hn
            obtain ⟨d3, _, ad3, eh3, _⟩ := els.all en' (List.mem_of_getElem? (by rw [Array.getElem?_toList]; exact he'))
            rw [AtD.inj _ _ _ ad3 had'] at eh3
            exact hn eh3
          · have eq' : q' = q := by omega
            subst eq'
            have ii : i' = i := (below_at g.rise hp').symm.trans (below_at g.rise q3)
            subst ii
            rw [ei] at he'
            cases he'
            exact fun had' => c (AtD.inj _ _ _ ad' had')
      · rw [ei]
        dsimp only
        refine wpAny_bind (wpAny_holding (eq_at n d' d (.ref b) (.ref xa) A s rk' rk ad2 ax hu prog w _ _ (wpAny_bind (wpAny_setState_of ho hd ft ?_))))
        dsimp only
        by_cases c : d' = d
        · subst c
          rw [decide_eq_true rfl]
          refine wpAny_ite_split (fun _ => wpAny_pure (yes sd' _)) (fun _ => ?_)
          rw [sm]
          dsimp only
          rw [if_pos rfl, slot_live g.toPlain q3]
          dsimp only
          rw [ei]
          refine wpAny_bind (same_ref (wpAny_bind (wpAny_pure ?_)))
          exact wpAny_pure (yes sd' _)
        · rw [decide_eq_false c, Bool.and_false, if_neg (by decide), sm]
          dsimp only
          rw [if_pos rfl, slot_live g.toPlain q3]
          dsimp only
          rw [ei]
          refine wpAny_bind (same_ref (wpAny_bind (wpAny_pure ?_)))
          refine ih (q + 1) _ (by omega) (by omega) rfl fun q' i' en' hq' hp' he' => ?_
          by_cases z1 : q' < m
          · exact vis q' i' en' z1 hp' he'
          by_cases z2 : q' < q
          · intro had'
            have hn := q6 q' i' (by omega) z2 hp'
            rw [he'] at hn
            obtain ⟨d3, _, ad3, eh3, _⟩ := els.all en' (List.mem_of_getElem? (by rw [Array.getElem?_toList]; exact he'))
            rw [AtD.inj _ _ _ ad3 had'] at eh3
            exact hn eh3
          · have eq' : q' = q := by omega
            subst eq'
            have ii : i' = i := (below_at g.rise hp').symm.trans (below_at g.rise q3)
            subst ii
            rw [ei] at he'
            cases he'
            exact fun had' => c (AtD.inj _ _ _ ad' had')
theorem Good.dull {t : SetTable} {hs : List Int} (g : Good t hs) : Good { t with plain := false } hs := ⟨⟨g.d0, g.rise⟩, g.size, g.le, g.msk, g.room, g.reach⟩
theorem picked (es : Array (Int × Value)) : ∀ l : List Nat, (∀ k ∈ l, k < es.size) → (l.filterMap (es[·]?)).map (·.1) = l.map fun k => (es.toList.map (·.1)).getD k 0
  | [], _ => rfl
  | k :: l, h => by
    have hk := h k List.mem_cons_self
    rw [List.filterMap_cons_some (Array.getElem?_eq_getElem hk), List.map_cons, List.map_cons, picked es l fun x hx => h x (List.mem_cons_of_mem _ hx)]
    congr 1
    rw [List.getD_eq_getElem?_getD, hash_idx, Array.getElem?_eq_getElem hk]
    rfl
theorem els_perm {n : Nat} {h0 : Heap} {es es' : Array (Int × Value)} {S : DV → Prop} (x : Els prog w n h0 es S) (p : es'.toList.Perm es.toList) : Els prog w n h0 es' S :=
  ⟨fun e he => x.all e (p.mem_iff.mp he), fun d hd => by
    obtain ⟨e, he, q⟩ := x.has d hd
    exact ⟨e, p.mem_iff.mpr he, q⟩⟩
theorem add_hashed {n : Nat} (h1 : 1 ≤ n) (h8 : n ≤ 8) {h0 : Heap} {a xa : Addr} {S : DV → Prop} {k : Nat} {d : DV} {Q : Bool → Shared → Prop} (hu : A.units + n < cLine) (hS : HSet prog w n h0 s.heap a S k) (few : k + 1 ≤ 4096) (sub : Sub h0 s.heap) (rk : Rk n d) (ax : AtD h0 d (.ref xa))
    (yes : S d → ∀ b, Q b s) (fin : ¬ S d → ∀ h', Heap.SameBut a s.heap h' → HSet prog w n h0 h' a (fun d' => S d' ∨ d' = d) (k + 1) → ∀ b, Q b { s with heap := h' }) : wpAny (model prog w) A (setAddHashed a (.ref xa) (hashD prog w d)) Q E s := by
  obtain ⟨o, es, ep, t, ho, hex, hd, g, room, ek, els⟩ := hS
  have ft : t.fits es.size = true := by rw [← map_len]; exact g.fits
  obtain ⟨m2, hm2⟩ := masks_pow g.msk
  obtain ⟨e, he, fr, oc⟩ := first_free hm2 g.len (hashD prog w d)
  have mm := masks_le g.msk
  unfold setAddHashed setAddHashedIn
  refine wpAny_holding (wpAny_bind (wpAny_setState_of ho hd ft ?_))
  dsimp only
  have nb : byScan (.ref xa) es = false := by unfold byScan; rfl
  rw [nb, if_neg (by decide)]
  refine wpAny_bind ?_
  unfold setSearch
  refine search_from h1 h8 hu ho hd g els sub rk (AtD.mono sub _ _ ax) he fr oc (fun sd r => ?_) (fun nsd => ?_) 100000 0 none (Nat.zero_le _) (by omega) rfl (fun q i en hq => absurd hq (Nat.not_lt_zero _))
  · exact wpAny_pure (yes sd _)
  dsimp only
  refine wpAny_bind (wpAny_setState_of ho hd ft ?_)
  dsimp only
  obtain ⟨g1, p1, p2⟩ := g.put (by rw [map_len, ek]; exact room) fr oc
  generalize t.put (way t.mask (hashD prog w d) e) = tp at g1 p1 p2 ⊢
  obtain ⟨t1, p⟩ := tp
  dsimp only at g1 p1 p2 ⊢
  have el1 : (SetTable.insertAt es p (hashD prog w d, .ref xa)).toList = es.toList.take p ++ (hashD prog w d, .ref xa) :: es.toList.drop p := SetTable.toList_insertAt _ _ _
  have hm1 : (SetTable.insertAt es p (hashD prog w d, .ref xa)).toList.map (·.1) = (es.toList.map (·.1)).take p ++ hashD prog w d :: (es.toList.map (·.1)).drop p := by
    rw [el1, List.map_append, List.map_cons, List.map_take, List.map_drop]
  have els1 : Els prog w n h0 (SetTable.insertAt es p (hashD prog w d, .ref xa)) (fun d' => S d' ∨ d' = d) := by
    refine ⟨fun en hen => ?_, fun d' hd' => ?_⟩
    · rw [el1] at hen
      rcases mem_ins.mp hen with rfl | hen
      · exact ⟨d, rk, ax, rfl, .inr rfl⟩
      · obtain ⟨d2, a1, a2, a3, a4⟩ := els.all en hen
        exact ⟨d2, a1, a2, a3, .inl a4⟩
    · rw [el1]
      rcases hd' with hd' | rfl
      · obtain ⟨en, h1, h2⟩ := els.has d' hd'
        exact ⟨en, mem_ins.mpr (.inr h1), h2⟩
      · exact ⟨_, mem_ins.mpr (.inl rfl), ax⟩
  have sz1 : (SetTable.insertAt es p (hashD prog w d, .ref xa)).size = k + 1 := by
    have := congrArg List.length el1
    rw [Array.length_toList, List.length_append, List.length_cons, List.length_take, List.length_drop, Array.length_toList] at this
    rw [map_len] at p1
    omega
  generalize SetTable.insertAt es p (hashD prog w d, .ref xa) = es1 at el1 hm1 els1 sz1 ⊢
  rw [← hm1] at g1
  clear hm1 el1 p1
  -- the row stored, and laid anew where it is too full
  have rest : ∀ t2 : SetTable, Good t2 (es1.toList.map (·.1)) → t2.mask = t.mask → wpAny (model prog w) A (do
      storeSet a es1 t2
      if (!false && t2.tooFull) = true then do
        setRelay a (SetTable.grown (es.size + 1))
        pure true
      else pure true) Q E s := fun t2 g2 m2' => by
    refine wpAny_bind (wpAny_storeSet_of ho hd ?_ (by rw [sz1]; show k + 1 ≤ 2 ^ 24; omega))
    have ho1 : (s.heap.update a (Obj.putSet es1 t2)).get? a = some { o with data := .set es1 (ep + 1) t2 } := by
      have := Heap.get?_update_self (Obj.putSet es1 t2) ho (by rw [putSet_of es1 t2 hd]; rfl)
      rw [putSet_of es1 t2 hd] at this
      exact this
    have sb1 := Heap.SameBut.update s.heap a (Obj.putSet es1 t2)
    have ft1 : t2.fits es1.size = true := by rw [← map_len]; exact g2.fits
    by_cases full : t2.tooFull = true
    · rw [full]
      refine wpAny_ite_split (fun _ => ?_) (fun c => absurd rfl c)
      unfold setRelay
      refine wpAny_bind (wpAny_bind (wpAny_setState_of ho1 rfl ft1 ?_))
      dsimp only
      obtain ⟨t3, order, r1, r2, r3, r4, r5, r6⟩ := g2.relaid full (by rw [map_len, sz1]; exact few)
      rw [map_len, sz1, ← ek] at r1
      rw [map_len, sz1, ← ek] at r2
      rw [if_neg (by rw [sizeLine_eq]; omega)]
      have ea : es1.map (·.1) = (es1.toList.map (·.1)).toArray := by cases es1; simp
      rw [ea, r1]
      have pm : (order.filterMap (es1[·]?)).toList.Perm es1.toList := by
        rw [Array.toList_filterMap]
        rw [map_len] at r4
        exact (r4.filterMap _).trans (by rw [filterMap_getElem?_range])
      have s2 : (order.filterMap (es1[·]?)).size = es1.size := by rw [← Array.length_toList, pm.length_eq, Array.length_toList]
      have h2 : (order.filterMap (es1[·]?)).toList.map (·.1) = order.toList.map fun j => (es1.toList.map (·.1)).getD j 0 := by
        rw [Array.toList_filterMap]
        refine picked es1 _ fun j hj => ?_
        have := List.mem_range.mp (r4.mem_iff.mp hj)
        rwa [map_len] at this
      rw [← h2] at r5
      refine wpAny_bind ?_
      refine wpAny_ite_split (fun c => absurd s2 (by simpa using c)) (fun _ => wpAny_pure ?_)
      dsimp only
      refine wpAny_storeSet_of ho1 rfl ?_ (by rw [s2, sz1]; show k + 1 ≤ 2 ^ 24; omega)
      have ho2 : ((s.heap.update a (Obj.putSet es1 t2)).update a (Obj.putSet (order.filterMap (es1[·]?)) t3)).get? a = some { o with data := .set (order.filterMap (es1[·]?)) (ep + 1 + 1) t3 } := by
        have hd1 : ({ o with data := .set es1 (ep + 1) t2 } : Obj).data = .set es1 (ep + 1) t2 := rfl
        have := Heap.get?_update_self (Obj.putSet (order.filterMap (es1[·]?)) t3) ho1 (by rw [putSet_of _ t3 hd1]; rfl)
        rw [putSet_of _ t3 hd1] at this
        exact this
      refine wpAny_pure (fin nsd _ (sb1.trans (Heap.SameBut.update _ a _)) ⟨_, _, _, _, ho2, hex, rfl, r5, by rw [← sz1, ← map_len]; exact r6, by rw [s2, sz1], els_perm els1 pm⟩ _)
    · have nf : t2.tooFull = false := by simpa using full
      rw [nf]
      refine wpAny_ite_split (fun c => absurd c (by decide)) (fun _ => wpAny_pure ?_)
      refine fin nsd _ sb1 ⟨_, _, _, _, ho1, hex, rfl, g2, ?_, sz1, els1⟩ _
      unfold SetTable.tooFull SetTable.fill at nf
      rw [g2.size, g2.d0, map_len, sz1] at nf
      have := of_decide_eq_false nf
      simp at this
      omega
  refine wpAny_ite_split (fun _ => ?_) (fun _ => ?_)
  · refine wpAny_bind (byval_at n 8 d (.ref xa) _ _ _ _ h8 rk (AtD.mono sub _ _ ax) fun b => ?_)
    cases b with
    | false => exact rest _ (Good.dull g1) p2
    | true => exact rest _ g1 p2
  · refine wpAny_bind (wpAny_pure ?_)
    exact rest _ g1 p2
section
variable {I : Addr} {fp wr : List Addr} {G : Array GenState → Array GenState → Prop} {n : Nat} {P : Nat → Value → Prop} {St : Nat → Shared → Prop}
abbrev HTo (prog : Program) (w : World) (r : Nat) (h0 h : Heap) (a : Addr) (ks : List DV) : Prop := HSet prog w r h0 h a (· ∈ ks) (metL ks).length
theorem hset_fill {R : Result → Shared → Prop} (W : WalksS prog w A.in1 I fp wr G n P St) {a : Addr} (out : a ∉ fp) {r : Nat} (h1 : 1 ≤ r) (h8 : r ≤ 8) (hu : A.units + 1 + r < cLine) {h0 : Heap} (na : h0.get? a = none) {ks : List DV} (lk : ks.length = n)
    (vals : ∀ i v, P i v → ∃ d, ks[i]? = some d ∧ Rk r d ∧ AtD h0 d v) (few : n ≤ 4096) (fpn : ∀ b ∈ wr, h0.get? b = none) :
    ∀ (todo i : Nat) (s : Shared), i + todo = n → St i s → Sub h0 s.heap → HTo prog w r h0 s.heap a (ks.take i) →
      (∀ s', Moved (a :: wr) G s s' → HTo prog w r h0 s'.heap a ks → R (.ok (.ret .none)) s') → codeAny (model prog w) A (.builtin "set.update.loop" ⟨[.ref a, .ref I], []⟩) R s
  | 0, i, s, ei, st, sb, sx, fin => by
    have e : ks.take i = ks := List.take_of_length_le (by omega)
    rw [e] at sx
    have ei' : i = n := by omega
    subst ei'
    refine codeAny_builtin F.entry_set_update_loop ?_
    rw [Around.under_plainId F.plain_set_update_loop _]
    exact wpAny_bind (W.done s _ _ st fun s' mv => wpAny_pure (fin s' (mv.mono fun b hb => .tail _ hb) (HSet.at sx fun o => mv.heap a o fun q => out (W.sub _ q))))
  | todo + 1, i, s, ei, st, sb, sx, fin => by
    refine codeAny_builtin F.entry_set_update_loop ?_
    rw [Around.under_plainId F.plain_set_update_loop _]
    refine wpAny_bind (W.item i s _ _ (by omega) st fun v s1 hv st1 mv => ?_)
    obtain ⟨d, ek, rk, ad⟩ := vals i v hv
    obtain ⟨b, rfl⟩ := ref_of h1 rk ad
    have sx1 := HSet.at (h' := s1.heap) sx fun o => mv.heap a o fun q => out (W.sub _ q)
    have sb1 : Sub h0 s1.heap := fun b o e => mv.heap b o (fun q => by rw [fpn b q] at e; cases e) (sb b o e)
    refine wpAny_bind (wpAny_holding (m := setAdd a (.ref b)) ?_)
    unfold setAdd
    have lm := len_metL (ks.take i)
    rw [List.length_take] at lm
    have dr := deep_rk r d rk
    refine wpAny_holding (wpAny_bind (hash_at d (.ref b) _ _ s1 _ (AtD.mono sb1 _ _ ad) (by rw [Around.in1_units]; omega) fun tk tkl => ?_))
    have metE : metL (ks.take (i + 1)) = if d ∈ metL (ks.take i) then metL (ks.take i) else metL (ks.take i) ++ [d] := metL_take ek
    have memE : ∀ x, x ∈ ks.take (i + 1) ↔ x ∈ ks.take i ∨ x = d := fun x => by
      rw [List.take_add_one, ek, List.mem_append]
      simp
    refine add_hashed (s := { s1 with toks := tk }) h1 h8 (by rw [Around.in1_units]; omega) sx1 (by omega) sb1 rk ad (fun hin b => ?_) (fun hout h2 sbb sx2 b => ?_)
    · refine wpAny_pure ⟨plainId_quiet F.plain_set_update_loop _, hset_fill W out h1 h8 hu na lk vals few fpn todo (i + 1) _ (by omega) (W.frame _ s1 _ _ st1 tkl fun b hb o q => q) sb1 ?_ fun s3 mv3 sx4 => ?_⟩
      · have hin' : d ∈ metL (ks.take i) := mem_metL.mpr hin
        rw [if_pos hin'] at metE
        show HSet prog w r h0 s1.heap a _ (metL (ks.take (i + 1))).length
        rw [metE]
        obtain ⟨o, es, ep, t, x1, x2, x3, x4, x5, x6, x7⟩ := sx1
        refine ⟨o, es, ep, t, x1, x2, x3, x4, x5, x6, fun e he => ?_, fun d' hd' => x7.has d' ?_⟩
        · obtain ⟨d2, y1, y2, y3, y4⟩ := x7.all e he
          exact ⟨d2, y1, y2, y3, (memE d2).mpr (.inl y4)⟩
        · exact ((memE d').mp hd').elim id fun z => z ▸ hin
      · exact fin s3 (.trans W.gtrans ((mv.mono fun b hb => .tail _ hb).then_heap tkl fun b o hb q => q) mv3) sx4
    · have far : ∀ b, b ≠ a → h2.get? b = s1.heap.get? b := fun b hb => sbb.2 b hb
      have sb2 : Sub h0 h2 := fun b o e => by
        rw [far b fun z => by rw [z, na] at e; cases e]
        exact sb1 b o e
      refine wpAny_pure ⟨plainId_quiet F.plain_set_update_loop _, hset_fill W out h1 h8 hu na lk vals few fpn todo (i + 1) _ (by omega) (W.frame _ s1 _ _ st1 tkl fun b hb o q => ?_) sb2 ?_ fun s3 mv3 sx4 => ?_⟩
      · rw [far b fun z => out (z ▸ hb)]
        exact q
      · have hout' : d ∉ metL (ks.take i) := fun z => hout (mem_metL.mp z)
        rw [if_neg hout'] at metE
        show HSet prog w r h0 h2 a _ (metL (ks.take (i + 1))).length
        rw [metE, List.length_append]
        obtain ⟨o, es, ep, t, x1, x2, x3, x4, x5, x6, x7⟩ := sx2
        refine ⟨o, es, ep, t, x1, x2, x3, x4, x5, x6, fun e he => ?_, fun d' hd' => x7.has d' ((memE d').mp hd')⟩
        obtain ⟨d2, y1, y2, y3, y4⟩ := x7.all e he
        exact ⟨d2, y1, y2, y3, (memE d2).mpr y4⟩
      · refine fin s3 (.trans W.gtrans ((mv.mono fun b hb => .tail _ hb).then_heap tkl fun b o hb q => ?_) mv3) sx4
        rw [far b fun z => hb (z ▸ .head _)]
        exact q
end
end
end L2

set_option Elab.async false
set_option linter.all false
set_option maxRecDepth 100000
set_option maxHeartbeats 4000000
namespace L2
open PySem PySem.Spec PyProof.Rows Tab
section
variable {prog : Program} {w : World} {A : Around} {E : Value → Shared → Prop} {s : Shared}
section
theorem hset_new (prog : Program) (w : World) (r : Nat) {h0 h : Heap} {a : Addr} {led : Bool} (e : h.get? a = some (set0 led)) : HTo prog w r h0 h a [] :=
  ⟨_, #[], 0, _, e, ⟨rfl, rfl, rfl⟩, rfl, Good.fresh 0 0 led, (by show 0 * 5 < 7 * 3; decide), rfl, fun e he => (nomatch he), fun d hd => (nomatch hd)⟩
theorem hset_from {T : String} {p : Addr} {o : Obj} {its : Array Value} {c0 r : Nat} {ks : List DV} {Q : Value → Shared → Prop} (hh : A.handled = none) (hp : s.heap.get? p = some o) (hc : o.cls = .type T) (hd : o.data = .seq its c0) (hT : T = "list" ∨ T = "tuple") (h1 : 1 ≤ r) (h8 : r ≤ 8) (hu : A.units + 20 < cLine)
    (lk : ks.length = its.size) (vals : ∀ (i : Nat) v, its[i]? = some v → ∃ d, ks[i]? = some d ∧ Rk r d ∧ AtD s.heap d v) (few : its.size ≤ 4096)
    (fin : ∀ (h' : Heap) (t : Nat), HTo prog w r s.heap h' s.heap.objs.size ks → (∀ b u, b < s.heap.objs.size → s.heap.get? b = some u → h'.get? b = some u) → Q (.ref s.heap.objs.size) { s with heap := h', toks := t }) :
    wpAny (model prog w) A (call (.type "set") [.ref p]) Q E s := by
  obtain ⟨c, tl, hmro⟩ := F.called_set.mro
  have g1 := F.called_set.made
  have g2 := F.called_set.sub
  refine wpAny_call (codeAny_of_tree (wpAny_pure ⟨Code.quiet_builtin _ (by decide +kernel), codeAny_builtin F.entry_type_call ?_⟩))
  rw [Around.under_plain (weight_type_call_type "set" [.ref p] []) rfl]
  have g3 := F.called_set.notType
  have g4 := F.called_set.canCreate
  have g5 := F.typeCall_set_1 (.ref p)
  repeat (any_goals (first | assumption | wp_step))
  refine codeAny_mono (code_set_new_1 (.ref p) (E := E) (Q₁ := fun u s1 => ∃ led, u = .ref s.heap.objs.size ∧ s1 = { s with heap := s.heap.push (set0 led) }) fun led => ⟨led, rfl, rfl⟩) fun r s1 q1 => ?_
  rcases r with e | (_ | _ | _ | u)
  all_goals try exact q1.elim
  all_goals try exact q1
  obtain ⟨led, rfl, rfl⟩ := q1
  have at1 : (s.heap.push (set0 led)).get? s.heap.objs.size = some (set0 led) := Heap.get?_push_size _ rfl
  have ty1 : Shared.TypeIs { s with heap := s.heap.push (set0 led) } (.ref s.heap.objs.size) "set" := ⟨_, at1, rfl⟩
  have g6 := F.called_set.init.lookup
  have g7 := F.called_set.init.bind (.ref s.heap.objs.size)
  repeat (any_goals (first | assumption | wp_step))
  refine codeAny_mono (codeAny_call_builtin (R := wants (fun u s2 => u = .none ∧ ∃ h' t, s2 = { s with heap := h', toks := t } ∧ HTo prog w r s.heap h' s.heap.objs.size ks ∧ ∀ b u, b < s.heap.objs.size → s.heap.get? b = some u → h'.get? b = some u) E)
    F.called_set.init.plain F.entry_set_init (check_set_init_1 ty1 ?_)) fun u s2 q2 => ?_
  case _ =>
    have hpS : p < s.heap.objs.size := Heap.lt_size hp
    obtain ⟨oc, od, oa, os⟩ := o
    simp only at hc hd
    subst hc; subst hd
    have hp1 : (s.heap.push (set0 led)).get? p = some { cls := .type T, dict := od, data := .seq its c0, slots := os } := Heap.get?_push_of_some _ hp
    have f1 : isSubtype (.type T) (.type "set") = pure false := by rcases hT with rfl | rfl <;> first | exact F.sub_list_set | exact Ty.tuple_set
    have f2 : isSubtype (.type T) (.type "frozenset") = pure false := by rcases hT with rfl | rfl <;> first | exact F.sub_list_frozenset | exact Ty.tuple_frozenset
    have f3 : (Value.type T == Value.type "dict") = false := by rcases hT with rfl | rfl <;> decide
    have hh3 : A.in1.in1.in1.handled = none := by simp [hh]
    have sz : (s.heap.push (set0 led)).objs.size = s.heap.objs.size + 1 := Heap.size_push _ _
    have apart : p ≠ (s.heap.push (set0 led)).objs.size := by rw [sz]; exact Nat.ne_of_lt (Nat.lt_succ_of_lt hpS)
    have out : s.heap.objs.size ∉ [(s.heap.push (set0 led)).objs.size, p] := by rw [sz, List.mem_cons, List.mem_singleton]; exact fun z => z.elim (Nat.ne_of_lt (Nat.lt_succ_self _)) (Nat.ne_of_gt hpS)
    have na : ∀ {b : Addr}, s.heap.objs.size ≤ b → s.heap.get? b = none := fun {b} hb => by
      cases e : s.heap.get? b with
      | none => rfl
      | some o => exact absurd (Heap.lt_size e) (Nat.not_lt.mpr hb)
    have fpn : ∀ b ∈ [(s.heap.push (set0 led)).objs.size], s.heap.get? b = none := fun b hb => by
      rw [List.mem_singleton.mp hb, sz]
      exact na (Nat.le_succ _)
    have sb0 : ∀ x : Obj, Sub s.heap ((s.heap.push (set0 led)).push x) := fun x b o e => Heap.get?_push_of_some _ (Heap.get?_push_of_some _ e)
    have start : ∀ x : Obj, HTo prog w r s.heap ((s.heap.push (set0 led)).push x) s.heap.objs.size (ks.take 0) := fun x => hset_new prog w r (led := led) (Heap.get?_push_of_some x at1)
    have ends : ∀ (x : Obj) (s' : Shared), Moved [s.heap.objs.size, (s.heap.push (set0 led)).objs.size] (fun a b => b = a) { s with heap := (s.heap.push (set0 led)).push x } s' → HTo prog w r s.heap s'.heap s.heap.objs.size ks →
        ∃ h' t, s' = { s with heap := h', toks := t } ∧ HTo prog w r s.heap h' s.heap.objs.size ks ∧ ∀ b u, b < s.heap.objs.size → s.heap.get? b = some u → h'.get? b = some u := fun x s' mv sx => by
      obtain ⟨h', g', d', t', o'⟩ := s'
      obtain rfl : g' = s.gens := mv.gens
      obtain rfl : d' = s.drawn := mv.drawn
      obtain rfl : o' = s.os := mv.os
      exact ⟨h', t', rfl, sx, fun b u hb q => mv.heap b u (by rw [sz, List.mem_cons, List.mem_singleton]; exact fun z => z.elim (Nat.ne_of_lt hb) (Nat.ne_of_lt (Nat.lt_succ_of_lt hb))) (Heap.get?_push_of_some _ (Heap.get?_push_of_some _ q))⟩
    unfold Builtin.«set.__init__» noKeywords Builtin.Frozenset.updateFrom
    generalize hPI : pyIter = PI
    wp_walk
    subst hPI
    rcases hT with rfl | rfl
    · have hl : (s.heap.push (set0 led)).IsList p its := ⟨_, hp1, rfl, c0, rfl⟩
      refine wpAny_pyIter_list hl (wpAny_bind (wpAny_runValue ?_))
      refine hset_fill ((Walks.list hh3 _ p apart its).toS) out h1 h8 (by simp only [Around.in1_units]; omega) (na (Nat.le_refl _)) lk vals few fpn its.size 0 _ (Nat.zero_add _) ⟨⟨_, Heap.get?_push_size _ rfl, rfl, rfl⟩, hl.push _⟩ (sb0 _) (start _) fun s' mv sx => ?_
      exact wpAny_pure (wpAny_pure ⟨rfl, ends _ s' mv sx⟩)
    · have hl : (s.heap.push (set0 led)).IsTuple p its := ⟨_, hp1, rfl, c0, rfl⟩
      refine wpAny_pyIter_tuple hl (wpAny_bind (wpAny_runValue ?_))
      refine hset_fill ((Walks.tuple hh3 _ p apart its).toS) out h1 h8 (by simp only [Around.in1_units]; omega) (na (Nat.le_refl _)) lk vals few fpn its.size 0 _ (Nat.zero_add _) ⟨⟨_, Heap.get?_push_size _ rfl, rfl, rfl⟩, hl.push _⟩ (sb0 _) (start _) fun s' mv sx => ?_
      exact wpAny_pure (wpAny_pure ⟨rfl, ends _ s' mv sx⟩)
  · rcases u with e | (_ | _ | _ | u)
    all_goals try exact q2.elim
    all_goals try exact q2
    obtain ⟨rfl, h', t, rfl, sx, kp⟩ := q2
    repeat (any_goals (first | assumption | wp_step))
    exact fin _ _ sx kp
end
end
end L2

set_option Elab.async false
set_option linter.all false
set_option maxRecDepth 100000
set_option maxHeartbeats 4000000
namespace L2
open PySem PySem.Spec PyProof.Rows Tab
section
variable {X : Cx}
noncomputable def SetN (P : Program) (w : World) (a : Addr) (k : Nat) : HO := .ext fun h => ∃ r h0 S, HSet P w r h0 h a S k
theorem SetN.new {P : Program} {w : World} {H : Hp} {r : Nat} {h0 h : Heap} {a : Addr} {S : DV → Prop} {k : Nat} (x : HSet P w r h0 h a S k) : ObjOk P w H h a (SetN P w a k) := by
  refine ⟨⟨r, h0, S, x⟩, ?_, fun h1 h2 y e => ?_⟩
  · obtain ⟨o, _, _, _, e, _⟩ := x
    exact ⟨o, e⟩
  · obtain ⟨r, h0, S, y⟩ := y
    exact ⟨r, h0, S, HSet.at y e⟩
theorem tell_at {pins : List (Addr × Obj)} {σ : St} {H : Hp} {s : Shared} (I : Inv X pins σ H s) : ∀ (n : Nat) (d : DV) (x : V) (v : Value), Rk n d → Tell H d x → RelV x v → AtD s.heap d v := by
  intro n
  induction n with
  | zero =>
    rintro _ x v ⟨z, rfl⟩ t r
    unfold Tell at t
    subst t
    obtain ⟨t, rfl⟩ := r
    unfold AtD
    exact ⟨t, rfl⟩
  | succ n ih =>
    rintro _ x v ⟨ds, rfl, rk⟩ t r
    unfold Tell at t
    obtain ⟨a, xs, rfl, ha, hl, ts⟩ := t
    cases r
    obtain ⟨its, rv, pl, hz⟩ := I.tuple (SqT.of ha)
    unfold AtD
    refine ⟨a, its.toArray, rfl, pl, ?_⟩
    clear pl ha hl hz
    show AtDs s.heap ds its
    induction ds generalizing xs its with
    | nil =>
      unfold Tells at ts
      subst ts
      cases rv
      unfold AtDs
      rfl
    | cons d ds ihd =>
      unfold Tells at ts
      obtain ⟨y, r, rfl, t1, t2⟩ := ts
      cases rv with
      | cons r1 r2 =>
        unfold AtDs
        exact ⟨_, _, rfl, ih d y _ (rk d List.mem_cons_self) t1 r1, ihd (fun z hz => rk z (List.mem_cons_of_mem _ hz)) r t2 _ r2⟩
theorem vals_get : ∀ {xs : List V} {us : List Value}, Vals xs us → ∀ (i : Nat) (v : Value), us[i]? = some v → ∃ x, xs[i]? = some x ∧ RelV x v
  | [], _, .nil, i, v, h => by simp at h
  | x :: xs, u :: us, .cons r rs, 0, v, h => by
    simp at h
    subst h
    exact ⟨x, rfl, r⟩
  | x :: xs, u :: us, .cons r rs, i + 1, v, h => by
    simp at h
    obtain ⟨y, a, b⟩ := vals_get rs i v h
    exact ⟨y, by simpa using a, b⟩
theorem call_set_D (hc : X.calm = true) (hu : X.A.units + 20 < cLine) : CallR X (.type "set") (fun xs H Q => ∃ p us ds r, xs = [.ref p] ∧ (SqL X.K H p us ∨ SqT X.K H p us) ∧ Tells H ds us ∧ 1 ≤ r ∧ r ≤ 8 ∧ (∀ d ∈ ds, Rk r d) ∧ us.length ≤ 4096 ∧ ∀ l, H l = none → Q (.ref l) (upd H l (SetN X.prog X.w l (metL ds).length))) := by
  intro pins s σ H xs us Q I r h
  obtain ⟨p, ys, ds, rk, rfl, hq, ht, h1, h8, hr, hl, q⟩ := h
  obtain ⟨u, rfl, rx⟩ := vals1 r
  cases rx
  have go : ∀ (T : String) (o : Obj) (its : List Value) (c0 : Nat), s.heap.get? p = some o → o.cls = .type T → o.data = .seq its.toArray c0 → (T = "list" ∨ T = "tuple") → Vals ys its → wpAny (model X.prog X.w) X.A (call (.type "set") [.ref p]) (EP X pins σ Q) X.xe s :=
    fun T o its c0 ho hcl hda hT rv => by
      have ln : ys.length = its.length := rv.length
      refine hset_from (r := rk) (ks := ds) (I.ok.hd hc) ho hcl hda hT h1 h8 hu (by rw [List.size_toArray, ← ln, ht.length]) (fun i v hv => ?_) (by rw [List.size_toArray, ← ln]; exact hl) fun h' t sx kp => ?_
      · obtain ⟨x, ex, rv'⟩ := vals_get rv i v (by simpa using hv)
        obtain ⟨d, ed, td⟩ := ht.at i x ex
        have rd := hr d (List.mem_of_getElem? ed)
        exact ⟨d, ed, rd, tell_at I rk d x v rd td rv'⟩
      · refine ⟨.ref s.heap.objs.size, _, I.laid (a := s.heap.objs.size) (o := SetN X.prog X.w s.heap.objs.size (metL ds).length) (h' := h') (t' := t) (fun b u q1 => kp b u (Heap.lt_size q1) q1) (Nat.le_refl _) (SetN.new sx), rfl, q _ (I.hok.fresh (Nat.le_refl _))⟩
  rcases hq with hq | hq
  · obtain ⟨its, rv, pl, _⟩ := I.list hq
    obtain ⟨o, ho, hcl, n, hda⟩ := pl.isList
    exact go "list" o its n ho hcl hda (.inl rfl) rv
  · obtain ⟨its, rv, pl, _⟩ := I.tuple hq
    obtain ⟨o, ho, hcl, n, hda⟩ := pl
    exact go "tuple" o its n ho hcl hda (.inr rfl) rv
theorem call_len_setN : CallR X (.builtin "len") (fun xs H Q => ∃ p k, xs = [.ref p] ∧ H p = some (SetN X.prog X.w p k) ∧ k ≤ 100000 ∧ Q (.int k) H) := by
  intro pins s σ H xs us Q I r h
  obtain ⟨p, k, rfl, hp, hl, q⟩ := h
  obtain ⟨u, rfl, rx⟩ := vals1 r
  cases rx
  obtain ⟨⟨rk, h0, S, o, es, ep, t, e1, e2, e3, e4, e5, e6, e7⟩, _⟩ := (show ObjOk X.prog X.w H s.heap p (SetN X.prog X.w p k) from I.hok p _ hp)
  have ft : t.fits es.size = true := by rw [← map_len]; exact e4.fits
  exact PySem.call_len_set e1 e2 e3 ft (by omega) ⟨.int k, H, I.tok _, ⟨s.toks + 1, by rw [e6]⟩, q⟩
end
end L2

set_option Elab.async false
set_option linter.all false
set_option maxRecDepth 100000
set_option maxHeartbeats 4000000
namespace My
open PySem L2
def top (i : Nat) : Stmt := PySem.Challenge.pw_backissues_k22_at_most_4096.main.body.getD i (.Pass ⟨0, 0, 0, 0⟩)
abbrev slacking_numbers : Stmt := top 9
abbrev steller_of : Stmt := top 10
abbrev slacking_with_tellers : Stmt := top 11
abbrev sdark_numbers : Stmt := top 12
abbrev srefuse_bad_names : Stmt := top 17
abbrev srefuse_bad_reach : Stmt := top 18
abbrev sbulletin_names : Stmt := top 19
abbrev snames_told_of : Stmt := top 21
abbrev sgaps_of : Stmt := top 22
abbrev snames_of_rows : Stmt := top 24
abbrev sknown_sets : Stmt := top 26
abbrev stwo_to_the : Stmt := top 27
abbrev scourse_count : Stmt := top 28
abbrev severy_choice : Stmt := top 29
abbrev sone_number_further : Stmt := top 30
abbrev severy_course : Stmt := top 31
abbrev sShelf___init__ : Stmt := inClass (top 33) 0
abbrev sShelf_put : Stmt := inClass (top 33) 1
abbrev sShelf_had : Stmt := inClass (top 33) 2
abbrev sShelf_latest : Stmt := inClass (top 33) 3
abbrev sShelf_rows_of : Stmt := inClass (top 33) 4
abbrev sShelf_tail_of : Stmt := inClass (top 33) 5
abbrev s_law_at : Stmt := top 35
abbrev s_law_pick : Stmt := top 36
abbrev s_law_row : Stmt := top 37
abbrev s_law_same : Stmt := top 38
abbrev s_law_named : Stmt := top 39
abbrev s_law_doubled : Stmt := top 40
abbrev s_law_issue : Stmt := top 41
abbrev s_law_course : Stmt := top 42
abbrev s_law_filled : Stmt := top 43
abbrev s_law_all : Stmt := top 44
abbrev slaw : Stmt := top 45
abbrev placking_numbers : List Str := ["had"]
abbrev pteller_of : List Str := ["had", "number", "reach"]
abbrev placking_with_tellers : List Str := ["had", "reach"]
abbrev pdark_numbers : List Str := ["had", "reach"]
abbrev prefuse_bad_names : List Str := ["names"]
abbrev prefuse_bad_reach : List Str := ["reach"]
abbrev pbulletin_names : List Str := ["names", "reach"]
abbrev pnames_told_of : List Str := ["shelf", "number", "teller"]
abbrev pgaps_of : List Str := ["shelf"]
abbrev pnames_of_rows : List Str := ["rows"]
abbrev pknown_sets : List Str := ["shelf"]
abbrev ptwo_to_the : List Str := ["power"]
abbrev pcourse_count : List Str := ["shelf"]
abbrev pevery_choice : List Str := ["names"]
abbrev pone_number_further : List Str := ["courses", "choices"]
abbrev pevery_course : List Str := ["shelf"]
abbrev pShelf___init__ : List Str := ["self", "names", "reach"]
abbrev pShelf_put : List Str := ["self", "issue"]
abbrev pShelf_had : List Str := ["self"]
abbrev pShelf_latest : List Str := ["self"]
abbrev pShelf_rows_of : List Str := ["self", "number"]
abbrev pShelf_tail_of : List Str := ["self", "number"]
abbrev p_law_at : List Str := ["_law_script", "_law_k"]
abbrev p_law_pick : List Str := ["_law_cell", "_law_size"]
abbrev p_law_row : List Str := ["_law_cell", "_law_many", "_law_size"]
abbrev p_law_same : List Str := ["_law_found", "_law_due"]
abbrev p_law_named : List Str := ["_law_cell", "_law_many"]
abbrev p_law_doubled : List Str := ["_law_times"]
abbrev p_law_issue : List Str := ["_law_rows", "_law_number", "_law_reach"]
abbrev p_law_course : List Str := ["_law_found", "_law_names", "_law_known"]
abbrev p_law_filled : List Str := ["_law_names", "_law_reach", "_law_rows", "_law_order"]
abbrev p_law_all : List Str := ["_law_shelf"]
abbrev plaw : List Str := ["_law_script"]
theorem sclacking_numbers : FnScope ["had", "latest"] placking_numbers (defScope slacking_numbers) := scp
theorem scteller_of : FnScope ["had", "number", "reach", "tellers"] pteller_of (defScope steller_of) := scp
theorem sclacking_with_tellers : FnScope ["had", "reach"] placking_with_tellers (defScope slacking_with_tellers) := scp
theorem scdark_numbers : FnScope ["had", "reach"] pdark_numbers (defScope sdark_numbers) := scp
theorem screfuse_bad_names : FnScope ["names"] prefuse_bad_names (defScope srefuse_bad_names) := scp
theorem screfuse_bad_reach : FnScope ["reach"] prefuse_bad_reach (defScope srefuse_bad_reach) := scp
theorem scbulletin_names : FnScope ["names", "reach"] pbulletin_names (defScope sbulletin_names) := scp
theorem scnames_told_of : FnScope ["shelf", "number", "teller"] pnames_told_of (defScope snames_told_of) := scp
theorem scgaps_of : FnScope ["shelf", "lacking"] pgaps_of (defScope sgaps_of) := scp
theorem scnames_of_rows : FnScope ["rows"] pnames_of_rows (defScope snames_of_rows) := scp
theorem scknown_sets : FnScope ["shelf", "sets", "number", "teller", "names"] pknown_sets (defScope sknown_sets) := scp
theorem sctwo_to_the : FnScope ["power", "product", "step"] ptwo_to_the (defScope stwo_to_the) := scp
theorem sccourse_count : FnScope ["shelf", "dark"] pcourse_count (defScope scourse_count) := scp
theorem scevery_choice : FnScope ["names", "choices", "name"] pevery_choice (defScope severy_choice) := scp
theorem scone_number_further : FnScope ["courses", "choices", "further", "choice"] pone_number_further (defScope sone_number_further) := scp
theorem scevery_course : FnScope ["shelf", "courses", "known", "choices"] pevery_course (defScope severy_course) := scp
theorem scShelf___init__ : FnScope ["self", "names", "reach"] pShelf___init__ (defScope sShelf___init__) := scp
theorem scShelf_put : FnScope ["self", "issue", "number"] pShelf_put (defScope sShelf_put) := scp
theorem scShelf_had : FnScope ["self"] pShelf_had (defScope sShelf_had) := scp
theorem scShelf_latest : FnScope ["self"] pShelf_latest (defScope sShelf_latest) := scp
theorem scShelf_rows_of : FnScope ["self", "number"] pShelf_rows_of (defScope sShelf_rows_of) := scp
theorem scShelf_tail_of : FnScope ["self", "number"] pShelf_tail_of (defScope sShelf_tail_of) := scp
theorem sc_law_at : FnScope ["_law_script", "_law_k"] p_law_at (defScope s_law_at) := scp
theorem sc_law_pick : FnScope ["_law_cell", "_law_size", "_law_once"] p_law_pick (defScope s_law_pick) := scp
theorem sc_law_row : FnScope ["_law_cell", "_law_many", "_law_size", "_law_rest", "_law_mixed", "_law_figures", "_law_k"] p_law_row (defScope s_law_row) := scp
theorem sc_law_same : FnScope ["_law_found", "_law_due", "_law_k"] p_law_same (defScope s_law_same) := scp
theorem sc_law_named : FnScope ["_law_cell", "_law_many", "_law_signs", "_law_turn", "_law_stem", "_law_spot"] p_law_named (defScope s_law_named) := scp
theorem sc_law_doubled : FnScope ["_law_times", "_law_many", "_law_turn"] p_law_doubled (defScope s_law_doubled) := scp
theorem sc_law_issue : FnScope ["_law_rows", "_law_number", "_law_reach", "_law_tail", "_law_other"] p_law_issue (defScope s_law_issue) := scp
theorem sc_law_course : FnScope ["_law_found", "_law_names", "_law_known", "_law_k", "_law_places", "_law_name", "_law_j"] p_law_course (defScope s_law_course) := scp
theorem sc_law_filled : FnScope ["_law_names", "_law_reach", "_law_rows", "_law_order", "_law_shelf", "_law_number"] p_law_filled (defScope s_law_filled) := scp
theorem sc_law_all : FnScope ["_law_shelf", "_law_fine", "e"] p_law_all (defScope s_law_all) := scp
theorem sclaw : FnScope ["_law_script", "_law_names", "_law_dark", "_law_reach", "_law_first", "_law_many", "_law_rows", "_law_figure", "_law_had", "_law_shelf", "_law_bits", "_law_found", "_law_course_here"] plaw (defScope slaw) := scp
structure TxShelf (K : PySem.W.Frag) (mg : Str → Option Value) (C : Addr) : Prop where
  cl : Cls K C
  mgC : mg "Shelf" = some (.ref C)
  n_names : NoAttr K C "names"
  n_reach : NoAttr K C "reach"
  n_issues : NoAttr K C "issues"
structure Bl (mg : Str → Option Value) : Prop where
  len : mg "len" = none
  range : mg "range" = none
  tuple : mg "tuple" = none
  list : mg "list" = none
  max : mg "max" = none
  min : mg "min" = none
  sorted : mg "sorted" = none
  isinstance : mg "isinstance" = none
  bool : mg "bool" = none
  int : mg "int" = none
  str : mg "str" = none
  set : mg "set" = none
  reversed : mg "reversed" = none
  dict : mg "dict" = none
  zip : mg "zip" = none
  all : mg "all" = none
  ValueError : mg "ValueError" = none
  MOST_NAMES : ∃ t, mg "MOST_NAMES" = some (.int 12 t)
  MOST_REACH : ∃ t, mg "MOST_REACH" = some (.int 10 t)
  MOST_COURSES : ∃ t, mg "MOST_COURSES" = some (.int 4096 t)
theorem same_new {H : Hp} {p : Addr} (h : H p = none) (o : HO) : Same H (upd H p o) := fun b u q => by rw [upd_ne (ne_of_none q h)]; exact q
theorem same_upd {H H' : Hp} {l : Addr} {o : HO} (hs : Same H H') (hl : H l = none) : Same H (upd H' l o) := fun b u e => by rw [upd_ne (ne_of_none e hl)]; exact hs b u e
theorem small {n : Nat} (h : n ≤ 1000) : n ≤ sizeLine := Nat.le_of_lt (small1000 h)
theorem at_ints {ns : List Int} {k : Int} (h0 : 0 ≤ k) (h : k < (ns.length : Int)) : atI (ns.map V.int) k = some (.int (ns.getD k.toNat 0)) := by
  have hk : k.toNat < ns.length := by omega
  have ek : k = ((k.toNat : Nat) : Int) := by omega
  have q : atI (ns.map V.int) ((k.toNat : Nat) : Int) = some (.int (ns.getD k.toNat 0)) := atI_nat (by
    rw [List.getElem?_map, List.getElem?_eq_getElem hk, List.getD_eq_getElem?_getD, List.getElem?_eq_getElem hk] <;> rfl)
  rw [← ek] at q
  exact q
theorem same_tup {K : PySem.W.Frag} {H H' : Hp} {a : Addr} {xs : List V} (e : Same H H') (h : SqT K H a xs) : SqT K H' a xs := by
  rcases h with (h | ⟨o, h⟩) | h
  · exact .inl (.inl (e _ _ h))
  · exact .inl (.inr ⟨o, e _ _ h⟩)
  · exact .inr h
theorem dec_of {p : Prop} [Decidable p] (h : decide p = true) : p := of_decide_eq_true h
theorem dec_no {p : Prop} [Decidable p] (h : ¬ decide p = true) : ¬ p := fun q => h (decide_eq_true q)
section
variable {P : Program} {w : World} {K : PySem.W.Frag} {mg : Str → Option Value} {base : Heap} {f : Addr} {fd : FuncData}
theorem rise_ext : ∀ {l1 l2 : List Int}, l1.Pairwise (· < ·) → l2.Pairwise (· < ·) → (∀ x, x ∈ l1 ↔ x ∈ l2) → l1 = l2
  | [], [], _, _, _ => rfl
  | [], y :: _, _, _, h => by have := (h y).mpr List.mem_cons_self; cases this
  | x :: _, [], _, _, h => by have := (h x).mp List.mem_cons_self; cases this
  | x :: r, y :: t, p1, p2, h => by
    rw [List.pairwise_cons] at p1 p2
    have e : x = y := by
      rcases List.mem_cons.mp ((h x).mp List.mem_cons_self) with e | hx
      · exact e
      · rcases List.mem_cons.mp ((h y).mpr List.mem_cons_self) with e | hy
        · exact e.symm
        · have := p1.1 y hy
          have := p2.1 x hx
          omega
    subst e
    refine congrArg (x :: ·) (rise_ext p1.2 p2.2 fun z => ⟨fun hz => ?_, fun hz => ?_⟩)
    · rcases List.mem_cons.mp ((h z).mp (List.mem_cons_of_mem _ hz)) with e | q
      · have := p1.1 z hz
        omega
      · exact q
    · rcases List.mem_cons.mp ((h z).mpr (List.mem_cons_of_mem _ hz)) with e | q
      · have := p2.1 z hz
        omega
      · exact q
theorem upI_rise (lo : Int) : ∀ n, (upI lo n).Pairwise (· < ·)
  | 0 => List.Pairwise.nil
  | n + 1 => by
    rw [upI_succ]
    refine List.pairwise_append.mpr ⟨upI_rise lo n, List.pairwise_singleton _ _, fun x hx y hy => ?_⟩
    have h1 := mem_upI.mp hx
    rw [List.mem_singleton.mp hy]
    omega
noncomputable def spAt (K : PySem.W.Frag) : Sp := fun vs H Q _ => ∃ (a : Addr) (ns : List Int) (k : Int), vs = [.ref a, .int k] ∧ SqL K H a (ns.map V.int) ∧ 0 ≤ k ∧ Q (.int (ns.getD k.toNat 0)) H
theorem ok_at (M : Bl mg) (F : Fun K "_law_at" "_law_at" s_law_at f fd) : FnOk P w K mg base CX0 1 f fd p_law_at (spAt K) := by
  have nd := sc_law_at.nd
  refine F.ok sc_law_at (fun vs H Q E h => ?_) (fun cdv A outer s H vs Q E hr h => ?_)
  · obtain ⟨a, ns, k, rfl, _⟩ := h
    rfl
  obtain ⟨a, ns, k, rfl, hS, h0, q⟩ := h
  refine ⟨_, (pss_cons (ps_if (pt_cmpR op_lt (pv 1) (pe_callB call_len_seq rfl M.len PySem.boot_len (pa_cons (pv 0) pa_nil)) (nomark _)) (pss_one (ps_ret (pe_ix ix_list (pv 0) (pv 1) (fun _ _ => rfl)))) pss_nil) (pss_one (ps_ret pe_int))), ?_⟩
  have hl : (ns.map V.int).length = ns.length := List.length_map _
  refine ⟨_, rfl, _, rfl, a, _, rfl, .inl hS, _, _, rfl, rfl, _, rfl, ?_⟩
  refine ite2 (fun c => ?_) (fun c => ?_)
  · have c' := dec_of c
    rw [hl] at c'
    exact ⟨_, rfl, _, rfl, a, _, _, _, rfl, rfl, hS, at_ints h0 c', q⟩
  · have c' := dec_no c
    rw [hl] at c'
    have e : ns.getD k.toNat 0 = 0 := by rw [List.getD_eq_getElem?_getD, List.getElem?_eq_none (by omega)]; rfl
    rw [e] at q
    exact q
noncomputable def spPick : Sp := fun vs H Q _ => ∃ c n : Int, vs = [.int c, .int n] ∧ 0 < n ∧ ∀ r, 0 ≤ r → r < n → Q (.int r) H
theorem ok_pick (F : Fun K "_law_pick" "_law_pick" s_law_pick f fd) : FnOk P w K mg base CX0 1 f fd p_law_pick spPick := by
  have nd := sc_law_pick.nd
  refine F.ok sc_law_pick (fun vs H Q E h => ?_) (fun cdv A outer s H vs Q E hr h => ?_)
  · obtain ⟨c, n, rfl, _⟩ := h
    rfl
  obtain ⟨c, n, rfl, hn, q⟩ := h
  refine ⟨_, (pss_cons (ps_if (pt_cmpR op_eq (pe_op op_mod (pv 0) pe_int) pe_int (nomark _)) (pss_one (ps_ret (pe_op op_mod (pe_op op_fdiv (pv 0) pe_int) (pv 1)))) pss_nil) (pss_cons (ps_set (i := 2) nd rfl (Or.inl rfl) (pe_op op_mod (pe_op op_mul (pe_op op_fdiv (pv 0) pe_int) pe_int) pe_int)) (pss_one (ps_ret (pe_op op_mod (pe_op op_mod (pe_op op_mul (pe_op op_add (pv 2) pe_int) pe_int) pe_int) (pv 1)))))), ?_⟩
  refine ⟨_, rfl, _, _, rfl, rfl, (by show (0 : Int) < 2; decide), rfl, _, rfl, ?_⟩
  refine ite2 (fun _ => ?_) (fun _ => ?_)
  · exact ⟨_, rfl, _, _, rfl, rfl, ⟨by decide, by decide⟩, _, rfl, _, _, rfl, rfl, hn, q _ (Int.emod_nonneg _ (by omega)) (Int.emod_lt_of_pos _ hn)⟩
  · refine ⟨_, rfl, _, _, rfl, rfl, ⟨by decide, by decide⟩, _, _, rfl, rfl, .inr ⟨by decide, by decide⟩, _, _, rfl, rfl, (by show (0 : Int) < 2147483647; decide), ?_⟩
    refine ⟨_, rfl, _, _, rfl, rfl, _, _, rfl, rfl, .inr ⟨by decide, by decide⟩, _, _, rfl, rfl, (by show (0 : Int) < 2147483647; decide), _, rfl, _, _, rfl, rfl, hn, ?_⟩
    exact q _ (Int.emod_nonneg _ (by omega)) (Int.emod_lt_of_pos _ hn)
noncomputable def spSame : Nat → Sp
  | 0 => fun _ _ _ _ => False
  | n + 1 => fun vs H Q _ => ∃ x y, vs = [x, y] ∧ Alike H n x y ∧ ∀ H', Same H H' → Q (.bl true) H'
theorem same_none : FnOk P w K mg base CX0 0 f fd p_law_same (spSame 0) :=
  ⟨fun vs H Q E h => h.elim, fun A outer s H args us vs Q E _ _ _ _ h => h.elim⟩
noncomputable def tyOf : V → String
  | .non => "NoneType"
  | .bl _ => "bool"
  | .int _ => "int"
  | _ => "str"
theorem ty_scal {H : Hp} {x : V} (h : scalV x = true) : TyOf K H x (.type (tyOf x)) := by
  cases x with
  | non => exact .non
  | bl b => exact .bl b
  | int i => exact .int i
  | str z => exact .str z
  | _ => exact absurd h Bool.false_ne_true
noncomputable def kitB : V → String → Bool
  | .bl _, T => T == "bool" || T == "int"
  | .int _, T => T == "int"
  | .str _, T => T == "str"
  | _, _ => false
theorem kit_scal (T : String) (hT : T = "tuple" ∨ T = "bool" ∨ T = "int" ∨ T = "str") {x : V} (h : scalV x = true) : PySem.W.kitOne K (.type (tyOf x)) (.type T) = some (kitB x T) := by
  cases x with
  | non => rcases hT with rfl | rfl | rfl | rfl <;> kernel_rfl
  | bl b => rcases hT with rfl | rfl | rfl | rfl <;> kernel_rfl
  | int i => rcases hT with rfl | rfl | rfl | rfl <;> kernel_rfl
  | str z => rcases hT with rfl | rfl | rfl | rfl <;> kernel_rfl
  | _ => exact absurd h Bool.false_ne_true
theorem kitB_tuple (x : V) : kitB x "tuple" = false := by cases x <;> rfl
theorem kit_tup : PySem.W.kitOne K (.type "tuple") (.type "tuple") = some true := by kernel_rfl
theorem at_get {xs : List V} {i : Nat} (h : i < xs.length) : ∃ v, xs[i]? = some v ∧ atI xs (i : Int) = some v := ⟨xs[i], List.getElem?_eq_getElem h, atI_nat (List.getElem?_eq_getElem h)⟩
theorem scal_eq {x : V} (h : scalV x = true) : scal x x = true := by
  cases x <;> first | rfl | exact absurd h Bool.false_ne_true
theorem ok_same {n : Nat} (M : Bl mg) (F : Fun K "_law_same" "_law_same" s_law_same f fd) (G_law_same : Cal P w K mg base n "_law_same" p_law_same (spSame n)) :
    FnOk P w K mg base CX0 (n + 1) f fd p_law_same (spSame (n + 1)) := by
  have nd := sc_law_same.nd
  refine F.ok sc_law_same (fun vs H Q E h => ?_) (fun cdv A outer s H vs Q E hr h => ?_)
  · obtain ⟨x, y, rfl, _⟩ := h
    rfl
  obtain ⟨x, y, rfl, ha, q⟩ := h
  refine ⟨_, (pss_cons (ps_if (pt_val (pe_callB call_isinst rfl M.isinstance PyProof.Rows.boot_isinstance (pa_cons (pv 1) (pa_cons (pe_bltn (v := .ty "tuple") rfl M.tuple PyProof.Rows.boot_tuple rfl) pa_nil)))) (pss_cons (ps_if (PW.pt (pw_or (pt_not (pt_val (pe_callB call_isinst rfl M.isinstance PyProof.Rows.boot_isinstance (pa_cons (pv 0) (pa_cons (pe_bltn (v := .ty "tuple") rfl M.tuple PyProof.Rows.boot_tuple rfl) pa_nil))))) (pw_or1 (pt_cmpR op_ne (pe_callB call_len_seq rfl M.len PySem.boot_len (pa_cons (pv 0) pa_nil)) (pe_callB call_len_seq rfl M.len PySem.boot_len (pa_cons (pv 1) pa_nil)) (nomark _))))) (pss_one (ps_ret pe_bl)) pss_nil) (pss_cons (ps_for PassesOwn.never rfl (pi_range1 rfl M.range (pa_cons (pe_callB call_len_seq rfl M.len PySem.boot_len (pa_cons (pv 1) pa_nil)) pa_nil)) (pg_name (i := 2) nd rfl (Or.inl rfl)) (pss_one (ps_if (pt_not (pt_val (pe_cal G_law_same (rm hr) rfl (pa_cons (pe_ix ix_tup (pv 0) (pv 2) (fun _ _ => rfl)) (pa_cons (pe_ix ix_tup (pv 1) (pv 2) (fun _ _ => rfl)) pa_nil))))) (pss_one (ps_ret pe_bl)) pss_nil))) (pss_one (ps_ret pe_bl)))) pss_nil) (pss_cons (ps_if (PW.pt (pw_or (pt_cmpR op_ne (pe_callB call_isinst rfl M.isinstance PyProof.Rows.boot_isinstance (pa_cons (pv 0) (pa_cons (pe_bltn (v := .ty "bool") rfl M.bool PyProof.Rows.boot_bool rfl) pa_nil))) (pe_callB call_isinst rfl M.isinstance PyProof.Rows.boot_isinstance (pa_cons (pv 1) (pa_cons (pe_bltn (v := .ty "bool") rfl M.bool PyProof.Rows.boot_bool rfl) pa_nil))) (nomark _)) (pw_or1 (pt_cmpR op_ne (pe_callB call_isinst rfl M.isinstance PyProof.Rows.boot_isinstance (pa_cons (pv 0) (pa_cons (pe_bltn (v := .ty "int") rfl M.int PyProof.Rows.boot_int rfl) pa_nil))) (pe_callB call_isinst rfl M.isinstance PyProof.Rows.boot_isinstance (pa_cons (pv 1) (pa_cons (pe_bltn (v := .ty "int") rfl M.int PyProof.Rows.boot_int rfl) pa_nil))) (nomark _))))) (pss_one (ps_ret pe_bl)) pss_nil) (pss_cons (ps_if (PW.pt (pw_or (pt_cmpR op_ne (pe_callB call_isinst rfl M.isinstance PyProof.Rows.boot_isinstance (pa_cons (pv 0) (pa_cons (pe_bltn (v := .ty "str") rfl M.str PyProof.Rows.boot_str rfl) pa_nil))) (pe_callB call_isinst rfl M.isinstance PyProof.Rows.boot_isinstance (pa_cons (pv 1) (pa_cons (pe_bltn (v := .ty "str") rfl M.str PyProof.Rows.boot_str rfl) pa_nil))) (nomark _)) (pw_or1 (pt_cmpR op_ne (pe_cmp (pc_isN (pv 0))) (pe_cmp (pc_isN (pv 1))) (nomark _))))) (pss_one (ps_ret pe_bl)) pss_nil) (pss_one (ps_ret (pe_cmpR op_eq (pv 0) (pv 1) (nomark _))))))), ?_⟩
  have ha' : (x = y ∧ scalV x = true) ∨ ∃ (m : Nat) (a b : Addr) (xs ys : List V), n = m + 1 ∧ x = .ref a ∧ y = .ref b ∧ H a = some (.tup xs) ∧ H b = some (.tup ys) ∧ xs.length = ys.length ∧ ys.length ≤ 1000000 ∧
      ∀ (i : Nat) (u v : V), xs[i]? = some u → ys[i]? = some v → Alike H m u v := by
    cases n with
    | zero => exact .inl ha
    | succ n =>
      rcases ha with ha | ⟨a, b, xs, ys, e1, e2, h1, h2, hl, hm, hi⟩
      · exact .inl ha
      · exact .inr ⟨n, a, b, xs, ys, rfl, e1, e2, h1, h2, hl, hm, hi⟩
  rcases ha' with ⟨rfl, hs⟩ | ⟨m, a, b, xs, ys, rfl, rfl, rfl, h1, h2, hl, hm, hi⟩
  · have k1 := kit_scal (K := K) "tuple" (.inl rfl) hs
    have k2 := kit_scal (K := K) "bool" (.inr (.inl rfl)) hs
    have k3 := kit_scal (K := K) "int" (.inr (.inr (.inl rfl))) hs
    have k4 := kit_scal (K := K) "str" (.inr (.inr (.inr rfl))) hs
    rw [kitB_tuple] at k1
    refine ⟨_, rfl, _, _, _, _, rfl, ty_scal hs, k1, _, rfl, iteF ?_⟩
    refine ⟨_, rfl, _, _, _, _, rfl, ty_scal hs, k2, _, rfl, _, _, _, _, rfl, ty_scal hs, k2, rfl, _, rfl, ?_⟩
    rw [decide_eq_true rfl]
    refine iteF ⟨_, rfl, _, _, _, _, rfl, ty_scal hs, k3, _, rfl, _, _, _, _, rfl, ty_scal hs, k3, rfl, _, rfl, ?_⟩
    rw [decide_eq_true rfl]
    refine iteF ?_
    refine ⟨_, rfl, _, _, _, _, rfl, ty_scal hs, k4, _, rfl, _, _, _, _, rfl, ty_scal hs, k4, rfl, _, rfl, ?_⟩
    rw [decide_eq_true rfl]
    refine iteF ⟨_, rfl, _, rfl, rfl, _, rfl, ?_⟩
    rw [decide_eq_true rfl]
    refine iteF ?_
    refine ⟨_, rfl, _, rfl, scal_eq hs, ?_⟩
    rw [decide_eq_true rfl]
    exact q H (Same.refl H)
  · refine ⟨_, rfl, _, _, _, _, rfl, .tup h2, kit_tup, _, rfl, iteT ?_⟩
    refine ⟨_, rfl, _, _, _, _, rfl, .tup h1, kit_tup, _, rfl, iteF ?_⟩
    refine ⟨_, rfl, a, xs, rfl, .inr (SqT.of h1), _, rfl, b, ys, rfl, .inr (SqT.of h2), rfl, _, rfl, ?_⟩
    rw [hl, decide_eq_true rfl]
    refine iteF ?_
    refine ⟨_, rfl, b, ys, rfl, .inr (SqT.of h2), _, rfl, by omega, by omega, ?_⟩
    refine for_range (lo := 0) (n := ys.length) (fun _ σ H' => Same H H' ∧ ∃ o, σ = [some (.ref a), some (.ref b), o]) ⟨Same.refl H, _, rfl⟩ (fun i σ H' hi' hp => ?_) (fun σ H' hp => ?_)
    · obtain ⟨hS, o, rfl⟩ := hp
      obtain ⟨u, hu, au⟩ := at_get (xs := xs) (i := i) (by omega)
      obtain ⟨v, hv, av⟩ := at_get (xs := ys) (i := i) hi'
      have ei : (0 : Int) + (i : Int) = (i : Int) := Int.zero_add _
      refine ⟨_, rfl, _, rfl, a, _, _, _, rfl, rfl, SqT.of (hS _ _ h1), (by rw [ei]; exact au), _, rfl, _, rfl, b, _, _, _, rfl, rfl, SqT.of (hS _ _ h2), (by rw [ei]; exact av), ?_⟩
      refine ⟨u, v, rfl, (hi i u v hu hv).keep hS, fun H2 hS2 => ⟨_, rfl, ?_⟩⟩
      exact iteF ⟨hS.trans hS2, _, rfl⟩
    · obtain ⟨hS, o, rfl⟩ := hp
      exact q H' hS
theorem same_all (M : Bl mg) (F : Fun K "_law_same" "_law_same" s_law_same f fd) (B : Binds K fd p_law_same []) (N : mg "_law_same" = some (.ref f)) :
    ∀ n, Cal P w K mg base n "_law_same" p_law_same (spSame n)
  | 0 => .mk' same_none B F.kp N
  | n + 1 => .mk' (ok_same M F (same_all M F B N n)) B F.kp N
theorem lst_len {ns : List Int} {n : Nat} (h : ns.length ≤ n) (hn : n ≤ 1000) : (ns.map V.int).length < sizeLine := small1000 (by rw [List.length_map]; omega)
noncomputable def spRow : Sp := fun vs H Q _ => ∃ c m z : Int, vs = [.int c, .int m, .int z] ∧ 0 ≤ m ∧ m ≤ 900 ∧ 0 < z ∧ z < 1073741824 ∧
  ∀ (l : Addr) (ns : List Int) (H' : Hp), H l = none → Same H H' → H' l = some (.lst (ns.map V.int)) → ns.length = m.toNat → (∀ x ∈ ns, 0 ≤ x ∧ x < z) → Q (.ref l) H'
theorem ok_row (M : Bl mg) (F : Fun K "_law_row" "_law_row" s_law_row f fd) : FnOk P w K mg base CX0 1 f fd p_law_row spRow := by
  have nd := sc_law_row.nd
  refine F.ok sc_law_row (fun vs H Q E h => ?_) (fun cdv A outer s H vs Q E hr h => ?_)
  · obtain ⟨c, m, z, rfl, _⟩ := h
    rfl
  obtain ⟨c, m, z, rfl, m0, m1, z0, z1, q⟩ := h
  refine ⟨_, (pss_cons (ps_set (i := 3) nd rfl (Or.inl rfl) (pe_op op_fdiv (pv 0) pe_int)) (pss_cons (ps_set (i := 4) nd rfl (Or.inl rfl) (pe_op op_mod (pe_op op_mul (pv 3) pe_int) pe_int)) (pss_cons (ps_set (i := 5) nd rfl (Or.inl rfl) (pe_lst pa_nil)) (pss_cons (ps_for PassesOwn.never rfl (pi_range1 rfl M.range (pa_cons (pv 1) pa_nil)) (pg_name (i := 6) nd rfl (Or.inl rfl)) (pss_cons (ps_set (i := 4) nd rfl (Or.inl rfl) (pe_op op_mod (pe_op op_add (pe_op op_add (pe_op op_mul (pv 4) pe_int) (pv 6)) pe_int) pe_int)) (pss_one (ps_if (pt_cmpR op_eq (pe_op op_mod (pv 0) pe_int) pe_int (nomark _)) (pss_cons (ps_expr (pe_bm PySem.F.plainAttrs_list PySem.F.slot_list_append PySem.F.type_list_append mt_append (pv 5) (pa_cons (pe_op op_mod (pv 3) (pv 2)) pa_nil))) (pss_one (ps_set (i := 3) nd rfl (Or.inl rfl) (pe_op op_fdiv (pv 3) (pv 2))))) (pss_one (ps_expr (pe_bm PySem.F.plainAttrs_list PySem.F.slot_list_append PySem.F.type_list_append mt_append (pv 5) (pa_cons (pe_op op_mod (pe_op op_fdiv (pv 4) pe_int) (pv 2)) pa_nil)))))))) (pss_one (ps_ret (pv 5))))))), ?_⟩
  refine ⟨_, rfl, _, _, rfl, rfl, ⟨by decide, by decide⟩, ?_⟩
  refine ⟨_, rfl, _, _, rfl, rfl, .inr ⟨by decide, by decide⟩, _, _, rfl, rfl, (by show (0 : Int) < 2147483647; decide), ?_⟩
  refine ⟨(by show 0 ≤ sizeLine; decide), fun l hl => ?_⟩
  refine ⟨_, rfl, _, rfl, by omega, by omega, ?_⟩
  refine for_range (lo := 0) (n := m.toNat) (fun i σ H' => ∃ (ns : List Int) (r mx : Int) (o : Option V), ns.length = i ∧ (∀ x ∈ ns, 0 ≤ x ∧ x < z) ∧ H' = upd H l (.lst (ns.map V.int)) ∧
    σ = [some (.int c), some (.int m), some (.int z), some (.int r), some (.int mx), some (.ref l), o]) ⟨[], _, _, _, rfl, (fun _ h => nomatch h), rfl, rfl⟩ (fun i σ H' hi hp => ?_) (fun σ H' hp => ?_)
  · obtain ⟨ns, r, mx, o, hlen, hall, rfl, rfl⟩ := hp
    refine ⟨_, rfl, _, _, rfl, rfl, .inr ⟨by decide, by decide⟩, _, rfl, _, _, rfl, rfl, _, _, rfl, rfl, _, _, rfl, rfl, (by show (0 : Int) < 2147483647; decide), ?_⟩
    refine ⟨_, rfl, _, _, rfl, rfl, (by show (0 : Int) < 2; decide), rfl, _, rfl, ?_⟩
    have grow : ∀ y : Int, (∀ x ∈ ns ++ [y % z], 0 ≤ x ∧ x < z) := fun y x hx => by
      rcases List.mem_append.mp hx with h | h
      · exact hall x h
      · rw [List.mem_singleton.mp h]
        exact ⟨Int.emod_nonneg _ (by omega), Int.emod_lt_of_pos _ z0⟩
    have put : ∀ y : Int, upd (upd H l (.lst (ns.map V.int))) l (.lst (ns.map V.int ++ [.int (y % z)])) = upd H l (.lst ((ns ++ [y % z]).map V.int)) := fun y => by
      rw [upd_upd, List.map_append]
      rfl
    refine ite2 (fun _ => ?_) (fun _ => ?_)
    · refine ⟨_, rfl, .inl ⟨rfl, _, SqL.of upd_same⟩, _, rfl, _, rfl, _, _, rfl, rfl, z0, l, _, _, rfl, rfl, upd_same, lst_len (n := i) (by omega) (by omega), ?_⟩
      refine ⟨_, rfl, _, rfl, _, _, rfl, rfl, ⟨z0, z1⟩, ?_⟩
      exact ⟨ns ++ [r % z], _, _, _, by rw [List.length_append, hlen]; rfl, grow r, put r, rfl⟩
    · refine ⟨_, rfl, .inl ⟨rfl, _, SqL.of upd_same⟩, _, rfl, _, _, rfl, rfl, ⟨by decide, by decide⟩, _, rfl, _, _, rfl, rfl, z0, l, _, _, rfl, rfl, upd_same, lst_len (n := i) (by omega) (by omega), ?_⟩
      exact ⟨ns ++ [_ % z], _, _, _, by rw [List.length_append, hlen]; rfl, grow _, put _, rfl⟩
  · obtain ⟨ns, r, mx, o, hlen, hall, rfl, rfl⟩ := hp
    exact ⟨_, rfl, q l ns _ hl (same_new hl _) upd_same hlen hall⟩
theorem inV_ints (x : Int) (ns : List Int) : inV (.int x) (ns.map V.int) = decide (x ∈ ns) := by
  unfold inV
  rw [Bool.eq_iff_iff, List.any_map, List.any_eq_true, decide_eq_true_eq]
  constructor
  · rintro ⟨y, hy, e⟩
    have e' : (y == x) = true := e
    rw [← eq_of_beq e']
    exact hy
  · intro h
    exact ⟨x, h, show (x == x) = true from beq_self_eq_true x⟩
theorem flat_ints (ns : List Int) : (ns.map V.int).all flatV = true := by
  rw [List.all_map, List.all_eq_true]
  intro x _
  rfl
noncomputable def lackL (ns : List Int) : List Int := (upI 1 60).filter fun x => decide (x ∉ ns) && decide (∃ y ∈ ns, x < y)
theorem mem_lackL {ns : List Int} {x : Int} : x ∈ lackL ns ↔ (1 ≤ x ∧ x < 1 + 60) ∧ x ∉ ns ∧ ∃ y ∈ ns, x < y := by
  unfold lackL
  rw [List.mem_filter, mem_upI, Bool.and_eq_true, decide_eq_true_eq, decide_eq_true_eq]
  rfl
theorem lackL_rise (ns : List Int) : (lackL ns).Pairwise (· < ·) := (upI_rise 1 60).filter _
theorem lackL_len (ns : List Int) : (lackL ns).length ≤ 60 := by
  have h := List.length_filter_le (fun x => decide (x ∉ ns) && decide (∃ y ∈ ns, x < y)) (upI 1 60)
  rw [upI_length] at h
  exact h
theorem lackL_max {ns : List Int} {m : Int} (hm : m ∈ ns) (hall : ∀ x ∈ ns, 1 ≤ x ∧ x ≤ 60) (top : ∀ y ∈ ns, y ≤ m) : (upI 1 (m + 1 - 1).toNat).filter (fun x => !decide (x ∈ ns)) = lackL ns :=
  rise_ext ((upI_rise _ _).filter _) (lackL_rise _) fun x => by
    have hm' := hall m hm
    rw [List.mem_filter, mem_upI, mem_lackL, Bool.not_eq_true', decide_eq_false_iff_not]
    constructor
    · rintro ⟨⟨a, b⟩, c⟩
      refine ⟨by omega, c, m, hm, ?_⟩
      have : x ≠ m := fun e => c (e ▸ hm)
      omega
    · rintro ⟨a, b, y, hy, c⟩
      have := top y hy
      exact ⟨by omega, b⟩
theorem lackL_nil : lackL [] = [] := by
  refine rise_ext (lackL_rise _) .nil fun x => ?_
  rw [mem_lackL]
  constructor
  · rintro ⟨_, _, y, hy, _⟩
    cases hy
  · intro h
    cases h
theorem SqI.keep {K : PySem.W.Frag} {H H' : Hp} {a : Addr} {ns : List Int} (e : Same H H') (h : SqI K H a ns) : SqI K H' a ns := by
  rcases h with h | h
  · exact .inl (e.seq h)
  · rcases h with (h | ⟨o, h⟩) | h
    · exact .inr (.inl (.inl (e _ _ h)))
    · exact .inr (.inl (.inr ⟨o, e _ _ h⟩))
    · exact .inr (.inr h)
theorem find_least {c : Int → Bool} {t : Int} : ∀ {l : List Int}, l.Pairwise (· < ·) → t ∈ l → c t = true → (∀ y ∈ l, c y = true → t ≤ y) → l.find? c = some t
  | [], _, h, _, _ => by cases h
  | x :: r, p, h, hc, hm => by
    rw [List.pairwise_cons] at p
    rw [List.find?_cons]
    rcases List.mem_cons.mp h with rfl | h
    · rw [hc]
    · cases e : c x with
      | true =>
        have h1 := p.1 t h
        have h2 := hm x List.mem_cons_self e
        omega
      | false => exact find_least p.2 h hc fun y hy => hm y (List.mem_cons_of_mem _ hy)
theorem find_is {c : Int → Bool} {t : Int} : ∀ {l : List Int}, l.Pairwise (· < ·) → l.find? c = some t → t ∈ l ∧ c t = true ∧ ∀ y ∈ l, c y = true → t ≤ y
  | [], _, h => by cases h
  | x :: r, p, h => by
    rw [List.pairwise_cons] at p
    rw [List.find?_cons] at h
    cases e : c x with
    | true =>
      rw [e] at h
      have h' : x = t := Option.some.inj h
      subst h'
      refine ⟨List.mem_cons_self, e, fun y hy _ => ?_⟩
      rcases List.mem_cons.mp hy with rfl | hy
      · exact Int.le_refl _
      · have := p.1 y hy
        omega
    | false =>
      rw [e] at h
      obtain ⟨h1, h2, h3⟩ := find_is p.2 h
      refine ⟨List.mem_cons_of_mem _ h1, h2, fun y hy hc => ?_⟩
      rcases List.mem_cons.mp hy with rfl | hy
      · rw [e] at hc
        cases hc
      · exact h3 y hy hc
noncomputable def tellC (ns : List Int) (n r : Int) (y : Int) : Bool := decide (n < y) && decide (y - r ≤ n) && decide (y ∈ ns)
noncomputable def tellV (ns : List Int) (n r : Int) : Int := ((upI 1 60).find? (tellC ns n r)).getD 0
theorem tellC_iff {ns : List Int} {n r y : Int} : tellC ns n r y = true ↔ n < y ∧ y - r ≤ n ∧ y ∈ ns := by
  unfold tellC
  rw [Bool.and_eq_true, Bool.and_eq_true, decide_eq_true_eq, decide_eq_true_eq, decide_eq_true_eq, and_assoc]
theorem tellV_of {ns : List Int} {n r t : Int} (hall : ∀ x ∈ ns, 1 ≤ x ∧ x ≤ 60) (ht : t ∈ ns) (h1 : n < t) (h2 : t - r ≤ n) (hm : ∀ y ∈ ns, n < y → y - r ≤ n → t ≤ y) : tellV ns n r = t := by
  unfold tellV
  rw [find_least (upI_rise 1 60) (t := t) (mem_upI.mpr (by have := hall t ht; omega)) (tellC_iff.mpr ⟨h1, h2, ht⟩) fun y _ hy => by
    obtain ⟨a, b, c⟩ := tellC_iff.mp hy
    exact hm y c a b]
  rfl
theorem tellV_none {ns : List Int} {n r : Int} (h : ∀ y ∈ ns, n < y → ¬ y - r ≤ n) : tellV ns n r = 0 := by
  unfold tellV
  have e : (upI 1 60).find? (tellC ns n r) = none := List.find?_eq_none.mpr fun y _ hy => by
    obtain ⟨a, b, c⟩ := tellC_iff.mp hy
    exact h y c a b
  rw [e]
  rfl
noncomputable def sgL : List Nat := (("mM ~aA0.xX_9" : Str).cps.toList)
theorem sgL_len : sgL.length = 12 := by decide +kernel
theorem sgL_nodup : sgL.Nodup := by decide +kernel
abbrev farS : Str := "a stranger of twenty"
abbrev stemS : Str := "a long stem of them"
structure Nms (nm : List Str) : Prop where
  nd : nm.Nodup
  lo : ∀ x ∈ nm, 1 ≤ x.length
  hi : ∀ x ∈ nm, x.length ≤ 20
  far : farS ∉ nm
theorem cps_app (a b : Str) : (a ++ b).cps.toList = a.cps.toList ++ b.cps.toList := by
  show (a.cps ++ b.cps).toList = _
  simp
theorem cps_one (c : Nat) : (⟨#[c]⟩ : Str).cps.toList = [c] := rfl
theorem nodup_map_of {α β : Type} {g : α → β} : ∀ {l : List α}, l.Nodup → (∀ x ∈ l, ∀ y ∈ l, g x = g y → x = y) → (l.map g).Nodup
  | [], _, _ => List.nodup_nil
  | x :: r, n, h => by
    rw [List.nodup_cons] at n
    rw [List.map_cons, List.nodup_cons]
    refine ⟨fun hm => ?_, nodup_map_of n.2 fun a ha b hb => h a (List.mem_cons_of_mem _ ha) b (List.mem_cons_of_mem _ hb)⟩
    obtain ⟨y, hy, e⟩ := List.mem_map.mp hm
    have := h x List.mem_cons_self y (List.mem_cons_of_mem _ hy) e.symm
    exact n.1 (this ▸ hy)
theorem upI_nodup (lo : Int) (n : Nat) : (upI lo n).Nodup := (upI_rise lo n).imp fun {a b} h => by omega
theorem turn_inj {t a b : Int} (ht : 0 ≤ t) (ht2 : t < 12) (a0 : 0 ≤ a) (a1 : a < 12) (b0 : 0 ≤ b) (b1 : b < 12) (h : (t + a) % 12 = (t + b) % 12) : a = b := by omega
noncomputable def repN (c : Nat) (t k : Int) : Str := repS ⟨#[c]⟩ (1 + (t + k) % 12).toNat
theorem repN_len (c : Nat) (t k : Int) : (repN c t k).length = (1 + (t + k) % 12).toNat := by
  unfold repN
  rw [← str_len]
  show ((List.replicate _ [c]).flatten.toArray).toList.length = _
  simp
theorem nms_rep (c : Nat) {t : Int} (h0 : 0 ≤ t) (h1 : t < 12) {m : Nat} (hm : m ≤ 12) : Nms ((upI 0 m).map (repN c t)) where
  nd := nodup_map_of (upI_nodup _ _) fun a ha b hb e => by
    have ha' := mem_upI.mp ha
    have hb' := mem_upI.mp hb
    have e2 := congrArg Str.length e
    rw [repN_len, repN_len] at e2
    exact turn_inj h0 h1 (by omega) (by omega) (by omega) (by omega) (by omega)
  lo := fun x hx => by
    obtain ⟨k, hk, rfl⟩ := List.mem_map.mp hx
    rw [repN_len]
    omega
  hi := fun x hx => by
    obtain ⟨k, hk, rfl⟩ := List.mem_map.mp hx
    rw [repN_len]
    omega
  far := fun hx => by
    obtain ⟨k, hk, e⟩ := List.mem_map.mp hx
    have e2 := congrArg Str.length e
    rw [repN_len] at e2
    have e3 : farS.length = 20 := by decide +kernel
    omega
noncomputable def stemN (st : Str) (sp : Int) (t k : Int) : Str := cutS st none (some sp) ++ ⟨#[sgL.getD ((t + k) % 12).toNat 0]⟩ ++ cutS st (some sp) none
theorem sIx_some {n d : Nat} {v : Int} (h0 : 0 ≤ v) (h1 : v ≤ n) : HT.sIx n d (some v) = v.toNat := by
  show (if v < 0 then (v + (n : Int)).toNat else min v.toNat n) = _
  rw [if_neg (by omega), Nat.min_eq_left (by omega)]
theorem cut_lo (st : Str) {sp : Int} (h0 : 0 ≤ sp) (h1 : sp ≤ st.length) : (cutS st none (some sp)).cps.toList = st.cps.toList.take sp.toNat := by
  show ((st.cps.toList.drop 0).take (HT.sIx st.length st.length (some sp) - 0)) = _
  rw [sIx_some h0 h1, List.drop_zero, Nat.sub_zero]
theorem cut_hi (st : Str) {sp : Int} (h0 : 0 ≤ sp) (h1 : sp ≤ st.length) : (cutS st (some sp) none).cps.toList = st.cps.toList.drop sp.toNat := by
  show ((st.cps.toList.drop (HT.sIx st.length 0 (some sp))).take (st.length - HT.sIx st.length 0 (some sp))) = _
  rw [sIx_some h0 h1, List.take_of_length_le]
  rw [List.length_drop, str_len]
  exact Nat.le_refl _
theorem stemN_cps (st : Str) {sp : Int} (h0 : 0 ≤ sp) (h1 : sp ≤ st.length) (t k : Int) : (stemN st sp t k).cps.toList = st.cps.toList.take sp.toNat ++ sgL.getD ((t + k) % 12).toNat 0 :: st.cps.toList.drop sp.toNat := by
  unfold stemN
  rw [cps_app, cps_app, cut_lo st h0 h1, cut_hi st h0 h1, cps_one, List.append_assoc]
  rfl
theorem stemN_len (st : Str) {sp : Int} (h0 : 0 ≤ sp) (h1 : sp ≤ st.length) (t k : Int) : (stemN st sp t k).length = st.length + 1 := by
  rw [← str_len, stemN_cps st h0 h1, List.length_append, List.length_cons, List.length_take, List.length_drop, str_len]
  omega
theorem far_stem : ∀ s < 20, ∀ i < 12, stemS.cps.toList.take s ++ sgL.getD i 0 :: stemS.cps.toList.drop s ≠ farS.cps.toList := by decide +kernel
theorem nms_stem {st : Str} (hst : st = "" ∨ st = "row" ∨ st = stemS) {sp : Int} (h0 : 0 ≤ sp) (h1 : sp ≤ st.length) {t : Int} (t0 : 0 ≤ t) (t1 : t < 12) {m : Nat} (hm : m ≤ 12) : Nms ((upI 0 m).map (stemN st sp t)) where
  nd := nodup_map_of (upI_nodup _ _) fun a ha b hb e => by
    have ha' := mem_upI.mp ha
    have hb' := mem_upI.mp hb
    have e2 : (stemN st sp t a).cps.toList = (stemN st sp t b).cps.toList := congrArg (fun z : Str => z.cps.toList) e
    rw [stemN_cps st h0 h1, stemN_cps st h0 h1] at e2
    have e3 := List.append_cancel_left e2
    have e4 : sgL.getD ((t + a) % 12).toNat 0 = sgL.getD ((t + b) % 12).toNat 0 := (List.cons.inj e3).1
    have l1 : ((t + a) % 12).toNat < sgL.length := by rw [sgL_len]; omega
    have l2 : ((t + b) % 12).toNat < sgL.length := by rw [sgL_len]; omega
    rw [List.getD_eq_getElem?_getD, List.getElem?_eq_getElem l1, List.getD_eq_getElem?_getD, List.getElem?_eq_getElem l2] at e4
    have e5 := (List.getElem_inj sgL_nodup).mp e4
    exact turn_inj t0 t1 (by omega) (by omega) (by omega) (by omega) (by omega)
  lo := fun x hx => by
    obtain ⟨k, hk, rfl⟩ := List.mem_map.mp hx
    rw [stemN_len st h0 h1]
    omega
  hi := fun x hx => by
    obtain ⟨k, hk, rfl⟩ := List.mem_map.mp hx
    rw [stemN_len st h0 h1]
    have l1 : ("" : Str).length = 0 := by decide +kernel
    have l2 : ("row" : Str).length = 3 := by decide +kernel
    have l3 : stemS.length = 19 := by decide +kernel
    rcases hst with rfl | rfl | rfl <;> omega
  far := fun hx => by
    obtain ⟨k, hk, e⟩ := List.mem_map.mp hx
    have l1 : ("" : Str).length = 0 := by decide +kernel
    have l2 : ("row" : Str).length = 3 := by decide +kernel
    have l3 : stemS.length = 19 := by decide +kernel
    have l4 : farS.length = 20 := by decide +kernel
    have e2 := congrArg Str.length e
    rw [stemN_len st h0 h1] at e2
    rcases hst with rfl | rfl | rfl
    · omega
    · omega
    · have e3 : (stemN stemS sp t k).cps.toList = farS.cps.toList := congrArg (fun z : Str => z.cps.toList) e
      rw [stemN_cps stemS h0 h1] at e3
      exact far_stem sp.toNat (by omega) ((t + k) % 12).toNat (by omega) e3
noncomputable def spNamed : Sp := fun vs H Q _ => ∃ c m : Int, vs = [.int c, .int m] ∧ 0 ≤ m ∧ m ≤ 12 ∧
  ∀ (l : Addr) (nm : List Str) (H' : Hp), H l = none → Same H H' → H' l = some (.lst (nm.map V.str)) → nm.length = m.toNat → Nms nm → Q (.ref l) H'
theorem kept_all {f : Int → V} (l : List Int) : keptV (fun _ => true) f l = l.map f := by
  unfold keptV
  rw [List.filter_eq_self.mpr fun _ _ => rfl]
theorem ok_named (M : Bl mg) (F : Fun K "_law_named" "_law_named" s_law_named f fd) : FnOk P w K mg base CX0 1 f fd p_law_named spNamed := by
  have nd := sc_law_named.nd
  refine F.ok sc_law_named (fun vs H Q E h => ?_) (fun cdv A outer s H vs Q E hr h => ?_)
  · obtain ⟨c, m, rfl, _⟩ := h
    rfl
  obtain ⟨c, m, rfl, m0, m1, q⟩ := h
  refine ⟨_, (pss_cons (ps_set (i := 2) nd rfl (Or.inr rfl) pe_str) (pss_cons (ps_set (i := 3) nd rfl (Or.inr rfl) (pe_op op_mod (pe_op op_fdiv (pv 0) pe_int) pe_int)) (pss_cons (ps_if (pt_cmpR op_eq (pe_op op_mod (pv 0) pe_int) pe_int (nomark _)) (pss_one (ps_ret (pe_comp ["_law_k"] ["_law_cell", "_law_turn"] [0, 3] rfl (comp_scope rfl (by decide +kernel) rfl (by decide +kernel) rfl rfl) (pi_range1 rfl M.range (pa_cons (pv 1) pa_nil)) (fun _ _ _ _ _ => (pg_name (i := 0) (show ((["_law_k"] : List PySem.Str) ++ (["_law_cell", "_law_turn"] : List PySem.Str)).Nodup from by decide +kernel) rfl (Or.inl rfl))) (own_name (by decide)) mono_name (fun _ _ _ _ _ => pts_nil) (fun _ _ _ _ _ => (pe_op op_mul_str (pe_ix ix_str pe_str (pe_op op_mod (pe_op op_fdiv (pv 1) pe_int) pe_int) (fun _ _ => rfl)) (pe_op op_add pe_int (pe_op op_mod (pe_op op_add (pv 2) (pv 0)) pe_int))))))) pss_nil) (pss_cons (ps_set (i := 4) nd rfl (Or.inr rfl) (pe_ix ix_list (pe_lst (pa_cons pe_str (pa_cons pe_str (pa_cons pe_str pa_nil)))) (pe_op op_mod (pv 0) pe_int) (fun _ _ => rfl))) (pss_cons (ps_set (i := 5) nd rfl (Or.inr rfl) (pe_op op_mod (pe_op op_fdiv (pv 0) pe_int) (pe_op op_add (pe_callB call_len_str rfl M.len PySem.boot_len (pa_cons (pv 4) pa_nil)) pe_int))) (pss_one (ps_ret (pe_comp ["_law_k"] ["_law_stem", "_law_signs", "_law_spot", "_law_turn"] [4, 2, 5, 3] rfl (comp_scope rfl (by decide +kernel) rfl (by decide +kernel) rfl rfl) (pi_range1 rfl M.range (pa_cons (pv 1) pa_nil)) (fun _ _ _ _ _ => (pg_name (i := 0) (show ((["_law_k"] : List PySem.Str) ++ (["_law_stem", "_law_signs", "_law_spot", "_law_turn"] : List PySem.Str)).Nodup from by decide +kernel) rfl (Or.inl rfl))) (own_name (by decide)) mono_name (fun _ _ _ _ _ => pts_nil) (fun _ _ _ _ _ => (pe_op op_add_str (pe_op op_add_str (pe_slice sl_str (pv 1) po_none (po_some (pv 3))) (pe_ix ix_str (pv 2) (pe_op op_mod (pe_op op_add (pv 4) (pv 0)) pe_int) (fun _ _ => rfl))) (pe_slice sl_str (pv 1) (po_some (pv 3)) po_none))))))))))), ?_⟩
  have t0 : 0 ≤ c / 4 % 12 := Int.emod_nonneg _ (by decide)
  have t1 : c / 4 % 12 < 12 := Int.emod_lt_of_pos _ (by decide)
  refine ⟨_, rfl, _, _, rfl, rfl, ⟨by decide, by decide⟩, _, _, rfl, rfl, (by show (0 : Int) < 12; decide), ?_⟩
  refine ⟨_, rfl, _, _, rfl, rfl, (by show (0 : Int) < 4; decide), rfl, _, rfl, ?_⟩
  refine ite2 (fun _ => ?_) (fun cn => ?_)
  · obtain ⟨sg, hsg⟩ : ∃ sg, atI (("a ~" : Str).cps.toList) (c / 48 % 3) = some sg := by
      have h0 : 0 ≤ c / 48 % 3 := Int.emod_nonneg _ (by decide)
      have h1 : c / 48 % 3 < 3 := Int.emod_lt_of_pos _ (by decide)
      have ek : c / 48 % 3 = (((c / 48 % 3).toNat : Nat) : Int) := by omega
      have hl : (("a ~" : Str).cps.toList).length = 3 := by decide +kernel
      rw [ek]
      exact ⟨_, atI_nat (List.getElem?_eq_getElem (by rw [hl]; omega))⟩
    refine ⟨_, rfl, _, rfl, by omega, by omega, ?_⟩
    refine comp_up (lo := 0) (n := m.toNat) (fun _ => true) (fun k => .str (repN sg (c / 4 % 12) k)) (by omega) (fun k ys N k0 k1 hN => ?_) ?_
    · refine ⟨_, rfl, _, _, rfl, rfl, ⟨by decide, by decide⟩, _, _, rfl, rfl, (by show (0 : Int) < 3; decide), _, _, sg, rfl, rfl, (by decide +kernel), hsg, ?_⟩
      refine ⟨_, rfl, _, rfl, _, _, rfl, rfl, _, _, rfl, rfl, (by show (0 : Int) < 12; decide), _, _, rfl, rfl, _, _, rfl, rfl, ?_, ?_, ?_, ?_⟩
      · have := Int.emod_nonneg (c / 4 % 12 + k) (show (12 : Int) ≠ 0 by decide)
        omega
      · have := Int.emod_lt_of_pos (c / 4 % 12 + k) (show (0 : Int) < 12 by decide)
        omega
      · show 1 ≤ 1000
        decide
      · exact hN
    · intro D hD
      rw [kept_all]
      refine q D ((upI 0 m.toNat).map (repN sg (c / 4 % 12))) _ hD (same_new hD _) ?_ (by rw [List.length_map, upI_length]) (nms_rep sg t0 t1 (by omega))
      rw [upd_same, List.map_map]
      rfl
  · have c4 : c % 4 = 0 ∨ c % 4 = 1 ∨ c % 4 = 2 := by
      have h1 := Int.emod_nonneg c (show (4 : Int) ≠ 0 by decide)
      have h2 := Int.emod_lt_of_pos c (show (0 : Int) < 4 by decide)
      have h3 : c % 4 ≠ 3 := fun e => cn (decide_eq_true (congrArg V.int e))
      omega
    obtain ⟨st, hat, hst⟩ : ∃ st : Str, atI [V.str "", V.str "row", V.str "a long stem of them"] (c % 4) = some (.str st) ∧ (st = "" ∨ st = "row" ∨ st = stemS) := by
      rcases c4 with e | e | e <;> rw [e]
      · exact ⟨_, rfl, .inl rfl⟩
      · exact ⟨_, rfl, .inr (.inl rfl)⟩
      · exact ⟨_, rfl, .inr (.inr rfl)⟩
    have stl : st.length ≤ 19 := by
      have l1 : ("" : Str).length = 0 := by decide +kernel
      have l2 : ("row" : Str).length = 3 := by decide +kernel
      have l3 : stemS.length = 19 := by decide +kernel
      rcases hst with rfl | rfl | rfl <;> omega
    refine ⟨(by show 3 ≤ sizeLine; decide), fun p hp => ⟨_, rfl, _, _, rfl, rfl, (by show (0 : Int) < 4; decide), p, _, _, _, rfl, rfl, SqL.of upd_same, hat, ?_⟩⟩
    refine ⟨_, rfl, _, _, rfl, rfl, ⟨by decide, by decide⟩, _, rfl, st, rfl, small (by omega), _, _, rfl, rfl, _, _, rfl, rfl, by omega, ?_⟩
    have s0 : 0 ≤ c / 48 % ((st.length : Int) + 1) := Int.emod_nonneg _ (by omega)
    have s1 : c / 48 % ((st.length : Int) + 1) ≤ (st.length : Int) := by
      have := Int.emod_lt_of_pos (c / 48) (show (0 : Int) < (st.length : Int) + 1 by omega)
      omega
    refine ⟨_, rfl, _, rfl, by omega, by omega, ?_⟩
    refine comp_up (lo := 0) (n := m.toNat) (fun _ => true) (fun k => .str (stemN st (c / 48 % ((st.length : Int) + 1)) (c / 4 % 12) k)) (by omega) (fun k ys N k0 k1 hN => ?_) ?_
    · have i0 := Int.emod_nonneg (c / 4 % 12 + k) (show (12 : Int) ≠ 0 by decide)
      have i1 := Int.emod_lt_of_pos (c / 4 % 12 + k) (show (0 : Int) < 12 by decide)
      have hsg : atI (("mM ~aA0.xX_9" : Str).cps.toList) ((c / 4 % 12 + k) % 12) = some (sgL.getD ((c / 4 % 12 + k) % 12).toNat 0) := by
        have ek : (c / 4 % 12 + k) % 12 = ((((c / 4 % 12 + k) % 12).toNat : Nat) : Int) := by omega
        have l1 : ((c / 4 % 12 + k) % 12).toNat < sgL.length := by rw [sgL_len]; omega
        have q1 : atI sgL ((((c / 4 % 12 + k) % 12).toNat : Nat) : Int) = some (sgL.getD ((c / 4 % 12 + k) % 12).toNat 0) := atI_nat (by
          rw [List.getD_eq_getElem?_getD, List.getElem?_eq_getElem l1]
          rfl)
        rw [← ek] at q1
        exact q1
      have la : (cutS st none (some (c / 48 % ((st.length : Int) + 1)))).length ≤ 19 := by
        rw [← str_len, cut_lo st s0 s1, List.length_take, str_len]
        omega
      have lb : (cutS st (some (c / 48 % ((st.length : Int) + 1))) none).length ≤ 19 := by
        rw [← str_len, cut_hi st s0 s1, List.length_drop, str_len]
        omega
      have lc : ∀ (x : Nat), (⟨#[x]⟩ : Str).length = 1 := fun _ => rfl
      have lab : ∀ (x : Nat), (cutS st none (some (c / 48 % ((st.length : Int) + 1))) ++ (⟨#[x]⟩ : Str)).length ≤ 20 := fun x => by
        rw [← str_len, cps_app, List.length_append, str_len, str_len, lc]
        omega
      refine ⟨_, rfl, _, rfl, _, rfl, st, rfl, small (by omega), ?_⟩
      refine ⟨_, rfl, _, rfl, _, rfl, _, _, rfl, rfl, _, _, rfl, rfl, (by show (0 : Int) < 12; decide), _, _, _, rfl, rfl, (by decide +kernel), hsg, ?_⟩
      refine ⟨_, _, rfl, rfl, small (by rw [lc]; omega), ?_⟩
      refine ⟨_, rfl, _, rfl, _, rfl, st, rfl, small (by omega), _, _, rfl, rfl, small (by have := lab (sgL.getD ((c / 4 % 12 + k) % 12).toNat 0); omega), ?_⟩
      exact hN
    · intro D hD
      rw [kept_all]
      refine q D ((upI 0 m.toNat).map (stemN st (c / 48 % ((st.length : Int) + 1)) (c / 4 % 12))) _ ((same_new hp _).free hD) ((same_new hp _).trans (same_new hD _)) ?_ (by rw [List.length_map, upI_length]) (nms_stem hst s0 s1 t0 t1 (by omega))
      rw [upd_same, List.map_map]
      rfl
noncomputable def spDoubled : Sp := fun vs H Q _ => ∃ t : Int, vs = [.int t] ∧ 0 ≤ t ∧ t < 1000000 ∧ Q (.int (2 ^ t.toNat)) H
theorem ok_doubled (M : Bl mg) (F : Fun K "_law_doubled" "_law_doubled" s_law_doubled f fd) : FnOk P w K mg base CX0 1 f fd p_law_doubled spDoubled := by
  have nd := sc_law_doubled.nd
  refine F.ok sc_law_doubled (fun vs H Q E h => ?_) (fun cdv A outer s H vs Q E hr h => ?_)
  · obtain ⟨t, rfl, _⟩ := h
    rfl
  obtain ⟨t, rfl, t0, t1, q⟩ := h
  refine ⟨_, (pss_cons (ps_set (i := 1) nd rfl (Or.inl rfl) pe_int) (pss_cons (ps_for PassesOwn.never rfl (pi_range1 rfl M.range (pa_cons (pv 0) pa_nil)) (pg_name (i := 2) nd rfl (Or.inl rfl)) (pss_one (ps_set (i := 1) nd rfl (Or.inl rfl) (pe_op op_mul (pv 1) pe_int)))) (pss_one (ps_ret (pv 1))))), ?_⟩
  refine ⟨_, rfl, _, rfl, by omega, by omega, ?_⟩
  refine for_range (lo := 0) (n := t.toNat) (fun i σ H' => H' = H ∧ ∃ o, σ = [some (.int t), some (.int (2 ^ i)), o]) ⟨rfl, _, rfl⟩ (fun i σ H' hi hp => ?_) (fun σ H' hp => ?_)
  · obtain ⟨rfl, o, rfl⟩ := hp
    refine ⟨_, rfl, _, _, rfl, rfl, .inr ⟨by decide, by decide⟩, rfl, some (.int (0 + (i : Int))), ?_⟩
    rw [Int.pow_succ]
    rfl
  · obtain ⟨rfl, o, rfl⟩ := hp
    exact ⟨_, rfl, q⟩
theorem flat_strs (ns : List Str) : (ns.map V.str).all flatV = true := by
  rw [List.all_map, List.all_eq_true]
  intro x _
  rfl
theorem at_strs {ns : List Str} {k : Int} (h0 : 0 ≤ k) (h : k < (ns.length : Int)) : ∃ x, ns[k.toNat]? = some x ∧ atI (ns.map V.str) k = some (.str x) := by
  have hk : k.toNat < ns.length := by omega
  have ek : k = ((k.toNat : Nat) : Int) := by omega
  have q : atI (ns.map V.str) ((k.toNat : Nat) : Int) = some (.str ns[k.toNat]) := atI_nat (by rw [List.getElem?_map, List.getElem?_eq_getElem hk]; rfl)
  rw [← ek] at q
  exact ⟨_, List.getElem?_eq_getElem hk, q⟩
abbrev Row := List (Str × Int)
noncomputable def pairD (p : Str × Int) : DV := .tup [.str p.1, .int p.2]
noncomputable def rowD (r : Row) : DV := .tup (r.map pairD)
theorem no_lst {xs : List V} : ∀ ys, HO.lst xs ≠ .tup ys := fun _ e => by cases e
structure Rws (nm : List Str) (rows : List Row) : Prop where
  sub : ∀ r ∈ rows, (r.map Prod.fst).Sublist nm
  val : ∀ r ∈ rows, ∀ p ∈ r, 0 ≤ p.2 ∧ p.2 ≤ 1000000
noncomputable def nmsD (s : List Str) : DV := .tup (s.map DV.str)
noncomputable def dnI (hi : Int) (j : Nat) : List Int := (List.range j).map fun (k : Nat) => hi - (k : Int)
theorem dnI_succ (hi : Int) (j : Nat) : dnI hi (j + 1) = dnI hi j ++ [hi - (j : Int)] := by
  unfold dnI
  rw [List.range_succ, List.map_append]
  rfl
theorem dnI_len (hi : Int) (j : Nat) : (dnI hi j).length = j := by unfold dnI; rw [List.length_map, List.length_range]
theorem mem_dnI {hi : Int} {j : Nat} {x : Int} : x ∈ dnI hi j ↔ hi - j < x ∧ x ≤ hi := by
  unfold dnI
  rw [List.mem_map]
  constructor
  · rintro ⟨k, hk, rfl⟩
    have := List.mem_range.mp hk
    omega
  · rintro ⟨h1, h2⟩
    exact ⟨(hi - x).toNat, List.mem_range.mpr (by omega), by omega⟩
noncomputable def nmsOf (r : Row) : List Str := r.map Prod.fst
noncomputable def rowAt (rows : List Row) (n : Int) : Row := rows.getD (n - 1).toNat []
noncomputable def tailP (rows : List Row) (k : Int) : DV := .tup [.int k, nmsD (nmsOf (rowAt rows k))]
noncomputable def tailN (n r : Int) : List Int := (dnI (n - 1) (n - 1).toNat).filter fun k => decide (n - k ≤ r)
noncomputable def tailD (rows : List Row) (n r : Int) : DV := .tup ((tailN n r).map (tailP rows))
noncomputable def issueD (rows : List Row) (n r : Int) : DV := .tup [.int n, rowD (rowAt rows n), tailD rows n r]
theorem tells_row {H : Hp} {rows : List Row} {us : List V} (h : Tells H (rows.map rowD) us) {k : Int} (k0 : 1 ≤ k) (k1 : k ≤ rows.length) : ∃ v, us[(k - 1).toNat]? = some v ∧ atI us (k - 1) = some v ∧ Tell H (rowD (rowAt rows k)) v := by
  have hk : (k - 1).toNat < rows.length := by omega
  obtain ⟨v, e, t⟩ := h.get (k - 1).toNat (rowD (rowAt rows k)) (by
    unfold rowAt
    rw [List.getElem?_map, List.getD_eq_getElem?_getD, List.getElem?_eq_getElem hk]
    rfl)
  have ek : k - 1 = (((k - 1).toNat : Nat) : Int) := by omega
  exact ⟨v, e, by rw [ek]; exact atI_nat e, t⟩
theorem tells_pairs {H : Hp} : ∀ {r : Row} {xs : List V}, Tells H (r.map pairD) xs → ∀ (i : Nat) (x : V), xs[i]? = some x → ∃ (p : Str × Int) (a : Addr), r[i]? = some p ∧ x = .ref a ∧ H a = some (.tup [.str p.1, .int p.2]) := by
  intro r xs h i x e
  obtain ⟨d, e1, t⟩ := h.at i x e
  rw [List.getElem?_map] at e1
  cases er : r[i]? with
  | none => rw [er] at e1; cases e1
  | some p =>
    rw [er] at e1
    have e2 : pairD p = d := Option.some.inj e1
    subst e2
    obtain ⟨a, ys, rfl, h1, _, h2⟩ := tell_tup_inv t
    obtain ⟨y1, r1, rfl, t1, h3⟩ := tells_cons_inv h2
    obtain ⟨y2, r2, rfl, t2, h4⟩ := tells_cons_inv h3
    have := tells_nil_inv h4
    subst this
    rw [tell_str_inv t1, tell_int_inv t2] at h1
    exact ⟨p, a, rfl, rfl, h1⟩
noncomputable def spIssue (K : PySem.W.Frag) : Sp := fun vs H Q _ => ∃ (lr : Addr) (us : List V) (rows : List Row) (n r : Int), vs = [.ref lr, .int n, .int r] ∧ SqL K H lr us ∧ Tells H (rows.map rowD) us ∧ rows.length ≤ 900 ∧ (∀ w ∈ rows, w.length ≤ 12) ∧ 1 ≤ n ∧ n ≤ rows.length ∧
  ∀ (v : V) (H' : Hp), Same H H' → Tell H' (issueD rows n r) v → Q v H'
theorem rowAt_len {rows : List Row} (h : ∀ w ∈ rows, w.length ≤ 12) (k : Int) : (rowAt rows k).length ≤ 12 := by
  unfold rowAt
  rw [List.getD_eq_getElem?_getD]
  cases e : rows[(k - 1).toNat]? with
  | none => exact Nat.zero_le _
  | some w => exact h w (List.mem_of_getElem? e)
theorem ok_issue (M : Bl mg) (F : Fun K "_law_issue" "_law_issue" s_law_issue f fd) : FnOk P w K mg base CX0 1 f fd p_law_issue (spIssue K) := by
  have nd := sc_law_issue.nd
  refine F.ok sc_law_issue (fun vs H Q E h => ?_) (fun cdv A outer s H vs Q E hr h => ?_)
  · obtain ⟨lr, us, rows, n, r, rfl, _⟩ := h
    rfl
  obtain ⟨lr, us, rows, n, r, rfl, hS, hT, n0, n12, n1, n2, q⟩ := h
  refine ⟨_, (pss_cons (ps_set (i := 3) nd rfl (Or.inl rfl) (pe_lst pa_nil)) (pss_cons (ps_for PassesOwn.never rfl (pi_rangeD rfl M.range (pa_cons (pe_op op_sub (pv 1) pe_int) (pa_cons pe_int (pa_cons (pe_un un_neg pe_int) pa_nil)))) (pg_name (i := 4) nd rfl (Or.inl rfl)) (pss_one (ps_if (pt_cmpR op_le (pe_op op_sub (pv 1) (pv 4)) (pv 2) (nomark _)) (pss_one (ps_expr (pe_bm PySem.F.plainAttrs_list PySem.F.slot_list_append PySem.F.type_list_append mt_append (pv 3) (pa_cons (pe_tup (pa_cons (pv 4) (pa_cons (pe_callTy call_tuple_of rfl M.tuple PyProof.Rows.boot_tuple (pa_cons (pe_comp ["_law_row_here"] [] [] rfl (comp_scope rfl (by decide +kernel) rfl (by decide +kernel) rfl rfl) (pi_tup (pe_ix ix_list (pv 0) (pe_op op_sub (pv 4) pe_int) (fun _ _ => rfl))) (fun _ _ _ _ _ => (pg_name (i := 0) (show ((["_law_row_here"] : List PySem.Str) ++ ([] : List PySem.Str)).Nodup from by decide +kernel) rfl (Or.inl rfl))) (own_name (by decide)) mono_name (fun _ _ _ _ _ => pts_nil) (fun _ _ _ _ _ => (pe_ix (r := rIxT K) ix_tup (pv 0) pe_int (fun _ _ => rfl)))) pa_nil)) pa_nil))) pa_nil)))) pss_nil))) (pss_one (ps_ret (pe_tup (pa_cons (pv 1) (pa_cons (pe_callTy call_tuple_of rfl M.tuple PyProof.Rows.boot_tuple (pa_cons (pe_ix ix_list (pv 0) (pe_op op_sub (pv 1) pe_int) (fun _ _ => rfl)) pa_nil)) (pa_cons (pe_callTy call_tuple_of rfl M.tuple PyProof.Rows.boot_tuple (pa_cons (pv 3) pa_nil)) pa_nil)))))))), ?_⟩
  refine ⟨(by show 0 ≤ sizeLine; decide), fun lt hlt => ?_⟩
  refine ⟨_, rfl, _, _, rfl, rfl, _, rfl, n - 1, 0, rfl, ⟨by omega, by omega, by decide, by decide⟩, ?_⟩
  have e0 : (n - 1 - 0).toNat = (n - 1).toNat := by rw [Int.sub_zero]
  rw [e0]
  refine for_down (hi := n - 1) (n := (n - 1).toNat) (fun j σ H' => ∃ (zs : List V) (o : Option V), H' lt = some (.lst zs) ∧ Tells H' (((dnI (n - 1) j).filter fun k => decide (n - k ≤ r)).map (tailP rows)) zs ∧ Same H H' ∧
    σ = [some (.ref lr), some (.int n), some (.int r), some (.ref lt), o]) ⟨[], _, upd_same, .nil, same_new hlt _, rfl⟩ (fun j σ H' hj hp => ?_) (fun σ H' hp => ?_)
  · obtain ⟨zs, o, p1, p2, p3, rfl⟩ := hp
    have lz := p2.length
    rw [List.length_map] at lz
    have lf := List.length_filter_le (fun k => decide (n - k ≤ r)) (dnI (n - 1) j)
    rw [dnI_len] at lf
    have st : ((dnI (n - 1) (j + 1)).filter fun k => decide (n - k ≤ r)) = ((dnI (n - 1) j).filter fun k => decide (n - k ≤ r)) ++ (if decide (n - (n - 1 - (j : Int)) ≤ r) = true then [n - 1 - (j : Int)] else []) := by
      rw [dnI_succ, List.filter_append, List.filter_cons]
      rfl
    refine ⟨_, rfl, _, rfl, _, _, rfl, rfl, _, rfl, _, _, rfl, rfl, _, rfl, ?_⟩
    refine ite2 (fun c => ?_) (fun c => ?_)
    · rw [if_pos c] at st
      have hTk := Tells.keep p3 _ _ hT
      obtain ⟨v, ev, av, tv⟩ := tells_row hTk (k := n - 1 - (j : Int)) (by omega) (by omega)
      obtain ⟨ra, xs, rfl, hra, lxs, txs⟩ := tell_tup_inv tv
      have lrow := rowAt_len n12 (n - 1 - (j : Int))
      have lx := txs.length
      rw [List.length_map] at lx
      refine ⟨_, rfl, .inl ⟨rfl, _, SqL.of p1⟩, _, rfl, _, rfl, _, rfl, _, _, rfl, rfl, lr, _, _, _, rfl, rfl, p3.seq hS, av, ra, rfl, ⟨_, SqT.of hra⟩, ?_⟩
      refine comp_tup (xs := xs) (fun i ys H2 => H2 = H' ∧ ys = ((nmsOf (rowAt rows (n - 1 - (j : Int)))).take i).map V.str) ⟨rfl, rfl⟩ (fun i ys H2 hi hp => ?_) (fun i x ys H2 hx hp => ?_) (fun ys H2 hp => ?_)
      · obtain ⟨rfl, rfl⟩ := hp
        refine ⟨SqT.of hra, small1000 ?_⟩
        rw [List.length_map, List.length_take]
        omega
      · obtain ⟨rfl, rfl⟩ := hp
        obtain ⟨p, a, er, rfl, ha⟩ := tells_pairs txs i x hx
        refine ⟨_, rfl, a, _, _, _, rfl, rfl, SqT.of ha, rfl, rfl, ?_⟩
        have en : (nmsOf (rowAt rows (n - 1 - (j : Int))))[i]? = some p.1 := by unfold nmsOf; rw [List.getElem?_map, er]; rfl
        rw [take_snoc en, List.map_append]
        rfl
      · obtain ⟨rfl, rfl⟩ := hp
        have ll : (nmsOf (rowAt rows (n - 1 - (j : Int)))).length = xs.length := by unfold nmsOf; rw [List.length_map]; exact lx.symm
        rw [← ll, List.take_length]
        intro D hD
        refine ⟨D, _, rfl, .inl ⟨SqL.of upd_same, fun t ht => ⟨(by show 2 ≤ sizeLine; decide), fun t2 ht2 => ?_⟩⟩⟩
        have g1 := (same_new (H := H2) hD (.lst ((nmsOf (rowAt rows (n - 1 - (j : Int)))).map V.str))).trans ((same_new ht (.tup ((nmsOf (rowAt rows (n - 1 - (j : Int)))).map V.str))).trans (same_new ht2 (.tup [.int (n - 1 - (j : Int)), .ref t])))
        refine ⟨lt, zs, _, rfl, rfl, g1 _ _ p1, small1000 (by omega), ?_⟩
        refine ⟨_, some (.int (n - 1 - (j : Int))), upd_same, ?_, same_upd (p3.trans g1) hlt, rfl⟩
        rw [st, List.map_append]
        refine Tells.over (g1 _ _ p1) no_lst _ _ (Tells.snoc (Tells.keep g1 _ _ p2) (tell_tup upd_same (by show 2 ≤ 1000000; decide) (.cons (tell_int _) (.cons ?_ .nil))))
        refine tell_tup (same_new ht2 _ _ _ upd_same) ?_ (tells_strs _)
        rw [List.length_map, ll]
        omega
    · rw [if_neg c, List.append_nil] at st
      refine ⟨zs, some (.int (n - 1 - (j : Int))), p1, ?_, p3, rfl⟩
      rw [st]
      exact p2
  · obtain ⟨zs, o, p1, p2, p3, rfl⟩ := hp
    have lz := p2.length
    rw [List.length_map] at lz
    have lf := List.length_filter_le (fun k => decide (n - k ≤ r)) (dnI (n - 1) (n - 1).toNat)
    rw [dnI_len] at lf
    have hTk := Tells.keep p3 _ _ hT
    obtain ⟨v, ev, av, tv⟩ := tells_row hTk n1 n2
    obtain ⟨ra, xs, rfl, hra, lxs, txs⟩ := tell_tup_inv tv
    refine ⟨_, rfl, _, rfl, _, rfl, _, _, rfl, rfl, lr, _, _, _, rfl, rfl, p3.seq hS, av, ra, xs, rfl, .inr ⟨SqT.of hra, ?_⟩⟩
    refine ⟨_, rfl, lt, _, rfl, .inl ⟨SqL.of p1, fun t ht => ⟨(by show 3 ≤ sizeLine; decide), fun t2 ht2 => ?_⟩⟩⟩
    have g1 := (same_new (H := H') ht (.tup zs)).trans (same_new ht2 (.tup [.int n, .ref ra, .ref t]))
    refine q _ _ (p3.trans g1) ?_
    refine tell_tup upd_same (by show 3 ≤ 1000000; decide) (.cons (tell_int _) (.cons (Tell.keep g1 _ _ tv) (.cons ?_ .nil)))
    refine tell_tup (same_new ht2 _ _ _ upd_same) ?_ (Tells.keep g1 _ _ p2)
    rw [List.length_map]
    show ((dnI (n - 1) (n - 1).toNat).filter fun k => decide (n - k ≤ r)).length ≤ 1000000
    omega
structure GoodN (zs : List Str) : Prop where
  lo : 1 ≤ zs.length
  hi : zs.length ≤ 12
  nd : zs.Nodup
noncomputable def SqN (K : PySem.W.Frag) (H : Hp) (p : Addr) (zs : List Str) : Prop := SqL K H p (zs.map V.str) ∨ SqT K H p (zs.map V.str)
theorem SqN.keep {K : PySem.W.Frag} {H H' : Hp} {p : Addr} {zs : List Str} (h : Same H H') (x : SqN K H p zs) : SqN K H' p zs := x.imp (fun q => h.seq q) fun q => same_tup h q
noncomputable def spBadNames (K : PySem.W.Frag) : Sp := fun vs H Q _ => ∃ (p : Addr) (zs : List Str), vs = [.ref p] ∧ SqN K H p zs ∧ GoodN zs ∧ ∀ H', Same H H' → Q .non H'
theorem ok_badnames (M : Bl mg) (F : Fun K "refuse_bad_names" "refuse_bad_names" srefuse_bad_names f fd) : FnOk P w K mg base CX0 1 f fd prefuse_bad_names (spBadNames K) := by
  have nd := screfuse_bad_names.nd
  refine F.ok screfuse_bad_names (fun vs H Q E h => ?_) (fun cdv A outer s H vs Q E hr h => ?_)
  · obtain ⟨p, zs, rfl, _⟩ := h
    rfl
  · obtain ⟨p, zs, rfl, hp, g, k⟩ := h
    refine ⟨_, (pss_cons (ps_if (pt_cmpR op_lt (pe_callB call_len_seq rfl M.len PySem.boot_len (pa_cons (pv 0) pa_nil)) pe_int (nomark _)) (pss_one ps_never) pss_nil) (pss_cons (ps_if (pt_cmpR op_gt (pe_callB call_len_seq rfl M.len PySem.boot_len (pa_cons (pv 0) pa_nil)) (pe_con_int rfl M.MOST_NAMES) (nomark _)) (pss_one ps_never) pss_nil) (pss_one (ps_if (pt_cmpR op_ne (pe_callB call_len_setT rfl M.len PySem.boot_len (pa_cons (pe_callTy (call_set_texts rfl) rfl M.set PyProof.Rows.boot_set (pa_cons (pv 0) pa_nil)) pa_nil)) (pe_callB call_len_seq rfl M.len PySem.boot_len (pa_cons (pv 0) pa_nil)) (nomark _)) (pss_one ps_never) pss_nil)))), ?_⟩
    have := g.lo
    have := g.hi
    have el : (zs.map V.str).length = zs.length := List.length_map _
    refine ⟨_, rfl, p, _, rfl, hp, _, _, rfl, rfl, _, rfl, ite2 (fun q => absurd (dec_of q) (by omega)) fun _ => ?_⟩
    refine ⟨_, rfl, p, _, rfl, hp, _, _, rfl, rfl, _, rfl, ite2 (fun q => absurd (dec_of q) (by omega)) fun _ => ?_⟩
    refine ⟨_, rfl, p, zs, rfl, hp, by omega, fun l hl => ⟨l, zs, rfl, upd_same, by omega, _, rfl, p, zs.map V.str, rfl, SqN.keep (same_new hl _) hp, rfl, _, rfl, ?_⟩⟩
    refine iteNS ?_ (k _ (same_new hl _))
    rw [metL_nd g.nd, el]
noncomputable def spBadReach : Sp := fun vs H Q _ => ∃ r : Int, vs = [.int r] ∧ 0 ≤ r ∧ r ≤ 10 ∧ Q .non H
theorem ok_badreach (M : Bl mg) (F : Fun K "refuse_bad_reach" "refuse_bad_reach" srefuse_bad_reach f fd) : FnOk P w K mg base CX0 1 f fd prefuse_bad_reach spBadReach := by
  have nd := screfuse_bad_reach.nd
  refine F.ok screfuse_bad_reach (fun vs H Q E h => ?_) (fun cdv A outer s H vs Q E hr h => ?_)
  · obtain ⟨r, rfl, _⟩ := h
    rfl
  · obtain ⟨r, rfl, r0, r1, k⟩ := h
    refine ⟨_, (pss_one (ps_if (PW.pt (pw_or (pt_cmpR op_lt (pv 0) pe_int (nomark _)) (pw_or1 (pt_cmpR op_gt (pv 0) (pe_con_int rfl M.MOST_REACH) (nomark _))))) (pss_one ps_never) pss_nil)), ?_⟩
    refine ⟨_, rfl, _, _, rfl, rfl, _, rfl, ite2 (fun q => absurd (dec_of q) (by omega)) fun _ => ?_⟩
    exact ⟨_, rfl, _, _, rfl, rfl, _, rfl, ite2 (fun q => absurd (dec_of q) (by omega)) fun _ => k⟩
noncomputable def HdN (K : PySem.W.Frag) (H : Hp) (p : Addr) (zs : List Str) : Prop := SqL K H p (zs.map V.str) ∨ H p = some (.tup (zs.map V.str))
theorem HdN.sq {K : PySem.W.Frag} {H : Hp} {p : Addr} {zs : List Str} (h : HdN K H p zs) : SqN K H p zs := h.imp id SqT.of
theorem HdN.keep {K : PySem.W.Frag} {H H' : Hp} {p : Addr} {zs : List Str} (s : Same H H') (h : HdN K H p zs) : HdN K H' p zs := h.imp (fun q => s.seq q) fun q => s _ _ q
noncomputable def spBulletin (K : PySem.W.Frag) : Sp := fun vs H Q _ => ∃ (p : Addr) (zs : List Str) (r : Int), vs = [.ref p, .int r] ∧ HdN K H p zs ∧ GoodN zs ∧ 0 ≤ r ∧ r ≤ 10 ∧ ∀ (l : Addr) (H' : Hp), Same H H' → H' l = some (.tup (zs.map V.str)) → Q (.ref l) H'
theorem ok_bulletin (M : Bl mg) (F : Fun K "bulletin_names" "bulletin_names" sbulletin_names f fd) (Grefuse_bad_names : Cal P w K mg base 1 "refuse_bad_names" prefuse_bad_names (spBadNames K)) (Grefuse_bad_reach : Cal P w K mg base 1 "refuse_bad_reach" prefuse_bad_reach spBadReach) :
    FnOk P w K mg base CX0 2 f fd pbulletin_names (spBulletin K) := by
  have nd := scbulletin_names.nd
  refine F.ok scbulletin_names (fun vs H Q E h => ?_) (fun cdv A outer s H vs Q E hr h => ?_)
  · obtain ⟨p, zs, r, rfl, _⟩ := h
    rfl
  · obtain ⟨p, zs, r, rfl, hp, g, r0, r1, k⟩ := h
    refine ⟨_, (pss_cons (ps_expr (pe_cal Grefuse_bad_names (rm hr) rfl (pa_cons (pv 0) pa_nil))) (pss_cons (ps_expr (pe_cal Grefuse_bad_reach (rm hr) rfl (pa_cons (pv 1) pa_nil))) (pss_one (ps_ret (pe_callTy call_tuple_of rfl M.tuple PyProof.Rows.boot_tuple (pa_cons (pv 0) pa_nil)))))), ?_⟩
    refine ⟨_, rfl, p, zs, rfl, hp.sq, g, fun H1 s1 => ⟨_, rfl, r, rfl, r0, r1, _, rfl, p, zs.map V.str, rfl, ?_⟩⟩
    rcases hp.keep s1 with hq | hq
    · exact .inl ⟨hq, fun l hl => k l _ (s1.trans (same_new hl _)) upd_same⟩
    · exact .inr ⟨SqT.of hq, k p _ s1 hq⟩
noncomputable def SameBut (fp : List Addr) (H H' : Hp) : Prop := ∀ b o, H b = some o → b ∉ fp → H' b = some o
theorem SameBut.of {fp : List Addr} {H H' : Hp} (h : Same H H') : SameBut fp H H' := fun b o e _ => h b o e
noncomputable def NoTup (H : Hp) (fp : List Addr) : Prop := ∀ b ∈ fp, ∀ xs, H b ≠ some (.tup xs)
mutual
theorem Tell.but {fp : List Addr} {H H' : Hp} (s : SameBut fp H H') (n : NoTup H fp) : ∀ (d : DV) (x : V), Tell H d x → Tell H' d x
  | .non, _, h => by unfold Tell at h ⊢; exact h
  | .bl _, _, h => by unfold Tell at h ⊢; exact h
  | .int _, _, h => by unfold Tell at h ⊢; exact h
  | .str _, _, h => by unfold Tell at h ⊢; exact h
  | .tup ds, _, h => by
    unfold Tell at h ⊢
    obtain ⟨a, xs, e, h1, h2, h3⟩ := h
    exact ⟨a, xs, e, s _ _ h1 (fun m => n a m xs h1), h2, Tells.but s n ds xs h3⟩
theorem Tells.but {fp : List Addr} {H H' : Hp} (s : SameBut fp H H') (n : NoTup H fp) : ∀ (ds : List DV) (xs : List V), Tells H ds xs → Tells H' ds xs
  | [], _, h => by unfold Tells at h ⊢; exact h
  | d :: ds, _, h => by
    unfold Tells at h ⊢
    obtain ⟨x, r, e, h1, h2⟩ := h
    exact ⟨x, r, e, Tell.but s n d x h1, Tells.but s n ds r h2⟩
end
theorem SqL.but {K : PySem.W.Frag} {fp : List Addr} {H H' : Hp} {a : Addr} {xs : List V} (s : SameBut fp H H') (n : a ∉ fp) (h : SqL K H a xs) : SqL K H' a xs := by
  rcases h with (h | ⟨o, h⟩) | h
  · exact .inl (.inl (s _ _ h n))
  · exact .inl (.inr ⟨o, s _ _ h n⟩)
  · exact .inr h
theorem made_keep {H : Hp} {x dx b : Addr} {o u v : HO} (nx : H x = none) (ndx : H dx = none) (h : H b = some o) : upd (upd H dx u) x v b = some o := by
  rw [upd_ne (ne_of_none h nx), upd_ne (ne_of_none h ndx)]
  exact h
theorem same_made {H H1 : Hp} {C x dx : Addr} (s : Same H H1) (nx : H1 x = none) (ndx : H1 dx = none) : Same H (upd (upd H1 dx (.own x)) x (.ins C dx [])) := fun _ _ e => made_keep nx ndx (s _ _ e)
theorem same_init {H H1 H2 : Hp} {x : Addr} (b : SameBut [x] H1 H2) (m : Same H H1) (nx : H x = none) : Same H H2 := fun c o e => b c o (m c o e) (by
  rw [List.mem_singleton]
  exact ne_of_none e nx)
theorem fresh_init {H H1 : Hp} {x dx b : Addr} (m : Same H H1) (nx : H x = none) (ndx : H dx = none) (h : b = x ∨ b = dx ∨ H1 b = none) : H b = none := by
  rcases h with rfl | rfl | h
  · exact nx
  · exact ndx
  · exact m.free h
theorem ff_next {fp fp' fp2 : List Addr} {H7 H' GW : Hp} (bt : SameBut fp H7 H') (ff : ∀ b ∈ fp', b ∈ fp ∨ H7 b = none) (gW : Same H' GW) (hf2 : ∀ b ∈ fp2, b ∈ fp' ∨ GW b = none) : ∀ b ∈ fp2, b ∈ fp ∨ H7 b = none := fun b m => (hf2 b m).elim (ff b) fun z => by
  cases e : H7 b with
  | none => exact .inr rfl
  | some o =>
    by_cases nb : b ∈ fp
    · exact .inl nb
    · rw [gW _ _ (bt b o e nb)] at z
      cases z
noncomputable def riseL (had : List Int) : List Int := (upI 1 60).filter fun x => decide (x ∈ had)
noncomputable def topL (had : List Int) : Int := (riseL had).getLastD 0
noncomputable def addN (had : List Int) (n : Int) : List Int := if n ∈ had then had else had ++ [n]
theorem mem_addN {had : List Int} {n x : Int} : x ∈ addN had n ↔ x ∈ had ∨ x = n := by
  unfold addN
  by_cases h : n ∈ had
  · rw [if_pos h]
    exact ⟨.inl, fun q => q.elim id fun e => e ▸ h⟩
  · rw [if_neg h, List.mem_append, List.mem_singleton]
theorem mem_riseL {had : List Int} {x : Int} : x ∈ riseL had ↔ (1 ≤ x ∧ x < 1 + 60) ∧ x ∈ had := by
  unfold riseL
  rw [List.mem_filter, mem_upI, decide_eq_true_eq]
  rfl
theorem riseL_rise (had : List Int) : (riseL had).Pairwise (· < ·) := (upI_rise 1 60).filter _
theorem riseL_len (had : List Int) : (riseL had).length ≤ 60 := by
  have h := List.length_filter_le (fun x => decide (x ∈ had)) (upI 1 60)
  rw [upI_length] at h
  exact h
theorem rise_of {ns ms : List Int} (nd : ns.Nodup) (hall : ∀ x ∈ ns, 1 ≤ x ∧ x ≤ 60) (hp : ms.Perm ns) (hs : ms.Pairwise (· ≤ ·)) : ms = riseL ns := by
  have n2 : ms.Nodup := hp.nodup_iff.mpr nd
  have lt : ms.Pairwise (· < ·) := by
    have := List.pairwise_and_iff.mpr ⟨hs, n2⟩
    exact this.imp fun h => by
      have := h.1
      have := h.2
      omega
  refine rise_ext lt (riseL_rise _) fun x => ?_
  rw [mem_riseL, hp.mem_iff]
  exact ⟨fun h => ⟨by have := hall x h; omega, h⟩, fun h => h.2⟩
abbrev ShP := Hp → Addr → List Addr → List Str → Int → (Int → DV) → List Int → Prop
structure ShOk (C : Addr) (ms : List Str) (Sh : ShP) : Prop where
  ins : ∀ {H p fp zs r iss had}, Sh H p fp zs r iss had → ∃ dx fs, H p = some (.ins C dx fs) ∧ ∀ m ∈ ms, fs.lookup m = none
  own : ∀ {H p fp zs r iss had}, Sh H p fp zs r iss had → ∀ b ∈ fp, ∃ o, H b = some o ∧ ∀ xs, o ≠ .tup xs
  keep : ∀ {H H' p fp gp zs r iss had}, Sh H p fp zs r iss had → SameBut gp H H' → (∀ b ∈ gp, b ∉ fp) → NoTup H gp → Sh H' p fp zs r iss had
theorem ShOk.same {C : Addr} {ms : List Str} {Sh : ShP} (O : ShOk C ms Sh) {H H' : Hp} {p : Addr} {fp : List Addr} {zs : List Str} {r : Int} {iss : Int → DV} {had : List Int} (h : Sh H p fp zs r iss had) (s : Same H H') : Sh H' p fp zs r iss had :=
  O.keep (gp := []) h (.of s) (fun _ q => by cases q) fun _ q => by cases q
theorem ShOk.noTup {C : Addr} {ms : List Str} {Sh : ShP} (O : ShOk C ms Sh) {H : Hp} {p : Addr} {fp : List Addr} {zs : List Str} {r : Int} {iss : Int → DV} {had : List Int} (h : Sh H p fp zs r iss had) : NoTup H fp := fun b m xs e => by
  obtain ⟨o, e1, n⟩ := O.own h b m
  rw [e1] at e
  exact n xs (Option.some.inj e)
noncomputable def spShInit (K : PySem.W.Frag) (C : Addr) (Sh : ShP) : Sp := fun vs H Q _ => ∃ (x dx pn : Addr) (zs : List Str) (r : Int), vs = [.ref x, .ref pn, .int r] ∧ H x = some (.ins C dx []) ∧ dx ≠ x ∧ H dx = some (.own x) ∧ HdN K H pn zs ∧ GoodN zs ∧ 0 ≤ r ∧ r ≤ 10 ∧
  ∀ (fp : List Addr) (H' : Hp), (∀ b ∈ fp, b = x ∨ b = dx ∨ H b = none) → SameBut [x] H H' → (∀ iss, Sh H' x fp zs r iss []) → Q .non H'
noncomputable def spPut (Sh : ShP) : Sp := fun vs H Q _ => ∃ (p : Addr) (v : V) (fp : List Addr) (zs : List Str) (r : Int) (iss : Int → DV) (had : List Int) (n : Int) (ds : List DV), vs = [.ref p, v] ∧ Sh H p fp zs r iss had ∧ Tell H (iss n) v ∧ iss n = .tup (.int n :: ds) ∧ 1 ≤ n ∧ n ≤ 60 ∧
  ∀ (fp' : List Addr) (H' : Hp), (∀ b ∈ fp', b ∈ fp ∨ H b = none) → SameBut fp H H' → Sh H' p fp' zs r iss (addN had n) → Q (.bl (decide (n ∉ had))) H'
noncomputable def spShHad (Sh : ShP) : Sp := fun vs H Q _ => ∃ (p : Addr) (fp : List Addr) (zs : List Str) (r : Int) (iss : Int → DV) (had : List Int), vs = [.ref p] ∧ Sh H p fp zs r iss had ∧
  ∀ (l : Addr) (H' : Hp), Same H H' → H' l = some (.tup ((riseL had).map V.int)) → Q (.ref l) H'
noncomputable def spShLatest (Sh : ShP) : Sp := fun vs H Q _ => ∃ (p : Addr) (fp : List Addr) (zs : List Str) (r : Int) (iss : Int → DV) (had : List Int), vs = [.ref p] ∧ Sh H p fp zs r iss had ∧ ∀ H', Same H H' → Q (.int (topL had)) H'
noncomputable def ShD (K : PySem.W.Frag) (C : Addr) : ShP := fun H p fp zs r iss had => ∃ (dx pn pd : Addr) (fs : List (Str × V)) (kvs : List (Key × V)), fp = [p, dx, pd] ∧ H p = some (.ins C dx fs) ∧ H dx = some (.own p) ∧ H pn = some (.tup (zs.map V.str)) ∧ H pd = some (.dK kvs) ∧
  fs.lookup ("names" : Str) = some (V.ref pn) ∧ fs.lookup ("reach" : Str) = some (V.int r) ∧ fs.lookup ("issues" : Str) = some (V.ref pd) ∧ (∀ m ∈ (["put", "had", "latest", "rows_of", "tail_of"] : List Str), fs.lookup m = none) ∧
  kvs.map (·.1) = had.map Sum.inl ∧ had.Nodup ∧ (∀ n ∈ had, 1 ≤ n ∧ n ≤ 60) ∧ (∀ n v, (Sum.inl n, v) ∈ kvs → Tell H (iss n) v) ∧ GoodN zs ∧ 0 ≤ r ∧ r ≤ 10
theorem ShD.ins {K : PySem.W.Frag} {C : Addr} {H : Hp} {p : Addr} {fp : List Addr} {zs : List Str} {r : Int} {iss : Int → DV} {had : List Int} (h : ShD K C H p fp zs r iss had) : ∃ dx fs, H p = some (.ins C dx fs) ∧ ∀ m ∈ (["put", "had", "latest", "rows_of", "tail_of"] : List Str), fs.lookup m = none := by
  obtain ⟨dx, pn, pd, fs, kvs, e, h1, h2, h3, h4, l1, l2, l3, lm, _⟩ := h
  exact ⟨dx, fs, h1, lm⟩
theorem shOk {K : PySem.W.Frag} {C : Addr} : ShOk C ["put", "had", "latest"] (ShD K C) := by
  refine ⟨fun h => ?_, fun h b hb => ?_, fun h s out nt => ?_⟩
  · obtain ⟨dx, fs, h1, lm⟩ := ShD.ins h
    refine ⟨dx, fs, h1, fun m hm => lm m ?_⟩
    simp only [List.mem_cons, List.not_mem_nil, or_false] at hm ⊢
    rcases hm with h | h | h <;> simp [h]
  · obtain ⟨dx, pn, pd, fs, kvs, rfl, h1, h2, h3, h4, _⟩ := h
    rcases List.mem_cons.mp hb with rfl | hb
    · exact ⟨_, h1, fun xs z => by cases z⟩
    rcases List.mem_cons.mp hb with rfl | hb
    · exact ⟨_, h2, fun xs z => by cases z⟩
    rw [List.mem_singleton.mp hb]
    exact ⟨_, h4, fun xs z => by cases z⟩
  · obtain ⟨dx, pn, pd, fs, kvs, rfl, h1, h2, h3, h4, l1, l2, l3, lm, kk, nd, all, tl, g⟩ := h
    exact ⟨dx, pn, pd, fs, kvs, rfl, s _ _ h1 (fun m => out _ m (by simp)), s _ _ h2 (fun m => out _ m (by simp)), s _ _ h3 (fun m => nt _ m _ h3), s _ _ h4 (fun m => out _ m (by simp)), l1, l2, l3, lm, kk, nd, all, fun n v hv => Tell.but s nt _ _ (tl n v hv), g⟩
theorem ok_shinit {CShelf : Addr} (M : Bl mg) (T : TxShelf K mg CShelf) (F : Fun K "__init__" "Shelf.__init__" sShelf___init__ f fd) (Gbulletin_names : Cal P w K mg base 2 "bulletin_names" pbulletin_names (spBulletin K)) :
    FnOk P w K mg base CX0 3 f fd pShelf___init__ (spShInit K CShelf (ShD K CShelf)) := by
  have nd := scShelf___init__.nd
  refine F.ok scShelf___init__ (fun vs H Q E h => ?_) (fun cdv A outer s H vs Q E hr h => ?_)
  · obtain ⟨x, dx, pn, zs, r, rfl, _⟩ := h
    rfl
  obtain ⟨x, dx, pn, zs, r, rfl, hx, ne, hdx, hn, g, r0, r1, k⟩ := h
  refine ⟨_, (pss_cons (ps_fld (pv 0) (pe_cal Gbulletin_names (rm hr) rfl (pa_cons (pv 1) (pa_cons (pv 2) pa_nil))) rfl) (pss_cons (ps_fld (pv 0) (pv 2) rfl) (pss_one (ps_fld (pv 0) pe_dnewK rfl)))), ?_⟩
  refine ⟨_, rfl, _, rfl, pn, zs, r, rfl, hn, g, r0, r1, fun l H1 s1 e1 => ?_⟩
  refine ⟨_, rfl, x, CShelf, dx, [], rfl, s1 _ _ hx, T.cl, T.n_names, by decide, ?_⟩
  have z1 := length_putF "names" (.ref l) []
  have z2 := length_putF "reach" (.int r) (putF "names" (.ref l) [])
  have z0 : ([] : List (Str × V)).length = 0 := rfl
  refine ⟨_, rfl, _, rfl, x, CShelf, dx, _, rfl, upd_same, T.cl, T.n_reach, (by omega), ?_⟩
  rw [upd_upd]
  intro pd hd
  have nx : x ≠ pd := ne_of_none upd_same hd
  have ndd : dx ≠ pd := ne_of_none (show upd H1 x _ dx = some _ by rw [upd_ne ne]; exact s1 _ _ hdx) hd
  have nl : l ≠ x := ne_of e1 (s1 _ _ hx) (fun z => by cases z)
  have nlp : l ≠ pd := ne_of_none (show upd H1 x _ l = some _ by rw [upd_ne nl]; exact e1) hd
  have dfr : H1 pd = none := by rw [upd_ne (Ne.symm nx)] at hd; exact hd
  refine ⟨_, rfl, x, CShelf, dx, _, rfl, (by rw [upd_ne nx, upd_same]), T.cl, T.n_issues, (by omega), ?_⟩
  refine k [x, dx, pd] _ (fun b hb => ?_) (fun b o e nb => ?_) (fun iss => ⟨dx, l, pd, _, [], rfl, upd_same, ?_, ?_, ?_, ?_, ?_, ?_, ?_, rfl, .nil, fun _ q => (nomatch q), fun _ _ q => (nomatch q), g, r0, r1⟩)
  · simp only [List.mem_cons, List.not_mem_nil, or_false] at hb
    rcases hb with rfl | rfl | rfl
    · exact .inl rfl
    · exact .inr (.inl rfl)
    · exact .inr (.inr (s1.free dfr))
  · rw [List.mem_singleton] at nb
    rw [upd_ne nb, upd_ne (ne_of_none e (s1.free dfr)), upd_ne nb]
    exact s1 _ _ e
  · rw [upd_ne ne, upd_ne ndd, upd_ne ne]
    exact s1 _ _ hdx
  · rw [upd_ne nl, upd_ne nlp, upd_ne nl]
    exact e1
  · rw [upd_ne (Ne.symm nx), upd_same]
  · rw [lookup_putF, if_neg (by decide +kernel), lookup_putF, if_neg (by decide +kernel), lookup_putF, if_pos rfl]
  · rw [lookup_putF, if_neg (by decide +kernel), lookup_putF, if_pos rfl]
  · rw [lookup_putF, if_pos rfl]
  · intro m hm
    simp only [List.mem_cons, List.not_mem_nil, or_false] at hm
    rcases hm with rfl | rfl | rfl | rfl | rfl <;> rw [lookup_putF, if_neg (by decide +kernel), lookup_putF, if_neg (by decide +kernel), lookup_putF, if_neg (by decide +kernel)] <;> rfl
theorem nd_le {α : Type} [DecidableEq α] : ∀ {l1 l2 : List α}, l1.Nodup → (∀ x ∈ l1, x ∈ l2) → l1.length ≤ l2.length
  | [], _, _, _ => Nat.zero_le _
  | x :: r, l2, nd, sub => by
    rw [List.nodup_cons] at nd
    have hx := sub x List.mem_cons_self
    have := nd_le (l1 := r) (l2 := l2.erase x) nd.2 fun y hy => (List.mem_erase_of_ne (fun (e : y = x) => nd.1 (e ▸ hy))).mpr (sub y (List.mem_cons_of_mem _ hy))
    rw [List.length_erase_of_mem hx] at this
    have h0 := List.length_pos_of_mem hx
    rw [List.length_cons]
    omega
theorem len_had {had : List Int} (nd : had.Nodup) (all : ∀ n ∈ had, 1 ≤ n ∧ n ≤ 60) : had.length ≤ 60 := by
  have h := nd_le (l2 := upI 1 60) nd fun n hn => mem_upI.mpr (by have := all n hn; omega)
  rw [upI_length] at h
  exact h
theorem val_had {kvs : List (Key × V)} {had : List Int} (kk : kvs.map (·.1) = had.map Sum.inl) (n : Int) : (valV kvs (Sum.inl n)).isSome = decide (n ∈ had) := by
  rw [← valV_any]
  have e : (kvs.any fun kv => decide (kv.1 = Sum.inl n)) = (kvs.map (·.1)).any fun k => decide (k = Sum.inl n) := by rw [List.any_map]; rfl
  rw [e, kk, List.any_map]
  by_cases h : n ∈ had
  · rw [decide_eq_true h, List.any_eq_true]
    exact ⟨n, h, decide_eq_true rfl⟩
  · rw [decide_eq_false h, List.any_eq_false]
    intro m hm z
    have e := of_decide_eq_true z
    cases e
    exact h hm
theorem ok_put {CShelf : Addr} (M : Bl mg) (T : TxShelf K mg CShelf) (F : Fun K "put" "Shelf.put" sShelf_put f fd) : FnOk P w K mg base CX0 1 f fd pShelf_put (spPut (ShD K CShelf)) := by
  have nd := scShelf_put.nd
  refine F.ok scShelf_put (fun vs H Q E h => ?_) (fun cdv A outer s H vs Q E hr h => ?_)
  · obtain ⟨p, v, fp, zs, r, iss, had, n, ds, rfl, _⟩ := h
    rfl
  obtain ⟨p, v, fp, zs, r, iss, had, n, ds, rfl, sh, tv, en, n1, n2, k⟩ := h
  have hu := hu_of hr
  refine ⟨_, (pss_cons (ps_set (i := 2) nd rfl (Or.inl rfl) (pe_ix ix_tup (pv 1) pe_int (fun _ _ => rfl))) (pss_cons (ps_if (pt_cmp (pc_din hu (pv 2) (pe_fld (pv 0) rfl))) (pss_one (ps_ret pe_bl)) pss_nil) (pss_cons (ps_dput hu (pe_fld (pv 0) rfl) (pv 2) (pv 1) rfl) (pss_one (ps_ret pe_bl))))), ?_⟩
  obtain ⟨dx, pn, pd, fs, kvs, rfl, h1, h2, h3, h4, l1, l2, l3, lm, kk, ndh, all, tl, g, r0, r1⟩ := sh
  rw [en] at tv
  obtain ⟨a, us, rfl, ea, _, tu⟩ := tell_tup_inv tv
  obtain ⟨x0, ur, rfl, t0, _⟩ := tells_cons_inv tu
  cases tell_int_inv t0
  refine ⟨_, rfl, a, _, _, _, rfl, rfl, SqT.of ea, atI_nat rfl, ?_⟩
  refine ⟨_, rfl, _, rfl, p, CShelf, dx, fs, _, rfl, h1, T.cl, T.n_issues, l3, pd, _, rfl, DGet.k (k := Sum.inl n) h4, ?_⟩
  refine ⟨_, rfl, ?_⟩
  rw [val_had kk]
  have fr : ∀ b ∈ [p, dx, pd], ∃ o, H b = some o := fun b hb => by
    simp only [List.mem_cons, List.not_mem_nil, or_false] at hb
    rcases hb with rfl | rfl | rfl
    · exact ⟨_, h1⟩
    · exact ⟨_, h2⟩
    · exact ⟨_, h4⟩
  refine ite2 (fun c => ?_) (fun c => ?_)
  · have c' := dec_of c
    have e := k [p, dx, pd] H (fun b hb => .inl hb) (fun b o e _ => e) ⟨dx, pn, pd, fs, kvs, rfl, h1, h2, h3, h4, l1, l2, l3, lm, by unfold addN; rw [if_pos c']; exact kk, by unfold addN; rw [if_pos c']; exact ndh, fun m hm => ?_, tl, g, r0, r1⟩
    · rw [decide_eq_false (fun z => z c')] at e
      exact e
    · unfold addN at hm
      rw [if_pos c'] at hm
      exact all m hm
  · have c' := dec_no c
    have lk : kvs.length ≤ 60 := by
      have e2 := congrArg List.length kk
      rw [List.length_map, List.length_map] at e2
      have := len_had ndh all
      omega
    have en' : valV kvs (Sum.inl n : Key) = none := by
      have := val_had kk n
      rw [decide_eq_false c'] at this
      cases e : valV kvs (Sum.inl n : Key) with
      | none => rfl
      | some v => rw [e] at this; cases this
    refine ⟨_, rfl, _, rfl, p, CShelf, dx, fs, _, rfl, h1, T.cl, T.n_issues, l3, _, rfl, pd, _, rfl, DPut.k (k := Sum.inl n) h4 (small1000 (by omega)), ?_⟩
    rw [putK_new _ en']
    have np : p ≠ pd := ne_of h1 h4 (fun z => by cases z)
    have nx : dx ≠ pd := ne_of h2 h4 (fun z => by cases z)
    have nn : pn ≠ pd := ne_of h3 h4 (fun z => by cases z)
    have e := k [p, dx, pd] (upd H pd (.dK (kvs ++ [(Sum.inl n, .ref a)]))) (fun b hb => .inl hb) (fun b o e nb => by rw [upd_ne (fun z => nb (by rw [z]; simp))]; exact e)
      ⟨dx, pn, pd, fs, _, rfl, by rw [upd_ne np]; exact h1, by rw [upd_ne nx]; exact h2, by rw [upd_ne nn]; exact h3, upd_same, l1, l2, l3, lm, ?_, ?_, fun m hm => ?_, fun m v hv => ?_, g, r0, r1⟩
    · rw [decide_eq_true c'] at e
      exact e
    · unfold addN
      rw [if_neg c', List.map_append, List.map_append, kk]
      rfl
    · unfold addN
      rw [if_neg c', List.nodup_append]
      exact ⟨ndh, by simp, fun x hx y hy z => by rw [List.mem_singleton] at hy; subst hy; subst z; exact c' hx⟩
    · rcases mem_addN.mp hm with h | rfl
      · exact all m h
      · omega
    · refine Tell.over h4 (fun _ z => by cases z) _ _ ?_
      rcases List.mem_append.mp hv with h | h
      · exact tl m v h
      · rw [List.mem_singleton] at h
        cases h
        rw [en]
        exact tv
theorem ok_shhad {CShelf : Addr} (M : Bl mg) (T : TxShelf K mg CShelf) (F : Fun K "had" "Shelf.had" sShelf_had f fd) : FnOk P w K mg base CX0 1 f fd pShelf_had (spShHad (ShD K CShelf)) := by
  have nd := scShelf_had.nd
  refine F.ok scShelf_had (fun vs H Q E h => ?_) (fun cdv A outer s H vs Q E hr h => ?_)
  · obtain ⟨p, fp, zs, r, iss, had, rfl, _⟩ := h
    rfl
  obtain ⟨p, fp, zs, r, iss, had, rfl, sh, k⟩ := h
  refine ⟨_, (pss_one (ps_ret (pe_callTy call_tuple_of rfl M.tuple PyProof.Rows.boot_tuple (pa_cons (pe_callB (call_sorted_dict rfl) rfl M.sorted PyProof.Rows.boot_sorted (pa_cons (pe_fld (pv 0) rfl) pa_nil)) pa_nil)))), ?_⟩
  obtain ⟨dx, pn, pd, fs, kvs, rfl, h1, h2, h3, h4, l1, l2, l3, lm, kk, ndh, all, tl, g, r0, r1⟩ := sh
  refine ⟨_, rfl, p, CShelf, dx, fs, _, rfl, h1, T.cl, T.n_issues, l3, pd, kvs, had, rfl, h4, kk, Nat.lt_of_le_of_lt (len_had ndh all) (by decide), fun l ms hl hp hs => ?_⟩
  rw [rise_of ndh all hp hs]
  exact ⟨l, _, rfl, .inl ⟨SqL.of upd_same, fun t ht => k t _ ((same_new hl _).trans (same_new ht _)) upd_same⟩⟩
theorem top_best {had : List Int} {m : Int} (hm : m ∈ riseL had) (hb : ∀ y ∈ riseL had, y ≤ m) : m = topL had := by
  unfold topL
  have ne : riseL had ≠ [] := fun z => by rw [z] at hm; cases hm
  have e : (riseL had).getLastD 0 = (riseL had).getLast ne := by rw [List.getLastD_eq_getLast?, List.getLast?_eq_some_getLast ne] <;> rfl
  rw [e]
  have h1 := hb _ (List.getLast_mem ne)
  have d : riseL had = (riseL had).dropLast ++ [(riseL had).getLast ne] := (List.dropLast_concat_getLast ne).symm
  have rs := riseL_rise had
  rw [d] at hm rs
  rcases List.mem_append.mp hm with h | h
  · have := (List.pairwise_append.mp rs).2.2 m h _ (List.mem_singleton.mpr rfl)
    omega
  · exact List.mem_singleton.mp h
theorem ok_latest {CShelf : Addr} (M : Bl mg) (T : TxShelf K mg CShelf) (F : Fun K "latest" "Shelf.latest" sShelf_latest f fd) (GShelf_had : MCal P w K mg base 1 CShelf "had" pShelf_had (spShHad (ShD K CShelf))) : FnOk P w K mg base CX0 2 f fd pShelf_latest (spShLatest (ShD K CShelf)) := by
  have nd := scShelf_latest.nd
  refine F.ok scShelf_latest (fun vs H Q E h => ?_) (fun cdv A outer s H vs Q E hr h => ?_)
  · obtain ⟨p, fp, zs, r, iss, had, rfl, _⟩ := h
    rfl
  obtain ⟨p, fp, zs, r, iss, had, rfl, sh, k⟩ := h
  refine ⟨_, (pss_one (ps_ret (pe_maxD rfl rfl M.max (pa_cons (pe_mcal0 GShelf_had (rm hr) (pv 0)) pa_nil) (pk_cons pe_int pk_nil)))), ?_⟩
  obtain ⟨dx, fs, h1, lm⟩ := shOk.ins sh
  refine ⟨_, rfl, p, dx, fs, rfl, h1, lm _ (by simp), p, fp, zs, r, iss, had, rfl, sh, fun l H1 s1 e1 => ?_⟩
  refine ⟨l, riseL had, _, rfl, rfl, .inr (SqT.of e1), fun z => ?_, fun m hm hb => ?_⟩
  · have e : topL had = 0 := by unfold topL; rw [z]; rfl
    have := k H1 s1
    rw [e] at this
    exact this
  · rw [top_best hm hb]
    exact k H1 s1
noncomputable def gapD (ns : List Int) (rows : List Row) (r n : Int) : DV := .tup [.int n, .int (tellV ns n r), if tellV ns n r = 0 then .tup [] else nmsD (nmsOf (rowAt rows n))]
noncomputable def gapsL (ns : List Int) (rows : List Row) (r : Int) : List DV := (lackL ns).map (gapD ns rows r)
theorem inV_strs (x : Str) (ns : List Str) : inV (.str x) (ns.map V.str) = decide (x ∈ ns) := by
  unfold inV
  rw [Bool.eq_iff_iff, List.any_map, List.any_eq_true, decide_eq_true_eq]
  constructor
  · rintro ⟨y, hy, e⟩
    have : y = x := by simpa [eqV] using e
    exact this ▸ hy
  · intro h
    exact ⟨x, h, by simp [eqV]⟩
noncomputable def gapSet (ns : List Int) (rows : List Row) (r n : Int) : List Str := if tellV ns n r = 0 then [] else nmsOf (rowAt rows n)
theorem gapD_eq (ns : List Int) (rows : List Row) (r n : Int) : gapD ns rows r n = .tup [.int n, .int (tellV ns n r), nmsD (gapSet ns rows r n)] := by
  unfold gapD gapSet
  by_cases h : tellV ns n r = 0
  · rw [if_pos h, if_pos h]
    rfl
  · rw [if_neg h, if_neg h]
theorem tells_gap {H : Hp} {ns : List Int} {rows : List Row} {r : Int} {zs : List V} (h : Tells H (gapsL ns rows r) zs) {i : Nat} {x : V} (e : zs[i]? = some x) :
    ∃ (n : Int) (a b : Addr), (lackL ns)[i]? = some n ∧ x = .ref a ∧ H a = some (.tup [.int n, .int (tellV ns n r), .ref b]) ∧ H b = some (.tup ((gapSet ns rows r n).map V.str)) := by
  obtain ⟨d, e1, t⟩ := h.at i x e
  unfold gapsL at e1
  rw [List.getElem?_map] at e1
  cases er : (lackL ns)[i]? with
  | none => rw [er] at e1; cases e1
  | some n =>
    rw [er] at e1
    have e2 : gapD ns rows r n = d := Option.some.inj e1
    rw [gapD_eq] at e2
    subst e2
    obtain ⟨a, ys, rfl, h1, _, h2⟩ := tell_tup_inv t
    obtain ⟨y1, r1, rfl, t1, h3⟩ := tells_cons_inv h2
    obtain ⟨y2, r2, rfl, t2, h4⟩ := tells_cons_inv h3
    obtain ⟨y3, r3, rfl, t3, h5⟩ := tells_cons_inv h4
    have := tells_nil_inv h5
    subst this
    obtain ⟨b, ws, rfl, hb, _, tb⟩ := tell_tup_inv t3
    rw [tell_int_inv t1, tell_int_inv t2] at h1
    rw [tells_strs_inv tb] at hb
    exact ⟨n, a, b, rfl, rfl, h1, hb⟩
theorem deeps_le {ds : List DV} {n : Nat} (h : ∀ d ∈ ds, d.deep ≤ n) : DV.deeps ds ≤ n := by
  induction ds with
  | nil => unfold DV.deeps; exact Nat.zero_le _
  | cons d r ih =>
    unfold DV.deeps
    exact Nat.max_le.mpr ⟨h d List.mem_cons_self, ih fun x hx => h x (List.mem_cons_of_mem _ hx)⟩
theorem deep_tup {ds : List DV} {n : Nat} (h : ∀ d ∈ ds, d.deep ≤ n) : (DV.tup ds).deep ≤ n + 1 := by
  unfold DV.deep
  exact Nat.succ_le_succ (deeps_le h)
theorem deep_int (i : Int) (n : Nat) : (DV.int i).deep ≤ n := by unfold DV.deep; exact Nat.zero_le _
theorem deep_str (i : Str) (n : Nat) : (DV.str i).deep ≤ n := by unfold DV.deep; exact Nat.zero_le _
noncomputable def spLack (K : PySem.W.Frag) : Sp := fun vs H Q _ => ∃ (p : Addr) (ns : List Int), vs = [.ref p] ∧ SqI K H p ns ∧ (∀ x ∈ ns, 1 ≤ x ∧ x ≤ 60) ∧
  ∀ (l : Addr) (H' : Hp), H l = none → Same H H' → H' l = some (.tup ((lackL ns).map V.int)) → Q (.ref l) H'
theorem ok_lack (M : Bl mg) (F : Fun K "lacking_numbers" "lacking_numbers" slacking_numbers f fd) : FnOk P w K mg base CX0 1 f fd placking_numbers (spLack K) := by
  have nd := sclacking_numbers.nd
  refine F.ok sclacking_numbers (fun vs H Q E h => ?_) (fun cdv A outer s H vs Q E hr h => ?_)
  · obtain ⟨p, ns, rfl, _⟩ := h
    rfl
  obtain ⟨p, ns, rfl, hS, hall, q⟩ := h
  refine ⟨_, (pss_cons (ps_set (i := 1) nd rfl (Or.inl rfl) (pe_maxD rfl rfl M.max (pa_cons (pv 0) pa_nil) (pk_cons pe_int pk_nil))) (pss_one (ps_ret (pe_callTy call_tuple_of rfl M.tuple PyProof.Rows.boot_tuple (pa_cons (pe_comp ["number"] ["had"] [0] rfl (comp_scope rfl (by decide +kernel) rfl (by decide +kernel) rfl rfl) (pi_range2 rfl M.range (pa_cons pe_int (pa_cons (pe_op op_add (pv 1) pe_int) pa_nil))) (fun _ _ _ _ _ => (pg_name (i := 0) (show ((["number"] : List PySem.Str) ++ (["had"] : List PySem.Str)).Nodup from by decide +kernel) rfl (Or.inl rfl))) (own_name (by decide)) mono_name (fun _ _ _ _ _ => (pts_one (pt_cmpR (r := rIn K true) op_notIn_seq (pv 0) (pv 1) (by with_unfolding_all rfl)))) (fun _ _ _ _ _ => (pv 0))) pa_nil))))), ?_⟩
  refine ⟨_, rfl, p, ns, .int 0, rfl, rfl, hS, fun hnil => ?_, fun m hm top => ?_⟩
  · subst hnil
    refine ⟨_, rfl, _, _, rfl, rfl, _, _, rfl, ⟨by decide, by decide, by decide, by decide⟩, ?_⟩
    refine comp_up (lo := 1) (n := 0) (fun _ => true) (fun k => .int k) (by decide) (fun k ys N k0 k1 hN => by omega) ?_
    intro D hD
    refine ⟨D, _, rfl, .inl ⟨SqL.of upd_same, fun l hl => ?_⟩⟩
    have h1 : H l = none := (same_new hD _).free hl
    refine q l _ h1 ((same_new hD _).trans (same_new hl _)) ?_
    rw [upd_same, lackL_nil]
    rfl
  · have hm' := hall m hm
    refine ⟨_, rfl, _, _, rfl, rfl, _, _, rfl, ⟨by decide, by decide, by omega, by omega⟩, ?_⟩
    refine comp_up (lo := 1) (n := (m + 1 - 1).toNat) (fun k => !decide (k ∈ ns)) (fun k => .int k) (by omega) (fun k ys N k0 k1 hN => ?_) ?_
    · refine ⟨_, rfl, _, rfl, p, _, rfl, hS, rfl, flat_ints ns, _, rfl, ?_⟩
      rw [if_pos rfl, inV_ints]
      refine ite2 (fun c => ?_) (fun c => ?_)
      · rw [if_pos c] at hN
        exact ⟨_, rfl, hN⟩
      · rw [if_neg c] at hN
        exact hN
    · intro D hD
      refine ⟨D, _, rfl, .inl ⟨SqL.of upd_same, fun l hl => ?_⟩⟩
      have h1 : H l = none := (same_new hD _).free hl
      refine q l _ h1 ((same_new hD _).trans (same_new hl _)) ?_
      rw [upd_same]
      have e : keptV (fun k => !decide (k ∈ ns)) (fun k => V.int k) (upI 1 (m + 1 - 1).toNat) = (lackL ns).map V.int := by
        unfold keptV
        rw [lackL_max hm hall top]
      rw [e]
noncomputable def spTeller (K : PySem.W.Frag) : Sp := fun vs H Q _ => ∃ (p : Addr) (ns : List Int) (n r : Int), vs = [.ref p, .int n, .int r] ∧ SqI K H p ns ∧ (∀ x ∈ ns, 1 ≤ x ∧ x ≤ 60) ∧ ns.length ≤ 900 ∧
  ∀ H', Same H H' → Q (.int (tellV ns n r)) H'
theorem ok_teller (M : Bl mg) (F : Fun K "teller_of" "teller_of" steller_of f fd) : FnOk P w K mg base CX0 1 f fd pteller_of (spTeller K) := by
  have nd := scteller_of.nd
  refine F.ok scteller_of (fun vs H Q E h => ?_) (fun cdv A outer s H vs Q E hr h => ?_)
  · obtain ⟨p, ns, n, r, rfl, _⟩ := h
    rfl
  obtain ⟨p, ns, n, r, rfl, hS, hall, hlen, q⟩ := h
  have fin : ∀ D, H D = none → (keptV (fun y => decide (n < y) && decide (y - r ≤ n)) (fun y => V.int y) ns = (ns.filter fun y => decide (n < y) && decide (y - r ≤ n)).map V.int) := fun _ _ => rfl
  have none' : (ns.filter fun y => decide (n < y) && decide (y - r ≤ n)) = [] → tellV ns n r = 0 := fun e => tellV_none fun y hy h1 h2 => by
    have : y ∈ ns.filter fun y => decide (n < y) && decide (y - r ≤ n) := List.mem_filter.mpr ⟨hy, by rw [decide_eq_true h1, decide_eq_true h2]; rfl⟩
    rw [e] at this
    cases this
  have some' : ∀ m, m ∈ (ns.filter fun y => decide (n < y) && decide (y - r ≤ n)) → (∀ y ∈ (ns.filter fun y => decide (n < y) && decide (y - r ≤ n)), m ≤ y) → tellV ns n r = m := fun m hm hl => by
    rw [List.mem_filter, Bool.and_eq_true, decide_eq_true_eq, decide_eq_true_eq] at hm
    exact tellV_of hall hm.1 hm.2.1 hm.2.2 fun y hy h1 h2 => hl y (List.mem_filter.mpr ⟨hy, by rw [decide_eq_true h1, decide_eq_true h2]; rfl⟩)
  rcases hS with hS | hS
  · refine ⟨_, (pss_cons (ps_comp (i := 3) ["above"] ["number", "reach"] [1, 2] rfl nd rfl (Or.inl rfl) (comp_scope rfl (by decide +kernel) rfl (by decide +kernel) rfl rfl) (pi_list (pv 0)) (fun _ _ _ _ _ => (pg_name (i := 0) (show ((["above"] : List PySem.Str) ++ (["number", "reach"] : List PySem.Str)).Nodup from by decide +kernel) rfl (Or.inl rfl))) (own_name (by decide)) mono_name (fun _ _ _ _ _ => (pts_one (PW.pt (pw_and (pt_cmpR op_gt (pv 0) (pv 1) (nomark _)) (pw_and1 (pt_cmpR op_le (pe_op op_sub (pv 0) (pv 2)) (pv 1) (nomark _))))))) (fun _ _ _ _ _ => (pv 0))) (pss_one (ps_ret (pe_minD rfl rfl M.min (pa_cons (pv 3) pa_nil) (pk_cons pe_int pk_nil))))), ?_⟩
    refine ⟨_, rfl, p, rfl, ⟨_, hS⟩, ?_⟩
    refine comp_ints (ns := ns) (fun y => decide (n < y) && decide (y - r ≤ n)) (fun y => .int y) hS (by omega) (fun y ys N hy hN => ?_) (fun D hD => ?_)
    · refine ⟨_, rfl, _, rfl, _, _, rfl, rfl, _, rfl, ?_⟩
      refine ite2 (fun c => ?_) (fun c => ?_)
      · refine ⟨_, rfl, _, rfl, _, _, rfl, rfl, _, rfl, _, _, rfl, rfl, _, rfl, ?_⟩
        rw [c, Bool.true_and] at hN
        refine ite2 (fun c2 => ?_) (fun c2 => ?_)
        · rw [if_pos c2] at hN
          exact ⟨_, rfl, hN⟩
        · rw [if_neg c2] at hN
          exact hN
      · rw [Bool.eq_false_iff.mpr c, Bool.false_and] at hN
        exact iteF hN
    · refine ⟨_, rfl, D, _, .int 0, rfl, rfl, .inl (SqL.of upd_same), fun e => ?_, fun m hm hl => ?_⟩
      · have := q _ (same_new hD (.lst (keptV (fun y => decide (n < y) && decide (y - r ≤ n)) (fun y => V.int y) ns)))
        rw [none' e] at this
        exact this
      · have := q _ (same_new hD (.lst (keptV (fun y => decide (n < y) && decide (y - r ≤ n)) (fun y => V.int y) ns)))
        rw [some' m hm hl] at this
        exact this
  · refine ⟨_, (pss_cons (ps_comp (i := 3) ["above"] ["number", "reach"] [1, 2] rfl nd rfl (Or.inl rfl) (comp_scope rfl (by decide +kernel) rfl (by decide +kernel) rfl rfl) (pi_tup (pv 0)) (fun _ _ _ _ _ => (pg_name (i := 0) (show ((["above"] : List PySem.Str) ++ (["number", "reach"] : List PySem.Str)).Nodup from by decide +kernel) rfl (Or.inl rfl))) (own_name (by decide)) mono_name (fun _ _ _ _ _ => (pts_one (PW.pt (pw_and (pt_cmpR op_gt (pv 0) (pv 1) (nomark _)) (pw_and1 (pt_cmpR op_le (pe_op op_sub (pv 0) (pv 2)) (pv 1) (nomark _))))))) (fun _ _ _ _ _ => (pv 0))) (pss_one (ps_ret (pe_minD rfl rfl M.min (pa_cons (pv 3) pa_nil) (pk_cons pe_int pk_nil))))), ?_⟩
    refine ⟨_, rfl, p, rfl, ⟨_, hS⟩, ?_⟩
    refine comp_intsT (ns := ns) (fun y => decide (n < y) && decide (y - r ≤ n)) (fun y => .int y) hS (by omega) (fun y ys N hy hN => ?_) (fun D hD => ?_)
    · refine ⟨_, rfl, _, rfl, _, _, rfl, rfl, _, rfl, ?_⟩
      refine ite2 (fun c => ?_) (fun c => ?_)
      · refine ⟨_, rfl, _, rfl, _, _, rfl, rfl, _, rfl, _, _, rfl, rfl, _, rfl, ?_⟩
        rw [c, Bool.true_and] at hN
        refine ite2 (fun c2 => ?_) (fun c2 => ?_)
        · rw [if_pos c2] at hN
          exact ⟨_, rfl, hN⟩
        · rw [if_neg c2] at hN
          exact hN
      · rw [Bool.eq_false_iff.mpr c, Bool.false_and] at hN
        exact iteF hN
    · refine ⟨_, rfl, D, _, .int 0, rfl, rfl, .inl (SqL.of upd_same), fun e => ?_, fun m hm hl => ?_⟩
      · have := q _ (same_new hD (.lst (keptV (fun y => decide (n < y) && decide (y - r ≤ n)) (fun y => V.int y) ns)))
        rw [none' e] at this
        exact this
      · have := q _ (same_new hD (.lst (keptV (fun y => decide (n < y) && decide (y - r ≤ n)) (fun y => V.int y) ns)))
        rw [some' m hm hl] at this
        exact this
def Pr (H : Hp) (u : V) (p : Int × Int) : Prop := ∃ a, u = .ref a ∧ H a = some (.tup [.int p.1, .int p.2])
theorem Pr.keep {H H' : Hp} (s : Same H H') {u : V} {p : Int × Int} (h : Pr H u p) : Pr H' u p := let ⟨a, e, q⟩ := h; ⟨a, e, s _ _ q⟩
abbrev Prs (H : Hp) : List V → List (Int × Int) → Prop := Paired (Pr H)
theorem Prs.keep {H H' : Hp} (s : Same H H') : ∀ {xs : List V} {ps : List (Int × Int)}, Prs H xs ps → Prs H' xs ps
  | _, _, .nil => .nil
  | _, _, .cons r t => .cons (r.keep s) (Prs.keep s t)
theorem Prs.get {H : Hp} : ∀ {xs : List V} {ps : List (Int × Int)}, Prs H xs ps → ∀ (i : Nat) (u : V), xs[i]? = some u → ∃ p, ps[i]? = some p ∧ Pr H u p
  | _, _, .nil, i, u, e => by simp at e
  | _, _, .cons r t, 0, u, e => by
    simp at e
    subst e
    exact ⟨_, rfl, r⟩
  | _, _, .cons r t, i + 1, u, e => by
    obtain ⟨p, h1, h2⟩ := Prs.get t i u (by simpa using e)
    exact ⟨p, by simpa using h1, h2⟩
theorem Prs.snoc {H : Hp} {xs : List V} {ps : List (Int × Int)} {u : V} {p : Int × Int} (h : Prs H xs ps) (q : Pr H u p) : Prs H (xs ++ [u]) (ps ++ [p]) := Paired.snoc h q
theorem Prs.len {H : Hp} : ∀ {xs : List V} {ps : List (Int × Int)}, Prs H xs ps → xs.length = ps.length
  | _, _, .nil => rfl
  | _, _, .cons _ t => by rw [List.length_cons, List.length_cons, Prs.len t]
noncomputable def lwtL (ns : List Int) (r : Int) : List (Int × Int) := (lackL ns).map fun n => (n, tellV ns n r)
noncomputable def darkF (ns : List Int) (r : Int) : List Int := ((lwtL ns r).filter fun q => decide (q.2 = 0)).map Prod.fst
noncomputable def spLwt (K : PySem.W.Frag) : Sp := fun vs H Q _ => ∃ (p : Addr) (ns : List Int) (r : Int), vs = [.ref p, .int r] ∧ SqI K H p ns ∧ (∀ x ∈ ns, 1 ≤ x ∧ x ≤ 60) ∧ ns.length ≤ 900 ∧
  ∀ (l : Addr) (xs : List V) (H' : Hp), Same H H' → H' l = some (.tup xs) → Prs H' xs (lwtL ns r) → Q (.ref l) H'
theorem ok_lwt (M : Bl mg) (F : Fun K "lacking_with_tellers" "lacking_with_tellers" slacking_with_tellers f fd) (Glacking_numbers : Cal P w K mg base 1 "lacking_numbers" placking_numbers (spLack K))
    (Gteller_of : Cal P w K mg base 1 "teller_of" pteller_of (spTeller K)) : FnOk P w K mg base CX0 2 f fd placking_with_tellers (spLwt K) := by
  have nd := sclacking_with_tellers.nd
  refine F.ok sclacking_with_tellers (fun vs H Q E h => ?_) (fun cdv A outer s H vs Q E hr h => ?_)
  · obtain ⟨p, ns, r, rfl, _⟩ := h
    rfl
  obtain ⟨p, ns, r, rfl, hS, hall, hlen, q⟩ := h
  refine ⟨_, (pss_one (ps_ret (pe_callTy call_tuple_of rfl M.tuple PyProof.Rows.boot_tuple (pa_cons (pe_comp ["number"] ["had", "reach"] [0, 1] rfl (comp_scope rfl (by decide +kernel) rfl (by decide +kernel) rfl rfl) (pi_tup (pe_cal Glacking_numbers (rm hr) rfl (pa_cons (pv 0) pa_nil))) (fun _ _ _ _ _ => (pg_name (i := 0) (show ((["number"] : List PySem.Str) ++ (["had", "reach"] : List PySem.Str)).Nodup from by decide +kernel) rfl (Or.inl rfl))) (own_name (by decide)) mono_name (fun _ _ _ _ _ => pts_nil) (fun _ _ _ _ _ => (pe_tup (pa_cons (pv 0) (pa_cons (pe_cal Gteller_of (rm hr) rfl (pa_cons (pv 1) (pa_cons (pv 0) (pa_cons (pv 2) pa_nil)))) pa_nil))))) pa_nil)))), ?_⟩
  refine ⟨_, rfl, p, ns, rfl, hS, hall, fun lt H1 nlt s1 e1 => ⟨lt, rfl, ⟨_, SqT.of e1⟩, ?_⟩⟩
  have ll := lackL_len ns
  refine comp_tup (xs := (lackL ns).map V.int) (fun i ys H' => Same H1 H' ∧ Prs H' ys (((lackL ns).take i).map fun n => (n, tellV ns n r))) ⟨Same.refl _, .nil⟩ (fun i ys H' hi hp => ?_) (fun i x ys H' hx hp => ?_) (fun ys H' hp => ?_)
  · obtain ⟨g, pr⟩ := hp
    refine ⟨SqT.of (g _ _ e1), small1000 ?_⟩
    rw [pr.len, List.length_map, List.length_take]
    omega
  · obtain ⟨g, pr⟩ := hp
    rw [List.getElem?_map] at hx
    cases e : (lackL ns)[i]? with
    | none => rw [e] at hx; cases hx
    | some n =>
      rw [e] at hx
      cases hx
      refine ⟨_, rfl, _, rfl, _, rfl, _, rfl, p, ns, n, r, rfl, SqI.keep (s1.trans g) hS, hall, hlen, fun H2 g2 => ⟨(by show 2 ≤ sizeLine; decide), fun t ht => ?_⟩⟩
      refine ⟨g.trans (g2.trans (same_new ht _)), ?_⟩
      rw [take_snoc e, List.map_append]
      exact Prs.snoc (pr.keep (g2.trans (same_new ht _))) ⟨t, rfl, upd_same⟩
  · obtain ⟨g, pr⟩ := hp
    rw [List.length_map, List.take_length] at pr
    intro D hD
    refine ⟨D, _, rfl, .inl ⟨SqL.of upd_same, fun l hl => ?_⟩⟩
    exact q l ys _ (s1.trans (g.trans ((same_new hD _).trans (same_new hl _)))) upd_same (pr.keep ((same_new hD _).trans (same_new hl _)))
noncomputable def spDark (K : PySem.W.Frag) : Sp := fun vs H Q _ => ∃ (p : Addr) (ns : List Int) (r : Int), vs = [.ref p, .int r] ∧ SqI K H p ns ∧ (∀ x ∈ ns, 1 ≤ x ∧ x ≤ 60) ∧ ns.length ≤ 900 ∧
  ∀ (l : Addr) (H' : Hp), Same H H' → H' l = some (.tup ((darkF ns r).map V.int)) → Q (.ref l) H'
theorem lwt_len (ns : List Int) (r : Int) : (lwtL ns r).length ≤ 60 := by
  unfold lwtL
  rw [List.length_map]
  exact lackL_len ns
theorem ok_dark (M : Bl mg) (F : Fun K "dark_numbers" "dark_numbers" sdark_numbers f fd) (Glacking_with_tellers : Cal P w K mg base 2 "lacking_with_tellers" placking_with_tellers (spLwt K)) : FnOk P w K mg base CX0 3 f fd pdark_numbers (spDark K) := by
  have nd := scdark_numbers.nd
  refine F.ok scdark_numbers (fun vs H Q E h => ?_) (fun cdv A outer s H vs Q E hr h => ?_)
  · obtain ⟨p, ns, r, rfl, _⟩ := h
    rfl
  obtain ⟨p, ns, r, rfl, hS, hall, hlen, q⟩ := h
  refine ⟨_, (pss_one (ps_ret (pe_callTy call_tuple_of rfl M.tuple PyProof.Rows.boot_tuple (pa_cons (pe_comp ["number", "teller"] [] [] rfl (comp_scope rfl (by decide +kernel) rfl (by decide +kernel) rfl rfl) (pi_tup (pe_cal Glacking_with_tellers (rm hr) rfl (pa_cons (pv 0) (pa_cons (pv 1) pa_nil)))) (fun _ _ _ _ _ => (pg_tupK (K := K) (n := 2) rfl rfl (pgs_cons (pg_name (i := 0) (show ((["number", "teller"] : List PySem.Str) ++ ([] : List PySem.Str)).Nodup from by decide +kernel) rfl (Or.inl rfl)) (pgs_cons (pg_name (i := 1) (show ((["number", "teller"] : List PySem.Str) ++ ([] : List PySem.Str)).Nodup from by decide +kernel) rfl (Or.inl rfl)) pgs_nil)))) (own_tup (own_cons (own_name (by decide)) mono_name (own_cons (own_name (by decide)) mono_name own_nil mono_nil) (mono_cons mono_name mono_nil))) (mono_tup (mono_cons mono_name (mono_cons mono_name mono_nil))) (fun _ _ _ _ _ => (pts_one (pt_cmpR op_eq (pv 1) pe_int (nomark _)))) (fun _ _ _ _ _ => (pv 0))) pa_nil)))), ?_⟩
  refine ⟨_, rfl, _, rfl, p, ns, r, rfl, hS, hall, hlen, fun lt xs H1 s1 e1 pr1 => ⟨lt, rfl, ⟨_, SqT.of e1⟩, ?_⟩⟩
  have ll := lwt_len ns r
  have lx := pr1.len
  refine comp_tup (xs := xs) (fun i ys H' => H' = H1 ∧ ys = (((lwtL ns r).take i).filter fun q => decide (q.2 = 0)).map fun q => V.int q.1) ⟨rfl, rfl⟩ (fun i ys H' hi hp => ?_) (fun i x ys H' hx hp => ?_) (fun ys H' hp => ?_)
  · obtain ⟨rfl, rfl⟩ := hp
    refine ⟨SqT.of e1, small1000 ?_⟩
    have h1 := List.length_filter_le (fun q : Int × Int => decide (q.2 = 0)) ((lwtL ns r).take i)
    rw [List.length_map]
    rw [List.length_take] at h1
    omega
  · obtain ⟨rfl, rfl⟩ := hp
    obtain ⟨⟨n, t⟩, e, a, rfl, ha⟩ := pr1.get i x hx
    refine ⟨a, _, rfl, SqT.of ha, rfl, _, _, rfl, _, _, rfl, rfl, ?_⟩
    refine ⟨_, rfl, rfl, _, rfl, ?_⟩
    rw [take_snoc e, List.filter_append, List.filter_cons, List.map_append]
    refine ite2 (fun c => ?_) (fun c => ?_)
    · have c' : decide (t = 0) = true := decide_eq_true (V.int.inj (dec_of c))
      refine ⟨_, rfl, rfl, ?_⟩
      rw [if_pos c']
      rfl
    · have c' : ¬ decide (t = 0) = true := fun z => c (decide_eq_true (congrArg V.int (dec_of z)))
      refine ⟨rfl, ?_⟩
      rw [if_neg c']
      simp
  · obtain ⟨rfl, rfl⟩ := hp
    rw [lx, List.take_length]
    intro D hD
    refine ⟨D, _, rfl, .inl ⟨SqL.of upd_same, fun l hl => ?_⟩⟩
    refine q l _ (s1.trans ((same_new hD _).trans (same_new hl _))) ?_
    rw [upd_same]
    unfold darkF
    rw [List.map_map]
    rfl
theorem darkF_len (ns : List Int) (r : Int) : (darkF ns r).length ≤ 60 := by
  have h := List.length_filter_le (fun q : Int × Int => decide (q.2 = 0)) (lwtL ns r)
  have := lwt_len ns r
  unfold darkF
  rw [List.length_map]
  omega
noncomputable def spGapsOf (Sh : ShP) : Sp := fun vs H Q _ => ∃ (x : Addr) (fp : List Addr) (nm : List Str) (r : Int) (rows : List Row) (had : List Int), vs = [.ref x] ∧ Sh H x fp nm r (fun n => issueD rows n r) had ∧ GoodN nm ∧ Rws nm rows ∧ rows.length ≤ 60 ∧ (∀ n ∈ had, 1 ≤ n ∧ n ≤ rows.length) ∧ 0 ≤ r ∧ r ≤ 10 ∧
  ∀ (v : V) (H' : Hp), Same H H' → Tell H' (.tup (gapsL (riseL had) rows r)) v → Q v H'
noncomputable def spTailOf (Sh : ShP) : Sp := fun vs H Q _ => ∃ (p : Addr) (fp : List Addr) (zs : List Str) (r : Int) (iss : Int → DV) (had : List Int) (n : Int) (d0 d1 d2 : DV), vs = [.ref p, .int n] ∧ Sh H p fp zs r iss had ∧ n ∈ had ∧ iss n = .tup [d0, d1, d2] ∧ ∀ v, Tell H d2 v → Q v H
theorem val_some {kvs : List (Key × V)} {had : List Int} (kk : kvs.map (·.1) = had.map Sum.inl) {n : Int} (h : n ∈ had) : ∃ v, valV kvs (Sum.inl n : Key) = some v ∧ ((Sum.inl n : Key), v) ∈ kvs := by
  have e := val_had kk n
  rw [decide_eq_true h] at e
  cases ev : valV kvs (Sum.inl n : Key) with
  | none => rw [ev] at e; cases e
  | some v =>
    refine ⟨v, rfl, ?_⟩
    unfold valV at ev
    obtain ⟨⟨k, u⟩, hf, rfl⟩ := Option.map_eq_some_iff.mp ev
    have h1 := List.mem_of_find?_eq_some hf
    have h2 := List.find?_some hf
    simp only [decide_eq_true_eq] at h2
    rw [h2] at h1
    exact h1
theorem ok_tailof {CShelf : Addr} (M : Bl mg) (T : TxShelf K mg CShelf) (F : Fun K "tail_of" "Shelf.tail_of" sShelf_tail_of f fd) : FnOk P w K mg base CX0 1 f fd pShelf_tail_of (spTailOf (ShD K CShelf)) := by
  have nd := scShelf_tail_of.nd
  refine F.ok scShelf_tail_of (fun vs H Q E h => ?_) (fun cdv A outer s H vs Q E hr h => ?_)
  · obtain ⟨p, fp, zs, r, iss, had, n, d0, d1, d2, rfl, _⟩ := h
    rfl
  obtain ⟨p, fp, zs, r, iss, had, n, d0, d1, d2, rfl, sh, hn, en, k⟩ := h
  have hu := hu_of hr
  refine ⟨_, (pss_one (ps_ret (pe_ix ix_tup (pe_dget hu (pe_fld (pv 0) rfl) (pv 1) (fun _ _ => rfl)) pe_int (fun _ _ => rfl)))), ?_⟩
  obtain ⟨dx, pn, pd, fs, kvs, rfl, h1, h2, h3, h4, l1, l2, l3, lm, kk, ndh, all, tl, g, r0, r1⟩ := sh
  obtain ⟨v, ev, mv⟩ := val_some kk hn
  have tv := tl n v mv
  rw [en] at tv
  obtain ⟨a, us, rfl, ea, _, tu⟩ := tell_tup_inv tv
  obtain ⟨x0, ur, rfl, t0, tu⟩ := tells_cons_inv tu
  obtain ⟨x1, ur, rfl, t1, tu⟩ := tells_cons_inv tu
  obtain ⟨x2, ur, rfl, t2, tu⟩ := tells_cons_inv tu
  refine ⟨_, rfl, p, CShelf, dx, fs, _, rfl, h1, T.cl, T.n_issues, l3, _, rfl, pd, _, rfl, (by rw [← ev]; exact DGet.k (k := Sum.inl n) h4), ?_⟩
  exact ⟨a, _, _, x2, rfl, rfl, SqT.of ea, atI_nat rfl, k x2 t2⟩
theorem tailN_nd (n r : Int) : (tailN n r).Nodup := by
  have h : (dnI (n - 1) (n - 1).toNat).Nodup := by
    unfold dnI
    rw [List.nodup_iff_pairwise_ne, List.pairwise_map]
    exact List.pairwise_lt_range.imp fun h => by omega
  exact h.filter _
theorem mem_tailN {n r k : Int} : k ∈ tailN n r ↔ 1 ≤ k ∧ k < n ∧ n - k ≤ r := by
  unfold tailN
  rw [List.mem_filter, mem_dnI, decide_eq_true_eq]
  omega
theorem tail_pairs {K : PySem.W.Frag} {H : Hp} {rows : List Row} : ∀ {ks : List Int} {xs : List V}, Tells H (ks.map (tailP rows)) xs → ∃ kvs : List (Key × V), Paired (PairV K H) xs kvs ∧ kvs.map (·.1) = ks.map Sum.inl ∧ ∀ k v, ((Sum.inl k : Key), v) ∈ kvs → Tell H (nmsD (nmsOf (rowAt rows k))) v
  | [], xs, h => by
    rw [tells_nil_inv h]
    exact ⟨[], .nil, rfl, fun _ _ q => (nomatch q)⟩
  | k :: ks, xs, h => by
    obtain ⟨x, r, rfl, t, h⟩ := tells_cons_inv h
    obtain ⟨kvs, p1, p2, p3⟩ := tail_pairs h
    obtain ⟨a, us, rfl, ea, _, tu⟩ := tell_tup_inv t
    obtain ⟨x0, ur, rfl, t0, tu⟩ := tells_cons_inv tu
    obtain ⟨x1, ur, rfl, t1, tu⟩ := tells_cons_inv tu
    have := tells_nil_inv tu
    subst this
    cases tell_int_inv t0
    refine ⟨(Sum.inl k, x1) :: kvs, .cons ⟨a, rfl, .inr (SqT.of ea)⟩ p1, by rw [List.map_cons, List.map_cons, p2], fun m v hv => ?_⟩
    rcases List.mem_cons.mp hv with e | hv
    · cases e
      exact t1
    · exact p3 m v hv
noncomputable def toldD (rows : List Row) (n t : Int) : DV := if t = 0 then .tup [] else nmsD (nmsOf (rowAt rows n))
noncomputable def spTold (Sh : ShP) : Sp := fun vs H Q _ => ∃ (x : Addr) (n t : Int) (fp : List Addr) (nm : List Str) (r : Int) (rows : List Row) (had : List Int), vs = [.ref x, .int n, .int t] ∧ Sh H x fp nm r (fun n => issueD rows n r) had ∧ (t ≠ 0 → t ∈ had ∧ t ≤ 60 ∧ n ∈ tailN t r) ∧
  ∀ (v : V) (H' : Hp), Same H H' → Tell H' (toldD rows n t) v → Q v H'
theorem ok_told {CShelf : Addr} (M : Bl mg) (T : TxShelf K mg CShelf) (F : Fun K "names_told_of" "names_told_of" snames_told_of f fd) (GShelf_tail_of : MCal P w K mg base 1 CShelf "tail_of" pShelf_tail_of (spTailOf (ShD K CShelf))) :
    FnOk P w K mg base CX0 2 f fd pnames_told_of (spTold (ShD K CShelf)) := by
  have nd := scnames_told_of.nd
  refine F.ok scnames_told_of (fun vs H Q E h => ?_) (fun cdv A outer s H vs Q E hr h => ?_)
  · obtain ⟨x, n, t, fp, nm, r, rows, had, rfl, _⟩ := h
    rfl
  obtain ⟨x, n, t, fp, nm, r, rows, had, rfl, sh, ht, k⟩ := h
  have hu := hu_of hr
  refine ⟨_, (pss_cons (ps_if (pt_cmpR op_eq (pv 2) pe_int (nomark _)) (pss_one (ps_ret (pe_tup pa_nil))) pss_nil) (pss_one (ps_ret (pe_dget hu (pe_callTy (call_dict_of (K := K) rfl rfl) rfl M.dict PyProof.Rows.boot_dict (pa_cons (pe_mcal GShelf_tail_of (rm hr) (pv 0) (pa_cons (pv 2) pa_nil)) pa_nil)) (pv 1) (fun _ _ => rfl))))), ?_⟩
  refine ⟨_, rfl, rfl, _, rfl, ite2 (fun c => ?_) (fun c => ?_)⟩
  · have c' : t = 0 := V.int.inj (dec_of c)
    refine ⟨(by show 0 ≤ sizeLine; decide), fun l hl => k _ _ (same_new hl _) ?_⟩
    unfold toldD
    rw [if_pos c']
    exact tell_tup upd_same (by show 0 ≤ 1000000; decide) .nil
  · have c' : t ≠ 0 := fun z => c (decide_eq_true (congrArg V.int z))
    obtain ⟨th, t60, tn⟩ := ht c'
    obtain ⟨dx, fs, h1, lm⟩ : ∃ dx fs, H x = some (.ins CShelf dx fs) ∧ fs.lookup ("tail_of" : Str) = none := by
      obtain ⟨dx, pn, pd, fs, kvs, _, h1, _, _, _, _, _, _, lm, _⟩ := sh
      exact ⟨dx, fs, h1, lm _ (by simp)⟩
    refine ⟨_, rfl, x, dx, fs, rfl, h1, lm, _, rfl, x, fp, nm, r, _, had, t, _, _, _, rfl, sh, th, rfl, fun v tv => ?_⟩
    obtain ⟨a, us, rfl, ea, _, tu⟩ := tell_tup_inv tv
    obtain ⟨kvs, p1, p2, p3⟩ := tail_pairs (K := K) tu
    have lu : us.length ≤ 1000 := by
      rw [tu.length, List.length_map]
      unfold tailN
      have := List.length_filter_le (fun k => decide (t - k ≤ r)) (dnI (t - 1) (t - 1).toNat)
      rw [dnI_len] at this
      omega
    refine ⟨a, us, kvs, rfl, .inr ea, p1, lu, ?_, fun l hl => ?_⟩
    · rw [p2]
      rw [List.nodup_iff_pairwise_ne, List.pairwise_map]
      exact (List.nodup_iff_pairwise_ne.mp (tailN_nd t r)).imp fun h e => h (Sum.inl.inj e)
    · obtain ⟨v, ev, mv⟩ := val_some p2 tn
      refine ⟨_, rfl, l, _, rfl, (by rw [← ev]; exact DGet.k (k := Sum.inl n) upd_same), ?_⟩
      refine k v _ (same_new hl _) ?_
      unfold toldD
      rw [if_neg c']
      exact Tell.keep (same_new hl _) _ _ (p3 n v mv)
theorem gap_tell {had : List Int} {r n : Int} (h60 : ∀ n ∈ had, 1 ≤ n ∧ n ≤ 60) (hn : n ∈ lackL (riseL had)) (h : tellV (riseL had) n r ≠ 0) : tellV (riseL had) n r ∈ had ∧ tellV (riseL had) n r ≤ 60 ∧ n ∈ tailN (tellV (riseL had) n r) r := by
  unfold tellV at h ⊢
  cases e : (upI 1 60).find? (tellC (riseL had) n r) with
  | none => rw [e] at h; exact absurd rfl h
  | some y =>
    obtain ⟨_, hc, _⟩ := find_is (upI_rise 1 60) e
    obtain ⟨a, b, c⟩ := tellC_iff.mp hc
    have hy := (mem_riseL.mp c).2
    have := h60 y hy
    have := (mem_lackL.mp hn).1
    show y ∈ had ∧ y ≤ 60 ∧ n ∈ tailN y r
    exact ⟨hy, by omega, mem_tailN.mpr (by omega)⟩
theorem ok_gapsof {CShelf : Addr} (M : Bl mg) (T : TxShelf K mg CShelf) (F : Fun K "gaps_of" "gaps_of" sgaps_of f fd) (GShelf_had : MCal P w K mg base 1 CShelf "had" pShelf_had (spShHad (ShD K CShelf)))
    (Glacking_with_tellers : Cal P w K mg base 2 "lacking_with_tellers" placking_with_tellers (spLwt K)) (Gnames_told_of : Cal P w K mg base 2 "names_told_of" pnames_told_of (spTold (ShD K CShelf))) :
    FnOk P w K mg base CX0 3 f fd pgaps_of (spGapsOf (ShD K CShelf)) := by
  have nd := scgaps_of.nd
  refine F.ok scgaps_of (fun vs H Q E h => ?_) (fun cdv A outer s H vs Q E hr h => ?_)
  · obtain ⟨x, fp, nm, r, rows, had, rfl, _⟩ := h
    rfl
  obtain ⟨x, fp, nm, r, rows, had, rfl, sh, gn, rw', l60, hh, r0, r1, k⟩ := h
  refine ⟨_, (pss_cons (ps_set (i := 1) nd rfl (Or.inl rfl) (pe_cal Glacking_with_tellers (rm hr) rfl (pa_cons (pe_mcal0 GShelf_had (rm hr) (pv 0)) (pa_cons (pe_fld (pv 0) rfl) pa_nil)))) (pss_one (ps_ret (pe_callTy call_tuple_of rfl M.tuple PyProof.Rows.boot_tuple (pa_cons (pe_comp ["number", "teller"] ["shelf"] [0] rfl (comp_scope rfl (by decide +kernel) rfl (by decide +kernel) rfl rfl) (pi_tup (pv 1)) (fun _ _ _ _ _ => (pg_tupK (K := K) (n := 2) rfl rfl (pgs_cons (pg_name (i := 0) (show ((["number", "teller"] : List PySem.Str) ++ (["shelf"] : List PySem.Str)).Nodup from by decide +kernel) rfl (Or.inl rfl)) (pgs_cons (pg_name (i := 1) (show ((["number", "teller"] : List PySem.Str) ++ (["shelf"] : List PySem.Str)).Nodup from by decide +kernel) rfl (Or.inl rfl)) pgs_nil)))) (own_tup (own_cons (own_name (by decide)) mono_name (own_cons (own_name (by decide)) mono_name own_nil mono_nil) (mono_cons mono_name mono_nil))) (mono_tup (mono_cons mono_name (mono_cons mono_name mono_nil))) (fun _ _ _ _ _ => pts_nil) (fun _ _ _ _ _ => (pe_tup (pa_cons (pv 0) (pa_cons (pv 1) (pa_cons (pe_cal Gnames_told_of (rm hr) rfl (pa_cons (pv 2) (pa_cons (pv 0) (pa_cons (pv 1) pa_nil)))) pa_nil)))))) pa_nil))))), ?_⟩
  have h60 : ∀ n ∈ had, 1 ≤ n ∧ n ≤ 60 := fun n hn => by have := hh n hn; omega
  obtain ⟨dx, fs, h1, lm, lr⟩ : ∃ dx fs, H x = some (.ins CShelf dx fs) ∧ fs.lookup ("had" : Str) = none ∧ fs.lookup ("reach" : Str) = some (V.int r) := by
    obtain ⟨dx, pn, pd, fs, kvs, _, h1, _, _, _, _, lr, _, lm, _⟩ := sh
    exact ⟨dx, fs, h1, lm _ (by simp), lr⟩
  refine ⟨_, rfl, x, dx, fs, rfl, h1, lm, x, fp, nm, r, _, had, rfl, sh, fun l H1 s1 e1 => ?_⟩
  refine ⟨_, rfl, x, CShelf, dx, fs, _, rfl, s1 _ _ h1, T.cl, T.n_reach, lr, l, riseL had, r, rfl, .inr (SqT.of e1), fun n hn => h60 n (mem_riseL.mp hn).2, Nat.le_trans (riseL_len had) (by decide), fun lt xs H2 s2 e2 pr2 => ?_⟩
  have sh2 : ShD K CShelf H2 x fp nm r (fun n => issueD rows n r) had := shOk.same sh (s1.trans s2)
  have lx : xs.length = (lackL (riseL had)).length := by rw [pr2.len]; unfold lwtL; rw [List.length_map]
  have ll := lackL_len (riseL had)
  refine ⟨_, rfl, lt, rfl, ⟨_, SqT.of e2⟩, ?_⟩
  refine comp_tup (xs := xs) (fun i ys H' => Same H2 H' ∧ Tells H' (((lackL (riseL had)).take i).map (gapD (riseL had) rows r)) ys) ⟨Same.refl _, by rw [List.take_zero]; exact .nil⟩ (fun i ys H' hi hp => ?_) (fun i y ys H' hy hp => ?_) (fun ys H' hp => ?_)
  · obtain ⟨g, t⟩ := hp
    refine ⟨SqT.of (g _ _ e2), small1000 ?_⟩
    rw [t.length, List.length_map, List.length_take]
    omega
  · obtain ⟨g, t⟩ := hp
    obtain ⟨⟨n, tl⟩, e, a, rfl, ha⟩ := pr2.get i y hy
    unfold lwtL at e
    rw [List.getElem?_map] at e
    obtain ⟨m, em, e3⟩ := Option.map_eq_some_iff.mp e
    cases e3
    refine ⟨a, _, rfl, SqT.of (g _ _ ha), rfl, _, _, rfl, _, _, rfl, rfl, ?_⟩
    refine ⟨_, rfl, _, rfl, _, rfl, _, rfl, _, rfl, x, n, _, fp, nm, r, rows, had, rfl, shOk.same sh2 g, gap_tell h60 (List.mem_of_getElem? em), fun v H3 s3 tv => ?_⟩
    refine ⟨(by show 3 ≤ sizeLine; decide), fun q hq => ⟨g.trans (s3.trans (same_new hq _)), ?_⟩⟩
    rw [List.take_add_one, em, List.map_append]
    exact Tells.snoc (Tells.keep (s3.trans (same_new hq _)) _ _ t) (tell_tup upd_same (by show 3 ≤ 1000000; decide) (.cons (tell_int _) (.cons (tell_int _) (.cons (Tell.keep (same_new hq _) _ _ tv) .nil))))
  · obtain ⟨g, t⟩ := hp
    rw [lx, List.take_length] at t
    intro D hD
    refine ⟨D, ys, rfl, .inl ⟨SqL.of upd_same, fun q hq => k _ _ (s1.trans (s2.trans (g.trans ((same_new hD _).trans (same_new hq _))))) (tell_tup upd_same ?_ (Tells.keep ((same_new hD _).trans (same_new hq _)) _ _ t))⟩⟩
    unfold gapsL
    rw [List.length_map]
    omega
noncomputable def spRowsOf (Sh : ShP) : Sp := fun vs H Q _ => ∃ (p : Addr) (fp : List Addr) (zs : List Str) (r : Int) (iss : Int → DV) (had : List Int) (n : Int) (d0 d1 d2 : DV), vs = [.ref p, .int n] ∧ Sh H p fp zs r iss had ∧ n ∈ had ∧ iss n = .tup [d0, d1, d2] ∧ ∀ v, Tell H d1 v → Q v H
theorem ok_rowsof {CShelf : Addr} (M : Bl mg) (T : TxShelf K mg CShelf) (F : Fun K "rows_of" "Shelf.rows_of" sShelf_rows_of f fd) : FnOk P w K mg base CX0 1 f fd pShelf_rows_of (spRowsOf (ShD K CShelf)) := by
  have nd := scShelf_rows_of.nd
  refine F.ok scShelf_rows_of (fun vs H Q E h => ?_) (fun cdv A outer s H vs Q E hr h => ?_)
  · obtain ⟨p, fp, zs, r, iss, had, n, d0, d1, d2, rfl, _⟩ := h
    rfl
  obtain ⟨p, fp, zs, r, iss, had, n, d0, d1, d2, rfl, sh, hn, en, k⟩ := h
  have hu := hu_of hr
  refine ⟨_, (pss_one (ps_ret (pe_ix ix_tup (pe_dget hu (pe_fld (pv 0) rfl) (pv 1) (fun _ _ => rfl)) pe_int (fun _ _ => rfl)))), ?_⟩
  obtain ⟨dx, pn, pd, fs, kvs, rfl, h1, h2, h3, h4, l1, l2, l3, lm, kk, ndh, all, tl, g, r0, r1⟩ := sh
  obtain ⟨v, ev, mv⟩ := val_some kk hn
  have tv := tl n v mv
  rw [en] at tv
  obtain ⟨a, us, rfl, ea, _, tu⟩ := tell_tup_inv tv
  obtain ⟨x0, ur, rfl, t0, tu⟩ := tells_cons_inv tu
  obtain ⟨x1, ur, rfl, t1, tu⟩ := tells_cons_inv tu
  refine ⟨_, rfl, p, CShelf, dx, fs, _, rfl, h1, T.cl, T.n_issues, l3, _, rfl, pd, _, rfl, (by rw [← ev]; exact DGet.k (k := Sum.inl n) h4), ?_⟩
  exact ⟨a, _, _, x1, rfl, rfl, SqT.of ea, atI_nat rfl, k x1 t1⟩
theorem row_len {nm : List Str} {rows : List Row} (g : GoodN nm) (R : Rws nm rows) (n : Int) : (rowAt rows n).length ≤ 12 := by
  unfold rowAt
  rw [List.getD_eq_getElem?_getD]
  cases e : rows[(n - 1).toNat]? with
  | none => exact Nat.zero_le _
  | some w =>
    have h := (R.sub w (List.mem_of_getElem? e)).length_le
    rw [List.length_map] at h
    exact Nat.le_trans h g.hi
noncomputable def spNmsOf : Sp := fun vs H Q _ => ∃ (a : Addr) (xs : List V) (w : Row), vs = [.ref a] ∧ H a = some (.tup xs) ∧ Tells H (w.map pairD) xs ∧ w.length ≤ 12 ∧ ∀ (l : Addr) (H' : Hp), Same H H' → H' l = some (.tup ((nmsOf w).map V.str)) → Q (.ref l) H'
theorem ok_nmsof (M : Bl mg) (F : Fun K "names_of_rows" "names_of_rows" snames_of_rows f fd) : FnOk P w K mg base CX0 1 f fd pnames_of_rows spNmsOf := by
  have nd := scnames_of_rows.nd
  refine F.ok scnames_of_rows (fun vs H Q E h => ?_) (fun cdv A outer s H vs Q E hr h => ?_)
  · obtain ⟨a, xs, w, rfl, _⟩ := h
    rfl
  obtain ⟨a, xs, w, rfl, ha, tw, l12, k⟩ := h
  refine ⟨_, (pss_one (ps_ret (pe_callTy call_tuple_of rfl M.tuple PyProof.Rows.boot_tuple (pa_cons (pe_comp ["name", "value"] [] [] rfl (comp_scope rfl (by decide +kernel) rfl (by decide +kernel) rfl rfl) (pi_tup (pv 0)) (fun _ _ _ _ _ => (pg_tupK (K := K) (n := 2) rfl rfl (pgs_cons (pg_name (i := 0) (show ((["name", "value"] : List PySem.Str) ++ ([] : List PySem.Str)).Nodup from by decide +kernel) rfl (Or.inl rfl)) (pgs_cons (pg_name (i := 1) (show ((["name", "value"] : List PySem.Str) ++ ([] : List PySem.Str)).Nodup from by decide +kernel) rfl (Or.inl rfl)) pgs_nil)))) (own_tup (own_cons (own_name (by decide)) mono_name (own_cons (own_name (by decide)) mono_name own_nil mono_nil) (mono_cons mono_name mono_nil))) (mono_tup (mono_cons mono_name (mono_cons mono_name mono_nil))) (fun _ _ _ _ _ => pts_nil) (fun _ _ _ _ _ => (pv 0))) pa_nil)))), ?_⟩
  have lx : xs.length = w.length := by rw [tw.length, List.length_map]
  refine ⟨_, rfl, a, rfl, ⟨_, SqT.of ha⟩, ?_⟩
  refine comp_tup (xs := xs) (fun i ys H' => H' = H ∧ ys = (nmsOf (w.take i)).map V.str) ⟨rfl, rfl⟩ (fun i ys H' hi hq => ?_) (fun i x ys H' hx hq => ?_) (fun ys H' hq => ?_)
  · obtain ⟨rfl, rfl⟩ := hq
    refine ⟨SqT.of ha, small1000 ?_⟩
    unfold nmsOf
    rw [List.length_map, List.length_map, List.length_take]
    omega
  · obtain ⟨rfl, rfl⟩ := hq
    obtain ⟨p, b, ep, rfl, hb⟩ := tells_pairs tw i x hx
    refine ⟨b, _, rfl, SqT.of hb, rfl, _, _, rfl, _, _, rfl, rfl, ?_⟩
    refine ⟨_, rfl, rfl, ?_⟩
    unfold nmsOf
    rw [take_snoc ep, List.map_append, List.map_append]
    rfl
  · obtain ⟨rfl, rfl⟩ := hq
    rw [lx, List.take_length]
    intro D hD
    exact ⟨D, _, rfl, .inl ⟨SqL.of upd_same, fun q hq => k q _ ((same_new hD _).trans (same_new hq _)) upd_same⟩⟩
noncomputable def optD : Option (List Str) → DV
  | none => .non
  | some zs => nmsD zs
noncomputable def knownO (hs : List Int) (rows : List Row) (r n : Int) : Option (List Str) := if n ∈ hs ∨ tellV hs n r ≠ 0 then some (nmsOf (rowAt rows n)) else none
noncomputable def knownL (m : Nat) (hs : List Int) (rows : List Row) (r : Int) : List (Option (List Str)) := (upI 1 m).map (knownO hs rows r)
noncomputable def IsTop (had : List Int) (m : Nat) : Prop := ((m : Int) ∈ had ∨ (had = [] ∧ m = 0)) ∧ ∀ y ∈ had, y ≤ (m : Int)
theorem knownL_len (m : Nat) (hs : List Int) (rows : List Row) (r : Int) : (knownL m hs rows r).length = m := by
  unfold knownL
  rw [List.length_map, upI_length]
theorem IsTop.same {a b : List Int} {m : Nat} (h : IsTop a m) (e : ∀ x, x ∈ b ↔ x ∈ a) : IsTop b m := by
  refine ⟨?_, fun y hy => h.2 y ((e y).mp hy)⟩
  rcases h.1 with q | ⟨q, q0⟩
  · exact .inl ((e _).mpr q)
  · refine .inr ⟨List.eq_nil_iff_forall_not_mem.mpr fun x hx => ?_, q0⟩
    have := (e x).mp hx
    rw [q] at this
    cases this
theorem IsTop.le {a : List Int} {m : Nat} {k : Int} (h : IsTop a m) (hk : 0 ≤ k) (ha : ∀ x ∈ a, x ≤ k) : (m : Int) ≤ k := by
  rcases h.1 with q | ⟨_, q⟩
  · exact ha _ q
  · omega
theorem nms12 {nm : List Str} {rows : List Row} (R : Rws nm rows) (gn : GoodN nm) (n : Int) : (nmsOf (rowAt rows n)).length ≤ 12 := by
  have := row_len gn R n
  unfold nmsOf
  rw [List.length_map]
  exact this
noncomputable def spKnown (Sh : ShP) : Sp := fun vs H Q _ => ∃ (x : Addr) (fp : List Addr) (nm : List Str) (r : Int) (rows : List Row) (had : List Int) (m : Nat), vs = [.ref x] ∧ Sh H x fp nm r (fun n => issueD rows n r) had ∧ GoodN nm ∧ Rws nm rows ∧ rows.length ≤ 60 ∧ (∀ n ∈ had, 1 ≤ n ∧ n ≤ rows.length) ∧ 0 ≤ r ∧ r ≤ 10 ∧ IsTop had m ∧
  ∀ (v : V) (H' : Hp), Same H H' → Tell H' (.tup ((knownL m (riseL had) rows r).map optD)) v → Q v H'
theorem keys_all {had : List Int} {m : Nat} (h60 : ∀ n ∈ had, 1 ≤ n ∧ n ≤ 60) (t : IsTop had m) : riseL (riseL had ++ lackL (riseL had)) = upI 1 m := rise_ext (riseL_rise _) (upI_rise _ _) fun x => by
  have inr : ∀ y, y ∈ riseL had ↔ y ∈ had := fun y => by
    rw [mem_riseL]
    exact ⟨fun h => h.2, fun h => ⟨by have := h60 y h; omega, h⟩⟩
  rw [mem_riseL, List.mem_append, mem_upI, mem_lackL]
  constructor
  · rintro ⟨h1, h | ⟨_, _, y, hy, h⟩⟩
    · have := t.2 x ((inr x).mp h)
      omega
    · have := t.2 y ((inr y).mp hy)
      omega
  · rintro ⟨h1, h2⟩
    rcases t.1 with q | ⟨_, q⟩
    · have := h60 _ q
      refine ⟨by omega, ?_⟩
      by_cases c : x ∈ riseL had
      · exact .inl c
      · refine .inr ⟨by omega, c, m, (inr _).mpr q, ?_⟩
        have : x ≠ (m : Int) := fun e => c (by rw [e]; exact (inr _).mpr q)
        omega
    · omega
theorem val_snoc {kvs : List (Key × V)} {ks : List Int} (kk : kvs.map (·.1) = ks.map Sum.inl) {n : Int} (hn : n ∉ ks) (v : V) : putK kvs (Sum.inl n) v = kvs ++ [(Sum.inl n, v)] := by
  refine putK_new _ ?_
  have := val_had kk n
  rw [decide_eq_false hn] at this
  cases e : valV kvs (Sum.inl n : Key) with
  | none => rfl
  | some v => rw [e] at this; cases this
theorem ok_known {CShelf : Addr} (M : Bl mg) (F : Fun K "known_sets" "known_sets" sknown_sets f fd) (GShelf_had : MCal P w K mg base 1 CShelf "had" pShelf_had (spShHad (ShD K CShelf))) (GShelf_rows_of : MCal P w K mg base 1 CShelf "rows_of" pShelf_rows_of (spRowsOf (ShD K CShelf)))
    (Gnames_of_rows : Cal P w K mg base 1 "names_of_rows" pnames_of_rows spNmsOf) (Ggaps_of : Cal P w K mg base 3 "gaps_of" pgaps_of (spGapsOf (ShD K CShelf))) : FnOk P w K mg base CX0 4 f fd pknown_sets (spKnown (ShD K CShelf)) := by
  have nd := scknown_sets.nd
  refine F.ok scknown_sets (fun vs H Q E h => ?_) (fun cdv A outer s H vs Q E hr h => ?_)
  · obtain ⟨x, fp, nm, r, rows, had, m, rfl, _⟩ := h
    rfl
  obtain ⟨x, fp, nm, r, rows, had, m, rfl, sh, gn, R, l60, hh, r0, r10, it, k⟩ := h
  have hu := hu_of hr
  refine ⟨_, (pss_cons (ps_set (i := 1) nd rfl (Or.inr rfl) pe_dnewK) (pss_cons (ps_for PassesOwn.never rfl (pi_tup (pe_mcal0 GShelf_had (rm hr) (pv 0))) (pg_name (i := 2) nd rfl (Or.inl rfl)) (pss_one (ps_dput hu (pv 1) (pv 2) (pe_cal Gnames_of_rows (rm hr) rfl (pa_cons (pe_mcal GShelf_rows_of (rm hr) (pv 0) (pa_cons (pv 2) pa_nil)) pa_nil)) rfl))) (pss_cons (ps_for PassesOwn.never rfl (pi_tup (pe_cal Ggaps_of (rm hr) rfl (pa_cons (pv 0) pa_nil))) (pg_tup rfl (pgs_cons (pg_name (i := 2) nd rfl (Or.inl rfl)) (pgs_cons (pg_name (i := 3) nd rfl (Or.inl rfl)) (pgs_cons (pg_name (i := 4) nd rfl (Or.inl rfl)) pgs_nil)))) (pss_one (ps_dput hu (pv 1) (pv 2) (pe_ifExp (pt_cmpR op_eq (pv 3) pe_int (nomark _)) pe_non (pv 4)) rfl))) (pss_one (ps_ret (pe_callTy call_tuple_of rfl M.tuple PyProof.Rows.boot_tuple (pa_cons (pe_comp ["number"] ["sets"] [1] rfl (comp_scope rfl (by decide +kernel) rfl (by decide +kernel) rfl rfl) (pi_list (pe_callB (call_sorted_dict rfl) rfl M.sorted PyProof.Rows.boot_sorted (pa_cons (pv 1) pa_nil))) (fun _ _ _ _ _ => (pg_name (i := 0) (show ((["number"] : List PySem.Str) ++ (["sets"] : List PySem.Str)).Nodup from by decide +kernel) rfl (Or.inl rfl))) (own_name (by decide)) mono_name (fun _ _ _ _ _ => pts_nil) (fun _ _ _ _ _ => (pe_dget hu (pv 1) (pv 0) (fun _ _ => rfl)))) pa_nil))))))), ?_⟩
  have h60 : ∀ n ∈ had, 1 ≤ n ∧ n ≤ 60 := fun n hn => by have := hh n hn; omega
  have rl := riseL_len had
  have ll := lackL_len (riseL had)
  obtain ⟨dx, fs, h1, lm, lo⟩ : ∃ dx fs, H x = some (.ins CShelf dx fs) ∧ fs.lookup ("had" : Str) = none ∧ fs.lookup ("rows_of" : Str) = none := by
    obtain ⟨dx, pn, pd, fs, kvs, _, h1, _, _, _, _, lr, _, lm, _⟩ := sh
    exact ⟨dx, fs, h1, lm _ (by simp), lm _ (by simp)⟩
  intro d hd
  have s0 := same_new hd (.dK [])
  have e0 : upd H d (.dK []) d = some (.dK []) := upd_same
  generalize upd H d (.dK []) = H0 at s0 e0
  refine ⟨_, rfl, x, dx, fs, rfl, s0 _ _ h1, lm, x, fp, nm, r, _, had, rfl, shOk.same sh s0, fun l H1 s1 e1 => ?_⟩
  have s01 := s0.trans s1
  refine ⟨l, rfl, ⟨_, SqT.of e1⟩, for_tup (K := K) (a := l) (xs := (riseL had).map V.int) (fun i σ G => ∃ (kvs : List (Key × V)) (o2 : Option V), Same H G ∧ G l = some (.tup ((riseL had).map V.int)) ∧ G d = some (.dK kvs) ∧ kvs.map (·.1) = ((riseL had).take i).map Sum.inl ∧ (∀ n v, (Sum.inl n, v) ∈ kvs → Tell G (nmsD (nmsOf (rowAt rows n))) v) ∧
      σ = [some (.ref x), some (.ref d), o2, none, none]) ⟨[], none, s01, e1, s1 _ _ e0, by rw [List.take_zero]; rfl, fun _ _ q => (nomatch q), rfl⟩ (fun i σ G _ ⟨_, _, _, e, _⟩ => SqT.of e) ?_ ?_⟩
  · rintro i y σ G hy ⟨kvs, o2, sG, elG, edG, kk, tk, rfl⟩
    rw [List.getElem?_map] at hy
    obtain ⟨n, en, rfl⟩ := Option.map_eq_some_iff.mp hy
    have nh : n ∈ had := (mem_riseL.mp (List.mem_of_getElem? en)).2
    have lk : kvs.length ≤ 60 := by
      have := congrArg List.length kk
      rw [List.length_map, List.length_map, List.length_take] at this
      omega
    refine ⟨_, rfl, x, dx, fs, rfl, sG _ _ h1, lo, _, rfl, x, fp, nm, r, _, had, n, _, _, _, rfl, shOk.same sh sG, nh, rfl, fun v tv => ?_⟩
    obtain ⟨a, us, rfl, ea, _, tu⟩ := tell_tup_inv tv
    refine ⟨a, us, rowAt rows n, rfl, ea, tu, row_len gn R n, fun q G1 s1' eq => ?_⟩
    refine ⟨_, rfl, _, rfl, d, _, rfl, DPut.k (k := Sum.inl n) (s1' _ _ edG) (small1000 (by omega)), ?_⟩
    have nin : n ∉ (riseL had).take i := fun h => by
      have := (riseL_rise had)
      rw [← List.take_append_drop (i + 1) (riseL had), take_snoc en] at this
      have := (List.pairwise_append.mp (List.pairwise_append.mp this).1).2.2 n h n (List.mem_singleton.mpr rfl)
      omega
    rw [val_snoc kk nin]
    have nl : l ≠ d := ne_of elG edG (by intro z; cases z)
    refine ⟨_, _, same_upd (sG.trans s1') hd, by rw [upd_ne nl]; exact s1' _ _ elG, upd_same, ?_, fun n' v' hv => ?_, rfl⟩
    · rw [List.map_append, kk, take_snoc en, List.map_append]
      rfl
    · refine Tell.over (s1' _ _ edG) (fun _ z => by cases z) _ _ ?_
      rcases List.mem_append.mp hv with h | h
      · exact Tell.keep s1' _ _ (tk n' v' h)
      · rw [List.mem_singleton] at h
        cases h
        exact tell_tup eq (by rw [List.length_map]; have := nms12 R gn n; omega) (tells_strs _)
  rintro σ H2 ⟨kvs, o2, s2, _, ed2, kk2, tk2, rfl⟩
  rw [List.length_map, List.take_length] at kk2
  have sh2 := shOk.same sh s2
  refine ⟨_, rfl, x, fp, nm, r, rows, had, rfl, sh2, gn, R, l60, hh, r0, r10, fun gv H3 s3 tg => ?_⟩
  obtain ⟨ag, gz, rfl, eag, _, tgz⟩ := tell_tup_inv tg
  have lgz : gz.length = (lackL (riseL had)).length := by
    rw [tgz.length]
    unfold gapsL
    rw [List.length_map]
  have s23 := s2.trans s3
  refine ⟨ag, rfl, ⟨_, SqT.of eag⟩, for_tup (K := K) (a := ag) (xs := gz) (fun i σ G => ∃ (kvs : List (Key × V)) (o2 o3 o4 : Option V), Same H G ∧ G ag = some (.tup gz) ∧ Tells G (gapsL (riseL had) rows r) gz ∧ G d = some (.dK kvs) ∧ kvs.map (·.1) = (riseL had ++ (lackL (riseL had)).take i).map Sum.inl ∧ (∀ n v, (Sum.inl n, v) ∈ kvs → Tell G (optD (knownO (riseL had) rows r n)) v) ∧
      σ = [some (.ref x), some (.ref d), o2, o3, o4]) ⟨kvs, _, _, _, s23, eag, tgz, s3 _ _ ed2, by rw [List.take_zero, List.append_nil]; exact kk2, fun n v hv => ?_, rfl⟩ (fun i σ G _ ⟨_, _, _, _, _, e, _⟩ => SqT.of e) ?_ ?_⟩
  · have hm : n ∈ riseL had := by
      have : (Sum.inl n : Key) ∈ kvs.map (·.1) := List.mem_map.mpr ⟨_, hv, rfl⟩
      rw [kk2] at this
      obtain ⟨n', h, e⟩ := List.mem_map.mp this
      cases e
      exact h
    unfold knownO
    rw [if_pos (.inl hm)]
    exact Tell.keep s3 _ _ (tk2 n v hv)
  · rintro i y σ G hy ⟨kvs, o2, o3, o4, sG, eaG, tG, edG, kk, tk, rfl⟩
    obtain ⟨n, a, b, en, rfl, ha, hb⟩ := tells_gap tG hy
    have hlk := List.mem_of_getElem? en
    have hin : n ∉ riseL had := (mem_lackL.mp hlk).2.1
    have lk : kvs.length ≤ 120 := by
      have := congrArg List.length kk
      rw [List.length_map, List.length_map, List.length_append, List.length_take] at this
      omega
    have nin : n ∉ riseL had ++ (lackL (riseL had)).take i := fun h => by
      rcases List.mem_append.mp h with h | h
      · exact hin h
      · have := lackL_rise (riseL had)
        rw [← List.take_append_drop (i + 1) (lackL (riseL had)), take_snoc en] at this
        have := (List.pairwise_append.mp (List.pairwise_append.mp this).1).2.2 n h n (List.mem_singleton.mpr rfl)
        omega
    have nag : ag ≠ d := ne_of eaG edG (by intro z; cases z)
    refine ⟨a, _, rfl, SqT.of ha, rfl, _, _, rfl, _, _, rfl, _, _, rfl, rfl, ?_⟩
    have fin : ∀ v, Tell G (optD (knownO (riseL had) rows r n)) v → ∃ (kvs' : List (Key × V)) (o2 o3 o4 : Option V), Same H (upd G d (.dK (putK kvs (Sum.inl n) v))) ∧ upd G d (.dK (putK kvs (Sum.inl n) v)) ag = some (.tup gz) ∧ Tells (upd G d (.dK (putK kvs (Sum.inl n) v))) (gapsL (riseL had) rows r) gz ∧ upd G d (.dK (putK kvs (Sum.inl n) v)) d = some (.dK kvs') ∧ kvs'.map (·.1) = (riseL had ++ (lackL (riseL had)).take (i + 1)).map Sum.inl ∧ (∀ n' v', (Sum.inl n', v') ∈ kvs' → Tell (upd G d (.dK (putK kvs (Sum.inl n) v))) (optD (knownO (riseL had) rows r n')) v') ∧
        [some (V.ref x), some (.ref d), some (.int n), some (.int (tellV (riseL had) n r)), some (.ref b)] = [some (V.ref x), some (.ref d), o2, o3, o4] := fun v tv => by
      rw [val_snoc kk nin]
      refine ⟨_, _, _, _, same_upd sG hd, by rw [upd_ne nag]; exact eaG, Tells.over edG (fun _ z => by cases z) _ _ tG, upd_same, ?_, fun n' v' hv => ?_, rfl⟩
      · rw [List.map_append, kk, take_snoc en, ← List.append_assoc, List.map_append (l₁ := riseL had ++ _)]
        rfl
      · refine Tell.over edG (fun _ z => by cases z) _ _ ?_
        rcases List.mem_append.mp hv with h | h
        · exact tk n' v' h
        · rw [List.mem_singleton] at h
          cases h
          exact tv
    refine ⟨_, rfl, rfl, _, rfl, ?_⟩
    by_cases c : tellV (riseL had) n r = 0
    · rw [decide_eq_true (congrArg V.int c)]
      refine iteT ⟨_, rfl, _, rfl, d, _, rfl, DPut.k (k := Sum.inl n) edG (small1000 (by omega)), fin .non ?_⟩
      unfold knownO
      rw [if_neg (fun h => h.elim hin fun h => h c)]
      exact tell_non
    · rw [decide_eq_false (fun e => c (V.int.inj e))]
      refine iteF ⟨_, rfl, _, rfl, _, rfl, d, _, rfl, DPut.k (k := Sum.inl n) edG (small1000 (by omega)), fin (.ref b) ?_⟩
      unfold knownO
      rw [if_pos (.inr c)]
      unfold gapSet at hb
      rw [if_neg c] at hb
      exact tell_tup hb (by rw [List.length_map]; have := nms12 R gn n; omega) (tells_strs _)
  rintro σ H4 ⟨kvs, p2, p3, p4, s4, _, _, ed4, kk4, tk4, rfl⟩
  rw [lgz, List.take_length] at kk4
  have hm60 : m ≤ 60 := by have := it.le (k := 60) (by decide) fun x hx => (h60 x hx).2; omega
  have knd : (riseL had ++ lackL (riseL had)).Nodup := List.nodup_append.mpr ⟨(riseL_rise had).imp fun h => Int.ne_of_lt h, (lackL_rise _).imp fun h => Int.ne_of_lt h, fun a ha b hb e => (mem_lackL.mp hb).2.1 (e ▸ ha)⟩
  have kall : ∀ n ∈ riseL had ++ lackL (riseL had), 1 ≤ n ∧ n ≤ 60 := fun n hn => by
    rcases List.mem_append.mp hn with h | h
    · exact h60 n (mem_riseL.mp h).2
    · have := (mem_lackL.mp h).1
      omega
  refine ⟨_, rfl, d, kvs, riseL had ++ lackL (riseL had), rfl, ed4, kk4, Nat.lt_of_le_of_lt (len_had knd kall) (by decide), fun ls ms hls hp hs => ?_⟩
  have ems : ms = upI 1 m := by
    rw [rise_of knd kall hp hs]
    exact keys_all h60 it
  subst ems
  have s5 := same_new hls (.lst ((upI 1 m).map V.int))
  have e5 : upd H4 ls (.lst ((upI 1 m).map V.int)) ls = some (.lst ((upI 1 m).map V.int)) := upd_same
  have ed5 := s5 _ _ ed4
  generalize upd H4 ls (.lst ((upI 1 m).map V.int)) = H5 at s5 e5 ed5
  refine ⟨ls, rfl, ⟨_, SqL.of e5⟩, ?_⟩
  refine comp_list (xs := (upI 1 m).map V.int) (fun i ys G => G = H5 ∧ Tells H5 (((upI 1 m).take i).map fun n => optD (knownO (riseL had) rows r n)) ys) ⟨rfl, by rw [List.take_zero]; exact .nil⟩ (fun i ys G hi hp => ?_) (fun i y ys G hy hp => ?_) (fun ys G hp => ?_)
  · obtain ⟨rfl, t⟩ := hp
    refine ⟨SqL.of e5, small1000 ?_⟩
    rw [t.length, List.length_map, List.length_take, upI_length]
    omega
  · obtain ⟨rfl, t⟩ := hp
    rw [List.getElem?_map] at hy
    obtain ⟨n, en, rfl⟩ := Option.map_eq_some_iff.mp hy
    have hn : n ∈ riseL had ++ lackL (riseL had) := by
      have := List.mem_of_getElem? en
      rw [← keys_all h60 it] at this
      exact (mem_riseL.mp this).2
    obtain ⟨v, ev, mv⟩ := val_some kk4 hn
    refine ⟨_, rfl, _, rfl, d, v, rfl, (by rw [← ev]; exact DGet.k (k := Sum.inl n) ed5), rfl, ?_⟩
    rw [take_snoc en, List.map_append]
    exact Tells.snoc t (Tell.keep s5 _ _ (tk4 n v mv))
  · obtain ⟨rfl, t⟩ := hp
    rw [List.length_map, List.take_length] at t
    intro D hD
    refine ⟨D, ys, rfl, .inl ⟨SqL.of upd_same, fun q hq => k _ _ (s4.trans (s5.trans ((same_new hD _).trans (same_new hq _)))) (tell_tup upd_same ?_ (Tells.keep ((same_new hD _).trans (same_new hq _)) _ _ ?_))⟩⟩
    · rw [List.length_map, knownL_len]
      omega
    · unfold knownL
      rw [List.map_map]
      exact t
noncomputable def spCount (Sh : ShP) : Sp := fun vs H Q _ => ∃ (x : Addr) (fp : List Addr) (nm : List Str) (r : Int) (iss : Int → DV) (had : List Int), vs = [.ref x] ∧ Sh H x fp nm r iss had ∧ (∀ n ∈ had, 1 ≤ n ∧ n ≤ 60) ∧
  ∀ (H' : Hp), Same H H' → Q (.int (2 ^ ((darkF (riseL had) r).length * nm.length))) H'
theorem ok_two (M : Bl mg) (F : Fun K "two_to_the" "two_to_the" stwo_to_the f fd) : FnOk P w K mg base CX0 1 f fd ptwo_to_the spDoubled := by
  have nd := sctwo_to_the.nd
  refine F.ok sctwo_to_the (fun vs H Q E h => ?_) (fun cdv A outer s H vs Q E hr h => ?_)
  · obtain ⟨t, rfl, _⟩ := h
    rfl
  obtain ⟨t, rfl, t0, t1, q⟩ := h
  refine ⟨_, (pss_cons (ps_set (i := 1) nd rfl (Or.inl rfl) pe_int) (pss_cons (ps_for PassesOwn.never rfl (pi_range1 rfl M.range (pa_cons (pv 0) pa_nil)) (pg_name (i := 2) nd rfl (Or.inl rfl)) (pss_one (ps_set (i := 1) nd rfl (Or.inl rfl) (pe_op op_mul (pv 1) pe_int)))) (pss_one (ps_ret (pv 1))))), ?_⟩
  refine ⟨_, rfl, _, rfl, by omega, by omega, ?_⟩
  refine for_range (lo := 0) (n := t.toNat) (fun i σ H' => H' = H ∧ ∃ o, σ = [some (.int t), some (.int (2 ^ i)), o]) ⟨rfl, _, rfl⟩ (fun i σ H' hi hp => ?_) (fun σ H' hp => ?_)
  · obtain ⟨rfl, o, rfl⟩ := hp
    refine ⟨_, rfl, _, _, rfl, rfl, .inr ⟨by decide, by decide⟩, rfl, some (.int (0 + (i : Int))), ?_⟩
    rw [Int.pow_succ]
    rfl
  · obtain ⟨rfl, o, rfl⟩ := hp
    exact ⟨_, rfl, q⟩
theorem ok_count {CShelf : Addr} (M : Bl mg) (T : TxShelf K mg CShelf) (F : Fun K "course_count" "course_count" scourse_count f fd) (GShelf_had : MCal P w K mg base 1 CShelf "had" pShelf_had (spShHad (ShD K CShelf)))
    (Gdark_numbers : Cal P w K mg base 3 "dark_numbers" pdark_numbers (spDark K)) (Gtwo_to_the : Cal P w K mg base 1 "two_to_the" ptwo_to_the spDoubled) : FnOk P w K mg base CX0 4 f fd pcourse_count (spCount (ShD K CShelf)) := by
  have nd := sccourse_count.nd
  refine F.ok sccourse_count (fun vs H Q E h => ?_) (fun cdv A outer s H vs Q E hr h => ?_)
  · obtain ⟨x, fp, nm, r, iss, had, rfl, _⟩ := h
    rfl
  obtain ⟨x, fp, nm, r, iss, had, rfl, sh, hh, k⟩ := h
  refine ⟨_, (pss_cons (ps_set (i := 1) nd rfl (Or.inl rfl) (pe_cal Gdark_numbers (rm hr) rfl (pa_cons (pe_mcal0 GShelf_had (rm hr) (pv 0)) (pa_cons (pe_fld (pv 0) rfl) pa_nil)))) (pss_one (ps_ret (pe_cal Gtwo_to_the (rm hr) rfl (pa_cons (pe_op op_mul (pe_callB call_len_seq rfl M.len PySem.boot_len (pa_cons (pv 1) pa_nil)) (pe_callB call_len_seq rfl M.len PySem.boot_len (pa_cons (pe_fld (pv 0) rfl) pa_nil))) pa_nil))))), ?_⟩
  obtain ⟨dx, pn, fs, h1, h3, ln, lr, lm, gn⟩ : ∃ dx pn fs, H x = some (.ins CShelf dx fs) ∧ H pn = some (.tup (nm.map V.str)) ∧ fs.lookup ("names" : Str) = some (V.ref pn) ∧ fs.lookup ("reach" : Str) = some (V.int r) ∧ fs.lookup ("had" : Str) = none ∧ GoodN nm := by
    obtain ⟨dx, pn, pd, fs, kvs, _, h1, _, h3, _, l1, l2, _, lm, _, _, _, _, gn, _⟩ := sh
    exact ⟨dx, pn, fs, h1, h3, l1, l2, lm _ (by simp), gn⟩
  have h60 : ∀ n ∈ riseL had, 1 ≤ n ∧ n ≤ 60 := fun n hn => hh n (mem_riseL.mp hn).2
  refine ⟨_, rfl, x, dx, fs, rfl, h1, lm, x, fp, nm, r, _, had, rfl, sh, fun l H1 s1 e1 => ?_⟩
  refine ⟨_, rfl, x, CShelf, dx, fs, _, rfl, s1 _ _ h1, T.cl, T.n_reach, lr, l, riseL had, r, rfl, .inr (SqT.of e1), h60, Nat.le_trans (riseL_len had) (by decide), fun d H2 s2 e2 => ?_⟩
  have s12 := s1.trans s2
  have ld : ((darkF (riseL had) r).map V.int).length = (darkF (riseL had) r).length := List.length_map _
  have lm' : (nm.map V.str).length = nm.length := List.length_map _
  have l60 := darkF_len (riseL had) r
  have n12 := gn.hi
  have lt : (darkF (riseL had) r).length * nm.length ≤ 60 * 12 := Nat.mul_le_mul l60 n12
  refine ⟨_, rfl, d, _, rfl, .inr (SqT.of e2), _, rfl, x, CShelf, dx, fs, _, rfl, s12 _ _ h1, T.cl, T.n_names, ln, pn, _, rfl, .inr (SqT.of (s12 _ _ h3)), _, _, rfl, rfl, ?_, _, rfl, ?_, ?_, ?_⟩
  · rw [ld]
    exact .inl ⟨by omega, by omega⟩
  · exact Int.mul_nonneg (Int.natCast_nonneg _) (Int.natCast_nonneg _)
  · rw [ld, lm', ← Int.natCast_mul]
    omega
  · rw [ld, lm', ← Int.natCast_mul, Int.toNat_natCast]
    exact k H2 s12
noncomputable def courseD (c : List (List Str)) : DV := .tup (c.map nmsD)
noncomputable def OkO (nm : List Str) (o : Option (List Str)) (zs : List Str) : Prop := zs.Sublist nm ∧ ∀ ws, o = some ws → zs = ws
noncomputable def FitsC (nm : List Str) (ks : List (Option (List Str))) (c : List (List Str)) : Prop := c.length = ks.length ∧ ∀ (i : Nat) (o : Option (List Str)) (zs : List Str), ks[i]? = some o → c[i]? = some zs → OkO nm o zs
theorem nodup_idx {nm : List Str} (nd : nm.Nodup) {i : Nat} (h : i < nm.length) : nm.idxOf nm[i] = i := by
  have h1 : nm.idxOf nm[i] < nm.length := List.idxOf_lt_length_of_mem (List.getElem_mem h)
  have h2 : nm[nm.idxOf nm[i]] = nm[i] := List.getElem_idxOf h1
  have pw := List.pairwise_iff_getElem.mp nd
  rcases Nat.lt_trichotomy (nm.idxOf nm[i]) i with c | c | c
  · exact absurd h2 (pw _ _ h1 h c)
  · exact c
  · exact absurd h2.symm (pw _ _ h h1 c)
theorem sub_idx {nm zs : List Str} (nd : nm.Nodup) (hin : ∀ z ∈ zs, z ∈ nm) : (zs.map fun z => nm.idxOf z).Pairwise (· < ·) ↔ zs.Sublist nm := by
  constructor
  · intro h
    have e : zs = (zs.attach.map fun z => (⟨nm.idxOf z.1, List.idxOf_lt_length_of_mem (hin z.1 z.2)⟩ : Fin nm.length)).map fun i => nm[i] := by
      rw [List.map_map]
      refine (List.ext_getElem (by rw [List.length_map, List.length_attach]) fun i h1 h2 => ?_)
      rw [List.getElem_map, List.getElem_attach]
      exact (List.getElem_idxOf _).symm
    rw [e]
    refine List.map_getElem_sublist ?_
    rw [List.pairwise_map] at h ⊢
    rw [List.pairwise_iff_getElem] at h ⊢
    intro i j hi hj hij
    rw [List.length_attach] at hi hj
    have := h i j hi hj hij
    rw [List.getElem_attach, List.getElem_attach]
    exact this
  · intro h
    obtain ⟨is, rfl, hp⟩ := List.sublist_eq_map_getElem h
    rw [List.map_map, List.pairwise_map]
    refine hp.imp fun {a b} hab => ?_
    show nm.idxOf nm[a] < nm.idxOf nm[b]
    have ha : nm.idxOf nm[a] = a.1 := nodup_idx nd a.2
    have hb : nm.idxOf nm[b] = b.1 := nodup_idx nd b.2
    rw [ha, hb]
    exact hab
theorem idx_first {nm : List Str} {z : Str} (h : z ∈ nm) : nm[nm.idxOf z]? = some z ∧ ∀ m, m < nm.idxOf z → nm[m]? ≠ some z := by
  have h1 := List.idxOf_lt_length_of_mem h
  refine ⟨by rw [List.getElem?_eq_getElem h1, List.getElem_idxOf h1], fun m hm e => ?_⟩
  have hm' : m < nm.length := by omega
  rw [List.getElem?_eq_getElem hm'] at e
  have e' := Option.some.inj e
  have hf : (nm[m] == z) = false := List.not_of_lt_findIdx (p := (· == z)) (xs := nm) hm
  rw [e', beq_self_eq_true] at hf
  cases hf
theorem pair_snoc {ps : List Nat} {j : Nat} (h : (ps.take (j + 1)).Pairwise (· < ·)) {a b : Nat} (ha : ps[j]? = some a) (hb : ps[j + 1]? = some b) (hab : a < b) : (ps.take (j + 1 + 1)).Pairwise (· < ·) := by
  rw [take_snoc hb]
  refine List.pairwise_append.mpr ⟨h, List.pairwise_singleton _ _, fun x hx y hy => ?_⟩
  rw [List.mem_singleton.mp hy]
  rw [take_snoc ha] at h hx
  rcases List.mem_append.mp hx with hx | hx
  · have := (List.pairwise_append.mp h).2.2 x hx a (List.mem_singleton.mpr rfl)
    omega
  · rw [List.mem_singleton.mp hx]
    exact hab
theorem tupEq_strs (a b : List Str) : tupEq (a.map V.str) (b.map V.str) = decide (a = b) := by
  induction a generalizing b with
  | nil =>
    cases b with
    | nil => rfl
    | cons y b => exact (decide_eq_false (fun e => nomatch e)).symm
  | cons x a ih =>
    cases b with
    | nil => exact (decide_eq_false (fun e => nomatch e)).symm
    | cons y b =>
      show (x == y && tupEq (a.map V.str) (b.map V.str)) = decide (x :: a = y :: b)
      rw [ih, Bool.eq_iff_iff, Bool.and_eq_true, decide_eq_true_eq, decide_eq_true_eq, beq_iff_eq, List.cons.injEq]
noncomputable def spCourse (K : PySem.W.Frag) : Sp := fun vs H Q _ => ∃ (v : V) (ln lk : Addr) (c : List (List Str)) (nm : List Str) (ks : List (Option (List Str))) (xs : List V), vs = [v, .ref ln, .ref lk] ∧ Tell H (courseD c) v ∧ (∀ zs ∈ c, zs.length ≤ 100) ∧ SqL K H ln (nm.map V.str) ∧ nm.Nodup ∧ nm.length ≤ 12 ∧ SqL K H lk xs ∧ Tells H (ks.map optD) xs ∧ ks.length ≤ 100 ∧
  (FitsC nm ks c → ∀ H', Same H H' → Q (.bl true) H') ∧ (¬ FitsC nm ks c → ∀ H', Same H H' → Q (.bl false) H')
theorem tells_strs_inv {H : Hp} : ∀ {l : List Str} {xs : List V}, Tells H (l.map DV.str) xs → xs = l.map V.str
  | [], _, h => tells_nil_inv h
  | i :: r, _, h => by
    obtain ⟨x, t, rfl, h1, h2⟩ := tells_cons_inv h
    rw [tell_str_inv h1, tells_strs_inv h2]
    rfl
theorem ok_lcourse (M : Bl mg) (F : Fun K "_law_course" "_law_course" s_law_course f fd) : FnOk P w K mg base CX0 1 f fd p_law_course (spCourse K) := by
  have nd := sc_law_course.nd
  refine F.ok sc_law_course (fun vs H Q E h => ?_) (fun cdv A outer s H vs Q E hr h => ?_)
  · obtain ⟨v, ln, lk, c, nm, ks, xs, rfl, _⟩ := h
    rfl
  obtain ⟨v, ln, lk, c, nm, ks, xs, rfl, tc, c100, hN, ndn, n12, hK, tk, k100, qt, qf⟩ := h
  refine ⟨_, (pss_cons (ps_if (PW.pt (pw_or (pt_not (pt_val (pe_callB call_isinst rfl M.isinstance PyProof.Rows.boot_isinstance (pa_cons (pv 0) (pa_cons (pe_bltn (v := .ty "tuple") rfl M.tuple PyProof.Rows.boot_tuple rfl) pa_nil))))) (pw_or1 (pt_cmpR op_ne (pe_callB call_len_seq rfl M.len PySem.boot_len (pa_cons (pv 0) pa_nil)) (pe_callB call_len_seq rfl M.len PySem.boot_len (pa_cons (pv 2) pa_nil)) (nomark _))))) (pss_one (ps_ret pe_bl)) pss_nil) (pss_cons (ps_for PassesOwn.never rfl (pi_range1 rfl M.range (pa_cons (pe_callB call_len_seq rfl M.len PySem.boot_len (pa_cons (pv 2) pa_nil)) pa_nil)) (pg_name (i := 3) nd rfl (Or.inl rfl)) (pss_cons (ps_if (pt_not (pt_val (pe_callB call_isinst rfl M.isinstance PyProof.Rows.boot_isinstance (pa_cons (pe_ix ix_tup (pv 0) (pv 3) (fun _ _ => rfl)) (pa_cons (pe_bltn (v := .ty "tuple") rfl M.tuple PyProof.Rows.boot_tuple rfl) pa_nil))))) (pss_one (ps_ret pe_bl)) pss_nil) (pss_cons (ps_set (i := 4) nd rfl (Or.inl rfl) (pe_lst pa_nil)) (pss_cons (ps_for PassesOwn.never rfl (pi_tup (pe_ix ix_tup (pv 0) (pv 3) (fun _ _ => rfl))) (pg_name (i := 5) nd rfl (Or.inl rfl)) (pss_cons (ps_if (PW.pt (pw_or (pt_not (pt_val (pe_callB call_isinst rfl M.isinstance PyProof.Rows.boot_isinstance (pa_cons (pv 5) (pa_cons (pe_bltn (v := .ty "str") rfl M.str PyProof.Rows.boot_str rfl) pa_nil))))) (pw_or1 (pt_cmpR op_notIn_seq (pv 5) (pv 1) (by with_unfolding_all rfl))))) (pss_one (ps_ret pe_bl)) pss_nil) (pss_one (ps_expr (pe_bm PySem.F.plainAttrs_list PySem.F.slot_list_append PySem.F.type_list_append mt_append (pv 4) (pa_cons (pe_bm PySem.F.plainAttrs_list PySem.F.slot_list_index PySem.F.type_list_index mt_indexS (pv 1) (pa_cons (pv 5) pa_nil)) pa_nil)))))) (pss_cons (ps_for PassesOwn.never rfl (pi_range2 rfl M.range (pa_cons pe_int (pa_cons (pe_callB call_len_seq rfl M.len PySem.boot_len (pa_cons (pv 4) pa_nil)) pa_nil))) (pg_name (i := 6) nd rfl (Or.inl rfl)) (pss_one (ps_if (pt_cmpR op_ge (pe_ix ix_list (pv 4) (pe_op op_sub (pv 6) pe_int) (fun _ _ => rfl)) (pe_ix ix_list (pv 4) (pv 6) (fun _ _ => rfl)) (nomark _)) (pss_one (ps_ret pe_bl)) pss_nil))) (pss_one (ps_if (PW.pt (pw_and (pt_cmp (pc_notN (pe_ix ix_list (pv 2) (pv 3) (fun _ _ => rfl)))) (pw_and1 (pt_cmpR (op_neT hr.units0) (pe_ix ix_tup (pv 0) (pv 3) (fun _ _ => rfl)) (pe_ix ix_list (pv 2) (pv 3) (fun _ _ => rfl)) (nomark _))))) (pss_one (ps_ret pe_bl)) pss_nil))))))) (pss_one (ps_ret pe_bl)))), ?_⟩
  obtain ⟨a, us, rfl, ea, _, tu⟩ := tell_tup_inv (show Tell H (.tup (c.map nmsD)) v from tc)
  have lus : us.length = c.length := by rw [tu.length, List.length_map]
  have lxs : xs.length = ks.length := by rw [tk.length, List.length_map]
  refine ⟨_, rfl, _, _, _, _, rfl, .tup ea, kit_tup, _, rfl, iteF ⟨_, rfl, a, _, rfl, .inr (SqT.of ea), _, rfl, lk, _, rfl, .inl hK, rfl, _, rfl, ?_⟩⟩
  by_cases cl : c.length = ks.length
  case neg =>
    rw [decide_eq_false (fun e => cl (by injection e with e; omega))]
    exact iteT (qf (fun h => cl h.1) H (Same.refl _))
  rw [decide_eq_true (by rw [lus, lxs, cl])]
  refine iteF ?_
  refine ⟨_, rfl, lk, xs, rfl, .inl hK, _, rfl, by omega, by omega, ?_⟩
  refine for_range (lo := 0) (n := ((xs.length : Nat) : Int).toNat) (fun i σ G => ∃ (o3 o4 o5 o6 : Option V), Same H G ∧ (∀ (j : Nat) (o : Option (List Str)) (zs : List Str), j < i → ks[j]? = some o → c[j]? = some zs → OkO nm o zs) ∧ σ = [some (.ref a), some (.ref ln), some (.ref lk), o3, o4, o5, o6]) ⟨_, _, _, _, Same.refl _, fun _ _ _ h => absurd h (Nat.not_lt_zero _), rfl⟩ (fun i σ G hi hp => ?_) (fun σ G hp => ?_)
  · obtain ⟨o3, o4, o5, o6, g, done, rfl⟩ := hp
    have hic : i < c.length := by omega
    have hik : i < ks.length := by omega
    have ei : (0 : Int) + (i : Int) = (i : Int) := Int.zero_add _
    have eci : c[i]? = some c[i] := List.getElem?_eq_getElem hic
    have eki : ks[i]? = some ks[i] := List.getElem?_eq_getElem hik
    have hz100 := c100 c[i] (List.getElem_mem hic)
    generalize c[i] = zs at eci hz100
    generalize ks[i] = o at eki
    obtain ⟨u, eu, tu1⟩ := tu.get i (nmsD zs) (by rw [List.getElem?_map, eci]; rfl)
    obtain ⟨b, ws, rfl, eb, _, tb⟩ := tell_tup_inv (show Tell H (.tup (zs.map DV.str)) u from tu1)
    have ews := tells_strs_inv tb
    subst ews
    obtain ⟨x, ex, tx⟩ := tk.get i (optD o) (by rw [List.getElem?_map, eki]; rfl)
    have atu : atI us ((0 : Int) + (i : Int)) = some (.ref b) := by rw [ei]; exact atI_nat eu
    have atx : atI xs ((0 : Int) + (i : Int)) = some x := by rw [ei]; exact atI_nat ex
    have bad : ¬ OkO nm o zs → ¬ FitsC nm ks c := fun h q => h (q.2 i o zs eki eci)
    refine ⟨_, rfl, _, rfl, a, _, _, _, rfl, rfl, SqT.of (g _ _ ea), atu, _, _, _, _, rfl, .tup (g _ _ eb), kit_tup, _, rfl, iteF ?_⟩
    refine ⟨(by show 0 ≤ sizeLine; decide), fun lp hlp => ?_⟩
    have s1 := g.trans (same_new hlp (.lst []))
    have e1 : upd G lp (.lst []) lp = some (.lst []) := upd_same
    have nlp : H lp = none := g.free hlp
    generalize upd G lp (.lst []) = G1 at s1 e1
    refine ⟨_, rfl, _, rfl, a, _, _, _, rfl, rfl, SqT.of (s1 _ _ ea), atu, b, rfl, ⟨_, SqT.of (s1 _ _ eb)⟩, for_tup (K := K) (a := b) (xs := zs.map V.str) (fun j σ G2 => ∃ (o5 : Option V), Same H G2 ∧ (∀ z ∈ zs.take j, z ∈ nm) ∧ G2 lp = some (.lst ((zs.take j).map fun z => V.int (nm.idxOf z : Nat))) ∧ σ = [some (.ref a), some (.ref ln), some (.ref lk), some (.int (0 + (i : Int))), some (.ref lp), o5, o6]) ⟨_, s1, (fun z hz => by rw [List.take_zero] at hz; cases hz), by rw [List.take_zero]; exact e1, rfl⟩ (fun j σ G2 _ ⟨_, g2, _⟩ => SqT.of (g2 _ _ eb)) ?_ ?_⟩
    · rintro j y σ G2 hy ⟨o5, g2, hin, ep, rfl⟩
      rw [List.getElem?_map] at hy
      obtain ⟨z, ez, rfl⟩ := Option.map_eq_some_iff.mp hy
      refine ⟨_, rfl, _, _, _, _, rfl, ty_scal rfl, kit_scal "str" (.inr (.inr (.inr rfl))) rfl, _, rfl, iteF ⟨_, rfl, _, rfl, ln, _, rfl, .inl (g2.seq hN), rfl, flat_strs nm, _, rfl, ?_⟩⟩
      rw [if_pos rfl, inV_strs]
      by_cases hz : z ∈ nm
      · rw [decide_eq_true hz]
        obtain ⟨f1, f2⟩ := idx_first hz
        refine iteF ⟨_, rfl, .inl ⟨rfl, _, SqL.of ep⟩, _, rfl, .inl ⟨rfl, _, g2.seq hN⟩, _, rfl, ln, nm, z, nm.idxOf z, rfl, rfl, g2.seq hN, f1, f2, lp, _, _, rfl, rfl, ep, small1000 (by rw [List.length_map, List.length_take]; omega), ?_⟩
        refine ⟨_, same_upd g2 nlp, fun z' hz' => ?_, ?_, rfl⟩
        · rw [take_snoc ez] at hz'
          rcases List.mem_append.mp hz' with h | h
          · exact hin z' h
          · rw [List.mem_singleton.mp h]
            exact hz
        · rw [upd_same, take_snoc ez, List.map_append]
          rfl
      · rw [decide_eq_false hz]
        exact iteT (qf (bad fun h => hz (h.1.subset (List.mem_of_getElem? ez))) _ g2)
    rintro σ G2 ⟨o5, g2, hin, ep, rfl⟩
    rw [List.length_map, List.take_length] at hin ep
    have lps : (zs.map fun z => V.int (nm.idxOf z : Nat)).length = zs.length := List.length_map _
    have pat : ∀ (j : Nat) (hj : j < zs.length), atI (zs.map fun z => V.int (nm.idxOf z : Nat)) (j : Int) = some (V.int (nm.idxOf zs[j] : Nat)) := fun j hj => atI_nat (by rw [List.getElem?_map, List.getElem?_eq_getElem hj]; rfl)
    have ipt : ∀ (j : Nat) (hj : j < zs.length), (zs.map fun z => nm.idxOf z)[j]? = some (nm.idxOf zs[j]) := fun j hj => by rw [List.getElem?_map, List.getElem?_eq_getElem hj]; rfl
    refine ⟨_, rfl, lp, _, rfl, .inl (SqL.of ep), 1, _, rfl, ⟨by decide, by decide, by omega, by omega⟩, ?_⟩
    refine for_range (lo := 1) (n := ((((zs.map fun z => V.int (nm.idxOf z : Nat)).length : Nat) : Int) - 1).toNat) (fun j σ G3 => ∃ (o6 : Option V), G3 = G2 ∧ ((zs.map fun z => nm.idxOf z).take (j + 1)).Pairwise (· < ·) ∧ σ = [some (.ref a), some (.ref ln), some (.ref lk), some (.int (0 + (i : Int))), some (.ref lp), o5, o6]) ⟨_, rfl, ?_, rfl⟩ (fun j σ G3 hj hp => ?_) (fun σ G3 hp => ?_)
    · cases zs with
      | nil => exact .nil
      | cons z r => exact List.pairwise_singleton _ _
    · obtain ⟨o6', rfl, pw, rfl⟩ := hp
      have hj1 : j + 1 < zs.length := by rw [lps] at hj; omega
      have e1 : (1 : Int) + (j : Int) - 1 = ((j : Nat) : Int) := by omega
      have e2 : (1 : Int) + (j : Int) = ((j + 1 : Nat) : Int) := by omega
      refine ⟨_, rfl, _, rfl, _, _, rfl, rfl, lp, _, _, _, rfl, rfl, SqL.of ep, (by rw [e1]; exact pat j (by omega)), _, rfl, _, rfl, lp, _, _, _, rfl, rfl, SqL.of ep, (by rw [e2]; exact pat (j + 1) hj1), _, _, rfl, rfl, _, rfl, ?_⟩
      by_cases hlt : nm.idxOf zs[j] < nm.idxOf zs[j + 1]
      · rw [decide_eq_false (by omega)]
        exact iteF ⟨_, rfl, pair_snoc pw (ipt j (by omega)) (ipt (j + 1) hj1) hlt, rfl⟩
      · rw [decide_eq_true (by omega)]
        refine iteT (qf (bad fun h => hlt ?_) _ g2)
        have := (sub_idx ndn hin).mpr h.1
        rw [List.pairwise_map, List.pairwise_iff_getElem] at this
        exact this j (j + 1) (by omega) hj1 (by omega)
    obtain ⟨o6', rfl, pw, rfl⟩ := hp
    have sub : zs.Sublist nm := by
      refine (sub_idx ndn hin).mp ?_
      rw [List.take_of_length_le (by rw [List.length_map]; rw [lps]; omega)] at pw
      exact pw
    have more : OkO nm o zs → ∀ (j : Nat) (o : Option (List Str)) (zs : List Str), j < i + 1 → ks[j]? = some o → c[j]? = some zs → OkO nm o zs := fun h j o' zs' hj h1 h2 => by
      by_cases e : j = i
      · subst e
        rw [eki] at h1
        rw [eci] at h2
        cases h1
        cases h2
        exact h
      · exact done j o' zs' (by omega) h1 h2
    refine ⟨_, rfl, _, rfl, lk, _, _, _, rfl, rfl, g2.seq hK, atx, ?_⟩
    cases o with
    | none =>
      have ex' : x = .non := by
        unfold optD Tell at tx
        exact tx
      subst ex'
      exact ⟨_, rfl, iteF (iteF ⟨_, _, _, _, g2, more ⟨sub, fun _ h => by cases h⟩, rfl⟩)⟩
    | some ws =>
      obtain ⟨b2, vs2, rfl, eb2, _, tb2⟩ := tell_tup_inv (show Tell H (.tup (ws.map DV.str)) x from tx)
      have ews := tells_strs_inv tb2
      subst ews
      refine ⟨_, rfl, iteT ⟨_, rfl, _, rfl, a, _, _, _, rfl, rfl, SqT.of (g2 _ _ ea), atu, _, rfl, _, rfl, lk, _, _, _, rfl, rfl, g2.seq hK, atx, b, b2, _, _, rfl, rfl, SqT.of (g2 _ _ eb), SqT.of (g2 _ _ eb2), flat_strs zs, flat_strs ws, _, rfl, ?_⟩⟩
      by_cases e : zs = ws
      · subst e
        rw [tupEq_refl (flat_strs zs)]
        exact iteF ⟨_, _, _, _, g2, more ⟨sub, fun _ h => by cases h; rfl⟩, rfl⟩
      · rw [tupEq_strs, decide_eq_false e]
        exact iteT (qf (bad fun h => e (h.2 ws rfl)) _ g2)
  · obtain ⟨o3, o4, o5, o6, g, done, rfl⟩ := hp
    refine qt ⟨cl, fun i o zs h1 h2 => done i o zs ?_ h1 h2⟩ _ g
    have := (List.getElem?_eq_some_iff.mp h1).1
    omega
theorem small9 {n : Nat} (h : n ≤ 100000) : n < sizeLine := by rw [sizeLine_eq]; omega
noncomputable def choiceL (nm : List Str) : List (List Str) := nm.foldl (fun cs z => cs ++ cs.map (· ++ [z])) [[]]
theorem choice_snoc (nm : List Str) (z : Str) : choiceL (nm ++ [z]) = choiceL nm ++ (choiceL nm).map (· ++ [z]) := by
  unfold choiceL
  rw [List.foldl_append]
  rfl
theorem snoc_ind {α : Type} {p : List α → Prop} (h0 : p []) (h1 : ∀ l x, p l → p (l ++ [x])) (l : List α) : p l := by
  have go : ∀ n (l : List α), l.length = n → p l := by
    intro n
    induction n with
    | zero => intro l hl; rw [List.length_eq_zero_iff.mp hl]; exact h0
    | succ n ih =>
      intro l hl
      have hne : l ≠ [] := fun e => by rw [e] at hl; cases hl
      have e := List.dropLast_concat_getLast hne
      rw [← e]
      exact h1 _ _ (ih _ (by rw [List.length_dropLast]; omega))
  exact go _ l rfl
theorem choice_len (nm : List Str) : (choiceL nm).length = 2 ^ nm.length := by
  induction nm using snoc_ind with
  | h0 => rfl
  | h1 nm z ih => rw [choice_snoc, List.length_append, List.length_map, ih, List.length_append, List.length_singleton, Nat.pow_succ]; omega
theorem sub_snoc {zs nm : List Str} {z : Str} : zs.Sublist (nm ++ [z]) ↔ zs.Sublist nm ∨ ∃ ys : List Str, ys.Sublist nm ∧ zs = ys ++ [z] := by
  rw [List.sublist_append_iff]
  constructor
  · rintro ⟨l1, l2, rfl, h1, h2⟩
    rcases (show l2 = [] ∨ l2 = [z] from by
      cases h2 with
      | cons _ h => exact .inl (List.sublist_nil.mp h)
      | cons_cons _ h => exact .inr (by rw [List.sublist_nil.mp h])) with rfl | rfl
    · rw [List.append_nil]
      exact .inl h1
    · exact .inr ⟨l1, h1, rfl⟩
  · rintro (h | ⟨ys, h, rfl⟩)
    · exact ⟨zs, [], by rw [List.append_nil], h, List.nil_sublist _⟩
    · exact ⟨ys, [z], rfl, h, List.Sublist.refl _⟩
theorem mem_choice {nm : List Str} : ∀ {zs : List Str}, zs ∈ choiceL nm ↔ zs.Sublist nm := by
  induction nm using snoc_ind with
  | h0 =>
    intro zs
    show zs ∈ [[]] ↔ _
    rw [List.mem_singleton, List.sublist_nil]
  | h1 nm z ih =>
    intro zs
    rw [choice_snoc, List.mem_append, List.mem_map, sub_snoc, ih]
    refine or_congr Iff.rfl ⟨?_, ?_⟩
    · rintro ⟨ys, h, rfl⟩
      exact ⟨ys, ih.mp h, rfl⟩
    · rintro ⟨ys, h, rfl⟩
      exact ⟨ys, ih.mpr h, rfl⟩
theorem map_snoc_nodup {α : Type} {cs : List (List α)} (h : cs.Nodup) (x : α) : (cs.map (· ++ [x])).Nodup := by
  rw [List.Nodup, List.pairwise_map]
  exact h.imp fun {a b} hab e => hab (List.append_cancel_right e)
theorem choice_nodup {nm : List Str} (nd : nm.Nodup) : (choiceL nm).Nodup := by
  induction nm using snoc_ind with
  | h0 => exact List.pairwise_singleton _ _
  | h1 nm z ih =>
    rw [List.nodup_append] at nd
    rw [choice_snoc, List.nodup_append]
    refine ⟨ih nd.1, map_snoc_nodup (ih nd.1) z, fun a ha b hb e => ?_⟩
    subst e
    obtain ⟨ys, _, rfl⟩ := List.mem_map.mp hb
    have := (mem_choice.mp ha).subset (List.mem_append_right _ (List.mem_singleton.mpr rfl))
    exact nd.2.2 z this z (List.mem_singleton.mpr rfl) rfl
noncomputable def furtherL (cs : List (List (List Str))) (chs : List (List Str)) : List (List (List Str)) := chs.flatMap fun ch => cs.map (· ++ [ch])
theorem further_snoc (cs : List (List (List Str))) (chs : List (List Str)) (ch : List Str) : furtherL cs (chs ++ [ch]) = furtherL cs chs ++ cs.map (· ++ [ch]) := by
  unfold furtherL
  rw [List.flatMap_append, List.flatMap_singleton]
theorem further_len (cs : List (List (List Str))) (chs : List (List Str)) : (furtherL cs chs).length = chs.length * cs.length := by
  induction chs using snoc_ind with
  | h0 => rw [List.length_nil, Nat.zero_mul]; rfl
  | h1 chs ch ih => rw [further_snoc, List.length_append, ih, List.length_map, List.length_append, List.length_singleton, Nat.succ_mul]
theorem mem_further {cs : List (List (List Str))} {chs : List (List Str)} {c : List (List Str)} : c ∈ furtherL cs chs ↔ ∃ ch ∈ chs, ∃ c0 ∈ cs, c0 ++ [ch] = c := by
  unfold furtherL
  rw [List.mem_flatMap]
  refine ⟨fun ⟨ch, h1, h2⟩ => ⟨ch, h1, List.mem_map.mp h2⟩, fun ⟨ch, h1, h2⟩ => ⟨ch, h1, List.mem_map.mpr h2⟩⟩
theorem further_nodup {cs : List (List (List Str))} {chs : List (List Str)} (h1 : cs.Nodup) (h2 : chs.Nodup) : (furtherL cs chs).Nodup := by
  induction chs using snoc_ind with
  | h0 => exact .nil
  | h1 chs ch ih =>
    rw [List.nodup_append] at h2
    rw [further_snoc, List.nodup_append]
    refine ⟨ih h2.1, map_snoc_nodup h1 ch, fun a ha b hb e => ?_⟩
    subst e
    obtain ⟨c1, _, rfl⟩ := List.mem_map.mp hb
    obtain ⟨ch2, q1, c2, _, q2⟩ := mem_further.mp ha
    have := (List.append_inj' q2 rfl).2
    cases this
    exact h2.2.2 _ q1 _ (List.mem_singleton.mpr rfl) rfl
noncomputable def choicesO (nm : List Str) : Option (List Str) → List (List Str)
  | none => choiceL nm
  | some s => [s]
noncomputable def coursesL (nm : List Str) (ks : List (Option (List Str))) : List (List (List Str)) := ks.foldl (fun cs k => furtherL cs (choicesO nm k)) [[]]
theorem courses_snoc (nm : List Str) (ks : List (Option (List Str))) (k : Option (List Str)) : coursesL nm (ks ++ [k]) = furtherL (coursesL nm ks) (choicesO nm k) := by
  unfold coursesL
  rw [List.foldl_append]
  rfl
noncomputable def darkC (ks : List (Option (List Str))) : Nat := (ks.filter fun k => k.isNone).length
theorem courses_len (nm : List Str) (ks : List (Option (List Str))) : (coursesL nm ks).length = 2 ^ (darkC ks * nm.length) := by
  induction ks using snoc_ind with
  | h0 => unfold darkC; rw [List.filter_nil, List.length_nil, Nat.zero_mul]; rfl
  | h1 ks k ih =>
    rw [courses_snoc, further_len, ih]
    have e : darkC (ks ++ [k]) = darkC ks + (if k.isNone then 1 else 0) := by
      unfold darkC
      rw [List.filter_append, List.length_append]
      cases k <;> rfl
    rw [e]
    cases k with
    | none =>
      show (choiceL nm).length * _ = _
      rw [choice_len, show (if (none : Option (List Str)).isNone = true then 1 else 0) = 1 from rfl, Nat.add_mul, Nat.one_mul, Nat.pow_add, Nat.mul_comm]
    | some s =>
      show 1 * _ = _
      rw [Nat.one_mul]
      rfl
theorem choices_nodup {nm : List Str} (nd : nm.Nodup) (k : Option (List Str)) : (choicesO nm k).Nodup := by
  cases k with
  | none => exact choice_nodup nd
  | some s => exact List.pairwise_singleton _ _
theorem courses_nodup {nm : List Str} (nd : nm.Nodup) (ks : List (Option (List Str))) : (coursesL nm ks).Nodup := by
  induction ks using snoc_ind with
  | h0 => exact List.pairwise_singleton _ _
  | h1 ks k ih =>
    rw [courses_snoc]
    exact further_nodup ih (choices_nodup nd k)
theorem mem_courses {nm : List Str} {ks : List (Option (List Str))} : (∀ s, some s ∈ ks → s.Sublist nm) → ∀ {c : List (List Str)}, c ∈ coursesL nm ks ↔ FitsC nm ks c := by
  induction ks using snoc_ind with
  | h0 =>
    intro _ c
    show c ∈ [[]] ↔ _
    rw [List.mem_singleton]
    constructor
    · rintro rfl
      exact ⟨rfl, fun i o zs h => by simp at h⟩
    · intro h
      exact List.length_eq_zero_iff.mp h.1
  | h1 ks k ih =>
    intro hs c
    have ih' := @ih (fun s h => hs s (List.mem_append_left _ h))
    rw [courses_snoc, mem_further]
    have ok : ∀ ch, ch ∈ choicesO nm k ↔ OkO nm k ch := fun ch => by
      cases k with
      | none =>
        show ch ∈ choiceL nm ↔ _
        rw [mem_choice]
        exact ⟨fun h => ⟨h, fun _ e => by cases e⟩, fun h => h.1⟩
      | some s =>
        show ch ∈ [s] ↔ _
        rw [List.mem_singleton]
        constructor
        · rintro rfl
          exact ⟨hs _ (List.mem_append_right _ (List.mem_singleton.mpr rfl)), fun _ e => by cases e; rfl⟩
        · exact fun h => h.2 s rfl
    constructor
    · rintro ⟨ch, h1, c0, h2, rfl⟩
      have f := ih'.mp h2
      refine ⟨by rw [List.length_append, List.length_append, f.1]; rfl, fun i o zs e1 e2 => ?_⟩
      rw [List.getElem?_append] at e1 e2
      rw [f.1] at e2
      by_cases hi : i < ks.length
      · rw [if_pos hi] at e1 e2
        exact f.2 i o zs e1 e2
      · rw [if_neg hi] at e1 e2
        have hl := (List.getElem?_eq_some_iff.mp e1).1
        rw [List.length_singleton] at hl
        rw [show i - ks.length = 0 by omega] at e1 e2
        cases e1
        cases e2
        exact (ok _).mp h1
    · intro f
      have hl : c.length = ks.length + 1 := by rw [f.1, List.length_append, List.length_singleton]
      have hne : c ≠ [] := fun e => by rw [e] at hl; cases hl
      have e := List.dropLast_concat_getLast hne
      have hd : c.dropLast.length = ks.length := by rw [List.length_dropLast, hl]; rfl
      refine ⟨c.getLast hne, (ok _).mpr (f.2 ks.length k _ ?_ ?_), c.dropLast, ih'.mpr ⟨hd, fun i o zs e1 e2 => f.2 i o zs ?_ ?_⟩, e⟩
      · rw [List.getElem?_append_right (Nat.le_refl _), Nat.sub_self]
        rfl
      · have : (c.dropLast ++ [c.getLast hne])[ks.length]? = c[ks.length]? := by rw [e]
        rw [List.getElem?_append_right (by omega), hd, Nat.sub_self] at this
        exact this.symm
      · rw [List.getElem?_append_left (List.getElem?_eq_some_iff.mp e1).1]
        exact e1
      · have : (c.dropLast ++ [c.getLast hne])[i]? = c[i]? := by rw [e]
        rw [List.getElem?_append_left (List.getElem?_eq_some_iff.mp e2).1] at this
        rw [← this]
        exact e2
theorem courses_take_len (nm : List Str) (ks : List (Option (List Str))) (i : Nat) : (coursesL nm (ks.take i)).length ≤ (coursesL nm ks).length := by
  rw [courses_len, courses_len]
  refine Nat.pow_le_pow_right (by decide) (Nat.mul_le_mul_right _ ?_)
  unfold darkC
  exact ((List.take_sublist i ks).filter _).length_le
theorem tlens {H : Hp} {α : Type} {f : α → DV} {l : List α} {xs : List V} (h : Tells H (l.map f) xs) : xs.length = l.length := by rw [h.length, List.length_map]
noncomputable def spChoices : Sp := fun vs H Q _ => ∃ (pn : Addr) (nm : List Str), vs = [.ref pn] ∧ H pn = some (.tup (nm.map V.str)) ∧ nm.length ≤ 12 ∧ ∀ (v : V) (H' : Hp), Same H H' → Tell H' (.tup ((choiceL nm).map nmsD)) v → Q v H'
theorem choice_le {nm : List Str} (h : nm.length ≤ 12) (i : Nat) : (choiceL (nm.take i)).length ≤ 4096 := by
  rw [choice_len]
  exact Nat.le_trans (Nat.pow_le_pow_right (by decide) (Nat.le_trans (List.length_take_le' _ _) h)) (by decide)
theorem choice_short {nm zs : List Str} (h : nm.length ≤ 12) {i : Nat} (hz : zs ∈ choiceL (nm.take i)) : zs.length ≤ 12 := by
  have := (mem_choice.mp hz).length_le
  have := List.length_take_le' i nm
  omega
theorem ok_everychoice (M : Bl mg) (F : Fun K "every_choice" "every_choice" severy_choice f fd) : FnOk P w K mg base CX0 1 f fd pevery_choice spChoices := by
  have nd := scevery_choice.nd
  refine F.ok scevery_choice (fun vs H Q E h => ?_) (fun cdv A outer s H vs Q E hr h => ?_)
  · obtain ⟨pn, nm, rfl, _⟩ := h
    rfl
  obtain ⟨pn, nm, rfl, ep, n12, q⟩ := h
  refine ⟨_, (pss_cons (ps_set (i := 1) nd rfl (Or.inl rfl) (pe_lst (pa_cons (pe_tup pa_nil) pa_nil))) (pss_cons (ps_for PassesOwn.never rfl (pi_tup (pv 0)) (pg_name (i := 2) nd rfl (Or.inr rfl)) (pss_one (ps_set (i := 1) nd rfl (Or.inl rfl) (pe_op op_cat (pv 1) (pe_comp ["choice"] ["name"] [2] rfl (comp_scope rfl (by decide +kernel) rfl (by decide +kernel) rfl rfl) (pi_list (pv 1)) (fun _ _ _ _ _ => (pg_name (i := 0) (show ((["choice"] : List PySem.Str) ++ (["name"] : List PySem.Str)).Nodup from by decide +kernel) rfl (Or.inl rfl))) (own_name (by decide)) mono_name (fun _ _ _ _ _ => pts_nil) (fun _ _ _ _ _ => (pe_op op_catA (pv 0) (pe_tup (pa_cons (pv 1) pa_nil))))))))) (pss_one (ps_ret (pe_callTy call_tuple_of rfl M.tuple PyProof.Rows.boot_tuple (pa_cons (pv 1) pa_nil)))))), ?_⟩
  refine ⟨(by show 0 ≤ sizeLine; decide), fun t0 ht0 => ⟨(by show 1 ≤ sizeLine; decide), fun l0 hl0 => ?_⟩⟩
  have st := (same_new ht0 (.tup [])).trans (same_new hl0 (.lst [V.ref t0]))
  have e0 := same_new hl0 (.lst [V.ref t0]) _ _ (upd_same (H := H) (a := t0) (o := .tup []))
  have e1 : upd (upd H t0 (.tup [])) l0 (.lst [V.ref t0]) l0 = some (.lst [V.ref t0]) := upd_same
  generalize upd (upd H t0 (.tup [])) l0 (.lst [V.ref t0]) = H0 at st e0 e1
  refine ⟨_, rfl, pn, rfl, ⟨_, SqT.of (st _ _ ep)⟩, for_tup (K := K) (a := pn) (xs := nm.map V.str) (fun i σ G => ∃ (lc : Addr) (ys : List V) (o : Option V), Same H G ∧ G lc = some (.lst ys) ∧ Tells G ((choiceL (nm.take i)).map nmsD) ys ∧ σ = [some (.ref pn), some (.ref lc), o])
    ⟨l0, _, none, st, e1, .cons (tell_tup e0 (by show 0 ≤ 1000000; decide) .nil) .nil, rfl⟩ (fun i σ G _ ⟨_, _, _, g, _⟩ => SqT.of (g _ _ ep)) ?_ ?_⟩
  · rintro i y σ G hy ⟨lc, ys, o, g, eG, tG, rfl⟩
    rw [List.getElem?_map] at hy
    obtain ⟨z, ez, rfl⟩ := Option.map_eq_some_iff.mp hy
    have cl := choice_le n12 i
    have cl2 := choice_le n12 (i + 1)
    have ly := (tlens tG)
    rw [take_snoc ez, choice_snoc, List.length_append, List.length_map] at cl2
    refine ⟨_, rfl, _, rfl, lc, rfl, ⟨_, SqL.of eG⟩, ?_⟩
    refine comp_list (xs := ys) (fun j zs G2 => Same G G2 ∧ Tells G2 (((choiceL (nm.take i)).take j).map fun c => nmsD (c ++ [z])) zs) ⟨Same.refl _, by rw [List.take_zero]; exact .nil⟩ (fun j zs G2 hj hp => ?_) (fun j u zs G2 hu hp => ?_) (fun zs G2 hp => ?_)
    · obtain ⟨g2, t⟩ := hp
      refine ⟨SqL.of (g2 _ _ eG), small9 ?_⟩
      rw [(tlens t), List.length_take]
      omega
    · obtain ⟨g2, t⟩ := hp
      obtain ⟨d, ed, td⟩ := (Tells.keep g2 _ _ tG).at j u hu
      rw [List.getElem?_map] at ed
      obtain ⟨c, ec, rfl⟩ := Option.map_eq_some_iff.mp ed
      obtain ⟨a, xs, rfl, ea, _, tx⟩ := tell_tup_inv (show Tell G2 (.tup (c.map DV.str)) u from td)
      have exs := tells_strs_inv tx
      subst exs
      have c12 := choice_short n12 (List.mem_of_getElem? ec)
      refine ⟨_, rfl, _, rfl, (by show 1 ≤ sizeLine; decide), fun t1 ht1 => ?_⟩
      have s1 := same_new ht1 (.tup [V.str z])
      refine ⟨a, t1, c.map V.str, [V.str z], rfl, rfl, s1 _ _ ea, upd_same, Nat.le_of_lt (small1000 (by rw [List.length_map]; show c.length + 1 ≤ 1000; omega)), fun b G3 g3 eb => ?_⟩
      refine ⟨g2.trans (s1.trans g3), ?_⟩
      rw [take_snoc ec, List.map_append]
      refine Tells.snoc (Tells.keep (s1.trans g3) _ _ t) ?_
      refine tell_tup eb (by rw [List.length_map, List.length_append]; show c.length + 1 ≤ 1000000; omega) ?_
      have := tells_strs (H := G3) (c ++ [z])
      rw [List.map_append (f := V.str)] at this
      exact this
    obtain ⟨g2, t⟩ := hp
    rw [ly, List.take_length] at t
    intro D hD
    have lz := (tlens t)
    have sD := same_new hD (.lst zs)
    refine ⟨lc, D, ys, zs, rfl, rfl, sD _ _ (g2 _ _ eG), upd_same, Nat.le_of_lt (small9 (by omega)), fun lq hlq => ?_⟩
    have sq := (g2.trans sD).trans (same_new hlq (.lst (ys ++ zs)))
    refine ⟨lq, ys ++ zs, _, g.trans sq, upd_same, ?_, rfl⟩
    rw [take_snoc ez, choice_snoc, List.map_append]
    refine Tells.append (Tells.keep sq _ _ tG) ?_
    rw [List.map_map]
    exact Tells.keep (sD.trans (same_new hlq (.lst (ys ++ zs)))) _ _ t
  · rintro σ G ⟨lc, ys, o, g, eG, tG, rfl⟩
    rw [List.length_map, List.take_length] at tG
    refine ⟨_, rfl, lc, ys, rfl, .inl ⟨SqL.of eG, fun t ht => q _ _ (g.trans (same_new ht _)) (tell_tup upd_same ?_ (Tells.keep (same_new ht _) _ _ tG))⟩⟩
    rw [List.length_map]
    have := choice_le n12 nm.length
    rw [List.take_length] at this
    omega
noncomputable def spFurther : Sp := fun vs H Q _ => ∃ (pc ph : Addr) (us ws : List V) (cs : List (List (List Str))) (chs : List (List Str)), vs = [.ref pc, .ref ph] ∧ H pc = some (.tup us) ∧ Tells H (cs.map courseD) us ∧ H ph = some (.tup ws) ∧ Tells H (chs.map nmsD) ws ∧ chs.length * cs.length ≤ 4096 ∧ chs.length ≤ 4096 ∧ cs.length ≤ 4096 ∧ (∀ c ∈ cs, c.length ≤ 100) ∧
  ∀ (v : V) (H' : Hp), Same H H' → Tell H' (.tup ((furtherL cs chs).map courseD)) v → Q v H'
theorem ok_onefurther (M : Bl mg) (F : Fun K "one_number_further" "one_number_further" sone_number_further f fd) : FnOk P w K mg base CX0 1 f fd pone_number_further spFurther := by
  have nd := scone_number_further.nd
  refine F.ok scone_number_further (fun vs H Q E h => ?_) (fun cdv A outer s H vs Q E hr h => ?_)
  · obtain ⟨pc, ph, us, ws, cs, chs, rfl, _⟩ := h
    rfl
  obtain ⟨pc, ph, us, ws, cs, chs, rfl, ec, tc, eh, th, l1, l2, l3, h100, q⟩ := h
  refine ⟨_, (pss_cons (ps_set (i := 2) nd rfl (Or.inl rfl) (pe_lst pa_nil)) (pss_cons (ps_for PassesOwn.never rfl (pi_tup (pv 1)) (pg_name (i := 3) nd rfl (Or.inr rfl)) (pss_one (ps_expr (pe_bm PySem.F.plainAttrs_list PySem.F.slot_list_extend PySem.F.type_list_extend mt_extend (pv 2) (pa_cons (pe_comp ["course"] ["choice"] [3] rfl (comp_scope rfl (by decide +kernel) rfl (by decide +kernel) rfl rfl) (pi_tup (pv 0)) (fun _ _ _ _ _ => (pg_name (i := 0) (show ((["course"] : List PySem.Str) ++ (["choice"] : List PySem.Str)).Nodup from by decide +kernel) rfl (Or.inl rfl))) (own_name (by decide)) mono_name (fun _ _ _ _ _ => pts_nil) (fun _ _ _ _ _ => (pe_op op_catA (pv 0) (pe_tup (pa_cons (pv 1) pa_nil))))) pa_nil))))) (pss_one (ps_ret (pe_callTy call_tuple_of rfl M.tuple PyProof.Rows.boot_tuple (pa_cons (pv 2) pa_nil)))))), ?_⟩
  refine ⟨(by show 0 ≤ sizeLine; decide), fun lf hlf => ?_⟩
  have s0 := same_new hlf (.lst [])
  have lu := (tlens tc)
  have lw := (tlens th)
  have part : ∀ i, (furtherL cs (chs.take i)).length ≤ 4096 := fun i => by
    rw [further_len]
    refine Nat.le_trans (Nat.mul_le_mul_right _ ?_) l1
    rw [List.length_take]
    exact Nat.min_le_right _ _
  refine ⟨_, rfl, ph, rfl, ⟨_, SqT.of (s0 _ _ eh)⟩, for_tup (K := K) (a := ph) (xs := ws) (fun i σ G => ∃ (o3 : Option V) (ys : List V), Same H G ∧ G lf = some (.lst ys) ∧ Tells G ((furtherL cs (chs.take i)).map courseD) ys ∧ σ = [some (.ref pc), some (.ref ph), some (.ref lf), o3]) ⟨none, [], s0, upd_same, by rw [List.take_zero]; exact .nil, rfl⟩ (fun i σ G _ ⟨_, _, g, _⟩ => SqT.of (g _ _ eh)) ?_ ?_⟩
  · rintro i y σ G hi ⟨o3, ys, g, eG, tG, rfl⟩
    obtain ⟨d, ed, td⟩ := th.at i y hi
    rw [List.getElem?_map] at ed
    obtain ⟨ch, ech, rfl⟩ := Option.map_eq_some_iff.mp ed
    have pi := part i
    have pi2 := part (i + 1)
    rw [take_snoc ech, further_snoc, List.length_append, List.length_map] at pi2
    refine ⟨_, rfl, .inl ⟨rfl, _, SqL.of eG⟩, _, rfl, pc, rfl, ⟨_, SqT.of (g _ _ ec)⟩, ?_⟩
    refine comp_tup (xs := us) (fun j zs G2 => Same G G2 ∧ Tells G2 ((cs.take j).map fun c => courseD (c ++ [ch])) zs) ⟨Same.refl _, by rw [List.take_zero]; exact .nil⟩ (fun j zs G2 hj hp => ?_) (fun j u zs G2 hu hp => ?_) (fun zs G2 hp => ?_)
    · obtain ⟨g2, t⟩ := hp
      refine ⟨SqT.of (g2 _ _ (g _ _ ec)), small9 ?_⟩
      rw [(tlens t), List.length_take]
      omega
    · obtain ⟨g2, t⟩ := hp
      have cg := g.trans g2
      obtain ⟨d, ed, tu⟩ := (Tells.keep cg _ _ tc).at j u hu
      rw [List.getElem?_map] at ed
      obtain ⟨c, ecc, rfl⟩ := Option.map_eq_some_iff.mp ed
      obtain ⟨a, xs, rfl, ea, _, tx⟩ := tell_tup_inv (show Tell G2 (.tup (c.map nmsD)) u from tu)
      have lx := (tlens tx)
      have c100 := h100 c (List.mem_of_getElem? ecc)
      refine ⟨_, rfl, _, rfl, (by show 1 ≤ sizeLine; decide), fun t1 ht1 => ?_⟩
      have s1 := same_new ht1 (.tup [y])
      refine ⟨a, t1, xs, [y], rfl, rfl, s1 _ _ ea, upd_same, Nat.le_of_lt (small1000 (by show xs.length + 1 ≤ 1000; omega)), fun b G3 g3 eb => ?_⟩
      refine ⟨g2.trans (s1.trans g3), ?_⟩
      rw [take_snoc ecc, List.map_append]
      refine Tells.snoc (Tells.keep (s1.trans g3) _ _ t) ?_
      refine tell_tup eb (by rw [List.length_map, List.length_append]; show c.length + 1 ≤ 1000000; omega) ?_
      rw [List.map_append]
      exact Tells.snoc (Tells.keep (s1.trans g3) _ _ tx) (Tell.keep (cg.trans (s1.trans g3)) _ _ td)
    obtain ⟨g2, t⟩ := hp
    rw [lu, List.take_length] at t
    intro D hD
    have lz := (tlens t)
    have ly := (tlens tG)
    have sD := same_new hD (.lst zs)
    refine ⟨lf, D, ys, zs, rfl, rfl, sD _ _ (g2 _ _ eG), upd_same, Nat.le_of_lt (small9 (by omega)), ?_⟩
    have cg := (g.trans g2).trans sD
    refine ⟨_, ys ++ zs, same_upd cg hlf, upd_same, ?_, rfl⟩
    rw [take_snoc ech, further_snoc, List.map_append]
    refine Tells.over (sD _ _ (g2 _ _ eG)) no_lst _ _ (Tells.append (Tells.keep (g2.trans sD) _ _ tG) ?_)
    rw [List.map_map]
    exact Tells.keep sD _ _ t
  · rintro σ G ⟨o3, ys, g, eG, tG, rfl⟩
    rw [lw, List.take_length] at tG
    refine ⟨_, rfl, lf, _, rfl, .inl ⟨SqL.of eG, fun t ht => q _ _ (g.trans (same_new ht _)) (tell_tup upd_same ?_ (Tells.keep (same_new ht _) _ _ tG))⟩⟩
    have := part chs.length
    rw [List.take_length] at this
    rw [List.length_map]
    omega
theorem dk_eq (ns : List Int) (r : Int) : darkF ns r = (lackL ns).filter fun n => decide (tellV ns n r = 0) := by
  unfold darkF lwtL
  rw [List.filter_map, List.map_map]
  exact List.map_id _
theorem mem_dk {ns : List Int} {r n : Int} : n ∈ darkF ns r ↔ n ∈ lackL ns ∧ tellV ns n r = 0 := by rw [dk_eq, List.mem_filter, decide_eq_true_eq]
theorem dk_rise (ns : List Int) (r : Int) : (darkF ns r).Pairwise (· < ·) := by
  rw [dk_eq]
  exact (lackL_rise ns).filter _
theorem dark_known {hs : List Int} {rows : List Row} {r : Int} {m : Nat} (h60 : ∀ x ∈ hs, 1 ≤ x ∧ x ≤ 60) (it : IsTop hs m) : darkC (knownL m hs rows r) = (darkF hs r).length := by
  have e : darkF hs r = (upI 1 m).filter fun n => (knownO hs rows r n).isNone := by
    refine rise_ext (dk_rise hs r) ((upI_rise _ _).filter _) fun x => ?_
    rw [mem_dk, List.mem_filter, mem_upI, mem_lackL]
    have ko : (knownO hs rows r x).isNone = true ↔ ¬ (x ∈ hs ∨ tellV hs x r ≠ 0) := by
      unfold knownO
      by_cases c : x ∈ hs ∨ tellV hs x r ≠ 0
      · rw [if_pos c]
        exact ⟨(fun h => by cases h), fun h => absurd c h⟩
      · rw [if_neg c]
        exact ⟨fun _ => c, fun _ => rfl⟩
    rw [ko]
    constructor
    · rintro ⟨⟨h1, h2, y, hy, hxy⟩, h3⟩
      have := it.2 y hy
      exact ⟨by omega, fun q => q.elim h2 fun q => q h3⟩
    · rintro ⟨h1, h2⟩
      have hn : x ∉ hs := fun q => h2 (.inl q)
      have ht : tellV hs x r = 0 := Classical.byContradiction fun q => h2 (.inr q)
      rcases it.1 with q | ⟨q, q0⟩
      · have := h60 _ q
        have : x ≠ (m : Int) := fun e => hn (e ▸ q)
        exact ⟨⟨by omega, hn, m, q, by omega⟩, ht⟩
      · omega
  rw [e]
  unfold darkC knownL
  rw [List.filter_map, List.length_map]
  rfl
noncomputable def spEveryC (Sh : ShP) : Sp := fun vs H Q _ => ∃ (x : Addr) (fp : List Addr) (nm : List Str) (r : Int) (rows : List Row) (had : List Int) (m : Nat), vs = [.ref x] ∧ Sh H x fp nm r (fun n => issueD rows n r) had ∧ GoodN nm ∧ Rws nm rows ∧ rows.length ≤ 60 ∧ (∀ n ∈ had, 1 ≤ n ∧ n ≤ rows.length) ∧ 0 ≤ r ∧ r ≤ 10 ∧ IsTop had m ∧
  (darkF (riseL had) r).length * nm.length ≤ 12 ∧ ∀ (v : V) (H' : Hp), Same H H' → Tell H' (.tup ((coursesL nm (knownL m (riseL had) rows r)).map courseD)) v → Q v H'
theorem fits_len100 {nm : List Str} {ks : List (Option (List Str))} (hs : ∀ s, some s ∈ ks → s.Sublist nm) (hl : ks.length ≤ 60) {i : Nat} : ∀ c ∈ coursesL nm (ks.take i), c.length ≤ 100 := fun c hc => by
  have := ((mem_courses fun s h => hs s (List.mem_of_mem_take h)).mp hc).1
  rw [List.length_take] at this
  omega
theorem known_some {nm : List Str} {rows : List Row} (R : Rws nm rows) {m : Nat} {hs : List Int} {r : Int} {s : List Str} (h : some s ∈ knownL m hs rows r) : s.Sublist nm := by
  unfold knownL at h
  obtain ⟨n, _, e⟩ := List.mem_map.mp h
  unfold knownO at e
  split at e
  · cases e
    unfold rowAt nmsOf
    rw [List.getD_eq_getElem?_getD]
    cases e : rows[(n - 1).toNat]? with
    | none => exact List.nil_sublist _
    | some w => exact R.sub w (List.mem_of_getElem? e)
  · cases e
theorem ok_everycourse {CShelf : Addr} (M : Bl mg) (T : TxShelf K mg CShelf) (F : Fun K "every_course" "every_course" severy_course f fd) (Gcourse_count : Cal P w K mg base 5 "course_count" pcourse_count (spCount (ShD K CShelf))) (Gknown_sets : Cal P w K mg base 5 "known_sets" pknown_sets (spKnown (ShD K CShelf)))
    (Gevery_choice : Cal P w K mg base 1 "every_choice" pevery_choice spChoices) (Gone_number_further : Cal P w K mg base 1 "one_number_further" pone_number_further spFurther) : FnOk P w K mg base CX0 6 f fd pevery_course (spEveryC (ShD K CShelf)) := by
  have nd := scevery_course.nd
  refine F.ok scevery_course (fun vs H Q E h => ?_) (fun cdv A outer s H vs Q E hr h => ?_)
  · obtain ⟨x, fp, nm, r, rows, had, m, rfl, _⟩ := h
    rfl
  obtain ⟨x, fp, nm, r, rows, had, m, rfl, sh, gn, R, l60, hh, r0, r10, it, few, q⟩ := h
  refine ⟨_, (pss_cons (ps_if (pt_cmpR op_gt (pe_cal Gcourse_count (rm hr) rfl (pa_cons (pv 0) pa_nil)) (pe_con_int rfl M.MOST_COURSES) (nomark _)) (pss_one ps_never) pss_nil) (pss_cons (ps_set (i := 1) nd rfl (Or.inl rfl) (pe_tup (pa_cons (pe_tup pa_nil) pa_nil))) (pss_cons (ps_for PassesOwn.never rfl (pi_tup (pe_cal Gknown_sets (rm hr) rfl (pa_cons (pv 0) pa_nil))) (pg_name (i := 2) nd rfl (Or.inl rfl)) (pss_cons (ps_set (i := 3) nd rfl (Or.inl rfl) (pe_ifExp (pt_cmp (pc_isN (pv 2))) (pe_cal Gevery_choice (rm hr) rfl (pa_cons (pe_fld (pv 0) rfl) pa_nil)) (pe_tup (pa_cons (pv 2) pa_nil)))) (pss_one (ps_set (i := 1) nd rfl (Or.inl rfl) (pe_cal Gone_number_further (rm hr) rfl (pa_cons (pv 1) (pa_cons (pv 3) pa_nil))))))) (pss_one (ps_ret (pv 1)))))), ?_⟩
  have h60 : ∀ n ∈ had, 1 ≤ n ∧ n ≤ 60 := fun n hn => by have := hh n hn; omega
  have h60r : ∀ n ∈ riseL had, 1 ≤ n ∧ n ≤ 60 := fun n hn => h60 n (mem_riseL.mp hn).2
  have itr : IsTop (riseL had) m := it.same fun x => by
    rw [mem_riseL]
    exact ⟨fun h => h.2, fun h => ⟨by have := h60 x h; omega, h⟩⟩
  have hm60 : m ≤ 60 := by have := it.le (k := 60) (by decide) fun x hx => (h60 x hx).2; omega
  have few' : (coursesL nm (knownL m (riseL had) rows r)).length ≤ 4096 := by
    rw [courses_len, dark_known h60r itr]
    exact Nat.le_trans (Nat.pow_le_pow_right (by decide) few) (by decide)
  obtain ⟨dx, pn, fs, h1, h3, ln⟩ : ∃ dx pn fs, H x = some (.ins CShelf dx fs) ∧ H pn = some (.tup (nm.map V.str)) ∧ fs.lookup ("names" : Str) = some (V.ref pn) := by
    obtain ⟨dx, pn, pd, fs, kvs, _, h1, _, h3, _, l1, _⟩ := sh
    exact ⟨dx, pn, fs, h1, h3, l1⟩
  refine ⟨_, rfl, x, fp, nm, r, _, had, rfl, sh, h60, fun H1 s1 => ?_⟩
  have pw : (2 : Int) ^ ((darkF (riseL had) r).length * nm.length) ≤ 4096 := by
    have : 2 ^ ((darkF (riseL had) r).length * nm.length) ≤ 2 ^ 12 := Nat.pow_le_pow_right (by decide) few
    have e : ((2 ^ ((darkF (riseL had) r).length * nm.length) : Nat) : Int) = (2 : Int) ^ ((darkF (riseL had) r).length * nm.length) := by rw [Int.natCast_pow]; rfl
    omega
  refine ⟨_, _, rfl, rfl, _, rfl, ite2 (fun h => absurd (dec_of h) (by omega)) fun _ => ?_⟩
  refine ⟨(by show 0 ≤ sizeLine; decide), fun t0 ht0 => ⟨(by show 1 ≤ sizeLine; decide), fun t1 ht1 => ?_⟩⟩
  have st0 := same_new ht0 (.tup [])
  have st1 := same_new ht1 (.tup [V.ref t0])
  have e0 := st1 _ _ (upd_same (H := H1) (a := t0) (o := .tup []))
  have e1 : upd (upd H1 t0 (.tup [])) t1 (.tup [V.ref t0]) t1 = some (.tup [V.ref t0]) := upd_same
  have c1 := s1.trans (st0.trans st1)
  generalize upd (upd H1 t0 (.tup [])) t1 (.tup [V.ref t0]) = H2 at e0 e1 c1
  refine ⟨_, rfl, x, fp, nm, r, rows, had, m, rfl, shOk.same sh c1, gn, R, l60, hh, r0, r10, it, fun kv H3 s3 tk => ?_⟩
  obtain ⟨ak, us, rfl, eak, _, tus⟩ := tell_tup_inv tk
  have lus : us.length = m := by rw [tus.length, List.length_map, knownL_len]
  have c3 := c1.trans s3
  have hsome : ∀ s, some s ∈ knownL m (riseL had) rows r → s.Sublist nm := fun s h => known_some R h
  have lks : (knownL m (riseL had) rows r).length ≤ 60 := by rw [knownL_len]; exact hm60
  generalize knownL m (riseL had) rows r = ks at few' tus hsome lks q
  have part := fun i => Nat.le_trans (courses_take_len nm ks i) few'
  refine ⟨ak, rfl, ⟨_, SqT.of eak⟩, for_tup (K := K) (a := ak) (xs := us) (fun i σ G => ∃ (p : Addr) (ws : List V) (o2 o3 : Option V), Same H3 G ∧ G p = some (.tup ws) ∧ Tells G ((coursesL nm (ks.take i)).map courseD) ws ∧ σ = [some (.ref x), some (.ref p), o2, o3]) ⟨t1, _, none, none, Same.refl _, s3 _ _ e1, .cons (tell_tup (s3 _ _ e0) (by show 0 ≤ 1000000; decide) .nil) .nil, rfl⟩ (fun i σ G _ ⟨_, _, _, _, g, _⟩ => SqT.of (g _ _ eak)) ?_ ?_⟩
  · rintro i y σ G hi ⟨p, ws, o2, o3, g, ep, tp, rfl⟩
    obtain ⟨d, ed, td⟩ := tus.at i y hi
    rw [List.getElem?_map] at ed
    obtain ⟨o, eo, rfl⟩ := Option.map_eq_some_iff.mp ed
    have p1 := part i
    have p2 := part (i + 1)
    rw [take_snoc eo, courses_snoc, further_len] at p2
    have pos : 1 ≤ (coursesL nm (ks.take i)).length := by
      rw [courses_len]
      exact Nat.one_le_two_pow
    have lc : (choicesO nm o).length ≤ 4096 := Nat.le_trans (Nat.le_mul_of_pos_right _ pos) p2
    have fin : ∀ {G2 : Hp} {b : Addr} {zs : List V}, Same G G2 → G2 b = some (.tup zs) → Tells G2 ((choicesO nm o).map nmsD) zs → spFurther [.ref p, .ref b] G2 (fun v H1 => ∃ (p' : Addr) (ws : List V) (o2 o3 : Option V), Same H3 H1 ∧ H1 p' = some (.tup ws) ∧ Tells H1 ((coursesL nm (ks.take (i + 1))).map courseD) ws ∧ [some (V.ref x), some v, some y, some (.ref b)] = [some (.ref x), some (.ref p'), o2, o3]) (fun _ _ _ => False) := fun {G2 b zs} g2 eb tb => by
      refine ⟨p, b, ws, zs, _, _, rfl, g2 _ _ ep, Tells.keep g2 _ _ tp, eb, tb, p2, lc, p1, fits_len100 hsome lks, fun v H' s' tv => ?_⟩
      obtain ⟨a', ws', rfl, ea', _, ta'⟩ := tell_tup_inv tv
      refine ⟨a', ws', _, _, g.trans (g2.trans s'), ea', ?_, rfl⟩
      rw [take_snoc eo, courses_snoc]
      exact ta'
    cases o with
    | none =>
      have ey : y = .non := by
        unfold optD Tell at td
        exact td
      subst ey
      refine ⟨_, rfl, _, rfl, iteT ⟨_, rfl, x, CShelf, dx, fs, _, rfl, g _ _ (c3 _ _ h1), T.cl, T.n_names, ln, pn, nm, rfl, g _ _ (c3 _ _ h3), gn.hi, fun v H' s' tv => ?_⟩⟩
      obtain ⟨b, zs, rfl, eb, _, tb⟩ := tell_tup_inv tv
      exact ⟨_, rfl, _, rfl, fin s' eb tb⟩
    | some s0 =>
      obtain ⟨b, vs2, rfl, eb2, _, tb2⟩ := tell_tup_inv (show Tell H3 (.tup (s0.map DV.str)) y from td)
      refine ⟨_, rfl, _, rfl, iteF ⟨_, rfl, (by show 1 ≤ sizeLine; decide), fun t ht => ?_⟩⟩
      have st := same_new ht (.tup [V.ref b])
      exact ⟨_, rfl, _, rfl, fin st upd_same (.cons (Tell.keep (g.trans st) _ _ td) .nil)⟩
  · rintro σ G ⟨p, ws, o2, o3, g, ep, tp, rfl⟩
    have ll : ks.take us.length = ks := List.take_of_length_le (by have := tlens tus; omega)
    rw [ll] at tp
    exact ⟨_, rfl, q _ _ (c3.trans g) (tell_tup ep (by rw [List.length_map]; omega) tp)⟩
noncomputable def spEveryX (Sh : ShP) (CT : Addr) : Sp := fun vs H _ E => ∃ (x : Addr) (fp : List Addr) (nm : List Str) (r : Int) (iss : Int → DV) (had : List Int), vs = [.ref x] ∧ Sh H x fp nm r iss had ∧ (∀ n ∈ had, 1 ≤ n ∧ n ≤ 60) ∧ 12 < (darkF (riseL had) r).length * nm.length ∧ ∀ H', Same H H' → E (.ref CT) none H'
theorem ok_everycourseX {CShelf CTooManyCourses : Addr} (M : Bl mg) (T : TxShelf K mg CShelf) (F : Fun K "every_course" "every_course" severy_course f fd) (eTooManyCourses : Err K mg "TooManyCourses" CTooManyCourses) (Gcourse_count : Cal P w K mg base 5 "course_count" pcourse_count (spCount (ShD K CShelf))) (Gknown_sets : Cal P w K mg base 5 "known_sets" pknown_sets (spKnown (ShD K CShelf)))
    (Gevery_choice : Cal P w K mg base 1 "every_choice" pevery_choice spChoices) (Gone_number_further : Cal P w K mg base 1 "one_number_further" pone_number_further spFurther) : FnOk P w K mg base (CX1 P w) 6 f fd pevery_course (spOr (spEveryC (ShD K CShelf)) (spEveryX (ShD K CShelf) CTooManyCourses)) := by
  have nd := scevery_course.nd
  refine (ok_everycourse M T F Gcourse_count Gknown_sets Gevery_choice Gone_number_further).toX.or (F.okX scevery_course (fun vs H Q E h => ?_) (fun cdv A outer s H vs Q E hr h => ?_))
  · obtain ⟨x, fp, nm, r, iss, had, rfl, _⟩ := h
    rfl
  obtain ⟨x, fp, nm, r, iss, had, rfl, sh, h60, many, q⟩ := h
  refine ⟨_, (pss_cons (ps_if (pt_cmpR op_gt (pe_cal Gcourse_count (rm hr) rfl (pa_cons (pv 0) pa_nil)) (pe_con_int rfl M.MOST_COURSES) (nomark _)) (pss_one (ps_raise eTooManyCourses rfl (pa_cons (pe_join (pj_cons pe_str (pj_cons (pe_fmtI (pe_con_int rfl M.MOST_COURSES)) (pj_cons pe_str pj_nil)))) pa_nil))) pss_nil) (pss_cons (ps_set (i := 1) nd rfl (Or.inl rfl) (pe_tup (pa_cons (pe_tup pa_nil) pa_nil))) (pss_cons (ps_forX (pi_tup (pe_cal Gknown_sets (rm hr) rfl (pa_cons (pv 0) pa_nil))) (pg_name (i := 2) nd rfl (Or.inl rfl)) (pss_cons (ps_set (i := 3) nd rfl (Or.inl rfl) (pe_ifExp (pt_cmp (pc_isN (pv 2))) (pe_cal Gevery_choice (rm hr) rfl (pa_cons (pe_fld (pv 0) rfl) pa_nil)) (pe_tup (pa_cons (pv 2) pa_nil)))) (pss_one (ps_set (i := 1) nd rfl (Or.inl rfl) (pe_cal Gone_number_further (rm hr) rfl (pa_cons (pv 1) (pa_cons (pv 3) pa_nil))))))) (pss_one (ps_ret (pv 1)))))), ?_⟩
  refine ⟨_, rfl, x, fp, nm, r, _, had, rfl, sh, h60, fun H1 s1 => ?_⟩
  have pw : (4096 : Int) < (2 : Int) ^ ((darkF (riseL had) r).length * nm.length) := by
    have : 2 ^ 13 ≤ 2 ^ ((darkF (riseL had) r).length * nm.length) := Nat.pow_le_pow_right (by decide) many
    have e : ((2 ^ ((darkF (riseL had) r).length * nm.length) : Nat) : Int) = (2 : Int) ^ ((darkF (riseL had) r).length * nm.length) := by rw [Int.natCast_pow]; rfl
    omega
  refine ⟨_, _, rfl, rfl, _, rfl, ite2 (fun _ => ?_) fun h => absurd (decide_eq_true (by omega)) h⟩
  exact ⟨_, rfl, (by decide +kernel), _, rfl, by decide, _, rfl, (by decide +kernel), _, rfl, (by decide +kernel), (by decide +kernel), (by show 1 ≤ sizeLine; decide), q H1 s1⟩
noncomputable def spFilled (K : PySem.W.Frag) (Sh : ShP) : Sp := fun vs H Q _ => ∃ (ln lr lo : Addr) (nm : List Str) (r : Int) (us : List V) (rows : List Row) (ts : List Int), vs = [.ref ln, .int r, .ref lr, .ref lo] ∧ SqL K H ln (nm.map V.str) ∧ GoodN nm ∧ 0 ≤ r ∧ r ≤ 10 ∧ SqL K H lr us ∧ Tells H (rows.map rowD) us ∧ rows.length ≤ 60 ∧ Rws nm rows ∧
  SqL K H lo (ts.map V.int) ∧ (∀ n ∈ ts, 1 ≤ n ∧ n ≤ rows.length) ∧ (∃ o, H lo = some o) ∧ (∃ o, H lr = some o) ∧
  ∀ (x : Addr) (fp : List Addr) (had : List Int) (H' : Hp), (∀ b ∈ fp, H b = none) → Same H H' → Sh H' x fp nm r (fun n => issueD rows n r) had → (∀ n, n ∈ had ↔ n ∈ ts) → Q (.ref x) H'
theorem rows12 {nm : List Str} {rows : List Row} (R : Rws nm rows) (h : nm.length ≤ 12) : ∀ w ∈ rows, w.length ≤ 12 := fun w hw => by
  have := (R.sub w hw).length_le
  rw [List.length_map] at this
  omega
theorem ok_filled (M : Bl mg) (F : Fun K "_law_filled" "_law_filled" s_law_filled f fd) {CShelf : Addr} {Sh : ShP} (OS : ShOk CShelf ["put", "had", "latest"] Sh) (G_law_issue : Cal P w K mg base 1 "_law_issue" p_law_issue (spIssue K))
    (GShelf : Mkr P w K mg base 7 CShelf "Shelf" pShelf___init__ (spShInit K CShelf Sh)) (GShelf_put : MCal P w K mg base 7 CShelf "put" pShelf_put (spPut Sh)) : FnOk P w K mg base CX0 10 f fd p_law_filled (spFilled K Sh) := by
  have nd := sc_law_filled.nd
  refine F.ok sc_law_filled (fun vs H Q E h => ?_) (fun cdv A outer s H vs Q E hr h => ?_)
  · obtain ⟨ln, lr, lo, nm, r, us, rows, ts, rfl, _⟩ := h
    rfl
  obtain ⟨ln, lr, lo, nm, r, us, rows, ts, rfl, hN, gn, r0, r10, hR, tl, r60, R, hO, allt, ⟨oo, eo⟩, ⟨ro, er⟩, q⟩ := h
  refine ⟨_, (pss_cons (ps_set (i := 4) nd rfl (Or.inl rfl) (pe_mkr GShelf (rm hr) rfl (pa_cons (pe_callTy call_list_of rfl M.list PyProof.Rows.boot_list (pa_cons (pv 0) pa_nil)) (pa_cons (pv 1) pa_nil)))) (pss_cons (ps_for PassesOwn.never rfl (pi_list (pv 3)) (pg_name (i := 5) nd rfl (Or.inl rfl)) (pss_one (ps_expr (pe_mcal GShelf_put (rm hr) (pv 4) (pa_cons (pe_cal G_law_issue (rm hr) rfl (pa_cons (pv 2) (pa_cons (pv 5) (pa_cons (pv 1) pa_nil)))) pa_nil))))) (pss_one (ps_ret (pv 4))))), ?_⟩
  refine ⟨_, rfl, ln, nm.map V.str, rfl, .inl hN, fun l1 hl1 => ⟨_, rfl, fun x dx nx ndx ne => ?_⟩⟩
  have m1 := same_made (C := CShelf) (same_new hl1 (.lst (nm.map V.str))) nx ndx
  refine ⟨x, dx, l1, nm, r, rfl, upd_same, ne, by rw [upd_ne ne, upd_same], .inl (SqL.of (made_keep nx ndx upd_same)), gn, r0, r10, fun fp H5 hfp b5 sh5 => ⟨rfl, ?_⟩⟩
  have s5 : Same H H5 := same_init b5 m1 ((same_new hl1 _).free nx)
  have f5 : ∀ b ∈ fp, H b = none := fun b hb => fresh_init m1 ((same_new hl1 _).free nx) ((same_new hl1 _).free ndx) (hfp b hb)
  have shx : Sh H5 x fp nm r (fun n => issueD rows n r) [] := sh5 _
  have ntp : NoTup H5 fp := OS.noTup shx
  have outo : lo ∉ fp := fun m => by rw [f5 _ m] at eo; cases eo
  have outr : lr ∉ fp := fun m => by rw [f5 _ m] at er; cases er
  refine ⟨_, rfl, lo, rfl, ⟨_, s5.seq hO⟩, for_list (K := K) (a := lo) (xs := ts.map V.int)
    (fun j σ G => ∃ (fq : List Addr) (gd : List Int) (o3 : Option V), SameBut fp H5 G ∧ Sh G x fq nm r (fun n => issueD rows n r) gd ∧ (∀ b ∈ fq, b ∈ fp ∨ H5 b = none) ∧ (∀ n, n ∈ gd ↔ n ∈ ts.take j) ∧ σ = [some (.ref ln), some (.int r), some (.ref lr), some (.ref lo), some (.ref x), o3])
    ⟨fp, [], none, .of (Same.refl _), shx, fun b m => .inl m, fun n => by rw [List.take_zero], rfl⟩ (fun j σ G _ ⟨_, _, _, bt2, _⟩ => SqL.but bt2 outo (s5.seq hO)) ?_ ?_⟩
  · rintro j v σ G hj ⟨fq, gd, o3, bt2, sh2, ff2, mem2, rfl⟩
    obtain ⟨n, hn, rfl⟩ : ∃ n, ts[j]? = some n ∧ v = V.int n := by
      rw [List.getElem?_map] at hj
      cases e : ts[j]? with
      | none => rw [e] at hj; cases hj
      | some n => rw [e] at hj; exact ⟨n, rfl, (Option.some.inj hj).symm⟩
    have hnt := allt n (List.mem_of_getElem? hn)
    obtain ⟨d1, g1, z1, w1⟩ := OS.ins sh2
    refine ⟨_, rfl, x, d1, g1, rfl, z1, w1 _ (by simp), _, rfl, _, rfl, _, rfl, lr, us, rows, n, r, rfl, SqL.but bt2 outr (s5.seq hR), Tells.but bt2 ntp _ _ (Tells.keep s5 _ _ tl), by omega, rows12 R gn.hi, hnt.1, hnt.2, fun v1 H11 s11 t11 => ?_⟩
    refine ⟨x, v1, fq, nm, r, _, gd, n, _, rfl, OS.same sh2 s11, t11, rfl, hnt.1, by omega, fun fp3 H12 hf3 b12 sh12 => ?_⟩
    refine ⟨fp3, _, _, (fun b o e nb => b12 b o (s11 _ _ (bt2 b o e nb)) fun m => (ff2 b m).elim nb fun z => by rw [e] at z; cases z), sh12, ff_next bt2 ff2 s11 hf3, fun m => ?_, rfl⟩
    rw [mem_addN, mem2, take_snoc hn, List.mem_append, List.mem_singleton]
  · rintro σ G ⟨fq, gd, o3, bt2, sh2, ff2, mem2, rfl⟩
    rw [List.length_map, List.take_length] at mem2
    refine ⟨_, rfl, q x fq gd G (fun b hb => (ff2 b hb).elim (f5 b) fun z => s5.free z) (fun b o e => bt2 b o (s5 _ _ e) fun m => by rw [f5 _ m] at e; cases e) sh2 mem2⟩
noncomputable def refD (z : Str) : DV := .tup [.str "refused", .str z]
noncomputable def coursesD (cs : List (List (List Str))) : DV := .tup (cs.map courseD)
noncomputable def allD (nm : List Str) (ks : List (Option (List Str))) (bits : Nat) : DV := if bits ≤ 12 then coursesD (coursesL nm ks) else refD "too many"
noncomputable def spAll (Sh : ShP) : Sp := fun vs H Q _ => ∃ (x : Addr) (fp : List Addr) (nm : List Str) (r : Int) (rows : List Row) (had : List Int) (m : Nat), vs = [.ref x] ∧ Sh H x fp nm r (fun n => issueD rows n r) had ∧ GoodN nm ∧ Rws nm rows ∧ rows.length ≤ 60 ∧ (∀ n ∈ had, 1 ≤ n ∧ n ≤ rows.length) ∧ 0 ≤ r ∧ r ≤ 10 ∧ IsTop had m ∧
  ∀ (v : V) (H' : Hp), Same H H' → Tell H' (allD nm (knownL m (riseL had) rows r) ((darkF (riseL had) r).length * nm.length)) v → Q v H'
theorem ok_all22 {CShelf CBadNames CBadReach COfficeFull CUnknownName CBookFull CTooManyCourses CBackError : Addr} (M : Bl mg) (F : Fun K "_law_all" "_law_all" s_law_all f fd)
    (eBackError : Err K mg "BackError" CBackError) (eBadNames : Err K mg "BadNames" CBadNames) (eBadReach : Err K mg "BadReach" CBadReach) (eOfficeFull : Err K mg "OfficeFull" COfficeFull) (eUnknownName : Err K mg "UnknownName" CUnknownName) (eBookFull : Err K mg "BookFull" CBookFull) (eTooManyCourses : Err K mg "TooManyCourses" CTooManyCourses)
    (ers : Errs K CBackError [CBadNames, CBadReach, COfficeFull, CUnknownName, CBookFull, CTooManyCourses])
    (Gevery_courseX : CalX P w K mg base 8 "every_course" pevery_course (spOr (spEveryC (ShD K CShelf)) (spEveryX (ShD K CShelf) CTooManyCourses))) : FnOk P w K mg base CX0 9 f fd p_law_all (spAll (ShD K CShelf)) := by
  have nd := sc_law_all.nd
  refine F.ok sc_law_all (fun vs H Q E h => ?_) (fun cdv A outer s H vs Q E hr h => ?_)
  · obtain ⟨x, fp, nm, r, rows, had, m, rfl, _⟩ := h
    rfl
  obtain ⟨x, fp, nm, r, rows, had, m, rfl, sh, gn, R, l60, hh, r0, r10, it, q⟩ := h
  refine ⟨_, (pss_cons (ps_set (i := 1) nd rfl (Or.inl rfl) pe_bl) (pss_cut (ps_try (i := 2) eBackError rfl nd rfl rfl rfl rfl (fun _ _ => (pss_one (ps_ret (pe_calX thr_try Gevery_courseX (rm hr) rfl (pa_cons (pv 0) pa_nil))))) (fun _ _ => (pss_cons (ps_set (i := 1) nd rfl (Or.inl rfl) (pe_and (pe_callB (call_isX (K := K) rfl) rfl M.isinstance PyProof.Rows.boot_isinstance (pa_cons (pv 2) (pa_cons (pe_own rfl eTooManyCourses.mgC) pa_nil))) (pe_one (pe_callB (call_isXT (K := K) rfl) rfl M.isinstance PyProof.Rows.boot_isinstance (pa_cons (pv 2) (pa_cons (pe_bltn (v := .ty "ValueError") rfl M.ValueError boot_VE rfl) pa_nil)))))) (pss_cons (ps_set (i := 1) nd rfl (Or.inl rfl) (pe_and (pv 1) (pe_and (pe_not (pe_callB (call_isX (K := K) rfl) rfl M.isinstance PyProof.Rows.boot_isinstance (pa_cons (pv 2) (pa_cons (pe_own rfl eUnknownName.mgC) pa_nil)))) (pe_one (pe_not (pe_callB (call_isX (K := K) rfl) rfl M.isinstance PyProof.Rows.boot_isinstance (pa_cons (pv 2) (pa_cons (pe_own rfl eBookFull.mgC) pa_nil)))))))) (pss_one (ps_set (i := 1) nd rfl (Or.inl rfl) (pe_and (pv 1) (pe_one (pe_not (pe_callB (call_isX (K := K) rfl) rfl M.isinstance PyProof.Rows.boot_isinstance (pa_cons (pv 2) (pa_cons (pe_own rfl eOfficeFull.mgC) pa_nil)))))))))))) (pss_cons (ps_if (pt_not (pt_val (pv 1))) (pss_one (ps_ret pe_non)) pss_nil) (pss_one (ps_ret (pe_tup (pa_cons pe_str (pa_cons pe_str pa_nil)))))))), ?_⟩
  have h60 : ∀ n ∈ had, 1 ≤ n ∧ n ≤ 60 := fun n hn => by have := hh n hn; omega
  refine ⟨fun σ G => 12 < (darkF (riseL had) r).length * nm.length ∧ Same H G ∧ σ = [some (.ref x), some (.bl true), none], ?_, ?_⟩
  rotate_left
  · rintro σ G ⟨many, g, rfl⟩
    refine ⟨_, rfl, _, rfl, iteF ⟨(by show 2 ≤ sizeLine; decide), fun t ht => q _ _ (g.trans (same_new ht _)) (by unfold allD; rw [if_neg (by omega)]; exact tell_tup upd_same (by show 2 ≤ 1000000; decide) (.cons (tell_str _) (.cons (tell_str _) .nil)))⟩⟩
  refine ⟨fun σ' C H' => 12 < (darkF (riseL had) r).length * nm.length ∧ C = .ref CTooManyCourses ∧ Same H H' ∧ σ' = [some (.ref x), some (.bl true), none], ?_, ?_⟩
  rotate_left
  · rintro σ' C H' ⟨many, rfl, g, rfl⟩
    have mem : CTooManyCourses ∈ [CBadNames, CBadReach, COfficeFull, CUnknownName, CBookFull, CTooManyCourses] := by simp
    obtain ⟨un, xc⟩ := ers.one mem
    refine ⟨⟨_, rfl, un⟩, fun a ha => ?_⟩
    have s1 := g.trans (same_new ha (ExcO a (.ref CTooManyCourses)))
    have ea : upd H' a (ExcO a (.ref CTooManyCourses)) a = some (ExcO a (.ref CTooManyCourses)) := upd_same
    generalize upd H' a (ExcO a (.ref CTooManyCourses)) = G0 at s1 ea
    have ne : ∀ (i : Nat) (hi : i < 5), (CTooManyCourses == ([CBadNames, CBadReach, COfficeFull, CUnknownName, CBookFull, CTooManyCourses] : List Addr)[i]'(Nat.lt_succ_of_lt hi)) = false := fun i hi => beq_false_of_ne (List.pairwise_iff_getElem.mp ers.nd i 5 (Nat.lt_succ_of_lt hi) (by show 5 < 6; decide) hi).symm
    have n4 : (CTooManyCourses == CUnknownName) = false := ne 3 (by decide)
    have n9 : (CTooManyCourses == CBookFull) = false := ne 4 (by decide)
    have n3 : (CTooManyCourses == COfficeFull) = false := ne 2 (by decide)
    have two : ∀ {d : Addr}, d ∈ ([CBadNames, CBadReach, COfficeFull, CUnknownName, CBookFull, CTooManyCourses] : List Addr) → (CTooManyCourses == d) = false → PySem.W.kitOne K (.ref CTooManyCourses) (.ref d) = some false := fun h e => by rw [← e]; exact ers.two mem h
    have self : PySem.W.kitOne K (.ref CTooManyCourses) (.ref CTooManyCourses) = some true := by rw [ers.two mem mem, beq_self_eq_true]
    refine ⟨_, rfl, a, CTooManyCourses, CTooManyCourses, true, rfl, ea, xc, self, ?_⟩
    refine ⟨true, rfl, iteT ⟨_, rfl, a, CTooManyCourses, "ValueError", true, rfl, ea, xc, xc.hv, ?_⟩⟩
    refine ⟨_, rfl, true, rfl, iteT ⟨_, rfl, a, CTooManyCourses, CUnknownName, false, rfl, ea, xc, two (by simp) n4, _, rfl, ?_⟩⟩
    refine ⟨true, rfl, iteT ⟨_, rfl, a, CTooManyCourses, CBookFull, false, rfl, ea, xc, two (by simp) n9, _, rfl, ?_⟩⟩
    refine ⟨_, rfl, true, rfl, iteT ⟨_, rfl, a, CTooManyCourses, COfficeFull, false, rfl, ea, xc, two (by simp) n3, _, rfl, ?_⟩⟩
    exact ⟨many, s1, rfl⟩
  by_cases few : (darkF (riseL had) r).length * nm.length ≤ 12
  · exact ⟨_, rfl, .inl ⟨x, fp, nm, r, rows, had, m, rfl, sh, gn, R, l60, hh, r0, r10, it, few, fun v H' s' tv => q v H' s' (by unfold allD; rw [if_pos few]; exact tv)⟩⟩
  · exact ⟨_, rfl, .inr ⟨x, fp, nm, r, _, had, rfl, sh, h60, by omega, fun H' s' => ⟨by omega, rfl, s', rfl⟩⟩⟩
theorem rk_nms (s : List Str) : Rk 1 (nmsD s) := ⟨_, rfl, fun x hx => by
  obtain ⟨z, _, rfl⟩ := List.mem_map.mp hx
  exact ⟨z, rfl⟩⟩
theorem rk_course (c : List (List Str)) : Rk 2 (courseD c) := ⟨_, rfl, fun x hx => by
  obtain ⟨s, _, rfl⟩ := List.mem_map.mp hx
  exact rk_nms s⟩
theorem map_inj {α β : Type} {f : α → β} (h : ∀ x y, f x = f y → x = y) : ∀ a b : List α, a.map f = b.map f → a = b
  | [], [], _ => rfl
  | [], _ :: _, e => by cases e
  | _ :: _, [], e => by cases e
  | x :: a, y :: b, e => by
    rw [List.map_cons, List.map_cons] at e
    injection e with e1 e2
    rw [h x y e1, map_inj h a b e2]
theorem nms_inj (a b : List Str) (h : nmsD a = nmsD b) : a = b := by
  unfold nmsD at h
  injection h with h
  exact map_inj (fun x y e => by injection e) a b h
theorem course_inj (a b : List (List Str)) (h : courseD a = courseD b) : a = b := by
  unfold courseD at h
  injection h with h
  exact map_inj nms_inj a b h
theorem courses_metL {cs : List (List (List Str))} (h : cs.Nodup) : metL (cs.map courseD) = cs.map courseD := metL_nd (by
  rw [List.Nodup, List.pairwise_map]
  exact h.imp fun {a b} hab e => hab (course_inj a b e))
noncomputable def spLaw (K : PySem.W.Frag) : Sp := fun vs H Q _ => ∃ (a : Addr) (ns : List Int), vs = [.ref a] ∧ SqL K H a (ns.map V.int) ∧ ns.length ≤ 63 ∧ ∀ H', Q (.bl true) H'
theorem deep_refD (z : Str) : (refD z).deep ≤ 1 := deep_tup fun d hd => by
  rcases List.mem_cons.mp hd with rfl | hd
  · exact deep_str _ _
  · rw [List.mem_singleton.mp hd]
    exact deep_str _ _
theorem tells_nones (H : Hp) : ∀ m : Nat, Tells H ((List.replicate m (none : Option (List Str))).map optD) (List.replicate m [V.non]).flatten
  | 0 => .nil
  | m + 1 => by
    rw [List.replicate_succ, List.replicate_succ, List.flatten_cons, List.map_cons]
    exact .cons tell_non (tells_nones H m)
theorem fits_none {nm : List Str} {ks : List (Option (List Str))} {c : List (List Str)} (h : FitsC nm ks c) : FitsC nm (List.replicate ks.length none) c := by
  refine ⟨by rw [List.length_replicate]; exact h.1, fun i o zs e1 e2 => ?_⟩
  have hi := (List.getElem?_eq_some_iff.mp e1).1
  rw [List.length_replicate] at hi
  rw [List.getElem?_replicate, if_pos hi] at e1
  cases e1
  exact ⟨(h.2 i _ zs (List.getElem?_eq_getElem hi) e2).1, fun _ e => by cases e⟩
theorem dark22 {had : List Int} {fs dk my : Nat} {r : Int} (hm : ∀ n, n ∈ had ↔ (1 ≤ n ∧ n ≤ (fs : Int)) ∨ n = (my : Int)) (e : (fs : Int) + dk + r + 1 = (my : Int)) (r0 : 0 ≤ r) (h60 : my ≤ 60) : (darkF (riseL had) r).length = dk := by
  have mr : ∀ n, n ∈ riseL had ↔ n ∈ had := fun n => by
    rw [mem_riseL]
    refine ⟨fun h => h.2, fun h => ⟨?_, h⟩⟩
    rcases (hm n).mp h with h | h <;> omega
  have hall : ∀ x ∈ riseL had, 1 ≤ x ∧ x ≤ 60 := fun x hx => by have := (mem_riseL.mp hx).1; omega
  have key : darkF (riseL had) r = upI ((fs : Int) + 1) dk := by
    refine rise_ext (dk_rise _ _) (upI_rise _ _) fun x => ?_
    rw [mem_dk, mem_lackL, mem_upI, mr]
    constructor
    · rintro ⟨⟨h1, h2, y, hy, hxy⟩, h3⟩
      have n1 : ¬ (x ≤ (fs : Int)) := fun h => h2 ((hm x).mpr (.inl ⟨h1.1, h⟩))
      have hy' := (hm y).mp ((mr y).mp hy)
      have hym : y = (my : Int) := hy'.resolve_left (by omega)
      subst hym
      refine ⟨by omega, Int.not_le.mp fun hge => ?_⟩
      have := tellV_of (ns := riseL had) (n := x) (r := r) (t := my) hall hy hxy (by omega) fun y' hy' h1' _ => by
        rcases (hm y').mp ((mr y').mp hy') with q | q <;> omega
      omega
    · rintro ⟨h1, h2⟩
      refine ⟨⟨by omega, fun h => ?_, my, (mr _).mpr ((hm _).mpr (.inr rfl)), by omega⟩, tellV_none fun y hy hxy hyr => ?_⟩
      · rcases (hm x).mp h with q | q <;> omega
      · rcases (hm y).mp ((mr y).mp hy) with q | q <;> omega
  rw [key, upI_length]
noncomputable def rowF (nm : List Str) (f : Int) : Row := match nm[f.toNat]? with
  | some z => [(z, f)]
  | none => []
theorem rowF_ok (nm : List Str) (f : Int) (h0 : 0 ≤ f) (h1 : f < 24) : ((rowF nm f).map Prod.fst).Sublist nm ∧ ∀ p ∈ rowF nm f, 0 ≤ p.2 ∧ p.2 ≤ 1000000 := by
  unfold rowF
  cases e : nm[f.toNat]? with
  | none => exact ⟨List.nil_sublist _, fun p hp => (nomatch hp)⟩
  | some z =>
    refine ⟨List.singleton_sublist.mpr (List.mem_of_getElem? e), fun p hp => ?_⟩
    rw [List.mem_singleton.mp hp]
    exact ⟨h0, by show f ≤ 1000000; omega⟩
theorem ok_law (M : Bl mg) (F : Fun K "law" "law" slaw f fd) {CShelf : Addr} {Sh : ShP} (OS : ShOk CShelf ["put", "had", "latest"] Sh)
    (G_law_at : Cal P w K mg base 1 "_law_at" p_law_at (spAt K)) (G_law_pick : Cal P w K mg base 1 "_law_pick" p_law_pick spPick) (G_law_row : Cal P w K mg base 1 "_law_row" p_law_row spRow)
    (G_law_named : Cal P w K mg base 1 "_law_named" p_law_named spNamed) (G_law_doubled : Cal P w K mg base 1 "_law_doubled" p_law_doubled spDoubled)
    (G_law_same : Cal P w K mg base 4 "_law_same" p_law_same (spSame 4)) (G_law_filled : Cal P w K mg base 10 "_law_filled" p_law_filled (spFilled K Sh)) (G_law_all : Cal P w K mg base 9 "_law_all" p_law_all (spAll Sh))
    (G_law_course : Cal P w K mg base 1 "_law_course" p_law_course (spCourse K)) (Gcourse_count : Cal P w K mg base 8 "course_count" pcourse_count (spCount Sh)) : FnOk P w K mg base CX0 14 f fd plaw (spLaw K) := by
  have nd := sclaw.nd
  refine F.ok sclaw (fun vs H Q E h => ?_) (fun cdv A outer s H vs Q E hr h => ?_)
  · obtain ⟨a, ns, rfl, _⟩ := h
    rfl
  obtain ⟨a, ns, rfl, hS, h63, q⟩ := h
  refine ⟨_, (pss_cons (ps_set (i := 1) nd rfl (Or.inl rfl) (pe_cal G_law_named (rm hr) rfl (pa_cons (pe_cal G_law_at (rm hr) rfl (pa_cons (pv 0) (pa_cons pe_int pa_nil))) (pa_cons (pe_ix ix_list (pe_lst (pa_cons pe_int (pa_cons pe_int (pa_cons pe_int (pa_cons pe_int (pa_cons pe_int (pa_cons pe_int (pa_cons pe_int pa_nil)))))))) (pe_op op_mod (pe_cal G_law_at (rm hr) rfl (pa_cons (pv 0) (pa_cons pe_int pa_nil))) pe_int) (fun _ _ => rfl)) pa_nil)))) (pss_cons (ps_set (i := 2) nd rfl (Or.inl rfl) (pe_op op_add (pe_op op_fdiv pe_int (pe_callB call_len_seq rfl M.len PySem.boot_len (pa_cons (pv 1) pa_nil))) (pe_op op_mod (pe_cal G_law_at (rm hr) rfl (pa_cons (pv 0) (pa_cons pe_int pa_nil))) pe_int))) (pss_cons (ps_set (i := 3) nd rfl (Or.inl rfl) (pe_cal G_law_pick (rm hr) rfl (pa_cons (pe_cal G_law_at (rm hr) rfl (pa_cons (pv 0) (pa_cons pe_int pa_nil))) (pa_cons pe_int pa_nil)))) (pss_cons (ps_set (i := 4) nd rfl (Or.inl rfl) (pe_op op_mul pe_int (pe_op op_mod (pe_cal G_law_at (rm hr) rfl (pa_cons (pv 0) (pa_cons pe_int pa_nil))) pe_int))) (pss_cons (ps_set (i := 5) nd rfl (Or.inl rfl) (pe_op op_add (pe_op op_add (pe_op op_add (pv 4) (pv 2)) (pv 3)) pe_int)) (pss_cons (ps_set (i := 6) nd rfl (Or.inl rfl) (pe_lst pa_nil)) (pss_cons (ps_for PassesOwn.never rfl (pi_list (pe_cal G_law_row (rm hr) rfl (pa_cons (pe_cal G_law_at (rm hr) rfl (pa_cons (pv 0) (pa_cons pe_int pa_nil))) (pa_cons (pv 5) (pa_cons pe_int pa_nil))))) (pg_name (i := 7) nd rfl (Or.inl rfl)) (pss_one (ps_expr (pe_bm PySem.F.plainAttrs_list PySem.F.slot_list_append PySem.F.type_list_append mt_append (pv 6) (pa_cons (pe_ifExp (pt_cmpR op_ge (pv 7) (pe_callB call_len_seq rfl M.len PySem.boot_len (pa_cons (pv 1) pa_nil)) (nomark _)) (pe_tup pa_nil) (pe_tup (pa_cons (pe_tup (pa_cons (pe_ix ix_list (pv 1) (pv 7) (fun _ _ => rfl)) (pa_cons (pv 7) pa_nil))) pa_nil))) pa_nil))))) (pss_cons (ps_set (i := 8) nd rfl (Or.inl rfl) (pe_op op_cat (pe_callTy (call_list_rng rfl) rfl M.list PyProof.Rows.boot_list (pa_cons (pe_callTy call_rng2 rfl M.range PyProof.Rows.boot_range (pa_cons pe_int (pa_cons (pe_op op_add (pv 4) pe_int) pa_nil))) pa_nil)) (pe_lst (pa_cons (pv 5) pa_nil)))) (pss_cons (ps_set (i := 9) nd rfl (Or.inl rfl) (pe_cal G_law_filled (rm hr) rfl (pa_cons (pv 1) (pa_cons (pv 3) (pa_cons (pv 6) (pa_cons (pv 8) pa_nil)))))) (pss_cons (ps_set (i := 10) nd rfl (Or.inl rfl) (pe_op op_mul (pv 2) (pe_callB call_len_seq rfl M.len PySem.boot_len (pa_cons (pv 1) pa_nil)))) (pss_cons (ps_set (i := 11) nd rfl (Or.inl rfl) (pe_cal G_law_all (rm hr) rfl (pa_cons (pv 9) pa_nil))) (pss_cut (ps_if (pt_cmpR op_gt (pv 10) pe_int (nomark _)) (pss_one (ps_if (pt_not (pt_val (pe_cal G_law_same (rm hr) rfl (pa_cons (pv 11) (pa_cons (pe_tup (pa_cons pe_str (pa_cons pe_str pa_nil))) pa_nil))))) (pss_one (ps_ret pe_bl)) pss_nil)) (pss_cons (ps_if (PW.pt (pw_or (pt_not (pt_val (pe_callB call_isinst rfl M.isinstance PyProof.Rows.boot_isinstance (pa_cons (pv 11) (pa_cons (pe_bltn (v := .ty "tuple") rfl M.tuple PyProof.Rows.boot_tuple rfl) pa_nil))))) (pw_or1 (pt_cmpR op_ne (pe_callB call_len_seq rfl M.len PySem.boot_len (pa_cons (pv 11) pa_nil)) (pe_cal G_law_doubled (rm hr) rfl (pa_cons (pv 10) pa_nil)) (nomark _))))) (pss_one (ps_ret pe_bl)) pss_nil) (pss_cons (ps_for PassesOwn.never rfl (pi_tup (pv 11)) (pg_name (i := 12) nd rfl (Or.inl rfl)) (pss_one (ps_if (pt_not (pt_val (pe_cal G_law_course (rm hr) rfl (pa_cons (pv 12) (pa_cons (pv 1) (pa_cons (pe_op op_rep (pe_lst (pa_cons pe_non pa_nil)) (pv 5)) pa_nil)))))) (pss_one (ps_ret pe_bl)) pss_nil))) (pss_one (ps_if (pt_cmpR op_ne (pe_callB call_len_setN rfl M.len PySem.boot_len (pa_cons (pe_callTy (call_set_D rfl (Nat.lt_of_le_of_lt (Nat.add_le_add_left (by decide : 20 ≤ 64) _) hr.units)) rfl M.set PyProof.Rows.boot_set (pa_cons (pv 11) pa_nil)) pa_nil)) (pe_callB call_len_seq rfl M.len PySem.boot_len (pa_cons (pv 11) pa_nil)) (nomark _)) (pss_one (ps_ret pe_bl)) pss_nil))))) (pss_one (ps_ret (pe_cal G_law_same (rm hr) rfl (pa_cons (pe_cal Gcourse_count (rm hr) rfl (pa_cons (pv 9) pa_nil)) (pa_cons (pe_cal G_law_doubled (rm hr) rfl (pa_cons (pv 10) pa_nil)) pa_nil))))))))))))))))), ?_⟩
  refine ⟨_, rfl, a, ns, 1, rfl, hS, by decide, ?_⟩
  generalize ns.getD (1 : Int).toNat 0 = c1
  refine ⟨(by show 7 ≤ sizeLine; decide), fun l0 hl0 => ?_⟩
  have s0 := same_new hl0 (.lst [V.int 1, V.int 2, V.int 3, V.int 4, V.int 6, V.int 12, V.int 5])
  have e0 : upd H l0 (.lst [V.int 1, V.int 2, V.int 3, V.int 4, V.int 6, V.int 12, V.int 5]) l0 = some (.lst [V.int 1, V.int 2, V.int 3, V.int 4, V.int 6, V.int 12, V.int 5]) := upd_same
  generalize upd H l0 (.lst [V.int 1, V.int 2, V.int 3, V.int 4, V.int 6, V.int 12, V.int 5]) = H0 at s0 e0
  refine ⟨_, rfl, a, ns, 0, rfl, s0.seq hS, by decide, ?_⟩
  generalize ns.getD (0 : Int).toNat 0 = c0
  refine ⟨_, _, rfl, rfl, (by show (0 : Int) < 7; decide), ?_⟩
  obtain ⟨k, ek, hk⟩ : ∃ k : Int, atI [V.int 1, V.int 2, V.int 3, V.int 4, V.int 6, V.int 12, V.int 5] (c0 % 7) = some (.int k) ∧ (k = 1 ∨ k = 2 ∨ k = 3 ∨ k = 4 ∨ k = 6 ∨ k = 12 ∨ k = 5) := by
    have h1 := Int.emod_nonneg c0 (show (7 : Int) ≠ 0 by decide)
    have h2 := Int.emod_lt_of_pos c0 (show (0 : Int) < 7 by decide)
    have c7 : c0 % 7 = 0 ∨ c0 % 7 = 1 ∨ c0 % 7 = 2 ∨ c0 % 7 = 3 ∨ c0 % 7 = 4 ∨ c0 % 7 = 5 ∨ c0 % 7 = 6 := by omega
    rcases c7 with e | e | e | e | e | e | e <;> rw [e]
    · exact ⟨1, rfl, by decide⟩
    · exact ⟨2, rfl, by decide⟩
    · exact ⟨3, rfl, by decide⟩
    · exact ⟨4, rfl, by decide⟩
    · exact ⟨6, rfl, by decide⟩
    · exact ⟨12, rfl, by decide⟩
    · exact ⟨5, rfl, by decide⟩
  refine ⟨l0, _, _, _, rfl, rfl, SqL.of e0, ek, ?_⟩
  refine ⟨c1, k, rfl, by omega, by omega, fun ln nm H1 nln s1 eN lnm N => ?_⟩
  have s01 := s0.trans s1
  have n1 : 1 ≤ nm.length := by omega
  have n12 : nm.length ≤ 12 := by omega
  have gn : GoodN nm := ⟨n1, n12, N.nd⟩
  have el : ((nm.map V.str).length : Int) = nm.length := by rw [List.length_map]
  refine ⟨_, rfl, ln, _, rfl, .inl (SqL.of eN), _, _, rfl, rfl, ?_⟩
  rw [el]
  have hS1 := s01.seq hS
  refine ⟨⟨by omega, by omega⟩, _, rfl, a, ns, 2, rfl, hS1, by decide, ?_⟩
  generalize ns.getD (2 : Int).toNat 0 = c2
  refine ⟨_, _, rfl, rfl, (by show (0 : Int) < 3; decide), _, _, rfl, rfl, ?_⟩
  have dk0 : 1 ≤ 12 / (nm.length : Int) ∧ 12 / (nm.length : Int) ≤ 12 := by
    rw [lnm]
    rcases hk with rfl | rfl | rfl | rfl | rfl | rfl | rfl <;> decide
  dsimp only
  obtain ⟨dk, edk⟩ : ∃ dk : Nat, 12 / (nm.length : Int) + c2 % 3 = (dk : Int) := ⟨(12 / (nm.length : Int) + c2 % 3).toNat, by omega⟩
  rw [edk]
  have dk1 : 1 ≤ dk ∧ dk ≤ 14 := by omega
  clear edk dk0 c2
  refine ⟨_, rfl, a, ns, 3, rfl, hS1, by decide, _, _, rfl, (by decide), fun r r0 r1 => ?_⟩
  refine ⟨_, rfl, a, ns, 4, rfl, hS1, by decide, ?_⟩
  generalize ns.getD (4 : Int).toNat 0 = c4
  refine ⟨_, _, rfl, rfl, (by show (0 : Int) < 2; decide), _, _, rfl, rfl, .inl ⟨by decide, by decide⟩, ?_⟩
  dsimp only
  obtain ⟨fs, efs⟩ : ∃ fs : Nat, 2 * (c4 % 2) = (fs : Int) := ⟨(2 * (c4 % 2)).toNat, by omega⟩
  rw [efs]
  have fs2 : fs ≤ 2 := by omega
  clear efs c4
  refine ⟨_, rfl, _, rfl, _, _, rfl, rfl, _, rfl, _, _, rfl, rfl, _, _, rfl, rfl, ?_⟩
  dsimp only
  obtain ⟨my, emy⟩ : ∃ my : Nat, (fs : Int) + dk + r + 1 = (my : Int) := ⟨((fs : Int) + dk + r + 1).toNat, by omega⟩
  rw [emy]
  have my27 : 2 ≤ my ∧ my ≤ 27 := by omega
  refine ⟨(by show 0 ≤ sizeLine; decide), fun lr hlr => ?_⟩
  have s2 := s01.trans (same_new hlr (.lst []))
  have e2 : upd H1 lr (.lst []) lr = some (.lst []) := upd_same
  have eN2 := same_new hlr (.lst []) _ _ eN
  have nlr : H lr = none := s01.free hlr
  have nlr1 := hlr
  generalize upd H1 lr (.lst []) = H2 at s2 e2 eN2
  refine ⟨_, rfl, a, ns, 5, rfl, s2.seq hS, by decide, _, rfl, _, _, _, rfl, by omega, by omega, by decide, by decide, fun l9 fg H3 nl9 s3 e3 l3 f3 => ?_⟩
  have eN3 := s3 _ _ eN2
  have e23 := s3 _ _ e2
  have n9 : l9 ≠ lr := fun e => by rw [e, e2] at nl9; cases nl9
  have nN : ln ≠ lr := ne_of_none eN nlr1
  refine ⟨l9, rfl, ⟨_, SqL.of e3⟩, for_list (K := K) (a := l9) (xs := fg.map V.int) (fun i σ G => ∃ (us : List V) (o7 : Option V), SameBut [lr] H3 G ∧ G lr = some (.lst us) ∧ Tells G ((fg.take i).map fun f => rowD (rowF nm f)) us ∧
      σ = [some (.ref a), some (.ref ln), some (.int dk), some (.int r), some (.int fs), some (.int my), some (.ref lr), o7, none, none, none, none, none])
    ⟨[], none, .of (Same.refl _), e23, by rw [List.take_zero]; exact .nil, rfl⟩ (fun i σ G _ ⟨_, _, g, _⟩ => SqL.of (g _ _ e3 (by rw [List.mem_singleton]; exact n9))) ?_ ?_⟩
  · rintro i y σ G hy ⟨us, o7, g, eG, tG, rfl⟩
    rw [List.getElem?_map] at hy
    obtain ⟨f, ef, rfl⟩ := Option.map_eq_some_iff.mp hy
    obtain ⟨f0, f1⟩ := f3 f (List.mem_of_getElem? ef)
    have hi : i < my := by
      have := (List.getElem?_eq_some_iff.mp ef).1
      omega
    have lus : us.length ≤ 30 := by
      rw [tG.length, List.length_map, List.length_take]
      omega
    have eNG := g _ _ eN3 (by rw [List.mem_singleton]; exact nN)
    have fin : ∀ {G2 : Hp} (v : V), Same G G2 → Tell G2 (rowD (rowF nm f)) v → SameBut [lr] H3 (upd G2 lr (.lst (us ++ [v]))) ∧ Tells (upd G2 lr (.lst (us ++ [v]))) ((fg.take (i + 1)).map fun f => rowD (rowF nm f)) (us ++ [v]) := fun {G2} v s' tv => by
      refine ⟨fun b o e nb => ?_, ?_⟩
      · rw [upd_ne (fun z => nb (List.mem_singleton.mpr z))]
        exact s' _ _ (g b o e nb)
      · rw [take_snoc ef, List.map_append]
        exact Tells.over (s' _ _ eG) no_lst _ _ (Tells.snoc (Tells.keep s' _ _ tG) tv)
    refine ⟨_, rfl, .inl ⟨rfl, _, SqL.of eG⟩, _, rfl, _, rfl, ln, _, rfl, .inl (SqL.of eNG), ?_⟩
    refine ⟨_, _, rfl, rfl, _, rfl, ite2 (fun q => ?_) (fun q => ?_)⟩
    · have hge := dec_of q
      rw [el] at hge
      refine ⟨(by show 0 ≤ sizeLine; decide), fun t ht => ⟨lr, us, _, rfl, rfl, same_new ht _ _ _ eG, small1000 (by omega), ?_⟩⟩
      have hn : rowF nm f = [] := by
        unfold rowF
        rw [List.getElem?_eq_none (by omega)]
      obtain ⟨f1', f2'⟩ := fin (.ref t) (same_new ht (.tup [])) (by rw [hn]; exact tell_tup upd_same (by show 0 ≤ 1000000; decide) .nil)
      exact ⟨_, _, f1', upd_same, f2', rfl⟩
    · have hlt : ¬ (nm.length : Int) ≤ f := fun h => q (decide_eq_true (by rw [el]; exact h))
      obtain ⟨z, ez, az⟩ := at_strs f0 (show f < (nm.length : Int) by omega)
      refine ⟨_, rfl, _, rfl, ln, _, _, _, rfl, rfl, SqL.of eNG, az, _, rfl, (by show 2 ≤ sizeLine; decide), fun t1 ht1 => ⟨(by show 1 ≤ sizeLine; decide), fun t2 ht2 => ?_⟩⟩
      have st := (same_new ht1 (.tup [V.str z, V.int f])).trans (same_new ht2 (.tup [V.ref t1]))
      have hz : rowF nm f = [(z, f)] := by
        unfold rowF
        rw [ez]
      refine ⟨lr, us, _, rfl, rfl, st _ _ eG, small1000 (by omega), ?_⟩
      obtain ⟨f1', f2'⟩ := fin (.ref t2) st (by
        rw [hz]
        exact tell_tup upd_same (by show 1 ≤ 1000000; decide) (.cons (tell_tup (same_new ht2 _ _ _ upd_same) (by show 2 ≤ 1000000; decide) (.cons (tell_str _) (.cons (tell_int _) .nil))) .nil))
      exact ⟨_, _, f1', upd_same, f2', rfl⟩
  rintro σ G ⟨us, o7, g, eG, tG, rfl⟩
  rw [List.length_map, List.take_length] at tG
  have lrows : (fg.map (rowF nm)).length = my := by rw [List.length_map]; omega
  have tG' : Tells G ((fg.map (rowF nm)).map rowD) us := by
    rw [List.map_map]
    exact tG
  have R : Rws nm (fg.map (rowF nm)) := ⟨fun w hw => by
    obtain ⟨f, hf, rfl⟩ := List.mem_map.mp hw
    exact (rowF_ok nm f (f3 f hf).1 (f3 f hf).2).1, fun w hw => by
    obtain ⟨f, hf, rfl⟩ := List.mem_map.mp hw
    exact (rowF_ok nm f (f3 f hf).1 (f3 f hf).2).2⟩
  generalize fg.map (rowF nm) = rows at lrows tG' R
  have eN4 := g _ _ eN3 (by rw [List.mem_singleton]; exact nN)
  have s4 : Same H G := fun b o e => g b o (s3 _ _ (s2 _ _ e)) (by rw [List.mem_singleton]; exact fun z => by rw [z, nlr] at e; cases e)
  clear tG g e3 e23 eN3 f3 l3 s3 nl9 n9 eN2 e2 s2 eN
  -- the numbers had
  refine ⟨_, rfl, _, _, rfl, rfl, _, _, rfl, fun p hp => ⟨p, _, _, rfl, upd_same, ⟨by decide, by decide, by omega, by omega⟩, by omega, fun l hl => ?_⟩⟩
  refine ⟨_, rfl, (by show 1 ≤ sizeLine; decide), fun l2 hl2 => ?_⟩
  have erng : rngV 1 ((fs : Int) + 1 - 1).toNat = (upI 1 fs).map V.int := by
    rw [show ((fs : Int) + 1 - 1).toNat = fs by omega]
    unfold rngV upI
    rw [List.map_map]
    rfl
  rw [erng] at hl2 ⊢
  have s5 := s4.trans ((same_new hp (.rng 1 ((fs : Int) + 1))).trans ((same_new hl (.lst ((upI 1 fs).map V.int))).trans (same_new hl2 (.lst [V.int my]))))
  refine ⟨l, l2, (upI 1 fs).map V.int, [V.int my], rfl, rfl, same_new hl2 _ _ _ upd_same, upd_same, Nat.le_of_lt (small1000 (by rw [List.length_map, upI_length]; show fs + 1 ≤ 1000; omega)), fun lh hlh => ?_⟩
  have sh6 := s5.trans (same_new hlh (.lst ((upI 1 fs).map V.int ++ [V.int my])))
  have eh : upd (upd (upd (upd G p (.rng 1 ((fs : Int) + 1))) l (.lst ((upI 1 fs).map V.int))) l2 (.lst [V.int my])) lh (.lst ((upI 1 fs).map V.int ++ [V.int my])) lh = some (.lst ((upI 1 fs ++ [(my : Int)]).map V.int)) := by rw [List.map_append]; exact upd_same
  have k6 := (same_new hp (.rng 1 ((fs : Int) + 1))).trans ((same_new hl (.lst ((upI 1 fs).map V.int))).trans ((same_new hl2 (.lst [V.int my])).trans (same_new hlh (.lst ((upI 1 fs).map V.int ++ [V.int my])))))
  generalize upd (upd (upd (upd G p (.rng 1 ((fs : Int) + 1))) l (.lst ((upI 1 fs).map V.int))) l2 (.lst [V.int my])) lh (.lst ((upI 1 fs).map V.int ++ [V.int my])) = G6 at sh6 eh k6
  have eN6 := k6 _ _ eN4
  have tl6 := Tells.keep k6 _ _ tG'
  have eR6 := k6 _ _ eG
  clear s5 s4 hlh hl2 hl hp erng eG tG' eN4 k6
  have memu : ∀ n, n ∈ upI 1 fs ++ [(my : Int)] ↔ (1 ≤ n ∧ n ≤ (fs : Int)) ∨ n = (my : Int) := fun n => by
    rw [List.mem_append, List.mem_singleton, mem_upI]
    refine or_congr ⟨fun h => by omega, fun h => by omega⟩ Iff.rfl
  generalize upI 1 fs ++ [(my : Int)] = hs at eh memu
  have allt : ∀ n ∈ hs, 1 ≤ n ∧ n ≤ (rows.length : Int) := fun n hn => by
    rcases (memu n).mp hn with h | h <;> omega
  refine ⟨_, rfl, _, rfl, _, rfl, _, rfl, ln, lr, lh, nm, r, us, rows, hs, rfl, SqL.of eN6, gn, r0, by omega, SqL.of eR6, tl6, by omega, R, SqL.of eh, allt, ⟨_, eh⟩, ⟨_, eR6⟩, fun x fp had H7 f7 s7 sh7 memh => ?_⟩
  have eN7 := s7 _ _ eN6
  have hm : ∀ n, n ∈ had ↔ (1 ≤ n ∧ n ≤ (fs : Int)) ∨ n = (my : Int) := fun n => by rw [memh, memu]
  have hh : ∀ n ∈ had, 1 ≤ n ∧ n ≤ (rows.length : Int) := fun n hn => allt n ((memh n).mp hn)
  have it : IsTop had my := ⟨.inl ((hm _).mpr (.inr rfl)), fun y hy => by rcases (hm y).mp hy with h | h <;> omega⟩
  have dk22 := dark22 (r := r) hm emy r0 (by omega)
  clear eh memu allt eR6 tl6 memh f7 s7 sh6 eN6
  refine ⟨_, rfl, _, rfl, ln, _, rfl, .inl (SqL.of eN7), _, _, rfl, rfl, .inr ⟨by omega, by omega⟩, ?_⟩
  dsimp only
  rw [el, ← Int.natCast_mul]
  refine ⟨_, rfl, x, fp, nm, r, rows, had, my, rfl, sh7, gn, R, by omega, hh, r0, by omega, it, fun v H8 s8 t8 => ?_⟩
  rw [dk22] at t8
  have sh8 := OS.same sh7 s8
  have eN8 := s8 _ _ eN7
  have b144 : dk * nm.length ≤ 14 * 12 := Nat.mul_le_mul dk1.2 n12
  refine ⟨fun σ G => ∃ (o12 : Option V), Same H8 G ∧ σ = [some (.ref a), some (.ref ln), some (.int dk), some (.int r), some (.int fs), some (.int my), some (.ref lr), o7, some (.ref lh), some (.ref x), some (.int (dk * nm.length : Nat)), some v, o12], ?_, ?_⟩
  rotate_left
  · rintro σ G ⟨o12, g8, rfl⟩
    have h60 : ∀ n ∈ had, 1 ≤ n ∧ n ≤ 60 := fun n hn => by have := hh n hn; omega
    refine ⟨_, rfl, x, fp, nm, r, _, had, rfl, OS.same sh8 g8, h60, fun H9 s9 => ?_⟩
    rw [dk22]
    refine ⟨_, rfl, _, rfl, Int.natCast_nonneg _, by omega, ?_⟩
    rw [Int.toNat_natCast]
    refine ⟨.int (2 ^ (dk * nm.length)), .int (2 ^ (dk * nm.length)), rfl, ?_, fun H' _ => q H'⟩
    exact (alike_tell (.int (2 ^ (dk * nm.length))) _ _ (tell_int _) (tell_int _)).mono (Nat.le_trans (deep_int _ 0) (by decide))
  refine ⟨_, rfl, _, _, rfl, rfl, _, rfl, ite2 (fun many => ?_) (fun few => ?_)⟩
  · have many' : 12 < dk * nm.length := by have := dec_of many; omega
    unfold allD at t8
    rw [if_neg (by omega)] at t8
    refine ⟨_, rfl, (by show 2 ≤ sizeLine; decide), fun tt htt => ?_⟩
    refine ⟨v, .ref tt, rfl, (alike_tell _ _ _ (Tell.keep (same_new htt _) _ _ t8) (tell_tup (ds := [.str "refused", .str "too many"]) upd_same (by show 2 ≤ 1000000; decide) (.cons (tell_str _) (.cons (tell_str _) .nil)))).mono (Nat.le_trans (deep_refD _) (by decide)), fun G4 t4 => ⟨_, rfl, iteF ?_⟩⟩
    exact ⟨_, (same_new htt _).trans t4, rfl⟩
  · have few' : dk * nm.length ≤ 12 := by
      have : ¬ (12 : Int) < ((dk * nm.length : Nat) : Int) := fun h => few (decide_eq_true h)
      omega
    unfold allD coursesD at t8
    rw [if_pos few'] at t8
    obtain ⟨av, vs, rfl, ev, _, tv⟩ := tell_tup_inv t8
    have hs := fun s => known_some (nm := nm) R (m := my) (hs := riseL had) (r := r) (s := s)
    have cl : (coursesL nm (knownL my (riseL had) rows r)).length = 2 ^ (dk * nm.length) := by
      rw [courses_len, dark_known (fun n hn => by have := (mem_riseL.mp hn).1; omega) (it.same fun x => by
        rw [mem_riseL]
        exact ⟨fun h => h.2, fun h => ⟨by have := hh x h; omega, h⟩⟩), dk22]
    have cn := courses_nodup N.nd (knownL my (riseL had) rows r)
    have cm : ∀ c ∈ coursesL nm (knownL my (riseL had) rows r), FitsC nm (knownL my (riseL had) rows r) c := fun c hc => (mem_courses hs).mp hc
    have kl := knownL_len my (riseL had) rows r
    generalize knownL my (riseL had) rows r = ks at t8 tv cl cn cm kl hs
    generalize coursesL nm ks = cs at t8 tv cl cn cm
    have lv := tlens tv
    have c4096 : cs.length ≤ 4096 := by
      rw [cl]
      exact Nat.le_trans (Nat.pow_le_pow_right (by decide) few') (by decide)
    have ecl : ((vs.length : Nat) : Int) = 2 ^ (dk * nm.length) := by
      rw [lv, cl, Int.natCast_pow]
      rfl
    refine ⟨_, rfl, _, _, _, _, rfl, .tup ev, kit_tup, _, rfl, iteF ⟨_, rfl, av, _, rfl, .inr (SqT.of ev), _, rfl, _, rfl, Int.natCast_nonneg _, by omega, rfl, _, rfl, ?_⟩⟩
    rw [Int.toNat_natCast, ecl, decide_eq_true rfl]
    refine iteF ?_
    refine ⟨_, rfl, av, rfl, ⟨_, SqT.of ev⟩, for_tup (K := K) (a := av) (xs := vs) (fun i σ G => ∃ (o12 : Option V), Same H8 G ∧ σ = [some (.ref a), some (.ref ln), some (.int dk), some (.int r), some (.int fs), some (.int my), some (.ref lr), o7, some (.ref lh), some (.ref x), some (.int (dk * nm.length : Nat)), some (.ref av), o12]) ⟨_, Same.refl _, rfl⟩ (fun i σ G _ ⟨_, g, _⟩ => SqT.of (g _ _ ev)) ?_ ?_⟩
    · rintro i y σ G hi ⟨o12, g, rfl⟩
      obtain ⟨d, ed, td⟩ := tv.at i y hi
      rw [List.getElem?_map] at ed
      obtain ⟨c, ec, rfl⟩ := Option.map_eq_some_iff.mp ed
      have fc := cm c (List.mem_of_getElem? ec)
      have f0 := fits_none fc
      rw [kl] at f0
      refine ⟨_, rfl, _, rfl, (by show 1 ≤ sizeLine; decide), fun l1 hl1 => ⟨_, rfl, l1, _, _, rfl, rfl, upd_same, by omega, by omega, (by show 1 * my ≤ sizeLine; exact Nat.le_of_lt (small1000 (by omega))), fun l2 hl2 => ?_⟩⟩
      have sl := (same_new hl1 (.lst [V.non])).trans (same_new hl2 (.lst (List.replicate my [V.non]).flatten))
      have gl := g.trans sl
      refine ⟨y, ln, l2, c, nm, List.replicate my none, _, rfl, Tell.keep gl _ _ td, fun zs hz => ?_, SqL.of (gl _ _ eN8), N.nd, n12, SqL.of upd_same, tells_nones _ my, by rw [List.length_replicate]; omega, fun _ G3 s3' => ⟨_, rfl, iteF ⟨_, gl.trans s3', rfl⟩⟩, fun nf => absurd f0 nf⟩
      obtain ⟨j, hj⟩ := List.mem_iff_getElem?.mp hz
      have hjl : j < ks.length := by rw [← fc.1]; exact (List.getElem?_eq_some_iff.mp hj).1
      have := (fc.2 j _ zs (List.getElem?_eq_getElem hjl) hj).1.length_le
      omega
    rintro σ G ⟨o12, g, rfl⟩
    refine ⟨_, rfl, av, vs, cs.map courseD, 2, rfl, .inr (SqT.of (g _ _ ev)), Tells.keep g _ _ tv, by decide, by decide, fun d hd => ?_, by omega, fun l hl => ?_⟩
    · obtain ⟨c, _, rfl⟩ := List.mem_map.mp hd
      exact rk_course c
    rw [courses_metL cn, List.length_map]
    have sl := same_new hl (SetN P w l cs.length)
    refine ⟨l, cs.length, rfl, upd_same, by omega, _, rfl, av, _, rfl, .inr (SqT.of (sl _ _ (g _ _ ev))), rfl, _, rfl, ?_⟩
    rw [lv, decide_eq_true rfl]
    exact iteF ⟨_, g.trans sl, rfl⟩

end
theorem all_mk {l : PySem.W.OpenLaw} {w : World} {K : PySem.W.Frag} {h : Heap} {mg : Str → Option Value} {fa : Addr} (X : K.In h) (G : h.Ns mainGlobals mg) (hfa : mg "law" = some (.ref fa))
    {f0 f1 f2 f3 f4 f5 f6 f7 f8 f9 f10 f11 f12 f13 f14 f15 f16 f17 f18 f19 f20 f21 f22 f23 f24 f25 f26 f27 f28 f29 f30 f31 f32 CShelf CBackError CBadNames CBadReach COfficeFull CUnknownName CBookFull CTooManyCourses : Addr} {tMOST_NAMES tMOST_REACH tMOST_COURSES : Tok}
    (cShelf : DfC K "Shelf" CShelf)
    (nShelf_names : PySem.W.findIn K (.ref CShelf) "names" = some none)
    (nShelf_reach : PySem.W.findIn K (.ref CShelf) "reach" = some none)
    (nShelf_issues : PySem.W.findIn K (.ref CShelf) "issues" = some none)
    (a0 : DfT K "lacking_numbers" slacking_numbers .none f0)
    (a1 : DfT K "teller_of" steller_of .none f1)
    (a2 : DfT K "lacking_with_tellers" slacking_with_tellers .none f2)
    (a3 : DfT K "dark_numbers" sdark_numbers .none f3)
    (a4 : DfT K "refuse_bad_names" srefuse_bad_names .none f4)
    (a5 : DfT K "refuse_bad_reach" srefuse_bad_reach .none f5)
    (a6 : DfT K "bulletin_names" sbulletin_names .none f6)
    (a7 : DfT K "names_told_of" snames_told_of .none f7)
    (a8 : DfT K "gaps_of" sgaps_of .none f8)
    (a9 : DfT K "names_of_rows" snames_of_rows .none f9)
    (a10 : DfT K "known_sets" sknown_sets .none f10)
    (a11 : DfT K "two_to_the" stwo_to_the .none f11)
    (a12 : DfT K "course_count" scourse_count .none f12)
    (a13 : DfT K "every_choice" severy_choice .none f13)
    (a14 : DfT K "one_number_further" sone_number_further .none f14)
    (a15 : DfT K "every_course" severy_course .none f15)
    (a16 : DfM K CShelf "__init__" "Shelf.__init__" sShelf___init__ .none f16)
    (a17 : DfM K CShelf "put" "Shelf.put" sShelf_put .none f17)
    (a18 : DfM K CShelf "had" "Shelf.had" sShelf_had .none f18)
    (a19 : DfM K CShelf "latest" "Shelf.latest" sShelf_latest .none f19)
    (a20 : DfM K CShelf "rows_of" "Shelf.rows_of" sShelf_rows_of .none f20)
    (a21 : DfM K CShelf "tail_of" "Shelf.tail_of" sShelf_tail_of .none f21)
    (a22 : DfT K "_law_at" s_law_at .none f22)
    (a23 : DfT K "_law_pick" s_law_pick .none f23)
    (a24 : DfT K "_law_row" s_law_row .none f24)
    (a25 : DfT K "_law_same" s_law_same .none f25)
    (a26 : DfT K "_law_named" s_law_named .none f26)
    (a27 : DfT K "_law_doubled" s_law_doubled .none f27)
    (a28 : DfT K "_law_issue" s_law_issue .none f28)
    (a29 : DfT K "_law_course" s_law_course .none f29)
    (a30 : DfT K "_law_filled" s_law_filled .none f30)
    (a31 : DfT K "_law_all" s_law_all .none f31)
    (a32 : DfT K "law" slaw .none f32)
    (xBackError : PySem.W.nsIn K mainGlobals "BackError" = some (some (.ref CBackError)))
    (xBadNames : PySem.W.nsIn K mainGlobals "BadNames" = some (some (.ref CBadNames)))
    (xBadReach : PySem.W.nsIn K mainGlobals "BadReach" = some (some (.ref CBadReach)))
    (xOfficeFull : PySem.W.nsIn K mainGlobals "OfficeFull" = some (some (.ref COfficeFull)))
    (xUnknownName : PySem.W.nsIn K mainGlobals "UnknownName" = some (some (.ref CUnknownName)))
    (xBookFull : PySem.W.nsIn K mainGlobals "BookFull" = some (some (.ref CBookFull)))
    (xTooManyCourses : PySem.W.nsIn K mainGlobals "TooManyCourses" = some (some (.ref CTooManyCourses)))
    (xb : PySem.W.excIn K CBackError veL "ValueError.__new__" = true) (xc : errChk K CBackError [CBadNames, CBadReach, COfficeFull, CUnknownName, CBookFull, CTooManyCourses] = true)
    (zlen : PySem.W.nsIn K mainGlobals "len" = some none) (zrange : PySem.W.nsIn K mainGlobals "range" = some none) (ztuple : PySem.W.nsIn K mainGlobals "tuple" = some none) (zlist : PySem.W.nsIn K mainGlobals "list" = some none) (zmax : PySem.W.nsIn K mainGlobals "max" = some none) (zmin : PySem.W.nsIn K mainGlobals "min" = some none) (zsorted : PySem.W.nsIn K mainGlobals "sorted" = some none) (zisinstance : PySem.W.nsIn K mainGlobals "isinstance" = some none) (zbool : PySem.W.nsIn K mainGlobals "bool" = some none) (zint : PySem.W.nsIn K mainGlobals "int" = some none) (zstr : PySem.W.nsIn K mainGlobals "str" = some none) (zset : PySem.W.nsIn K mainGlobals "set" = some none) (zreversed : PySem.W.nsIn K mainGlobals "reversed" = some none) (zdict : PySem.W.nsIn K mainGlobals "dict" = some none) (zzip : PySem.W.nsIn K mainGlobals "zip" = some none) (zall : PySem.W.nsIn K mainGlobals "all" = some none) (zValueError : PySem.W.nsIn K mainGlobals "ValueError" = some none) (vMOST_NAMES : PySem.W.nsIn K mainGlobals "MOST_NAMES" = some (some (.int 12 tMOST_NAMES))) (vMOST_REACH : PySem.W.nsIn K mainGlobals "MOST_REACH" = some (some (.int 10 tMOST_REACH))) (vMOST_COURSES : PySem.W.nsIn K mainGlobals "MOST_COURSES" = some (some (.int 4096 tMOST_COURSES))) :
    ∃ fd : FuncData, (∀ (s : Shared) (v : Value), BindsTo s fd ⟨[v], []⟩ [("_law_script", v)]) ∧ ∀ base : Heap, K.In base → base.Ns mainGlobals mg → FnOk l.prog w K mg base CX0 14 fa fd ["_law_script"] (spLaw K) := by
  have M : Bl mg := ⟨PySem.W.mg_none_of X G zlen, PySem.W.mg_none_of X G zrange, PySem.W.mg_none_of X G ztuple, PySem.W.mg_none_of X G zlist, PySem.W.mg_none_of X G zmax, PySem.W.mg_none_of X G zmin, PySem.W.mg_none_of X G zsorted, PySem.W.mg_none_of X G zisinstance, PySem.W.mg_none_of X G zbool, PySem.W.mg_none_of X G zint, PySem.W.mg_none_of X G zstr, PySem.W.mg_none_of X G zset, PySem.W.mg_none_of X G zreversed, PySem.W.mg_none_of X G zdict, PySem.W.mg_none_of X G zzip, PySem.W.mg_none_of X G zall, PySem.W.mg_none_of X G zValueError, ⟨_, PySem.W.mg_of X G vMOST_NAMES⟩, ⟨_, PySem.W.mg_of X G vMOST_REACH⟩, ⟨_, PySem.W.mg_of X G vMOST_COURSES⟩⟩
  have TShelf : TxShelf K mg CShelf := ⟨cShelf.cls, cShelf.nm X G, nShelf_names, nShelf_reach, nShelf_issues⟩
  obtain ⟨_, Flacking_numbers⟩ := df_top X G a0
  obtain ⟨_, Fteller_of⟩ := df_top X G a1
  obtain ⟨_, Flacking_with_tellers⟩ := df_top X G a2
  obtain ⟨_, Fdark_numbers⟩ := df_top X G a3
  obtain ⟨_, Frefuse_bad_names⟩ := df_top X G a4
  obtain ⟨_, Frefuse_bad_reach⟩ := df_top X G a5
  obtain ⟨_, Fbulletin_names⟩ := df_top X G a6
  obtain ⟨_, Fnames_told_of⟩ := df_top X G a7
  obtain ⟨_, Fgaps_of⟩ := df_top X G a8
  obtain ⟨_, Fnames_of_rows⟩ := df_top X G a9
  obtain ⟨_, Fknown_sets⟩ := df_top X G a10
  obtain ⟨_, Ftwo_to_the⟩ := df_top X G a11
  obtain ⟨_, Fcourse_count⟩ := df_top X G a12
  obtain ⟨_, Fevery_choice⟩ := df_top X G a13
  obtain ⟨_, Fone_number_further⟩ := df_top X G a14
  obtain ⟨_, Fevery_course⟩ := df_top X G a15
  obtain ⟨_, FShelf___init__⟩ := df_init cShelf a16
  obtain ⟨_, FShelf_put⟩ := df_meth a17
  obtain ⟨_, FShelf_had⟩ := df_meth a18
  obtain ⟨_, FShelf_latest⟩ := df_meth a19
  obtain ⟨_, FShelf_rows_of⟩ := df_meth a20
  obtain ⟨_, FShelf_tail_of⟩ := df_meth a21
  obtain ⟨_, F_law_at⟩ := df_top X G a22
  obtain ⟨_, F_law_pick⟩ := df_top X G a23
  obtain ⟨_, F_law_row⟩ := df_top X G a24
  obtain ⟨_, F_law_same⟩ := df_top X G a25
  obtain ⟨_, F_law_named⟩ := df_top X G a26
  obtain ⟨_, F_law_doubled⟩ := df_top X G a27
  obtain ⟨_, F_law_issue⟩ := df_top X G a28
  obtain ⟨_, F_law_course⟩ := df_top X G a29
  obtain ⟨_, F_law_filled⟩ := df_top X G a30
  obtain ⟨_, F_law_all⟩ := df_top X G a31
  obtain ⟨_, Flaw⟩ := df_top X G a32
  have ers : Errs K CBackError [CBadNames, CBadReach, COfficeFull, CUnknownName, CBookFull, CTooManyCourses] := ⟨xc⟩
  have eBackError : Err K mg "BackError" CBackError := ⟨PySem.W.mg_of X G xBackError, xb⟩
  have eBadNames : Err K mg "BadNames" CBadNames := ⟨PySem.W.mg_of X G xBadNames, (ers.one (by simp)).1.ex⟩
  have eBadReach : Err K mg "BadReach" CBadReach := ⟨PySem.W.mg_of X G xBadReach, (ers.one (by simp)).1.ex⟩
  have eOfficeFull : Err K mg "OfficeFull" COfficeFull := ⟨PySem.W.mg_of X G xOfficeFull, (ers.one (by simp)).1.ex⟩
  have eUnknownName : Err K mg "UnknownName" CUnknownName := ⟨PySem.W.mg_of X G xUnknownName, (ers.one (by simp)).1.ex⟩
  have eBookFull : Err K mg "BookFull" CBookFull := ⟨PySem.W.mg_of X G xBookFull, (ers.one (by simp)).1.ex⟩
  have eTooManyCourses : Err K mg "TooManyCourses" CTooManyCourses := ⟨PySem.W.mg_of X G xTooManyCourses, (ers.one (by simp)).1.ex⟩
  have e := hfa.symm.trans Flaw.2
  cases e
  refine ⟨_, law_binds Flaw.1, fun base _ _ => ?_⟩
  have C_same := same_all (P := l.prog) (w := w) (base := base) M F_law_same.1 (b2 F_law_same.1) F_law_same.2
  have cal := @calF l.prog w K mg base
  have mcl := @mclF l.prog w K mg base
  have mkr := @mkrF l.prog w K mg base
  have calX := @calFX l.prog w K mg base
  have mclX := @mclFX l.prog w K mg base
  have mkrX := @mkrFX l.prog w K mg base
  have G_law_at := cal F_law_at (ok_at M F_law_at.1) (b2 F_law_at.1)
  have G_law_pick := cal F_law_pick (ok_pick F_law_pick.1) (b2 F_law_pick.1)
  have G_law_row := cal F_law_row (ok_row M F_law_row.1) (b3 F_law_row.1)
  have G_law_named := cal F_law_named (ok_named M F_law_named.1) (b2 F_law_named.1)
  have G_law_doubled := cal F_law_doubled (ok_doubled M F_law_doubled.1) (b1 F_law_doubled.1)
  have G_law_issue := cal F_law_issue (ok_issue M F_law_issue.1) (b3 F_law_issue.1)
  have Grefuse_bad_names := cal Frefuse_bad_names (ok_badnames M Frefuse_bad_names.1) (b1 Frefuse_bad_names.1)
  have Grefuse_bad_reach := cal Frefuse_bad_reach (ok_badreach M Frefuse_bad_reach.1) (b1 Frefuse_bad_reach.1)
  have GShelf_put := mcl TShelf.cl FShelf_put (ok_put (CShelf := CShelf) M TShelf FShelf_put.1) (b2 FShelf_put.1)
  have GShelf_had := mcl TShelf.cl FShelf_had (ok_shhad (CShelf := CShelf) M TShelf FShelf_had.1) (b1 FShelf_had.1)
  have Glacking_numbers := cal Flacking_numbers (ok_lack M Flacking_numbers.1) (b1 Flacking_numbers.1)
  have Gteller_of := cal Fteller_of (ok_teller M Fteller_of.1) (b3 Fteller_of.1)
  have GShelf_tail_of := mcl TShelf.cl FShelf_tail_of (ok_tailof (CShelf := CShelf) M TShelf FShelf_tail_of.1) (b2 FShelf_tail_of.1)
  have GShelf_rows_of := mcl TShelf.cl FShelf_rows_of (ok_rowsof (CShelf := CShelf) M TShelf FShelf_rows_of.1) (b2 FShelf_rows_of.1)
  have Gnames_of_rows := cal Fnames_of_rows (ok_nmsof M Fnames_of_rows.1) (b1 Fnames_of_rows.1)
  have Gtwo_to_the := cal Ftwo_to_the (ok_two M Ftwo_to_the.1) (b1 Ftwo_to_the.1)
  have G_law_course := cal F_law_course (ok_lcourse M F_law_course.1) (b3 F_law_course.1)
  have Gevery_choice := cal Fevery_choice (ok_everychoice M Fevery_choice.1) (b1 Fevery_choice.1)
  have Gone_number_further := cal Fone_number_further (ok_onefurther M Fone_number_further.1) (b2 Fone_number_further.1)
  have Gbulletin_names := cal Fbulletin_names (ok_bulletin M Fbulletin_names.1 Grefuse_bad_names.up Grefuse_bad_reach.up) (b2 Fbulletin_names.1)
  have GShelf_latest := mcl TShelf.cl FShelf_latest (ok_latest (CShelf := CShelf) M TShelf FShelf_latest.1 GShelf_had.up) (b1 FShelf_latest.1)
  have Glacking_with_tellers := cal Flacking_with_tellers (ok_lwt M Flacking_with_tellers.1 Glacking_numbers.up Gteller_of.up) (b2 Flacking_with_tellers.1)
  have Gnames_told_of := cal Fnames_told_of (ok_told (CShelf := CShelf) M TShelf Fnames_told_of.1 GShelf_tail_of.up) (b3 Fnames_told_of.1)
  have GShelf := mkr TShelf.mgC FShelf___init__ (ok_shinit (CShelf := CShelf) M TShelf FShelf___init__.1 Gbulletin_names.up) (b3 FShelf___init__.1)
  have Gdark_numbers := cal Fdark_numbers (ok_dark M Fdark_numbers.1 Glacking_with_tellers.up) (b2 Fdark_numbers.1)
  have Ggaps_of := cal Fgaps_of (ok_gapsof (CShelf := CShelf) M TShelf Fgaps_of.1 GShelf_had.up Glacking_with_tellers.up Gnames_told_of.up) (b1 Fgaps_of.1)
  have Gknown_sets := cal Fknown_sets (ok_known (CShelf := CShelf) M Fknown_sets.1 GShelf_had.up GShelf_rows_of.up Gnames_of_rows.up Ggaps_of.up) (b1 Fknown_sets.1)
  have Gcourse_count := cal Fcourse_count (ok_count (CShelf := CShelf) M TShelf Fcourse_count.1 GShelf_had.up Gdark_numbers.up Gtwo_to_the.up) (b1 Fcourse_count.1)
  have G_law_filled := cal F_law_filled (ok_filled (CShelf := CShelf) (Sh := (ShD K CShelf)) M F_law_filled.1 shOk G_law_issue.up GShelf.up GShelf_put.up) (b4 F_law_filled.1)
  have Gevery_course := cal Fevery_course (ok_everycourse (CShelf := CShelf) M TShelf Fevery_course.1 Gcourse_count.up Gknown_sets.up Gevery_choice.up Gone_number_further.up) (b1 Fevery_course.1)
  have Gevery_courseX := calX Fevery_course (ok_everycourseX (CShelf := CShelf) (CTooManyCourses := CTooManyCourses) M TShelf Fevery_course.1 eTooManyCourses Gcourse_count.up Gknown_sets.up Gevery_choice.up Gone_number_further.up) (b1 Fevery_course.1)
  have G_law_all := cal F_law_all (ok_all22 (CShelf := CShelf) (CBadNames := CBadNames) (CBadReach := CBadReach) (COfficeFull := COfficeFull) (CUnknownName := CUnknownName) (CBookFull := CBookFull) (CTooManyCourses := CTooManyCourses) (CBackError := CBackError) M F_law_all.1 eBackError eBadNames eBadReach eOfficeFull eUnknownName eBookFull eTooManyCourses ers Gevery_courseX.up) (b1 F_law_all.1)
  exact ok_law M Flaw.1 shOk G_law_at.up G_law_pick.up G_law_row.up G_law_named.up G_law_doubled.up (C_same 4) G_law_filled.up G_law_all.up G_law_course.up Gcourse_count.up
theorem walk {l : PySem.W.OpenLaw} {q : Program} {loose : List Str} {XP : (Str → Option Value) → Heap → Prop} {YP : World → Heap → Prop} {d : DefRec} {K : Params → PySem.W.Frag} (hn : l.most = some 63) (hdf : d.params.defaults = [])
    (hY : ∀ (w : World) (h : Heap), YP w h → (K w.params).In h)
    (F : ∀ (w : World) (mg : Str → Option Value) (fa : Addr) (h : Heap), (K w.params).In h → h.Ns mainGlobals mg → mg d.name = some (.ref fa) →
      ∃ fd : FuncData, (∀ (s : Shared) (u : Value), BindsTo s fd ⟨[u], []⟩ [("_law_script", u)]) ∧ ∀ base : Heap, (K w.params).In base → base.Ns mainGlobals mg → FnOk l.prog w (K w.params) mg base CX0 14 fa fd ["_law_script"] (spLaw (K w.params))) :
    PySem.W.WalkO q loose XP YP l.row.toRowW d [] (fun f vs => PySem.call f vs) :=
  L2.walk_of (n := 63) (k := 14) (x := "_law_script") (CX := fun _ => CX0) (sp := fun w => spLaw (K w.params)) hn (by decide) hdf ⟨rfl, by decide, by decide⟩ hY F (fun _ _ a ns hl _ hS => ⟨a, ns, rfl, hS, hl, fun _ => rfl⟩) fun _ _ _ _ _ z => z
theorem walkX {q : Program} {loose : List Str} {XP : (Str → Option Value) → Heap → Prop} {r : PySem.W.RowW} {d : DefRec} {kwd : List (Str × Expr)} {run : Value → List Value → Sem Value} {K : Params → PySem.W.Frag} {ks : List Addr} {n t : Nat} (e : ∀ P, ks = (K P).map (·.1))
    (W : PySem.W.WalkO q loose XP (fun w h => (K w.params).In h) r d kwd run) : PySem.W.WalkX q loose XP (PySem.W.X.obsZ ks) (PySem.W.X.valZ K n t) r d kwd run :=
  fun w s₀ s₁ mg mb G y a o pm cd doc dV kV h1 h2 h3 h4 h5 h6 args vals as L g1 g2 g3 g4 g5 => W w s₀ s₁ mg mb G (PySem.W.InK.keeps w s₀.heap s₁.heap (PySem.W.X.z_facts e y).2.1 L.keeps) a o pm cd doc dV kV h1 h2 h3 h4 h5 h6 args vals as g1 g2 g3 g4 g5
end My
namespace PySem.W.Fast
def tw10040210436727815359:=()
def tw10053889291840698615:=()
def tw10116847610457168028:=()
def tw1023839871866183087:=()
def tw10281039662752483865:=()
def tw1041268889008835422:=()
def tw10564284478652361153:=()
def tw10636668358119173821:=()
def tw10810113553986782340:=()
def tw10820834942515179974:=()
def tw10845570670828105228:=()
def tw11081800571592253337:=()
def tw11146810984674676497:=()
def tw11162928780607513970:=()
def tw11207193366648642640:=()
def tw11480151534660195828:=()
def tw11489521600040001679:=()
def tw1151486624301707081:=()
def tw11585832557017224555:=()
def tw1164111298038872710:=()
def tw11706583426303907680:=()
def tw11712080361695338749:=()
def tw11732451935992491402:=()
def tw12277308019782338540:=()
def tw12335364605944441989:=()
def tw12345197878371280837:=()
def tw1239855900955991291:=()
def tw12461125595980723844:=()
def tw12554613018341165026:=()
def tw12591394145514545684:=()
def tw12640082760728966005:=()
def tw12688872753547216080:=()
def tw12747803759878524993:=()
def tw12862433117997636504:=()
def tw12863393359247356736:=()
def tw12920361360864502577:=()
def tw12940578196881345701:=()
def tw12992407261342116755:=()
def tw13008940484234447462:=()
def tw130395987584843635:=()
def tw13108900347079850361:=()
def tw13120615263068896239:=()
def tw13248047482302937861:=()
def tw13320082732449337822:=()
def tw13468163979541990528:=()
def tw1351960506368268850:=()
def tw13618011813150436653:=()
def tw13631709450784345021:=()
def tw13685840330948406469:=()
def tw13769950386493645372:=()
def tw13865827996157659607:=()
def tw13867652240830920863:=()
def tw14087866550056409307:=()
def tw14097881106110816284:=()
def tw14137438245071251244:=()
def tw14185726856173672787:=()
def tw14255758412865644764:=()
def tw14370893061368698123:=()
def tw14415530301514400503:=()
def tw14471978649778582204:=()
def tw14526192741885979907:=()
def tw14590204256658263290:=()
def tw14764970409344041787:=()
def tw15117334837533757474:=()
def tw15236814170499846572:=()
def tw15246926794628952613:=()
def tw15251683336424855591:=()
def tw15297641486746736733:=()
def tw15385960832211945772:=()
def tw15614908662512821091:=()
def tw15626765732129003834:=()
def tw15781471050054732077:=()
def tw15804342102276218869:=()
def tw15805603586347287088:=()
def tw15843700837885553078:=()
def tw1591153130284860251:=()
def tw15988507919335773174:=()
def tw16128341965050928254:=()
def tw16499495753723601774:=()
def tw16510742787346592519:=()
def tw16556920920802439113:=()
def tw1678071850071309449:=()
def tw16866390657048211424:=()
def tw16874244230378250293:=()
def tw16875212864961141051:=()
def tw16938125390079403688:=()
def tw16949128672503048547:=()
def tw16983001188760555133:=()
def tw17035024507247872766:=()
def tw17136975396081960633:=()
def tw17187576545903037774:=()
def tw17217016401926961287:=()
def tw1724499541980839592:=()
def tw17298501797173108240:=()
def tw17590225188361790876:=()
def tw17618332330424037985:=()
def tw17639667869747435840:=()
def tw17775941356689257925:=()
def tw18102203602856657694:=()
def tw18176875806471678487:=()
def tw18247424205859260899:=()
def tw1837023945076217076:=()
def tw18424857697980648607:=()
def tw18439028669253206127:=()
def tw1843979192074794205:=()
def tw18444307908444735058:=()
def tw1846220045814223534:=()
def tw1883947298494560539:=()
def tw1902468525341598703:=()
def tw1918261524536159470:=()
def tw1972908762730736147:=()
def tw2049201080345335357:=()
def tw2049313388985856741:=()
def tw2098092667091672555:=()
def tw2170884089795606946:=()
def tw2244381558620527148:=()
def tw224655117829862911:=()
def tw2346411147028211244:=()
def tw2401920830573087892:=()
def tw2457781203667236205:=()
def tw2572593981314058124:=()
def tw2673613376726354147:=()
def tw267648655973238088:=()
def tw2874173828503395376:=()
def tw2880958452189607806:=()
def tw2945919213341037342:=()
def tw3094357144059337570:=()
def tw3241103758987365576:=()
def tw3263947105961620913:=()
def tw3353377800785887883:=()
def tw3373110462679816126:=()
def tw3375561424347385299:=()
def tw351878035251386200:=()
def tw3545798444591824433:=()
def tw3568305214116522806:=()
def tw3568945184022267630:=()
def tw3626577657903094829:=()
def tw3643876190666752174:=()
def tw3677266805893069280:=()
def tw3750019203636782146:=()
def tw3842094267985495978:=()
def tw3937844895787616982:=()
def tw3940521117189563452:=()
def tw4100723210978044477:=()
def tw4374466853648450518:=()
def tw4805328107790073497:=()
def tw4860944182497020658:=()
def tw4890595320244040658:=()
def tw4929465627787255051:=()
def tw4979326705172015415:=()
def tw502913894907248076:=()
def tw5178756225203033097:=()
def tw5180240349509708700:=()
def tw5377150848572358608:=()
def tw5535017924102602040:=()
def tw5583558212159583646:=()
def tw559844027378321869:=()
def tw56813249767740454:=()
def tw5850043903356447126:=()
def tw5867394849132219467:=()
def tw5978562259581047586:=()
def tw6026057975866315131:=()
def tw6112497793689389742:=()
def tw6167881028680466075:=()
def tw6254599027390622945:=()
def tw6268745966444066503:=()
def tw6282085714523646304:=()
def tw6288353118812550020:=()
def tw6299478662353991:=()
def tw6300065565883833294:=()
def tw6347295861626517211:=()
def tw6486847745909772411:=()
def tw6596551183824644256:=()
def tw6625084128155269047:=()
def tw6658165973579227128:=()
def tw6669811835694894321:=()
def tw6732196257507099274:=()
def tw6766514064700478771:=()
def tw6826607944900973647:=()
def tw6841471962197780670:=()
def tw6869424294619076719:=()
def tw6937622871535630238:=()
def tw6955495840561926939:=()
def tw6971251985024369125:=()
def tw7096238651034699284:=()
def tw7140883758081635597:=()
def tw7158732225112522960:=()
def tw7167417324720288145:=()
def tw730385276496464485:=()
def tw7400857150891134612:=()
def tw7545486643360132884:=()
def tw7667114057470682591:=()
def tw767732499255571270:=()
def tw7715987935107786892:=()
def tw7891299719307812322:=()
def tw7936706575074845120:=()
def tw7984176618505522624:=()
def tw8009612142105056866:=()
def tw801423252369433955:=()
def tw8062987160297612636:=()
def tw8198120060102816269:=()
def tw820139622163923743:=()
def tw8317268485545049484:=()
def tw8347746020670486408:=()
def tw847396255893880514:=()
def tw8558013346485214436:=()
def tw8583946424943930734:=()
def tw8699047899419281986:=()
def tw8750043196539458185:=()
def tw8769286107085322033:=()
def tw8835808256002857107:=()
def tw8960427809340298990:=()
def tw9042808879114086802:=()
def tw9080159682799063926:=()
def tw9119443153809017946:=()
def tw9120961076413155389:=()
def tw949054317828103519:=()
def tw9898517831869628924:=()
end PySem.W.Fast
open PySem PySem.W PyProof.Rows
set_option maxRecDepth 100000 in
set_option maxHeartbeats 0 in
theorem PySem.Challenge.cw_backissues_k22_at_most_4096_holds : PySem.Challenge.rw_backissues_k22_at_most_4096.Holds := by
  w_on; o_law; z_head; (case hw => w_witness2)
  k_fill
  refine My.walkX (fun _ => by kernel_rfl) ?_
  refine My.walk (l := PySem.Challenge.rw_backissues_k22_at_most_4096) rfl rfl (fun w h Y => Y) ?F
  case F =>
    intro w mg fa h KX G hmg
    refine' My.all_mk KX G hmg ?cShelf ?nShelf_names ?nShelf_reach ?nShelf_issues ?a0 ?a1 ?a2 ?a3 ?a4 ?a5 ?a6 ?a7 ?a8 ?a9 ?a10 ?a11 ?a12 ?a13 ?a14 ?a15 ?a16 ?a17 ?a18 ?a19 ?a20 ?a21 ?a22 ?a23 ?a24 ?a25 ?a26 ?a27 ?a28 ?a29 ?a30 ?a31 ?a32 ?xBackError ?xBadNames ?xBadReach ?xOfficeFull ?xUnknownName ?xBookFull ?xTooManyCourses ?xb ?xc ?zlen ?zrange ?ztuple ?zlist ?zmax ?zmin ?zsorted ?zisinstance ?zbool ?zint ?zstr ?zset ?zreversed ?zdict ?zzip ?zall ?zValueError ?vMOST_NAMES ?vMOST_REACH ?vMOST_COURSES
    case' cShelf => exact ⟨by k_is, by k_is, by k_is, by k_is, by k_is, by k_is, by k_is⟩
    case' nShelf_names | nShelf_reach | nShelf_issues => k_is
    case' a0 | a1 | a2 | a3 | a4 | a5 | a6 | a7 | a8 | a9 | a10 | a11 | a12 | a13 | a14 | a15 | a22 | a23 | a24 | a25 | a26 | a27 | a28 | a29 | a30 | a31 | a32 => exact ⟨by k_is, _, _, _, _, _, _, _, _, _, by k_is, by k_is, by k_is⟩
    case' a16 | a17 | a18 | a19 | a20 | a21 => exact ⟨by k_is, by k_is, _, _, _, _, _, _, _, _, _, by k_is, by k_is, by k_is⟩
    case' xBackError | xBadNames | xBadReach | xOfficeFull | xUnknownName | xBookFull | xTooManyCourses => k_is
    case' xb => k_exc
    case' xc => kernel_rfl
    case' zlen | zrange | ztuple | zlist | zmax | zmin | zsorted | zisinstance | zbool | zint | zstr | zset | zreversed | zdict | zzip | zall | zValueError | vMOST_NAMES | vMOST_REACH | vMOST_COURSES => k_is

