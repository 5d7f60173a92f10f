import PyProof.Rows.All
import Wide.All
import OpenK.AllK
import Wide.FinOn
import Lean
import PyProof.EqAt
import PyProof.EqKinds
import PyProof.TupleCall
import PyProof.WalksMore
import PyProof.ListRange
import PyProof.NeKinds
import PyProof.SliceStr2
import PyProof.StrOps2
import PyProof.Rows.SetFrom
import PyProof.MinMaxWalk
import KE.KRevIter
import KE.KDictList
import PyProof.AttrMiss
import PyProof.IsiH_list
import PyProof.IsiH_tuple
import KE.KDictOf
import PyProof.ZipIter
import PyProof.TupleIter
import PySem.Challenge.RW_backissues_k46_whole_any_deed
set_option Elab.async false
set_option linter.all false
set_option maxHeartbeats 4000000
set_option maxRecDepth 100000
abbrev bA:=@List.length_map
abbrev bB:=@PySem.Heap.get?_push_of_some
abbrev bC:=@List.mem_singleton
abbrev bD:=@List.getElem?_eq_getElem
abbrev bE:=@List.getElem?_map
abbrev bF:=@List.mem_cons
abbrev bG:=@List.map_append
abbrev bH:=@PyProof.Rows.boot_tuple
abbrev bI:=@List.length_take
abbrev bJ:=@Nat.le_refl
abbrev bK:=@PySem.Heap.get?_push_size
abbrev bL:=@List.length_append
abbrev bM:=@Bool.false_ne_true
abbrev bN:=@PySem.boot_len
abbrev bO:=@List.size_toArray
abbrev bP:=@List.getD_eq_getElem?_getD
abbrev bQ:=@PySem.Heap.lt_size
abbrev bR:=@List.take_length
abbrev bS:=@List.mem_of_getElem?
abbrev bT:=@PySem.PassesOwn.never
abbrev bU:=@PySem.F.slot_list_append
abbrev bV:=@PySem.F.plainAttrs_list
abbrev bW:=@PySem.F.type_list_append
abbrev bX:=@List.getElem?_eq_some_iff
abbrev bY:=@Option.map_eq_some_iff
abbrev bZ:=@Bool.and_eq_true
abbrev cC:=@PyProof.Rows.boot_isinstance
abbrev cG:=@List.mem_cons_of_mem
abbrev cH:=@List.mem_append
abbrev cI:=@List.mem_cons_self
abbrev cJ:=@List.length_filter_le
abbrev cK:=@List.mem_append_right
abbrev cL:=@Nat.ne_of_lt
abbrev cM:=@Nat.le_trans
abbrev cN:=@List.length_cons
abbrev cO:=@List.mem_filter
abbrev cP:=@List.take_of_length_le
abbrev cQ:=@Int.emod_lt_of_pos
abbrev cR:=@PySem.Around.under_plainId
abbrev cS:=@List.mem_map
abbrev cT:=@Nat.lt_of_lt_of_le
abbrev cU:=@PySem.W.mg_none_of
abbrev cV:=@List.map_cons
abbrev cW:=@Nat.zero_le
abbrev cX:=@List.append_nil
abbrev cY:=@Int.emod_nonneg
abbrev cZ:=@List.take_zero
abbrev d6:=@PySem.Heap.get?_update_other
abbrev d7:=@List.mem_append_left
abbrev d8:=@List.pairwise_append
abbrev d9:=@List.exists_cons_of_length_eq_add_one
abbrev dA:=@Bool.eq_iff_iff
abbrev dB:=@PyProof.Rows.boot_max
abbrev dC:=@List.getElem?_append_right
abbrev dD:=@List.not_mem_nil
abbrev dE:=@List.getElem?_append_left
abbrev dF:=@List.foldl_cons
abbrev dG:=@Ne.symm
abbrev dH:=@List.length_singleton
abbrev dI:=@PyProof.Rows.slot_tuple_getitem
abbrev dJ:=@PySem.W.mg_of
abbrev dL:=@List.nodup_iff_pairwise_ne
abbrev dM:=@List.filter_append
abbrev dN:=@PySem.F.plain_max_loop
abbrev dO:=@PySem.F.plain_min_loop
abbrev dP:=@List.filter_cons
abbrev dQ:=@Nat.lt_irrefl
abbrev dR:=@Nat.le_of_lt
abbrev dS:=@PySem.W.kia_one
abbrev dU:=@List.nodup_cons
abbrev dW:=@List.find?_cons
abbrev dX:=@PyProof.Rows.callWith_type1
abbrev dY:=@List.length_drop
abbrev dZ:=@List.mem_of_mem_take
abbrev eF:=@List.map_map
abbrev eI:=@PySem.Heap.size_push
abbrev eJ:=@List.pairwise_map
abbrev eM:=@PySem.Heap.get?_update_self
abbrev eO:=@List.eq_nil_of_length_eq_zero
abbrev eQ:=@List.getElem?_take_of_lt
abbrev eS:=@Nat.lt_of_le_of_lt
abbrev eU:=@Int.toNat_natCast
abbrev eV:=@Int.natCast_nonneg
abbrev eX:=@Int.le_refl
abbrev eY:=@Nat.ne_of_gt
abbrev eZ:=@List.take_add_one
abbrev fA:=@Bool.eq_false_iff
abbrev fB:=@List.pairwise_singleton
abbrev fE:=@List.map_congr_left
abbrev fF:=@List.getElem?_range
abbrev fG:=@List.getElem_mem
abbrev fH:=@List.drop_zero
abbrev fI:=@List.dropLast_concat_getLast
abbrev fJ:=@Bool.false_eq_true
abbrev fK:=@PyProof.Rows.boot_min
abbrev fL:=@List.filter_nil
abbrev fM:=@PySem.F.slot_tuple_iterator_next
abbrev fN:=@Nat.lt_succ_of_lt
abbrev fO:=@PySem.F.slot_tuple_getattribute
abbrev fP:=@List.pairwise_iff_getElem
abbrev fQ:=@List.mem_range
abbrev fR:=@PySem.F.called_set
abbrev fS:=@PySem.F.slot_list_getattribute
abbrev fT:=@List.all_eq_true
abbrev fU:=@List.countP_cons
abbrev fV:=@Int.zero_add
abbrev fW:=@PyProof.Rows.boot_sorted
abbrev fX:=@List.filterMap_cons
abbrev fZ:=@PySem.mem_of_lookup
abbrev gB:=@PySem.Heap.SameBut.update
abbrev gH:=@List.getElem_of_mem
abbrev gJ:=@List.length_reverse
abbrev gK:=@PySem.F.plain_list_iadd
abbrev gL:=@List.all_cons
abbrev gM:=@List.any_cons
abbrev gN:=@Bool.true_and
abbrev gP:=@Nat.not_lt_zero
abbrev gQ:=@Int.natCast_mul
abbrev gR:=@PySem.F.entry_max_loop
abbrev gS:=@PySem.F.entry_min_loop
abbrev gU:=@List.foldl_append
abbrev gX:=@Bool.false_and
abbrev gY:=@Nat.sub_zero
abbrev gZ:=@List.idxOf_lt_length_of_mem
abbrev h8:=@Nat.lt_succ_self
abbrev h9:=@List.reverse_reverse
abbrev hE:=@Nat.le_succ
abbrev hU:=@PySem.Paired.snoc
abbrev hV:=@Array.length_toList
abbrev hW:=@Nat.min_eq_left
abbrev hZ:=@List.mem_of_find?_eq_some
abbrev j0:=@Classical.byContradiction
abbrev j3:=@PySem.F.args_tuple_add_2
abbrev j4:=@Nat.pos_of_ne_zero
abbrev j5:=@List.any_map
abbrev j6:=@List.getElem?_replicate
abbrev j7:=@PySem.F.entry_tuple_add
abbrev j8:=@PyProof.Rows.F.plain_set_update_loop
abbrev j9:=@List.length_eq_zero_iff
abbrev jA:=@List.length_range
abbrev jB:=@List.nodup_append
abbrev jC:=@List.append_assoc
abbrev jD:=@PySem.F.slot_tuple_add
abbrev jE:=@PyProof.Rows.boot_bool
abbrev jF:=@PyProof.Rows.boot_list
abbrev jG:=@PyProof.Rows.boot_dict
abbrev jH:=@List.lookup_cons
abbrev jI:=@Nat.le_add_right
abbrev jJ:=@List.any_eq_true
abbrev jK:=@List.mem_reverse
abbrev jL:=@PySem.W.methodCall_KW
abbrev jM:=@List.length_replicate
abbrev jN:=@List.getElem?_reverse
abbrev jO:=@List.getElem?_eq_none
abbrev jP:=@PyProof.Rows.boot_int
abbrev jQ:=@PyProof.Rows.boot_str
abbrev jR:=@List.pairwise_reverse
abbrev jS:=@List.getElem?_set_ne
abbrev jT:=@Bool.or_eq_true
abbrev jU:=@List.length_nil
abbrev jV:=@PySem.F.slot_zip_next
abbrev jW:=@Int.ne_of_lt
abbrev jX:=@PySem.W.plainGet_of
abbrev jY:=@List.length_pos_iff
abbrev jZ:=@List.mem_map_of_mem
abbrev k7:=@List.getElem_attach
abbrev k8:=@Nat.mul_le_mul
abbrev k9:=@Int.mul_nonneg
abbrev kA:=@PySem.W.callWith_K
abbrev kB:=@List.pairwise_cons
abbrev kC:=@List.find?_eq_none
abbrev kD:=@List.getElem_idxOf
abbrev kE:=@List.any_eq_false
abbrev kF:=@List.take_sublist
abbrev kG:=@Bool.not_eq_true'
abbrev kH:=@List.Sublist.refl
abbrev kI:=@Iff.rfl
abbrev kJ:=@Nat.le_of_not_lt
abbrev kK:=@Nat.zero_add
abbrev kL:=@List.all_map
abbrev kM:=@List.nil_sublist
abbrev kN:=@Nat.succ_le_succ
abbrev kO:=@Nat.sub_self
namespace L2
open PySem PySem.Spec PyProof.Rows
abbrev Key:=Sum Int Str
noncomputable def y1Q:Key->Value->Bool
 | .inl k,v=>Value.isInt k v
 | .inr x,v=>Value.isStrOf x v
noncomputable def keyH(w:World):Key->Int
 | .inl k=>hashInt k
 | .inr x=>hashStr w x
theorem z1u:∀{k:Key}{v:Value},y1Q k v=true->(∃i t,k=Sum.inl i/\v=Value.int i t)\/(∃x t,k=Sum.inr x/\v=Value.str x t)
 | .inl i,v,h=>by
  obtain⟨t,e⟩:=Value.isInt_shape (k:=i) (v:=v) h
  exact .inl ⟨i,t,rfl,e⟩
 | .inr x,v,h=>by
  obtain⟨t,e⟩:=Value.isStrOf_shape (x:=x) (v:=v) h
  exact .inr ⟨x,t,rfl,e⟩
theorem y4y(i:Int)(t:Tok):y1Q (.inl i) (.int i t)=true:=by simp[y1Q,Value.isInt]
theorem y4O(x:Str)(t:Tok):y1Q (.inr x) (.str x t)=true:=by simp[y1Q,Value.isStrOf]
theorem y8F(a b:Int):decide ((Sum.inl a:Key)=Sum.inl b)=(a == b):=by
 by_cases e:a=b
 ·subst e;simp
 ·have h:¬(Sum.inl a:Key)=Sum.inl b:=fun q=>e (Sum.inl.inj q)
  rw[decide_eq_false h]
  exact(beq_eq_false_iff_ne.mpr e).symm
theorem y8t(a b:Str):decide ((Sum.inr a:Key)=Sum.inr b)=decide (a=b):=by
 by_cases e:a=b
 ·subst e;simp
 ·have h:¬(Sum.inr a:Key)=Sum.inr b:=fun q=>e (Sum.inr.inj q)
  rw[decide_eq_false h,decide_eq_false e]
theorem y8y(a:Int)(b:Str):decide ((Sum.inl a:Key)=Sum.inr b)=false:=decide_eq_false (fun q=>nomatch q)
theorem y8s(a:Str)(b:Int):decide ((Sum.inr a:Key)=Sum.inl b)=false:=decide_eq_false (fun q=>nomatch q)
noncomputable def z1H(prog:Program)(w:World):PySem.KeyKind prog w Key where
 is:=y1Q
 hash:=keyH w
 inj:=fun v a b ha hb=>by
  rcases z1u ha with ⟨i,t,rfl,rfl⟩|⟨x,t,rfl,rfl⟩
  ·rcases z1u hb with ⟨j,u,rfl,e⟩|⟨y,u,rfl,e⟩
   ·injection e with e1 _;rw[e1]
   ·exact nomatch e
  ·rcases z1u hb with ⟨j,u,rfl,e⟩|⟨y,u,rfl,e⟩
   ·exact nomatch e
   ·injection e with e1 _;rw[e1]
 byValue:=fun k v h=>by
  rcases z1u h with ⟨i,t,rfl,rfl⟩|⟨x,t,rfl,rfl⟩<;>rfl
 pyHash:=fun hv h=>by
  rcases z1u hv with ⟨i,t,rfl,rfl⟩|⟨x,t,rfl,rfl⟩
  ·exact wpAny_pyHash_int h
  ·exact wpAny_pyHash_str h
 eqBool:=fun hu hv h=>by
  rcases z1u hu with ⟨i,t,rfl,rfl⟩|⟨x,t,rfl,rfl⟩
  ·rcases z1u hv with ⟨j,u,rfl,rfl⟩|⟨y,u,rfl,rfl⟩
   ·rw[y8F] at h;exact wpAny_eqBool_int h
   ·rw[y8y] at h;exact SeqAt.EqAt.int_str i t y u _ _ _ _ h
  ·rcases z1u hv with ⟨j,u,rfl,rfl⟩|⟨y,u,rfl,rfl⟩
   ·rw[y8s] at h;exact SeqAt.EqAt.str_int x t j u _ _ _ _ h
   ·rw[y8t] at h;exact wpAny_eqBool_str h
 «strs»:=fun k x t v h=>by
  rcases z1u h with ⟨i,u,rfl,e⟩|⟨y,u,rfl,e⟩
  ·exact nomatch e
  ·injection e with e1 _
   subst e1
   cases v<;>rfl
theorem y1T(prog:Program)(w:World)(i:Int)(t:Tok):(z1H prog w).is (.inl i) (.int i t)=true:=y4y i t
theorem y1B(prog:Program)(w:World)(x:Str)(t:Tok):(z1H prog w).is (.inr x) (.str x t)=true:=y4O x t
inductive V where
 | non|bl (b:Bool)|int (i:Int)|str (x:Str)|byt (b:Array UInt8)|flt (b:UInt64)|ref (a:Addr)|ty (n:String)
 deriving DecidableEq
def RelV:V->Value->Prop
 | .non,u=>u=Value.none
 | .bl b,u=>u=Value.bool b
 | .int i,u=>∃t,u=Value.int i t
 | .str x,u=>∃t,u=Value.str x t
 | .byt b,u=>∃t,u=Value.bytes b t
 | .flt b,u=>∃t,u=Value.float b t
 | .ref a,u=>u=Value.ref a
 | .ty n,u=>u=Value.type n
abbrev Vals:List V->List Value->Prop:=Paired RelV
theorem Vals.length{xs:List V}{us:List Value}(r:Vals xs us):xs.length=us.length:=Paired.length r
theorem Vals.get:∀{xs:List V}{us:List Value}{i:Nat}{x:V},Vals xs us->xs[i]? = some x->∃u,us[i]? = some u/\RelV x u
 | _,_,_,_,.nil,e=>by simp at e
 | _,_,0,_,.cons r _,e=>by simp at e;subst e;exact⟨_,rfl,r⟩
 | _,_,i+1,x,.cons _ t,e=>by
  obtain⟨u,h1,h2⟩:=Vals.get (i:=i) (x:=x) t (by simpa using e)
  exact⟨u,by simpa using h1,h2⟩
theorem Vals.append:∀{xs ys:List V}{us ws:List Value},Vals xs us->Vals ys ws->Vals (xs++ys) (us++ws)
 | _,_,_,_,.nil,s=>s
 | _,_,_,_,.cons r t,s=>.cons r (Vals.append t s)
theorem Vals.take:∀{xs:List V}{us:List Value} (n:Nat),Vals xs us->Vals (xs.take n) (us.take n)
 | _,_,0,_=>.nil
 | _,_,_+1,.nil=>.nil
 | _,_,n+1,.cons r t=>.cons r (Vals.take n t)
theorem Vals.drop:∀{xs:List V}{us:List Value} (n:Nat),Vals xs us->Vals (xs.drop n) (us.drop n)
 | _,_,0,r=>r
 | _,_,_+1,.nil=>.nil
 | _,_,n+1,.cons _ t=>Vals.drop n t
noncomputable def P0:Option V->Option Value->Prop
 | some v,some u=>RelV v u
 | none,none=>True
 | _,_=>False
noncomputable def KV{κ:Type}:List (κ×V)->List (κ×Value)->Prop:=Paired fun(p:κ×V) (q:κ×Value)=>p.1=q.1/\RelV p.2 q.2
def kV:Key->V
 | .inl i=>.int i
 | .inr x=>.str x
inductive HO where
 /-- a list -/
 | lst (xs:List V)
 /-- a tuple (never changes) -/
 | tup (xs:List V)
 /-- a dict whose keys are ints and texts;one whose keys are tuples of ints and texts (the empty one is both) -/
 | dK (kvs:List (Key×V))|dT (kvs:List (List Key×V))
 /-- a set of ints: its members,its size -/
 | set (S:Int->Bool) (n:Nat)
 /-- an instance of the class at C,its dict at dx,its attributes -/
 | ins (C dx:Addr) (fs:List (Str×V))
 /-- the dict of the instance at x -/
 | own (x:Addr)
 /-- the dict of an exception -/
 | xd (fs:List (Str×V))
 /-- a bound method,f of x -/
 | met (f x:Addr)
 /-- a range object lo,lo+1,.. below hi -/
 | rng (lo hi:Int)
 /-- a thing that is known to the object (the script;a dict while a loop walks it): read,never written while it is so -/
 | frz (o:Obj) (u:HO)
 /-- a code object's table -/
 | tbl (ps:Array Value)
 /-- any other thing,by what is true of its one object (a def of one's own: SetO a S n:=HO.ext fun h=>..) -/
 | ext (φ:Heap->Prop)
abbrev Hp:=Addr->Option HO
noncomputable def upd(H:Hp)(a:Addr)(o:HO):Hp:=fun b=>if b=a then some o else H b
noncomputable def PlT(h:Heap)(a:Addr)(items:Array Value):Prop:=∃o,h.get? a=some o/\o.cls=.type "tuple"/\(∃n,o.data=.seq items n)/\o.dict=none
theorem PlT.tup{h:Heap}{a:Addr}{items:Array Value}(p:PlT h a items):IsTup h a items:=let ⟨o,e,c,d,_⟩:=p;⟨o,e,c,d⟩
theorem PlT.new(h:Heap)(items:Array Value):PlT (h.push { cls:=.type "tuple",data:=.seq items }) h.objs.size items:=⟨_,bK _ rfl,rfl,⟨_,rfl⟩,rfl⟩
theorem z03{H:Hp}{a:Addr}{o:HO}:upd H a o a=some o:=by unfold upd;rw[if_pos rfl]
theorem z0l{H:Hp}{a b:Addr}{o:HO}(h:b≠a):upd H a o b=H b:=by unfold upd;rw[if_neg h]
theorem z8V{H:Hp}{a:Addr}{o u:HO}:upd (upd H a o) a u=upd H a u:=by
 funext b;unfold upd;split<;>rfl
theorem z4x{H:Hp}{a b:Addr}{o u:HO}(h:H a=some o)(h':H b=some u)(d:o≠u):a≠b:=by
 intro e;subst e;rw[h] at h';exact d (Option.some.inj h')
theorem z0q{H:Hp}{a b:Addr}{o:HO}(h:H a=some o)(h':H b=none):a≠b:=by
 intro e;subst e;rw[h] at h';cases h'
section
variable(P:Program)(w:World)
noncomputable def z1L(H:Hp)(h:Heap)(a:Addr):HO->Prop
 | .lst xs=>xs.length≤sizeLine/\∃(its:List Value) (n:Nat),Vals xs its/\h.get? a=some { cls:=.type "list",data:=.seq its.toArray n }
 | .tup xs=>xs.length≤sizeLine/\∃its:List Value,Vals xs its/\PlT h a its.toArray
 | .dK kvs=>kvs.length≤sizeLine/\(a == sysModules)=false/\∃vs,KV kvs vs/\h.DictOf (z1H P w) a vs
 | .dT kvs=>kvs.length≤sizeLine/\(a == sysModules)=false/\∃xs:List (List Key×Addr×Value),
   Paired (fun(p:List Key×V) (q:List Key×Addr×Value)=>p.1=q.1/\H q.2.1=some (.tup (p.1.map kV))/\RelV p.2 q.2.2) kvs xs/\
   ∃o es ep,h.get? a=some o/\o.ExactDict/\o.data=.dict es ep/\es.toList=xs.map (entryOfKey (tupleKind (z1H P w)))/\(xs.map (·.1)).Nodup
 | .set S n=>h.SetOf (intKind P w) a S n
 | .ins C dx fs=>H dx=some (.own a)/\fs.length≤1000/\dx≠a/\h.get? a=some (PySem.W.instObj C dx)/\
   ∃mA,h.Ns1 dx mA/\(∀f,P0 (fs.lookup f) (mA f))/\PySem.Within mA (fs.map (·.1))
 | .own _=>∃o,h.get? a=some o
 | .xd fs=>∃mA,h.Ns1 a mA/\∀f,P0 (fs.lookup f) (mA f)
 | .rng lo hi=>∃t u v,h.get? a=some { cls:=.type "range",data:=.fields #[.int lo t,.int hi u,.int 1 v] }
 | .frz o u=>h.get? a=some o/\z1L H h a u
 | .tbl ps=>h.get? a=some { cls:=.none,data:=.fields ps }
 | .met f x=>h.get? a=some (PySem.W.methodObj (.ref f) (.ref x))
 | .ext φ=>φ h/\(∃o,h.get? a=some o)/\∀h1 h2:Heap,φ h1->(∀o,h1.get? a=some o->h2.get? a=some o)->φ h2
noncomputable def HOk(H:Hp)(h:Heap):Prop:=∀a o,H a=some o->z1L P w H h a o
end
section
variable{P:Program}{w:World}{H H':Hp}{h h':Heap}{a:Addr}{o:HO}
theorem z1L.lt(x:z1L P w H h a o):a<h.objs.size:=by
 cases o with
 | lst xs=>obtain⟨_,_,_,_,e⟩:=x;exact bQ e
 | tup xs=>obtain⟨_,_,_,o,e,_⟩:=x;exact bQ e
 | dK kvs=>obtain⟨_,_,_,_,o,_,_,e,_⟩:=x;exact bQ e
 | dT kvs=>obtain⟨_,_,_,_,o,_,_,e,_⟩:=x;exact bQ e
 | set S n=>obtain⟨o,_,_,_,e,_⟩:=x;exact bQ e
 | ins C dx fs=>obtain⟨_,_,_,e,_⟩:=x;exact bQ e
 | own y=>obtain⟨_,e⟩:=x;exact bQ e
 | xd fs=>obtain⟨_,⟨_,_,_,e,_⟩,_⟩:=x;exact bQ e
 | rng lo hi=>obtain⟨_,_,_,e⟩:=x;exact bQ e
 | frz ob u=>obtain⟨e,_⟩:=x;exact bQ e
 | tbl ps=>exact bQ (show h.get? a=some _ from x)
 | met f y=>exact bQ (show h.get? a=some _ from x)
 | ext φ=>obtain⟨_,⟨_,e⟩,_⟩:=x;exact bQ e
theorem Paired.T8{α β:Type}{F G:α->β->Prop}:∀{l₁:List α}{l₂:List β},Paired F l₁ l₂->(∀a b,F a b->G a b)->Paired G l₁ l₂
 | _,_,.nil,_=>.nil
 | _,_,.cons r t,f=>.cons (f _ _ r) (Paired.T8 t f)
theorem z1L.U9(x:z1L P w H h a o)(k:∀b u,(b=a\/H b=some (.own a))->h.get? b=some u->h'.get? b=some u)
  (ho:∀b,H b=some (.own a)->H' b=some (.own a)) (ht:∀b xs,H b=some (.tup xs)->H' b=some (.tup xs)):z1L P w H' h' a o:=by
 induction o with
 | lst xs=>obtain⟨z,its,n,r,e⟩:=x;exact⟨z,its,n,r,k _ _ (.inl rfl) e⟩
 | tup xs=>obtain⟨z,its,r,ob,e,c⟩:=x;exact⟨z,its,r,ob,k _ _ (.inl rfl) e,c⟩
 | dK kvs=>obtain⟨z,y,vs,r,ob,es,ep,e,c⟩:=x;exact⟨z,y,vs,r,ob,es,ep,k _ _ (.inl rfl) e,c⟩
 | dT kvs=>
  obtain⟨z,y,xs,r,ob,es,ep,e,c⟩:=x
  exact⟨z,y,xs,Paired.T8 r fun p q z=>⟨z.1,ht _ _ z.2.1,z.2.2⟩,ob,es,ep,k _ _ (.inl rfl) e,c⟩
 | set S n=>obtain⟨ob,es,ep,t,e,c⟩:=x;exact⟨ob,es,ep,t,k _ _ (.inl rfl) e,c⟩
 | ins C dx fs=>
  obtain⟨d,z,ne,e,mA,⟨od,es,ep,e2,c⟩,r⟩:=x
  exact⟨ho _ d,z,ne,k _ _ (.inl rfl) e,mA,⟨od,es,ep,k _ _ (.inr d) e2,c⟩,r⟩
 | own y=>obtain⟨ob,e⟩:=x;exact⟨ob,k _ _ (.inl rfl) e⟩
 | xd fs=>obtain⟨mA,⟨od,es,ep,e,c⟩,r⟩:=x;exact⟨mA,⟨od,es,ep,k _ _ (.inl rfl) e,c⟩,r⟩
 | rng lo hi=>obtain⟨t,u,v,e⟩:=x;exact⟨t,u,v,k _ _ (.inl rfl) e⟩
 | frz ob u ih=>obtain⟨e,q⟩:=x;exact⟨k _ _ (.inl rfl) e,ih q⟩
 | tbl ps=>
  have e:h.get? a=some { cls:=.none,data:=.fields ps }:=x
  show h'.get? a=some { cls:=.none,data:=.fields ps }
  exact k a _ (.inl rfl) e
 | met f y=>
  have e:h.get? a=some (PySem.W.methodObj (.ref f) (.ref y)):=x
  show h'.get? a=some (PySem.W.methodObj (.ref f) (.ref y))
  exact k a _ (.inl rfl) e
 | ext φ=>obtain⟨p,⟨o,e⟩,st⟩:=x;exact⟨st _ _ p fun o q=>k _ _ (.inl rfl) q,⟨o,k _ _ (.inl rfl) e⟩,st⟩
theorem HOk.lt(x:HOk P w H h)(e:H a=some o):a<h.objs.size:=(x a o e).lt
theorem HOk.fresh(x:HOk P w H h)(e:h.objs.size≤a):H a=none:=by
 cases q:H a with
 | none=>rfl
 | some u=>exact absurd (cT (x.lt q) e) (dQ _)
theorem HOk.kept(x:HOk P w H h)(k:∀b u,h.get? b=some u->h'.get? b=some u):HOk P w H h':=fun a o e=>
 (x a o e).U9 (fun b u _ q=>k b u q) (fun _ q=>q) fun _ _ q=>q
theorem HOk.laid(x:HOk P w H h)(k:∀b u,h.get? b=some u->h'.get? b=some u)(hp:h.objs.size≤a)(new:z1L P w (upd H a o) h' a o):HOk P w (upd H a o) h':=fun b u e=>by
 have hn:=x.fresh hp
 by_cases hb:b=a
 ·subst hb;rw[z03] at e;cases e;exact new
 ·rw[z0l hb] at e
  exact(x b u e).U9 (fun c v _ q=>k c v q) (fun c q=>by rw[z0l (z0q q hn)];exact q) fun c xs q=>by rw[z0l (z0q q hn)];exact q
end
noncomputable def Rd(H:Hp)(a:Addr)(u:HO):Prop:=H a=some u\/∃o,H a=some (.frz o u)
theorem Rd.ok{P:Program}{w:World}{H:Hp}{h:Heap}{a:Addr}{u:HO}(r:Rd H a u)(x:HOk P w H h):z1L P w H h a u:=by
 rcases r with r|⟨o,r⟩
 ·exact x a u r
 ·obtain⟨_,q⟩:=x a _ r
  exact q
noncomputable def Mut:Option HO->Prop
 | some (.lst _)=>True
 | some (.dK _)=>True
 | some (.dT _)=>True
 | some (.set _ _)=>True
 | some (.ins _ _ _)=>True
 | some (.ext _)=>True
 | _=>False
section
variable{P:Program}{w:World}{H:Hp}{h h':Heap}{x e:Addr}{o':HO}
theorem HOk.write(ok:HOk P w H h)(mu:Mut (H x))(he:e=x\/H e=some (.own x))(k:∀b u,b≠e->h.get? b=some u->h'.get? b=some u)(heo:∃u,h'.get? e=some u)
  (new:z1L P w (upd H x o') h' x o'):HOk P w (upd H x o') h':=fun b u q=>by
 have nown:∀c y,H c=some (.own y)->c≠x:=fun c y r z=>by subst z;rw[r] at mu;exact mu
 have ntup:∀c xs,H c=some (.tup xs)->c≠x:=fun c xs r z=>by subst z;rw[r] at mu;exact mu
 by_cases hb:b=x
 ·subst hb;rw[z03] at q;cases q;exact new
 ·rw[z0l hb] at q
  by_cases hbe:b=e
  ·have q':H b=some (.own x):=by
    rcases he with z|z
    ·exact absurd (hbe.trans z) hb
    ·rw[hbe];exact z
   rw[q] at q';cases q'
   obtain⟨v,hv⟩:=heo
   exact⟨v,by rw[hbe];exact hv⟩
  ·refine(ok b u q).U9 (fun c v hc r=>k c v ?_ r) (fun c r=>by rw[z0l (nown c b r)];exact r) fun c xs r=>by rw[z0l (ntup c xs r)];exact r
   rcases hc with rfl|hc
   ·exact hbe
   ·rintro rfl
    rcases he with z|z
    ·exact nown c b hc z
    ·rw[hc] at z;cases z;exact hb rfl
end
structure Un(fs ex:List Addr)(H H':Hp)(h h':Heap):Prop where
 keep:∀b o,h.get? b=some o->H b=none->b∉fs->b∉ex->h'.get? b=some o
 slot:∀b o,h.get? b=some o->H b=none->b∈fs->b∉ex->∃sl,h'.get? b=some { o with slots:=sl }
 free:∀b o,h.get? b=some o->H b=none->b∉ex->H' b=none
 there:∀b o,h.get? b=some o->b∉ex->∃o',h'.get? b=some o'
 V1:∀b xs,H b=some (.tup xs)->H' b=some (.tup xs)
 T7:∀b o u,H b=some (.frz o u)->H' b=some (.frz o u)
 V4:∀b ps,H b=some (.tbl ps)->∃more,H' b=some (.tbl (ps++more))
section
variable{fs fs' ex ex':List Addr}{H H1 H2:Hp}{h h1 h2 h':Heap}{a x e:Addr}{o:HO}
theorem Un.any(u:Un fs ex H H1 h h1){b:Addr}{ob:Obj}(q:h.get? b=some ob)(n:H b=none)(hx:b∉ex):∃sl,h1.get? b=some { ob with slots:=sl }:=by
 by_cases hb:b∈fs
 ·exact u.slot b ob q n hb hx
 ·exact⟨ob.slots,u.keep b ob q n hb hx⟩
theorem Un.kept(k:∀b u,h.get? b=some u->h'.get? b=some u):Un fs ex H H h h':=
 ⟨fun b ob q _ _ _=>k b ob q,fun b ob q _ _ _=>⟨ob.slots,k b ob q⟩,fun _ _ _ n _=>n,fun b ob q _=>⟨ob,k b ob q⟩,fun _ _ q=>q,fun _ _ _ q=>q,fun _ ps q=>⟨#[],by rw[q];simp⟩⟩
theorem Un.refl:Un fs ex H H h h:=Un.kept fun _ _ q=>q
theorem Un.laid(k:∀b u,h.get? b=some u->h'.get? b=some u)(hp:h.objs.size≤a)(hn:H a=none):Un fs ex H (upd H a o) h h' where
 keep:=fun b u q _ _ _=>k b u q
 slot:=fun b u q _ _ _=>⟨u.slots,k b u q⟩
 free:=fun b u q n _=>by rw[z0l (cL (cT (bQ q) hp))];exact n
 there:=fun b u q _=>⟨u,k b u q⟩
 V1:=fun b xs q=>by rw[z0l (z0q q hn)];exact q
 T7:=fun b u xs q=>by rw[z0l (z0q q hn)];exact q
 V4:=fun b ps q=>⟨#[],by rw[z0l (z0q q hn),q];simp⟩
theorem Un.write(mu:Mut (H x))(he:e=x\/H e=some (.own x))(k:∀b u,b≠e->h.get? b=some u->h'.get? b=some u)(heo:∃u,h'.get? e=some u):Un fs ex H (upd H x o) h h':=by
 have hx:∀b,H b=none->b≠x:=fun b n z=>by subst z;rw[n] at mu;exact mu
 have hb:∀b,H b=none->b≠e:=fun b n z=>by
  subst z
  rcases he with r|r
  ·exact hx b n r
  ·rw[n] at r;cases r
 have hm:∀b u,H b=some u->¬Mut (some u)->b≠x:=fun b u q nm z=>by subst z;rw[q] at mu;exact nm mu
 refine⟨fun b u q n _ _=>k b u (hb b n) q,fun b u q n _ _=>⟨u.slots,k b u (hb b n) q⟩,fun b u q n _=>by rw[z0l (hx b n)];exact n,fun b u q _=>?_,
  fun b xs q=>by rw[z0l (hm b _ q fun z=>z)];exact q,fun b u xs q=>by rw[z0l (hm b _ q fun z=>z)];exact q,fun b ps q=>⟨#[],by rw[z0l (hm b _ q fun z=>z),q];simp⟩⟩
 by_cases hbe:b=e
 ·subst hbe;exact heo
 ·exact⟨u,k b u hbe q⟩
end
noncomputable def trk(h:Heap)(H:Hp):List Addr:=(List.range h.objs.size).filter fun a=>(H a).isSome
noncomputable def T4(h:Heap)(H:Hp):Heap:=PySem.W.hideAll h (trk h H)
theorem y3O(h:Heap)(H:Hp):(T4 h H).objs.size=h.objs.size:=PySem.W.hideAll_size _ _
theorem y5F{h:Heap}{H:Hp}{b:Addr}{o:Obj}(e:h.get? b=some o)(n:H b=none):(T4 h H).get? b=some o:=
 PySem.W.hideAll_get _ e fun hm=>by
  have q:(H b).isSome=true:=(cO.mp hm).2
  rw[n] at q;simp at q
theorem y7D{h:Heap}{H:Hp}{b:Addr}{o:Obj}(e:(T4 h H).get? b=some o):h.get? b=some o/\H b=none:=by
 have e':h.get? b=some o:=PySem.W.of_hideAll (trk h H) e
 refine⟨e',?_⟩
 cases q:H b with
 | none=>rfl
 | some x=>
  have hm:b∈trk h H:=cO.mpr ⟨fQ.mpr (bQ e'),by simp[q]⟩
  have z:(T4 h H).get? b=none:=PySem.W.hideAll_none (trk h H) hm
  rw[z] at e;cases e
noncomputable def y8b(g h:Heap)(L:Addr):List (Addr×Obj):=(List.range h.objs.size).filterMap fun a=>if a=L\/(g.get? a).isSome=true then none else (h.get? a).map fun o=>(a,o)
noncomputable def rest(g h:Heap)(L d:Addr):List (Addr×Obj):=(y8b g h L).filter fun p=>decide (p.1≠d)
structure Mod(K:PySem.W.Frag)(mg:Str->Option Value)(base:Heap):Prop where
 kin:K.In base
 glob:base.Ns mainGlobals mg
 blt:∃mb,base.Ns builtinsNs mb/\∀x:Str,x≠"__name__"->mb x=bootBuiltins x
 nolimit:base.NoLimit
structure Cx where
 prog:Program
 w:World
 K:PySem.W.Frag
 mg:Str->Option Value
 base:Heap
 A:Around
 N:List Str
 s₀:Shared
 H₀:Hp
 env:Env
 outer:List Env
 stack:List Env
 ex:List Addr
 fn:Str->Bool
 calm:Bool
 pn:List (Addr×Obj)
 xe:Value->Shared->Prop
def frs(l:List Env):List Addr:=l.filterMap (·.frame)
abbrev Cx.fs(X:Cx):List Addr:=frs X.outer
noncomputable def Vis(sc:Scope)(x:Str):Prop:=sc.names.lookup x=some .local\/sc.names.lookup x=some .cell\/sc.names.lookup x=some .free
noncomputable def Loc(sc:Scope)(x:Str):Prop:=sc.names.lookup x=some .local\/sc.names.lookup x=some .cell
noncomputable def Look(env:Env)(h:Heap)(m:Str->Option Value)(x:Str)(u:Value):Prop:=
 (env.kindOf x=some .local/\m x=some u)\/((env.kindOf x=some .cell\/env.kindOf x=some .free)/\∃c,env.cells.lookup x=some c/\h.IsCell c (some u))
structure Cx.Ok(X:Cx):Prop where
 mod:Mod X.K X.mg X.base
 kind:X.env.scope.kind=.function
 glob:X.env.globals=mainGlobals
 blt:X.env.builtins=builtinsNs
 above:X.s₀.heap.objs.size≤X.env.locals
 inj:∀x y c,X.env.cells.lookup x=some c->X.env.cells.lookup y=some c->x=y
 has:∀x,(X.env.kindOf x=some .cell\/X.env.kindOf x=some .free)->∃c,X.env.cells.lookup x=some c
 cab:∀x c,X.fn x=true->X.env.cells.lookup x=some c->X.s₀.heap.objs.size≤c
 hd:X.calm=true->X.A.handled=none
 frames:X.A.frames=some X.stack
 stk:X.stack=X.outer\/(X.stack=X.env::X.outer/\X.env.frame=some X.env.locals)
 exf:∀b∈X.ex,b≠X.env.locals/\∀x c,X.env.cells.lookup x=some c->c≠b
 bs:∀b o,X.base.get? b=some o->X.s₀.heap.get? b=some o/\X.H₀ b=none
 bsz:X.base.objs.size≤X.s₀.heap.objs.size
 noex:∀b o,X.base.get? b=some o->b∉X.ex
 exfs:∀b∈X.ex,b∉X.fs
 R7:X.s₀.heap.FunFrames X.base X.outer
 frf:∀b∈X.fs,X.H₀ b=none
structure Inv(X:Cx)(pins:List (Addr×Obj))(σ:List (Option V))(H:Hp)(s:Shared):Prop where
 ok:X.Ok
 os:s.os=X.s₀.os
 bare:AllBare s.gens
 base:Un X.fs X.ex X.H₀ H X.s₀.heap s.heap
 loc:∃m,s.heap.Ns X.env.locals m/\∀(i:Nat) (x:Str) (v:V),X.N[i]? = some x->σ[i]? = some (some v)->Vis X.env.scope x->∃u,RelV v u/\Look X.env s.heap m x u
 cell:∀x c,X.env.cells.lookup x=some c->∃v,s.heap.IsCell c v
 free:H X.env.locals=none
 freeC:∀x c,X.env.cells.lookup x=some c->H c=none
 pin:∀p∈X.pn++pins,s.heap.get? p.1=some p.2/\H p.1=none/\p.1≠X.env.locals/\p.1∉X.fs/\∀v,p.2.data≠.cell v
 hok:HOk X.prog X.w H s.heap
 len:σ.length=X.N.length
section
variable{X:Cx}{pins:List (Addr×Obj)}{σ:List (Option V)}{H H':Hp}{s:Shared}{h':Heap}
theorem Cx.Ok.nofr(ok:X.Ok){b:Addr}{o:Obj}(e:X.base.get? b=some o):b∉X.fs:=fun hb=>by
 have:=(ok.R7.mem hb).1
 rw[e] at this;cases this
theorem Inv.bs(I:Inv X pins σ H s):∀b o,X.base.get? b=some o->s.heap.get? b=some o/\H b=none:=fun b o e=>
 ⟨I.base.keep b o (I.ok.bs b o e).1 (I.ok.bs b o e).2 (I.ok.nofr e) (I.ok.noex b o e),I.base.free b o (I.ok.bs b o e).1 (I.ok.bs b o e).2 (I.ok.noex b o e)⟩
theorem Inv.bk(I:Inv X pins σ H s):∀b o,X.base.get? b=some o->s.heap.get? b=some o:=fun b o e=>(I.bs b o e).1
theorem Inv.mod(I:Inv X pins σ H s):Mod X.K X.mg X.base:=I.ok.mod
theorem Inv.kIn(I:Inv X pins σ H s):X.K.In s.heap:=I.ok.mod.kin.keeps I.bk
theorem Inv.fr(I:Inv X pins σ H s):∃m,Fr X.base X.env.locals s.heap m:=
 let ⟨m,hn,_⟩:=I.loc
 ⟨m,hn,I.bk,cM I.ok.bsz I.ok.above⟩
theorem Inv.lt(I:Inv X pins σ H s):X.env.locals<s.heap.objs.size:=let ⟨_,hn,_⟩:=I.loc;hn.lt
theorem Inv.sz(I:Inv X pins σ H s):X.s₀.heap.objs.size≤s.heap.objs.size:=cM I.ok.above (dR I.lt)
theorem Inv.nofs(I:Inv X pins σ H s){a:Addr}(h:s.heap.objs.size≤a):a∉X.fs:=fun hb=>by
 obtain⟨_,o,ho,_⟩:=I.ok.R7.mem hb
 exact absurd (cT (bQ ho) (cM I.sz h)) (dQ _)
theorem Inv.cne(I:Inv X pins σ H s):∀x c,X.env.cells.lookup x=some c->c≠X.env.locals:=fun x c e z=>by
 obtain⟨v,o,ho,hd⟩:=I.cell x c e
 obtain⟨m,⟨o',es,ep,ho',hd',_⟩,_⟩:=I.loc
 rw[z,ho'] at ho;cases ho;rw[hd'] at hd;cases hd
theorem Inv.R7(I:Inv X pins σ H s):s.heap.FunFrames X.base X.outer:=by
 have all:∀(l:List Env),(∀b∈frs l,b∈X.fs)->X.s₀.heap.FunFrames X.base l->s.heap.FunFrames X.base l:=by
  intro l
  induction l with
  | nil=>intro _ _;trivial
  | cons env r ih=>
   intro hs hl
   obtain⟨hk,⟨L,o,hf,hn,ho,hd⟩,hr⟩:=hl
   have hL:L∈X.fs:=hs L (by unfold frs;rw[fX,hf];exact cI)
   obtain⟨sl,e⟩:=I.base.slot L o ho (I.ok.frf L hL) hL fun z=>I.ok.exfs L z hL
   exact⟨hk,⟨L,_,hf,hn,e,hd⟩,ih (fun b hb=>hs b (by unfold frs;rw[fX,hf];exact cG _ hb)) hr⟩
 exact all X.outer (fun _ hb=>hb) I.ok.R7
theorem Inv.stack(I:Inv X pins σ H s):s.heap.FunFrames X.base X.stack:=by
 rcases I.ok.stk with e|⟨e,hf⟩
 ·rw[e];exact I.R7
 ·rw[e]
  obtain⟨m,hn,_⟩:=I.loc
  refine .cons (by rw[I.ok.kind];decide) hf hn ?_ I.R7
  exact Heap.get?_none_of_le (cM I.ok.bsz I.ok.above)
theorem Inv.R9(I:Inv X pins σ H s):∀b∈frs X.stack,b∈X.env.locals::X.fs:=fun b hb=>by
 rcases I.ok.stk with e|⟨e,hf⟩
 ·rw[e] at hb;exact cG _ hb
 ·rw[e] at hb
  unfold frs at hb
  rw[fX,hf] at hb
  exact hb
theorem Inv.X2(I:Inv X pins σ H s):∀b∈frs X.stack,H b=none:=fun b hb=>by
 rcases bF.mp (I.R9 b hb) with e|hb
 ·rw[e];exact I.free
 ·obtain⟨_,o,ho,_⟩:=I.ok.R7.mem hb
  exact I.base.free b o ho (I.ok.frf b hb) fun z=>I.ok.exfs b z hb
theorem Inv.step{g':Array GenState}{t':Nat}{d':Drawn}{ch:List Addr}(I:Inv X pins σ H s)
  (hch:∀b∈ch,(b∈X.ex\/X.s₀.heap.objs.size≤b)/\b≠X.env.locals/\(∀x c,X.env.cells.lookup x=some c->c≠b)/\∀p∈X.pn++pins,p.1≠b)
  (keep:∀b o,b≠X.env.locals->b∉X.fs->b∉ch->s.heap.get? b=some o->H b=none->h'.get? b=some o)
  (slot:∀b o,b≠X.env.locals->b∈X.fs->b∉ch->s.heap.get? b=some o->H b=none->∃sl,h'.get? b=some { o with slots:=sl }) (free:∀b o,b∉ch->s.heap.get? b=some o->H b=none->H' b=none)
  (there:∀b o,b∉ch->s.heap.get? b=some o->∃o',h'.get? b=some o')
  (V1:∀b xs,H b=some (.tup xs)->H' b=some (.tup xs)) (T7:∀b o u,H b=some (.frz o u)->H' b=some (.frz o u)) (V4:∀b ps,H b=some (.tbl ps)->∃more,H' b=some (.tbl (ps++more)))
  (ns:∀m,s.heap.Ns X.env.locals m->h'.Ns X.env.locals m) (hok:HOk X.prog X.w H' h') (hg:AllBare g') :
  Inv X pins σ H' { s with heap:=h',gens:=g',drawn:=d',toks:=t' }:=by
 have neL:∀b o,X.s₀.heap.get? b=some o->b≠X.env.locals:=fun b o e=>cL (cT (bQ e) I.ok.above)
 have neC:∀b o,X.s₀.heap.get? b=some o->b∉X.ex->b∉ch:=fun b o e hx hb=>by
  rcases(hch b hb).1 with z|z
  ·exact hx z
  ·exact absurd (cT (bQ e) z) (dQ _)
 have cellK:∀x c,X.env.cells.lookup x=some c->∀v,s.heap.IsCell c v->h'.IsCell c v:=fun x c e v ⟨o,ho,hd⟩=>by
  have nch:c∉ch:=fun z=>(hch c z).2.2.1 x c e rfl
  by_cases hc:c∈X.fs
  ·obtain⟨sl,q⟩:=slot c o (I.cne x c e) hc nch ho (I.freeC x c e)
   exact⟨_,q,hd⟩
  ·exact⟨o,keep c o (I.cne x c e) hc nch ho (I.freeC x c e),hd⟩
 refine⟨I.ok,I.os,hg,⟨fun b o e n hb hx=>?_,fun b o e n hb hx=>?_,fun b o e n hx=>?_,fun b o e hx=>?_,fun b xs e=>V1 b xs (I.base.V1 b xs e),fun b o xs e=>T7 b o xs (I.base.T7 b o xs e),fun b ps e=>?_⟩,?_,fun x c e=>?_,?_,fun x c e=>?_,fun p hp=>?_,hok,I.len⟩
 ·exact keep b o (neL b o e) hb (neC b o e hx) (I.base.keep b o e n hb hx) (I.base.free b o e n hx)
 ·obtain⟨sl,e1⟩:=I.base.slot b o e n hb hx
  obtain⟨sl',e2⟩:=slot b _ (neL b o e) hb (neC b o e hx) e1 (I.base.free b o e n hx)
  exact⟨sl',e2⟩
 ·obtain⟨o',e1⟩:=I.base.there b o e hx
  exact free b o' (neC b o e hx) e1 (I.base.free b o e n hx)
 ·obtain⟨o',e1⟩:=I.base.there b o e hx
  exact there b o' (neC b o e hx) e1
 ·obtain⟨m1,e1⟩:=I.base.V4 b ps e
  obtain⟨m2,e2⟩:=V4 b _ e1
  exact⟨m1++m2,by rw[e2,Array.append_assoc]⟩
 ·obtain⟨m,hn,hl⟩:=I.loc
  refine⟨m,ns m hn,fun i x v e1 e2 e3=>?_⟩
  obtain⟨u,r,l⟩:=hl i x v e1 e2 e3
  refine⟨u,r,?_⟩
  rcases l with l|⟨k,c,e,z⟩
  ·exact .inl l
  ·exact .inr ⟨k,c,e,cellK x c e _ z⟩
 ·obtain⟨v,z⟩:=I.cell x c e
  exact⟨v,cellK x c e v z⟩
 ·obtain⟨m,⟨o,_,_,ho,_⟩,_⟩:=I.loc
  exact free _ o (fun z=>(hch _ z).2.1 rfl) ho I.free
 ·obtain⟨v,o,ho,hd⟩:=I.cell x c e
  exact free c o (fun z=>(hch c z).2.2.1 x c e rfl) ho (I.freeC x c e)
 ·obtain⟨e,n,ne,nf,d⟩:=I.pin p hp
  have nch:p.1∉ch:=fun z=>(hch p.1 z).2.2.2 p hp rfl
  exact⟨keep p.1 p.2 ne nf nch e n,free p.1 p.2 nch e n,ne,nf,d⟩
theorem Inv.un{t':Nat}(I:Inv X pins σ H s)(u:Un X.fs [] H H' s.heap h')(hok:HOk X.prog X.w H' h'):Inv X pins σ H' { s with heap:=h',toks:=t' }:=by
 obtain⟨m,⟨o,es,ep,ho,r⟩,_⟩:=id I.loc
 obtain⟨sl,hL⟩:=u.any ho I.free (by simp)
 exact I.step (g':=s.gens) (d':=s.drawn) (ch:=[]) (fun _ z=>nomatch z) (fun b o _ hb _ e n=>u.keep b o e n hb (by simp)) (fun b o _ hb _ e n=>u.slot b o e n hb (by simp)) (fun b o _ e n=>u.free b o e n (by simp)) (fun b o _ e=>u.there b o e (by simp)) u.V1 u.T7 u.V4 (fun m' hm=>by
  obtain⟨o',es',ep',ho',r'⟩:=hm
  rw[ho] at ho';cases ho'
  exact⟨_,es',ep',hL,r'⟩) hok I.bare
theorem Inv.call{g':Array GenState}{t':Nat}{d':Drawn}{ch:List Addr}(I:Inv X pins σ H s)(u:Un (frs X.stack) ch H H' s.heap h')(hok:HOk X.prog X.w H' h')(hg:AllBare g')
  (hch:∀b∈ch,(b∈X.ex\/X.s₀.heap.objs.size≤b)/\b≠X.env.locals/\(∀x c,X.env.cells.lookup x=some c->c≠b)/\∀p∈X.pn++pins,p.1≠b) :
  Inv X pins σ H' { s with heap:=h',gens:=g',drawn:=d',toks:=t' }:=by
 obtain⟨m,⟨o,es,ep,ho,r⟩,_⟩:=id I.loc
 obtain⟨sl,hL⟩:=u.any ho I.free fun z=>(hch _ z).2.1 rfl
 exact I.step (ch:=ch) hch (fun b o hL hb hc e n=>u.keep b o e n (fun z=>(bF.mp (I.R9 b z)).elim hL hb) hc) (fun b o _ _ hc e n=>u.any e n hc) (fun b o hc e n=>u.free b o e n hc) (fun b o hc e=>u.there b o e hc) u.V1 u.T7 u.V4 (fun m' hm=>by
  obtain⟨o',es',ep',ho',r'⟩:=hm
  rw[ho] at ho';cases ho'
  exact⟨_,es',ep',hL,r'⟩) hok hg
theorem Inv.turned{t':Nat}{it:Addr}(I:Inv X pins σ H s)(k:∀b o,b≠it->s.heap.get? b=some o->h'.get? b=some o)(hn:H it=none)(hL:it≠X.env.locals)
  (h1:it∈X.ex\/X.s₀.heap.objs.size≤it) (h2:∀x c,X.env.cells.lookup x=some c->c≠it) (h3:∀p∈X.pn++pins,p.1≠it):Inv X pins σ H { s with heap:=h',toks:=t' }:=by
 have nit:∀b u,H b=some u->b≠it:=fun b u e z=>by rw[z,hn] at e;cases e
 refine I.step (g':=s.gens) (d':=s.drawn) (ch:=[it]) (fun b hb=>?_) (fun b o _ _ hc e _=>k b o (fun z=>hc (by simp[z])) e) (fun b o _ _ hc e _=>⟨o.slots,k b o (fun z=>hc (by simp[z])) e⟩) (fun _ _ _ _ n=>n)
  (fun b o hc e=>⟨o,k b o (fun z=>hc (by simp[z])) e⟩) (fun _ _ e=>e) (fun _ _ _ e=>e) (fun b ps e=>⟨#[],by rw[e];simp⟩) (fun m hm=>?_) (fun b u e=>?_) I.bare
 ·have e:b=it:=by simpa using hb
  subst e
  exact⟨h1,hL,h2,h3⟩
 ·obtain⟨o,es,ep,ho,r⟩:=hm
  exact⟨o,es,ep,k _ o (dG hL) ho,r⟩
 ·refine(I.hok b u e).U9 (fun c v hc q=>k c v ?_ q) (fun _ q=>q) fun _ _ q=>q
  rcases hc with z|z
  ·rw[z];exact nit b u e
  ·exact nit c _ z
theorem Inv.tok(I:Inv X pins σ H s)(t:Nat):Inv X pins σ H { s with toks:=t }:=I.un (h':=s.heap) (t':=t) Un.refl I.hok
theorem Inv.kept{t':Nat}(I:Inv X pins σ H s)(k:∀b u,s.heap.get? b=some u->h'.get? b=some u):Inv X pins σ H { s with heap:=h',toks:=t' }:=I.un (Un.kept k) (I.hok.kept k)
theorem Inv.laid{a:Addr}{o:HO}{t':Nat}(I:Inv X pins σ H s)(k:∀b u,s.heap.get? b=some u->h'.get? b=some u)(hp:s.heap.objs.size≤a)(new:z1L X.prog X.w (upd H a o) h' a o) :
  Inv X pins σ (upd H a o) { s with heap:=h',toks:=t' }:=I.un (Un.laid k hp (I.hok.fresh hp)) (I.hok.laid k hp new)
theorem Inv.write{x e:Addr}{o:HO}{t':Nat}(I:Inv X pins σ H s)(mu:Mut (H x))(he:e=x\/H e=some (.own x))(k:∀b u,b≠e->s.heap.get? b=some u->h'.get? b=some u)(heo:∃u,h'.get? e=some u)
  (new:z1L X.prog X.w (upd H x o) h' x o):Inv X pins σ (upd H x o) { s with heap:=h',toks:=t' }:=I.un (Un.write mu he k heo) (I.hok.write mu he k heo new)
theorem Inv.weak{σ':List (Option V)}(I:Inv X pins σ H s)(hl:σ'.length=σ.length)(w:∀(i:Nat) v,σ'[i]? = some (some v)->σ[i]? = some (some v)):Inv X pins σ' H s:=
 ⟨I.ok,I.os,I.bare,I.base,let ⟨m,hn,hl'⟩:=I.loc;⟨m,hn,fun i x v e1 e2 e3=>hl' i x v e1 (w i v e2) e3⟩,I.cell,I.free,I.freeC,I.pin,I.hok,hl.trans I.len⟩
theorem Inv.Q1{pins':List (Addr×Obj)}(I:Inv X pins σ H s)(h:∀p∈pins',s.heap.get? p.1=some p.2/\H p.1=none/\p.1≠X.env.locals/\p.1∉X.fs/\∀v,p.2.data≠.cell v):Inv X pins' σ H s:=
 ⟨I.ok,I.os,I.bare,I.base,I.loc,I.cell,I.free,I.freeC,fun p hp=>(cH.mp hp).elim (fun z=>I.pin p (d7 _ z)) (h p),I.hok,I.len⟩
theorem y2B{N:List Str}(hN:N.Nodup){i j:Nat}{x:Str}(a:N[i]? = some x)(b:N[j]? = some x):i=j:=by
 obtain⟨h1,e1⟩:=bX.mp a
 obtain⟨h2,e2⟩:=bX.mp b
 exact(List.getElem_inj hN).mp (e1.trans e2.symm)
theorem y55{M:Model}{A:Around}{E:Value->Shared->Prop}{i:Nat}{x:Str}{v:V}{u:Value}{Q:Unit->Shared->Prop}(I:Inv X pins σ H s)(hN:X.N.Nodup)(hi:X.N[i]? = some x)(hx:Loc X.env.scope x)(r:RelV v u)
  (h:∀s',Inv X pins (σ.set i (some v)) H s'->(∃a,Heap.SameBut a s.heap s'.heap/\(a=X.env.locals\/X.env.cells.lookup x=some a))->Q () s') (hf:X.fn x=true\/X.env.scope.names.lookup x=some .local:=by first|exact .inl rfl|exact .inr rfl|assumption):wpAny M A (storeName X.env x u) Q E s:=by
 obtain⟨m,hn,hl⟩:=id I.loc
 have hcls:(X.env.scope.kind == .class || (X.env.scope.kind == .module && X.env.locals != X.env.globals))=false:=by rw[I.ok.kind];rfl
 have hiσ:i<σ.length:=by rw[I.len];exact(bX.mp hi).1
 have cne:=I.cne
 have tracked:∀{a:Addr}{h':Heap},(∃o,s.heap.get? a=some o/\H a=none)->Heap.SameBut a s.heap h'->HOk X.prog X.w H h':=fun {a h'} ha hs b ob e=>by
  obtain⟨_,_,hfree⟩:=ha
  refine(I.hok b ob e).U9 (fun c w' hc q=>(hs.2 c ?_).trans q) (fun _ q=>q) fun _ _ q=>q
  rintro rfl
  rcases hc with rfl|hc
  ·rw[hfree] at e;cases e
  ·rw[hfree] at hc;cases hc
 rcases hx with hk|hk
 ·refine wpAny_storeName_local hk hn (fun h' hn' hs=>?_) hcls
  obtain⟨oL,_,_,hoL,_⟩:=id hn
  refine h _ ⟨I.ok,I.os,I.bare,⟨fun b o e n hb hx=>?_,fun b o e n hb hx=>?_,I.base.free,fun b o e hx=>?_,I.base.V1,I.base.T7,I.base.V4⟩,⟨_,hn',fun j y v' e1 e2 e3=>?_⟩,fun y c e=>?_,I.free,I.freeC,fun p hp=>?_,tracked ⟨oL,hoL,I.free⟩ hs,by simpa using I.len⟩ ⟨_,hs,.inl rfl⟩
  ·exact(hs.2 b (cL (cT (bQ e) I.ok.above))).trans (I.base.keep b o e n hb hx)
  ·obtain⟨sl,e1⟩:=I.base.slot b o e n hb hx
   exact⟨sl,(hs.2 b (cL (cT (bQ e) I.ok.above))).trans e1⟩
  ·obtain⟨o',e1⟩:=I.base.there b o e hx
   exact⟨o',(hs.2 b (cL (cT (bQ e) I.ok.above))).trans e1⟩
  ·by_cases hj:j=i
   ·subst hj
    rw[hi] at e1;cases e1
    rw[List.getElem?_set_self hiσ] at e2
    cases e2
    exact⟨u,r,.inl ⟨hk,by simp⟩⟩
   ·rw[jS (dG hj)] at e2
    obtain⟨u',r',q⟩:=hl j y v' e1 e2 e3
    refine⟨u',r',?_⟩
    rcases q with ⟨k,e⟩|⟨k,c,e,z⟩
    ·refine .inl ⟨k,?_⟩
     have:y≠x:=fun e=>hj (y2B hN e1 (e ▸ hi))
     simp[this,e]
    ·exact .inr ⟨k,c,e,z.sameBut hs (cne y c e)⟩
  ·obtain⟨w',z⟩:=I.cell y c e
   exact⟨w',z.sameBut hs (cne y c e)⟩
  ·obtain⟨e,n,ne,nf,d⟩:=I.pin p hp
   exact⟨(hs.2 p.1 ne).trans e,n,ne,nf,d⟩
 ·have hfn:X.fn x=true:=by
   rcases hf with z|z
   ·exact z
   ·rw[z] at hk;cases hk
  obtain⟨c,hc⟩:=I.ok.has x (.inl hk)
  obtain⟨w',z⟩:=I.cell x c hc
  refine wpAny_storeName_cell I.ok.kind hk hc z (fun h' hc' hs=>?_)
  obtain⟨oc,hoc,hocd⟩:=id z
  refine h { s with heap:=h' } ⟨I.ok,I.os,I.bare,⟨fun b o e n hb hx=>?_,fun b o e n hb hx=>?_,I.base.free,fun b o e hx=>?_,I.base.V1,I.base.T7,I.base.V4⟩,⟨m,hn.sameBut hs (dG (cne x c hc)),fun j y v' e1 e2 e3=>?_⟩,fun y c' e=>?_,I.free,I.freeC,fun p hp=>?_,tracked ⟨oc,hoc,I.freeC x c hc⟩ hs,by simpa using I.len⟩ ⟨c,hs,.inr hc⟩
  ·exact(hs.2 b (cL (cT (bQ e) (I.ok.cab x c hfn hc)))).trans (I.base.keep b o e n hb hx)
  ·obtain⟨sl,e1⟩:=I.base.slot b o e n hb hx
   exact⟨sl,(hs.2 b (cL (cT (bQ e) (I.ok.cab x c hfn hc)))).trans e1⟩
  ·obtain⟨o',e1⟩:=I.base.there b o e hx
   exact⟨o',(hs.2 b (cL (cT (bQ e) (I.ok.cab x c hfn hc)))).trans e1⟩
  ·by_cases hj:j=i
   ·subst hj
    rw[hi] at e1;cases e1
    rw[List.getElem?_set_self hiσ] at e2
    cases e2
    exact⟨u,r,.inr ⟨.inl hk,c,hc,hc'⟩⟩
   ·rw[jS (dG hj)] at e2
    obtain⟨u',r',q⟩:=hl j y v' e1 e2 e3
    refine⟨u',r',?_⟩
    rcases q with q|⟨k,c',e,z'⟩
    ·exact .inl q
    ·refine .inr ⟨k,c',e,z'.sameBut hs ?_⟩
     rintro rfl
     exact hj (y2B hN e1 (I.ok.inj _ _ _ e hc ▸ hi))
  ·by_cases hcc:c'=c
   ·subst hcc;exact⟨_,hc'⟩
   ·obtain⟨w2,z2⟩:=I.cell y c' e
    exact⟨w2,z2.sameBut hs hcc⟩
  ·obtain⟨e,n,ne,nf,d⟩:=I.pin p hp
   refine⟨(hs.2 p.1 ?_).trans e,n,ne,nf,d⟩
   intro q
   rw[q,hoc] at e
   have q':oc=p.2:=Option.some.inj e
   exact d w' (by rw[<- q'];exact hocd)
theorem y24{M:Model}{A:Around}{E:Value->Shared->Prop}{i:Nat}{x:Str}{v:V}{u:Value}{Q:Unit->Shared->Prop}(I:Inv X pins σ H s)(hN:X.N.Nodup)(hi:X.N[i]? = some x)(hx:Loc X.env.scope x)(r:RelV v u)
  (h:∀s',Inv X pins (σ.set i (some v)) H s'->Q () s') (hf:X.fn x=true\/X.env.scope.names.lookup x=some .local:=by first|exact .inl rfl|exact .inr rfl|assumption):wpAny M A (storeName X.env x u) Q E s:=
 y55 I hN hi hx r (fun s' I' _=>h s' I') hf
theorem Inv.w19{s':Shared}{ch:List Addr}(I:Inv X pins σ H s)(ho:s'.os=s.os)(u:Un (frs X.stack) ch H H' s.heap s'.heap)(hok:HOk X.prog X.w H' s'.heap)(hg:AllBare s'.gens)
  (hch:∀b∈ch,(b∈X.ex\/X.s₀.heap.objs.size≤b)/\b≠X.env.locals/\(∀x c,X.env.cells.lookup x=some c->c≠b)/\∀p∈X.pn++pins,p.1≠b):Inv X pins σ H' s':=by
 obtain⟨h',g',d',t',o'⟩:=s'
 have e:o'=s.os:=ho
 subst e
 exact I.call (g':=g') (t':=t') (d':=d') u hok hg hch
end
abbrev XK:=Value->Option Addr->Hp->Prop
abbrev St:=List (Option V)
abbrev VK:=V->Hp->Prop
abbrev TE:=St->Hp->VK->Prop
abbrev TT:=St->Hp->(Bool->Hp->Prop)->Prop
abbrev TA:=St->Hp->(List V->Hp->Prop)->Prop
structure Ends where
 nx:St->Hp->Prop
 rt:VK
 bk:St->Hp->Prop:=fun _ _=>False
 ct:St->Hp->Prop:=fun _ _=>False
abbrev TS:=Ends->St->Hp->Prop
noncomputable def EP(X:Cx)(pins:List (Addr×Obj))(σ:St)(Q:VK)(u:Value)(s':Shared):Prop:=∃v H',Inv X pins σ H' s'/\RelV v u/\Q v H'
noncomputable def TP(X:Cx)(pins:List (Addr×Obj))(σ:St)(Q:Bool->Hp->Prop)(b:Bool)(s':Shared):Prop:=∃H',Inv X pins σ H' s'/\Q b H'
noncomputable def AP(X:Cx)(pins:List (Addr×Obj))(σ:St)(Q:List V->Hp->Prop)(us:List Value)(s':Shared):Prop:=∃vs H',Inv X pins σ H' s'/\Vals vs us/\Q vs H'
noncomputable def SP(X:Cx)(pins:List (Addr×Obj))(D:Ends)(f:Flow)(s':Shared):Prop:=
 match f with
 | .next=>∃σ' H',Inv X pins σ' H' s'/\D.nx σ' H'
 | .brk=>∃σ' H',Inv X pins σ' H' s'/\D.bk σ' H'
 | .cont=>∃σ' H',Inv X pins σ' H' s'/\D.ct σ' H'
 | .ret u=>∃v σ' H',Inv X pins σ' H' s'/\RelV v u/\D.rt v H'
noncomputable def PE(X:Cx)(e:Expr)(t:TE):Prop:=
 ∀(pins:List (Addr×Obj)) (s:Shared) (σ:St) (H:Hp) (Q:VK),Inv X pins σ H s->t σ H Q->wpAny (model X.prog X.w) X.A (eval e X.env) (EP X pins σ Q) X.xe s
noncomputable def PT(X:Cx)(e:Expr)(t:TT):Prop:=
 ∀(pins:List (Addr×Obj)) (s:Shared) (σ:St) (H:Hp) (Q:Bool->Hp->Prop),Inv X pins σ H s->t σ H Q->wpAny (model X.prog X.w) X.A (isTrue e X.env (eval e X.env)) (TP X pins σ Q) X.xe s
noncomputable def PW(X:Cx)(e:Expr)(t:TT):Prop:=
 ∀(whole:Sem Value) (pins:List (Addr×Obj)) (s:Shared) (σ:St) (H:Hp) (Q:Bool->Hp->Prop),Inv X pins σ H s->t σ H Q->wpAny (model X.prog X.w) X.A (isTrue e X.env whole) (TP X pins σ Q) X.xe s
theorem PW.pt{X:Cx}{e:Expr}{t:TT}(h:PW X e t):PT X e t:=h _
noncomputable def PA(X:Cx)(es:List Expr)(t:TA):Prop:=
 ∀(pos:Pos) (pins:List (Addr×Obj)) (s:Shared) (σ:St) (H:Hp) (Q:List V->Hp->Prop),Inv X pins σ H s->t σ H Q->wpAny (model X.prog X.w) X.A (spliced (backTo pos (starEach es X.env))) (AP X pins σ Q) X.xe s
noncomputable def PS(X:Cx)(st:Stmt)(t:TS):Prop:=
 ∀(pins:List (Addr×Obj)) (s:Shared) (σ:St) (H:Hp) (D:Ends),Inv X pins σ H s->t D σ H->wpAny (model X.prog X.w) X.A (exec st X.env) (SP X pins D) X.xe s
noncomputable def PSs(X:Cx)(st:List Stmt)(t:TS):Prop:=
 ∀(pins:List (Addr×Obj)) (s:Shared) (σ:St) (H:Hp) (D:Ends),Inv X pins σ H s->t D σ H->wpAny (model X.prog X.w) X.A (execs st X.env) (SP X pins D) X.xe s
theorem thn{α:Type}{t:Sem α}{Q Q':α->Shared->Prop}{M:Model}{A:Around}{E:Value->Shared->Prop}{s:Shared}(h:wpAny M A t Q E s)(hQ:∀a s,Q a s->Q' a s):wpAny M A t Q' E s:=wpAny_mono h hQ fun _ _ x=>x
section
variable{X:Cx}
noncomputable def U4(i:Nat):TE:=fun σ H Q=>∃v,σ[i]? = some (some v)/\Q v H
noncomputable def tC(v:V):TE:=fun _ H Q=>Q v H
theorem y8Q{i:Nat}{x:Str}{pos:Pos}(hN:X.N[i]? = some x)(hv:Vis X.env.scope x)(hd:(x == ("__debug__":Str))=false:=by decide)(hcd:(x == ("__classdict__":Str))=false:=by decide):PE X (.Name x pos) (U4 i):=by
 intro pins s σ H Q I h
 obtain⟨v,e,h⟩:=h
 obtain⟨m,hn,hl⟩:=I.loc
 obtain⟨u,r,l⟩:=hl i x v hN e hv
 have fin:EP X pins σ Q u s:=⟨v,H,I,r,h⟩
 rcases l with ⟨hk,hm⟩|⟨hk,c,hc,X0⟩
 ·exact wpAny_Name (wpAny_loadName_local I.ok.kind hk hn hm fin) hd
 ·rcases hk with hk|hk
  ·exact wpAny_Name (wpAny_loadName_cell I.ok.kind hk hc X0 fin) hd
  ·exact wpAny_Name (wpAny_loadName_free I.ok.kind hk hc X0 fin hcd) hd
theorem z06{i j pos}:PE X (.Constant (.int i) j pos) (tC (.int i)):=fun _ _ _ H _ I h=>wpAny_Constant_int ⟨.int i,H,I.tok _,⟨_,rfl⟩,h⟩
theorem z1I{b j pos}:PE X (.Constant (.bool b) j pos) (tC (.bl b)):=fun _ _ _ H _ I h=>Constant_bool ⟨.bl b,H,I,rfl,h⟩
theorem z9F{j pos}:PE X (.Constant .none j pos) (tC .non):=fun _ _ _ H _ I h=>Constant_none ⟨.non,H,I,rfl,h⟩
theorem z2A{x j pos}:PE X (.Constant (.str x) j pos) (tC (.str x)):=fun _ _ _ H _ I h=>Calls.Constant_str ⟨.str x,H,I.tok _,⟨_,rfl⟩,h⟩
noncomputable def Gl(X:Cx)(x:Str):Prop:=X.env.kindOf x=some .globalImplicit
theorem y1H{E:Value->Shared->Prop}{pins:List (Addr×Obj)}{s:Shared}{σ:St}{H:Hp}{x:Str}{u:Value}{pos:Pos}{Q:Value->Shared->Prop}(I:Inv X pins σ H s)(hg:Gl X x)(hm:X.mg x=some u)(h:Q u s)
  (hd:(x == ("__debug__":Str))=false:=by decide):wpAny (model X.prog X.w) X.A (eval (.Name x pos) X.env) Q E s:=
 Calls.Name_function_global I.ok.kind hg (Calls.loadGlobal_global (by rw[I.ok.glob];exact I.mod.glob.keeps I.bk) hm h) hd
theorem z5l{E:Value->Shared->Prop}{pins:List (Addr×Obj)}{s:Shared}{σ:St}{H:Hp}{x:Str}{u:Value}{pos:Pos}{Q:Value->Shared->Prop}(I:Inv X pins σ H s)(hg:Gl X x)(hm:X.mg x=none)(hv:bootBuiltins x=some u)(h:Q u s)
  (hn:x≠"__name__":=by decide) (hd:(x == ("__debug__":Str))=false:=by decide):wpAny (model X.prog X.w) X.A (eval (.Name x pos) X.env) Q E s:=by
 obtain⟨mb,h1,h2⟩:=I.mod.blt
 exact Calls.Name_function_global I.ok.kind hg (Calls.loadGlobal_builtin (by rw[I.ok.glob];exact I.mod.glob.keeps I.bk) hm (by rw[I.ok.blt];exact h1.keeps I.bk) ((h2 x hn).trans hv) h) hd
theorem y4m{x:Str}{v:V}{u:Value}{pos:Pos}(hg:Gl X x)(hm:X.mg x=some u)(r:RelV v u)(hd:(x == ("__debug__":Str))=false:=by decide):PE X (.Name x pos) (tC v):=
 fun _ _ _ H _ I h=>y1H I hg hm ⟨v,H,I,r,h⟩ hd
theorem z1F{x:Str}{v:V}{u:Value}{pos:Pos}(hg:Gl X x)(hm:X.mg x=none)(hv:bootBuiltins x=some u)(r:RelV v u)(hn:x≠"__name__":=by decide)(hd:(x == ("__debug__":Str))=false:=by decide):PE X (.Name x pos) (tC v):=
 fun _ _ _ H _ I h=>z5l I hg hm hv ⟨v,H,I,r,h⟩ hn hd
variable{a b:Expr}{ta tb:TE}{pos:Pos}
noncomputable def PC(X:Cx)(op:CmpOp)(a b:Expr)(t:TE):Prop:=
 ∀(pins:List (Addr×Obj)) (s:Shared) (σ:St) (H:Hp) (Q:VK),Inv X pins σ H s->t σ H Q->
  wpAny (model X.prog X.w) X.A (eval a X.env) (fun v s₁=>wpAny (model X.prog X.w) X.A (eval b X.env) (fun u s₂=>wpAny (model X.prog X.w) X.A (compareOp op v u) (EP X pins σ Q) X.xe s₂) X.xe s₁) X.xe s
theorem y2C(b:Expr){op:CmpOp}(h:op≠.In)(h2:op≠.NotIn):behindInMarks op b=false:=by
 have e1:(op == CmpOp.In)=false:=by cases op<;>first|rfl|exact absurd rfl h
 have e2:(op == CmpOp.NotIn)=false:=by cases op<;>first|rfl|exact absurd rfl h2
 cases b<;>simp[behindInMarks,e1,e2]
noncomputable def w0m(ta:TE):TE:=fun σ H Q=>ta σ H fun x H1=>Q (.bl (decide (x=.non))) H1
noncomputable def w1G(ta:TE):TE:=fun σ H Q=>ta σ H fun x H1=>Q (.bl (!decide (x=.non))) H1
theorem RelV.U7{x:V}{v:Value}(r:RelV x v):(v == Value.none)=decide (x=.non):=by
 cases x with
 | non=>cases r;rfl
 | bl _=>cases r;rfl
 | int _=>obtain⟨t,rfl⟩:=r;rfl
 | str _=>obtain⟨t,rfl⟩:=r;rfl
 | byt _=>obtain⟨t,rfl⟩:=r;rfl
 | flt _=>obtain⟨t,rfl⟩:=r;rfl
 | ref _=>cases r;rfl
 | ty _=>cases r;rfl
theorem z8p{j pos'}(ha:PE X a ta):PC X .Is a (.Constant .none j pos') (w0m ta):=by
 intro pins s σ H Q I h
 refine thn (ha pins s σ H _ I h) fun v s1 hz=>?_
 obtain⟨x,H1,I1,r1,q1⟩:=hz
 exact Constant_none (is_none_gen ⟨.bl _,H1,I1,by rw[r1.U7];rfl,q1⟩)
theorem y7q{j pos'}(ha:PE X a ta):PC X .IsNot a (.Constant .none j pos') (w1G ta):=by
 intro pins s σ H Q I h
 refine thn (ha pins s σ H _ I h) fun v s1 hz=>?_
 obtain⟨x,H1,I1,r1,q1⟩:=hz
 exact Constant_none (isnot_none_gen ⟨.bl _,H1,I1,by rw[r1.U7];rfl,q1⟩)
noncomputable def tB(t:TE):TT:=fun σ H Q=>t σ H fun x H1=>∃c,x=.bl c/\Q c H1
theorem y4Y{op:CmpOp}{t:TE}(h:PC X op a b t)(h1:behindInMarks op b=false:=by first|exact y2C _ (by decide) (by decide)|rfl):PE X (.Compare a [op] [b] pos) t:=fun pins s σ H Q I hw=>wpAny_Compare1 (h pins s σ H Q I hw) h1
theorem z7J{op:CmpOp}{t:TE}(h:PC X op a b t)(h1:behindInMarks op b=false:=by first|exact y2C _ (by decide) (by decide)|rfl):PT X (.Compare a [op] [b] pos) (tB t):=by
 intro pins s σ H Q I hw
 refine wpAny_isTrue_Compare1 (thn (h pins s σ H _ I hw) fun v s1 h1=>thn h1 fun u s2 h2=>thn h2 fun c s3 hz=>?_) h1
 obtain⟨x,H1,I1,r1,q1⟩:=hz
 obtain⟨d,rfl,q⟩:=q1
 cases r1
 exact wpAny_truthy_bool ⟨H1,I1,q⟩
theorem z1N{e:Expr}{t:TE}(h:PE X e t)(he:∀whole,isTrue e X.env whole=(do let v <- whole;standAt e.pos;holding [v] (truthy v)):=by intro _;rfl):PT X e (tB t):=by
 intro pins s σ H Q I hw
 refine isTrue_plain (thn (h pins s σ H _ I hw) fun v s1 hz=>?_) (he _)
 obtain⟨x,H1,I1,r1,q1⟩:=hz
 obtain⟨d,rfl,q⟩:=q1
 cases r1
 exact wpAny_truthy_bool ⟨H1,I1,q⟩
variable{tA tB':TT}{rest:List Expr}
noncomputable def tAnd(t u:TT):TT:=fun σ H Q=>t σ H fun c H1=>if c=true then u σ H1 Q else Q false H1
noncomputable def tOr(t u:TT):TT:=fun σ H Q=>t σ H fun c H1=>if c=true then Q true H1 else u σ H1 Q
noncomputable def tNot(t:TT):TT:=fun σ H Q=>t σ H fun c H1=>Q (!c) H1
theorem z2m(ha:PT X a tA):PW X (.BoolOp .And [a] pos) tA:=by
 intro wh pins s σ H Q I h
 refine isTrue_and (thn (ha pins s σ H Q I h) fun c s1 e=>?_)
 cases c with
 | true=>exact isTrue_and_nil e
 | false=>exact e
theorem z24(ha:PT X a tA):PW X (.BoolOp .Or [a] pos) tA:=by
 intro wh pins s σ H Q I h
 refine isTrue_or (thn (ha pins s σ H Q I h) fun c s1 e=>?_)
 cases c with
 | false=>exact isTrue_or_nil e
 | true=>exact e
theorem z37(ha:PT X a tA)(hb:PW X (.BoolOp .And (b::rest) pos) tB'):PW X (.BoolOp .And (a::b::rest) pos) (tAnd tA tB'):=by
 intro wh pins s σ H Q I h
 refine isTrue_and (thn (ha pins s σ H _ I h) fun c s1 hz=>?_)
 obtain⟨H1,I1,q1⟩:=hz
 cases c with
 | true=>exact hb wh pins s1 σ H1 Q I1 q1
 | false=>exact⟨H1,I1,q1⟩
theorem z38(ha:PT X a tA)(hb:PW X (.BoolOp .Or (b::rest) pos) tB'):PW X (.BoolOp .Or (a::b::rest) pos) (tOr tA tB'):=by
 intro wh pins s σ H Q I h
 refine isTrue_or (thn (ha pins s σ H _ I h) fun c s1 hz=>?_)
 obtain⟨H1,I1,q1⟩:=hz
 cases c with
 | true=>exact⟨H1,I1,q1⟩
 | false=>exact hb wh pins s1 σ H1 Q I1 q1
theorem z1V(ha:PT X a tA):PT X (.UnaryOp .Not a pos) (tNot tA):=by
 intro pins s σ H Q I h
 exact isTrue_not (ha pins s σ H (fun c H1=>Q (!c) H1) I h)
noncomputable def w1K(ta tb:TE):TE:=fun σ H Q=>ta σ H fun x H1=>∃c,x=.bl c/\if c=true then tb σ H1 Q else Q (.bl false) H1
noncomputable def w0V(ta:TE):TE:=fun σ H Q=>ta σ H fun x H1=>∃c,x=.bl c/\Q (.bl (!c)) H1
theorem y6W{op}{t:TE}(h:PE X a t):PE X (.BoolOp op [a] pos) t:=fun pins s σ H Q I hw=>BoolOp_one (h pins s σ H Q I hw)
theorem y6R(ha:PE X a ta)(hb:PE X (.BoolOp .And (b::rest) pos) tb):PE X (.BoolOp .And (a::b::rest) pos) (w1K ta tb):=by
 intro pins s σ H Q I h
 refine BoolOp_and (thn (ha pins s σ H _ I h) fun v s1 hz=>?_)
 obtain⟨x,H1,I1,r1,q1⟩:=hz
 obtain⟨c,rfl,q1⟩:=q1
 cases r1
 refine wpAny_truthy_bool ?_
 cases c with
 | true=>exact hb pins s1 σ H1 Q I1 q1
 | false=>exact⟨.bl false,H1,I1,rfl,q1⟩
theorem y6Y(ha:PE X a ta):PE X (.UnaryOp .Not a pos) (w0V ta):=by
 intro pins s σ H Q I h
 refine UnaryOp_ (thn (ha pins s σ H _ I h) fun v s1 hz=>?_)
 obtain⟨x,H1,I1,r1,q1⟩:=hz
 obtain⟨c,rfl,q1⟩:=q1
 cases r1
 exact not_of (wpAny_truthy_bool ⟨.bl (!c),H1,I1,rfl,q1⟩)
noncomputable def tIf(t:TT)(ta tb:TE):TE:=fun σ H Q=>t σ H fun c H1=>if c=true then ta σ H1 Q else tb σ H1 Q
theorem z5e{c:Expr}(hc:PT X c tA)(ha:PE X a ta)(hb:PE X b tb):PE X (.IfExp c a b pos) (tIf tA ta tb):=by
 intro pins s σ H Q I h
 refine wpAny_IfExp (thn (hc pins s σ H _ I h) fun d s1 hz=>?_)
 obtain⟨H1,I1,q1⟩:=hz
 cases d with
 | true=>exact ha pins s1 σ H1 Q I1 q1
 | false=>exact hb pins s1 σ H1 Q I1 q1
end
noncomputable def SqL(K:PySem.W.Frag)(H:Hp)(a:Addr)(xs:List V):Prop:=
 Rd H a (.lst xs)\/
  ∃(o:Obj) (its:Array Value) (n:Nat),K.lookup a=some o/\o.cls=.type "list"/\o.dict=none/\o.data=.seq its n/\its.size≤sizeLine/\Vals xs its.toList
noncomputable def SqT(K:PySem.W.Frag)(H:Hp)(a:Addr)(xs:List V):Prop:=
 Rd H a (.tup xs)\/
  ∃(o:Obj) (its:Array Value) (n:Nat),K.lookup a=some o/\o.cls=.type "tuple"/\o.data=.seq its n/\its.size≤sizeLine/\Vals xs its.toList
noncomputable def absV:Value->Option V
 | .none=>some .non
 | .bool b=>some (.bl b)
 | .int i _=>some (.int i)
 | .str x _=>some (.str x)
 | .bytes b _=>some (.byt b)
 | .float b _=>some (.flt b)
 | .ref a=>some (.ref a)
 | .type n=>some (.ty n)
 | _=>none
theorem RelV.abs{x:V}{u:Value}(r:RelV x u):absV u=some x:=by
 cases x with
 | non=>cases r;rfl
 | bl _=>cases r;rfl
 | int _=>obtain⟨t,rfl⟩:=r;rfl
 | str _=>obtain⟨t,rfl⟩:=r;rfl
 | byt _=>obtain⟨t,rfl⟩:=r;rfl
 | flt _=>obtain⟨t,rfl⟩:=r;rfl
 | ref _=>cases r;rfl
 | ty _=>cases r;rfl
theorem RelV.inj{x y:V}{u:Value}(r:RelV x u)(q:RelV y u):x=y:=Option.some.inj (r.abs.symm.trans q.abs)
theorem Vals.inj:∀{xs ys:List V}{us:List Value},Vals xs us->Vals ys us->xs=ys
 | _,_,_,.nil,.nil=>rfl
 | _,_,_,.cons r t,.cons r' t'=>by rw[r.inj r',Vals.inj t t']
section
variable{X:Cx}{pins:List (Addr×Obj)}{σ:St}{H:Hp}{s:Shared}{a:Addr}{xs ys:List V}
theorem SqL.of{K:PySem.W.Frag}(h:H a=some (.lst xs)):SqL K H a xs:=.inl (.inl h)
theorem SqT.of{K:PySem.W.Frag}(h:H a=some (.tup xs)):SqT K H a xs:=.inl (.inl h)
theorem Inv.list(I:Inv X pins σ H s)(h:SqL X.K H a xs):∃its:List Value,Vals xs its/\PlainL s.heap a its.toArray/\xs.length≤sizeLine:=by
 rcases h with h|⟨o,its,n,hk,hc,hd,hs,hz,r⟩
 ·obtain⟨z,its,n,r,e⟩:=h.ok I.hok
  exact⟨its,r,⟨_,n,e,rfl,rfl,rfl⟩,z⟩
 ·refine⟨its.toList,r,⟨o,n,I.kIn a o hk,hc,hd,by simpa using hs⟩,?_⟩
  have e:=r.length
  simp only[hV] at e
  lia
theorem Inv.tuple(I:Inv X pins σ H s)(h:SqT X.K H a xs):∃its:List Value,Vals xs its/\IsTup s.heap a its.toArray/\xs.length≤sizeLine:=by
 rcases h with h|⟨o,its,n,hk,hc,hs,hz,r⟩
 ·obtain⟨z,its,r,p⟩:=h.ok I.hok
  exact⟨its,r,PlT.tup p,z⟩
 ·refine⟨its.toList,r,⟨o,I.kIn a o hk,hc,n,by simpa using hs⟩,?_⟩
  have e:=r.length
  simp only[hV] at e
  lia
theorem Inv.Y3(I:Inv X pins σ H s)(h:SqL X.K H a xs)(h':SqL X.K H a ys):xs=ys:=by
 obtain⟨its,r,⟨o,n,e,_,_,d⟩,_⟩:=I.list h
 obtain⟨its',r',⟨o',n',e',_,_,d'⟩,_⟩:=I.list h'
 rw[e] at e';cases e'
 rw[d] at d'
 injection d' with d1 _
 have:its=its':=by simpa using congrArg Array.toList d1
 subst this
 exact r.inj r'
theorem Inv.O8(I:Inv X pins σ H s)(h:SqT X.K H a xs)(h':SqT X.K H a ys):xs=ys:=by
 obtain⟨its,r,⟨o,e,_,n,d⟩,_⟩:=I.tuple h
 obtain⟨its',r',⟨o',e',_,n',d'⟩,_⟩:=I.tuple h'
 rw[e] at e';cases e'
 rw[d] at d'
 injection d' with d1 _
 have:its=its':=by simpa using congrArg Array.toList d1
 subst this
 exact r.inj r'
end
abbrev Cx.S8(X:Cx)(E:Value->Shared->Prop):Cx:={ X with xe:=E }
abbrev Cx.nox(X:Cx):Cx:=X.S8 fun _ _=>False
theorem Cx.Ok.S8{X:Cx}(ok:X.Ok)(E:Value->Shared->Prop):(X.S8 E).Ok:=
 ⟨ok.mod,ok.kind,ok.glob,ok.blt,ok.above,ok.inj,ok.has,ok.cab,ok.hd,ok.frames,ok.stk,ok.exf,ok.bs,ok.bsz,ok.noex,ok.exfs,ok.R7,ok.frf⟩
theorem Cx.Ok.O7{X:Cx}{E:Value->Shared->Prop}(ok:(X.S8 E).Ok):X.Ok:=
 ⟨ok.mod,ok.kind,ok.glob,ok.blt,ok.above,ok.inj,ok.has,ok.cab,ok.hd,ok.frames,ok.stk,ok.exf,ok.bs,ok.bsz,ok.noex,ok.exfs,ok.R7,ok.frf⟩
section
variable{X:Cx}{pins:List (Addr×Obj)}{σ:St}{H:Hp}{s:Shared}{E:Value->Shared->Prop}
theorem Inv.S8(I:Inv X pins σ H s)(E:Value->Shared->Prop):Inv (X.S8 E) pins σ H s:=⟨I.ok.S8 E,I.os,I.bare,I.base,I.loc,I.cell,I.free,I.freeC,I.pin,I.hok,I.len⟩
theorem Inv.O7(I:Inv (X.S8 E) pins σ H s):Inv X pins σ H s:=⟨I.ok.O7,I.os,I.bare,I.base,I.loc,I.cell,I.free,I.freeC,I.pin,I.hok,I.len⟩
theorem SP.O7{D:Ends}{f:Flow}{s':Shared}(h:SP (X.S8 E) pins D f s'):SP X pins D f s':=by
 cases f with
 | next=>obtain⟨σ',H',I,q⟩:=h;exact⟨σ',H',I.O7,q⟩
 | brk=>obtain⟨σ',H',I,q⟩:=h;exact⟨σ',H',I.O7,q⟩
 | cont=>obtain⟨σ',H',I,q⟩:=h;exact⟨σ',H',I.O7,q⟩
 | ret u=>obtain⟨v,σ',H',I,r,q⟩:=h;exact⟨v,σ',H',I.O7,r,q⟩
theorem PSs.nox{st:List Stmt}{t:TS}(h:PSs X.nox st t):PSs X st t:=fun pins s σ H D I hw=>
 wpAny_mono (h pins s σ H D (I.S8 _) hw) (fun _ _ q=>q.O7) fun _ _ z=>False.elim z
end
section
variable{X:Cx}{st:Stmt}{rest:List Stmt}{t u:TS}{e:Expr}{te:TE}{pos:Pos}
noncomputable def w1l:TS:=fun D σ H=>D.nx σ H
noncomputable def tSeq(t u:TS):TS:=fun D σ H=>t { D with nx:=u D } σ H
theorem z0k:PSs X [] w1l:=fun _ _ σ H _ I h=>wpAny_execs_nil ⟨σ,H,I,h⟩
theorem z04(h1:PS X st t)(h2:PSs X rest u):PSs X (st::rest) (tSeq t u):=by
 intro pins s σ H D I h
 refine wpAny_execs_cons (thn (h1 pins s σ H { D with nx:=u D } I h) fun f s1 q=>?_)
 cases f with
 | next=>
  obtain⟨σ',H',I',q⟩:=q
  exact h2 pins s1 σ' H' D I' q
 | ret v=>exact q
 | brk=>exact q
 | cont=>exact q
theorem z05(h1:PS X st t):PSs X [st] t:=by
 intro pins s σ H D I h
 refine wpAny_execs_cons (thn (h1 pins s σ H D I h) fun f s1 q=>?_)
 cases f with
 | next=>exact wpAny_execs_nil q
 | ret v=>exact q
 | brk=>exact q
 | cont=>exact q
noncomputable def y8n:TS:=fun D σ H=>D.bk σ H
theorem y65:PS X (.Break pos) y8n:=fun _ _ σ H _ I h=>wpAny_Break ⟨σ,H,I,h⟩
theorem Inv.quiet{pins:List (Addr×Obj)}{σ:St}{H:Hp}{s:Shared}(I:Inv X pins σ H s):interactive X.env=false:=by simp[interactive,I.ok.kind]
noncomputable def w0Q(te:TE):TS:=fun D σ H=>te σ H fun _ H1=>D.nx σ H1
theorem z0F(he:PE X e te)(hs:swapsWith e none pos.line X.env=pure false:=by rfl):PS X (.Expr e pos) (w0Q te):=by
 intro pins s σ H D I h
 exact wpAny_Expr_any (thn (he pins s σ H _ I h) fun v s1 ⟨x,H1,I1,r1,q1⟩=>⟨σ,H1,I1,q1⟩) I.quiet hs
noncomputable def tRet(te:TE):TS:=fun D σ H=>te σ H D.rt
theorem z0i(he:PE X e te):PS X (.Return (some e) pos) (tRet te):=by
 intro pins s σ H D I h
 exact wpAny_Return_some (thn (he pins s σ H _ I h) fun v s1 ⟨x,H1,I1,r1,q1⟩=>⟨x,σ,H1,I1,r1,q1⟩)
noncomputable def tIfS(c:TT)(t u:TS):TS:=fun D σ H=>c σ H fun b H1=>if b=true then t D σ H1 else u D σ H1
theorem z0C{c:Expr}{a b:List Stmt}{tc:TT}(hc:PT X c tc)(ha:PSs X a t)(hb:PSs X b u):PS X (.If c a b pos) (tIfS tc t u):=by
 intro pins s σ H D I h
 refine wpAny_If (thn (hc pins s σ H _ I h) fun d s1 hz=>?_)
 obtain⟨H1,I1,q1⟩:=hz
 cases d with
 | true=>exact ha pins s1 σ H1 D I1 q1
 | false=>exact hb pins s1 σ H1 D I1 q1
noncomputable def y8E:TS:=fun _ _ _=>False
theorem z1S:PS X st y8E:=fun _ _ _ _ _ _ h=>h.elim
end
abbrev TG:=V->St->Hp->(St->Hp->Prop)->Prop
abbrev TGs:=List V->St->Hp->(St->Hp->Prop)->Prop
noncomputable def PG(X:Cx)(target:Expr)(t:TG):Prop:=
 ∀(pins:List (Addr×Obj)) (s:Shared) (σ:St) (H:Hp) (v:V) (u:Value) (Q:St->Hp->Prop),Inv X pins σ H s->RelV v u->t v σ H Q->
  wpAny (model X.prog X.w) X.A (assign target X.env u) (fun _ s'=>∃σ' H',Inv X pins σ' H' s'/\Q σ' H') X.xe s
noncomputable def PGs(X:Cx)(ts:List Expr)(t:TGs):Prop:=
 ∀(pins:List (Addr×Obj)) (s:Shared) (σ:St) (H:Hp) (vs:List V) (us:List Value) (Q:St->Hp->Prop),Inv X pins σ H s->Vals vs us->t vs σ H Q->
  wpAny (model X.prog X.w) X.A (assignInOrder ((assignEach ts X.env).map (·.2)) us) (fun _ s'=>∃σ' H',Inv X pins σ' H' s'/\Q σ' H') X.xe s
section
variable{X:Cx}{pos:Pos}
noncomputable def y5w(i:Nat):TG:=fun v σ H Q=>Q (σ.set i (some v)) H
theorem z0j{i:Nat}{x:Str}(hN:X.N.Nodup)(hi:X.N[i]? = some x)(hx:Loc X.env.scope x)(hf:X.fn x=true\/X.env.scope.names.lookup x=some .local:=by first|exact .inl rfl|exact .inr rfl|assumption):PG X (.Name x pos) (y5w i):=by
 intro pins s σ H v u Q I r h
 exact wpAny_assign_Name (y24 I hN hi hx r (fun s' I'=>⟨_,H,I',h⟩) hf)
noncomputable def w0d:TGs:=fun vs σ H Q=>vs=[]/\Q σ H
noncomputable def y7Y(t:TG)(u:TGs):TGs:=fun vs σ H Q=>∃v r,vs=v::r/\t v σ H fun σ' H'=>u r σ' H' Q
theorem z4Z:PGs X [] w0d:=by
 intro pins s σ H vs us Q I r h
 obtain⟨e,h⟩:=h
 subst e
 cases r
 exact assignInOrder_nil ⟨σ,H,I,h⟩
theorem z1e{e:Expr}{es:List Expr}{t:TG}{u:TGs}(h1:PG X e t)(h2:PGs X es u)
  (hs:(assignEach (e::es) X.env).map (·.2)=assign e X.env::(assignEach es X.env).map (·.2):=by rfl):PGs X (e::es) (y7Y t u):=by
 intro pins s σ H vs us Q I r h
 obtain⟨v,vr,e1,h⟩:=h
 subst e1
 cases r with
 | cons r rr=>
  rw[hs]
  refine assignInOrder_cons (thn (h1 pins s σ H _ _ _ I r h) fun _ s1 hz=>?_)
  obtain⟨σ1,H1,I1,q1⟩:=hz
  exact h2 pins s1 σ1 H1 _ _ Q I1 rr q1
noncomputable def Z8(K:PySem.W.Frag)(n:Nat)(t:TGs):TG:=fun v σ H Q=>∃a xs,v=.ref a/\SqT K H a xs/\xs.length=n/\t xs σ H Q
theorem y6P{es:List Expr}{k:Nat}{t:TGs}{n:Nat}(hc:X.calm=true)(h:PGs X es t)
  (hn:(assignEach es X.env).length=n:=by rfl) (hst:(assignEach es X.env).findIdx? (·.1)=none:=by rfl):PG X (.Tuple es k pos) (Z8 X.K n t):=by
 intro pins s σ H v u Q I r hw
 obtain⟨a,xs,e1,hq,hl,hw⟩:=hw
 subst e1
 cases r
 obtain⟨its,rv,ht,hz⟩:=I.tuple hq
 refine assign_Tuple_tuple (I.ok.hd hc) ht (by simp[hn,<- hl,rv.length]) hst fun h' hx=>?_
 have I1:Inv X pins σ H { s with heap:=h' }:=I.kept (t':=s.toks) fun b o e=>hx b o (cL (bQ e)) e
 exact h pins _ σ H xs _ Q I1 (by simpa using rv) hw
noncomputable def tAsg(te:TE)(g:TG):TS:=fun D σ H=>te σ H fun x H1=>g x σ H1 D.nx
theorem z0o{i:Nat}{x:Str}{e:Expr}{te:TE}{pos':Pos}(hN:X.N.Nodup)(hi:X.N[i]? = some x)(hx:Loc X.env.scope x)(he:PE X e te)(hs:swapsWith e (some (.Name x pos')) pos.line X.env=pure false:=by rfl)(hf:X.fn x=true\/X.env.scope.names.lookup x=some .local:=by first|exact .inl rfl|exact .inr rfl|assumption) :
  PS X (.Assign [.Name x pos'] e pos) (tAsg te (y5w i)):=by
 intro pins s σ H D I h
 refine wpAny_Assign_Name (thn (he pins s σ H _ I h) fun v s1 hz=>?_) hs
 obtain⟨y,H1,I1,r1,q1⟩:=hz
 exact y24 I1 hN hi hx r1 (fun s2 I2=>⟨_,H1,I2,q1⟩) hf
end
section
variable{X:Cx}{pos:Pos}
end
structure It where
 go:Nat->Hp->Prop
 yld:Nat->Hp->V->Hp->Prop
 stop:Nat->Hp->Prop
noncomputable def Q3(X:Cx)(pins:List (Addr×Obj))(H:Hp)(b:Addr):Prop:=
 H b=none/\b≠X.env.locals/\b∉X.fs/\(b∈X.ex\/X.s₀.heap.objs.size≤b)/\(∀x c,X.env.cells.lookup x=some c->c≠b)/\∀p∈X.pn++pins,p.1≠b
theorem Inv.S5{X:Cx}{pins:List (Addr×Obj)}{σ:St}{H H':Hp}{s:Shared}{b:Addr}(I:Inv X pins σ H s)(hb:s.heap.objs.size≤b)(hn:H' b=none):Q3 X pins H' b:=by
 refine⟨hn,eY (cT I.lt hb),I.nofs hb,.inr (cM I.sz hb),fun x c e z=>?_,fun p hp z=>?_⟩
 ·obtain⟨v,q⟩:=I.cell x c e
  exact absurd (cT q.lt (by rw[z];exact hb)) (dQ _)
 ·exact absurd (cT (bQ (I.pin p hp).1) (by rw[z];exact hb)) (dQ _)
structure Turn(P:Program)(w:World)(K:PySem.W.Frag)(tg:Expr)(J:It)(fp:List Addr)(it:Addr)(tn:Nat->Heap->Prop):Prop where
 mem:it∈fp
 obj:∀i h,tn i h->∀b∈fp,∃o,h.get? b=some o/\∀v,o.data≠.cell v
 keep:∀i h h',tn i h->(∀b∈fp,∀o,h.get? b=some o->h'.get? b=some o)->tn i h'
 item:∀(X:Cx),X.prog=P->X.w=w->X.K=K->X.calm=true->∀(i:Nat) (pins:List (Addr×Obj)) (s:Shared) (σ:St) (H:Hp) (E:Value->Shared->Prop),Inv X pins σ H s->(∀b∈fp,Q3 X pins H b)->tn i s.heap->J.go i H->
  wpAny (model P w) X.A (pyNext (.ref it)) (fun r s1=>∃u,r=some u/\
   wpAny (model P w) X.A (letOwnedTupleGo tg (.ref it) u) (fun _ s2=>∃x H',Inv X pins σ H' s2/\RelV x u/\J.yld i H x H'/\tn (i+1) s2.heap/\∀b∈fp,H' b=none) E s1) E s
 done:∀(X:Cx),X.prog=P->X.w=w->X.K=K->X.calm=true->∀(i:Nat) (pins:List (Addr×Obj)) (s:Shared) (σ:St) (H:Hp) (E:Value->Shared->Prop),Inv X pins σ H s->(∀b∈fp,Q3 X pins H b)->tn i s.heap->J.stop i H->
  wpAny (model P w) X.A (pyNext (.ref it)) (fun r s1=>r=none/\Inv X pins σ H s1) E s
 self:∀(A:Around) (i:Nat) (s:Shared) (Q:Value->Shared->Prop) (E:Value->Shared->Prop),tn i s.heap->Q (.ref it) s->wpAny (model P w) A (pyIter (.ref it)) Q E s
abbrev TI:=St->Hp->(It->Hp->Prop)->Prop
noncomputable def PIE(X:Cx)(pins:List (Addr×Obj))(σ:St)(tg:Expr)(R:It->Hp->Prop)(itv:Value)(s2:Shared):Prop:=
 ∃(it:Addr) (fp:List Addr) (tn:Nat->Heap->Prop) (J:It) (H':Hp),itv=.ref it/\Inv X pins σ H' s2/\Turn X.prog X.w X.K tg J fp it tn/\tn 0 s2.heap/\(∀b∈fp,Q3 X pins H' b)/\R J H'
noncomputable def PI(X:Cx)(tg iter:Expr)(wi:TI):Prop:=
 ∀(pins:List (Addr×Obj)) (s:Shared) (σ:St) (H:Hp) (R:It->Hp->Prop),Inv X pins σ H s->wi σ H R->
  wpAny (model X.prog X.w) X.A (eval iter X.env) (fun v s1=>wpAny (model X.prog X.w) X.A (pyIter v) (PIE X pins σ tg R) X.xe s1) X.xe s
theorem y5f {M : Model} {A : Around} {E : Value -> Shared -> Prop} {s : Shared} {tg : Expr} {it : Addr} {u : Value} {o : Obj} {n : String} {vs : Array Value} {Q : Unit -> Shared -> Prop} (ho : s.heap.get? it = some o) (hc : o.cls = .type n) (hd : o.data = .fields vs)
    (hn : ["enumerate", "zip", "dict_itemiterator", "dict_reverseitemiterator", "odict_iterator", "itertools.zip_longest", "itertools.pairwise"].contains n = false) (hQ : Q () s) : wpAny M A (letOwnedTupleGo tg (.ref it) u) Q E s := by
  unfold letOwnedTupleGo
  cases tg <;> first
    | exact wpAny_pure hQ
    | (cases u <;> first
        | exact wpAny_pure hQ
        | (refine wpAny_bind (wpAny_load ho ?_)
           rw [hc, hd]
           show wpAny M A (if (["enumerate", "zip", "dict_itemiterator", "dict_reverseitemiterator", "odict_iterator", "itertools.zip_longest", "itertools.pairwise"].contains n && vs[0]? == some (rawInt _)) = true then _ else _) Q E s
           rw [if_neg (by intro h; rw [hn, gX] at h; cases h)]
           exact wpAny_pure hQ))
noncomputable def Itl(K:PySem.W.Frag)(a:Addr):It:=
 ⟨fun i H=>∃xs x,SqL K H a xs/\xs[i]? = some x,fun i H x H'=>H'=H/\∀xs,SqL K H a xs->xs[i]? = some x,fun i H=>∃xs,SqL K H a xs/\xs.length≤i⟩
noncomputable def Itt(K:PySem.W.Frag)(a:Addr):It:=
 ⟨fun i H=>∃xs x,SqT K H a xs/\xs[i]? = some x,fun i H x H'=>H'=H/\∀xs,SqT K H a xs->xs[i]? = some x,fun i H=>∃xs,SqT K H a xs/\xs.length≤i⟩
noncomputable def Itr(lo:Int)(n:Nat):It:=⟨fun i _=>i<n,fun i H x H'=>H'=H/\x=.int (lo+i),fun i _=>n≤i⟩
theorem y1h{P:Program}{w:World}{K:PySem.W.Frag}{tg:Expr}(a it:Addr):Turn P w K tg (Itl K a) [it] it (fun i h=>h.IsListIter it a i) where
 mem:=by simp
 obj:=fun i h st b hb=>by
  have e:b=it:=by simpa using hb
  subst e
  obtain⟨o,e,c,d⟩:=st
  exact⟨o,e,fun v z=>by rw[d] at z;cases z⟩
 keep:=fun i h h' st k=>st.at fun o e=>k it (by simp) o e
 item:=by
  intro X hP hw hK hc i pins s σ H E I hf st hg
  subst hP hw hK
  obtain⟨xs,x,hq,hx⟩:=hg
  obtain⟨its,rv,p,hz⟩:=I.list hq
  obtain⟨u,hu,ru⟩:=rv.get hx
  obtain⟨f0,f1,f2,f3,f4,f5⟩:=hf it (by simp)
  refine wpAny_pyNext_list_item st p.isList (x:=u) (by simpa using hu) fun h' st' sb=>?_
  have I1:Inv X pins σ H { s with heap:=h' }:=I.turned (t':=s.toks) (fun b o hb e=>(sb.2 b hb).trans e) f0 f1 f3 f4 f5
  obtain⟨o,e,c,d⟩:=id st'
  exact⟨u,rfl,y5f (s:={ s with heap:=h' }) e c d (by decide) ⟨x,H,I1,ru,⟨rfl,fun ys hy=>by rw[I.Y3 hy hq];exact hx⟩,st',fun b hb=>(hf b hb).1⟩⟩
 done:=by
  intro X hP hw hK hc i pins s σ H E I hf st hg
  subst hP hw hK
  obtain⟨xs,hq,hx⟩:=hg
  obtain⟨its,rv,p,hz⟩:=I.list hq
  obtain⟨f0,f1,f2,f3,f4,f5⟩:=hf it (by simp)
  have hl:=rv.length
  exact wpAny_pyNext_list_end (I.ok.hd hc) st p.isList (by simp;lia) fun h' eb=>⟨rfl,I.turned (t':=s.toks) (fun b o hb e=>eb b o hb e) f0 f1 f3 f4 f5⟩
 self:=fun _ _ _ _ _ st h=>wpAny_pyIter_listiter st h
theorem z9w{P:Program}{w:World}{K:PySem.W.Frag}{tg:Expr}(a it:Addr):Turn P w K tg (Itt K a) [it] it (fun i h=>h.IsTupleIter it a i) where
 mem:=by simp
 obj:=fun i h st b hb=>by
  have e:b=it:=by simpa using hb
  subst e
  obtain⟨o,e,c,d⟩:=st
  exact⟨o,e,fun v z=>by rw[d] at z;cases z⟩
 keep:=fun i h h' st k=>st.at fun o e=>k it (by simp) o e
 item:=by
  intro X hP hw hK hc i pins s σ H E I hf st hg
  subst hP hw hK
  obtain⟨xs,x,hq,hx⟩:=hg
  obtain⟨its,rv,p,hz⟩:=I.tuple hq
  obtain⟨u,hu,ru⟩:=rv.get hx
  obtain⟨f0,f1,f2,f3,f4,f5⟩:=hf it (by simp)
  refine wpAny_pyNext_tuple_item st (show s.heap.IsTuple a its.toArray from p) (x:=u) (by simpa using hu) fun h' st' sb=>?_
  have I1:Inv X pins σ H { s with heap:=h' }:=I.turned (t':=s.toks) (fun b o hb e=>(sb.2 b hb).trans e) f0 f1 f3 f4 f5
  obtain⟨o,e,c,d⟩:=id st'
  exact⟨u,rfl,y5f (s:={ s with heap:=h' }) e c d (by decide) ⟨x,H,I1,ru,⟨rfl,fun ys hy=>by rw[I.O8 hy hq];exact hx⟩,st',fun b hb=>(hf b hb).1⟩⟩
 done:=by
  intro X hP hw hK hc i pins s σ H E I hf st hg
  subst hP hw hK
  obtain⟨xs,hq,hx⟩:=hg
  obtain⟨its,rv,p,hz⟩:=I.tuple hq
  obtain⟨f0,f1,f2,f3,f4,f5⟩:=hf it (by simp)
  have hl:=rv.length
  exact wpAny_pyNext_tuple_end (I.ok.hd hc) st (show s.heap.IsTuple a its.toArray from p) (by simp;lia) fun h' eb=>⟨rfl,I.turned (t':=s.toks) (fun b o hb e=>eb b o hb e) f0 f1 f3 f4 f5⟩
 self:=fun _ _ _ _ _ st h=>wpAny_pyIter_tupleiter st h
theorem y3e{P:Program}{w:World}{K:PySem.W.Frag}{tg:Expr}(it:Addr)(lo:Int)(n:Nat):Turn P w K tg (Itr lo n) [it] it (fun i h=>IsRangeIter h it (lo+(i:Nat)*1) ((n:Int)-(i:Nat)) 1) where
 mem:=by simp
 obj:=fun i h st b hb=>by
  have e:b=it:=by simpa using hb
  subst e
  exact⟨_,st,fun v z=>by
   have z':Data.fields _=Data.cell v:=z
   cases z'⟩
 keep:=fun i h h' st k=>k it (by simp) _ st
 item:=by
  intro X hP hw hK hc i pins s σ H E I hf st hg
  subst hP hw hK
  obtain⟨f0,f1,f2,f3,f4,f5⟩:=hf it (by simp)
  have W:=Walks.range (prog:=X.prog) (w:=X.w) (I.ok.hd hc) it lo 1 n
  refine W.item i s _ _ hg st fun v h' tk hv st' kk=>?_
  obtain⟨t,rfl⟩:=hv
  have I1:Inv X pins σ H { s with heap:=h',toks:=tk }:=I.turned (fun b o hb e=>kk b o (by simpa using hb) e) f0 f1 f3 f4 f5
  refine⟨_,rfl,y5f (s:={ s with heap:=h',toks:=tk }) (n:="range_iterator") st' rfl rfl (by decide) ⟨.int (lo+i),H,I1,⟨t,?_⟩,⟨rfl,rfl⟩,st',fun b hb=>(hf b hb).1⟩⟩
  rw[Int.mul_one]
 done:=by
  intro X hP hw hK hc i pins s σ H E I hf st hg
  subst hP hw hK
  obtain⟨f0,f1,f2,f3,f4,f5⟩:=hf it (by simp)
  exact wpAny_pyNext_range_end (I.ok.hd hc) st (by have:n≤i:=hg;lia) fun h' eb=>⟨rfl,I.turned (t':=s.toks) (fun b o hb e=>eb b o hb e) f0 f1 f3 f4 f5⟩
 self:=fun _ _ _ _ _ st h=>wpAny_pyIter_rangeiter st h
section
variable{X:Cx}{tg:Expr}
noncomputable def w16(K:PySem.W.Frag)(tl:TE):TI:=fun σ H R=>tl σ H fun x H1=>∃a,x=.ref a/\(∃xs,SqL K H1 a xs)/\R (Itl K a) H1
noncomputable def iTup(K:PySem.W.Frag)(tl:TE):TI:=fun σ H R=>tl σ H fun x H1=>∃a,x=.ref a/\(∃xs,SqT K H1 a xs)/\R (Itt K a) H1
theorem z1k{l:Expr}{tl:TE}(hl:PE X l tl):PI X tg l (w16 X.K tl):=by
 intro pins s σ H R I h
 refine thn (hl pins s σ H _ I h) fun v s1 hz=>?_
 obtain⟨x,H1,I1,r1,q1⟩:=hz
 obtain⟨a,e,⟨xs,hq⟩,q⟩:=q1
 subst e
 cases r1
 obtain⟨its,rv,p,hz⟩:=I1.list hq
 refine wpAny_pyIter_list p.isList ?_
 refine⟨s1.heap.objs.size,[s1.heap.objs.size],_,_,H1,rfl,I1.kept (t':=s1.toks) fun b o e=>bB _ e,y1h a _,⟨_,bK _ rfl,rfl,rfl⟩,fun b hb=>?_,q⟩
 have e:b=s1.heap.objs.size:=by simpa using hb
 subst e
 exact I1.S5 (bJ _) (I1.hok.fresh (bJ _))
theorem z26{l:Expr}{tl:TE}(hl:PE X l tl):PI X tg l (iTup X.K tl):=by
 intro pins s σ H R I h
 refine thn (hl pins s σ H _ I h) fun v s1 hz=>?_
 obtain⟨x,H1,I1,r1,q1⟩:=hz
 obtain⟨a,e,⟨xs,hq⟩,q⟩:=q1
 subst e
 cases r1
 obtain⟨its,rv,p,hz⟩:=I1.tuple hq
 refine wpAny_pyIter_tuple (show s1.heap.IsTuple a its.toArray from p) ?_
 refine⟨s1.heap.objs.size,[s1.heap.objs.size],_,_,H1,rfl,I1.kept (t':=s1.toks) fun b o e=>bB _ e,z9w a _,⟨_,bK _ rfl,rfl,rfl⟩,fun b hb=>?_,q⟩
 have e:b=s1.heap.objs.size:=by simpa using hb
 subst e
 exact I1.S5 (bJ _) (I1.hok.fresh (bJ _))
theorem y29{pins:List (Addr×Obj)}{σ:St}{H:Hp}{s:Shared}{R:It->Hp->Prop}{E:Value->Shared->Prop}{lo hi:Int}{t u v:Tok}{tk:Nat}(I:Inv X pins σ H s)(h1:-(2^62)≤lo)(h2:lo<2^62)(h3:-(2^62)≤hi)(h4:hi<2^62)
  (q:R (Itr lo (hi-lo).toNat) H):wpAny (model X.prog X.w) X.A (pyIter (.ref s.heap.objs.size)) (PIE X pins σ tg R) E { s with heap:=s.heap.push { cls:=.type "range",data:=.fields #[.int lo t,.int hi u,.int 1 v] },toks:=tk }:=by
 refine wpAny_pyIter_range (IsRange.new ..) (small_one h1 h2 h3 h4) ?_
 have I1:Inv X pins σ H { s with heap:=s.heap.push { cls:=.type "range",data:=.fields #[.int lo t,.int hi u,.int 1 v] },toks:=tk }:=I.kept fun b o e=>bB _ e
 refine⟨(s.heap.push { cls:=.type "range",data:=.fields #[.int lo t,.int hi u,.int 1 v] }).objs.size,[(s.heap.push { cls:=.type "range",data:=.fields #[.int lo t,.int hi u,.int 1 v] }).objs.size],_,_,H,rfl,
  I1.kept (t':=tk) fun b o e=>bB _ e,y3e _ lo (hi-lo).toNat,?_,fun b hb=>?_,q⟩
 ·have e1:lo+((0:Nat):Int)*1=lo:=by simp
  have e2:(((hi-lo).toNat:Nat):Int)-((0:Nat):Int)=Builtin.Range.rangeSize lo hi 1:=by rw[rangeSize_one];split<;>lia
  show IsRangeIter _ _ (lo+((0:Nat):Int)*1) ((((hi-lo).toNat:Nat):Int)-((0:Nat):Int)) 1
  rw[e1,e2]
  exact bK _ rfl
 ·have e:b=(s.heap.push { cls:=.type "range",data:=.fields #[.int lo t,.int hi u,.int 1 v] }).objs.size:=by simpa using hb
  subst e
  exact I1.S5 (bJ _) (I1.hok.fresh (bJ _))
noncomputable def w0D(ta:TA):TI:=fun σ H R=>ta σ H fun vs H1=>∃j:Int,vs=[.int j]/\-(2^62)≤j/\j<2^62/\R (Itr 0 j.toNat) H1
noncomputable def w0W(ta:TA):TI:=fun σ H R=>ta σ H fun vs H1=>∃i j:Int,vs=[.int i,.int j]/\(-(2^62)≤i/\i<2^62/\-(2^62)≤j/\j<2^62)/\R (Itr i (j-i).toNat) H1
theorem z1p{a:Expr}{ta:TA}{p pos:Pos}(hg:Gl X "range")(hm:X.mg "range"=none)(ha:PA X [a] ta)(hs:starEach [a] X.env=[(false,eval a X.env)]:=by rfl):PI X tg (.Call (.Name "range" p) [a] [] pos) (w0D ta):=by
 intro pins s σ H R I h
 refine Call_ (z5l I hg hm boot_range (dX (thn (ha pos pins s σ H _ I h) fun us s1 hz=>?_) hs rfl))
 obtain⟨vs,H1,I1,r1,q1⟩:=hz
 obtain⟨j,e,q1,q2,q⟩:=q1
 subst e
 cases r1 with
 | cons r rr=>
  cases rr
  obtain⟨t,rfl⟩:=r
  exact call_range_1 (y29 I1 (by lia) (by lia) q1 q2 (by simpa using q))
theorem z3i{a b:Expr}{ta:TA}{p pos:Pos}(hg:Gl X "range")(hm:X.mg "range"=none)(ha:PA X [a,b] ta)(hs:starEach [a,b] X.env=[(false,eval a X.env),(false,eval b X.env)]:=by rfl)(hs2:starEach [b] X.env=[(false,eval b X.env)]:=by rfl) :
  PI X tg (.Call (.Name "range" p) [a,b] [] pos) (w0W ta):=by
 intro pins s σ H R I h
 refine Call_ (z5l I hg hm boot_range (dX (thn (ha pos pins s σ H _ I h) fun us s1 ⟨vs,H1,I1,r1,q1⟩=>?_) (by rw[hs,hs2]) (by rw[hs2];rfl)))
 obtain⟨i,j,e,⟨q1,q2,q3,q4⟩,q⟩:=q1
 subst e
 cases r1 with
 | cons r rr=>
  cases rr with
  | cons r' rr=>
   cases rr
   obtain⟨t,rfl⟩:=r
   obtain⟨t',rfl⟩:=r'
   exact call_range_2 (y29 I1 q1 q2 q3 q4 q)
noncomputable def tFor(wi:TI)(g:TG)(tb:TS):TS:=fun D σ H=>wi σ H fun J H1=>∃W:Nat->Nat->St->Hp->Prop,(∃m,W 0 m σ H1)/\∀i m σ H,W i m σ H->
 (J.stop i H/\D.nx σ H)\/(J.go i H/\∃N:St->Hp->Prop,(∀σ' H',N σ' H'->∃m',m'<m/\W (i+1) m' σ' H')/\∀x H',J.yld i H x H'->g x σ H' fun σ2 H2=>tb { D with nx:=N,ct:=N,bk:=D.nx } σ2 H2)
noncomputable def y0N(fp:List Addr)(h:Heap):List (Addr×Obj):=fp.filterMap fun b=>(h.get? b).map fun o=>(b,o)
theorem z5b{fp:List Addr}{h:Heap}{b:Addr}{o:Obj}(hb:b∈fp)(e:h.get? b=some o):(b,o)∈y0N fp h:=List.mem_filterMap.mpr ⟨b,hb,by rw[e];rfl⟩
theorem y5s{fp:List Addr}{h:Heap}{p:Addr×Obj}(hp:p∈y0N fp h):p.1∈fp/\h.get? p.1=some p.2:=by
 obtain⟨b,hb,e⟩:=List.mem_filterMap.mp hp
 cases q:h.get? b with
 | none=>rw[q] at e;cases e
 | some o=>
  rw[q] at e
  have e':(b,o)=p:=Option.some.inj e
  subst e'
  exact⟨hb,q⟩
theorem Inv.pinned{pins:List (Addr×Obj)}{σ:St}{H:Hp}{s:Shared}{fp:List Addr}(I:Inv X pins σ H s)(hf:∀b∈fp,Q3 X pins H b)(ho:∀b∈fp,∃o,s.heap.get? b=some o/\∀v,o.data≠.cell v):Inv X (pins++y0N fp s.heap) σ H s:=
 I.Q1 fun p hp=>(cH.mp hp).elim (fun z=>I.pin p (cK _ z)) fun z=>by
  obtain⟨hb,e⟩:=y5s z
  obtain⟨f0,f1,f2,_⟩:=hf p.1 hb
  obtain⟨o,e',d⟩:=ho p.1 hb
  rw[e] at e';cases e'
  exact⟨e,f0,f1,f2,d⟩
theorem Inv.Q9{pins pl:List (Addr×Obj)}{σ:St}{H:Hp}{s:Shared}(I:Inv X (pins++pl) σ H s):Inv X pins σ H s:=I.Q1 fun p hp=>I.pin p (cK _ (d7 _ hp))
theorem z0W{iter:Expr}{body:List Stmt}{wi:TI}{g:TG}{tb:TS}{pos:Pos}(hp:PassesOwn (model X.prog X.w) X.A X.env X.xe)(hc:X.calm=true)(hi:PI X tg iter wi)(hg:PG X tg g)(hb:PSs X body tb)
  (hs:∀x,foldedSetIterable iter X.env x=pure x:=by intro _;rfl):PS X (.For tg iter body [] pos) (tFor wi g tb):=by
 intro pins s σ H D I h
 refine wpAny_For (thn (hi pins s σ H _ I h) fun v s1 h1=>thn h1 fun itv s2 h2=>?_) hs
 obtain⟨it,fp,tn,J,H2,e,I2,T,st2,f2,W,⟨m0,w0⟩,turn⟩:=h2
 subst e
 have w0f:∀{H':Hp},(∀b∈fp,H' b=none)->∀b∈fp,Q3 X pins H' b:=fun hn b hb=>⟨hn b hb,(f2 b hb).2⟩
 refine codeAny_forLoop_any (fun n s'=>∃i σ' H',Inv X pins σ' H' s'/\tn i s'.heap/\(∀b∈fp,H' b=none)/\W i n σ' H') ?_ m0 ⟨0,σ,H2,I2,st2,fun b hb=>(f2 b hb).1,w0⟩
 rintro n s3 ⟨i,σ3,H3,I3,st3,fr3,w3⟩
 rcases turn i n σ3 H3 w3 with ⟨stop,qn⟩|⟨go,N,hN,step⟩
 ·refine wpAny_passesOwn hp (thn (T.done X rfl rfl rfl hc i pins s3 σ3 H3 X.xe I3 (w0f fr3) st3 stop) fun r s4 hz=>?_)
  obtain⟨hr,I4⟩:=hz
  subst hr
  exact wpAny_execs_nil ⟨σ3,H3,I4,qn⟩
 ·refine wpAny_passesOwn hp (thn (T.item X rfl rfl rfl hc i pins s3 σ3 H3 X.xe I3 (w0f fr3) st3 go) fun r s4 hz=>?_)
  obtain⟨u,hr,h4⟩:=hz
  subst hr
  refine wpAny_passesOwn hp (thn h4 fun _ s5 hz=>?_)
  obtain⟨x,H5,I5,r5,y5,st5,fr5⟩:=hz
  have I5':=I5.pinned (w0f fr5) (T.obj _ _ st5)
  refine wpAny_passesOwn hp (thn (hg _ s5 σ3 H5 x u _ I5' r5 (step x H5 y5)) fun _ s6 hz=>?_)
  obtain⟨σ6,H6,I6,q6⟩:=hz
  refine wpAny_passesOwn hp (thn (hb _ s6 σ6 H6 _ I6 q6) fun f s7 q7=>?_)
  have again:∀{σ7:St}{H7:Hp},Inv X (pins++y0N fp s5.heap) σ7 H7 s7->N σ7 H7->∃m,m<n/\∃i σ' H',Inv X pins σ' H' s7/\tn i s7.heap/\(∀b∈fp,H' b=none)/\W i m σ' H':=fun {σ7 H7} I7 n7=>by
   obtain⟨m',hm,w7⟩:=hN σ7 H7 n7
   refine⟨m',hm,i+1,σ7,H7,I7.Q9,T.keep _ _ _ st5 fun b hb o e=>(I7.pin (b,o) (cK _ (cK _ (z5b hb e)))).1,fun b hb=>?_,w7⟩
   obtain⟨o,e,d⟩:=T.obj _ _ st5 b hb
   exact(I7.pin (b,o) (cK _ (cK _ (z5b hb e)))).2.1
  cases f with
  | next=>obtain⟨σ7,H7,I7,n7⟩:=q7;exact again I7 n7
  | cont=>obtain⟨σ7,H7,I7,n7⟩:=q7;exact again I7 n7
  | brk=>obtain⟨σ7,H7,I7,q7⟩:=q7;exact⟨σ7,H7,I7.Q9,q7⟩
  | ret v=>obtain⟨x7,σ7,H7,I7,r7,q7⟩:=q7;exact⟨x7,σ7,H7,I7.Q9,r7,q7⟩
end
theorem z1R{K:PySem.W.Frag}{a:Addr}{xs:List V}{g:TG}{tb:TS}{D:Ends}{σ:St}{H:Hp}(Pv:Nat->St->Hp->Prop)(h0:Pv 0 σ H)(hl:∀i σ H,i≤xs.length->Pv i σ H->SqL K H a xs)
  (hs:∀i x σ H,xs[i]? = some x->Pv i σ H->g x σ H fun σ2 H2=>tb { D with nx:=Pv (i+1),ct:=Pv (i+1),bk:=D.nx } σ2 H2) (hd:∀σ H,Pv xs.length σ H->D.nx σ H) :
  ∃W:Nat->Nat->St->Hp->Prop,(∃m,W 0 m σ H)/\∀i m σ H,W i m σ H->
   ((Itl K a).stop i H/\D.nx σ H)\/((Itl K a).go i H/\∃N:St->Hp->Prop,(∀σ' H',N σ' H'->∃m',m'<m/\W (i+1) m' σ' H')/\∀x H',(Itl K a).yld i H x H'->g x σ H' fun σ2 H2=>tb { D with nx:=N,ct:=N,bk:=D.nx } σ2 H2):=by
 refine⟨fun i m σ H=>m=xs.length-i/\i≤xs.length/\Pv i σ H,⟨xs.length,by simp,cW _,h0⟩,?_⟩
 rintro i m σ H ⟨rfl,hi,p⟩
 have q:=hl i σ H hi p
 by_cases hlt:i<xs.length
 ·refine .inr ⟨⟨xs,xs[i],q,by simp[hlt]⟩,Pv (i+1),fun σ' H' p'=>⟨xs.length-(i+1),by lia,rfl,hlt,p'⟩,fun x H' y=>?_⟩
  obtain⟨e,y⟩:=y
  subst e
  exact hs i x σ _ (y xs q) p
 ·have e:i=xs.length:=by lia
  subst e
  exact .inl ⟨⟨xs,q,bJ _⟩,hd σ H p⟩
theorem z4G{K:PySem.W.Frag}{a:Addr}{xs:List V}{g:TG}{tb:TS}{D:Ends}{σ:St}{H:Hp}(Pv:Nat->St->Hp->Prop)(h0:Pv 0 σ H)(hl:∀i σ H,i≤xs.length->Pv i σ H->SqT K H a xs)
  (hs:∀i x σ H,xs[i]? = some x->Pv i σ H->g x σ H fun σ2 H2=>tb { D with nx:=Pv (i+1),ct:=Pv (i+1),bk:=D.nx } σ2 H2) (hd:∀σ H,Pv xs.length σ H->D.nx σ H) :
  ∃W:Nat->Nat->St->Hp->Prop,(∃m,W 0 m σ H)/\∀i m σ H,W i m σ H->
   ((Itt K a).stop i H/\D.nx σ H)\/((Itt K a).go i H/\∃N:St->Hp->Prop,(∀σ' H',N σ' H'->∃m',m'<m/\W (i+1) m' σ' H')/\∀x H',(Itt K a).yld i H x H'->g x σ H' fun σ2 H2=>tb { D with nx:=N,ct:=N,bk:=D.nx } σ2 H2):=by
 refine⟨fun i m σ H=>m=xs.length-i/\i≤xs.length/\Pv i σ H,⟨xs.length,by simp,cW _,h0⟩,?_⟩
 rintro i m σ H ⟨rfl,hi,p⟩
 have q:=hl i σ H hi p
 by_cases hlt:i<xs.length
 ·refine .inr ⟨⟨xs,xs[i],q,by simp[hlt]⟩,Pv (i+1),fun σ' H' p'=>⟨xs.length-(i+1),by lia,rfl,hlt,p'⟩,fun x H' y=>?_⟩
  obtain⟨e,y⟩:=y
  subst e
  exact hs i x σ _ (y xs q) p
 ·have e:i=xs.length:=by lia
  subst e
  exact .inl ⟨⟨xs,q,bJ _⟩,hd σ H p⟩
theorem z15{lo:Int}{n:Nat}{g:TG}{tb:TS}{D:Ends}{σ:St}{H:Hp}(Pv:Nat->St->Hp->Prop)(h0:Pv 0 σ H)
  (hs:∀i σ H,i<n->Pv i σ H->g (.int (lo+i)) σ H fun σ2 H2=>tb { D with nx:=Pv (i+1),ct:=Pv (i+1),bk:=D.nx } σ2 H2) (hd:∀σ H,Pv n σ H->D.nx σ H) :
  ∃W:Nat->Nat->St->Hp->Prop,(∃m,W 0 m σ H)/\∀i m σ H,W i m σ H->
   ((Itr lo n).stop i H/\D.nx σ H)\/((Itr lo n).go i H/\∃N:St->Hp->Prop,(∀σ' H',N σ' H'->∃m',m'<m/\W (i+1) m' σ' H')/\∀x H',(Itr lo n).yld i H x H'->g x σ H' fun σ2 H2=>tb { D with nx:=N,ct:=N,bk:=D.nx } σ2 H2):=by
 refine⟨fun i m σ H=>m=n-i/\i≤n/\Pv i σ H,⟨n,by simp,cW _,h0⟩,?_⟩
 rintro i m σ H ⟨rfl,hi,p⟩
 by_cases hlt:i<n
 ·refine .inr ⟨hlt,Pv (i+1),fun σ' H' p'=>⟨n-(i+1),by lia,rfl,hlt,p'⟩,fun x H' y=>?_⟩
  obtain⟨e,y⟩:=y
  subst e y
  exact hs i σ _ hlt p
 ·have e:i=n:=by lia
  subst e
  exact .inl ⟨bJ _,hd σ H p⟩
abbrev R2:=V->V->Hp->VK->Prop
noncomputable def OpR(X:Cx)(f:Value->Value->Sem Value)(r:R2):Prop:=
 ∀(pins:List (Addr×Obj)) (s:Shared) (σ:St) (H:Hp) (x y:V) (v u:Value) (Q:VK),Inv X pins σ H s->RelV x v->RelV y u->r x y H Q->
  wpAny (model X.prog X.w) X.A (f v u) (EP X pins σ Q) X.xe s
noncomputable def UnR(X:Cx)(f:Value->Sem Value)(r:V->Hp->VK->Prop):Prop:=
 ∀(pins:List (Addr×Obj)) (s:Shared) (σ:St) (H:Hp) (x:V) (v:Value) (Q:VK),Inv X pins σ H s->RelV x v->r x H Q->
  wpAny (model X.prog X.w) X.A (f v) (EP X pins σ Q) X.xe s
noncomputable def z3R(X:Cx)(f:Value)(r:List V->Hp->VK->Prop):Prop:=
 ∀(pins:List (Addr×Obj)) (s:Shared) (σ:St) (H:Hp) (xs:List V) (us:List Value) (Q:VK),Inv X pins σ H s->Vals xs us->r xs H Q->
  wpAny (model X.prog X.w) X.A (call f us) (EP X pins σ Q) X.xe s
noncomputable def tOp(r:R2)(ta tb:TE):TE:=fun σ H Q=>ta σ H fun x H1=>tb σ H1 fun y H2=>r x y H2 Q
noncomputable def tUn(r:V->Hp->VK->Prop)(ta:TE):TE:=fun σ H Q=>ta σ H fun x H1=>r x H1 Q
noncomputable def rI(C:Int->Int->Prop)(g:Int->Int->V):R2:=fun x y H Q=>∃i j,x=.int i/\y=.int j/\C i j/\Q (g i j) H
noncomputable def rI0(g:Int->Int->V):R2:=fun x y H Q=>∃i j,x=.int i/\y=.int j/\Q (g i j) H
noncomputable def rU(g:Int->V):V->Hp->VK->Prop:=fun x H Q=>∃i,x=.int i/\Q (g i) H
section
variable{X:Cx}{a b c:Expr}{ta tb tc:TE}{pos:Pos}
theorem w08(ha:PE X a ta)(hb:PE X b tb){pins:List (Addr×Obj)}{s:Shared}{σ:St}{H:Hp}{R:V->V->Hp->Prop}(I:Inv X pins σ H s)
  (h:ta σ H fun x H1=>tb σ H1 fun y H2=>R x y H2) {Q:Value->Shared->Prop}{f:Value->Value->Sem Value}
  (hf:∀v u s2 x y H2,Inv X pins σ H2 s2->RelV x v->RelV y u->R x y H2->wpAny (model X.prog X.w) X.A (f v u) Q X.xe s2) :
  wpAny (model X.prog X.w) X.A (eval a X.env) (fun v s₁=>wpAny (model X.prog X.w) X.A (eval b X.env) (fun u s₂=>wpAny (model X.prog X.w) X.A (f v u) Q X.xe s₂) X.xe s₁) X.xe s:=by
 refine thn (ha pins s σ H _ I h) fun v s1 hz=>?_
 obtain⟨x,H1,I1,r1,q1⟩:=hz
 refine thn (hb pins s1 σ H1 _ I1 q1) fun u s2 hz=>?_
 obtain⟨y,H2,I2,r2,q2⟩:=hz
 exact hf v u s2 x y H2 I2 r1 r2 q2
theorem z0r{op:Operator}{r:R2}(ho:OpR X (binaryOp op) r)(ha:PE X a ta)(hb:PE X b tb):PE X (.BinOp a op b pos) (tOp r ta tb):=by
 intro pins s σ H Q I h
 exact wpAny_BinOp (w08 ha hb I h fun v u s2 x y H2 I2 rx ry q=>ho pins s2 σ H2 x y v u Q I2 rx ry q)
theorem y1D{op:UnaryOp}{r:V->Hp->VK->Prop}(ho:UnR X (unaryOp op) r)(ha:PE X a ta):PE X (.UnaryOp op a pos) (tUn r ta):=by
 intro pins s σ H Q I h
 exact UnaryOp_ (thn (ha pins s σ H _ I h) fun v s1 ⟨x,H1,I1,r1,q1⟩=>ho pins s1 σ H1 x v Q I1 r1 q1)
theorem opI{f:Value->Value->Sem Value}{C:Int->Int->Prop}{g:Int->Int->Int}
  (rule:∀(i j:Int) (t u:Tok) (s:Shared) (Q:Value->Shared->Prop) (E:Value->Shared->Prop),C i j->Q (.int (g i j) s.toks) { s with toks:=s.toks+1 }->wpAny (model X.prog X.w) X.A (f (.int i t) (.int j u)) Q E s) :
  OpR X f (rI C fun i j=>.int (g i j)):=by
 intro pins s σ H x y v u Q I rx ry h
 obtain⟨i,j,rfl,rfl,hc,q⟩:=h
 obtain⟨t,rfl⟩:=rx
 obtain⟨t',rfl⟩:=ry
 exact rule i j t t' s _ _ hc ⟨.int (g i j),H,I.tok _,⟨_,rfl⟩,q⟩
theorem opI0{f:Value->Value->Sem Value}{g:Int->Int->Int}
  (rule:∀(i j:Int) (t u:Tok) (s:Shared) (Q:Value->Shared->Prop) (E:Value->Shared->Prop),Q (.int (g i j) s.toks) { s with toks:=s.toks+1 }->wpAny (model X.prog X.w) X.A (f (.int i t) (.int j u)) Q E s) :
  OpR X f (rI0 fun i j=>.int (g i j)):=by
 intro pins s σ H x y v u Q I rx ry h
 obtain⟨i,j,rfl,rfl,q⟩:=h
 obtain⟨t,rfl⟩:=rx
 obtain⟨t',rfl⟩:=ry
 exact rule i j t t' s _ _ ⟨.int (g i j),H,I.tok _,⟨_,rfl⟩,q⟩
theorem Z2{f:Value->Value->Sem Value}{g:Int->Int->Bool}
  (rule:∀(i j:Int) (t u:Tok) (s:Shared) (Q:Value->Shared->Prop) (E:Value->Shared->Prop),Q (.bool (g i j)) s->wpAny (model X.prog X.w) X.A (f (.int i t) (.int j u)) Q E s) :
  OpR X f (rI0 fun i j=>.bl (g i j)):=by
 intro pins s σ H x y v u Q I rx ry h
 obtain⟨i,j,rfl,rfl,q⟩:=h
 obtain⟨t,rfl⟩:=rx
 obtain⟨t',rfl⟩:=ry
 exact rule i j t t' s _ _ ⟨.bl (g i j),H,I,rfl,q⟩
noncomputable def CDiv(i j:Int):Prop:=0<j/\j<1073741824
noncomputable def CPow(i j:Int):Prop:=0≤j/\j≤1000000/\i.natAbs<2^64
noncomputable def w0j(i j:Int):Prop:=(-(2^64)<i/\i<2^64)\/(-(2^64)<j/\j<2^64)
theorem w0j.ok{i j:Int}(h:w0j i j):IntMulOk i j:=by
 rcases h with ⟨h1,h2⟩|⟨h1,h2⟩
 ·exact .of_left (intBits_le_64 h1 h2)
 ·exact .of_right (intBits_le_64 h1 h2)
theorem z1o:OpR X (binaryOp .Add) (rI0 fun i j=>.int (i+j)):=opI0 fun _ _ _ _ _ _ _ q=>add_int q
theorem z25:OpR X (binaryOp .Sub) (rI0 fun i j=>.int (i-j)):=opI0 fun _ _ _ _ _ _ _ q=>sub_int q
theorem z3P:OpR X (binaryOp .Mult) (rI w0j fun i j=>.int (i*j)):=opI fun _ _ _ _ _ _ _ hc q=>mul_int q hc.ok
theorem z1B:OpR X (binaryOp .FloorDiv) (rI CDiv fun i j=>.int (i / j)):=opI fun i j _ _ _ _ _ hc q=>by
 have h1:(0:Int)<j:=hc.1
 have h2:j<1073741824:=hc.2
 exact floordiv_int (by lia) (by rw[Int.fdiv_eq_ediv_of_nonneg i (by lia)];exact q) (.inl (PyProof.noPylong_small (by lia)))
theorem z19:OpR X (binaryOp .Mod) (rI (fun _ j=>0<j) fun i j=>.int (i%j)):=opI fun i j _ _ _ _ _ hc q=>by
 have h1:(0:Int)<j:=hc
 exact mod_int' (by lia) (by rw[Int.fmod_eq_emod_of_nonneg i (by lia)];exact q)
theorem y8e:OpR X (binaryOp .Pow) (rI CPow fun i j=>.int (i^j.toNat)):=opI fun _ _ _ _ _ _ _ hc q=>pow_int_small hc.1 hc.2.1 hc.2.2 q
theorem unI{f:Value->Sem Value}{g:Int->Int}
  (rule:∀(i:Int) (t:Tok) (s:Shared) (Q:Value->Shared->Prop) (E:Value->Shared->Prop),Q (.int (g i) s.toks) { s with toks:=s.toks+1 }->wpAny (model X.prog X.w) X.A (f (.int i t)) Q E s) :
  UnR X f (rU fun i=>.int (g i)):=by
 intro pins s σ H x v Q I rx h
 obtain⟨i,rfl,q⟩:=h
 obtain⟨t,rfl⟩:=rx
 exact rule i t s _ _ ⟨.int (g i),H,I.tok _,⟨_,rfl⟩,q⟩
theorem z89:UnR X (unaryOp .USub) (rU fun i=>.int (-i)):=unI fun _ _ _ _ _ q=>neg_int q
end
noncomputable def w0n:V->V->Bool
 | .non,.non=>true|.non,.int _=>true|.int _,.non=>true|.non,.bl _=>true|.bl _,.non=>true|.non,.str _=>true|.str _,.non=>true
 | .int _,.int _=>true|.bl _,.bl _=>true|.str _,.str _=>true|.byt _,.byt _=>true
 | .int _,.str _=>true|.str _,.int _=>true|.bl _,.str _=>true|.str _,.bl _=>true
 | _,_=>false
noncomputable def rEq:R2:=fun x y H Q=>w0n x y=true/\Q (.bl (decide (x=y))) H
noncomputable def rNe:R2:=fun x y H Q=>w0n x y=true/\Q (.bl (!decide (x=y))) H
theorem y59{i j:Int}:decide (V.int i=V.int j)=(i == j):=by
 rw[dA]
 simp
theorem y72{i j:Bool}:decide (V.bl i=V.bl j)=(i == j):=by
 rw[dA]
 simp
theorem y4N{i j:Str}:decide (V.str i=V.str j)=(i == j):=by
 rw[dA]
 simp
theorem y5r{i j:Array UInt8}:decide (V.byt i=V.byt j)=(i.toList == j.toList):=by
 rw[dA]
 cases i
 cases j
 simp
section
variable{X:Cx}{a b c:Expr}{ta tb tc:TE}{pos:Pos}
theorem z1h{pins:List (Addr×Obj)}{σ:St}{H:Hp}{s:Shared}{Q:VK}{k k':Bool}(I:Inv X pins σ H s)(q:Q (.bl k) H)(e:k=k'):EP X pins σ Q (.bool k') s:=by
 subst e
 exact⟨.bl k,H,I,rfl,q⟩
theorem z28:OpR X (compareOp .Eq) rEq:=by
 intro pins s σ H x y v u Q I rx ry h
 obtain⟨hs,q⟩:=h
 cases x with
 | non=>
  cases rx
  cases y with
  | non=>cases ry;exact PySem.EqNone.eq_none_none (z1h I q (by simp))
  | bl j=>cases ry;exact PySem.EqNone.eq_none_bool (z1h I q (by simp))
  | int j=>obtain⟨t',rfl⟩:=ry;exact PySem.EqNone.eq_none_int (z1h I q (by simp))
  | str j=>obtain⟨t',rfl⟩:=ry;exact PySem.EqNone.eq_none_str (z1h I q (by simp))
  | _=>exact absurd (show false=true from hs) bM
 | bl i=>
  cases rx
  cases y with
  | non=>cases ry;exact PySem.EqNone.eq_bool_none (z1h I q (by simp))
  | bl j=>cases ry;exact eq_bool (z1h I q y72)
  | str j=>obtain⟨t',rfl⟩:=ry;exact PySem.EqMixed.eq_bool_str (z1h I q (by simp))
  | _=>exact absurd (show false=true from hs) bM
 | int i=>
  obtain⟨t,rfl⟩:=rx
  cases y with
  | non=>cases ry;exact PySem.EqNone.eq_int_none (z1h I q (by simp))
  | int j=>obtain⟨t',rfl⟩:=ry;exact eq_int (z1h I q y59)
  | str j=>obtain⟨t',rfl⟩:=ry;exact PySem.EqMixed.eq_int_str (z1h I q (by simp))
  | _=>exact absurd (show false=true from hs) bM
 | str i=>
  obtain⟨t,rfl⟩:=rx
  cases y with
  | non=>cases ry;exact PySem.EqNone.eq_str_none (z1h I q (by simp))
  | bl j=>cases ry;exact PySem.EqMixed.eq_str_bool (z1h I q (by simp))
  | int j=>obtain⟨t',rfl⟩:=ry;exact PySem.EqMixed.eq_str_int (z1h I q (by simp))
  | str j=>obtain⟨t',rfl⟩:=ry;exact eq_str (z1h I q y4N)
  | _=>exact absurd (show false=true from hs) bM
 | byt i=>
  obtain⟨t,rfl⟩:=rx
  cases y with
  | byt j=>obtain⟨t',rfl⟩:=ry;exact PySem.W.eq_bytes (z1h I q y5r)
  | _=>exact absurd (show false=true from hs) bM
 | _=>cases y<;>exact absurd (show false=true from hs) bM
theorem z79:OpR X (compareOp .NotEq) rNe:=by
 intro pins s σ H x y v u Q I rx ry h
 obtain⟨hs,q⟩:=h
 cases x with
 | non=>
  cases rx
  cases y with
  | non=>cases ry;exact PySem.EqNone.ne_none_none (z1h I q (by simp))
  | bl j=>cases ry;exact PySem.EqNone.ne_none_bool (z1h I q (by simp))
  | int j=>obtain⟨t',rfl⟩:=ry;exact PySem.EqNone.ne_none_int (z1h I q (by simp))
  | str j=>obtain⟨t',rfl⟩:=ry;exact PySem.EqNone.ne_none_str (z1h I q (by simp))
  | _=>exact absurd (show false=true from hs) bM
 | bl i=>
  cases rx
  cases y with
  | non=>cases ry;exact PySem.EqNone.ne_bool_none (z1h I q (by simp))
  | bl j=>cases ry;exact ne_bool (z1h I q (congrArg not y72))
  | str j=>obtain⟨t',rfl⟩:=ry;exact PySem.EqMixed.ne_bool_str (z1h I q (by simp))
  | _=>exact absurd (show false=true from hs) bM
 | int i=>
  obtain⟨t,rfl⟩:=rx
  cases y with
  | non=>cases ry;exact PySem.EqNone.ne_int_none (z1h I q (by simp))
  | int j=>obtain⟨t',rfl⟩:=ry;exact ne_int (z1h I q (congrArg not y59))
  | str j=>obtain⟨t',rfl⟩:=ry;exact PySem.EqMixed.ne_int_str (z1h I q (by simp))
  | _=>exact absurd (show false=true from hs) bM
 | str i=>
  obtain⟨t,rfl⟩:=rx
  cases y with
  | non=>cases ry;exact PySem.EqNone.ne_str_none (z1h I q (by simp))
  | bl j=>cases ry;exact PySem.EqMixed.ne_str_bool (z1h I q (by simp))
  | int j=>obtain⟨t',rfl⟩:=ry;exact PySem.EqMixed.ne_str_int (z1h I q (by simp))
  | str j=>obtain⟨t',rfl⟩:=ry;exact ne_str (z1h I q (congrArg not y4N))
  | _=>exact absurd (show false=true from hs) bM
 | byt i=>
  obtain⟨t,rfl⟩:=rx
  cases y with
  | byt j=>obtain⟨t',rfl⟩:=ry;exact PySem.W.ne_bytes (z1h I q (congrArg not y5r))
  | _=>exact absurd (show false=true from hs) bM
 | _=>cases y<;>exact absurd (show false=true from hs) bM
theorem z8l:OpR X (compareOp .Lt) (rI0 fun i j=>.bl (decide (i<j))):=Z2 fun _ _ _ _ _ _ _ q=>lt_int q
theorem y4s:OpR X (compareOp .LtE) (rI0 fun i j=>.bl (decide (i≤j))):=Z2 fun _ _ _ _ _ _ _ q=>le_int q
theorem z2o:OpR X (compareOp .Gt) (rI0 fun i j=>.bl (decide (j<i))):=Z2 fun _ _ _ _ _ _ _ q=>gt_int q
theorem y6q:OpR X (compareOp .GtE) (rI0 fun i j=>.bl (decide (j≤i))):=Z2 fun _ _ _ _ _ _ _ q=>ge_int q
theorem z0m(b:Expr){op:CmpOp}(h:op≠.In:=by decide)(h2:op≠.NotIn:=by decide):behindInMarks op b=false:=by
 have e1:(op == CmpOp.In)=false:=by cases op<;>first|rfl|exact absurd rfl h
 have e2:(op == CmpOp.NotIn)=false:=by cases op<;>first|rfl|exact absurd rfl h2
 cases b<;>simp[behindInMarks,e1,e2]
theorem z8T{op:CmpOp}{r:R2}(ho:OpR X (compareOp op) r)(ha:PE X a ta)(hb:PE X b tb)(hm:behindInMarks op b=false):PE X (.Compare a [op] [b] pos) (tOp r ta tb):=by
 intro pins s σ H Q I h
 exact wpAny_Compare1 (w08 ha hb I h fun v u s2 x y H2 I2 rx ry q=>ho pins s2 σ H2 x y v u Q I2 rx ry q) hm
noncomputable def w1A(t:TE):TT:=fun σ H Q=>t σ H fun x H'=>∃k,x=.bl k/\Q k H'
theorem z0c{op:CmpOp}{r:R2}(ho:OpR X (compareOp op) r)(ha:PE X a ta)(hb:PE X b tb)(hm:behindInMarks op b=false):PT X (.Compare a [op] [b] pos) (w1A (tOp r ta tb)):=by
 intro pins s σ H Q I h
 refine wpAny_isTrue_Compare1 (thn (ha pins s σ H _ I h) fun v s1 ⟨x,H1,I1,r1,q1⟩=>thn (hb pins s1 σ H1 _ I1 q1) fun u s2 ⟨y,H2,I2,r2,q2⟩=>
  thn (ho pins s2 σ H2 x y v u _ I2 r1 r2 q2) fun c s3 ⟨z,H3,I3,r3,k,e,q3⟩=>?_) hm
 subst e
 cases r3
 exact wpAny_truthy_bool ⟨H3,I3,q3⟩
theorem z8v:(sizeLine:Nat)<2^63:=by rw[sizeLine_eq];decide
theorem z9A:OpR X (binaryOp .Add) (fun x y H Q=>∃i j,x=.str i/\y=.str j/\i.length+j.length≤sizeLine/\Q (.str (i++j)) H):=by
 intro pins s σ H x y v u Q I rx ry h
 obtain⟨i,j,rfl,rfl,hz,q⟩:=h
 obtain⟨t,rfl⟩:=rx
 obtain⟨t',rfl⟩:=ry
 exact add_str (fun t' tk=>⟨.str (i++j),H,I.tok _,⟨_,rfl⟩,q⟩) hz
theorem z4y{x:V}{us:List Value}(r:Vals [x] us):∃u,us=[u]/\RelV x u:=by
 cases r with
 | cons r1 r2=>cases r2;exact⟨_,rfl,r1⟩
theorem y3V{x y:V}{us:List Value}(r:Vals [x,y] us):∃u w',us=[u,w']/\RelV x u/\RelV y w':=by
 cases r with
 | cons r1 r2=>
  cases r2 with
  | cons r3 r4=>cases r4;exact⟨_,_,rfl,r1,r3⟩
theorem y0E(hc:X.calm=true):z3R X (.builtin "max") (fun xs H Q=>∃i j,xs=[.int i,.int j]/\Q (.int (if j > i then j else i)) H):=by
 intro pins s σ H xs us Q I r h
 obtain⟨i,j,rfl,q⟩:=h
 obtain⟨u,w',rfl,⟨t,rfl⟩,⟨t',rfl⟩⟩:=y3V r
 refine max_two_ints (I.ok.hd hc) fun h' tk k=>⟨_,H,I.kept k,?_,q⟩
 by_cases hj:j > i
 ·rw[if_pos hj,if_pos hj];exact⟨_,rfl⟩
 ·rw[if_neg hj,if_neg hj];exact⟨_,rfl⟩
theorem y4K(hc:X.calm=true):z3R X (.builtin "min") (fun xs H Q=>∃i j,xs=[.int i,.int j]/\Q (.int (if j<i then j else i)) H):=by
 intro pins s σ H xs us Q I r h
 obtain⟨i,j,rfl,q⟩:=h
 obtain⟨u,w',rfl,⟨t,rfl⟩,⟨t',rfl⟩⟩:=y3V r
 refine min_two_ints (I.ok.hd hc) fun h' tk k=>⟨_,H,I.kept k,?_,q⟩
 by_cases hj:j<i
 ·rw[if_pos hj,if_pos hj];exact⟨_,rfl⟩
 ·rw[if_neg hj,if_neg hj];exact⟨_,rfl⟩
end
structure W5(h:Heap)(x dx C:Addr)(mA:Str->Option Value):Prop where
 obj:h.get? x=some (PySem.W.instObj C dx)
 ns:h.Ns1 dx mA
 ne:dx≠x
theorem y4n{h:Heap}{dx:Addr}{mA:Str->Option Value}(n:h.Ns1 dx mA):∃od,h.get? dx=some od/\∀name,PySem.W.lookIn name od=some (mA name):=by
 obtain⟨o,es,ep,ho,hd,hk,_,hm⟩:=n
 refine⟨o,ho,fun name=>?_⟩
 have e:=hm name
 unfold nsFind findBy at e
 rw[<- Array.find?_toList] at e
 unfold PySem.W.lookIn
 rw[hd]
 dsimp only
 split
 ·rename_i y q
  rw[q] at e
  exact congrArg some e
 ·rename_i q
  rw[q] at e
  have a:es.toList.any (·.refKey)=false:=by
   rw[kE]
   intro y hy
   obtain⟨z,t,hkey⟩:=hk y (Array.mem_toList_iff.mp hy)
   simp[DictEntry.refKey,hkey]
  have a':¬es.toList.any (·.refKey)=true:=by rw[a];exact bM
  rw[if_neg a']
  exact congrArg some e
theorem W5.look{h:Heap}{x dx C:Addr}{mA:Str->Option Value}(I:W5 h x dx C mA):∃od,PySem.W.InstAt h x (PySem.W.instObj C dx) C (some od)/\∀name,PySem.W.lookIn name od=some (mA name):=
 let ⟨od,ho,hl⟩:=y4n I.ns
 ⟨od,⟨I.obj,rfl,rfl,ho⟩,hl⟩
section
variable{prog:Program}{w:World}{A:Around}{E:Value->Shared->Prop}{s:Shared}{K:PySem.W.Frag}{x dx C f:Addr}{mA:Str->Option Value}{name:Str}{v:Value}
theorem y7k{expr:Bool}{Q:Value->Shared->Prop}(X:K.In s.heap)(I:W5 s.heap x dx C mA)(hg:PySem.W.plainGet K C name=true)(hh:PySem.W.hasDictIn K C=true)
  (ha:PySem.W.findIn K (.ref C) name=some none) (hv:mA name=some v) (hv':PySem.W.handedIn v=true) (h:Q v { s with toks:=s.toks+1 }) :
  wpAny (model prog w) A (getAttr (.ref x) name expr) Q E s:=by
 obtain⟨od,J,hl⟩:=I.look
 exact PySem.W.get_value X J (jX hg).1 (PySem.W.findObj_own hh ha rfl (by rw[hl,hv])) hv' h
theorem y5B{pl:Sem Bool}{Q:Value×List Value->Shared->Prop}(X:K.In s.heap)(I:W5 s.heap x dx C mA)(hg:PySem.W.plainGet K C name=true)
  (hf:PySem.W.findIn K (.ref C) name=some (some (.ref f))) (ht:PySem.W.isFn K (.ref f)=true) (hv:mA name=none) (h:Q (.ref f,[.ref x]) s) :
  wpAny (model prog w) A (getMethod (.ref x) name pl) Q E s:=by
 obtain⟨od,J,hl⟩:=I.look
 exact PySem.W.method_fn X J (jX hg).1 (jX hg).2 hf (beq_iff_eq.mp ht) (by show(PySem.W.lookIn name od).map (·.isSome)=some false;rw[hl,hv];rfl) h
theorem y7t{ns:List Str}{Q:Unit->Shared->Prop}(X:K.In s.heap)(I:W5 s.heap x dx C mA)
  (hs:PySem.W.findIn K (.ref C) "__setattr__"=some (some (.builtin "object.__setattr__"))) (hp:PySem.W.plainOver K C=true) (ht:PySem.W.takerIn K C name=some none) (hh:PySem.W.hasDictIn K C=true)
  (hw:PySem.Within mA ns) (hsz:ns.length≤sizeLine)
  (h:∀h',W5 h' x dx C (fun y=>if y=name then some v else mA y)->Heap.SameBut dx s.heap h'->Q () { s with heap:=h',toks:=s.toks+2 }) :
  wpAny (model prog w) A (setAttr (.ref x) name v) Q E s:=by
 obtain⟨od,J,hl⟩:=I.look
 refine PySem.W.set_plain X J hs (PySem.W.osa_open (s:={ s with toks:=s.toks+1 }) (r:=none) X J hp ht fun b=>?_)
 obtain⟨cd,hc,hd'⟩:=PySem.W.any_some hh
 have hx:s.heap.get? x=some ⟨.ref C,some dx,.plain,#[]⟩:=I.obj
 refine wpAny_bind (wpAny_pure (wpAny_bind (wpAny_bind (wpAny_loadPart hx (wpAny_bind (PySem.W.Looks.here (s:={ s with toks:=s.toks+1 }) (PySem.W.looks_clsIn X hc) ?_))))))
 rw[hd']
 refine wpAny_pure (a:=some dx) (wpAny_bind (wpAny_pure (wpAny_bind ?_)))
 refine wpAny_nsSet1 (s:={ s with toks:=s.toks+1 }) I.ns fun h' hn2 hs2=>?_
 obtain⟨oD,esD,epD,hoD,hdD,hcD⟩:=hn2.count (PySem.Within.cons name v hw)
 refine wpAny_bind (wpAny_lookBehind hoD (by rw[hdD];exact pastItsLine_dict (cM hcD (by rw[cN];lia))) ?_)
 exact wpAny_pure (h _ ⟨(hs2.2 _ (dG I.ne)).trans I.obj,hn2,I.ne⟩ hs2)
theorem y6f{R:Result->Shared->Prop}{vs:List Value}{kw:List (Str×Value)}(X:K.In s.heap)(hm:PySem.W.makesIn K C=true)
  (hi:PySem.W.findIn K (.ref C) "__init__"=some (some (.ref f))) (hf:PySem.W.typeIn K (.ref f)=some (.type "function"))
  (h:codeAny (model prog w) (A.under (.builtin "type.__call__" ⟨.ref C::vs,kw⟩)) (.call (.ref f) ⟨.ref (s.heap.objs.size+1)::vs,kw⟩) (PySem.W.InitBack (s.heap.objs.size+1) R)
   { s with heap:=(s.heap.push PySem.W.emptyDict).push (PySem.W.instObj C s.heap.objs.size) }) :
  codeAny (model prog w) A (.call (.ref C) ⟨vs,kw⟩) R s:=by
 obtain⟨hh,g,d,t,os⟩:=s
 exact PySem.W.make_core (PySem.W.makes_of X hm) (PySem.W.looks_findIn X hi) (fun self=>PySem.W.bind_fn X self hf) (.inl rfl) h
end
noncomputable def K7(f:Str)(v:V):List (Str×V)->List (Str×V)
 | []=>[(f,v)]
 | (g,x)::r=>if g=f then (g,v)::r else (g,x)::K7 f v r
theorem z0u(f g:Str)(v:V):∀fs:List (Str×V),(K7 f v fs).lookup g=if g=f then some v else fs.lookup g
 | []=>by
  show List.lookup g [(f,v)]=_
  by_cases h:g=f
  ·have hb:(g == f)=true:=beq_iff_eq.mpr h
   simp only[List.lookup,hb,if_pos h]
  ·have hb:(g == f)=false:=beq_eq_false_iff_ne.mpr h
   simp only[List.lookup,hb,if_neg h]
 | (k,x)::r=>by
  have ih:=z0u f g v r
  rw[show K7 f v ((k,x)::r)=(if k=f then (k,v)::r else (k,x)::K7 f v r) from rfl]
  by_cases hk:k=f
  ·rw[if_pos hk]
   by_cases h:g=k
   ·have hb:(g == k)=true:=beq_iff_eq.mpr h
    simp only[List.lookup,hb,if_pos (h.trans hk)]
   ·have hb:(g == k)=false:=beq_eq_false_iff_ne.mpr h
    simp only[List.lookup,hb,if_neg (fun e:g=f=>h (e.trans hk.symm))]
  ·rw[if_neg hk]
   by_cases h:g=k
   ·have hb:(g == k)=true:=beq_iff_eq.mpr h
    simp only[List.lookup,hb,if_neg (fun e:g=f=>hk (h.symm.trans e))]
   ·have hb:(g == k)=false:=beq_eq_false_iff_ne.mpr h
    simp only[List.lookup,hb]
    exact ih
theorem z8L(f:Str)(v:V):∀fs:List (Str×V),f∈(K7 f v fs).map (·.1)/\∀g,g∈fs.map (·.1)->g∈(K7 f v fs).map (·.1)
 | []=>⟨by simp[K7],fun g h=>by simp at h⟩
 | (k,x)::r=>by
  obtain⟨i1,i2⟩:=z8L f v r
  rw[show K7 f v ((k,x)::r)=(if k=f then (k,v)::r else (k,x)::K7 f v r) from rfl]
  by_cases hk:k=f
  ·rw[if_pos hk]
   subst hk
   exact⟨by simp,fun g h=>by simpa using h⟩
  ·rw[if_neg hk]
   refine⟨?_,fun g h=>?_⟩
   ·rw[cV]
    exact cG _ i1
   ·rw[cV] at h ⊢
    rcases bF.mp h with e|e
    ·exact bF.mpr (.inl e)
    ·exact cG _ (i2 g e)
theorem z20(f:Str)(v:V):∀fs:List (Str×V),(K7 f v fs).length≤fs.length+1
 | []=>by simp[K7]
 | (k,x)::r=>by
  have ih:=z20 f v r
  rw[show K7 f v ((k,x)::r)=(if k=f then (k,v)::r else (k,x)::K7 f v r) from rfl]
  by_cases hk:k=f
  ·rw[if_pos hk,cN,cN];lia
  ·rw[if_neg hk,cN,cN];lia
theorem P0.some_of{v:V}{o:Option Value}(r:P0 (some v) o):∃u,o=some u/\RelV v u:=by
 cases o with
 | none=>exact(show False from r).elim
 | some u=>exact⟨u,rfl,r⟩
theorem P0.none_of{o:Option Value}(r:P0 none o):o=none:=by
 cases o with
 | none=>rfl
 | some u=>exact(show False from r).elim
theorem y4w{v:V}{u:Value}(r:RelV v u):PySem.W.handedIn u=true:=by
 cases v with
 | non=>cases (show u=Value.none from r);rfl
 | bl b=>cases (show u=Value.bool b from r);rfl
 | int i=>obtain⟨t,e⟩:=(show ∃t,u=Value.int i t from r);cases e;rfl
 | str x=>obtain⟨t,e⟩:=(show ∃t,u=Value.str x t from r);cases e;rfl
 | byt b=>obtain⟨t,e⟩:=(show ∃t,u=Value.bytes b t from r);cases e;rfl
 | flt b=>obtain⟨t,e⟩:=(show ∃t,u=Value.float b t from r);cases e;rfl
 | ref a=>cases (show u=Value.ref a from r);rfl
 | ty n=>cases (show u=Value.type n from r);rfl
section
variable{P:Program}{w:World}{H H':Hp}{h h':Heap}{a C dx:Addr}{fs fs':List (Str×V)}
theorem y01(hok:HOk P w H h)(e:H a=some (.ins C dx fs)):∃mA,W5 h a dx C mA/\(∀f,P0 (fs.lookup f) (mA f))/\PySem.Within mA (fs.map (·.1))/\fs.length≤1000/\H dx=some (.own a):=by
 obtain⟨d,z,ne,ob,mA,n,r,q⟩:=(show z1L P w H h a (.ins C dx fs) from hok a _ e)
 exact⟨mA,⟨ob,n,ne⟩,r,q,z,d⟩
end
structure Cls(K:PySem.W.Frag)(C:Addr):Prop where
 pg:PySem.W.plainGet K C Str.empty=true
 hd:PySem.W.hasDictIn K C=true
 po:PySem.W.plainOver K C=true
 sa:PySem.W.findIn K (.ref C) "__setattr__"=some (some (.builtin "object.__setattr__"))
theorem Cls.get{K:PySem.W.Frag}{C:Addr}(c:Cls K C)(f:Str):PySem.W.plainGet K C f=true:=c.pg
noncomputable def z3s(K:PySem.W.Frag)(C:Addr)(f:Str):Prop:=PySem.W.findIn K (.ref C) f=some none
theorem z3s.w0L{K:PySem.W.Frag}{C:Addr}{f:Str}(n:z3s K C f):PySem.W.takerIn K C f=some none:=by
 unfold PySem.W.takerIn
 rw[show PySem.W.findIn K (.ref C) f=some none from n]
 rfl
structure Meth(K:PySem.W.Frag)(C:Addr)(m:Str)(f:Addr):Prop where
 at_:PySem.W.findIn K (.ref C) m=some (some (.ref f))
 fn:PySem.W.isFn K (.ref f)=true
 kp:PySem.W.keepIn K (.ref f)=true
section
variable{X:Cx}{pins:List (Addr×Obj)}{σ:St}{H:Hp}{s:Shared}{a C dx:Addr}{fs:List (Str×V)}{f:Str}{v:V}{A:Around}{E:Value->Shared->Prop}
theorem y3g{b:Bool}{Q:Value->Shared->Prop}(I:Inv X pins σ H s)(e:H a=some (.ins C dx fs))(c:Cls X.K C)(n:z3s X.K C f)(l:fs.lookup f=some v)
  (h:∀u s',Inv X pins σ H s'->RelV v u->Q u s'):wpAny (model X.prog X.w) A (getAttr (.ref a) f b) Q E s:=by
 obtain⟨mA,O,r,_,_,_⟩:=y01 I.hok e
 obtain⟨u,hu,ru⟩:=P0.some_of (v:=v) (o:=mA f) (by rw[<- l];exact r f)
 exact y7k I.kIn O (c.get f) c.hd n hu (y4w ru) (h u _ (I.tok _) ru)
theorem z71{m:Str}{g:Addr}{pl:Sem Bool}{Q:Value×List Value->Shared->Prop}(I:Inv X pins σ H s)(e:H a=some (.ins C dx fs))(c:Cls X.K C)(k:Meth X.K C m g)(l:fs.lookup m=none)
  (h:Q (.ref g,[.ref a]) s):wpAny (model X.prog X.w) A (getMethod (.ref a) m pl) Q E s:=by
 obtain⟨mA,O,r,_,_,_⟩:=y01 I.hok e
 have hn:mA m=none:=P0.none_of (by rw[<- l];exact r m)
 exact y5B I.kIn O (c.get m) k.at_ k.fn hn h
theorem y38{y:V}{u:Value}{Q:Unit->Shared->Prop}(I:Inv X pins σ H s)(e:H a=some (.ins C dx fs))(c:Cls X.K C)(n:z3s X.K C f)(hl:fs.length<1000)(ry:RelV y u)
  (h:∀s',Inv X pins σ (upd H a (.ins C dx (K7 f y fs))) s'->Q () s'):wpAny (model X.prog X.w) A (setAttr (.ref a) f u) Q E s:=by
 obtain⟨mA,O,r,wi,_,ho⟩:=y01 I.hok e
 have hz:(fs.map (·.1)).length≤sizeLine:=by rw[bA,sizeLine_eq];lia
 refine y7t I.kIn O c.sa c.po n.w0L c.hd wi hz fun h' O' sb=>h _ ?_
 have hd:∃o,h'.get? dx=some o:=let ⟨o,_,_,e',_⟩:=O'.ns;⟨o,e'⟩
 refine I.write (x:=a) (e:=dx) (by rw[e];exact True.intro) (.inr ho) (fun b q hb z=>(sb.2 b hb).trans z) hd ?_
 refine⟨by rw[z0l O.ne];exact ho,?_,O.ne,O'.obj,_,O'.ns,fun g=>?_,fun g hg=>?_⟩
 ·have:=z20 f y fs;lia
 ·show P0 ((K7 f y fs).lookup g) (if g=f then some u else mA g)
  rw[z0u]
  by_cases q:g=f
  ·rw[if_pos q,if_pos q];exact ry
  ·rw[if_neg q,if_neg q];exact r g
 ·by_cases q:g=f
  ·rw[q];exact(z8L f y fs).1
  ·refine(z8L f y fs).2 g (wi g fun z=>hg ?_)
   show(if g=f then some u else mA g)=none
   rw[if_neg q];exact z
theorem Inv.made(I:Inv X pins σ H s):Inv X pins σ (upd (upd H s.heap.objs.size (.own (s.heap.objs.size+1))) (s.heap.objs.size+1) (.ins C s.heap.objs.size []))
  { s with heap:=(s.heap.push PySem.W.emptyDict).push (PySem.W.instObj C s.heap.objs.size) }:=by
 have e1:(s.heap.push PySem.W.emptyDict).get? s.heap.objs.size=some PySem.W.emptyDict:=bK s.heap rfl
 have e2:((s.heap.push PySem.W.emptyDict).push (PySem.W.instObj C s.heap.objs.size)).get? (s.heap.objs.size+1)=some (PySem.W.instObj C s.heap.objs.size):=by
  have:=bK (s.heap.push PySem.W.emptyDict) (o:=PySem.W.instObj C s.heap.objs.size) rfl
  rwa [eI] at this
 have e3:(s.heap.push PySem.W.emptyDict).Ns s.heap.objs.size (fun _=>none):=⟨PySem.W.emptyDict,#[],_,e1,rfl,(fun e he=>absurd he (by simp)),fun _=>rfl⟩
 have I1:=I.laid (a:=s.heap.objs.size) (o:=.own (s.heap.objs.size+1)) (h':=s.heap.push PySem.W.emptyDict) (t':=s.toks) (fun b u q=>bB _ q) (bJ _) ⟨_,e1⟩
 refine I1.laid (a:=s.heap.objs.size+1) (o:=.ins C s.heap.objs.size []) (t':=s.toks) (fun b u q=>bB _ q) (Nat.le_of_eq (eI _ _)) ?_
 have ne:s.heap.objs.size≠s.heap.objs.size+1:=cL (h8 _)
 refine⟨by rw[z0l ne,z03],cW _,ne,e2,fun _=>none,(Heap.Ns1.of_empty e3).at fun o q=>bB _ q,fun _=>True.intro,fun y hy=>absurd rfl hy⟩
theorem y85{prog:Program}{w:World}{env:Env}{e:Expr}{f:Str}{pos:Pos}{s:Shared}{Q:Value->Shared->Prop}(hb:attributeBase e f env (eval e env)=eval e env)
  (h:wpAny (model prog w) A (eval e env) (fun o s₁=>wpAny (model prog w) A (getAttr o f true) Q E s₁) E s):wpAny (model prog w) A (eval (.Attribute e f pos) env) Q E s:=
 Attribute_any_ h (by rw[arm_eval_Attribute,hb])
end
noncomputable def Z7(K:PySem.W.Frag)(ta:TE)(f:Str):TE:=fun σ H Q=>ta σ H fun x H1=>∃a C dx fs v,x=.ref a/\H1 a=some (.ins C dx fs)/\Cls K C/\z3s K C f/\fs.lookup f=some v/\Q v H1
noncomputable def sFld(K:PySem.W.Frag)(ta tv:TE)(f:Str):TS:=fun D σ H=>tv σ H fun y H1=>ta σ H1 fun x H2=>∃a C dx fs,x=.ref a/\H2 a=some (.ins C dx fs)/\Cls K C/\z3s K C f/\fs.length<1000/\
 D.nx σ (upd H2 a (.ins C dx (K7 f y fs)))
section
variable{X:Cx}{o e value:Expr}{f:Str}{pos pos' tpos:Pos}{ta tv:TE}
theorem z0M(he:PE X e ta)(hb:attributeBase e f X.env (eval e X.env)=eval e X.env):PE X (.Attribute e f pos) (Z7 X.K ta f):=by
 intro pins s σ H Q I h
 refine y85 hb (thn (he pins s σ H _ I h) fun u s1 hz=>?_)
 obtain⟨x,H1,I1,rx,a,C,dx,fs,v,ex,ea,c,n,l,q⟩:=hz
 subst ex
 obtain rfl:u=Value.ref a:=rx
 exact y3g I1 ea c n l fun u' s2 I2 ru=>⟨v,H1,I2,ru,q⟩
theorem z6b(ha:PE X o ta)(hv:PE X value tv)(hs:swapsWith value (some (.Attribute o f pos')) pos.line X.env=pure false):PS X (.Assign [.Attribute o f pos'] value pos) (sFld X.K ta tv f):=by
 intro pins s σ H D I h
 refine plainObj_wpAny_Assign_Attribute (thn (hv pins s σ H _ I h) fun u s1 ⟨y,H1,I1,ry,q⟩=>thn (ha pins s1 σ H1 _ I1 q) fun ov s2 hz=>?_) hs
 obtain⟨x,H2,I2,rx,a,C,dx,fs,ex,ea,c,n,l,q2⟩:=hz
 subst ex
 obtain rfl:ov=Value.ref a:=rx
 exact y38 I2 ea c n l ry fun s3 I3=>⟨σ,_,I3,q2⟩
theorem y81{pl:Sem Bool}{m:Str}{apos:Pos}{args:List Expr}{pins:List (Addr×Obj)}{s:Shared}{σ:St}{H:Hp}{Q:Value->Shared->Prop}{te:TE}(he:PE X e te)(I:Inv X pins σ H s)
  (h:te σ H fun x H1=>∃a C dx fs g,x=.ref a/\H1 a=some (.ins C dx fs)/\Cls X.K C/\Meth X.K C m g/\fs.lookup m=none/\
   ∀s1,Inv X pins σ H1 s1->wpAny (model X.prog X.w) X.A (callWith pos (.ref g) [.ref a] (backTo pos (starEach args X.env)) (backToKw pos (keywordEach [] X.env))) Q X.xe s1)
  (ht:eval (.Call (.Attribute e m apos) args [] pos) X.env=(do
   let ov <- eval e X.env
   standAt apos.atName
   let (f,first) <- holding [ov] (getMethod ov m pl)
   callWith pos f first (backTo pos (starEach args X.env)) (backToKw pos (keywordEach [] X.env)))) :
  wpAny (model X.prog X.w) X.A (eval (.Call (.Attribute e m apos) args [] pos) X.env) Q X.xe s:=by
 refine jL (pl:=pl) (thn (he pins s σ H _ I h) fun u s1 hz=>?_) ht
 obtain⟨x,H1,I1,rx,a,C,dx,fs,g,ex,ea,c,k,l,q⟩:=hz
 subst ex
 obtain rfl:u=Value.ref a:=rx
 exact z71 I1 ea c k l (q s1 I1)
end
section
variable{X:Cx}{pins:List (Addr×Obj)}{σ:St}{H:Hp}{s:Shared}{A:Around}{E:Value->Shared->Prop}{Q:Value->Shared->Prop}{c:Value}{b:Bool}
inductive Q8(K:PySem.W.Frag)(H:Hp):V->Value->Prop where
 | non:Q8 K H .non (.type "NoneType")
 | bl (x:Bool):Q8 K H (.bl x) (.type "bool")
 | int (i:Int):Q8 K H (.int i) (.type "int")
 | str (x:Str):Q8 K H (.str x) (.type "str")
 | flt (x:UInt64):Q8 K H (.flt x) (.type "float")
 | lst {a:Addr}{xs:List V} (e:H a=some (.lst xs)):Q8 K H (.ref a) (.type "list")
 | frz {a:Addr}{o:Obj}{xs:List V} (e:H a=some (.frz o (.lst xs))):Q8 K H (.ref a) (.type "list")
 | tup {a:Addr}{xs:List V} (e:H a=some (.tup xs)):Q8 K H (.ref a) (.type "tuple")
 | dK {a:Addr}{kvs:List (Key×V)} (e:H a=some (.dK kvs)):Q8 K H (.ref a) (.type "dict")
 | dT {a:Addr}{kvs:List (List Key×V)} (e:H a=some (.dT kvs)):Q8 K H (.ref a) (.type "dict")
 | ins {a C dx:Addr}{fs:List (Str×V)} (e:H a=some (.ins C dx fs)) (cl:Cls K C) (ha:PySem.W.findIn K (.ref C) "__class__"=some (some (.builtin "object.__class__")))
   (hn:PySem.W.specialIn K (.builtin "object.__class__") "__get__"=some (some (.builtin "getset_descriptor.__get__"))) (htk:PySem.W.takesIn K (.builtin "object.__class__")=some true)
   (hm:PySem.W.mroIn K C (.type "object")=some true):Q8 K H (.ref a) (.ref C)
theorem y5c{x:V}{u t:Value}(I:Inv X pins σ H s)(rx:RelV x u)(ty:Q8 X.K H x t)(e:PySem.W.kitOne X.K t c=some b)(h:∀tk,Q (.bool b) { s with toks:=tk }) :
  wpAny (model X.prog X.w) A (call (.builtin "isinstance") [u,c]) Q E s:=by
 cases ty with
 | non=>cases (show u=Value.none from rx);exact dS PySem.W.kitx_none I.kIn True.intro e (fun z=>nomatch z) h
 | bl y=>cases (show u=Value.bool y from rx);exact dS PySem.W.kitx_bool I.kIn True.intro e (fun z=>nomatch z) h
 | int i=>obtain⟨t,q⟩:=(show ∃t,u=Value.int i t from rx);cases q;exact dS PySem.W.kitx_int I.kIn True.intro e (fun z=>nomatch z) h
 | str y=>obtain⟨t,q⟩:=(show ∃t,u=Value.str y t from rx);cases q;exact dS PySem.W.kitx_str I.kIn True.intro e (fun z=>nomatch z) h
 | flt y=>obtain⟨t,q⟩:=(show ∃t,u=Value.float y t from rx);cases q;exact dS PySem.W.kitx_float I.kIn True.intro e (fun z=>nomatch z) h
 | @lst a xs ea=>
  cases (show u=Value.ref a from rx)
  obtain⟨_,_,n,_,h1⟩:=(show z1L X.prog X.w H s.heap a (.lst xs) from I.hok a _ ea)
  exact dS PySem.W.kitx_list I.kIn ⟨_,h1,rfl⟩ e (fun z=>nomatch z) h
 | @frz a ob xs ea=>
  cases (show u=Value.ref a from rx)
  obtain⟨_,_,_,n,_,h1⟩:=(show z1L X.prog X.w H s.heap a (.frz ob (.lst xs)) from I.hok a _ ea)
  exact dS PySem.W.kitx_list I.kIn ⟨_,h1,rfl⟩ e (fun z=>nomatch z) h
 | @tup a xs ea=>
  cases (show u=Value.ref a from rx)
  obtain⟨_,_,_,p⟩:=(show z1L X.prog X.w H s.heap a (.tup xs) from I.hok a _ ea)
  obtain⟨o,h1,h2,_⟩:=p
  exact dS PySem.W.kitx_tuple I.kIn ⟨o,h1,h2⟩ e (fun z=>nomatch z) h
 | @dK a kvs ea=>
  cases (show u=Value.ref a from rx)
  obtain⟨_,_,vs,_,p⟩:=(show z1L X.prog X.w H s.heap a (.dK kvs) from I.hok a _ ea)
  obtain⟨o,es,ep,h1,h2,_⟩:=p
  exact dS PySem.W.kitx_dict I.kIn ⟨o,h1,h2.1⟩ e (fun z=>nomatch z) h
 | @dT a kvs ea=>
  cases (show u=Value.ref a from rx)
  obtain⟨_,_,xs,_,o,es,ep,h1,h2,_⟩:=(show z1L X.prog X.w H s.heap a (.dT kvs) from I.hok a _ ea)
  exact dS PySem.W.kitx_dict I.kIn ⟨o,h1,h2.1⟩ e (fun z=>nomatch z) h
 | @ins a C dx fs ea cl ha hn htk hm=>
  cases (show u=Value.ref a from rx)
  obtain⟨mA,O,_⟩:=y01 I.hok ea
  obtain⟨od,J,_⟩:=O.look
  exact dS (PySem.W.kitx_own (cl.get _) cl.hd ha hn htk hm) I.kIn J e (fun z=>nomatch z) h
end
structure E9(k:Nat)(A:Around):Prop where
 hd:A.handled=none
 dp:A.depth+3*k+5<recursionLimit
 un:A.units+16*k+200<cLine
theorem E9.mono{j k:Nat}{A:Around}(r:E9 k A)(h:j≤k):E9 j A:=⟨r.hd,by have:=r.dp;lia,by have:=r.un;lia⟩
theorem E9.deeper{k:Nat}{A:Around}(r:E9 (k+1) A)(env:Env):E9 k (A.deeper env):=
 ⟨r.hd,by have:=r.dp;show A.depth+1+3*k+5<_;lia,by have:=r.un;show A.units+3+16*k+200<_;lia⟩
theorem y3h{A:Around}{C:Addr}{us:List Value}{kw:List (Str×Value)}:(A.under (.builtin "type.__call__" ⟨.ref C::us,kw⟩)).depth=A.depth+1:=by
 first|rfl|simp[Around.under,Code.weight,Code.isCreation,Code.isGuard,Code.isCaller,Code.frames,Code.isFrame,guardIds]
theorem y2S{A:Around}{C:Addr}{us:List Value}{kw:List (Str×Value)}:(A.under (.builtin "type.__call__" ⟨.ref C::us,kw⟩)).units=A.units+1:=by
 first|rfl|simp[Around.under,Code.cUnits,Code.frames,Code.isFrame]
theorem E9.make{k:Nat}{A:Around}(r:E9 (k+1) A)(C:Addr)(us:List Value)(kw:List (Str×Value)):E9 k (A.under (.builtin "type.__call__" ⟨.ref C::us,kw⟩)):=
 ⟨r.hd,by have:=r.dp;rw[y3h];lia,by have:=r.un;rw[y2S];lia⟩
theorem E9.depth{k:Nat}{A:Around}(r:E9 k A):A.depth<recursionLimit:=by have:=r.dp;lia
theorem E9.units{k:Nat}{A:Around}(r:E9 k A):A.units+64<cLine:=by have:=r.un;lia
theorem E9.N9{k:Nat}{A:Around}(r:E9 k A):A.units<cLine:=by have:=r.un;lia
noncomputable def X3:TA:=fun _ H Q=>Q [] H
noncomputable def y5W(ta:TE)(tr:TA):TA:=fun σ H Q=>ta σ H fun x H1=>tr σ H1 fun xs H2=>Q (x::xs) H2
section
variable{X:Cx}{e:Expr}{es:List Expr}{te:TE}{t:TA}{pos:Pos}
theorem z02:PA X [] X3:=fun _ _ _ _ H Q I h=>Calls.spliced_nil ⟨[],H,I,.nil,h⟩
theorem z00(ha:PE X e te)(hr:PA X es t)(hs:starEach (e::es) X.env=(false,eval e X.env)::starEach es X.env:=by rfl):PA X (e::es) (y5W te t):=by
 intro pos pins s σ H Q I h
 rw[hs]
 show wpAny _ _ (spliced ((false,eval e X.env)::backTo pos (starEach es X.env))) _ _ s
 refine Calls.spliced_cons (thn (ha pins s σ H _ I h) fun u s1 hz=>?_)
 obtain⟨x,H1,I1,r1,q1⟩:=hz
 exact thn (hr pos pins s1 σ H1 _ I1 q1) fun us s2 ⟨xs,H2,I2,r2,q2⟩=>⟨x::xs,H2,I2,.cons r1 r2,q2⟩
noncomputable def tTup(t:TA):TE:=fun σ H Q=>t σ H fun xs H1=>xs.length≤sizeLine/\∀p,H1 p=none->Q (.ref p) (upd H1 p (.tup xs))
noncomputable def tLst(t:TA):TE:=fun σ H Q=>t σ H fun xs H1=>xs.length≤sizeLine/\∀p,H1 p=none->Q (.ref p) (upd H1 p (.lst xs))
theorem z0U{x1}(h:PA X es t):PE X (.Tuple es x1 pos) (tTup t):=by
 intro pins s σ H Q I hq
 refine wpAny_Tuple_spliced (thn (h pos pins s σ H _ I hq) fun us s1 ⟨xs,H1,I1,r,z,q⟩=>⟨by rw[<- r.length];exact z,?_⟩)
 have hf:H1 s1.heap.objs.size=none:=I1.hok.fresh (bJ _)
 refine⟨.ref s1.heap.objs.size,upd H1 s1.heap.objs.size (.tup xs),I1.laid (t':=s1.toks) (fun b u e=>bB _ e) (bJ _) ?_,rfl,q _ hf⟩
 exact⟨z,us,r,⟨_,bK _ rfl,rfl,⟨_,rfl⟩,rfl⟩⟩
theorem z1m(h:PA X es t):PE X (.List es pos) (tLst t):=by
 intro pins s σ H Q I hq
 refine wpAny_List_spliced (thn (h pos pins s σ H _ I hq) fun us s1 ⟨xs,H1,I1,r,z,q⟩=>⟨by rw[<- r.length];exact z,?_⟩)
 have hf:H1 s1.heap.objs.size=none:=I1.hok.fresh (bJ _)
 refine⟨.ref s1.heap.objs.size,upd H1 s1.heap.objs.size (.lst xs),I1.laid (t':=s1.toks) (fun b u e=>bB _ e) (bJ _) ?_,rfl,q _ hf⟩
 exact⟨z,us,0,r,bK _ rfl⟩
end
abbrev Sp:=List V->Hp->VK->XK->Prop
abbrev CXT:=List Env->Hp->Shared->XK->Value->Shared->Prop
structure V7(P:Program)(w:World)(K:PySem.W.Frag)(mg:Str->Option Value)(base:Heap)(A:Around)(outer:List Env)(s:Shared)(H:Hp):Prop where
 frames:A.frames=some outer
 mod:Mod K mg base
 bs:∀b o,base.get? b=some o->s.heap.get? b=some o/\H b=none
 bsz:base.objs.size≤s.heap.objs.size
 R7:s.heap.FunFrames base outer
 frf:∀b∈frs outer,H b=none
 hok:HOk P w H s.heap
 bare:AllBare s.gens
noncomputable def CE(outer:List Env)(P:Program)(w:World)(H:Hp)(s:Shared)(Q:VK)(u:Value)(s':Shared):Prop:=
 ∃v H',s'.os=s.os/\AllBare s'.gens/\Un (frs outer) [] H H' s.heap s'.heap/\HOk P w H' s'.heap/\RelV v u/\Q v H'
noncomputable def CR(CX:CXT)(outer:List Env)(P:Program)(w:World)(H:Hp)(s:Shared)(Q:VK)(E:XK)(r:Result)(s':Shared):Prop:=
 match r with
 | .ok (.ret u)=>CE outer P w H s Q u s'
 | .ok _=>False
 | .error e=>CX outer H s E e s'
structure B4(P:Program)(w:World)(K:PySem.W.Frag)(mg:Str->Option Value)(base:Heap)(CX:CXT)(k:Nat)(f:Addr)(fd:FuncData)(ps:List Str)(sp:Sp):Prop where
 len:∀vs H Q E,sp vs H Q E->vs.length=ps.length
 run:∀(A:Around) (outer:List Env) (s:Shared) (H:Hp) (args:Args) (us:List Value) (vs:List V) (Q:VK) (E:XK),E9 k A->V7 P w K mg base A outer s H->BindsTo s fd args (ps.zip us)->Vals vs us->sp vs H Q E->
  codeAny (model P w) A (.call (.ref f) args) (CR CX outer P w H s Q E) s
theorem B4.mono{P:Program}{w:World}{K:PySem.W.Frag}{mg:Str->Option Value}{base:Heap}{CX:CXT}{j k:Nat}{f:Addr}{fd:FuncData}{ps:List Str}{sp:Sp}(F:B4 P w K mg base CX j f fd ps sp)(h:j≤k) :
  B4 P w K mg base CX k f fd ps sp:=⟨F.len,fun A outer s H args us vs Q E hr=>F.run A outer s H args us vs Q E (hr.mono h)⟩
theorem V7.make{P:Program}{w:World}{K:PySem.W.Frag}{mg:Str->Option Value}{base:Heap}{A:Around}{outer:List Env}{s:Shared}{H:Hp}(e:V7 P w K mg base A outer s H)(C:Addr)(us:List Value)(kw:List (Str×Value)) :
  V7 P w K mg base (A.under (.builtin "type.__call__" ⟨.ref C::us,kw⟩)) outer s H:=⟨by first|exact e.frames|(simpa [Around.under,Code.envs,Code.isFrame,pushEnvs] using e.frames),e.mod,e.bs,e.bsz,e.R7,e.frf,e.hok,e.bare⟩
section
variable{X:Cx}{pins:List (Addr×Obj)}{σ:St}{H:Hp}{s s':Shared}
theorem Inv.env0(I:Inv X pins σ H s):V7 X.prog X.w X.K X.mg X.base X.A X.stack s H:=
 ⟨I.ok.frames,I.ok.mod,I.bs,cM I.ok.bsz I.sz,I.stack,I.X2,I.hok,I.bare⟩
theorem Inv.after{Q:VK}{u:Value}(I:Inv X pins σ H s)(h:CE X.stack X.prog X.w H s Q u s'):EP X pins σ Q u s':=by
 obtain⟨v,H',os,bare,un,hok,r,q⟩:=h
 obtain⟨hh,g,d,t,os'⟩:=s'
 obtain rfl:os'=s.os:=os
 exact⟨v,H',I.call (h':=hh) (g':=g) (d':=d) (t':=t) (ch:=[]) un hok bare (fun b z=>absurd z (by simp)),r,q⟩
end
noncomputable def y7l(sp:Sp)(dvs:List V)(E:XK)(t:TA):TE:=fun σ H Q=>t σ H fun vs H1=>sp (vs++dvs) H1 Q E
noncomputable def y6w(C:Addr)(m:Str)(sp:Sp)(dvs:List V)(E:XK)(ta:TE)(t:TA):TE:=fun σ H Q=>ta σ H fun x H1=>∃a dx fs,x=.ref a/\H1 a=some (.ins C dx fs)/\fs.lookup m=none/\
 t σ H1 fun vs H2=>sp (x::(vs++dvs)) H2 Q E
noncomputable def y8R(C:Addr)(sp:Sp)(dvs:List V)(E:XK)(t:TA):TE:=fun σ H Q=>t σ H fun vs H1=>∀x dx,H1 x=none->H1 dx=none->dx≠x->
 sp (.ref x::(vs++dvs)) (upd (upd H1 dx (.own x)) x (.ins C dx [])) (fun v H2=>v=.non/\Q (.ref x) H2) E
noncomputable def z2f(K:PySem.W.Frag)(fd:FuncData)(ps:List Str)(ds:List Value):Prop:=
 ∀(s:Shared) (us:List Value),K.In s.heap->(us++ds).length=ps.length->BindsTo s fd ⟨us,[]⟩ (ps.zip (us++ds))
theorem z2f.all{K:PySem.W.Frag}{fd:FuncData}{ps:List Str}(h:∀us:List Value,us.length=ps.length->bindArgs fd ⟨us,[]⟩=pure (ps.zip us)):z2f K fd ps []:=fun s us _ hl=>by
 rw[cX] at hl ⊢
 exact .of_eq (h us hl)
noncomputable def z8j(CX:CXT)(X:Cx)(E:XK):Prop:=∀(pins:List (Addr×Obj)) (σ:St) (H:Hp) (s:Shared) (e:Value) (s':Shared),Inv X pins σ H s->CX X.stack H s E e s'->X.xe e s'
section
variable{X:Cx}{CX:CXT}{k:Nat}{f C:Addr}{fd:FuncData}{ps:List Str}{sp:Sp}{dvs:List V}{ds:List Value}{E:XK}{x m:Str}{p pos apos:Pos}{e o:Expr}{es:List Expr}{ta:TE}{t:TA}
theorem y3B{pins:List (Addr×Obj)}{σ:St}{H:Hp}{s:Shared}{Q:VK}{us:List Value}{vs:List V}(F:B4 X.prog X.w X.K X.mg X.base CX k f fd ps sp)(hr:E9 k X.A)(hb:z2f X.K fd ps ds)(hd:Vals dvs ds)(hx:z8j CX X E)
  (I:Inv X pins σ H s) (r:Vals vs us) (h:sp (vs++dvs) H Q E):wpAny (model X.prog X.w) X.A (call (.ref f) us) (EP X pins σ Q) X.xe s:=by
 have r2:Vals (vs++dvs) (us++ds):=r.append hd
 have hl:(us++ds).length=ps.length:=by rw[<- r2.length];exact F.len _ _ _ _ h
 refine wpAny_call (codeAny_mono (F.run X.A X.stack s H ⟨us,[]⟩ (us++ds) (vs++dvs) Q E hr I.env0 (hb s us I.kIn hl) r2 h) fun r s' hq=>?_)
 cases r with
 | error e=>exact hx pins σ H s e s' I hq
 | ok fl=>
  cases fl with
  | ret u=>exact I.after hq
  | next=>exact False.elim hq
  | brk=>exact False.elim hq
  | cont=>exact False.elim hq
theorem y57(F:B4 X.prog X.w X.K X.mg X.base CX k f fd ps sp)(hr:E9 k X.A)(hg:Gl X x)(hm:X.mg x=some (.ref f))(hk:PySem.W.keepIn X.K (.ref f)=true)(hb:z2f X.K fd ps ds)(hd:Vals dvs ds)(hx:z8j CX X E)
  (ha:PA X (e::es) t) (hdb:(x == ("__debug__":Str))=false:=by decide) (he:starEach (e::es) X.env=(false,eval e X.env)::starEach es X.env:=by rfl) (hpl:(backTo pos (starEach es X.env)).any (·.1)=false:=by rfl) :
  PE X (.Call (.Name x p) (e::es) [] pos) (y7l sp dvs E t):=by
 intro pins s σ H Q I h
 refine wpAny_Call_Name_kw (y1H I hg hm ?_ hdb)
 refine kA (h₀:=X.base) I.ok.mod.kin hk (thn (ha pos pins s σ H _ I h) fun us s1 ⟨vs,H1,I1,r,q⟩=>⟨I1.kIn,?_⟩) he hpl
 exact y3B F hr hb hd hx I1 r q
theorem y7P{pl:Sem Bool}(he:PE X o ta)(c:Cls X.K C)(hm:Meth X.K C m f)(F:B4 X.prog X.w X.K X.mg X.base CX k f fd ps sp)(hr:E9 k X.A)(hb:z2f X.K fd ps ds)(hd:Vals dvs ds)(hx:z8j CX X E)(ha:PA X (e::es) t)
  (hst:starEach (e::es) X.env=(false,eval e X.env)::starEach es X.env:=by rfl) (hpl:(backTo pos (starEach es X.env)).any (·.1)=false:=by rfl)
  (ht:eval (.Call (.Attribute o m apos) (e::es) [] pos) X.env=(do
   let ov <- eval o X.env
   standAt apos.atName
   let (f,first) <- holding [ov] (getMethod ov m pl)
   callWith pos f first (backTo pos (starEach (e::es) X.env)) (backToKw pos (keywordEach [] X.env))):=by rfl) :
  PE X (.Call (.Attribute o m apos) (e::es) [] pos) (y6w C m sp dvs E ta t):=by
 intro pins s σ H Q I h
 refine jL (pl:=pl) (thn (he pins s σ H _ I h) fun u s1 hz=>?_) ht
 obtain⟨x,H1,I1,rx,a,dx,fs,ex,ea,l,q⟩:=hz
 subst ex
 obtain rfl:u=Value.ref a:=rx
 refine z71 I1 ea c hm l ?_
 refine kA (first:=[.ref a]) (h₀:=X.base) I.ok.mod.kin hm.kp (thn (ha pos pins s1 σ H1 _ I1 q) fun us s2 ⟨vs,H2,I2,r,q2⟩=>⟨I2.kIn,?_⟩) hst hpl
 exact y3B (us:=.ref a::us) (vs:=.ref a::vs) F hr hb hd hx I2 (.cons rfl r) q2
theorem y6g{pl:Sem Bool}(he:PE X o ta)(c:Cls X.K C)(hm:Meth X.K C m f)(F:B4 X.prog X.w X.K X.mg X.base CX k f fd ps sp)(hr:E9 k X.A)(hb:z2f X.K fd ps ds)(hd:Vals dvs ds)(hx:z8j CX X E)
  (ht:eval (.Call (.Attribute o m apos) [] [] pos) X.env=(do
   let ov <- eval o X.env
   standAt apos.atName
   let (f,first) <- holding [ov] (getMethod ov m pl)
   callWith pos f first (backTo pos (starEach [] X.env)) (backToKw pos (keywordEach [] X.env))):=by rfl) :
  PE X (.Call (.Attribute o m apos) [] [] pos) (y6w C m sp dvs E ta X3):=by
 intro pins s σ H Q I h
 refine jL (pl:=pl) (thn (he pins s σ H _ I h) fun u s1 hz=>?_) ht
 obtain⟨x,H1,I1,rx,a,dx,fs,ex,ea,l,q⟩:=hz
 subst ex
 obtain rfl:u=Value.ref a:=rx
 refine z71 I1 ea c hm l ?_
 exact PySem.W.callWith_K0 (first:=[.ref a]) I1.kIn hm.kp (y3B (us:=[.ref a]) (vs:=[.ref a]) F hr hb hd hx I1 (.cons rfl .nil) q)
structure Mk(K:PySem.W.Frag)(C f:Addr):Prop where
 makes:PySem.W.makesIn K C=true
 init:PySem.W.findIn K (.ref C) "__init__"=some (some (.ref f))
 fn:PySem.W.isFn K (.ref f)=true
 kp:PySem.W.keepIn K (.ref C)=true
theorem y68{pins:List (Addr×Obj)}{σ:St}{H:Hp}{s:Shared}{Q:VK}{us:List Value}{vs:List V}(M:Mk X.K C f)(F:B4 X.prog X.w X.K X.mg X.base CX k f fd ps sp)(hr:E9 (k+1) X.A)(hb:z2f X.K fd ps ds)(hd:Vals dvs ds)
  (hx:z8j CX X E) (I:Inv X pins σ H s) (r:Vals vs us)
  (h:∀x dx,H x=none->H dx=none->dx≠x->sp (.ref x::(vs++dvs)) (upd (upd H dx (.own x)) x (.ins C dx [])) (fun v H2=>v=.non/\Q (.ref x) H2) E) :
  wpAny (model X.prog X.w) X.A (call (.ref C) us) (EP X pins σ Q) X.xe s:=by
 have hq:=h (s.heap.objs.size+1) s.heap.objs.size (I.hok.fresh (hE _)) (I.hok.fresh (bJ _)) (cL (h8 _))
 have I2:=Inv.made (C:=C) I
 have r2:Vals (V.ref (s.heap.objs.size+1)::(vs++dvs)) (Value.ref (s.heap.objs.size+1)::(us++ds)):=.cons rfl (r.append hd)
 have hl:(Value.ref (s.heap.objs.size+1)::us++ds).length=ps.length:=by
  have e:=r2.length
  rw[F.len _ _ _ _ hq] at e
  exact e.symm
 refine wpAny_call (y6f (f:=f) I.kIn M.makes M.init (beq_iff_eq.mp M.fn) (codeAny_mono (F.run _ X.stack _ _ ⟨Value.ref (s.heap.objs.size+1)::us,[]⟩ (Value.ref (s.heap.objs.size+1)::(us++ds)) _ _ E (hr.make C us [])
  (I2.env0.make C us []) (hb _ (Value.ref (s.heap.objs.size+1)::us) I2.kIn hl) r2 hq) fun r s' hq'=>?_))
 cases r with
 | error e=>exact hx pins σ _ _ e s' I2 hq'
 | ok fl=>
  cases fl with
  | ret u=>
   obtain⟨v,H',I3,rv,ev,q3⟩:=I2.after hq'
   subst ev
   exact⟨rv,⟨V.ref (s.heap.objs.size+1),H',I3,rfl,q3⟩⟩
  | next=>exact False.elim hq'
  | brk=>exact False.elim hq'
  | cont=>exact False.elim hq'
theorem y7w(M:Mk X.K C f)(F:B4 X.prog X.w X.K X.mg X.base CX k f fd ps sp)(hr:E9 (k+1) X.A)(hg:Gl X x)(hm:X.mg x=some (.ref C))(hb:z2f X.K fd ps ds)(hd:Vals dvs ds)(hx:z8j CX X E)
  (ha:PA X (e::es) t) (hdb:(x == ("__debug__":Str))=false:=by decide) (he:starEach (e::es) X.env=(false,eval e X.env)::starEach es X.env:=by rfl) (hpl:(backTo pos (starEach es X.env)).any (·.1)=false:=by rfl) :
  PE X (.Call (.Name x p) (e::es) [] pos) (y8R C sp dvs E t):=by
 intro pins s σ H Q I h
 refine wpAny_Call_Name_kw (y1H I hg hm ?_ hdb)
 refine kA (h₀:=X.base) I.ok.mod.kin M.kp (thn (ha pos pins s σ H _ I h) fun us s1 ⟨vs,H1,I1,r,q⟩=>⟨I1.kIn,?_⟩) he hpl
 exact y68 M F hr hb hd hx I1 r q
end
noncomputable def PK(X:Cx)(kws:List Keyword)(t:TA):Prop:=
 ∀(pos:Pos) (pins:List (Addr×Obj)) (s:Shared) (σ:St) (H:Hp) (Q:List V->Hp->Prop),Inv X pins σ H s->t σ H Q->wpAny (model X.prog X.w) X.A (evalAll ((backToKw pos (keywordEach kws X.env)).map (·.2))) (AP X pins σ Q) X.xe s
section
variable{X:Cx}{CX:CXT}{k:Nat}{f C:Addr}{fd:FuncData}{ps ks:List Str}{sp:Sp}{E:XK}{x m:Str}{p pos apos kpos:Pos}{e o:Expr}{es:List Expr}{kws:List Keyword}{te ta:TE}{t tk:TA}{nm:Option Str}
theorem y2z:PK X [] X3:=fun _ _ _ _ H Q I h=>wpAny_evalAll_nil ⟨[],H,I,.nil,h⟩
theorem y0p(ha:PE X e te)(hr:PK X kws t):PK X (⟨nm,e,kpos⟩::kws) (y5W te t):=by
 intro pos pins s σ H Q I h
 show wpAny _ _ (evalAll ((do let v <- eval e X.env;standAt pos;pure v)::(backToKw pos (keywordEach kws X.env)).map (·.2))) _ _ s
 refine wpAny_evalAll_cons (wpAny_bind (thn (ha pins s σ H _ I h) fun u s1 ⟨x,H1,I1,r1,q1⟩=>wpAny_bind (wpAny_standAt (wpAny_pure ?_))))
 exact thn (hr pos pins s1 σ H1 _ I1 q1) fun us s2 ⟨xs,H2,I2,r2,q2⟩=>⟨x::xs,H2,I2,.cons r1 r2,q2⟩
variable{g:List Value->List Value->List Value}{gV:List V->List V->List V}
end
structure A9(N P:List Str)(sc:Scope):Prop where
 kind:sc.kind=.function
 co:sc.isCoroutine=false
 gen:sc.isGenerator=false
 nd:N.Nodup
 pre:N.take P.length=P
 par:∀x∈P,sc.names.lookup x=some .local\/sc.names.lookup x=some .cell
 nofree:∀y∈sc.names,y.2≠.free
theorem y0B{kindOf:Str->Option NameKind}{x:Str}:∀{binds:List (Str×Value)}{m:Str->Option Value},(∀v,(x,v)∉binds)->bindL kindOf binds m x=m x
 | [],_,_=>rfl
 | (n,v)::r,m,h=>by
  unfold bindL
  rw[y0B fun w hw=>h w (cG _ hw)]
  split
  ·have:x≠n:=by rintro rfl;exact h v cI
   simp[this]
  ·rfl
theorem y0w{kindOf:Str->Option NameKind}{x:Str}:∀{binds:List (Str×Value)}{m:Str->Option Value},(∀v,(x,v)∉binds)->bindC kindOf binds m x=m x
 | [],_,_=>rfl
 | (n,v)::r,m,h=>by
  unfold bindC
  rw[y0w fun w hw=>h w (cG _ hw)]
  split
  ·rfl
  ·have:x≠n:=by rintro rfl;exact h v cI
   simp[this]
theorem y0A{kindOf:Str->Option NameKind}{x:Str}{v:Value}:∀{P:List Str}{vs:List Value}{i:Nat}{m:Str->Option Value},P.Nodup->P[i]? = some x->vs[i]? = some v->kindOf x=some .local->
  bindL kindOf (P.zip vs) m x=some v
 | [],_,_,_,_,h,_,_=>by simp at h
 | _::_,[],_,_,_,_,h,_=>by simp at h
 | p::P,w::vs,0,m,nd,h1,h2,hk=>by
  simp at h1 h2;subst h1;subst h2
  show bindL kindOf ((p,w)::P.zip vs) m p=_
  unfold bindL
  rw[y0B fun v hv=>(dU.mp nd).1 (List.of_mem_zip hv).1,if_pos hk]
  simp
 | p::P,w::vs,i+1,m,nd,h1,h2,hk=>by
  show bindL kindOf ((p,w)::P.zip vs) m x=_
  unfold bindL
  exact y0A (i:=i) (dU.mp nd).2 (by simpa using h1) (by simpa using h2) hk
theorem y0F{kindOf:Str->Option NameKind}{x:Str}{v:Value}:∀{P:List Str}{vs:List Value}{i:Nat}{m:Str->Option Value},P.Nodup->P[i]? = some x->vs[i]? = some v->kindOf x≠some .local->
  bindC kindOf (P.zip vs) m x=some v
 | [],_,_,_,_,h,_,_=>by simp at h
 | _::_,[],_,_,_,_,h,_=>by simp at h
 | p::P,w::vs,0,m,nd,h1,h2,hk=>by
  simp at h1 h2;subst h1;subst h2
  show bindC kindOf ((p,w)::P.zip vs) m p=_
  unfold bindC
  rw[y0w fun v hv=>(dU.mp nd).1 (List.of_mem_zip hv).1,if_neg hk]
  simp
 | p::P,w::vs,i+1,m,nd,h1,h2,hk=>by
  show bindC kindOf ((p,w)::P.zip vs) m x=_
  unfold bindC
  exact y0F (i:=i) (dU.mp nd).2 (by simpa using h1) (by simpa using h2) hk
noncomputable def z6g(N:List Str)(vs:List V):St:=vs.map some++List.replicate (N.length-vs.length) none
noncomputable def W4(CX:CXT)(P:Program)(w:World)(K:PySem.W.Frag)(mg:Str->Option Value)(base:Heap)(N:List Str)(qual:Str)(scope:Scope)(f:Addr)(cd:Value)(A:Around)(outer:List Env)(s:Shared)(H:Hp)(E:XK):Cx where
 prog:=P
 w:=w
 K:=K
 mg:=mg
 base:=base
 A:=A.deeper (envOfC qual scope s.heap.objs.size f cd)
 N:=N
 s₀:=s
 H₀:=H
 env:=envOfC qual scope s.heap.objs.size f cd
 outer:=outer
 stack:=envOfC qual scope s.heap.objs.size f cd::outer
 ex:=[]
 calm:=true
 fn:=fun _=>true
 pn:=[]
 xe:=fun e s'=>wpAny (model P w) (A.deeper (envOfC qual scope s.heap.objs.size f cd)) (leaving (envOfC qual scope s.heap.objs.size f cd) e) (fun _ s''=>CX outer H s E e s'') (fun e' s''=>CX outer H s E e' s'') s'
theorem y2d{sc:Scope}{n:Nat}{x:Str}(h:sc.names.lookup x=some .cell):∃c,(cellsFrom n sc.names []).lookup x=some c:=by
 have q:=PySem.W.cellsFrom_some sc.names n [] (.inl h)
 exact Option.isSome_iff_exists.mp q
theorem y5b{CX:CXT}{P:Program}{w:World}{K:PySem.W.Frag}{mg:Str->Option Value}{base:Heap}{N ps:List Str}{qual:Str}{scope:Scope}{f:Addr}{cd:Value}{A:Around}{outer:List Env}{s s1:Shared}{H:Hp}{E:XK}{us:List Value}{vs:List V}
  (S:A9 N ps scope) (hd:A.handled=none) (e0:V7 P w K mg base A outer s H) (hl:vs.length=ps.length) (r:Vals vs us)
  (x:InCallC s s.heap.objs.size (bindL (envOfC qual scope s.heap.objs.size f cd).kindOf (ps.zip us) fun _=>none) (cellsFrom (s.heap.objs.size+1) scope.names []) (bindC (envOfC qual scope s.heap.objs.size f cd).kindOf (ps.zip us) fun _=>none) s1) :
  Inv (W4 CX P w K mg base N qual scope f cd A outer s H E) [] (z6g N vs) H s1:=by
 have hpl:ps.length≤N.length:=by have:=congrArg List.length S.pre;rw[bI] at this;lia
 obtain⟨h1,tk,rfl,hk⟩:=x.done
 have noA:∀b:Addr,b∉(W4 CX P w K mg base N qual scope f cd A outer s H E).ex:=fun b z=>absurd (show b∈([]:List Addr) from z) (by simp)
 refine⟨⟨e0.mod,S.kind,rfl,rfl,bJ _,fun y z c h1 h2=>?_,fun y hy=>?_,fun y c _ h=>?_,fun _=>hd,Around.frames_deeper e0.frames,.inr ⟨rfl,rfl⟩,fun b z=>absurd z (noA b),e0.bs,e0.bsz,fun b _ _=>noA b,fun b z=>absurd z (noA b),e0.R7,e0.frf⟩,
  rfl,e0.bare,Un.kept hk,⟨_,x.toInCall.ns,fun i y v h1 h2 h3=>?_⟩,fun y c h=>⟨_,x.cell y c h⟩,e0.hok.fresh (bJ _),fun y c h=>?_,fun p hp=>absurd (show p∈([]:List (Addr×Obj)) from hp) (by simp),e0.hok.kept hk,?_⟩
 ·exact name_of_addr x.apart (fZ h1) (fZ h2)
 ·have hy:scope.names.lookup y=some .cell\/scope.names.lookup y=some .free:=hy
  rcases hy with hy|hy
  ·exact y2d hy
  ·exact absurd rfl (S.nofree _ (fZ hy))
 ·exact dR (x.above y c (fZ h))
 ·have hi:i<vs.length:=by
   unfold z6g at h2
   by_cases hi:i<vs.length
   ·exact hi
   ·rw[dC (by simpa using hi)] at h2
    rw[j6] at h2
    split at h2<;>cases h2
  have ha:vs[i]? = some v:=by
   unfold z6g at h2
   rw[dE (by simpa using hi),bE] at h2
   cases e:vs[i]? with
   | none=>rw[e] at h2;cases h2
   | some a=>rw[e] at h2;cases h2;rfl
  obtain⟨u,hu,rv⟩:=r.get ha
  have hp:ps[i]? = some y:=by
   rw[<- S.pre,eQ (by lia)];exact h1
  have ndP:ps.Nodup:=by rw[<- S.pre];exact S.nd.sublist (kF _ _)
  refine⟨u,rv,?_⟩
  rcases S.par y (bS hp) with k|k
  ·exact .inl ⟨k,y0A ndP hp hu k⟩
  ·obtain⟨c,e⟩:=y2d (n:=s.heap.objs.size+1) k
   refine .inr ⟨.inl k,c,e,?_⟩
   have q:=x.cell y c e
   rw[y0F ndP hp hu (by show scope.names.lookup y≠_;rw[k];decide)] at q
   exact q
 ·exact e0.hok.fresh (dR (x.above y c (fZ h)))
 ·unfold z6g
  show _=N.length
  rw[bL,bA,jM]
  lia
theorem y8j{CX:CXT}{P:Program}{w:World}{K:PySem.W.Frag}{mg:Str->Option Value}{base:Heap}{k:Nat}{f:Addr}{name qual:Str}{params:Arguments}{body:List Stmt}{scope:Scope}{dV kV doc pm cdv ct oc:Value}{an od:Option Addr}
  {osl:Array (Option Value)}{N ps:List Str}{sp:Sp} (lk:K.lookup f=some ⟨oc,od,.func (PySem.W.fnOf name qual params body scope dV kV doc pm an cdv ct),osl⟩) (hcd:PySem.W.codeIn K cdv qual=true) (S:A9 N ps scope)
  (len:∀vs H Q E,sp vs H Q E->vs.length=ps.length)
  (U5:∀(A:Around) (outer:List Env) (s:Shared) (H:Hp) (vs:List V) (Q:VK) (E:XK),E9 k (A.deeper (envOfC qual scope s.heap.objs.size f cdv))->sp vs H Q E->
   ∃t,PSs (W4 CX P w K mg base N qual scope f cdv A outer s H E) body t/\t { nx:=fun _ H'=>Q .non H',rt:=Q } (z6g N vs) H) :
  B4 P w K mg base CX (k+1) f (PySem.W.fnOf name qual params body scope dV kV doc pm an cdv ct) ps sp:=by
 refine⟨len,fun A outer s H args us vs Q E hr e0 hb r hsp=>?_⟩
 have hl:=len _ _ _ _ hsp
 have KX:K.In s.heap:=e0.mod.kin.keeps fun b o e=>(e0.bs b o e).1
 have lim:s.heap.NoLimit:=e0.mod.nolimit.keeps fun b o e=>(e0.bs b o e).1
 have w0E:∀y∈ps.zip us,scope.names.lookup y.1=some .local\/(scope.names.lookup y.1=some .cell/\((cellsFrom (s.heap.objs.size+1) scope.names []).lookup y.1).isSome=true):=fun⟨n,v⟩ hy=>by
  rcases S.par n (List.of_mem_zip hy).1 with q|q
  ·exact .inl q
  ·exact .inr ⟨q,PySem.W.cellsFrom_some _ _ _ (.inl q)⟩
 refine codeAny_call_function hr.depth (KX _ _ lk) rfl S.co S.gen rfl (PySem.W.codeRec_of KX hcd) (hb _ _ _ _ ?_)
 refine wpAny_newFunctionEnv_cells S.kind w0E fun env he s1 x=>?_
 subst he
 refine⟨lim.keeps x.toInCall.keep,codeAny_func ?_⟩
 obtain⟨t,ht,hq⟩:=U5 A outer s H vs Q E (hr.deeper _) hsp
 have I:Inv (W4 CX P w K mg base N qual scope f cdv A outer s H E) [] (z6g N vs) H s1:=y5b S hr.hd e0 hl r x
 refine wpAny_mono (ht [] s1 (z6g N vs) H _ I hq) (fun fl s' hs=>?_) fun e s' hs=>hs
 have fin:∀{σ':St}{H':Hp}{v:V}{u:Value},Inv (W4 CX P w K mg base N qual scope f cdv A outer s H E) [] σ' H' s'->RelV v u->Q v H'->CE outer P w H s Q u s':=
  fun {σ' H' v u} J rv q=>⟨v,H',J.os,J.bare,J.base,J.hok,rv,q⟩
 cases fl with
 | ret u=>
  obtain⟨v,σ',H',J,rv,q⟩:=hs
  exact fin J rv q
 | next=>
  obtain⟨σ',H',J,q⟩:=hs
  exact fin (v:=V.non) (u:=Value.none) J rfl q
 | brk=>
  obtain⟨_,_,_,q⟩:=hs
  exact False.elim q
 | cont=>
  obtain⟨_,_,_,q⟩:=hs
  exact False.elim q
section
variable{X:Cx}{x:Str}{p pos:Pos}{e:Expr}{es:List Expr}{t:TA}{id T:String}{r:List V->Hp->VK->Prop}
noncomputable def tCB(r:List V->Hp->VK->Prop)(t:TA):TE:=fun σ H Q=>t σ H fun vs H1=>r vs H1 Q
theorem z0b(hc:z3R X (.builtin id) r)(hg:Gl X x)(hm:X.mg x=none)(hv:bootBuiltins x=some (.builtin id))(ha:PA X (e::es) t)(hn:x≠"__name__":=by decide)(hdb:(x == ("__debug__":Str))=false:=by decide)
  (he:starEach (e::es) X.env=(false,eval e X.env)::starEach es X.env:=by rfl) (hpl:(backTo pos (starEach es X.env)).any (·.1)=false:=by rfl):PE X (.Call (.Name x p) (e::es) [] pos) (tCB r t):=by
 intro pins s σ H Q I h
 refine wpAny_Call_Name_kw (z5l I hg hm hv ?_ hn hdb)
 exact PyProof.Rows.callWith_builtin1 (thn (ha pos pins s σ H _ I h) fun us s1 ⟨vs,H1,I1,r1,q1⟩=>hc pins s1 σ H1 vs us Q I1 r1 q1) he hpl
theorem z0t(hc:z3R X (.type T) r)(hg:Gl X x)(hm:X.mg x=none)(hv:bootBuiltins x=some (.type T))(ha:PA X (e::es) t)(hn:x≠"__name__":=by decide)(hdb:(x == ("__debug__":Str))=false:=by decide)
  (he:starEach (e::es) X.env=(false,eval e X.env)::starEach es X.env:=by rfl) (hpl:(backTo pos (starEach es X.env)).any (·.1)=false:=by rfl):PE X (.Call (.Name x p) (e::es) [] pos) (tCB r t):=by
 intro pins s σ H Q I h
 refine wpAny_Call_Name_kw (z5l I hg hm hv ?_ hn hdb)
 exact dX (thn (ha pos pins s σ H _ I h) fun us s1 ⟨vs,H1,I1,r1,q1⟩=>hc pins s1 σ H1 vs us Q I1 r1 q1) he hpl
end
end L2
namespace HT
open PySem PyProof.Rows
section
open PySem.SeqAt
open PySem.AutoSeq1 (wpAny_loadPart')
open PySem.MeetsSeq PySem.MeetsSeq2 PySem.MeetsSeq3
end
section
variable{prog:Program}{w:World}{A:Around}{E:Value->Shared->Prop}{s:Shared}
theorem y3F{t b:Addr}{vs ws:List Value}{Q:Value->Shared->Prop}(ht:IsTup s.heap t vs.toArray)(hb:IsTup s.heap b ws.toArray)(hv:vs≠[])
  (h1:ws=[]->Q (.ref t) s) (h2:ws≠[]->Q (.ref s.heap.objs.size) { s with heap:=s.heap.push { cls:=.type "tuple",data:=.seq (vs++ws).toArray } })
  (hsz:vs.length+ws.length≤sizeLine):wpAny (model prog w) A (binaryOp .Add (.ref t) (.ref b)) Q E s:=by
 obtain⟨⟨cls,dd,data,sl⟩,ho,hc,n,hd⟩:=id ht
 obtain⟨⟨cls2,dd2,data2,sl2⟩,ho2,hc2,n2,hd2⟩:=id hb
 simp only at hc hd hc2 hd2
 subst hc hd hc2 hd2
 have e:vs.toArray++ws.toArray=(vs++ws).toArray:=by simp
 by_cases hw:ws=[]
 ·exact concat_meets ⟨_,ho,rfl⟩ ⟨_,ho2,rfl⟩ noFill_tuple_add seq_tuple_add jD j7 (j3 _ _)
   (tuple_addW1 t b vs.toArray ws.toArray n n2 dd dd2 sl sl2 (by simpa using hv) (by simp[hw])) ⟨ho,ho2,h1 hw⟩
 ·refine concat_meets ⟨_,ho,rfl⟩ ⟨_,ho2,rfl⟩ noFill_tuple_add seq_tuple_add jD j7 (j3 _ _)
   (tuple_addW2 t b vs.toArray ws.toArray n n2 dd dd2 sl sl2 (by simpa using hv) (by simpa using hw) (by rw[bO,bO];exact hsz)) ⟨ho,ho2,?_⟩
  rw[e]
  exact h2 hw
noncomputable def sIx(n d:Nat):Option Int->Nat
 | none=>d
 | some v=>if v<0 then (v+(n:Int)).toNat else min v.toNat n
theorem z6K(n d k:Nat):sIx n d (some (k:Int))=min k n:=by
 show(if (k:Int)<0 then ((k:Int)+(n:Int)).toNat else min (k:Int).toNat n)=min k n
 rw[if_neg (by lia),eU]
theorem y6L(n d:Nat)(hd:d≤n)(o:Option Int):sIx n d o≤n:=by
 cases o with
 | none=>exact hd
 | some v=>
  show(if v<0 then (v+(n:Int)).toNat else min v.toNat n)≤n
  by_cases hv:v<0
  ·rw[if_pos hv];lia
  ·rw[if_neg hv];exact Nat.min_le_right _ _
theorem y47(v:Int)(n d:Nat):(if v<0 then max (v+(n:Int)) 0 else min v (n:Int))=((sIx n d (some v):Nat):Int):=by
 show(if v<0 then max (v+(n:Int)) 0 else min v (n:Int))=(((if v<0 then (v+(n:Int)).toNat else min v.toNat n):Nat):Int)
 by_cases hv:v<0
 ·simp only[if_pos hv];lia
 ·simp only[if_neg hv];lia
theorem y36(lo hi:Option Int)(n:Nat):Builtin.Slice.sliceAdjust lo hi 1 (n:Int)=(((sIx n 0 lo:Nat):Int),((sIx n n hi:Nat):Int)):=by
 have h1:¬((1:Int)<0):=by lia
 unfold Builtin.Slice.sliceAdjust
 simp only[h1,if_false]
 refine Prod.ext ?_ ?_
 ·cases lo with
  | none=>rfl
  | some v=>exact y47 v n 0
 ·cases hi with
  | none=>rfl
  | some v=>exact y47 v n n
theorem y3n(i j:Nat):Builtin.Slice.slicePlaces (i:Int) (j:Int) 1=j-i:=by
 unfold Builtin.Slice.slicePlaces
 have h1:(1:Int) > 0:=by lia
 simp only[h1,if_true,Int.ediv_one]
 split<;>lia
theorem z9N{v:Value}{o:Option Int}{Q:Option Int->Shared->Prop}(p:IsPart v o)(h:Q o s):wpAny (model prog w) A (Builtin.Slice.slicePartIndex v) Q E s:=by
 cases p with
 | none=>exact slicePart_none h
 | int i t=>exact slicePart_int h
theorem z4w{sl:Addr}{vl vu:Value}{lo hi:Option Int}{n:Nat}{Q:Int×Int×Nat->Shared->Prop}(hs:s.heap.IsSliceOf sl vl vu .none)(pl:IsPart vl lo)(pu:IsPart vu hi)
  (h:Q (((sIx n 0 lo:Nat):Int),1,sIx n n hi-sIx n 0 lo) s):wpAny (model prog w) A (Builtin.Slice.sliceApplied (.ref sl) (pure (n:Int))) Q E s:=by
 obtain⟨os,hos,hcs,hds⟩:=id hs
 unfold Builtin.Slice.sliceApplied Builtin.Slice.sliceFields
 refine wpAny_bind (wpAny_bind (wpAny_field hos hds (x:=vl) rfl (wpAny_bind (wpAny_field hos hds (x:=vu) rfl (wpAny_bind (wpAny_field hos hds (x:=.none) rfl (wpAny_pure ?_)))))))
 refine wpAny_bind (slicePart_none ?_)
 show wpAny _ _ (if ((1:Int) == 0)=true then _ else _) _ _ s
 rw[if_neg (by decide)]
 refine wpAny_bind (z9N pl (wpAny_bind (z9N pu (wpAny_bind (wpAny_pure ?_)))))
 show wpAny _ _ (match Builtin.Slice.sliceAdjust lo hi 1 (n:Int) with|(lo,hi)=>pure (lo,(1:Int),Builtin.Slice.slicePlaces lo hi 1)) _ _ s
 rw[y36 lo hi n]
 show wpAny _ _ (pure (((sIx n 0 lo:Nat):Int),(1:Int),Builtin.Slice.slicePlaces ((sIx n 0 lo:Nat):Int) ((sIx n n hi:Nat):Int) 1)) _ _ s
 rw[y3n]
 exact wpAny_pure h
theorem y5K(xs:Array Value)(i k:Nat):((List.range k).filterMap fun(m:Nat)=>xs[((i:Int)+(m:Int)*1).toNat]?).toArray=((xs.toList.drop i).take k).toArray:=by
 have e:(fun(m:Nat)=>xs[((i:Int)+(m:Int)*1).toNat]?)=fun m=>xs[i+m]? := by
  funext m
  have:((i:Int)+(m:Int)*1).toNat=i+m:=by lia
  rw[this]
 rw[e]
 have:=pick_run xs i k
 rw[List.filterMap_map] at this
 have e2:((fun x=>xs[x]?) ∘ fun x=>i+x)=fun m=>xs[i+m]? := rfl
 rw[e2] at this
 rw[this]
theorem z6E{t sl:Addr}{items:Array Value}{vl vu:Value}{lo hi:Option Int}{Q:Value->Shared->Prop}(ht:IsTup s.heap t items)(hs:s.heap.IsSliceOf sl vl vu .none)(pl:IsPart vl lo)(pu:IsPart vu hi)
  (hw:¬(sIx items.size 0 lo=0/\sIx items.size items.size hi=items.size))
  (h:Q (.ref s.heap.objs.size) { s with heap:=s.heap.push { cls:=.type "tuple",data:=.seq ((items.toList.drop (sIx items.size 0 lo)).take (sIx items.size items.size hi-sIx items.size 0 lo)).toArray } })
  (hsz:items.size≤sizeLine):wpAny (model prog w) A (getItem (.ref t) (.ref sl)) Q E s:=by
 have W9:sizeOk (.seq ((items.toList.drop (sIx items.size 0 lo)).take (sIx items.size items.size hi-sIx items.size 0 lo)).toArray):=by
  show((items.toList.drop (sIx items.size 0 lo)).take (sIx items.size items.size hi-sIx items.size 0 lo)).toArray.size≤sizeLine
  rw[bO,bI,dY,hV]
  lia
 have hj:sIx items.size items.size hi≤items.size:=y6L _ _ (bJ _) hi
 obtain⟨os,hos,hcs,hds⟩:=id hs
 have hTs:s.TypeIs (.ref sl) "slice":=⟨os,hos,hcs⟩
 unfold getItem
 try with_reducible refine wpAny_holding ?_
 first|refine wpAny_bind (wpAny_pure ?_)|skip
 refine wpAny_bind (wpAny_sequenceKey ht.typeIs (by decide) ?_)
 refine wpAny_bind (wpAny_callSpecial?_slot (name:=Str.ofString "__getitem__") ht.typeIs dI
  (wpAny_call_entry dI ht.typeIs entry_tuple_getitem ?_ (args_tuple_getitem _ _)))
 show wpAny _ _ (Builtin.Tuple.tupleItemsOf (.ref t) >>= _) _ _ s
 refine wpAny_bind (tupleItemsOf_ ht ?_)
 refine wpAny_bind (wpAny_typeOf hTs ?_)
 rw[if_pos (by decide)]
 refine wpAny_bind (z4w hs pl pu ?_)
 have hno:¬((((sIx items.size 0 lo:Nat):Int) == 0 && (1:Int) == 1 && (sIx items.size items.size hi-sIx items.size 0 lo) == items.size)=true):=by
  intro q
  rw[bZ,bZ] at q
  have q1:((sIx items.size 0 lo:Nat):Int)=0:=eq_of_beq q.1.1
  have q2:sIx items.size items.size hi-sIx items.size 0 lo=items.size:=eq_of_beq q.2
  exact hw ⟨by lia,by lia⟩
 show wpAny _ _ (if (((sIx items.size 0 lo:Nat):Int) == 0 && (1:Int) == 1 && (sIx items.size items.size hi-sIx items.size 0 lo) == items.size)=true then _ else _) _ _ s
 rw[if_neg hno,y5K]
 first
  | exact wpAny_bind (m:=Builtin.Tuple.tupleExact _) (wpAny_newObj_type (wpAny_pure ⟨_,rfl,wpAny_pure h⟩) W9)
  | exact wpAny_bind (m:=Builtin.Tuple.tupleExact _) (wpAny_newObj_type (wpAny_bind (wpAny_pure (wpAny_pure ⟨_,rfl,wpAny_pure h⟩))) W9)
  | exact wpAny_bind (wpAny_bind (m:=Builtin.Tuple.tupleExact _) (wpAny_newObj_type (wpAny_pure (wpAny_pure ⟨_,rfl,wpAny_pure h⟩)) W9))
  | exact wpAny_bind (wpAny_bind (m:=Builtin.Tuple.tupleExact _) (wpAny_newObj_type (wpAny_pure ⟨_,rfl,wpAny_pure h⟩) W9))
end
end HT
namespace L2
open PySem PySem.Spec PyProof.Rows
abbrev TO:=St->Hp->(Option Int->Hp->Prop)->Prop
noncomputable def PO(X:Cx)(e:Option Expr)(t:TO):Prop:=
 ∀(pins:List (Addr×Obj)) (s:Shared) (σ:St) (H:Hp) (Q:Option Int->Hp->Prop),Inv X pins σ H s->t σ H Q->
  wpAny (model X.prog X.w) X.A (evalPart e X.env) (fun u s'=>∃o H',Inv X pins σ H' s'/\IsPart u o/\Q o H') X.xe s
noncomputable def y7u:TO:=fun _ H Q=>Q none H
noncomputable def w11(t:TE):TO:=fun σ H Q=>t σ H fun x H1=>∃i,x=.int i/\Q (some i) H1
theorem y3u{ns:List Int}:∀{us:List Value},Vals (ns.map V.int) us->IntsAre us ns:=by
 induction ns with
 | nil=>intro us r;rw[List.map_nil] at r;cases r;exact .nil
 | cons n ns ih=>
  intro us r
  rw[cV] at r
  cases r with
  | cons r1 r2=>
   obtain⟨t,e⟩:=r1
   subst e
   exact .cons n t (ih r2)
section
variable{X:Cx}{e:Expr}{te:TE}{lo hi:Option Expr}{tl th:TO}{pos p2:Pos}
theorem z2r:PO X none y7u:=by
 intro pins s σ H Q I h
 rw[evalPart_none]
 exact wpAny_pure ⟨none,H,I,.none,h⟩
theorem z2s(h:PE X e te):PO X (some e) (w11 te):=by
 intro pins s σ H Q I hw
 rw[evalPart_some]
 refine thn (h pins s σ H _ I hw) fun u s1 hz=>?_
 obtain⟨x,H1,I1,r1,q1⟩:=hz
 obtain⟨i,rfl,q⟩:=q1
 obtain⟨t,rfl⟩:=r1
 exact⟨some i,H1,I1,.int i t,q⟩
noncomputable def SlR(X:Cx)(r:V->Option Int->Option Int->Hp->VK->Prop):Prop:=
 ∀(pins:List (Addr×Obj)) (s:Shared) (σ:St) (H:Hp) (x:V) (v vl vu:Value) (lo hi:Option Int) (sl:Addr) (Q:VK),Inv X pins σ H s->RelV x v->s.heap.IsSliceOf sl vl vu .none->IsPart vl lo->IsPart vu hi->r x lo hi H Q->
  ∃T id,typeLookup (.type T) "__getitem__"=pure (some (.builtin id))/\s.TypeIs v T/\wpAny (model X.prog X.w) X.A (getItem v (.ref sl)) (EP X pins σ Q) X.xe s
noncomputable def tSl(r:V->Option Int->Option Int->Hp->VK->Prop)(te:TE)(tl th:TO):TE:=fun σ H Q=>te σ H fun x H1=>tl σ H1 fun l H2=>th σ H2 fun u H3=>r x l u H3 Q
theorem z1O{r:V->Option Int->Option Int->Hp->VK->Prop}(hr:SlR X r)(he:PE X e te)(hl:PO X lo tl)(hu:PO X hi th):PE X (.Subscript e (.Slice lo hi none p2) pos) (tSl r te tl th):=by
 intro pins s σ H Q I h
 refine Subscript_ (thn (he pins s σ H _ I h) fun v s1 hz=>?_)
 obtain⟨x,H1,I1,r1,q1⟩:=hz
 refine wpAny_Slice (thn (hl pins s1 σ H1 _ I1 q1) fun vl s2 ⟨l,H2,I2,pl,q2⟩=>thn (hu pins s2 σ H2 _ I2 q2) fun vu s3 hz=>?_)
 obtain⟨u,H3,I3,pu,q3⟩:=hz
 rw[evalPart_none]
 refine wpAny_pure ?_
 have I4:Inv X pins σ H3 { s3 with heap:=s3.heap.push { cls:=.type "slice",data:=.fields #[vl,vu,.none] } }:=I3.kept (t':=s3.toks) fun b ob q=>bB _ q
 obtain⟨T,id,hT,ht,hg⟩:=hr pins { s3 with heap:=s3.heap.push { cls:=.type "slice",data:=.fields #[vl,vu,.none] } } σ H3 x v vl vu l u s3.heap.objs.size Q I4 r1 (Heap.IsSliceOf.new ..) pl pu q3
 show wpAny (model X.prog X.w) X.A (subscriptTail e (.Slice lo hi none p2) v (.ref s3.heap.objs.size)) (EP X pins σ Q) X.xe { s3 with heap:=s3.heap.push { cls:=.type "slice",data:=.fields #[vl,vu,.none] } }
 exact tail_any (ops:=[.ref s3.heap.objs.size,v]) ht hT hg (by with_unfolding_all rfl)
noncomputable def K6(xs:List V)(lo hi:Option Int):List V:=(xs.drop (HT.sIx xs.length 0 lo)).take (HT.sIx xs.length xs.length hi-HT.sIx xs.length 0 lo)
theorem z95(xs:List V)(lo hi:Option Int):(K6 xs lo hi).length≤xs.length:=by
 unfold K6
 rw[bI,dY]
 lia
noncomputable def rSlT(K:PySem.W.Frag):V->Option Int->Option Int->Hp->VK->Prop:=fun x lo hi H Q=>∃a xs,x=.ref a/\SqT K H a xs/\
 ¬(HT.sIx xs.length 0 lo=0/\HT.sIx xs.length xs.length hi=xs.length)/\∀p,H p=none->Q (.ref p) (upd H p (.tup (K6 xs lo hi)))
theorem y1m:SlR X (rSlT X.K):=by
 intro pins s σ H x v vl vu lo hi sl Q I rx hs pl pu h
 obtain⟨a,xs,rfl,hx,hw,q⟩:=h
 cases rx
 obtain⟨its,r,ht,hz⟩:=I.tuple hx
 have hlen:its.toArray.size=xs.length:=by rw[bO];exact r.length.symm
 refine⟨"tuple",_,dI.lookup,ht.typeIs,?_⟩
 refine HT.z6E ht hs pl pu (by rw[hlen];exact hw) ?_ (by rw[hlen];exact hz)
 rw[hlen]
 refine⟨.ref s.heap.objs.size,_,I.laid (t':=s.toks) (o:=.tup (K6 xs lo hi)) (fun b ob q=>bB _ q) (bJ _) ?_,rfl,q _ (I.hok.fresh (bJ _))⟩
 exact⟨cM (z95 xs lo hi) hz,_,(r.drop (HT.sIx xs.length 0 lo)).take (HT.sIx xs.length xs.length hi-HT.sIx xs.length 0 lo),PlT.new _ _⟩
noncomputable def y8w(K:PySem.W.Frag):R2:=fun x y H Q=>∃a b xs ys,x=.ref a/\y=.ref b/\SqT K H a xs/\SqT K H b ys/\xs≠[]/\xs.length+ys.length≤sizeLine/\
 (ys=[]->Q (.ref a) H)/\(ys≠[]->∀p,H p=none->Q (.ref p) (upd H p (.tup (xs++ys))))
theorem Vals.Q5{xs:List V}{us:List Value}(r:Vals xs us):us=[]↔xs=[]:=by
 cases r with
 | nil=>simp
 | cons _ _=>simp
theorem y7n:OpR X (binaryOp .Add) (y8w X.K):=by
 intro pins s σ H x y v u Q I rx ry h
 obtain⟨a,b,xs,ys,rfl,rfl,ha,hb,hx,hz,q1,q2⟩:=h
 cases rx
 cases ry
 obtain⟨its,r1,p1,_⟩:=I.tuple ha
 obtain⟨M1,r2,p2,_⟩:=I.tuple hb
 refine HT.y3F p1 p2 (fun z=>hx (r1.Q5.mp z)) (fun z=>⟨.ref a,H,I,rfl,q1 (r2.Q5.mp z)⟩) (fun z=>?_) (by rw[<- r1.length,<- r2.length];exact hz)
 refine⟨.ref s.heap.objs.size,_,I.laid (t':=s.toks) (o:=.tup (xs++ys)) (fun b ob q=>bB _ q) (bJ _) ?_,rfl,q2 (fun w=>z (r2.Q5.mpr w)) _ (I.hok.fresh (bJ _))⟩
 exact⟨by rw[bL];exact hz,_,r1.append r2,PlT.new _ _⟩
end
noncomputable def ixN(n:Nat)(i:Int):Option Nat:=if 0≤i then (if i<n then some i.toNat else none) else if -(n:Int)≤i then some (i+n).toNat else none
noncomputable def atI{α:Type}(xs:List α)(i:Int):Option α:=(ixN xs.length i).bind fun j=>xs[j]?
theorem y7A{n:Nat}{i:Int}{j:Nat}(h:ixN n i=some j):seqIndex? i n=some j/\j<n/\-(n:Int)≤i/\i<n:=by
 unfold ixN at h
 by_cases h0:0≤i
 ·rw[if_pos h0] at h
  by_cases h1:i<n
  ·rw[if_pos h1] at h
   have e:i.toNat=j:=Option.some.inj h
   exact⟨by rw[seqIndex_of h0 h1,e],by lia,by lia,h1⟩
  ·rw[if_neg h1] at h;cases h
 ·rw[if_neg h0] at h
  by_cases h1:-(n:Int)≤i
  ·rw[if_pos h1] at h
   have e:(i+n).toNat=j:=Option.some.inj h
   exact⟨by rw[seqIndex_neg (by lia) h1,e],by lia,h1,by lia⟩
  ·rw[if_neg h1] at h;cases h
theorem y1r{α:Type}{xs:List α}{i:Int}{v:α}(h:atI xs i=some v):∃j,seqIndex? i xs.length=some j/\xs[j]? = some v/\j<xs.length/\-(xs.length:Int)≤i/\i<xs.length:=by
 unfold atI at h
 cases e:ixN xs.length i with
 | none=>rw[e] at h;cases h
 | some j=>
  rw[e] at h
  obtain⟨h1,h2,h3,h4⟩:=y7A e
  exact⟨j,h1,h,h2,h3,h4⟩
theorem z0V{α:Type}{xs:List α}{j:Nat}{v:α}(h:xs[j]? = some v):atI xs (j:Int)=some v:=by
 have hj:j<xs.length:=(bX.mp h).1
 have e:ixN xs.length (j:Int)=some j:=by
  unfold ixN
  rw[if_pos (by lia),if_pos (by lia)];simp
 unfold atI;rw[e];exact h
theorem z5d{α:Type}(xs:List α)(v:α):atI (xs++[v]) (-1)=some v:=by
 have hl:(xs++[v]).length=xs.length+1:=by simp
 have e:ixN (xs++[v]).length (-1)=some xs.length:=by
  unfold ixN
  rw[hl,if_neg (by decide),if_pos (by lia)]
  congr 1
  lia
 unfold atI
 rw[e]
 show(xs++[v])[xs.length]? = some v
 simp
noncomputable def y7C(b:Expr):Prop:=∀o i,subscripted b false o i=operate [o,i] (getItem o i)
noncomputable def IxR(X:Cx)(r:R2):Prop:=
 ∀(value slice:Expr) (pins:List (Addr×Obj)) (s:Shared) (σ:St) (H:Hp) (x y:V) (v u:Value) (Q:VK),Inv X pins σ H s->RelV x v->RelV y u->r x y H Q->
  subscripted slice false v u=operate [v,u] (getItem v u)->wpAny (model X.prog X.w) X.A (subscriptTail value slice v u) (EP X pins σ Q) X.xe s
noncomputable def MtR(X:Cx)(id:String)(r:V->List V->Hp->VK->Prop):Prop:=
 ∀(pins:List (Addr×Obj)) (s:Shared) (σ:St) (H:Hp) (x:V) (xs:List V) (v:Value) (us:List Value) (Q:VK),Inv X pins σ H s->RelV x v->Vals xs us->r x xs H Q->
  wpAny (model X.prog X.w) X.A (call (.builtin id) (v::us)) (EP X pins σ Q) X.xe s
section
variable{X:Cx}{a b:Expr}{ta tb:TE}{pos:Pos}
theorem IxR.or{r r':R2}(h:IxR X r)(h':IxR X r'):IxR X (fun x y H Q=>r x y H Q\/r' x y H Q):=by
 intro value slice pins s σ H x y v u Q I rx ry q hs
 rcases q with q|q
 ·exact h value slice pins s σ H x y v u Q I rx ry q hs
 ·exact h' value slice pins s σ H x y v u Q I rx ry q hs
theorem z0A{r:R2}(hr:IxR X r)(ha:PE X a ta)(hb:PE X b tb)(hs:y7C b):PE X (.Subscript a b pos) (tOp r ta tb):=by
 intro pins s σ H Q I h
 exact Subscript_ (w08 ha hb I h fun v u s2 x y H2 I2 rx ry q=>hr a b pins s2 σ H2 x y v u Q I2 rx ry q (hs _ _))
noncomputable def rIxL(K:PySem.W.Frag):R2:=fun x y H Q=>∃p xs i v,x=.ref p/\y=.int i/\SqL K H p xs/\atI xs i=some v/\Q v H
noncomputable def Q6(K:PySem.W.Frag):R2:=fun x y H Q=>∃p xs i v,x=.ref p/\y=.int i/\SqT K H p xs/\atI xs i=some v/\Q v H
noncomputable def rIxS:R2:=fun x y H Q=>∃z i c,x=.str z/\y=.int i/\z.length≤sizeLine/\atI z.cps.toList i=some c/\Q (.str ⟨#[c]⟩) H
theorem z1j:IxR X (rIxL X.K):=by
 intro value slice pins s σ H x y v u Q I rx ry h hs
 obtain⟨p,xs,i,z,rfl,rfl,hq,he,q⟩:=h
 cases rx
 obtain⟨t,rfl⟩:=ry
 obtain⟨its,r,pl,hz⟩:=I.list hq
 obtain⟨j,h1,h2,h3,h4,h5⟩:=y1r he
 obtain⟨w,ew,rw'⟩:=r.get h2
 have hl:=r.length
 have hn:=z8v
 have fin:EP X pins σ Q w s:=⟨z,H,I,rw',q⟩
 by_cases h0:0≤i
 ·have hj:i.toNat=j:=by
   rw[seqIndex_of h0 h5] at h1
   exact Option.some.inj h1
  exact item_listR pl.isList h0 (by lia) (by rw[hj];simpa using ew) fin hs
 ·have hj:(i+(its.toArray.size:Int)).toNat=j:=by
   rw[seqIndex_neg (by lia) h4] at h1
   rw[bO,<- hl]
   exact Option.some.inj h1
  exact subscriptTail_builtinR (x:=w) pl.isList.typeIs slot_list_getitem.lookup
   (wpAny_getItem_list_neg (Q:=fun r s'=>r=w/\EP X pins σ Q r s') pl.isList (by lia) (by rw[bO]<;>lia) (by lia) (by rw[hj];simpa using ew) ⟨rfl,fin⟩) hs
theorem z0w:IxR X (Q6 X.K):=by
 intro value slice pins s σ H x y v u Q I rx ry h hs
 obtain⟨p,xs,i,z,rfl,rfl,hq,he,q⟩:=h
 cases rx
 obtain⟨t,rfl⟩:=ry
 obtain⟨its,r,pl,hz⟩:=I.tuple hq
 obtain⟨j,h1,h2,h3,h4,h5⟩:=y1r he
 obtain⟨w,ew,rw'⟩:=r.get h2
 have hl:=r.length
 have hn:=z8v
 have fin:EP X pins σ Q w s:=⟨z,H,I,rw',q⟩
 exact subscriptTail_builtinR (x:=w) pl.typeIs slot_tuple_getitem.lookup
  (getItem_tuple (j:=j) (Q:=fun r s'=>r=w/\EP X pins σ Q r s') pl (by lia) (by lia) (by rw[bO,<- hl];exact h1) (by simpa using ew) ⟨rfl,fin⟩) hs
theorem y40:IxR X rIxS:=by
 intro value slice pins s σ H x y v u Q I rx ry h hs
 obtain⟨z,i,c,rfl,rfl,hz,he,q⟩:=h
 obtain⟨t,rfl⟩:=rx
 obtain⟨t',rfl⟩:=ry
 obtain⟨j,h1,h2,h3,h4,h5⟩:=y1r he
 have hl:z.cps.toList.length=z.length:=by simp[Str.length]
 rw[hl] at h1 h4 h5
 have hn:=z8v
 exact tail_any (typeIs_str s z t) slot_str_getitem.lookup (getItem_str (c:=c) (by
  have e1:decide (i < -(2^63:Int))=false:=decide_eq_false (by lia)
  have e2:decide (i≥2^63)=false:=decide_eq_false (by lia)
  rw[e1,e2,Bool.or_false]) (by rw[h1];simpa using h2) ⟨.str ⟨#[c]⟩,H,I.tok _,⟨_,rfl⟩,q⟩) hs
noncomputable def rIx(K:PySem.W.Frag):R2:=fun x y H Q=>rIxL K x y H Q\/Q6 K x y H Q\/rIxS x y H Q
theorem y8H:IxR X (rIx X.K):=z1j.or (z0w.or y40)
theorem z7z(lo hi:Option Int)(n:Nat):(sliceBounds lo hi none n).1=((HT.sIx n 0 lo:Nat):Int)/\(sliceBounds lo hi none n).2.1=((HT.sIx n n hi:Nat):Int)/\(sliceBounds lo hi none n).2.2=1:=by
 refine⟨?_,?_,rfl⟩
 ·cases lo with
  | none=>simp[sliceBounds,HT.sIx]
  | some i=>
   simp only[sliceBounds,HT.sIx,Option.getD_none,show(1:Int) > 0 by decide,if_true]
   by_cases h:i<0
   ·simp only[h,if_true]<;>lia
   ·simp only[h,if_false]<;>lia
 ·cases hi with
  | none=>simp[sliceBounds,HT.sIx]
  | some i=>
   simp only[sliceBounds,HT.sIx,Option.getD_none,show(1:Int) > 0 by decide,if_true]
   by_cases h:i<0
   ·simp only[h,if_true]<;>lia
   ·simp only[h,if_false]<;>lia
theorem y0g(its:List Value)(lo hi:Option Int):slicePick its.toArray lo hi none=((its.drop (HT.sIx its.length 0 lo)).take (HT.sIx its.length its.length hi-HT.sIx its.length 0 lo)).toArray:=by
 obtain⟨h1,h2,h3⟩:=z7z lo hi its.toArray.size
 unfold slicePick
 rw[h1,h2,h3]
 simp only[sliceRange_one,pick_run,bO]<;>rfl
noncomputable def rSlL(K:PySem.W.Frag):V->Option Int->Option Int->Hp->VK->Prop:=fun x lo hi H Q=>∃a xs,x=.ref a/\SqL K H a xs/\∀p,H p=none->Q (.ref p) (upd H p (.lst (K6 xs lo hi)))
theorem z9a:SlR X (rSlL X.K):=by
 intro pins s σ H x v vl vu lo hi sl Q I rx hs pl pu h
 obtain⟨a,xs,rfl,hx,q⟩:=h
 cases rx
 obtain⟨its,r,ht,hz⟩:=I.list hx
 have hlen:=r.length
 refine⟨"list",_,slot_list_getitem.lookup,ht.isList.typeIs,?_⟩
 refine wpAny_getItem_list_slice ht.isList hs pl pu .none (by simp) ?_ (by rw[bO]<;>lia)
 rw[y0g,<- hlen]
 refine⟨.ref s.heap.objs.size,_,I.laid (t':=s.toks) (o:=.lst (K6 xs lo hi)) (fun b ob q=>bB _ q) (bJ _) ?_,rfl,q _ (I.hok.fresh (bJ _))⟩
 exact⟨cM (z95 xs lo hi) hz,_,0,(r.drop (HT.sIx xs.length 0 lo)).take (HT.sIx xs.length xs.length hi-HT.sIx xs.length 0 lo),bK _ rfl⟩
noncomputable def z2k:V->Bool
 | .non=>true
 | .bl _=>true
 | .int _=>true
 | .str _=>true
 | _=>false
noncomputable def eqV:V->V->Bool
 | .non,.non=>true
 | .bl a,.bl b=>a == b
 | .bl a,.int b=>(if a then 1 else 0) == b
 | .int a,.bl b=>a == (if b then 1 else 0)
 | .int a,.int b=>a == b
 | .str a,.str b=>a == b
 | _,_=>false
theorem y41{A:Around}{s:Shared}{y x:V}{u v:Value}(ry:RelV y u)(rx:RelV x v)(fy:z2k y=true)(fx:z2k x=true):SeqAt.EqAt A s u v (eqV y x):=by
 cases y with
 | non=>
  cases ry
  cases x with
  | non=>cases rx;exact SeqAt.EqAt.same _
  | bl b=>cases rx;exact SeqAt.EqAt.none_bool b
  | int b=>obtain⟨t,rfl⟩:=rx;exact SeqAt.EqAt.none_int b t
  | str b=>obtain⟨t,rfl⟩:=rx;exact SeqAt.EqAt.none_str b t
  | _=>exact absurd (show false=true from fx) bM
 | bl a=>
  cases ry
  cases x with
  | non=>cases rx;exact SeqAt.EqAt.bool_none a
  | bl b=>cases rx;exact SeqAt.EqAt.bool_bool a b
  | int b=>obtain⟨t,rfl⟩:=rx;exact SeqAt.EqAt.bool_int a b t
  | str b=>obtain⟨t,rfl⟩:=rx;exact SeqAt.EqAt.bool_str a b t
  | _=>exact absurd (show false=true from fx) bM
 | int a=>
  obtain⟨t',rfl⟩:=ry
  cases x with
  | non=>cases rx;exact SeqAt.EqAt.int_none a t'
  | bl b=>cases rx;exact SeqAt.EqAt.int_bool a t' b
  | int b=>obtain⟨t,rfl⟩:=rx;exact SeqAt.EqAt.int_int a t' b t
  | str b=>obtain⟨t,rfl⟩:=rx;exact SeqAt.EqAt.int_str a t' b t
  | _=>exact absurd (show false=true from fx) bM
 | str a=>
  obtain⟨t',rfl⟩:=ry
  cases x with
  | non=>cases rx;exact SeqAt.EqAt.str_none a t'
  | bl b=>cases rx;exact SeqAt.EqAt.str_bool a t' b
  | int b=>obtain⟨t,rfl⟩:=rx;exact SeqAt.EqAt.str_int a t' b t
  | str b=>obtain⟨t,rfl⟩:=rx;exact SeqAt.EqAt.str_str a t' b t
  | _=>exact absurd (show false=true from fx) bM
 | _=>exact absurd (show false=true from fy) bM
noncomputable def eqU(x:V)(u:Value):Bool:=match u with
 | .none=>eqV .non x
 | .bool b=>eqV (.bl b) x
 | .int i _=>eqV (.int i) x
 | .str z _=>eqV (.str z) x
 | _=>false
theorem y27{x y:V}{u:Value}(r:RelV y u)(f:z2k y=true):eqU x u=eqV y x:=by
 cases y with
 | non=>cases r;rfl
 | bl b=>cases r;rfl
 | int i=>obtain⟨t,rfl⟩:=r;rfl
 | str z=>obtain⟨t,rfl⟩:=r;rfl
 | _=>exact absurd (show false=true from f) bM
theorem z8a{x:V}:∀{xs:List V}{us:List Value},Vals xs us->xs.all z2k=true->us.any (eqU x)=xs.any fun y=>eqV y x
 | _,_,.nil,_=>rfl
 | y::xs,u::us,.cons r t,f=>by
  rw[gL,bZ] at f
  rw[gM,gM,y27 r f.1,z8a t f.2]
theorem z5f{A:Around}{s:Shared}{x:V}{v:Value}(rx:RelV x v)(fx:z2k x=true):∀{xs:List V}{us:List Value},Vals xs us->xs.all z2k=true->∀u∈us,SeqAt.EqAt A s u v (eqU x u)
 | _,_,.nil,_=>fun u hu=>by cases hu
 | y::xs,u::us,.cons r t,f=>fun u' hu=>by
  rw[gL,bZ] at f
  rcases bF.mp hu with rfl|hu
  ·rw[y27 r f.1];exact y41 r rx f.1 fx
  ·exact z5f rx fx t f.2 u' hu
noncomputable def inV(x:V)(xs:List V):Bool:=xs.any fun y=>eqV y x
noncomputable def rIn(K:PySem.W.Frag)(neg:Bool):R2:=fun x y H Q=>∃p xs,y=.ref p/\(SqL K H p xs\/SqT K H p xs)/\z2k x=true/\xs.all z2k=true/\Q (.bl (if neg then !inV x xs else inV x xs)) H
theorem z3Q:OpR X (compareOp .In) (rIn X.K false):=by
 intro pins s σ H x y v u Q I rx ry h
 obtain⟨p,xs,rfl,hq,fx,fs,q⟩:=h
 cases ry
 rcases hq with hq|hq
 ·obtain⟨its,r,pl,hz⟩:=I.list hq
  refine SeqAt.in_listAt (eqU x) pl.isList (fun w hw=>z5f rx fx r fs w (by simpa using hw)) ⟨.bl _,H,I,rfl,?_⟩
  rw[show its.toArray.any (eqU x)=its.any (eqU x) by simp,z8a r fs]
  exact q
 ·obtain⟨its,r,pl,hz⟩:=I.tuple hq
  refine SeqAt.in_tupleAt (eqU x) pl (fun w hw=>z5f rx fx r fs w (by simpa using hw)) ⟨.bl _,H,I,rfl,?_⟩
  rw[show its.toArray.any (eqU x)=its.any (eqU x) by simp,z8a r fs]
  exact q
theorem z1z:OpR X (compareOp .NotIn) (rIn X.K true):=by
 intro pins s σ H x y v u Q I rx ry h
 obtain⟨p,xs,rfl,hq,fx,fs,q⟩:=h
 cases ry
 rcases hq with hq|hq
 ·obtain⟨its,r,pl,hz⟩:=I.list hq
  refine SeqAt.notIn_listAt (eqU x) pl.isList (fun w hw=>z5f rx fx r fs w (by simpa using hw)) ⟨.bl _,H,I,rfl,?_⟩
  rw[show its.toArray.any (eqU x)=its.any (eqU x) by simp,z8a r fs]
  exact q
 ·obtain⟨its,r,pl,hz⟩:=I.tuple hq
  refine SeqAt.notIn_tupleAt (eqU x) pl (fun w hw=>z5f rx fx r fs w (by simpa using hw)) ⟨.bl _,H,I,rfl,?_⟩
  rw[show its.toArray.any (eqU x)=its.any (eqU x) by simp,z8a r fs]
  exact q
theorem z09:z3R X (.builtin "len") (fun xs H Q=>∃p ys,xs=[.ref p]/\(SqL X.K H p ys\/SqT X.K H p ys)/\Q (.int ys.length) H):=by
 intro pins s σ H xs us Q I r h
 obtain⟨p,ys,rfl,hq,q⟩:=h
 obtain⟨u,rfl,rx⟩:=z4y r
 cases rx
 have hn:=z8v
 rcases hq with hq|hq
 ·obtain⟨its,r',pl,hz⟩:=I.list hq
  have hlen:=r'.length
  exact Calls.call_len_list pl.isList (by simp only[bO]<;>lia) ⟨.int ys.length,H,I.tok _,⟨s.toks+1,by rw[bO,hlen]⟩,q⟩
 ·obtain⟨its,r',pl,hz⟩:=I.tuple hq
  have hlen:=r'.length
  exact len_tuple pl (by simp only[bO]<;>lia) ⟨.int ys.length,H,I.tok _,⟨s.toks+1,by rw[bO,hlen]⟩,q⟩
theorem y0D:z3R X (.builtin "len") (fun xs H Q=>∃z,xs=[.str z]/\z.length≤sizeLine/\Q (.int z.length) H):=by
 intro pins s σ H xs us Q I r h
 obtain⟨z,rfl,hz,q⟩:=h
 obtain⟨u,rfl,t,rfl⟩:=z4y r
 have hn:=z8v
 exact len_str (by lia) ⟨.int z.length,H,I.tok _,⟨_,rfl⟩,q⟩
theorem z4K:z3R X (.type "list") (fun xs H Q=>∃p ys,xs=[.ref p]/\(SqL X.K H p ys\/SqT X.K H p ys)/\∀l,H l=none->Q (.ref l) (upd H l (.lst ys))):=by
 intro pins s σ H xs us Q I r h
 obtain⟨p,ys,rfl,hq,q⟩:=h
 obtain⟨u,rfl,rx⟩:=z4y r
 cases rx
 have fin:∀(its:List Value),Vals ys its->ys.length≤sizeLine->∀(h':Heap) (c':Nat),(∀b o',s.heap.get? b=some o'->h'.get? b=some o')->
   h'.get? s.heap.objs.size=some { cls:=.type "list",dict:=none,data:=.seq its.toArray c',slots:=#[] }->EP X pins σ Q (.ref s.heap.objs.size) { s with heap:=h' }:=fun its r' hz h' c' kp e=>
  ⟨.ref s.heap.objs.size,_,I.laid (t':=s.toks) kp (bJ _) (show z1L X.prog X.w _ h' _ (.lst ys) from⟨hz,its,c',r',e⟩),rfl,q _ (I.hok.fresh (bJ _))⟩
 rcases hq with hq|hq
 ·obtain⟨its,r',pl,hz⟩:=I.list hq
  have hlen:=r'.length
  obtain⟨o,ho,hc,n,hd⟩:=pl.isList
  exact call_list_seq p (.inl rfl) ho hc hd (fun h' c' kp e=>fin its r' hz h' c' kp e) (by simp only[bO]<;>lia)
 ·obtain⟨its,r',pl,hz⟩:=I.tuple hq
  have hlen:=r'.length
  obtain⟨o,ho,hc,n,hd⟩:=pl
  exact call_list_seq p (.inr rfl) ho hc hd (fun h' c' kp e=>fin its r' hz h' c' kp e) (by simp only[bO]<;>lia)
theorem z0p:z3R X (.type "tuple") (fun xs H Q=>∃p ys,xs=[.ref p]/\((SqL X.K H p ys/\∀l,H l=none->Q (.ref l) (upd H l (.tup ys)))\/(SqT X.K H p ys/\Q (.ref p) H))):=by
 intro pins s σ H xs us Q I r h
 obtain⟨p,ys,rfl,h⟩:=h
 obtain⟨u,rfl,rx⟩:=z4y r
 cases rx
 rcases h with ⟨hq,q⟩|⟨hq,q⟩
 ·obtain⟨its,r',pl,hz⟩:=I.list hq
  have hlen:=r'.length
  refine call_tuple_list pl.isList (fun h' kp=>?_) (by simp only[bO]<;>lia)
  have I1:Inv X pins σ H { s with heap:=h' }:=I.kept (t':=s.toks) kp
  have I2:Inv X pins σ (upd H h'.objs.size (.tup ys)) { s with heap:=h'.push { cls:=.type "tuple",data:=.seq its.toArray } }:=
   I1.laid (t':=s.toks) (fun b o e=>bB _ e) (bJ _) (show z1L X.prog X.w _ _ _ (.tup ys) from⟨hz,its,r',PlT.new _ _⟩)
  exact⟨.ref h'.objs.size,_,I2,rfl,q _ (I1.hok.fresh (bJ _))⟩
 ·obtain⟨its,r',pl,hz⟩:=I.tuple hq
  exact call_tuple_same pl ⟨.ref p,H,I,rfl,q⟩
noncomputable def tyV(K:PySem.W.Frag)(T:String)(x:V)(H:Hp):Prop:=match x with
 | .str _=>T="str"
 | .int _=>T="int"
 | .ref p=>(T="list"/\∃xs,SqL K H p xs)\/(T="tuple"/\∃o,K.lookup p=some o/\o.cls=.type "tuple"/\o.dict=none)\/
   (T="dict"/\((∃kvs,H p=some (.dK kvs))\/∃kvs,H p=some (.dT kvs)))\/(T="set"/\∃S n,H p=some (.set S n))
 | _=>False
theorem y8v{pins:List (Addr×Obj)}{σ:St}{H:Hp}{s:Shared}{T:String}{x:V}{v:Value}(I:Inv X pins σ H s)(r:RelV x v)(ty:tyV X.K T x H) :
  s.TypeIs v T/\∀a,v=.ref a->∃ob,s.heap.get? a=some ob/\ob.dict=none:=by
 cases x with
 | str z=>
  obtain⟨t,rfl⟩:=r
  cases (show T="str" from ty)
  exact⟨typeIs_str s z t,fun _ e=>nomatch e⟩
 | int i=>
  obtain⟨t,rfl⟩:=r
  cases (show T="int" from ty)
  exact⟨typeIs_int s i t,fun _ e=>nomatch e⟩
 | ref p=>
  cases r
  rcases ty with ⟨rfl,xs,hq⟩|⟨rfl,o,hk,hc,hd⟩|⟨rfl,hk⟩|⟨rfl,S,n,hk⟩
  ·obtain⟨its,_,pl,_⟩:=I.list hq
   refine⟨pl.isList.typeIs,fun a e=>?_⟩
   cases e
   obtain⟨o,n,e,c,hd,_⟩:=pl
   exact⟨o,e,hd⟩
  ·refine⟨⟨o,I.kIn p o hk,hc⟩,fun a e=>?_⟩
   cases e
   exact⟨o,I.kIn _ o hk,hd⟩
  ·have z:∃o,s.heap.get? p=some o/\o.ExactDict:=by
    rcases hk with ⟨kvs,hk⟩|⟨kvs,hk⟩
    ·obtain⟨_,_,_,_,o,_,_,e,ex,_⟩:=I.hok p _ hk
     exact⟨o,e,ex⟩
    ·obtain⟨_,_,_,_,o,_,_,e,ex,_⟩:=I.hok p _ hk
     exact⟨o,e,ex⟩
   obtain⟨o,e,ex⟩:=z
   refine⟨⟨o,e,ex.1⟩,fun a e2=>?_⟩
   cases e2
   exact⟨o,e,ex.2.1⟩
  ·obtain⟨o,_,_,_,e,ex,_⟩:=I.hok p _ hk
   refine⟨⟨o,e,ex.1⟩,fun a e2=>?_⟩
   cases e2
   exact⟨o,e,ex.2.1⟩
 | _=>exact False.elim ty
noncomputable def tBM(K:PySem.W.Frag)(T:String)(r:V->List V->Hp->VK->Prop)(to:TE)(t:TA):TE:=fun σ H Q=>to σ H fun x H1=>tyV K T x H1/\t σ H1 fun xs H2=>r x xs H2 Q
variable{o e:Expr}{es:List Expr}{to:TE}{t:TA}{name:Str}{apos U2:Pos}{T id:String}{r:V->List V->Hp->VK->Prop}
theorem z2Z(pa:PlainAttrs T)(slot:Slot T name id)(hty:typeOf (.builtin id)=pure (.type "method_descriptor"))(hm:MtR X id r)(ho:PE X o to)(ha:PA X (e::es) t)
  (w1C:attributeBase o name X.env (eval o X.env)=eval o X.env:=by rfl)
  (hfew:((backTo U2 (starEach (e::es) X.env)).all (fun x=>!x.1) && (backToKw U2 (keywordEach [] X.env)).all (fun x=>x.1.isSome)
   && decide ((e::es).length+([]:List Keyword).length+(if ([]:List Keyword).isEmpty then 0 else 1)<30))=true:=by rfl)
  (w1o:(apos.endLine == U2.line)=true:=by rfl) (hs:starEach (e::es) X.env=(false,eval e X.env)::starEach es X.env:=by rfl) (S1:(backTo U2 (starEach es X.env)).any (·.1)=false:=by rfl) :
  PE X (.Call (.Attribute o name apos) (e::es) [] U2) (tBM X.K T r to t):=by
 intro pins s σ H Q I h
 refine wpAny_Call_method_late w1C hfew w1o rfl (thn (ho pins s σ H _ I h) fun v s1 hz=>?_)
 obtain⟨x,H1,I1,r1,ty,q1⟩:=hz
 obtain⟨h1,h2⟩:=y8v I1 r1 ty
 refine⟨T,id,pa,slot,hty,h1,h2,?_⟩
 have hA:=ha U2 pins s1 σ H1 _ I1 q1
 rw[hs] at hA ⊢
 refine Calls.callWith_builtin (by show(false || (backTo U2 (starEach es X.env)).any (·.1))=false;rw[S1]<;>rfl) (Calls.evalArgs_plain ?_)
 exact thn hA fun us s2 ⟨vs,H2,I2,r2,q2⟩=>hm pins s2 σ H2 x vs v us Q I2 r1 r2 q2
end
noncomputable def MtM(X:Cx)(id:String)(r:V->List V->Hp->VK->Prop):Prop:=
 ∀(pins:List (Addr×Obj)) (s:Shared) (σ:St) (H:Hp) (x:V) (xs:List V) (v:Value) (us:List Value) (Q:VK),Inv X pins σ H s->RelV x v->Vals xs us->r x xs H Q->
  wpAny (model X.prog X.w) X.A (call (.builtin id) (v::us)) (EP X pins σ Q) X.xe s
theorem Vals.one:∀{x:V}{us:List Value},Vals [x] us->∃u,us=[u]/\RelV x u
 | _,_,.cons r .nil=>⟨_,rfl,r⟩
theorem Vals.dropLast{xs:List V}{us:List Value}(h:Vals xs us):Vals xs.dropLast us.dropLast:=by
 induction h with
 | nil=>exact .nil
 | cons r t ih=>
  cases t with
  | nil=>exact .nil
  | cons q t'=>exact .cons r ih
section
variable{X:Cx}{pins:List (Addr×Obj)}{σ:St}{H:Hp}{s:Shared}{l b:Addr}{xs ys zs:List V}
theorem Inv.lset{its its':List Value}{n:Nat}{f:Array Value->Array Value}{t':Nat}(I:Inv X pins σ H s)(hH:H l=some (.lst xs))
  (e:s.heap.get? l=some { cls:=.type "list",data:=.seq its.toArray n }) (hf:f its.toArray=its'.toArray) (hv:Vals ys its') (hz:ys.length≤sizeLine) :
  Inv X pins σ (upd H l (.lst ys)) { s with heap:=s.heap.update l (Obj.mapSeq f),toks:=t' }:=by
 have q:=PySem.IsL.update e f
 rw[hf] at q
 refine I.write (x:=l) (e:=l) (by rw[hH];exact trivial) (.inl rfl) (fun b' u hb hu=>(d6 s.heap (Obj.mapSeq f) (dG hb)).trans hu) ⟨_,q⟩ ?_
 exact⟨hz,its',_,hv,q⟩
theorem Inv.lnew{its:List Value}{t':Nat}(I:Inv X pins σ H s)(hv:Vals ys its)(hz:ys.length≤sizeLine) :
  Inv X pins σ (upd H s.heap.objs.size (.lst ys)) { s with heap:=s.heap.push { cls:=.type "list",data:=.seq its.toArray },toks:=t' }:=
 I.laid (fun _ _ q=>bB _ q) (bJ _) ⟨hz,its,0,hv,bK _ rfl⟩
theorem Inv.fresh(I:Inv X pins σ H s):H s.heap.objs.size=none:=I.hok.fresh (bJ _)
theorem Inv.X7(I:Inv X pins σ H s)(hH:H l=some (.lst xs)):xs.length≤sizeLine/\∃(its:List Value) (n:Nat),Vals xs its/\xs.length=its.length/\s.heap.get? l=some { cls:=.type "list",data:=.seq its.toArray n }:=by
 obtain⟨z,its,n,r,e⟩:=I.hok l _ hH
 exact⟨z,its,n,r,r.length,e⟩
theorem y6A{n:Nat}(h:n≤sizeLine):Builtin.List.listTooLong n=false:=by
 unfold Builtin.List.listTooLong
 exact decide_eq_false (by lia)
end
section
variable{X:Cx}
noncomputable def y7m:V->List V->Hp->VK->Prop:=fun x vs H Q=>∃l xs y,x=.ref l/\vs=[y]/\H l=some (.lst xs)/\xs.length<sizeLine/\Q .non (upd H l (.lst (xs++[y])))
theorem z0L:MtM X "list.append" y7m:=by
 intro pins s σ H x vs v us Q I rx rv h
 obtain⟨l,xs,y,rfl,rfl,hH,hz,q⟩:=h
 cases rx
 obtain⟨u,rfl,ru⟩:=rv.one
 obtain⟨z,its,n,r,hl,e⟩:=I.X7 hH
 refine call_meets F.slot_list_append ⟨_,e,rfl⟩ F.entry_list_append (F.args_list_append_2 _ _) (PySem.list_append l its.toArray n u (by rw[bO];lia)) ⟨e,?_⟩
 refine⟨.non,_,I.lset (its':=its++[u]) hH e (by simp) (r.append (.cons ru .nil)) ?_,rfl,q⟩
 rw[bL,dH]
 lia
noncomputable def y86:V->List V->Hp->VK->Prop:=fun x vs H Q=>∃l b xs zs,x=.ref l/\vs=[.ref b]/\H l=some (.lst xs)/\H b=some (.lst zs)/\xs.length+zs.length≤sizeLine/\Q .non (upd H l (.lst (xs++zs)))
theorem y8N:MtM X "list.extend" y86:=by
 intro pins s σ H x vs v us Q I rx rv h
 obtain⟨l,b,xs,zs,rfl,rfl,hH,hB,hz,q⟩:=h
 cases rx
 obtain⟨u,rfl,ru⟩:=rv.one
 cases ru
 obtain⟨z,its,n,r,hl,e⟩:=I.X7 hH
 obtain⟨z2,M1,n2,r2,hl2,e2⟩:=I.X7 hB
 have hsz:its.toArray.size+M1.toArray.size≤sizeLine:=by rw[bO,bO];lia
 have w1w:¬(!its.toArray.isEmpty && Builtin.List.listTooLong (its.toArray.size+M1.toArray.size))=true:=by
  rw[y6A hsz,Bool.and_false]
  exact bM
 refine call_meets F.slot_list_extend ⟨_,e,rfl⟩ F.entry_list_extend (F.args_list_extend_2 _ _)
  (AutoSeq1.list_extend_list_list_0 l its.toArray n b M1.toArray n2 w1w (by rw[bO];lia) (by lia)) ⟨e,e2,?_⟩
 refine⟨.non,_,I.lset (its':=its++M1) hH e (by simp) (r.append r2) ?_,rfl,q⟩
 rw[bL]
 lia
noncomputable def rCat:R2:=fun x y H Q=>∃l b xs zs,x=.ref l/\y=.ref b/\H l=some (.lst xs)/\H b=some (.lst zs)/\xs.length+zs.length≤sizeLine/\∀p,H p=none->Q (.ref p) (upd H p (.lst (xs++zs)))
theorem z9p:OpR X (binaryOp .Add) rCat:=by
 intro pins s σ H x y v u Q I rx ry h
 obtain⟨l,b,xs,zs,rfl,rfl,hH,hB,hz,q⟩:=h
 cases rx
 cases ry
 obtain⟨z,its,n,r,hl,e⟩:=I.X7 hH
 obtain⟨z2,M1,n2,r2,hl2,e2⟩:=I.X7 hB
 refine PySem.P.add_list e e2 ?_ (by rw[bO,bO];lia)
 have ea:its.toArray++M1.toArray=(its++M1).toArray:=by simp
 rw[ea]
 exact⟨.ref _,_,I.lnew (t':=s.toks) (r.append r2) (by rw[bL];lia),rfl,q _ I.fresh⟩
end
section
variable{prog:Program}{w:World}{A:Around}{E:Value->Shared->Prop}{s:Shared}
end
section
variable{X:Cx}
end
end L2
namespace Att
open PySem PySem.W PySem.Calls PyProof.Rows
theorem z8m{P:Params}{h:Heap}:∀(ns:List Int) (vs:List Value),WellAll P h vs (ns.map WData.int)->IntsAre vs ns:=by
 intro ns
 induction ns with
 | nil=>
  intro vs w
  rw[List.map_nil] at w
  cases w
  exact .nil
 | cons n ns ih=>
  intro vs w
  rw[cV] at w
  cases w with
  | cons a b=>
   cases a
   exact .cons _ _ (ih _ b)
theorem y3I{l:OpenLaw}{n:Nat}(hn:l.most=some n){P:Params}{h:Heap}{args:List WData}{vals:List Value}
  (Z3:l.row.toRowW.claim.pre args=true) (hwl:WellAll P h vals args) :
  ∃a vs ns,vals=[Value.ref a]/\args=[WData.list (ns.map WData.int)]/\h.get? a=some { cls:=.type "list",data:=.seq vs.toArray }/\IntsAre vs ns/\ns.length≤n:=by
 have hsh:WShape.hasAll [] args [.list .int]=true:=(pre_splitW Z3).1
 have hc:l.pre.holds [] { args:=args }=true:=(pre_splitW Z3).2
 obtain⟨d,r,rfl,h1,h2⟩:=hasAllW_cons hsh
 obtain rfl:=hasAllW_nil h2
 obtain⟨xs,rfl,h3⟩:=hasW_list h1
 obtain⟨ns,rfl⟩:=items_int h3
 have hlen:ns.length≤n:=by
  unfold OpenLaw.pre at hc
  have h4:(WTm.not (.lt (.lit (.int (n:Int))) (.len (.arg 0)))).holds [] { args:=[.list (ns.map .int)] }=true:=by
   have h4:=(holds_andW hc).1
   rw[hn] at h4
   exact h4
  have h5:=condW_of h4 (w_not (w_lt w_lit (w_len_list (w_arg rfl))))
  rw[bA] at h5
  refine kJ fun q=>?_
  have q':(n:Int)<((ns.length:Nat):Int):=by lia
  first
   | (rw[decide_eq_true q'] at h5;exact absurd h5 (by decide))
   | (simp at h5;lia)
 cases hwl with
 | cons w1 w2=>
  cases w2
  cases w1 with
  | list ho C3=>exact⟨_,_,ns,rfl,rfl,ho,z8m ns _ C3,hlen⟩
theorem y4R(l:OpenLaw)(args:List WData):l.row.toRowW.claim.post args (.bool true) args=true:=
 postW_of (r:=l.row.toRowW) (X:=(true == true))
  (show WShape.has [] (.bool true) .bool=true by first|rfl|decide|simp[WShape.has,WShape.arms,WShape.armsAll])
  (show(WTm.eq .res (.lit (.bool true))).value [] { args:=args,res:=some (.bool true),after:=args }=some (.bool (true == true)) from w_eq_bool (w_res rfl) w_lit) rfl
theorem y1M{l:OpenLaw}{n:Nat}{q:Program}{loose:List Str}{XP:(Str->Option Value)->Heap->Prop}{YP:World->Heap->Prop}{d:DefRec}
  (hn:l.most=some n) (hdf:d.params.defaults=[])
  (call:∀(w:World) (s₀ s₁:Shared) (mg mb:Str->Option Value) (fa:Addr) (o:Obj) (pm cd doc:Value) (a:Addr) (vs:List Value) (ns:List Int),
   Ground q loose [] XP w s₀ mg mb s₁.heap->YP w s₁.heap->
   s₁.heap.get? fa=some o->o.data=.func (docDef d.name d.params d.body d.scope pm cd doc)->s₁.heap.CodeRec cd d.name->mg d.name=some (.ref fa)->
   s₁.heap.get? a=some { cls:=.type "list",data:=.seq vs.toArray }->IntsAre vs ns->ns.length≤n->s₁.gens=#[]->
   codeAny (model l.prog w) callerA (.call (.ref fa) ⟨[.ref a],[]⟩) (fun r s'=>r=.ok (.ret (.bool true))/\OldK s₁.heap s'.heap/\s'.os=s₁.os/\AllBare s'.gens) s₁) :
  WalkO q loose XP YP l.row.toRowW d [] (fun f vs=>PySem.call f vs):=by
 intro w s₀ s₁ mg mb G Y fa o pm cd doc dV kV ho hd hcd hD hmg hg args vals as Z3 hlay hrd hwl hlo
 obtain rfl:dV=.none:=Dflts.none hD hdf
 obtain rfl:kV=.none:=Dflts.noKw hD
 obtain⟨a,vs,ns,rfl,rfl,hobj,hints,hlen⟩:=y3I hn Z3 hwl
 refine enter_call (codeAny_mono (call w s₀ s₁ mg mb fa o pm cd doc a vs ns G Y ho (fd_plain hd) hcd hmg hobj hints hlen hg) fun r s' hq=>?_)
 obtain⟨rfl,h2,h3,h4⟩:=hq
 exact⟨.inl ⟨.bool true,.bool true,[],rfl,fun _=>rfl,.bool true,y4R l _,fun _=>⟨List.Pairwise.nil,fun _ hm=>(nomatch hm)⟩⟩,h2,h3,h4⟩
section
variable{prog:Program}{w:World}{A:Around}{E:Value->Shared->Prop}{s:Shared}{K:Frag}
end
end Att
namespace L2
open PySem PySem.Spec PyProof.Rows
theorem z67:∀{vs:List Value}{ns:List Int},IntsAre vs ns->Vals (ns.map V.int) vs
 | _,_,.nil=>.nil
 | _,_,.cons n t h=>.cons ⟨t,rfl⟩ (z67 h)
noncomputable def w09(H:Hp):Prop:=∀b,H b=none\/∃o xs,H b=some (.frz o (.lst xs))
theorem y62{P:Program}{w:World}{K:PySem.W.Frag}{mg mb:Str->Option Value}{CX:CXT}{k:Nat}{fa a:Addr}{fd:FuncData}{x:Str}{sp:Sp}{s₁:Shared}{vs:List Value}{ns:List Int}
  (KX:K.In s₁.heap) (hns:s₁.heap.Ns mainGlobals mg) (hb:s₁.heap.Ns builtinsNs mb) (hbb:∀x:Str,x≠"__name__"->mb x=bootBuiltins x) (hlim:s₁.heap.NoLimit) (hg:s₁.gens=#[])
  (ha:s₁.heap.get? a=some { cls:=.type "list",data:=.seq vs.toArray }) (hi:IntsAre vs ns) (hl:ns.length≤sizeLine) (hr:E9 k callerA)
  (F:∀base:Heap,K.In base->base.Ns mainGlobals mg->B4 P w K mg base CX k fa fd [x] sp) (w1I:∀(s:Shared) (u:Value),BindsTo s fd ⟨[u],[]⟩ [(x,u)])
  (hsp:∀H:Hp,w09 H->SqL K H a (ns.map V.int)->sp [.ref a] H (fun v _=>v=.bl true) fun _ _ _=>False)
  (hCX:∀H e s',CX [] H s₁ (fun _ _ _=>False) e s'->False) :
  codeAny (model P w) callerA (.call (.ref fa) ⟨[.ref a],[]⟩) (fun r s'=>r=.ok (.ret (.bool true))/\OldK s₁.heap s'.heap/\s'.os=s₁.os/\AllBare s'.gens) s₁:=by
 have rv:=z67 hi
 have lenV:=hi.length
 have core:∀H:Hp,w09 H->SqL K H a (ns.map V.int)->HOk P w H s₁.heap->(∀b,H b≠none->b=a)->(H a≠none->K.lookup a=none)->
   codeAny (model P w) callerA (.call (.ref fa) ⟨[.ref a],[]⟩) (fun r s'=>r=.ok (.ret (.bool true))/\OldK s₁.heap s'.heap/\s'.os=s₁.os/\AllBare s'.gens) s₁:=by
  intro H hO hS hok hA hK
  have X1:∀{b:Addr}{o:Obj},s₁.heap.get? b=some o->H b=none->(T4 s₁.heap H).get? b=some o:=fun e n=>y5F e n
  have noA:∀{b:Addr}{o:Obj}{es:Array DictEntry}{ep:Nat},s₁.heap.get? b=some o->o.data=.dict es ep->H b=none:=fun {b o es ep} e d=>by
   cases q:H b with
   | none=>rfl
   | some u=>
    have e':b=a:=hA b (by rw[q];simp)
    subst e'
    rw[ha] at e;cases e
    have d':Data.seq vs.toArray _=Data.dict es ep:=d
    cases d'
  have nsK:∀{b:Addr}{m:Str->Option Value},s₁.heap.Ns b m->(T4 s₁.heap H).Ns b m:=fun {b m} ⟨o,es,ep,e,d,r⟩=>⟨o,es,ep,X1 e (noA e d),d,r⟩
  have hKb:K.In (T4 s₁.heap H):=fun b o e=>X1 (KX b o e) (by
   cases q:H b with
   | none=>rfl
   | some u=>
    have e':b=a:=hA b (by rw[q];simp)
    subst e'
    rw[hK (by rw[q];simp)] at e;cases e)
  have hM:Mod K mg (T4 s₁.heap H):=⟨hKb,nsK hns,⟨mb,nsK hb,hbb⟩,let ⟨mc,h1,h2⟩:=hlim;⟨mc,nsK h1,h2⟩⟩
  have e0:V7 P w K mg (T4 s₁.heap H) callerA [] s₁ H:=⟨rfl,hM,fun b o e=>y7D e,Nat.le_of_eq (y3O _ _),trivial,fun b hb=>absurd (show b∈([]:List Addr) from hb) (by simp),hok,.of_eq hg⟩
  refine codeAny_mono ((F _ hKb (nsK hns)).run callerA [] s₁ H ⟨[.ref a],[]⟩ [.ref a] [.ref a] _ _ hr e0 (w1I s₁ (.ref a)) (.cons rfl .nil) (hsp H hO hS)) fun r s' h=>?_
  cases r with
  | error e=>exact(hCX H e s' h).elim
  | ok fl=>
   cases fl with
   | next=>exact False.elim h
   | brk=>exact False.elim h
   | cont=>exact False.elim h
   | ret u=>
    obtain⟨v,H',os,bare,un,hok',r',q⟩:=h
    have q':v=.bl true:=q
    subst q'
    obtain rfl:u=Value.bool true:=r'
    refine⟨rfl,OldK.of_keep fun b o e=>?_,os,bare⟩
    cases q:H b with
    | none=>exact un.keep b o e q (by intro z;exact absurd (show b∈([]:List Addr) from z) (by simp)) (by simp)
    | some u=>
     rcases hO b with z|⟨ob,xs,z⟩
     ·rw[q] at z;cases z
     ·have z2:=un.T7 b ob _ z
      obtain⟨e1,_⟩:=hok b _ z
      obtain⟨e2,_⟩:=hok' b _ z2
      rw[e] at e1;cases e1
      exact e2
 cases hk:K.lookup a with
 | some o=>
  have e:=KX a o hk
  rw[ha] at e
  cases e
  refine core (fun _=>none) (fun _=>.inl rfl) (.inr ⟨_,vs.toArray,_,hk,rfl,rfl,rfl,by rw[bO,lenV];exact hl,by simpa using rv⟩) (fun b u z=>by have z':(none:Option HO)=some u:=z;cases z') (fun b z=>absurd rfl z) fun z=>absurd rfl z
 | none=>
  refine core (fun b=>if b=a then some (.frz { cls:=.type "list",data:=.seq vs.toArray } (.lst (ns.map V.int))) else none) (fun b=>?_) (.inl (.inr ⟨{ cls:=.type "list",data:=.seq vs.toArray },if_pos rfl⟩)) (fun b u z=>?_) (fun b z=>?_) fun _=>hk
  ·by_cases hb:b=a
   ·exact .inr ⟨_,_,if_pos hb⟩
   ·exact .inl (if_neg hb)
  ·by_cases hb:b=a
   ·have z':=(if_pos hb).symm.trans z
    cases z'
    subst hb
    exact⟨ha,by rw[bA];exact hl,vs,_,rv,ha⟩
   ·have z':=(if_neg hb).symm.trans z
    cases z'
  ·by_cases hb:b=a
   ·exact hb
   ·exact absurd (if_neg hb) z
theorem y7H{l:PySem.W.OpenLaw}{n k:Nat}{q:Program}{loose:List Str}{XP:(Str->Option Value)->Heap->Prop}{YP:World->Heap->Prop}{d:DefRec}{K:Params->PySem.W.Frag}{CX:World->CXT}{sp:World->Sp}{x:Str}
  (hn:l.most=some n) (hn2:n≤sizeLine) (hdf:d.params.defaults=[]) (hr:E9 k callerA)
  (hY:∀(w:World) (h:Heap),YP w h->(K w.params).In h)
  (F:∀(w:World) (mg:Str->Option Value) (fa:Addr) (h:Heap),(K w.params).In h->h.Ns mainGlobals mg->mg d.name=some (.ref fa)->
   ∃fd:FuncData,(∀(s:Shared) (u:Value),BindsTo s fd ⟨[u],[]⟩ [(x,u)])/\
    ∀base:Heap,(K w.params).In base->base.Ns mainGlobals mg->B4 l.prog w (K w.params) mg base (CX w) k fa fd [x] (sp w))
  (hsp:∀(w:World) (H:Hp) (a:Addr) (ns:List Int),ns.length≤n->w09 H->SqL (K w.params) H a (ns.map V.int)->sp w [.ref a] H (fun v _=>v=.bl true) fun _ _ _=>False)
  (hCX:∀(w:World) (H:Hp) (s:Shared) (e:Value) (s':Shared),CX w [] H s (fun _ _ _=>False) e s'->False) :
  PySem.W.WalkO q loose XP YP l.row.toRowW d [] (fun f vs=>PySem.call f vs):=by
 refine Att.y1M hn hdf fun w s₀ s₁ mg mb fa o pm cd doc a vs ns G Y ho hd hcd hmg hobj hints hlen hg=>?_
 have KX:=hY w _ Y
 obtain⟨fd,hb,hF⟩:=F w mg fa _ KX G.T.g hmg
 exact y62 KX G.T.g G.T.b G.T.builtins G.T.nolimit hg hobj hints (cM hlen hn2) hr hF hb (fun H hO hS=>hsp w H a ns hlen hO hS) fun H e s'=>hCX w H s₁ e s'
def z1s(s:Stmt)(j:Nat):Stmt:=match s with
 | .ClassDef _ _ _ body _ _ _ _ _ _ _=>body.getD j (.Pass ⟨0,0,0,0⟩)
 | _=>.Pass ⟨0,0,0,0⟩
noncomputable def z1G(s:Stmt):Arguments:=match s with
 | .FunctionDef _ a _ _ _ _ _ _ _ _=>a
 | _=>{ posonlyargs:=[],args:=[],vararg:=none,kwonlyargs:=[],kw_defaults:=[],kwarg:=none,defaults:=[] }
noncomputable def z1x(s:Stmt):List Stmt:=match s with
 | .FunctionDef _ _ b _ _ _ _ _ _ _=>b
 | _=>[]
noncomputable def z07(s:Stmt):Scope:=match s with
 | .FunctionDef _ _ _ _ _ _ sc _ _ _=>sc
 | _=>{ kind:=.function,names:=[],isGenerator:=false,isCoroutine:=false }
abbrev CX0:CXT:=fun _ _ _ _ _ _=>False
abbrev E0:XK:=fun _ _ _=>False
theorem y56{X:Cx}:z8j CX0 X E0:=fun _ _ _ _ _ _ _ h=>h.elim
structure Fun(K:PySem.W.Frag)(x qual:Str)(st:Stmt)(f:Addr)(fd:FuncData):Prop where
 ex:∃(oc:Value) (od:Option Addr) (kV doc pm:Value) (an:Option Addr) (cdv ct:Value) (osl:Array (Option Value)),
  fd=PySem.W.fnOf x qual (z1G st) (z1x st) (z07 st) .none kV doc pm an cdv ct/\K.lookup f=some ⟨oc,od,.func fd,osl⟩/\PySem.W.codeIn K cdv qual=true
 kp:PySem.W.keepIn K (.ref f)=true
section
variable{P:Program}{w:World}{K:PySem.W.Frag}{mg:Str->Option Value}{base:Heap}
theorem Fun.ok{x qual:Str}{st:Stmt}{f:Addr}{fd:FuncData}{N ps:List Str}{k:Nat}{sp:Sp}(F:Fun K x qual st f fd)(S:A9 N ps (z07 st))(len:∀vs H Q E,sp vs H Q E->vs.length=ps.length)
  (U5:∀(cdv:Value) (A:Around) (outer:List Env) (s:Shared) (H:Hp) (vs:List V) (Q:VK) (E:XK),E9 k (A.deeper (envOfC qual (z07 st) s.heap.objs.size f cdv))->sp vs H Q E->
   ∃t,PSs (W4 CX0 P w K mg base N qual (z07 st) f cdv A outer s H E).nox (z1x st) t/\t { nx:=fun _ H'=>Q .non H',rt:=Q } (z6g N vs) H):B4 P w K mg base CX0 (k+1) f fd ps sp:=by
 obtain⟨oc,od,kV,doc,pm,an,cdv,ct,osl,rfl,lk,hcd⟩:=F.ex
 refine y8j lk hcd S len fun A outer s H vs Q E hr hsp=>?_
 obtain⟨t,h,q⟩:=U5 cdv A outer s H vs Q E hr hsp
 exact⟨t,h.nox,q⟩
theorem Fun.binds{x qual:Str}{st:Stmt}{f:Addr}{fd:FuncData}{ps:List Str}(F:Fun K x qual st f fd)
  (h:∀(kV doc pm:Value) (an:Option Addr) (cdv ct:Value) (us:List Value),us.length=ps.length->bindArgs (PySem.W.fnOf x qual (z1G st) (z1x st) (z07 st) .none kV doc pm an cdv ct) ⟨us,[]⟩=pure (ps.zip us)):z2f K fd ps []:=by
 obtain⟨oc,od,kV,doc,pm,an,cdv,ct,osl,rfl,lk,hcd⟩:=F.ex
 exact .all (h kV doc pm an cdv ct)
theorem y8z{x qual:Str}{st:Stmt}{f:Addr}{oc:Value}{od an:Option Addr}{osl:Array (Option Value)}{kV doc pm cdv ct:Value}(l:K.lookup f=some ⟨oc,od,.func (PySem.W.fnOf x qual (z1G st) (z1x st) (z07 st) .none kV doc pm an cdv ct),osl⟩)
  (c:PySem.W.codeIn K cdv qual=true) (k:PySem.W.keepIn K (.ref f)=true):Fun K x qual st f (PySem.W.fnOf x qual (z1G st) (z1x st) (z07 st) .none kV doc pm an cdv ct):=⟨⟨oc,od,kV,doc,pm,an,cdv,ct,osl,rfl,l,c⟩,k⟩
end
theorem y0M{A:Around}{k:Nat}(hr:E9 k A):A.units+1<cLine:=eS (Nat.add_le_add_left (by decide:1≤64) _) hr.units
theorem z0f{n:Nat}(h:n≤1000):n<sizeLine:=eS h (by decide)
section
variable{X:Cx}
theorem pv(i:Nat){x:Str}{pos:Pos}(hN:X.N[i]? = some x:=by rfl)(hv:Vis X.env.scope x:=by first|exact Or.inl rfl|exact Or.inr (Or.inl rfl)|exact Or.inr (Or.inr rfl))(hd:(x == ("__debug__":Str))=false:=by decide)
  (hcd:(x == ("__classdict__":Str))=false:=by decide):PE X (.Name x pos) (U4 i):=y8Q hN hv hd hcd
end
theorem B7{A B:Prop}(h:B):if false=true then A else B:=by
 rw[if_neg bM]
 exact h
theorem E8{A B:Prop}(h:A):if true=true then A else B:=by
 rw[if_pos rfl]
 exact h
theorem B9{c A B:Prop}[Decidable c](h1:c->A)(h2:¬c->B):if c then A else B:=by
 by_cases h:c
 ·rw[if_pos h]
  exact h1 h
 ·rw[if_neg h]
  exact h2 h
theorem y8p{c A B:Prop}[Decidable c](hc:c)(h:B):if (!decide c)=true then A else B:=by
 rw[decide_eq_true hc]
 exact B7 h
noncomputable def B0(H H':Hp):Prop:=∀b o,H b=some o->H' b=some o
theorem B0.refl(H:Hp):B0 H H:=fun _ _ h=>h
theorem B0.trans{H H1 H2:Hp}(a:B0 H H1)(b:B0 H1 H2):B0 H H2:=fun c o h=>b c o (a c o h)
theorem B0.free{H H':Hp}(e:B0 H H'){l:Addr}(h:H' l=Option.none):H l=Option.none:=by
 cases q:H l with
 | none=>rfl
 | some o=>
  rw[e l o q] at h
  cases h
theorem B0.seq{K:PySem.W.Frag}{H H':Hp}{a:Addr}{xs:List V}(e:B0 H H')(h:SqL K H a xs):SqL K H' a xs:=by
 rcases h with (h|⟨o,h⟩)|h
 ·exact .inl (.inl (e _ _ h))
 ·exact .inl (.inr ⟨o,e _ _ h⟩)
 ·exact .inr h
abbrev noE:Value->Shared->Prop:=fun _ _=>False
theorem y1J{prog:Program}{w:World}{A:Around}{R:Result->Shared->Prop}{s:Shared}{elt target iter:Expr}{ifs:List Expr}{scope:Scope}{pos:Pos}{it acc:Value}{env:Env}(I:Nat->Shared->Prop)
  (turn:∀n s,I n s->wpAny (model prog w) A (pyNext it) (fun r s1=>match r with
   | none=>R (.ok .next) s1
   | some v=>wpAny (model prog w) A (letOwnedTupleGo target it v) (fun _ s0=>wpAny (model prog w) A (assign target env v) (fun _ s2=>
     wpAny (model prog w) A (forIn ifs true fun c r=>if r=true then do let ok <- isTrue c env (eval c env);pure (ForInStep.yield ok) else pure (ForInStep.yield r)) (fun ok s3=>
      if ok=true then wpAny (model prog w) A (eval elt env) (fun x s4=>
       wpAny (model prog w) A (call (.builtin "list.append") [acc,x]) (fun _ s5=>∃m,m<n/\I m s5) noE s4) noE s3
      else ∃m,m<n/\I m s3) noE s2) noE s0) noE s1) noE s)
  (n:Nat) (h:I n s):codeAny (model prog w) A (.compLoop (.ListComp elt [⟨target,iter,ifs,0⟩] scope pos) 0 it acc env) R s:=by
 refine codeAny_loop rfl I (fun n s hI=>?_) n h
 show wpAny _ A ((compTurn (.ListComp elt [⟨target,iter,ifs,0⟩] scope pos) 0 it acc env).onRaise (fun x=>do noteFrame x env;theTreesLotGoes x)) _ _ s
 refine wpAny_noted ?_
 rw[compTurn_list]
 refine wpAny_bind (wpAny_standAt (wpAny_bind (wpAny_mono (turn n s hI) (fun r s1 h1=>?_) fun _ _ z=>False.elim z)))
 cases r with
 | none=>exact wpAny_pure h1
 | some v=>
  refine wpAny_bind (wpAny_mono h1 (fun _ s0 h0=>?_) fun _ _ z=>False.elim z)
  refine wpAny_bind (wpAny_mono h0 (fun _ s2 h2=>wpAny_bind (wpAny_mono h2 (fun ok s3 h3=>?_) fun _ _ z=>False.elim z)) fun _ _ z=>False.elim z)
  cases ok with
  | false=>exact wpAny_pure ⟨rfl,h3⟩
  | true=>
   exact wpAny_bind (wpAny_bind (wpAny_mono h3 (fun x s4 h4=>wpAny_bind (wpAny_mono h4 (fun _ s5 h5=>wpAny_pure (wpAny_pure ⟨rfl,h5⟩)) fun _ _ z=>False.elim z)) fun _ _ z=>False.elim z))
noncomputable def z90(cells:List (Str×Addr)):List (Str×NameKind)->List (Str×Addr)->Option (List (Str×Addr))
 | [],acc=>some acc
 | (n,k)::r,acc=>if k == .free then (match cells.lookup n with
   | some a=>z90 cells r ((n,a)::acc)
   | none=>none) else z90 cells r acc
theorem z70{env:Env}:∀(names:List (Str×NameKind)) (acc cl:List (Str×Addr)),z90 env.cells names acc=some cl->
  (forIn names acc fun(x:Str×NameKind) (cs:List (Str×Addr))=>match x with
   | (name,kind)=>if (kind == NameKind.free)=true then do let c <- cellOf env name;pure (ForInStep.yield ((name,c)::cs)) else pure (ForInStep.yield cs):Sem (List (Str×Addr)))=pure cl
 | [],acc,cl,h=>by
  have h':acc=cl:=Option.some.inj h
  subst h'
  rfl
 | (n,k)::r,acc,cl,h=>by
  rw[List.forIn_cons]
  unfold z90 at h
  by_cases hk:(k == NameKind.free)=true
  ·rw[if_pos hk] at h
   cases e:env.cells.lookup n with
   | none=>rw[e] at h;cases h
   | some a=>
    rw[e] at h
    have ih:=z70 r ((n,a)::acc) cl h
    have hc:cellOf env n=pure a:=by unfold cellOf;rw[e]
    dsimp only
    rw[if_pos hk,hc]
    simpa using ih
  ·rw[if_neg hk] at h
   have ih:=z70 r acc cl h
   dsimp only
   rw[if_neg hk]
   simpa using ih
theorem z7y{scope:Scope}{env:Env}{cl:List (Str×Addr)}(h:z90 env.cells scope.names []=some cl):closureFor scope env=pure cl:=by
 have q:=z70 (env:=env) scope.names [] cl h
 unfold closureFor
 simpa using q
theorem z99{cells:List (Str×Addr)}:∀{names:List (Str×NameKind)}{acc cl:List (Str×Addr)},z90 cells names acc=some cl->
  (∀x c,acc.lookup x=some c->cells.lookup x=some c)->∀x c,cl.lookup x=some c->cells.lookup x=some c
 | [],acc,cl,h,ha,x,c,e=>by
  have h':acc=cl:=Option.some.inj h
  subst h'
  exact ha x c e
 | (n,k)::r,acc,cl,h,ha,x,c,e=>by
  unfold z90 at h
  by_cases hk:(k == NameKind.free)=true
  ·rw[if_pos hk] at h
   cases q:cells.lookup n with
   | none=>rw[q] at h;cases h
   | some a=>
    rw[q] at h
    refine z99 (names:=r) (acc:=(n,a)::acc) h (fun y d z=>?_) x c e
    rw[jH] at z
    cases hy:y == n with
    | true=>
     rw[hy] at z
     have z':a=d:=Option.some.inj z
     rw[<- z',beq_iff_eq.mp hy]
     exact q
    | false=>
     rw[hy] at z
     exact ha y d z
  ·rw[if_neg hk] at h
   exact z99 (names:=r) (acc:=acc) h ha x c e
theorem z64{cells:List (Str×Addr)}:∀{names:List (Str×NameKind)}{acc cl:List (Str×Addr)},z90 cells names acc=some cl->
  ∀x,((∃c,acc.lookup x=some c)\/(x,NameKind.free)∈names)->∃c,cl.lookup x=some c
 | [],acc,cl,h,x,hx=>by
  have h':acc=cl:=Option.some.inj h
  subst h'
  rcases hx with hx|hx
  ·exact hx
  ·cases hx
 | (n,k)::r,acc,cl,h,x,hx=>by
  unfold z90 at h
  by_cases hk:(k == NameKind.free)=true
  ·rw[if_pos hk] at h
   cases q:cells.lookup n with
   | none=>rw[q] at h;cases h
   | some a=>
    rw[q] at h
    refine z64 (names:=r) (acc:=(n,a)::acc) h x ?_
    rcases hx with ⟨c,hx⟩|hx
    ·left
     rw[jH]
     cases hy:x == n with
     | true=>exact⟨a,rfl⟩
     | false=>exact⟨c,hx⟩
    ·rcases bF.mp hx with e|e
     ·left
      have e1:x=n:=congrArg Prod.fst e
      rw[jH,e1,beq_self_eq_true]
      exact⟨a,rfl⟩
     ·exact .inr e
  ·rw[if_neg hk] at h
   refine z64 (names:=r) (acc:=acc) h x ?_
   rcases hx with hx|hx
   ·exact .inl hx
   ·rcases bF.mp hx with e|e
    ·have e2:NameKind.free=k:=congrArg Prod.snd e
     exact absurd (by rw[<- e2];rfl) hk
    ·exact .inr e
theorem z8Q{α β:Type}[BEq α][LawfulBEq α]:∀{l:List (α×β)}{x:α}{b:β},l.lookup x=some b->(x,b)∈l
 | [],x,b,h=>by cases h
 | (a,c)::r,x,b,h=>by
  rw[jH] at h
  cases hx:x == a with
  | true=>
   rw[hx] at h
   have h':c=b:=Option.some.inj h
   rw[beq_iff_eq.mp hx,h']
   exact cI
  | false=>
   rw[hx] at h
   exact cG _ (z8Q h)
theorem z7F{scope:Scope}{env:Env}(X0:∀y∈scope.names,y.2≠.cell){x:Str}(h:(relabel scope env).names.lookup x=some .cell\/(relabel scope env).names.lookup x=some .free):(x,NameKind.free)∈scope.names:=by
 have go:∀k,(relabel scope env).names.lookup x=some k->(k=.cell\/k=.free)->(x,NameKind.free)∈scope.names:=fun k h hk=>by
  have m:=z8Q h
  obtain⟨⟨n,k'⟩,hm,e⟩:=cS.mp m
  dsimp only at e
  by_cases c:(k' == NameKind.free && env.scope.kind == .function && env.kindOf n == some .cell)=true
  ·rw[if_pos c] at e
   have e1:n=x:=congrArg Prod.fst e
   have c1:(k' == NameKind.free)=true:=by
    rw[bZ,bZ] at c
    exact c.1.1
   have c2:k'=.free:=eq_of_beq c1
   rw[<- e1,<- c2]
   exact hm
  ·rw[if_neg c] at e
   have e1:n=x:=congrArg Prod.fst e
   have e2:k'=k:=congrArg Prod.snd e
   rcases hk with z|z
   ·exact absurd (e2.trans z) (X0 _ hm)
   ·rw[<- e1,<- z,<- e2]
    exact hm
 rcases h with h|h
 ·exact go _ h (.inl rfl)
 ·exact go _ h (.inr rfl)
noncomputable def z4q(X:Cx)(scope:Scope)(cl:List (Str×Addr))(N:List Str)(C:Addr)(s3:Shared)(H1:Hp)(ex:List Addr)(pins:List (Addr×Obj)):Cx:=
 { X with N:=N,s₀:=s3,H₀:=H1,env:=compEnvC scope cl C X.env,outer:=X.stack,ex:=ex,fn:=fun _=>false,pn:=X.pn++pins,xe:=noE }
noncomputable def z8M(own:Nat)(ix:List Nat)(σ:St):St:=List.replicate own none++ix.map fun i=>(σ[i]?).join
structure K2(X:Cx)(scope:Scope)(cl:List (Str×Addr))(own F8:List Str)(ix:List Nat):Prop where
 W6:z90 X.env.cells scope.names []=some cl
 cell:∀y∈scope.names,y.2≠.cell
 kind:scope.kind=.function
 names:∀y∈scope.names,y.2=.local->scope.names.lookup y.1=some .local
 capn:F8.length=ix.length
 cap:∀(j i:Nat) (x:Str),F8[j]? = some x->ix[j]? = some i->X.N[i]? = some x/\X.env.kindOf x≠some .local/\Vis X.env.scope x/\((relabel scope X.env).names.lookup x=some .cell\/(relabel scope X.env).names.lookup x=some .free)
theorem Inv.w0X{X:Cx}{pins:List (Addr×Obj)}{σ:St}{H:Hp}{s:Shared}{D:Addr}{o:HO}(I:Inv X pins σ H s)(f:Q3 X pins H D)(new:z1L X.prog X.w (upd H D o) s.heap D o):Inv X pins σ (upd H D o) s:=by
 obtain⟨f0,f1,f2,f3,f4,f5⟩:=f
 have q:=I.step (H':=upd H D o) (h':=s.heap) (g':=s.gens) (t':=s.toks) (d':=s.drawn) (ch:=[D]) (fun b hb=>by
   have e:b=D:=by simpa using hb
   subst e
   exact⟨f3,f1,f4,f5⟩)
  (fun _ _ _ _ _ e _=>e) (fun b ob _ _ _ e _=>⟨ob.slots,e⟩) (fun b ob hb _ n=>by
   have e:b≠D:=fun z=>hb (by simp[z])
   rw[z0l e];exact n)
  (fun b ob _ e=>⟨ob,e⟩) (fun b xs e=>by rw[z0l (z0q e f0)];exact e) (fun b ob u e=>by rw[z0l (z0q e f0)];exact e)
  (fun b ps e=>⟨#[],by rw[z0l (z0q e f0),e];simp⟩) (fun _ hm=>hm) (fun b u e=>by
   by_cases hb:b=D
   ·subst hb
    rw[z03] at e
    cases e
    exact new
   ·rw[z0l hb] at e
    exact(I.hok b u e).U9 (fun _ _ _ q=>q) (fun c q=>by rw[z0l (z0q q f0)];exact q) fun c xs q=>by rw[z0l (z0q q f0)];exact q) I.bare
 exact q
section
variable{X:Cx}{scope:Scope}{cl:List (Str×Addr)}{own F8:List Str}{ix:List Nat}
theorem K2.look(S:K2 X scope cl own F8 ix):∀x c,cl.lookup x=some c->X.env.cells.lookup x=some c:=
 z99 S.W6 fun x c e=>by cases e
theorem y6C{pins:List (Addr×Obj)}{σ:St}{H1:Hp}{s3:Shared}{h1:Heap}{ex:List Addr}{m:Str->Option Value}{tk:Nat}(S:K2 X scope cl own F8 ix)(I:Inv X pins σ H1 s3)
  (hex:∀b∈ex,b<s3.heap.objs.size/\b≠X.env.locals/\b∉X.fs/\(b∈X.ex\/X.s₀.heap.objs.size≤b)/\∀x c,X.env.cells.lookup x=some c->c≠b)
  (hn:h1.Ns s3.heap.objs.size m) (hk:∀b o,s3.heap.get? b=some o->h1.get? b=some o) :
  Inv (z4q X scope cl (own++F8) s3.heap.objs.size s3 H1 ex pins) [] (z8M own.length ix σ) H1 { s3 with heap:=h1,toks:=tk }:=by
 have stkN:∀b∈frs X.stack,b<s3.heap.objs.size:=fun b hb=>by
  obtain⟨_,o,ho,_⟩:=I.stack.mem hb
  exact bQ ho
 have lt0:∀b o,X.base.get? b=some o->b<X.s₀.heap.objs.size:=fun b o e=>bQ (I.ok.bs b o e).1
 refine⟨⟨I.ok.mod,S.kind,I.ok.glob,I.ok.blt,bJ _,?_,?_,?_,I.ok.hd,I.ok.frames,.inl rfl,?_,I.bs,cM I.ok.bsz I.sz,?_,?_,I.stack,I.X2⟩,rfl,I.bare,?_,?_,?_,?_,?_,?_,?_,?_⟩
 ·intro x y c e1 e2
  exact I.ok.inj x y c (S.look x c e1) (S.look y c e2)
 ·intro x hx
  exact z64 S.W6 x (.inr (z7F S.cell hx))
 ·intro x c hf
  exact absurd hf bM
 ·intro b hb
  obtain⟨l,a1,a2,a3,a4⟩:=hex b hb
  exact⟨cL l,fun x c e=>a4 x c (S.look x c e)⟩
 ·intro b o e hb
  obtain⟨l,a1,a2,a3,a4⟩:=hex b hb
  rcases a3 with z|z
  ·exact I.ok.noex b o e z
  ·exact absurd (cT (lt0 b o e) z) (dQ _)
 ·intro b hb hf
  obtain⟨l,a1,a2,a3,a4⟩:=hex b hb
  rcases bF.mp (I.R9 b hf) with z|z
  ·exact a1 z
  ·exact a2 z
 ·exact Un.kept hk
 ·refine⟨m,hn,fun i x v e1 e2 e3=>?_⟩
  have e2':(List.replicate own.length none++ix.map fun i=>(σ[i]?).join:St)[i]? = some (some v):=e2
  have e1':(own++F8)[i]? = some x:=e1
  by_cases hi:i<own.length
  ·rw[dE (by simpa using hi),j6,if_pos hi] at e2'
   cases e2'
  ·have hi':own.length≤i:=kJ hi
   rw[dC (by simpa using hi'),jM,bE] at e2'
   rw[dC hi'] at e1'
   cases q:ix[i-own.length]? with
   | none=>rw[q] at e2';cases e2'
   | some k=>
    rw[q] at e2'
    have Z4:(σ[k]?).join=some v:=Option.some.inj e2'
    have e4:σ[k]? = some (some v):=by
     cases z:σ[k]? with
     | none=>rw[z] at Z4;cases Z4
     | some u=>rw[z] at Z4;rw[show u=some v from Z4]
    obtain⟨n1,n2,n3,n4⟩:=S.cap (i-own.length) k x e1' q
    obtain⟨mX,_,hl⟩:=I.loc
    obtain⟨u,r,l⟩:=hl k x v n1 e4 n3
    refine⟨u,r,?_⟩
    rcases l with ⟨kl,_⟩|⟨_,c,ec,ic⟩
    ·exact absurd kl n2
    ·obtain⟨c',ec'⟩:=z64 S.W6 x (.inr (z7F S.cell n4))
     have e5:=S.look x c' ec'
     rw[ec] at e5
     cases e5
     exact .inr ⟨n4,c,ec',ic.keeps hk⟩
 ·intro x c e
  obtain⟨v,q⟩:=I.cell x c (S.look x c e)
  exact⟨v,q.keeps hk⟩
 ·exact I.hok.fresh (bJ _)
 ·intro x c e
  exact I.freeC x c (S.look x c e)
 ·intro p hp
  have hp':p∈X.pn++pins:=by
   have:p∈(X.pn++pins)++[]:=hp
   rwa [cX] at this
  obtain⟨e,n,ne,nf,d⟩:=I.pin p hp'
  refine⟨hk _ _ e,n,cL (bQ e),fun z=>?_,d⟩
  rcases bF.mp (I.R9 p.1 z) with z|z
  ·exact ne z
  ·exact nf z
 ·exact I.hok.kept hk
 ·show(List.replicate own.length none++ix.map fun i=>(σ[i]?).join:St).length=(own++F8).length
  rw[bL,jM,bA,bL,S.capn]
noncomputable def PTs(X:Cx)(ifs:List Expr)(t:TT):Prop:=
 ∀(pins:List (Addr×Obj)) (s:Shared) (σ:St) (H:Hp) (Q:Bool->Hp->Prop),Inv X pins σ H s->t σ H Q->
  wpAny (model X.prog X.w) X.A (forIn ifs true fun c r=>if r=true then do let ok <- isTrue c X.env (eval c X.env);pure (ForInStep.yield ok) else pure (ForInStep.yield r)) (TP X pins σ Q) X.xe s
noncomputable def tYes:TT:=fun _ H Q=>Q true H
theorem z1W:PTs X [] tYes:=fun _ _ _ H _ I h=>wpAny_tests_nil ⟨H,I,h⟩
theorem z2i{c:Expr}{t:TT}(hc:PT X c t):PTs X [c] t:=fun pins s σ H Q I h=>wpAny_tests_one (hc pins s σ H Q I h)
noncomputable def z6w(n:Nat)(σ σ':St):Prop:=σ'.length=σ.length/\∀i,n≤i->σ'[i]? = σ[i]?
noncomputable def W2(n:Nat)(g:TG):Prop:=∀v σ H Q,g v σ H Q->g v σ H fun σ' H'=>Q σ' H'/\z6w n σ σ'
noncomputable def y5g(n:Nat)(g:TGs):Prop:=∀vs σ H Q,g vs σ H Q->g vs σ H fun σ' H'=>Q σ' H'/\z6w n σ σ'
theorem z6w.refl(n:Nat)(σ:St):z6w n σ σ:=⟨rfl,fun _ _=>rfl⟩
theorem z6w.trans{n:Nat}{a b c:St}(x:z6w n a b)(y:z6w n b c):z6w n a c:=⟨y.1.trans x.1,fun i h=>(y.2 i h).trans (x.2 i h)⟩
theorem z0x{n i:Nat}(h:i<n):W2 n (y5w i):=fun v σ H Q q=>⟨q,by simp,fun j hj=>jS (by lia)⟩
theorem z6N{n:Nat}:y5g n w0d:=fun vs σ H Q q=>⟨q.1,q.2,z6w.refl n σ⟩
noncomputable def y11(g:TG):Prop:=∀v σ H (Q Q':St->Hp->Prop),(∀σ' H',Q σ' H'->Q' σ' H')->g v σ H Q->g v σ H Q'
noncomputable def z9H(g:TGs):Prop:=∀vs σ H (Q Q':St->Hp->Prop),(∀σ' H',Q σ' H'->Q' σ' H')->g vs σ H Q->g vs σ H Q'
theorem z0h{i:Nat}:y11 (y5w i):=fun _ _ _ _ _ f q=>f _ _ q
theorem z1a:z9H w0d:=fun _ _ _ _ _ f q=>⟨q.1,f _ _ q.2⟩
theorem z0T{t:TG}{u:TGs}(a:y11 t)(b:z9H u):z9H (y7Y t u):=fun vs σ H Q Q' f q=>by
 obtain⟨v,r,e,q⟩:=q
 exact⟨v,r,e,a _ _ _ _ _ (fun σ' H' z=>b _ _ _ _ _ f z) q⟩
theorem z65{K:PySem.W.Frag}{n:Nat}{t:TGs}(a:z9H t):y11 (Z8 K n t):=fun v σ H Q Q' f q=>by
 obtain⟨p,xs,e,h1,h2,q⟩:=q
 exact⟨p,xs,e,h1,h2,a _ _ _ _ _ f q⟩
theorem z23{n:Nat}{t:TG}{u:TGs}(a:W2 n t)(m:y11 t)(b:y5g n u)(m':z9H u):y5g n (y7Y t u):=fun vs σ H Q q=>by
 obtain⟨v,r,e,q⟩:=q
 refine⟨v,r,e,m _ _ _ _ _ (fun σ' H' z=>?_) (a _ _ _ _ q)⟩
 exact m' _ _ _ _ _ (fun σ2 H2 y=>⟨y.1,z.2.trans y.2⟩) (b _ _ _ _ z.1)
theorem z86{K:PySem.W.Frag}{n k:Nat}{t:TGs}(a:y5g n t):W2 n (Z8 K k t):=fun v σ H Q q=>by
 obtain⟨p,xs,e,h1,h2,q⟩:=q
 exact⟨p,xs,e,h1,h2,a _ _ _ _ q⟩
noncomputable def z1D(g:TG)(tc:TT)(te:TE)(σ0:St)(x:V)(H:Hp)(ys:List V)(N:List V->Hp->Prop):Prop:=
 g x σ0 H fun σ2 H2=>tc σ2 H2 fun b H3=>if b=true then te σ2 H3 fun y H4=>N (ys++[y]) H4 else N ys H3
noncomputable def y8I(own:Nat)(ix:List Nat)(wi:TI)(g:TG)(tc:TT)(te:TE)(σ:St)(H:Hp)(F:List V->Hp->Prop):Prop:=
 wi σ H fun J H1=>∃W:Nat->Nat->List V->Hp->Prop,(∃m,W 0 m [] H1)/\∀i m ys H,W i m ys H->
  (J.stop i H/\F ys H)\/(J.go i H/\ys.length<sizeLine/\∃N:List V->Hp->Prop,(∀zs H',N zs H'->∃m',m'<m/\W (i+1) m' zs H')/\
   ∀x H',J.yld i H x H'->z1D g tc te (z8M own ix σ) x H' ys N)
theorem z9y{elt iter tg:Expr}{ifs:List Expr}{pos:Pos}{pins:List (Addr×Obj)}{σ:St}{s2:Shared}{itv:Value}{g:TG}{tc:TT}{te:TE}{F:List V->Hp->Prop}{RR:Value->Addr->Result->Shared->Prop}{E:Value->Shared->Prop}
  (S:K2 X scope cl own F8 ix) (hc:X.calm=true)
  (hg:∀C s3 H1 ex pn,PG (z4q X scope cl (own++F8) C s3 H1 ex pn) tg g) (og:W2 own.length g) (mg:y11 g)
  (ht:∀C s3 H1 ex pn,PTs (z4q X scope cl (own++F8) C s3 H1 ex pn) ifs tc)
  (he:∀C s3 H1 ex pn,PE (z4q X scope cl (own++F8) C s3 H1 ex pn) elt te)
  (h:PIE X pins σ tg (fun J H1=>∃W:Nat->Nat->List V->Hp->Prop,(∃m,W 0 m [] H1)/\∀i m ys H,W i m ys H->
   (J.stop i H/\F ys H)\/(J.go i H/\ys.length<sizeLine/\∃N:List V->Hp->Prop,(∀zs H',N zs H'->∃m',m'<m/\W (i+1) m' zs H')/\
    ∀x H',J.yld i H x H'->z1D g tc te (z8M own.length ix σ) x H' ys N)) itv s2)
  (hRR:∀D C m H' ys s',Inv X pins σ (upd H' D (.lst ys)) s'->Q3 X pins (upd H' D (.lst ys)) C->s'.heap.Ns C m->H' D=none->F ys H'->RR (.ref D) C (.ok .next) s') :
  wpAny (model X.prog X.w) X.A (newList []) (fun acc s3=>wpAny (model X.prog X.w) X.A (newFunctionEnv scope X.env.globals cl [] X.env.qual none .none (some X.env)) (fun cenv s4=>
   codeAny (model X.prog X.w) X.A (.compStart (.ListComp elt [⟨tg,iter,ifs,0⟩] scope pos) 0 itv acc { cenv with scope:=relabel scope X.env }) (RR acc cenv.locals) s4) E s3) E s2:=by
 obtain⟨it,fp,tn,J,H1,e,I2,T,st2,f2,W,⟨m0,w0⟩,turn⟩:=h
 subst e
 refine wpAny_newObj_type (wpAny_newFunctionEnv S.cell (by intro y hy;simp at hy) (fun h1 hns1 hsb1=>?_) S.kind)
 dsimp only at hns1 hsb1 ⊢
 generalize hH2:s2.heap.push { cls:=.type "list",dict:=none,data:=.seq ([]:List Value).toArray }=h2 at hns1 hsb1 ⊢
 have Y0:∀b o,s2.heap.get? b=some o->h2.get? b=some o:=fun b o e=>hH2 ▸ bB _ e
 have sz2:h2.objs.size=s2.heap.objs.size+1:=by rw[<- hH2,eI]
 have hDC:s2.heap.objs.size≠h2.objs.size:=by lia
 have W7:∀b o,h2.get? b=some o->h1.get? b=some o:=fun b o e=>hsb1.extBut b o (cL (bQ e)) (bB _ e)
 have w1i:h2.get? s2.heap.objs.size=some { cls:=.type "list",dict:=none,data:=.seq ([]:List Value).toArray }:=hH2 ▸ bK _ rfl
 have I3:Inv X pins σ H1 { s2 with heap:=h2,toks:=s2.toks }:=I2.kept Y0
 have fD:Q3 X pins H1 s2.heap.objs.size:=I2.S5 (bJ _) I2.fresh
 have fDs:∀{H':Hp},H' s2.heap.objs.size=none->Q3 X pins H' s2.heap.objs.size:=fun hn=>⟨hn,fD.2⟩
 have fpLt:∀b∈fp,b<s2.heap.objs.size:=fun b hb=>by
  obtain⟨o,e,_⟩:=T.obj _ _ st2 b hb
  exact bQ e
 have hDfp:s2.heap.objs.size∉fp:=fun z=>dQ _ (fpLt _ z)
 have w0h:∀b∈s2.heap.objs.size::fp,b<h2.objs.size/\b≠X.env.locals/\b∉X.fs/\(b∈X.ex\/X.s₀.heap.objs.size≤b)/\∀x c,X.env.cells.lookup x=some c->c≠b:=fun b hb=>by
  rcases bF.mp hb with rfl|hb
  ·exact⟨by lia,fD.2.1,fD.2.2.1,fD.2.2.2.1,fD.2.2.2.2.1⟩
  ·have:=fpLt b hb
   obtain⟨_,a1,a2,a3,a4,_⟩:=f2 b hb
   exact⟨by rw[sz2];exact fN this,a1,a2,a3,a4⟩
 have I4:Inv (z4q X scope cl (own++F8) h2.objs.size { s2 with heap:=h2,toks:=s2.toks } H1 (s2.heap.objs.size::fp) pins) [] (z8M own.length ix σ) H1 { s2 with heap:=h1,toks:=s2.toks+([]:List (Str×Value)).length }:=
  y6C S I3 w0h hns1 W7
 generalize hX:z4q X scope cl (own++F8) h2.objs.size { s2 with heap:=h2,toks:=s2.toks } H1 (s2.heap.objs.size::fp) pins=Y at I4
 have HG:PG Y tg g:=by rw[<- hX];exact hg _ _ _ _ _
 have HT:PTs Y ifs tc:=by rw[<- hX];exact ht _ _ _ _ _
 have HE:PE Y elt te:=by rw[<- hX];exact he _ _ _ _ _
 have eP:Y.prog=X.prog:=by rw[<- hX];rfl
 have eW:Y.w=X.w:=by rw[<- hX];rfl
 have eK:Y.K=X.K:=by rw[<- hX];rfl
 have eA:Y.A=X.A:=by rw[<- hX];rfl
 have eC:Y.calm=true:=by rw[<- hX];exact hc
 have eE:Y.xe=noE:=by rw[<- hX];rfl
 have X9:Y.env=compEnvC scope cl h2.objs.size X.env:=by rw[<- hX];rfl
 have eEx:Y.ex=s2.heap.objs.size::fp:=by rw[<- hX];rfl
 have ePn:Y.pn=X.pn++pins:=by rw[<- hX];rfl
 have eFs:Y.fs=frs X.stack:=by rw[<- hX];rfl
 have w0a:∀x c,Y.env.cells.lookup x=some c->X.env.cells.lookup x=some c:=fun x c e=>by
  rw[X9] at e
  exact S.look x c e
 have w0y:Y.env.locals=h2.objs.size:=by rw[X9];rfl
 have fY:∀{pl:List (Addr×Obj)}{H':Hp}{b:Addr},b∈s2.heap.objs.size::fp->H' b=none->(∀p∈pl,p.1≠b)->Q3 Y pl H' b:=fun {pl H' b} hb hn hpl=>by
  obtain⟨l,a1,a2,a3,a4⟩:=w0h b hb
  refine⟨hn,by rw[w0y];exact cL l,fun z=>?_,.inl (by rw[eEx];exact hb),fun x c e=>a4 x c (w0a x c e),fun p hp=>?_⟩
  ·rw[eFs] at z
   rcases bF.mp (I3.R9 b z) with z|z
   ·exact a1 z
   ·exact a2 z
  ·rcases cH.mp hp with z|z
   ·rw[ePn] at z
    rcases bF.mp hb with rfl|hb
    ·exact fD.2.2.2.2.2 p z
    ·exact(f2 b hb).2.2.2.2.2 p z
   ·exact hpl p z
 let IV:Nat->Shared->Prop:=fun n s'=>∃i ys its c H',Inv Y [] (z8M own.length ix σ) H' s'/\tn i s'.heap/\(∀b∈fp,H' b=none)/\H' s2.heap.objs.size=none/\Vals ys its/\
  s'.heap.get? s2.heap.objs.size=some { cls:=.type "list",data:=.seq its.toArray c }/\ys.length≤sizeLine/\W i n ys H'
 have loop:∀s3:Shared,s3={ s2 with heap:=h1,toks:=s2.toks+([]:List (Str×Value)).length }->
   codeAny (model X.prog X.w) X.A (.compLoop (.ListComp elt [⟨tg,iter,ifs,0⟩] scope pos) 0 (.ref it) (.ref s2.heap.objs.size) (compEnvC scope cl h2.objs.size X.env)) (RR (.ref s2.heap.objs.size) h2.objs.size) s3:=by
  rintro s3 rfl
  refine y1J IV ?_ m0 ⟨0,[],[],_,H1,I4,T.keep _ _ _ st2 fun b _ o e=>W7 b o (Y0 b o e),fun b hb=>(f2 b hb).1,I2.fresh,.nil,W7 _ _ w1i,cW _,w0⟩
  rintro n s5 ⟨i,ys,its,c,H5,I5,st5,fr5,nD5,v5,gD5,z5,w5⟩
  have I5p:Inv Y [(s2.heap.objs.size,{ cls:=.type "list",data:=.seq its.toArray c })] (z8M own.length ix σ) H5 s5:=I5.Q1 fun p hp=>by
   have e:p=(s2.heap.objs.size,{ cls:=.type "list",data:=.seq its.toArray c }):=by simpa using hp
   subst e
   obtain⟨_,b1,b2,_⟩:=fY (pl:=[]) (H':=H5) (b:=s2.heap.objs.size) cI nD5 (fun p hp=>nomatch hp)
   exact⟨gD5,nD5,b1,b2,fun v z=>by cases z⟩
  have fps:∀{H':Hp},(∀b∈fp,H' b=none)->∀b∈fp,Q3 Y [(s2.heap.objs.size,{ cls:=.type "list",data:=.seq its.toArray c })] H' b:=fun hn b hb=>
   fY (cG _ hb) (hn b hb) fun p hp=>by
    have e:p=(s2.heap.objs.size,{ cls:=.type "list",data:=.seq its.toArray c }):=by simpa using hp
    subst e
    exact fun z=>hDfp (by have z':s2.heap.objs.size=b:=z;rw[z'];exact hb)
  rcases turn i n ys H5 w5 with ⟨stop,fin⟩|⟨go,hlen,N,hN,step⟩
  ·have q:=T.done Y eP eW eK eC i _ s5 _ H5 noE I5p (fps fr5) st5 stop
   rw[eA] at q
   refine thn q fun r s6 ⟨hr,I6⟩=>?_
   subst hr
   have gD6:=(I6.pin (s2.heap.objs.size,{ cls:=.type "list",data:=.seq its.toArray c }) (cK _ (by simp))).1
   have u6:Un (frs X.stack) (s2.heap.objs.size::fp) H1 H5 h2 s6.heap:=by
    have:=I6.base
    rw[eFs,eEx] at this
    rw[<- hX] at this
    exact this
   have os6:s6.os=s2.os:=by
    have:=I6.os
    rw[<- hX] at this
    exact this
   have hok6:HOk X.prog X.w H5 s6.heap:=by
    have:=I6.hok
    rw[eP,eW] at this
    exact this
   have J6:Inv X pins σ H5 s6:=I3.w19 (s':=s6) os6 u6 hok6 I6.bare fun b hb=>by
    obtain⟨l,a1,a2,a3,a4⟩:=w0h b hb
    refine⟨a3,a1,a4,?_⟩
    rcases bF.mp hb with rfl|hb
    ·exact fD.2.2.2.2.2
    ·exact(f2 b hb).2.2.2.2.2
   have J7:Inv X pins σ (upd H5 s2.heap.objs.size (.lst ys)) s6:=J6.w0X (fDs nD5) ⟨z5,its,c,v5,gD6⟩
   obtain⟨mC,hC,_⟩:=I6.loc
   rw[w0y] at hC
   have nC:H5 h2.objs.size=none:=by
    have:=I6.free
    rw[w0y] at this
    exact this
   refine hRR _ _ mC H5 ys s6 J7 (I3.S5 (bJ _) ?_) hC nD5 fin
   show upd H5 s2.heap.objs.size (.lst ys) h2.objs.size=none
   rw[z0l (dG hDC)]
   exact nC
  ·have q:=T.item Y eP eW eK eC i _ s5 _ H5 noE I5p (fps fr5) st5 go
   rw[eA] at q
   refine thn q fun r s6 ⟨u,hr,h6⟩=>?_
   subst hr
   refine thn h6 fun _ s7 ⟨x,H7,I7,r7,y7,st7,fr7⟩=>?_
   have I7p:=I7.pinned (fps fr7) (T.obj _ _ st7)
   have st:=og _ _ _ _ (step x H7 y7)
   have q2:=HG _ s7 _ H7 x u _ I7p r7 st
   rw[eE,eP,eW,eA,X9] at q2
   refine thn q2 fun _ s8 ⟨σ8,H8,I8,q8,fr8⟩=>?_
   have q3:=HT _ s8 σ8 H8 _ I8 q8
   rw[eE,eP,eW,eA,X9] at q3
   refine thn q3 fun ok s9 ⟨H9,I9,q9⟩=>?_
   have back:∀{H':Hp}{s':Shared},Inv Y ([(s2.heap.objs.size,({ cls:=.type "list",data:=.seq its.toArray c }:Obj))]++y0N fp s7.heap) σ8 H' s'->
     Inv Y [] (z8M own.length ix σ) H' s'/\tn (i+1) s'.heap/\(∀b∈fp,H' b=none)/\H' s2.heap.objs.size=none/\s'.heap.get? s2.heap.objs.size=some { cls:=.type "list",data:=.seq its.toArray c }:=fun {H' s'} I'=>by
    have pD:=I'.pin (s2.heap.objs.size,{ cls:=.type "list",data:=.seq its.toArray c }) (cK _ (d7 _ (by simp)))
    refine⟨(I'.Q1 (pins':=[]) fun p hp=>nomatch hp).weak fr8.1.symm fun j v e=>?_,T.keep _ _ _ st7 fun b hb o e=>(I'.pin (b,o) (cK _ (cK _ (z5b hb e)))).1,fun b hb=>?_,pD.2.1,pD.1⟩
    ·by_cases hj:j<own.length
     ·have e':(List.replicate own.length none++ix.map fun i=>(σ[i]?).join:St)[j]? = some (some v):=e
      rw[dE (by simpa using hj),j6,if_pos hj] at e'
      cases e'
     ·rw[fr8.2 j (kJ hj)]
      exact e
    ·obtain⟨o,e,d⟩:=T.obj _ _ st7 b hb
     exact(I'.pin (b,o) (cK _ (cK _ (z5b hb e)))).2.1
   cases ok with
   | false=>
    obtain⟨m',hm,w9⟩:=hN _ _ (show N ys H9 from q9)
    obtain⟨b1,b2,b3,b4,b5⟩:=back I9
    exact⟨m',hm,i+1,ys,its,c,H9,b1,b2,b3,b4,v5,b5,z5,w9⟩
   | true=>
    have q9':te σ8 H9 fun y H4=>N (ys++[y]) H4:=q9
    have q4:=HE _ s9 σ8 H9 _ I9 q9'
    rw[eE,eP,eW,eA,X9] at q4
    refine thn q4 fun yv s10 ⟨y,H10,I10,r10,n10⟩=>?_
    obtain⟨b1,b2,b3,b4,b5⟩:=back I10
    obtain⟨m',hm,w10⟩:=hN _ _ n10
    have hl:=v5.length
    refine call_meets bU ⟨_,b5,rfl⟩ PySem.F.entry_list_append (PySem.F.args_list_append_2 _ _) (PySem.list_append s2.heap.objs.size its.toArray c yv (by rw[bO];lia)) ⟨b5,?_⟩
    have q5:=PySem.IsL.update b5 (fun a=>a.push yv)
    have e5:its.toArray.push yv=(its++[yv]).toArray:=by simp
    rw[e5] at q5
    have k5:∀b o,b≠s2.heap.objs.size->s10.heap.get? b=some o->(s10.heap.update s2.heap.objs.size (Obj.mapSeq fun a=>a.push yv)).get? b=some o:=fun b o hb e=>
     (d6 s10.heap (Obj.mapSeq fun a=>a.push yv) (dG hb)).trans e
    obtain⟨f0,f1,f2',f3,f4,f5⟩:=fY (pl:=[]) (H':=H10) (b:=s2.heap.objs.size) cI b4 (fun p hp=>nomatch hp)
    have b1':=b1.turned (t':=s10.toks) k5 f0 f1 f3 f4 f5
    refine⟨m',hm,i+1,ys++[y],its++[yv],_,H10,b1',T.keep _ _ _ b2 fun b hb o e=>k5 b o (fun z=>hDfp (by rw[<- z];exact hb)) e,b3,b4,v5.append (.cons r10 .nil),q5,?_,w10⟩
    ·rw[bL,dH]
     lia
 exact codeAny_compStart_list (loop _ rfl) (T.self _ 0 _ _ _ (T.keep _ _ _ st2 fun b _ o e=>W7 b o (Y0 b o e)) (loop _ rfl))
noncomputable def y8r(own:Nat)(ix:List Nat)(wi:TI)(g:TG)(tc:TT)(te:TE):TE:=fun σ H Q=>y8I own ix wi g tc te σ H fun ys H'=>∀D,H' D=none->Q (.ref D) (upd H' D (.lst ys))
theorem z1c{elt iter tg:Expr}{ifs:List Expr}{pos:Pos}{wi:TI}{g:TG}{tc:TT}{te:TE}(own F8:List Str)(ix:List Nat)
  (hc:X.calm=true) (S:K2 X scope cl own F8 ix) (hi:PI X tg iter wi)
  (hg:∀C s3 H1 ex pn,PG (z4q X scope cl (own++F8) C s3 H1 ex pn) tg g) (og:W2 own.length g) (mg:y11 g)
  (ht:∀C s3 H1 ex pn,PTs (z4q X scope cl (own++F8) C s3 H1 ex pn) ifs tc)
  (he:∀C s3 H1 ex pn,PE (z4q X scope cl (own++F8) C s3 H1 ex pn) elt te)
  (hs:∀x,foldedSetIterable iter X.env x=pure x:=by intro _;rfl) :
  PE X (.ListComp elt [⟨tg,iter,ifs,0⟩] scope pos) (y8r own.length ix wi g tc te):=by
 intro pins s σ H Q I h
 rw[eval_ListComp]
 refine wpAny_comprehension_free (use:=none) rfl hs (z7y S.W6) S.kind S.names (thn (hi pins s σ H _ I h) fun v s1 h1=>thn h1 fun itv s2 h2=>?_)
 refine z9y (RR:=fun acc C=>compPost (model X.prog X.w) X.A X.xe none (EP X pins σ Q) acc C) S hc hg og mg ht he h2 ?_
 intro D C m H' ys s' I' fC hn hD fin
 refine⟨m,hn,fun h' sb=>?_⟩
 obtain⟨f0,f1,f2,f3,f4,f5⟩:=fC
 have I2:=I'.turned (t':=s'.toks) (h':=h') (it:=C) (fun b o hb e=>(sb.2 b hb).trans e) f0 f1 f3 f4 f5
 exact⟨.ref D,_,I2,rfl,fin D hD⟩
theorem z4g{elt iter tg:Expr}{ifs:List Expr}{pos pos' spos:Pos}{x:Str}{i:Nat}{wi:TI}{g:TG}{tc:TT}{te:TE}(own F8:List Str)(ix:List Nat)
  (hc:X.calm=true) (hN:X.N.Nodup) (hx:X.N[i]? = some x) (hl:Loc X.env.scope x) (S:K2 X scope cl own F8 ix) (hi:PI X tg iter wi)
  (hg:∀C s3 H1 ex pn,PG (z4q X scope cl (own++F8) C s3 H1 ex pn) tg g) (og:W2 own.length g) (mg:y11 g)
  (ht:∀C s3 H1 ex pn,PTs (z4q X scope cl (own++F8) C s3 H1 ex pn) ifs tc)
  (he:∀C s3 H1 ex pn,PE (z4q X scope cl (own++F8) C s3 H1 ex pn) elt te)
  (hsw:swapsWith (.ListComp elt [⟨tg,iter,ifs,0⟩] scope pos) (some (.Name x pos')) spos.line X.env=pure true:=by rfl)
  (hf:X.fn x=true\/X.env.scope.names.lookup x=some .local:=by first|exact .inl rfl|exact .inr rfl|assumption)
  (hs:∀x,foldedSetIterable iter X.env x=pure x:=by intro _;rfl) :
  PS X (.Assign [.Name x pos'] (.ListComp elt [⟨tg,iter,ifs,0⟩] scope pos) spos) (tAsg (y8r own.length ix wi g tc te) (y5w i)):=by
 intro pins s σ H D I h
 rw[exec_Assign_Name_used _ _ _ _ hsw]
 refine wpAny_bind (wpAny_standAt (wpAny_bind ?_))
 show wpAny _ X.A (do let _ <- comprehension (.ListComp elt [⟨tg,iter,ifs,0⟩] scope pos) scope X.env _ (newList []) false (eval iter X.env) (some (assign (.Name x pos') X.env))) _ _ s
 refine wpAny_bind (wpAny_mono (wpAny_comprehension_free (use:=some (assign (.Name x pos') X.env)) (Q:=fun _ s'=>SP X pins D .next s') rfl hs (z7y S.W6) S.kind S.names
  (thn (hi pins s σ H _ I h) fun v s1 h1=>thn h1 fun itv s2 h2=>?_)) (fun _ s' hq=>wpAny_pure (wpAny_pure hq)) fun _ _ e=>e)
 refine z9y (RR:=fun acc C=>compPost (model X.prog X.w) X.A X.xe (some (assign (.Name x pos') X.env)) (fun _ s'=>SP X pins D .next s') acc C) S hc hg og mg ht he h2 ?_
 intro D' C m H' ys s' I' fC hn hD fin
 obtain⟨f0,f1,f2,f3,f4,f5⟩:=fC
 obtain⟨oC,es,ep,hoC,hdC,hr⟩:=id hn
 show wpAny _ X.A (assign (.Name x pos') X.env (.ref D')) _ _ _
 have Ip:Inv X (pins++[(C,oC)]) σ (upd H' D' (.lst ys)) s':=I'.Q1 fun p hp=>(cH.mp hp).elim (fun z=>I'.pin p (cK _ z)) fun z=>by
  have e:p=(C,oC):=by simpa using z
  subst e
  exact⟨hoC,f0,f1,f2,fun v z=>by rw[hdC] at z;cases z⟩
 refine thn (z0j hN hx hl hf (pins++[(C,oC)]) s' σ _ (.ref D') (.ref D') _ Ip rfl (fin D' hD)) fun _ s3 ⟨σ3,H3,I3,q3⟩=>?_
 have pC:=I3.pin (C,oC) (cK _ (cK _ (by simp)))
 refine⟨m,⟨oC,es,ep,pC.1,hdC,hr⟩,fun h' sb=>?_⟩
 have I4:Inv X pins σ3 H3 s3:=I3.Q9
 exact⟨σ3,H3,I4.turned (t':=s3.toks) (h':=h') (it:=C) (fun b o hb e=>(sb.2 b hb).trans e) pC.2.1 f1 f3 f4 f5,q3⟩
end
section
variable{prog:Program}{w:World}{A:Around}{R:Result->Shared->Prop}{I:Addr}{fp wr:List Addr}{n:Nat}{P:Nat->Value->Prop}{St:Nat->Heap->Prop}
theorem y69(W:Walks prog w A.in1 I fp wr n P St)(bt:Nat->Nat->Bool)(S4:CmpOf prog w A.in1 .Gt P bt)(S:Addr)(hSf:S∉fp)(kw:List (Str×Value)) :
  ∀(k j:Nat) (s:Shared) (vb:Value) (c:Nat),n-(j+1)=k->j+1≤n->St (j+1) s.heap->P (argBest bt j) vb->
  s.heap.get? S=some { cls:=.type "list",dict:=none,data:=.seq #[vb,vb] c,slots:=#[] }->
  (∀v h' tk,P (argBest bt (n-1)) v->(∀b o,b∉wr->b≠S->s.heap.get? b=some o->h'.get? b=some o)->R (.ok (.ret v)) { s with heap:=h',toks:=tk })->
  codeAny (model prog w) A (.builtin "max.loop" ⟨[.ref I,.none,.ref S],kw⟩) R s:=by
 have hSw:S∉wr:=fun h=>hSf (W.sub _ h)
 have N0:(toString "max"++toString ".loop":String)="max.loop":=by decide
 intro k
 induction k with
 | zero=>
  intro j s vb c hk hj hst hPb hS hR
  have hin:j+1=n:=by lia
  refine codeAny_builtin gR ?_
  rw[cR dN _]
  show wpAny _ A.in1 (seqItems? (.ref S) >>= _) _ _ s
  refine wpAny_bind (wpAny_seqItems hS rfl ?_)
  show wpAny _ A.in1 (tryCatch (pyNext (.ref I)) _ >>= _) _ _ s
  refine wpAny_bind (wpAny_tryCatch (W.done s _ _ (hin ▸ hst) fun h' tk hk'=>?_))
  have hS':=hk' S _ hSw hS
  show wpAny _ A.in1 (updateSeq S (fun _=>#[]) >>= _) _ _ _
  refine wpAny_bind ?_
  refine wpAny_updateSeq hS' rfl (wpAny_bind (wpAny_letGo (wpAny_pure ?_)))
  refine hR vb _ tk (by rw[<- hin];exact hPb) fun b o hbw hbS e=>(d6 _ _ (dG hbS)).trans (hk' b o hbw e)
 | succ k ih=>
  intro j s vb c hk hj hst hPb hS hR
  have hlt:j+1<n:=by lia
  refine codeAny_builtin gR ?_
  rw[cR dN _]
  show wpAny _ A.in1 (seqItems? (.ref S) >>= _) _ _ s
  refine wpAny_bind (wpAny_seqItems hS rfl ?_)
  show wpAny _ A.in1 (tryCatch (pyNext (.ref I)) _ >>= _) _ _ s
  refine wpAny_bind (wpAny_tryCatch (W.item (j+1) s _ _ hlt hst fun v h' tk hP hst' hk'=>?_))
  have hS':=hk' S _ hSw hS
  show wpAny _ A.in1 (tryCatch (holding [v,v] (richCompare .Gt v vb >>= _)) _ >>= _) _ _ _
  refine wpAny_bind (wpAny_tryCatch (wpAny_holding (wpAny_bind (S4 (j+1) (argBest bt j) v vb _ _ _ hP hPb ?_))))
  refine wpAny_bind (wpAny_holding (wpAny_truthy_bool ?_))
  refine wpAny_bind (wpAny_letGo (wpAny_pure ?_))
  cases hb:bt (j+1) (argBest bt j) with
  | true=>
   simp only[if_true]
   refine wpAny_bind ?_
   refine wpAny_updateSeq hS' rfl (wpAny_bind (wpAny_letGo ?_))
   rw[N0]
   refine wpAny_pure ⟨plainId_quiet dN _,ih (j+1) _ v _ (by lia) hlt (W.frame _ _ _ hst' fun b hbf o e=>?_) (by simp only[argBest,hb,if_true];exact hP) (eM _ hS' rfl)
    fun v' h'' tk'' hP' hk''=>?_⟩
   ·exact(d6 _ _ (fun h:S=b=>hSf (by rw[h];exact hbf))).trans e
   ·exact hR v' h'' tk'' hP' fun b o hbw hbS e=>hk'' b o hbw hbS ((d6 _ _ (dG hbS)).trans (hk' b o hbw e))
  | false=>
   simp only[fJ,if_false]
   refine wpAny_bind (wpAny_letGo ?_)
   rw[N0]
   refine wpAny_pure ⟨plainId_quiet dN _,ih (j+1) _ vb c (by lia) hlt hst' (by simp only[argBest,hb,fJ,if_false];exact hPb) hS' fun v' h'' tk'' hP' hk''=>?_⟩
   exact hR v' h'' tk'' hP' fun b o hbw hbS e=>hk'' b o hbw hbS (hk' b o hbw e)
theorem y3N(W:Walks prog w A.in1 I fp wr n P St)(bt:Nat->Nat->Bool)(S4:CmpOf prog w A.in1 .Gt P bt)(S:Addr)(hSf:S∉fp)(kw:List (Str×Value))(hn:0<n){s:Shared}{c:Nat}(hst:St 0 s.heap)
  (hS:s.heap.get? S=some { cls:=.type "list",dict:=none,data:=.seq #[] c,slots:=#[] })
  (hR:∀v h' tk,P (argBest bt (n-1)) v->(∀b o,b∉wr->b≠S->s.heap.get? b=some o->h'.get? b=some o)->R (.ok (.ret v)) { s with heap:=h',toks:=tk }) :
  codeAny (model prog w) A (.builtin "max.loop" ⟨[.ref I,.none,.ref S],kw⟩) R s:=by
 have hSw:S∉wr:=fun h=>hSf (W.sub _ h)
 have N0:(toString "max"++toString ".loop":String)="max.loop":=by decide
 refine codeAny_builtin gR ?_
 rw[cR dN _]
 show wpAny _ A.in1 (seqItems? (.ref S) >>= _) _ _ s
 refine wpAny_bind (wpAny_seqItems hS rfl ?_)
 show wpAny _ A.in1 (tryCatch (pyNext (.ref I)) _ >>= _) _ _ s
 refine wpAny_bind (wpAny_tryCatch (W.item 0 s _ _ hn hst fun v h' tk hP hst' hk'=>?_))
 have hS':=hk' S _ hSw hS
 show wpAny _ A.in1 (updateSeq S (fun _=>#[v,v]) >>= _) _ _ _
 refine wpAny_bind ?_
 refine wpAny_updateSeq hS' rfl ?_
 rw[N0]
 refine wpAny_pure ⟨plainId_quiet dN _,y69 W bt S4 S hSf kw _ 0 _ v _ rfl hn (W.frame _ _ _ hst' fun b hbf o e=>?_) hP (eM _ hS' rfl) fun v' h'' tk'' hP' hk''=>?_⟩
 ·exact(d6 _ _ (fun h:S=b=>hSf (by rw[h];exact hbf))).trans e
 ·exact hR v' h'' tk'' hP' fun b o hbw hbS e=>hk'' b o hbw hbS ((d6 _ _ (dG hbS)).trans (hk' b o hbw e))
theorem y6E(W:Walks prog w A.in1 I fp wr n P St)(S:Addr)(hSf:S∉fp)(kn:Str)(d:Value)(hn:n=0){s:Shared}{c:Nat}(hst:St 0 s.heap)
  (hS:s.heap.get? S=some { cls:=.type "list",dict:=none,data:=.seq #[] c,slots:=#[] })
  (hR:∀h' tk,(∀b o,b∉wr->s.heap.get? b=some o->h'.get? b=some o)->R (.ok (.ret d)) { s with heap:=h',toks:=tk }) :
  codeAny (model prog w) A (.builtin "max.loop" ⟨[.ref I,.none,.ref S],[(kn,d)]⟩) R s:=by
 refine codeAny_builtin gR ?_
 rw[cR dN _]
 show wpAny _ A.in1 (seqItems? (.ref S) >>= _) _ _ s
 refine wpAny_bind (wpAny_seqItems hS rfl ?_)
 show wpAny _ A.in1 (tryCatch (pyNext (.ref I)) _ >>= _) _ _ s
 refine wpAny_bind (wpAny_tryCatch (W.done s _ _ (hn ▸ hst) fun h' tk hk'=>?_))
 exact wpAny_bind (wpAny_rule (wpAny_pure (hR h' tk hk')))
theorem z7N(a v:Value):argsOk "max" ⟨[a],[(Str.ofString "default",v)]⟩:=by unfold argsOk;kernel_rfl
theorem y6p{x d:Value}{s:Shared}{E:Value->Shared->Prop}{Q:Value->Shared->Prop}
  (h:wpAny (model prog w) A.in1 (pyIter x) (fun it s2=>∃I fp wr n P St bt,it=.ref I/\Walks prog w A.in1 I fp wr n P St/\St 0 s2.heap/\(∀b∈fp,b<s2.heap.objs.size)/\CmpOf prog w A.in1 .Gt P bt/\
   (n=0->∀h' tk,(∀b o,b∉wr->s2.heap.get? b=some o->h'.get? b=some o)->Q d { s2 with heap:=h',toks:=tk })/\
   (0<n->∀v h' tk,P (argBest bt (n-1)) v->(∀b o,b∉wr->s2.heap.get? b=some o->h'.get? b=some o)->Q v { s2 with heap:=h',toks:=tk })) E s) :
  wpAny (model prog w) A (call (.builtin "max") [x] [(Str.ofString "default",d)]) Q E s:=by
 have N0:(toString "max"++toString ".loop":String)="max.loop":=by decide
 refine kmk_tree PySem.F.kind_max PySem.F.plain_max PySem.F.entry_max (z7N _ _) ?_
 show wpAny _ A.in1 (Builtin.Builtins.bindParams "max" ["key","default"] 0 ⟨[],[(Str.ofString "default",d)]⟩ >>= _) _ _ s
 refine wpAny_bind (wpAny_of_eq (show Builtin.Builtins.bindParams "max" ["key","default"] 0 ⟨[],[(Str.ofString "default",d)]⟩=pure [none,some d] from by kernel_rfl) ?_)
 refine wpAny_bind (wpAny_pure ?_)
 refine wpAny_bind (wpAny_mono h (fun it s2 h2=>?_) fun _ _ e=>e)
 obtain⟨I,fp,wr,n,P,St,bt,rfl,W,hst,hfp,S4,hQ0,hQ⟩:=h2
 refine wpAny_bind (wpAny_newObj_type ?_)
 have hSf:s2.heap.objs.size∉fp:=fun hm=>dQ _ (hfp _ hm)
 rw[N0]
 refine wpAny_pure ⟨plainId_quiet dN _,?_⟩
 by_cases hn:n=0
 ·exact y6E W s2.heap.objs.size hSf _ d hn (W.frame _ _ _ hst fun b _ o e=>bB _ e) (bK _ rfl) fun h' tk hk=>hQ0 hn h' tk fun b o hbw e=>hk b o hbw (bB _ e)
 ·exact y3N W bt S4 s2.heap.objs.size hSf _ (j4 hn) (W.frame _ _ _ hst fun b _ o e=>bB _ e) (bK _ rfl) fun v h' tk hP hk=>
   hQ (j4 hn) v h' tk hP fun b o hbw e=>hk b o hbw (cL (bQ e)) (bB _ e)
theorem y6F(W:Walks prog w A.in1 I fp wr n P St)(bt:Nat->Nat->Bool)(S4:CmpOf prog w A.in1 .Lt P bt)(S:Addr)(hSf:S∉fp)(kw:List (Str×Value)) :
  ∀(k j:Nat) (s:Shared) (vb:Value) (c:Nat),n-(j+1)=k->j+1≤n->St (j+1) s.heap->P (argBest bt j) vb->
  s.heap.get? S=some { cls:=.type "list",dict:=none,data:=.seq #[vb,vb] c,slots:=#[] }->
  (∀v h' tk,P (argBest bt (n-1)) v->(∀b o,b∉wr->b≠S->s.heap.get? b=some o->h'.get? b=some o)->R (.ok (.ret v)) { s with heap:=h',toks:=tk })->
  codeAny (model prog w) A (.builtin "min.loop" ⟨[.ref I,.none,.ref S],kw⟩) R s:=by
 have hSw:S∉wr:=fun h=>hSf (W.sub _ h)
 have N0:(toString "min"++toString ".loop":String)="min.loop":=by decide
 intro k
 induction k with
 | zero=>
  intro j s vb c hk hj hst hPb hS hR
  have hin:j+1=n:=by lia
  refine codeAny_builtin gS ?_
  rw[cR dO _]
  show wpAny _ A.in1 (seqItems? (.ref S) >>= _) _ _ s
  refine wpAny_bind (wpAny_seqItems hS rfl ?_)
  show wpAny _ A.in1 (tryCatch (pyNext (.ref I)) _ >>= _) _ _ s
  refine wpAny_bind (wpAny_tryCatch (W.done s _ _ (hin ▸ hst) fun h' tk hk'=>?_))
  have hS':=hk' S _ hSw hS
  show wpAny _ A.in1 (updateSeq S (fun _=>#[]) >>= _) _ _ _
  refine wpAny_bind ?_
  refine wpAny_updateSeq hS' rfl (wpAny_bind (wpAny_letGo (wpAny_pure ?_)))
  refine hR vb _ tk (by rw[<- hin];exact hPb) fun b o hbw hbS e=>(d6 _ _ (dG hbS)).trans (hk' b o hbw e)
 | succ k ih=>
  intro j s vb c hk hj hst hPb hS hR
  have hlt:j+1<n:=by lia
  refine codeAny_builtin gS ?_
  rw[cR dO _]
  show wpAny _ A.in1 (seqItems? (.ref S) >>= _) _ _ s
  refine wpAny_bind (wpAny_seqItems hS rfl ?_)
  show wpAny _ A.in1 (tryCatch (pyNext (.ref I)) _ >>= _) _ _ s
  refine wpAny_bind (wpAny_tryCatch (W.item (j+1) s _ _ hlt hst fun v h' tk hP hst' hk'=>?_))
  have hS':=hk' S _ hSw hS
  show wpAny _ A.in1 (tryCatch (holding [v,v] (richCompare .Lt v vb >>= _)) _ >>= _) _ _ _
  refine wpAny_bind (wpAny_tryCatch (wpAny_holding (wpAny_bind (S4 (j+1) (argBest bt j) v vb _ _ _ hP hPb ?_))))
  refine wpAny_bind (wpAny_holding (wpAny_truthy_bool ?_))
  refine wpAny_bind (wpAny_letGo (wpAny_pure ?_))
  cases hb:bt (j+1) (argBest bt j) with
  | true=>
   simp only[if_true]
   refine wpAny_bind ?_
   refine wpAny_updateSeq hS' rfl (wpAny_bind (wpAny_letGo ?_))
   rw[N0]
   refine wpAny_pure ⟨plainId_quiet dO _,ih (j+1) _ v _ (by lia) hlt (W.frame _ _ _ hst' fun b hbf o e=>?_) (by simp only[argBest,hb,if_true];exact hP) (eM _ hS' rfl)
    fun v' h'' tk'' hP' hk''=>?_⟩
   ·exact(d6 _ _ (fun h:S=b=>hSf (by rw[h];exact hbf))).trans e
   ·exact hR v' h'' tk'' hP' fun b o hbw hbS e=>hk'' b o hbw hbS ((d6 _ _ (dG hbS)).trans (hk' b o hbw e))
  | false=>
   simp only[fJ,if_false]
   refine wpAny_bind (wpAny_letGo ?_)
   rw[N0]
   refine wpAny_pure ⟨plainId_quiet dO _,ih (j+1) _ vb c (by lia) hlt hst' (by simp only[argBest,hb,fJ,if_false];exact hPb) hS' fun v' h'' tk'' hP' hk''=>?_⟩
   exact hR v' h'' tk'' hP' fun b o hbw hbS e=>hk'' b o hbw hbS (hk' b o hbw e)
theorem y4p(W:Walks prog w A.in1 I fp wr n P St)(bt:Nat->Nat->Bool)(S4:CmpOf prog w A.in1 .Lt P bt)(S:Addr)(hSf:S∉fp)(kw:List (Str×Value))(hn:0<n){s:Shared}{c:Nat}(hst:St 0 s.heap)
  (hS:s.heap.get? S=some { cls:=.type "list",dict:=none,data:=.seq #[] c,slots:=#[] })
  (hR:∀v h' tk,P (argBest bt (n-1)) v->(∀b o,b∉wr->b≠S->s.heap.get? b=some o->h'.get? b=some o)->R (.ok (.ret v)) { s with heap:=h',toks:=tk }) :
  codeAny (model prog w) A (.builtin "min.loop" ⟨[.ref I,.none,.ref S],kw⟩) R s:=by
 have hSw:S∉wr:=fun h=>hSf (W.sub _ h)
 have N0:(toString "min"++toString ".loop":String)="min.loop":=by decide
 refine codeAny_builtin gS ?_
 rw[cR dO _]
 show wpAny _ A.in1 (seqItems? (.ref S) >>= _) _ _ s
 refine wpAny_bind (wpAny_seqItems hS rfl ?_)
 show wpAny _ A.in1 (tryCatch (pyNext (.ref I)) _ >>= _) _ _ s
 refine wpAny_bind (wpAny_tryCatch (W.item 0 s _ _ hn hst fun v h' tk hP hst' hk'=>?_))
 have hS':=hk' S _ hSw hS
 show wpAny _ A.in1 (updateSeq S (fun _=>#[v,v]) >>= _) _ _ _
 refine wpAny_bind ?_
 refine wpAny_updateSeq hS' rfl ?_
 rw[N0]
 refine wpAny_pure ⟨plainId_quiet dO _,y6F W bt S4 S hSf kw _ 0 _ v _ rfl hn (W.frame _ _ _ hst' fun b hbf o e=>?_) hP (eM _ hS' rfl) fun v' h'' tk'' hP' hk''=>?_⟩
 ·exact(d6 _ _ (fun h:S=b=>hSf (by rw[h];exact hbf))).trans e
 ·exact hR v' h'' tk'' hP' fun b o hbw hbS e=>hk'' b o hbw hbS ((d6 _ _ (dG hbS)).trans (hk' b o hbw e))
theorem y5A(W:Walks prog w A.in1 I fp wr n P St)(S:Addr)(hSf:S∉fp)(kn:Str)(d:Value)(hn:n=0){s:Shared}{c:Nat}(hst:St 0 s.heap)
  (hS:s.heap.get? S=some { cls:=.type "list",dict:=none,data:=.seq #[] c,slots:=#[] })
  (hR:∀h' tk,(∀b o,b∉wr->s.heap.get? b=some o->h'.get? b=some o)->R (.ok (.ret d)) { s with heap:=h',toks:=tk }) :
  codeAny (model prog w) A (.builtin "min.loop" ⟨[.ref I,.none,.ref S],[(kn,d)]⟩) R s:=by
 refine codeAny_builtin gS ?_
 rw[cR dO _]
 show wpAny _ A.in1 (seqItems? (.ref S) >>= _) _ _ s
 refine wpAny_bind (wpAny_seqItems hS rfl ?_)
 show wpAny _ A.in1 (tryCatch (pyNext (.ref I)) _ >>= _) _ _ s
 refine wpAny_bind (wpAny_tryCatch (W.done s _ _ (hn ▸ hst) fun h' tk hk'=>?_))
 exact wpAny_bind (wpAny_rule (wpAny_pure (hR h' tk hk')))
theorem z7O(a v:Value):argsOk "min" ⟨[a],[(Str.ofString "default",v)]⟩:=by unfold argsOk;kernel_rfl
theorem y6j{x d:Value}{s:Shared}{E:Value->Shared->Prop}{Q:Value->Shared->Prop}
  (h:wpAny (model prog w) A.in1 (pyIter x) (fun it s2=>∃I fp wr n P St bt,it=.ref I/\Walks prog w A.in1 I fp wr n P St/\St 0 s2.heap/\(∀b∈fp,b<s2.heap.objs.size)/\CmpOf prog w A.in1 .Lt P bt/\
   (n=0->∀h' tk,(∀b o,b∉wr->s2.heap.get? b=some o->h'.get? b=some o)->Q d { s2 with heap:=h',toks:=tk })/\
   (0<n->∀v h' tk,P (argBest bt (n-1)) v->(∀b o,b∉wr->s2.heap.get? b=some o->h'.get? b=some o)->Q v { s2 with heap:=h',toks:=tk })) E s) :
  wpAny (model prog w) A (call (.builtin "min") [x] [(Str.ofString "default",d)]) Q E s:=by
 have N0:(toString "min"++toString ".loop":String)="min.loop":=by decide
 refine kmk_tree PySem.F.kind_min PySem.F.plain_min PySem.F.entry_min (z7O _ _) ?_
 show wpAny _ A.in1 (Builtin.Builtins.bindParams "min" ["key","default"] 0 ⟨[],[(Str.ofString "default",d)]⟩ >>= _) _ _ s
 refine wpAny_bind (wpAny_of_eq (show Builtin.Builtins.bindParams "min" ["key","default"] 0 ⟨[],[(Str.ofString "default",d)]⟩=pure [none,some d] from by kernel_rfl) ?_)
 refine wpAny_bind (wpAny_pure ?_)
 refine wpAny_bind (wpAny_mono h (fun it s2 h2=>?_) fun _ _ e=>e)
 obtain⟨I,fp,wr,n,P,St,bt,rfl,W,hst,hfp,S4,hQ0,hQ⟩:=h2
 refine wpAny_bind (wpAny_newObj_type ?_)
 have hSf:s2.heap.objs.size∉fp:=fun hm=>dQ _ (hfp _ hm)
 rw[N0]
 refine wpAny_pure ⟨plainId_quiet dO _,?_⟩
 by_cases hn:n=0
 ·exact y5A W s2.heap.objs.size hSf _ d hn (W.frame _ _ _ hst fun b _ o e=>bB _ e) (bK _ rfl) fun h' tk hk=>hQ0 hn h' tk fun b o hbw e=>hk b o hbw (bB _ e)
 ·exact y4p W bt S4 s2.heap.objs.size hSf _ (j4 hn) (W.frame _ _ _ hst fun b _ o e=>bB _ e) (bK _ rfl) fun v h' tk hP hk=>
   hQ (j4 hn) v h' tk hP fun b o hbw e=>hk b o hbw (cL (bQ e)) (bB _ e)
end
theorem z9W(f:Nat->Int):∀k,argBest (fun i j=>decide (f i > f j)) k≤k/\∀i,i≤k->f i≤f (argBest (fun i j=>decide (f i > f j)) k)
 | 0=>⟨bJ _,fun i hi=>by rw[Nat.le_zero.mp hi];exact eX _⟩
 | k+1=>by
  obtain⟨h1,h2⟩:=z9W f k
  unfold argBest
  by_cases c:f (k+1) > f (argBest (fun i j=>decide (f i > f j)) k)
  ·rw[if_pos (decide_eq_true c)]
   refine⟨bJ _,fun i hi=>?_⟩
   by_cases e:i=k+1
   ·rw[e];exact eX _
   ·have:=h2 i (by lia)
    lia
  ·rw[if_neg (by rw[decide_eq_false c];exact bM)]
   refine⟨by lia,fun i hi=>?_⟩
   by_cases e:i=k+1
   ·rw[e];lia
   ·exact h2 i (by lia)
theorem y0e(f:Nat->Int):∀k,argBest (fun i j=>decide (f i<f j)) k≤k/\∀i,i≤k->f (argBest (fun i j=>decide (f i<f j)) k)≤f i
 | 0=>⟨bJ _,fun i hi=>by rw[Nat.le_zero.mp hi];exact eX _⟩
 | k+1=>by
  obtain⟨h1,h2⟩:=y0e f k
  unfold argBest
  by_cases c:f (k+1)<f (argBest (fun i j=>decide (f i<f j)) k)
  ·rw[if_pos (decide_eq_true c)]
   refine⟨bJ _,fun i hi=>?_⟩
   by_cases e:i=k+1
   ·rw[e];exact eX _
   ·have:=h2 i (by lia)
    lia
  ·rw[if_neg (by rw[decide_eq_false c];exact bM)]
   refine⟨by lia,fun i hi=>?_⟩
   by_cases e:i=k+1
   ·rw[e];lia
   ·exact h2 i (by lia)
section
variable{X:Cx}
noncomputable def SqI(K:PySem.W.Frag)(H:Hp)(p:Addr)(ns:List Int):Prop:=SqL K H p (ns.map V.int)\/SqT K H p (ns.map V.int)
theorem z3z{ns:List Int}{its:List Value}(r:Vals (ns.map V.int) its):∀(i:Nat) (v:Value),its.toArray[i]? = some v->∃t,v=.int (ns.getD i 0) t:=by
 intro i v e
 have e':its[i]? = some v:=by simpa using e
 have hi:i<its.length:=(bX.mp e').1
 have hl:=r.length
 rw[bA] at hl
 obtain⟨u,hu,ru⟩:=r.get (i:=i) (x:=.int (ns.getD i 0)) (by
  rw[bE,bP]
  have:ns[i]? = some ns[i]:=bD (by lia)
  rw[this];rfl)
 rw[e'] at hu
 cases hu
 exact ru
theorem z6r{pins:List (Addr×Obj)}{σ:St}{H:Hp}{s:Shared}{p:Addr}{ns:List Int}{A:Around}{E:Value->Shared->Prop}{Q:Value->Shared->Prop}(I:Inv X pins σ H s)(hh:A.handled=none)(hq:SqI X.K H p ns)
  (h:∀(it:Addr) (fp:List Addr) (St:Nat->Heap->Prop) (its:List Value) (s2:Shared),Vals (ns.map V.int) its->Walks X.prog X.w A it fp [it] its.toArray.size (fun i v=>its.toArray[i]? = some v) St->St 0 s2.heap->(∀b∈fp,b<s2.heap.objs.size)->
   (∀h' tk,(∀b o,b∉[it]->s2.heap.get? b=some o->h'.get? b=some o)->Inv X pins σ H { s2 with heap:=h',toks:=tk })->Q (.ref it) s2) :
  wpAny (model X.prog X.w) A (pyIter (.ref p)) Q E s:=by
 have back:∀(o:Obj) (h':Heap) (tk:Nat),(∀b ob,b∉[s.heap.objs.size]->(s.heap.push o).get? b=some ob->h'.get? b=some ob)->Inv X pins σ H { s with heap:=h',toks:=tk }:=fun o h' tk k=>
  I.kept fun b ob e=>k b ob (fun z=>absurd (bQ e) (by rw[bC.mp z];exact dQ _)) (bB _ e)
 rcases hq with hq|hq
 ·obtain⟨its,r,pl,hz⟩:=I.list hq
  have hlt:p<s.heap.objs.size:=by obtain⟨_,e,_⟩:=pl.isList;exact bQ e
  refine wpAny_pyIter_list pl.isList ?_
  refine h s.heap.objs.size [s.heap.objs.size,p] _ its _ r (Walks.list hh s.heap.objs.size p (cL hlt) its.toArray) ⟨⟨_,bK _ rfl,rfl,rfl⟩,pl.isList.push _⟩ (fun b hb=>?_) fun h' tk k=>back _ h' tk k
  show b<(s.heap.push _).objs.size
  rw[eI]
  rcases bF.mp hb with rfl|hb
  ·exact h8 _
  ·rw[bC.mp hb];exact fN hlt
 ·obtain⟨its,r,pl,hz⟩:=I.tuple hq
  have hlt:p<s.heap.objs.size:=by obtain⟨_,e,_⟩:=pl;exact bQ e
  refine wpAny_pyIter_tuple (show s.heap.IsTuple p its.toArray from pl) ?_
  refine h s.heap.objs.size [s.heap.objs.size,p] _ its _ r (Walks.tuple hh s.heap.objs.size p (cL hlt) its.toArray) ⟨⟨_,bK _ rfl,rfl,rfl⟩,?_⟩ (fun b hb=>?_) fun h' tk k=>back _ h' tk k
  ·obtain⟨o,e,c⟩:=(show s.heap.IsTuple p its.toArray from pl)
   exact⟨o,bB _ e,c⟩
  ·show b<(s.heap.push _).objs.size
   rw[eI]
   rcases bF.mp hb with rfl|hb
   ·exact h8 _
   ·rw[bC.mp hb];exact fN hlt
noncomputable def y6H(K:PySem.W.Frag)(le:Int->Int->Prop)(ta td:TA):TE:=fun σ H Q=>ta σ H fun xs H1=>td σ H1 fun ds H2=>∃p ns d,xs=[.ref p]/\ds=[d]/\SqI K H2 p ns/\(ns=[]->Q d H2)/\∀m,m∈ns->(∀y∈ns,le y m)->Q (.int m) H2
theorem z80{ns:List Int}{i:Nat}(h:i<ns.length):ns.getD i 0∈ns:=by
 rw[bP,bD h]
 exact fG h
theorem z7Y{ns:List Int}{y:Int}(h:y∈ns):∃i,i<ns.length/\ns.getD i 0=y:=by
 obtain⟨i,hi,e⟩:=List.mem_iff_getElem.mp h
 refine⟨i,hi,?_⟩
 rw[bP,bD hi]
 exact e
theorem y4Z{e:Expr}{p pos kp:Pos}{dx:Expr}{ta td:TA}(hc:X.calm=true)(hg:Gl X "max")(hm:X.mg "max"=none)(ha:PA X [e] ta)(hd:PK X [⟨some (Str.ofString "default"),dx,kp⟩] td)
  (he:backTo pos (starEach [e] X.env)=(false,eval e X.env)::backTo pos (starEach [] X.env):=by rfl)
  (S1:(backTo pos (starEach [e] X.env)).any (·.1)=false:=by rfl)
  (C3:(backToKw pos (keywordEach [⟨some (Str.ofString "default"),dx,kp⟩] X.env)).all (·.1.isSome)=true:=by rfl)
  (hkw:(backToKw pos (keywordEach [⟨some (Str.ofString "default"),dx,kp⟩] X.env)).any (·.1.isNone)=false:=by rfl) :
  PE X (.Call (.Name "max" p) [e] [⟨some (Str.ofString "default"),dx,kp⟩] pos) (y6H X.K (fun y m=>y≤m) ta td):=by
 intro pins s σ H Q I h
 refine wpAny_Call_Name_kw (z5l I hg hm dB ?_)
 refine PyProof.Rows.callWith_kw (thn (ha pos pins s σ H _ I h) fun us s1 ⟨vs,H1,I1,r,q⟩=>?_) he S1 C3 hkw
 refine thn (hd pos pins s1 σ H1 _ I1 q) fun ws s2 ⟨zs,H2,I2,rz,q2⟩=>?_
 obtain⟨a,ns,d,e1,e2,hq,q0,q1⟩:=q2
 subst e1 e2
 obtain⟨u,rfl,ru⟩:=z4y r
 cases ru
 obtain⟨dv,rfl,rd⟩:=z4y rz
 show wpAny _ X.A (call (.builtin "max") [.ref a] [(Str.ofString "default",dv)]) _ _ _
 refine y6p (z6r (A:=X.A.in1) I2 (I2.ok.hd hc) hq fun it fp St its s3 rv W st hfp back=>?_)
 have hl:=rv.length
 rw[bA] at hl
 refine⟨it,fp,[it],_,_,St,_,rfl,W,st,hfp,CmpOf.ints_gt (fun i=>ns.getD i 0) (z3z rv),fun hn h' tk k=>?_,fun hn v h' tk hv k=>?_⟩
 ·rw[bO] at hn
  exact⟨d,H2,back h' tk k,rd,q0 (eO (by lia))⟩
 ·rw[bO] at hn hv
  obtain⟨t,rfl⟩:=z3z rv _ _ hv
  obtain⟨b1,b2⟩:=z9W (fun i=>ns.getD i 0) (its.length-1)
  refine⟨.int _,H2,back h' tk k,⟨t,rfl⟩,q1 _ (z80 (by lia)) fun y hy=>?_⟩
  obtain⟨i,hi,rfl⟩:=z7Y hy
  exact b2 i (by lia)
theorem y5o{e:Expr}{p pos kp:Pos}{dx:Expr}{ta td:TA}(hc:X.calm=true)(hg:Gl X "min")(hm:X.mg "min"=none)(ha:PA X [e] ta)(hd:PK X [⟨some (Str.ofString "default"),dx,kp⟩] td)
  (he:backTo pos (starEach [e] X.env)=(false,eval e X.env)::backTo pos (starEach [] X.env):=by rfl)
  (S1:(backTo pos (starEach [e] X.env)).any (·.1)=false:=by rfl)
  (C3:(backToKw pos (keywordEach [⟨some (Str.ofString "default"),dx,kp⟩] X.env)).all (·.1.isSome)=true:=by rfl)
  (hkw:(backToKw pos (keywordEach [⟨some (Str.ofString "default"),dx,kp⟩] X.env)).any (·.1.isNone)=false:=by rfl) :
  PE X (.Call (.Name "min" p) [e] [⟨some (Str.ofString "default"),dx,kp⟩] pos) (y6H X.K (fun y m=>m≤y) ta td):=by
 intro pins s σ H Q I h
 refine wpAny_Call_Name_kw (z5l I hg hm fK ?_)
 refine PyProof.Rows.callWith_kw (thn (ha pos pins s σ H _ I h) fun us s1 ⟨vs,H1,I1,r,q⟩=>?_) he S1 C3 hkw
 refine thn (hd pos pins s1 σ H1 _ I1 q) fun ws s2 ⟨zs,H2,I2,rz,q2⟩=>?_
 obtain⟨a,ns,d,e1,e2,hq,q0,q1⟩:=q2
 subst e1 e2
 obtain⟨u,rfl,ru⟩:=z4y r
 cases ru
 obtain⟨dv,rfl,rd⟩:=z4y rz
 show wpAny _ X.A (call (.builtin "min") [.ref a] [(Str.ofString "default",dv)]) _ _ _
 refine y6j (z6r (A:=X.A.in1) I2 (I2.ok.hd hc) hq fun it fp St its s3 rv W st hfp back=>?_)
 have hl:=rv.length
 rw[bA] at hl
 refine⟨it,fp,[it],_,_,St,_,rfl,W,st,hfp,CmpOf.ints_lt (fun i=>ns.getD i 0) (z3z rv),fun hn h' tk k=>?_,fun hn v h' tk hv k=>?_⟩
 ·rw[bO] at hn
  exact⟨d,H2,back h' tk k,rd,q0 (eO (by lia))⟩
 ·rw[bO] at hn hv
  obtain⟨t,rfl⟩:=z3z rv _ _ hv
  obtain⟨b1,b2⟩:=y0e (fun i=>ns.getD i 0) (its.length-1)
  refine⟨.int _,H2,back h' tk k,⟨t,rfl⟩,q1 _ (z80 (by lia)) fun y hy=>?_⟩
  obtain⟨i,hi,rfl⟩:=z7Y hy
  exact b2 i (by lia)
noncomputable def T6(i:Int)(n:Nat):List V:=(List.range n).map fun(k:Nat)=>V.int (i+(k:Int))
theorem y4H:z3R X (.type "range") (fun xs H Q=>∃i j,xs=[.int i,.int j]/\∀p,H p=none->Q (.ref p) (upd H p (.rng i j))):=by
 intro pins s σ H xs us Q I r h
 obtain⟨i,j,rfl,q⟩:=h
 obtain⟨u,w',rfl,⟨t,rfl⟩,⟨t',rfl⟩⟩:=y3V r
 refine call_range_2 ?_
 refine⟨.ref s.heap.objs.size,_,I.laid (fun b o e=>bB _ e) (bJ _) (show z1L X.prog X.w _ _ _ (.rng i j) from⟨t,t',s.toks,bK _ rfl⟩),rfl,q _ (I.hok.fresh (bJ _))⟩
theorem y09{prog:Program}{w:World}{A:Around}{E:Value->Shared->Prop}{s:Shared}{Q:List Value->Shared->Prop}{r:Addr}{a b c:Int}{t u v:Tok}{n:Nat}(hh:A.handled=none)(hr:IsRange s.heap r a b c t u v)(W0:Builtin.Range.small a b c=true)
  (hn:Builtin.Range.rangeSize a b c=n) (hlen:n≤2^24)
  (hQ:∀h' tk acc,(∀b o,s.heap.get? b=some o->h'.get? b=some o)->ItemsOf (fun i v=>∃t,v=.int (a+i*c) t) acc n->Q acc.toList { s with heap:=h',toks:=tk }) :
  wpAny (model prog w) A (collect (.ref r)) Q E s:=by
 unfold collect
 refine wpAny_bind (wpAny_runValue (codeAny_builtin PySem.F.entry_proto_collect ?_))
 rw[cR PySem.F.plain_proto_collect _]
 show wpAny _ A.in1 (newList [] >>= fun l=>again (.builtin "list.__iadd__" ⟨[l,.ref r],[]⟩)) _ _ s
 refine wpAny_bind (wpAny_newObj_type ?_)
 refine wpAny_pure ⟨plainId_quiet gK _,codeAny_builtin PySem.F.entry_list_iadd ?_⟩
 rw[cR gK _]
 show wpAny _ A.in1 (Builtin.List.listExtendWith (.ref s.heap.objs.size) (.ref r) (.ref s.heap.objs.size)) _ _ _
 have hS:(s.heap.push { cls:=.type "list",data:=.seq ([]:List Value).toArray }).get? s.heap.objs.size=some { cls:=.type "list",data:=.seq #[] 0 }:=bK _ rfl
 have fin:∀(r':Result) (s':Shared),(∃h' tk acc c',r'=.ok (.ret (.ref s.heap.objs.size))/\s'={ s with heap:=h',toks:=tk }/\(∀b o,s.heap.get? b=some o->h'.get? b=some o)/\
   h'.get? s.heap.objs.size=some { cls:=.type "list",dict:=none,data:=.seq acc c',slots:=#[] }/\ItemsOf (fun i v=>∃t,v=.int (a+i*c) t) acc n)->
   match r' with
   | Except.ok (Flow.ret v)=>wpAny (model prog w) A (match v with
     | Value.ref a=>do
      match (<- load a).data with
       | Data.seq xs _=>pure xs.toList
       | _=>unsupported "internal:collect"
     | _=>unsupported "internal:collect") Q E s'
   | Except.ok _=>False
   | Except.error e=>E e s':=by
  rintro r' s' ⟨h',tk,acc,c',rfl,rfl,hk,hS',hacc⟩
  show wpAny _ A (load s.heap.objs.size >>= _) _ _ _
  refine wpAny_bind (wpAny_load hS' ?_)
  exact wpAny_pure (hQ h' tk acc hk hacc)
 refine wpAny_mono (wpAny_extend_range (A:=A) (R:=fun r' s'=>∃h' tk acc c',r'=.ok (.ret (.ref s.heap.objs.size))/\s'={ s with heap:=h',toks:=tk }/\(∀b o,s.heap.get? b=some o->h'.get? b=some o)/\
   h'.get? s.heap.objs.size=some { cls:=.type "list",dict:=none,data:=.seq acc c',slots:=#[] }/\ItemsOf (fun i v=>∃t,v=.int (a+i*c) t) acc n)
  (s:={ s with heap:=s.heap.push { cls:=.type "list",data:=.seq ([]:List Value).toArray } }) hh (bB _ hr) W0 hn hlen s.heap.objs.size _ 0 hS
  fun h' tk acc c' hk hS' hacc=>⟨h',tk,acc,c',rfl,rfl,fun b o e=>hk b o (cL (bQ e)) (bB _ e),hS',hacc⟩) (fun f s' h=>?_) (fun e s' h=>?_)
 ·cases f with
  | done f=>exact fin _ _ h
  | again c'=>exact⟨h.1,codeAny_mono h.2 fun r' s'' hr'=>fin _ _ hr'⟩
 ·obtain⟨_,_,_,_,e,_⟩:=h
  cases e
theorem z8y(r:Addr)(a b:Int)(t u v:Tok)(n:Nat)(W0:Builtin.Range.small a b 1=true)(hn:Builtin.Range.rangeSize a b 1=n)(hlen:n≤2^24) :
  Meets (Builtin.«tuple.__new__» ⟨[.type "tuple",.ref r],[]⟩)
   (fun A R s=>A.handled=none/\IsRange s.heap r a b 1 t u v/\∀(h':Heap) (tk:Nat) (acc:Array Value),(∀b o,s.heap.get? b=some o->h'.get? b=some o)->ItemsOf (fun i v=>∃t,v=.int (a+i*1) t) acc n->
    R (.ok (.ret (.ref h'.objs.size))) { s with heap:=h'.push { cls:=.type "tuple",data:=.seq acc },toks:=tk }):=
 .of_wp fun prog w A R s h=>by
  obtain⟨hp,g,d,tk0,os⟩:=s
  obtain⟨hh,hr,h⟩:=h
  have hsub:=sub_tuple_self
  have hinit:=init_tuple_lookup
  have hmh:=madeHere_tuple
  have hT:Shared.TypeIs ⟨hp,g,d,tk0,os⟩ (.ref r) "range":=⟨_,hr,rfl⟩
  have hh1:A.in1.handled=none:=hh
  wp_walk using wpAny_typeOf hT,y09 hh1 hr W0 hn hlen
  intro h' tk acc hk hacc
  show wpAny _ _ (Builtin.Tuple.tupleExact acc.toList.toArray >>= fun v=>ret v) _ _ _
  unfold Builtin.Tuple.tupleExact
  refine wpAny_bind (wpAny_newObj_type ?_ (show acc.toList.toArray.size≤sizeLine by simp only[Array.toArray_toList];rw[hacc.1,sizeLine_eq];lia))
  refine wpAny_pure ⟨_,rfl,?_⟩
  have e:acc.toList.toArray=acc:=by simp
  rw[e]
  exact h h' tk acc hk hacc
theorem y6y{a:Int}{acc:Array Value}{n:Nat}(h:ItemsOf (fun i v=>∃t,v=Value.int (a+(i:Int)*1) t) acc n):Vals (T6 a n) acc.toList:=by
 have go:∀(l:List Value) (k:Nat),(∀(j:Nat) (v:Value),l[j]? = some v->∃t,v=Value.int (a+((k+j:Nat):Int)) t)->Vals ((List.range' k l.length).map fun(j:Nat)=>V.int (a+(j:Int))) l:=by
  intro l
  induction l with
  | nil=>intro k _;exact .nil
  | cons x r ih=>
   intro k hx
   rw[cN,List.range'_succ,cV]
   refine .cons ?_ (ih (k+1) fun j v e=>?_)
   ·obtain⟨t,e⟩:=hx 0 x rfl
    exact⟨t,e⟩
   ·obtain⟨t,e'⟩:=hx (j+1) v (by simpa using e)
    refine⟨t,e'.trans ?_⟩
    congr 1
    lia
 have q:=go acc.toList 0 fun j v e=>by
  obtain⟨t,e'⟩:=h.2 j v (by simpa using e)
  exact⟨t,by rw[e'];congr 1;first|done|lia⟩
 unfold T6
 rw[List.range_eq_range']
 have hn:acc.toList.length=n:=by simpa using h.1
 rw[hn] at q
 exact q
theorem z9k(hc:X.calm=true):z3R X (.type "tuple") (fun xs H Q=>∃p i j,xs=[.ref p]/\H p=some (.rng i j)/\(-(2^62)≤i/\i<2^62/\-(2^62)≤j/\j<2^62)/\(j-i).toNat≤2^24/\
  ∀l,H l=none->Q (.ref l) (upd H l (.tup (T6 i (j-i).toNat)))):=by
 intro pins s σ H xs us Q I r h
 obtain⟨p,i,j,rfl,hp,⟨h1,h2,h3,h4⟩,hlen,q⟩:=h
 obtain⟨u,rfl,rx⟩:=z4y r
 cases rx
 obtain⟨t,u',v,e⟩:=(show z1L X.prog X.w H s.heap p (.rng i j) from I.hok p _ hp)
 have hn:Builtin.Range.rangeSize i j 1=(((j-i).toNat:Nat):Int):=by rw[rangeSize_one];split<;>lia
 refine callType_new PySem.F.called_tuple (by decide) (PySem.F.typeCall_tuple_1 _) (PySem.F.newCall_tuple_1 _) (fun obj=>PySem.F.args_object_init_2 obj _) PySem.F.entry_tuple_new
  (z8y p i j t u' v _ (small_one h1 h2 h3 h4) hn hlen) ⟨I.ok.hd hc,e,fun h' tk acc hk hacc=>⟨⟨_,bK _ rfl,rfl⟩,?_⟩⟩
 have I1:Inv X pins σ H { s with heap:=h',toks:=tk }:=I.kept hk
 have z:(T6 i (j-i).toNat).length≤sizeLine:=by unfold T6;rw[bA,jA,sizeLine_eq];lia
 have I2:Inv X pins σ (upd H h'.objs.size (.tup (T6 i (j-i).toNat))) { s with heap:=h'.push { cls:=.type "tuple",data:=.seq acc },toks:=tk }:=
  I1.laid (t':=tk) (fun b o e=>bB _ e) (bJ _) (show z1L X.prog X.w _ _ _ (.tup _) from⟨z,acc.toList,y6y hacc,by simpa using PlT.new h' acc⟩)
 exact⟨.ref h'.objs.size,_,I2,rfl,q _ (I1.hok.fresh (bJ _))⟩
theorem z8s:z3R X (.builtin "sorted") (fun xs H Q=>∃(p:Addr) (ns:List Int),xs=[.ref p]/\SqL X.K H p (ns.map V.int)/\ns.length<64/\
  ∀(l:Addr) (ns':List Int),H l=none->ns'.Perm ns->ns'.Pairwise (·≤·)->Q (.ref l) (upd H l (.lst (ns'.map V.int)))):=by
 intro pins s σ H xs us Q I r h
 obtain⟨p,ns,rfl,hq,h64,q⟩:=h
 obtain⟨u,rfl,rx⟩:=z4y r
 cases rx
 obtain⟨its,rv,pl,hz⟩:=I.list hq
 have hl:=rv.length
 rw[bA] at hl hz
 refine sorted_ints pl.isList (y3u rv) (by lia) fun out ns' a1 a2 a3=>?_
 obtain⟨e,he⟩:=sortedAll_at s.heap its out
 have hlen:=a2.length_eq
 refine⟨.ref (s.heap.objs.size+1),_,I.laid (t':=s.toks) (fun b o e=>sortedAll_old e) (hE _) (show z1L X.prog X.w _ _ _ (.lst (ns'.map V.int)) from⟨?_,out.toList,e,z67 a1,?_⟩),rfl,q _ ns' (I.hok.fresh (hE _)) a2 a3⟩
 ·rw[bA,hlen];exact hz
 ·simpa using he
end
section
variable{X:Cx}{tg:Expr}
end
abbrev z9Y(J:It)(g:TG)(tc:TT)(te:TE)(σ0:St)(H1:Hp)(F:List V->Hp->Prop):Prop:=
 ∃W:Nat->Nat->List V->Hp->Prop,(∃m,W 0 m [] H1)/\∀i m ys H,W i m ys H->
  (J.stop i H/\F ys H)\/(J.go i H/\ys.length<sizeLine/\∃N:List V->Hp->Prop,(∀zs H',N zs H'->∃m',m'<m/\W (i+1) m' zs H')/\
   ∀x H',J.yld i H x H'->z1D g tc te σ0 x H' ys N)
theorem z3k{K:PySem.W.Frag}{a:Addr}{xs:List V}{g:TG}{tc:TT}{te:TE}{σ0:St}{H1:Hp}{F:List V->Hp->Prop}(Pv:Nat->List V->Hp->Prop)(h0:Pv 0 [] H1)
  (hl:∀i ys H,i≤xs.length->Pv i ys H->SqL K H a xs/\ys.length<sizeLine)
  (hs:∀i x ys H,xs[i]? = some x->Pv i ys H->z1D g tc te σ0 x H ys (Pv (i+1))) (hd:∀ys H,Pv xs.length ys H->F ys H):z9Y (Itl K a) g tc te σ0 H1 F:=by
 refine⟨fun i m ys H=>m=xs.length-i/\i≤xs.length/\Pv i ys H,⟨xs.length,by simp,cW _,h0⟩,?_⟩
 rintro i m ys H ⟨rfl,hi,p⟩
 obtain⟨q,z⟩:=hl i ys H hi p
 by_cases hlt:i<xs.length
 ·refine .inr ⟨⟨xs,xs[i],q,by simp[hlt]⟩,z,Pv (i+1),fun zs H' p'=>⟨xs.length-(i+1),by lia,rfl,hlt,p'⟩,fun x H' y=>?_⟩
  obtain⟨e,y⟩:=y
  subst e
  exact hs i x ys _ (y xs q) p
 ·have e:i=xs.length:=by lia
  subst e
  exact .inl ⟨⟨xs,q,bJ _⟩,hd ys H p⟩
theorem z1A{K:PySem.W.Frag}{a:Addr}{xs:List V}{g:TG}{tc:TT}{te:TE}{σ0:St}{H1:Hp}{F:List V->Hp->Prop}(Pv:Nat->List V->Hp->Prop)(h0:Pv 0 [] H1)
  (hl:∀i ys H,i≤xs.length->Pv i ys H->SqT K H a xs/\ys.length<sizeLine)
  (hs:∀i x ys H,xs[i]? = some x->Pv i ys H->z1D g tc te σ0 x H ys (Pv (i+1))) (hd:∀ys H,Pv xs.length ys H->F ys H):z9Y (Itt K a) g tc te σ0 H1 F:=by
 refine⟨fun i m ys H=>m=xs.length-i/\i≤xs.length/\Pv i ys H,⟨xs.length,by simp,cW _,h0⟩,?_⟩
 rintro i m ys H ⟨rfl,hi,p⟩
 obtain⟨q,z⟩:=hl i ys H hi p
 by_cases hlt:i<xs.length
 ·refine .inr ⟨⟨xs,xs[i],q,by simp[hlt]⟩,z,Pv (i+1),fun zs H' p'=>⟨xs.length-(i+1),by lia,rfl,hlt,p'⟩,fun x H' y=>?_⟩
  obtain⟨e,y⟩:=y
  subst e
  exact hs i x ys _ (y xs q) p
 ·have e:i=xs.length:=by lia
  subst e
  exact .inl ⟨⟨xs,q,bJ _⟩,hd ys H p⟩
theorem z9l{lo:Int}{n:Nat}{g:TG}{tc:TT}{te:TE}{σ0:St}{H1:Hp}{F:List V->Hp->Prop}(Pv:Nat->List V->Hp->Prop)(h0:Pv 0 [] H1)
  (hl:∀i ys H,i≤n->Pv i ys H->ys.length<sizeLine)
  (hs:∀i ys H,i<n->Pv i ys H->z1D g tc te σ0 (.int (lo+i)) H ys (Pv (i+1))) (hd:∀ys H,Pv n ys H->F ys H):z9Y (Itr lo n) g tc te σ0 H1 F:=by
 refine⟨fun i m ys H=>m=n-i/\i≤n/\Pv i ys H,⟨n,by simp,cW _,h0⟩,?_⟩
 rintro i m ys H ⟨rfl,hi,p⟩
 have z:=hl i ys H hi p
 by_cases hlt:i<n
 ·refine .inr ⟨hlt,z,Pv (i+1),fun zs H' p'=>⟨n-(i+1),by lia,rfl,hlt,p'⟩,fun x H' y=>?_⟩
  obtain⟨e,y⟩:=y
  subst e y
  exact hs i ys _ hlt p
 ·have e:i=n:=by lia
  subst e
  exact .inl ⟨bJ _,hd ys H p⟩
noncomputable def z2a{α:Type}(p:α->Bool)(f:α->V)(zs:List α):List V:=(zs.filter p).map f
theorem z74{α:Type}(p:α->Bool)(f:α->V)(zs:List α)(z:α):z2a p f (zs++[z])=if p z=true then z2a p f zs++[f z] else z2a p f zs:=by
 unfold z2a
 rw[dM,bG]
 cases h:p z<;>simp[h]
theorem y0n{α:Type}(p:α->Bool)(f:α->V)(zs:List α):(z2a p f zs).length≤zs.length:=by
 unfold z2a
 rw[bA]
 exact cJ _ _
theorem z0n{α:Type}{zs:List α}{i:Nat}{z:α}(h:zs[i]? = some z):zs.take (i+1)=zs.take i++[z]:=by
 rw[eZ,h]
 rfl
theorem z68{K:PySem.W.Frag}{a:Addr}{ns:List Int}{g:TG}{tc:TT}{te:TE}{σ0:St}{H1:Hp}{F:List V->Hp->Prop}(p:Int->Bool)(f:Int->V)(hq:SqL K H1 a (ns.map V.int))(hz:ns.length≤1000)
  (hs:∀n ys N,n∈ns->N (if p n=true then ys++[f n] else ys) H1->z1D g tc te σ0 (.int n) H1 ys N) (hd:F (z2a p f ns) H1):z9Y (Itl K a) g tc te σ0 H1 F:=by
 refine z3k (xs:=ns.map V.int) (fun i ys H=>H=H1/\ys=z2a p f (ns.take i)) ⟨rfl,rfl⟩ (fun i ys H hi hp=>?_) (fun i x ys H hx hp=>?_) (fun ys H hp=>?_)
 ·obtain⟨rfl,rfl⟩:=hp
  refine⟨hq,z0f ?_⟩
  have h1:=y0n p f (ns.take i)
  have h2:=List.length_take_le i ns
  have h3:(ns.take i).length≤ns.length:=by rw[bI];lia
  lia
 ·obtain⟨rfl,rfl⟩:=hp
  rw[bE] at hx
  cases e:ns[i]? with
  | none=>rw[e] at hx;cases hx
  | some n=>
   rw[e] at hx
   cases hx
   refine hs n _ _ (bS e) ⟨rfl,?_⟩
   rw[z0n e,z74]
 ·obtain⟨rfl,rfl⟩:=hp
  rw[bA,bR]
  exact hd
theorem z7a{K:PySem.W.Frag}{a:Addr}{ns:List Int}{g:TG}{tc:TT}{te:TE}{σ0:St}{H1:Hp}{F:List V->Hp->Prop}(p:Int->Bool)(f:Int->V)(hq:SqT K H1 a (ns.map V.int))(hz:ns.length≤1000)
  (hs:∀n ys N,n∈ns->N (if p n=true then ys++[f n] else ys) H1->z1D g tc te σ0 (.int n) H1 ys N) (hd:F (z2a p f ns) H1):z9Y (Itt K a) g tc te σ0 H1 F:=by
 refine z1A (xs:=ns.map V.int) (fun i ys H=>H=H1/\ys=z2a p f (ns.take i)) ⟨rfl,rfl⟩ (fun i ys H hi hp=>?_) (fun i x ys H hx hp=>?_) (fun ys H hp=>?_)
 ·obtain⟨rfl,rfl⟩:=hp
  refine⟨hq,z0f ?_⟩
  have h1:=y0n p f (ns.take i)
  have h3:(ns.take i).length≤ns.length:=by rw[bI];lia
  lia
 ·obtain⟨rfl,rfl⟩:=hp
  rw[bE] at hx
  cases e:ns[i]? with
  | none=>rw[e] at hx;cases hx
  | some n=>
   rw[e] at hx
   cases hx
   refine hs n _ _ (bS e) ⟨rfl,?_⟩
   rw[z0n e,z74]
 ·obtain⟨rfl,rfl⟩:=hp
  rw[bA,bR]
  exact hd
noncomputable def upI(lo:Int)(n:Nat):List Int:=(List.range n).map fun(k:Nat)=>lo+(k:Int)
theorem z6f(lo:Int)(n:Nat):upI lo (n+1)=upI lo n++[lo+(n:Int)]:=by
 unfold upI
 rw[List.range_succ,bG]
 rfl
theorem z0S(lo:Int)(n:Nat):(upI lo n).length=n:=by unfold upI;rw[bA,jA]
theorem z1i{lo:Int}{n:Nat}{x:Int}:x∈upI lo n↔lo≤x/\x<lo+n:=by
 unfold upI
 rw[cS]
 constructor
 ·rintro⟨k,hk,rfl⟩
  have:=fQ.mp hk
  lia
 ·rintro⟨h1,h2⟩
  exact⟨(x-lo).toNat,fQ.mpr (by lia),by lia⟩
theorem y07{lo:Int}{n:Nat}{g:TG}{tc:TT}{te:TE}{σ0:St}{H1:Hp}{F:List V->Hp->Prop}(p:Int->Bool)(f:Int->V)(hz:n≤1000)
  (hs:∀k ys N,lo≤k->k<lo+n->N (if p k=true then ys++[f k] else ys) H1->z1D g tc te σ0 (.int k) H1 ys N) (hd:F (z2a p f (upI lo n)) H1):z9Y (Itr lo n) g tc te σ0 H1 F:=by
 refine z9l (fun i ys H=>H=H1/\ys=z2a p f (upI lo i)) ⟨rfl,rfl⟩ (fun i ys H hi hp=>?_) (fun i ys H hx hp=>?_) (fun ys H hp=>?_)
 ·obtain⟨rfl,rfl⟩:=hp
  have h1:=y0n p f (upI lo i)
  rw[z0S] at h1
  exact z0f (by lia)
 ·obtain⟨rfl,rfl⟩:=hp
  refine hs _ _ _ (by lia) (by lia) ⟨rfl,?_⟩
  rw[z6f,z74]
 ·obtain⟨rfl,rfl⟩:=hp
  exact hd
section
variable{X:Cx}
theorem z0I:z3R X (.builtin "isinstance") (fun xs H Q=>∃x T t b,xs=[x,.ty T]/\Q8 X.K H x t/\PySem.W.kitOne X.K t (.type T)=some b/\Q (.bl b) H):=by
 intro pins s σ H xs us Q I r h
 obtain⟨x,T,t,b,rfl,ty,e,q⟩:=h
 obtain⟨u,w',rfl,rx,ry⟩:=y3V r
 cases (show w'=Value.type T from ry)
 exact y5c I rx ty e fun tk=>⟨.bl b,H,I.tok _,rfl,q⟩
theorem y8x(hu:X.A.units<cLine):OpR X (compareOp .NotEq) (fun x y H Q=>∃a b xs,x=.ref a/\y=.ref b/\SqL X.K H a xs/\SqL X.K H b []/\Q (.bl (!xs.isEmpty)) H):=by
 intro pins s σ H x y v u Q I rx ry h
 obtain⟨a,b,xs,rfl,rfl,ha,hb,q⟩:=h
 cases rx
 cases ry
 obtain⟨its,r,pl,hz⟩:=I.list ha
 obtain⟨M1,r2,pl2,hz2⟩:=I.list hb
 cases r2
 have hl:=r.length
 cases xs with
 | nil=>
  cases r
  exact SeqAt.RcNeAt.lists (e:=fun _=>true) pl.isList pl2.isList rfl hu (fun j h1 _=>absurd h1 (gP _)) X.prog X.w X.xe _ ⟨.bl false,H,I,rfl,q⟩
 | cons x0 xr=>
  refine SeqAt.RcNeAt.lists_lengths pl.isList pl2.isList ?_ hu X.prog X.w X.xe _ ⟨.bl true,H,I,rfl,q⟩
  rw[bO,<- hl]
  rfl
end
noncomputable def y2H(N:List Str)(kind:Str->Option NameKind)(rl:List (Str×NameKind)):List Str->List Nat->Bool
 | x::xs,i::is=>decide (N[i]? = some x) && (decide (kind x=some .cell) || decide (kind x=some .free)) && (decide (rl.lookup x=some .cell) || decide (rl.lookup x=some .free)) && y2H N kind rl xs is
 | _,_=>true
theorem y6S{N:List Str}{kind:Str->Option NameKind}{rl:List (Str×NameKind)}:∀{F8:List Str}{ix:List Nat},y2H N kind rl F8 ix=true->∀(j i:Nat) (x:Str),F8[j]? = some x->ix[j]? = some i->
  N[i]? = some x/\(kind x=some .cell\/kind x=some .free)/\(rl.lookup x=some .cell\/rl.lookup x=some .free)
 | [],_,_,j,i,x,e,_=>by simp at e
 | _::_,[],_,j,i,x,_,e=>by simp at e
 | y::ys,k::ks,h,j,i,x,e1,e2=>by
  unfold y2H at h
  rw[bZ,bZ,bZ,jT,jT] at h
  obtain⟨⟨⟨h1,h2⟩,h3⟩,h4⟩:=h
  cases j with
  | zero=>
   simp at e1 e2
   subst e1 e2
   exact⟨of_decide_eq_true h1,h2.imp of_decide_eq_true of_decide_eq_true,h3.imp of_decide_eq_true of_decide_eq_true⟩
  | succ j=>exact y6S h4 j i x (by simpa using e1) (by simpa using e2)
theorem z0v{X:Cx}{scope:Scope}{cl:List (Str×Addr)}{own F8:List Str}{ix:List Nat}(W6:z90 X.env.cells scope.names []=some cl)(cell:∀y∈scope.names,y.2≠.cell)(kind:scope.kind=.function)
  (names:∀y∈scope.names,y.2=.local->scope.names.lookup y.1=some .local) (n:F8.length=ix.length) (cap:y2H X.N X.env.kindOf (relabel scope X.env).names F8 ix=true):K2 X scope cl own F8 ix:=
 ⟨W6,cell,kind,names,n,fun j i x e1 e2=>by
  obtain⟨a,b,c⟩:=y6S cap j i x e1 e2
  refine⟨a,fun z=>?_,b.elim (fun q=>.inr (.inl q)) (fun q=>.inr (.inr q)),c⟩
  rcases b with b|b<;>(rw[b] at z;cases z)⟩
theorem z8U{X:Cx}{K:PySem.W.Frag}{es:List Expr}{k:Nat}{t:TGs}{n:Nat}{pos:Pos}(hK:X.K=K)(hc:X.calm=true)(h:PGs X es t)
  (hn:(assignEach es X.env).length=n:=by rfl) (hst:(assignEach es X.env).findIdx? (·.1)=none:=by rfl):PG X (.Tuple es k pos) (Z8 K n t):=by
 subst hK
 exact y6P hc h hn hst
structure Cal(P:Program)(w:World)(K:PySem.W.Frag)(mg:Str->Option Value)(base:Heap)(k:Nat)(x:Str)(ps:List Str)(sp:Sp):Prop where
 ex:∃(f:Addr) (fd:FuncData),B4 P w K mg base CX0 k f fd ps sp/\z2f K fd ps []/\PySem.W.keepIn K (.ref f)=true/\mg x=some (.ref f)
theorem Cal.mk'{P:Program}{w:World}{K:PySem.W.Frag}{mg:Str->Option Value}{base:Heap}{k:Nat}{x:Str}{ps:List Str}{sp:Sp}{f:Addr}{fd:FuncData}(a:B4 P w K mg base CX0 k f fd ps sp)(b:z2f K fd ps [])(c:PySem.W.keepIn K (.ref f)=true)(d:mg x=some (.ref f)) :
  Cal P w K mg base k x ps sp:=⟨⟨f,fd,a,b,c,d⟩⟩
theorem z0g{X:Cx}{k:Nat}{x:Str}{ps:List Str}{sp:Sp}{e:Expr}{es:List Expr}{t:TA}{p pos:Pos}(G:Cal X.prog X.w X.K X.mg X.base k x ps sp)(hr:E9 k X.A)(hg:Gl X x)(ha:PA X (e::es) t)
  (hdb:(x == ("__debug__":Str))=false:=by decide) (he:starEach (e::es) X.env=(false,eval e X.env)::starEach es X.env:=by rfl) (hpl:(backTo pos (starEach es X.env)).any (·.1)=false:=by rfl) :
  PE X (.Call (.Name x p) (e::es) [] pos) (y7l sp [] E0 t):=by
 obtain⟨f,fd,a,b,c,d⟩:=G.ex
 exact y57 a hr hg d c b .nil y56 ha hdb he hpl
noncomputable def Q7(z:Str)(lo hi:Option Int):Str:=⟨((z.cps.toList.drop (HT.sIx z.length 0 lo)).take (HT.sIx z.length z.length hi-HT.sIx z.length 0 lo)).toArray⟩
theorem y04{x y:Str}(h:x.cps.toList=y.cps.toList):x=y:=by
 obtain⟨a⟩:=x
 obtain⟨b⟩:=y
 exact congrArg Str.mk (Array.toList_inj.mp h)
theorem z1Z(z:Str):z.cps.toList.length=z.length:=by simp[Str.length]
theorem y1w(lo hi:Option Int)(n:Nat):Builtin.Str.strSliceIndices lo hi 1 n=(List.range (HT.sIx n n hi-HT.sIx n 0 lo)).map (fun k=>HT.sIx n 0 lo+k):=by
 obtain⟨h1,h2,h3⟩:=z7z lo hi n
 have e:Builtin.Str.strSliceIndices lo hi 1 n=sliceRange (sliceBounds lo hi none n).1 (sliceBounds lo hi none n).2.1 1:=by
  unfold Builtin.Str.strSliceIndices sliceBounds
  cases lo<;>cases hi<;>rfl
 rw[e,h1,h2,sliceRange_one]
theorem y5R{z:Str}{t:Tok}{l u:Option (Int×Tok)}{Q:Value->Shared->Prop}{s:Shared}(hz:z.length≤sizeLine)(h:∀t' tk,Q (.str (Q7 z (l.map (·.1)) (u.map (·.1))) t') { s with toks:=tk }):(sliceMade z t l u none).post Q s:=by
 have picked:slicePicked z l u none=(List.range (HT.sIx z.length z.length (u.map (·.1))-HT.sIx z.length 0 (l.map (·.1)))).map (fun k=>HT.sIx z.length 0 (l.map (·.1))+k):=y1w _ _ _
 have items:(slicePicked z l u none).filterMap (z.cps[·]?)=(Q7 z (l.map (·.1)) (u.map (·.1))).cps.toList:=by
  rw[picked,pick_run]
  rfl
 have lh:=HT.y6L z.length z.length (bJ _) (u.map (·.1))
 unfold sliceMade
 by_cases c:(((none:Option (Int×Tok)).map (·.1)).getD 1 == 1 && (slicePicked z l u none).length == z.length)=true
 ·rw[if_pos c]
  rw[bZ] at c
  have c2:(slicePicked z l u none).length=z.length:=eq_of_beq c.2
  rw[picked,bA,jA] at c2
  have e:Q7 z (l.map (·.1)) (u.map (·.1))=z:=by
   apply y04
   show(z.cps.toList.drop _).take _=_
   by_cases hz0:z.length=0
   ·have:z.cps.toList=[]:=eO (by rw[z1Z];exact hz0)
    rw[this]
    simp
   ·have e1:HT.sIx z.length 0 (l.map (·.1))=0:=by lia
    rw[e1,fH,cP]
    rw[z1Z]
    lia
  have:=h t s.toks
  rw[e] at this
  exact this
 ·rw[if_neg c,items]
  refine⟨?_,?_⟩
  ·show(((Q7 z (l.map (·.1)) (u.map (·.1))).cps.toList.toArray).size)≤sizeLine
   rw[bO]
   show((z.cps.toList.drop _).take _).length≤_
   rw[bI,dY,z1Z]
   lia
  ·have:=h s.toks (s.toks+1)
   have e:(⟨(Q7 z (l.map (·.1)) (u.map (·.1))).cps.toList.toArray⟩:Str)=Q7 z (l.map (·.1)) (u.map (·.1)):=y04 (by simp)
   rw[e]
   exact this
section
variable{X:Cx}
theorem z7A{v:Value}{o:Option Int}(h:IsPart v o):∃p:Option (Int×Tok),v=partValue p/\p.map (·.1)=o:=by
 cases h with
 | none=>exact⟨none,rfl,rfl⟩
 | int i t=>exact⟨some (i,t),rfl,rfl⟩
noncomputable def rSlS:V->Option Int->Option Int->Hp->VK->Prop:=fun x lo hi H Q=>∃z,x=.str z/\z.length≤sizeLine/\Q (.str (Q7 z lo hi)) H
theorem y73:SlR X rSlS:=by
 intro pins s σ H x v vl vu lo hi sl Q I rx hs pl pu h
 obtain⟨z,rfl,hz,q⟩:=h
 obtain⟨t,rfl⟩:=rx
 obtain⟨l,rfl,rfl⟩:=z7A pl
 obtain⟨u,rfl,rfl⟩:=z7A pu
 refine⟨"str",_,slot_str_getitem.lookup,typeIs_str s z t,?_⟩
 obtain⟨o,ho,hc,hd⟩:=hs
 refine wpAny_getItem_str_slice (l:=l) (u:=u) (st:=none) ⟨o,ho,hc,hd⟩ rfl (y5R hz fun t' tk=>?_)
 exact⟨.str _,H,I.tok _,⟨_,rfl⟩,q⟩
noncomputable def Y6(z:Str)(n:Nat):Str:=⟨(List.replicate n z.cps.toList).flatten.toArray⟩
theorem y2l(z:Array Nat):∀(n:Nat) (acc:Array Nat),(List.foldl (fun a b=>a++b) acc (List.replicate n z)).toList=acc.toList++(List.replicate n z.toList).flatten
 | 0,acc=>by simp
 | n+1,acc=>by
  rw[List.replicate_succ,dF,y2l z n]
  simp[List.replicate_succ]
theorem y3v:OpR X (binaryOp .Mult) (fun x y H Q=>∃z n,x=.str z/\y=.int n/\1≤n/\n≤1000/\z.length≤1000/\Q (.str (Y6 z n.toNat)) H):=by
 intro pins s σ H x y v u Q I rx ry h
 obtain⟨z,n,rfl,rfl,h1,h2,hz,q⟩:=h
 obtain⟨t,rfl⟩:=rx
 obtain⟨t',rfl⟩:=ry
 have hs:sizeLine=16777216:=sizeLine_eq
 have hm:z.length*n.toNat≤1000*1000:=k8 hz (by lia)
 have fin:∀t' tk,EP X pins σ Q (.str (Y6 z n.toNat) t') { s with toks:=tk }:=fun t' tk=>⟨.str _,H,I.tok _,⟨_,rfl⟩,q⟩
 refine PySem.P.mul_str ?_ (fun _ _=>?_) (fun _ _=>?_) ?_
 ·rw[decide_eq_false (show ¬n < -(2^63:Int) by lia),decide_eq_false (show ¬n≥2^63 by lia)]
  rfl
 ·have:(1000:Int)≤(2^63-1) / n:=by
   apply Int.le_ediv_of_mul_le (by lia)
   have:1000*n≤1000*1000:=Int.mul_le_mul_of_nonneg_left h2 (by decide)
   lia
  lia
 ·unfold Builtin.Str.tooLong
  exact decide_eq_false (by lia)
 ·rw[if_neg (by lia)]
  by_cases c:(n == 1 || z.length == 0)=true
  ·rw[if_pos c]
   have e:Y6 z n.toNat=z:=by
    apply y04
    show((List.replicate n.toNat z.cps.toList).flatten.toArray).toList=_
    rw[jT] at c
    rcases c with c|c
    ·have:n=1:=eq_of_beq c
     subst this
     simp
    ·have:z.length=0:=eq_of_beq c
     have:z.cps.toList=[]:=eO (by rw[z1Z];exact this)
     rw[this]
     simp
   have:=fin t s.toks
   rw[e] at this
   exact this
  ·rw[if_neg c]
   have e:(⟨(List.replicate n.toNat z.cps).foldl (·++·) #[]⟩:Str)=Y6 z n.toNat:=by
    apply y04
    show(List.foldl (fun a b=>a++b) #[] (List.replicate n.toNat z.cps)).toList=((List.replicate n.toNat z.cps.toList).flatten.toArray).toList
    rw[y2l]
    simp
   refine⟨?_,?_⟩
   ·rw[e,<- z1Z]
    show((List.replicate n.toNat z.cps.toList).flatten.toArray).toList.length≤sizeLine
    have:((List.replicate n.toNat z.cps.toList).flatten.toArray).toList.length=n.toNat*z.length:=by
     simp[List.length_flatten,List.map_replicate,z1Z]
     rfl
    rw[this,Nat.mul_comm]
    lia
   ·rw[e]
    exact fin _ _
end
end L2
namespace L2
open PySem
inductive DV where
 | non|bl (b:Bool)|int (i:Int)|str (x:Str)|tup (l:List DV)
mutual
noncomputable def B2(H:Hp):DV->V->Prop
 | .non,x=>x=.non
 | .bl b,x=>x=.bl b
 | .int i,x=>x=.int i
 | .str s,x=>x=.str s
 | .tup ds,x=>∃a xs,x=.ref a/\H a=some (.tup xs)/\xs.length≤1000000/\z0a H ds xs
noncomputable def z0a(H:Hp):List DV->List V->Prop
 | [],xs=>xs=[]
 | d::ds,xs=>∃x r,xs=x::r/\B2 H d x/\z0a H ds r
end
mutual
theorem B2.keep{H H':Hp}(s:B0 H H'):∀(d:DV) (x:V),B2 H d x->B2 H' d x
 | .non,_,h=>h
 | .bl _,_,h=>h
 | .int _,_,h=>h
 | .str _,_,h=>h
 | .tup ds,_,h=>by
  unfold B2 at h ⊢
  obtain⟨a,xs,e,h1,h2,h3⟩:=h
  exact⟨a,xs,e,s _ _ h1,h2,z0a.keep s ds xs h3⟩
theorem z0a.keep{H H':Hp}(s:B0 H H'):∀(ds:List DV) (xs:List V),z0a H ds xs->z0a H' ds xs
 | [],_,h=>h
 | d::ds,_,h=>by
  unfold z0a at h ⊢
  obtain⟨x,r,e,h1,h2⟩:=h
  exact⟨x,r,e,B2.keep s d x h1,z0a.keep s ds r h2⟩
end
mutual
theorem B2.over{H:Hp}{l:Addr}{o o':HO}(hl:H l=some o)(hn:∀xs,o≠.tup xs):∀(d:DV) (x:V),B2 H d x->B2 (upd H l o') d x
 | .non,_,h=>h
 | .bl _,_,h=>h
 | .int _,_,h=>h
 | .str _,_,h=>h
 | .tup ds,_,h=>by
  unfold B2 at h ⊢
  obtain⟨a,xs,e,h1,h2,h3⟩:=h
  exact⟨a,xs,e,by rw[z0l (z4x h1 hl (fun z=>hn xs z.symm))];exact h1,h2,z0a.over hl hn ds xs h3⟩
theorem z0a.over{H:Hp}{l:Addr}{o o':HO}(hl:H l=some o)(hn:∀xs,o≠.tup xs):∀(ds:List DV) (xs:List V),z0a H ds xs->z0a (upd H l o') ds xs
 | [],_,h=>h
 | d::ds,_,h=>by
  unfold z0a at h ⊢
  obtain⟨x,r,e,h1,h2⟩:=h
  exact⟨x,r,e,B2.over hl hn d x h1,z0a.over hl hn ds r h2⟩
end
theorem z0a.length{H:Hp}:∀{ds:List DV}{xs:List V},z0a H ds xs->xs.length=ds.length
 | [],_,h=>by unfold z0a at h;rw[h];rfl
 | d::ds,_,h=>by
  unfold z0a at h
  obtain⟨x,r,rfl,_,h2⟩:=h
  rw[cN,cN,z0a.length h2]
theorem z0a.get{H:Hp}:∀{ds:List DV}{xs:List V},z0a H ds xs->∀(i:Nat) (d:DV),ds[i]? = some d->∃x,xs[i]? = some x/\B2 H d x
 | [],_,_,i,d,e=>by simp at e
 | d0::ds,_,h,0,d,e=>by
  unfold z0a at h
  obtain⟨x,r,rfl,h1,_⟩:=h
  simp at e
  subst e
  exact⟨x,rfl,h1⟩
 | d0::ds,_,h,i+1,d,e=>by
  unfold z0a at h
  obtain⟨x,r,rfl,_,h2⟩:=h
  obtain⟨y,e1,e2⟩:=z0a.get h2 i d (by simpa using e)
  exact⟨y,by simpa using e1,e2⟩
theorem z0a.at{H:Hp}:∀{ds:List DV}{xs:List V},z0a H ds xs->∀(i:Nat) (x:V),xs[i]? = some x->∃d,ds[i]? = some d/\B2 H d x
 | [],_,h,i,x,e=>by
  unfold z0a at h
  subst h
  simp at e
 | d0::ds,_,h,0,x,e=>by
  unfold z0a at h
  obtain⟨x0,r,rfl,h1,_⟩:=h
  simp at e
  subst e
  exact⟨d0,rfl,h1⟩
 | d0::ds,_,h,i+1,x,e=>by
  unfold z0a at h
  obtain⟨x0,r,rfl,_,h2⟩:=h
  obtain⟨y,e1,e2⟩:=z0a.at h2 i x (by simpa using e)
  exact⟨y,by simpa using e1,e2⟩
theorem z0a.nil{H:Hp}:z0a H [] []:=by unfold z0a;rfl
theorem z0a.cons{H:Hp}{d:DV}{ds:List DV}{x:V}{xs:List V}(h:B2 H d x)(t:z0a H ds xs):z0a H (d::ds) (x::xs):=by unfold z0a;exact⟨x,xs,rfl,h,t⟩
theorem z0a.snoc{H:Hp}:∀{ds:List DV}{xs:List V}{d:DV}{x:V},z0a H ds xs->B2 H d x->z0a H (ds++[d]) (xs++[x])
 | [],_,_,_,h,q=>by
  unfold z0a at h
  subst h
  exact z0a.cons q .nil
 | d0::ds,_,_,_,h,q=>by
  unfold z0a at h
  obtain⟨x0,r,rfl,h1,h2⟩:=h
  exact z0a.cons h1 (z0a.snoc h2 q)
theorem z0a.append{H:Hp}:∀{ds es:List DV}{xs ys:List V},z0a H ds xs->z0a H es ys->z0a H (ds++es) (xs++ys)
 | [],_,_,_,h,q=>by
  unfold z0a at h
  subst h
  exact q
 | d0::ds,_,_,_,h,q=>by
  unfold z0a at h
  obtain⟨x0,r,rfl,h1,h2⟩:=h
  exact z0a.cons h1 (z0a.append h2 q)
theorem z0a.take{H:Hp}:∀{ds:List DV}{xs:List V} (n:Nat),z0a H ds xs->z0a H (ds.take n) (xs.take n)
 | _,_,0,_=>by rw[cZ,cZ];exact .nil
 | [],_,n+1,h=>by
  unfold z0a at h
  subst h
  exact .nil
 | d0::ds,_,n+1,h=>by
  unfold z0a at h
  obtain⟨x0,r,rfl,h1,h2⟩:=h
  exact z0a.cons h1 (z0a.take n h2)
theorem z0E{H:Hp}(i:Int):B2 H (.int i) (.int i):=by unfold B2;rfl
theorem z2h{H:Hp}(x:Str):B2 H (.str x) (.str x):=by unfold B2;rfl
theorem z5a{H:Hp}:B2 H .non .non:=by unfold B2;rfl
theorem z0s{H:Hp}{a:Addr}{xs:List V}{ds:List DV}(h:H a=some (.tup xs))(hl:ds.length≤1000000)(t:z0a H ds xs):B2 H (.tup ds) (.ref a):=by
 unfold B2
 exact⟨a,xs,rfl,h,by rw[t.length];exact hl,t⟩
theorem z2n{H:Hp}:∀(l:List Str),z0a H (l.map DV.str) (l.map V.str)
 | []=>.nil
 | i::r=>.cons (z2h i) (z2n r)
theorem z11{H:Hp}:∀{l:List Str}{xs:List V},z0a H (l.map DV.str) xs->xs=l.map V.str
 | [],_,h=>by unfold z0a at h;exact h
 | i::r,_,h=>by
  rw[cV] at h
  unfold z0a at h
  obtain⟨x,t,rfl,h1,h2⟩:=h
  unfold B2 at h1
  rw[h1,z11 h2]
  rfl
theorem z0d{H:Hp}{ds:List DV}{x:V}(h:B2 H (.tup ds) x):∃a xs,x=.ref a/\H a=some (.tup xs)/\xs.length≤1000000/\z0a H ds xs:=by
 unfold B2 at h
 exact h
theorem z14{H:Hp}{i:Int}{x:V}(h:B2 H (.int i) x):x=.int i:=by unfold B2 at h;exact h
theorem z2S{H:Hp}{i:Str}{x:V}(h:B2 H (.str i) x):x=.str i:=by unfold B2 at h;exact h
theorem z0e{H:Hp}{d:DV}{ds:List DV}{xs:List V}(h:z0a H (d::ds) xs):∃x r,xs=x::r/\B2 H d x/\z0a H ds r:=by
 unfold z0a at h
 exact h
theorem z0G{H:Hp}{xs:List V}(h:z0a H [] xs):xs=[]:=by unfold z0a at h;exact h
mutual
noncomputable def DV.deep:DV->Nat
 | .tup ds=>DV.R5 ds+1
 | _=>0
noncomputable def DV.R5:List DV->Nat
 | []=>0
 | d::ds=>max d.deep (DV.R5 ds)
end
noncomputable def y3q:V->Bool
 | .non=>true
 | .bl _=>true
 | .int _=>true
 | .str _=>true
 | _=>false
noncomputable def z4P(H:Hp):Nat->V->V->Prop
 | 0,x,y=>x=y/\y3q x=true
 | n+1,x,y=>(x=y/\y3q x=true)\/∃(a b:Addr) (xs ys:List V),x=.ref a/\y=.ref b/\H a=some (.tup xs)/\H b=some (.tup ys)/\xs.length=ys.length/\ys.length≤1000000/\
   ∀(i:Nat) (u v:V),xs[i]? = some u->ys[i]? = some v->z4P H n u v
theorem z4P.keep{H H':Hp}(s:B0 H H'):∀{n:Nat}{x y:V},z4P H n x y->z4P H' n x y
 | 0,_,_,h=>h
 | n+1,x,y,h=>by
  rcases h with h|⟨a,b,xs,ys,e1,e2,h1,h2,hl,hm,h⟩
  ·exact .inl h
  ·exact .inr ⟨a,b,xs,ys,e1,e2,s _ _ h1,s _ _ h2,hl,hm,fun i u v hu hv=>z4P.keep s (h i u v hu hv)⟩
theorem z4P.up{H:Hp}:∀{n:Nat}{x y:V},z4P H n x y->z4P H (n+1) x y
 | 0,_,_,h=>.inl h
 | n+1,x,y,h=>by
  rcases h with h|⟨a,b,xs,ys,e1,e2,h1,h2,hl,hm,h⟩
  ·exact .inl h
  ·exact .inr ⟨a,b,xs,ys,e1,e2,h1,h2,hl,hm,fun i u v hu hv=>z4P.up (h i u v hu hv)⟩
theorem z4P.mono{H:Hp}{x y:V}{n m:Nat}(h:z4P H n x y)(hm:n≤m):z4P H m x y:=by
 induction hm with
 | refl=>exact h
 | step _ ih=>exact ih.up
mutual
theorem z3V{H:Hp}:∀(d:DV) (x y:V),B2 H d x->B2 H d y->z4P H d.deep x y
 | .non,x,y,h1,h2=>by
  unfold B2 at h1 h2
  subst h1 h2
  exact⟨rfl,rfl⟩
 | .bl _,x,y,h1,h2=>by
  unfold B2 at h1 h2
  subst h1 h2
  exact⟨rfl,rfl⟩
 | .int _,x,y,h1,h2=>by
  unfold B2 at h1 h2
  subst h1 h2
  exact⟨rfl,rfl⟩
 | .str _,x,y,h1,h2=>by
  unfold B2 at h1 h2
  subst h1 h2
  exact⟨rfl,rfl⟩
 | .tup ds,x,y,h1,h2=>by
  unfold B2 at h1 h2
  obtain⟨a,xs,rfl,a1,a2,a3⟩:=h1
  obtain⟨b,ys,rfl,b1,b2,b3⟩:=h2
  unfold DV.deep
  exact .inr ⟨a,b,xs,ys,rfl,rfl,a1,b1,by rw[a3.length,b3.length],b2,z8t ds xs ys a3 b3⟩
theorem z8t{H:Hp}:∀(ds:List DV) (xs ys:List V),z0a H ds xs->z0a H ds ys->∀(i:Nat) (u v:V),xs[i]? = some u->ys[i]? = some v->z4P H (DV.R5 ds) u v
 | [],xs,ys,h1,h2,i,u,v,e1,e2=>by
  unfold z0a at h1
  subst h1
  simp at e1
 | d::ds,xs,ys,h1,h2,0,u,v,e1,e2=>by
  unfold z0a at h1 h2
  obtain⟨x,r,rfl,a1,a2⟩:=h1
  obtain⟨y,t,rfl,b1,b2⟩:=h2
  simp at e1 e2
  subst e1 e2
  unfold DV.R5
  exact(z3V d x y a1 b1).mono (Nat.le_max_left _ _)
 | d::ds,xs,ys,h1,h2,i+1,u,v,e1,e2=>by
  unfold z0a at h1 h2
  obtain⟨x,r,rfl,a1,a2⟩:=h1
  obtain⟨y,t,rfl,b1,b2⟩:=h2
  unfold DV.R5
  exact(z8t ds r t a2 b2 i u v (by simpa using e1) (by simpa using e2)).mono (Nat.le_max_right _ _)
end
end L2
namespace L2
open PySem PySem.Spec PyProof.Rows
section
variable{κ:Type}[DecidableEq κ]
def M7(ks:List κ):List κ:=ks.foldl (fun acc k=>if k∈acc then acc else acc++[k]) []
theorem y4t(ks:List κ)(k:κ):M7 (ks++[k])=if k∈M7 ks then M7 ks else M7 ks++[k]:=by
 unfold M7
 rw[gU]
 rfl
theorem y3R{ks:List κ}{i:Nat}{k:κ}(h:ks[i]? = some k):M7 (ks.take (i+1))=if k∈M7 (ks.take i) then M7 (ks.take i) else M7 (ks.take i)++[k]:=by
 have e:ks.take (i+1)=ks.take i++[k]:=by rw[eZ,h]<;>rfl
 rw[e,y4t]
theorem z8A(k:κ):∀(ks acc:List κ),k∈ks.foldl (fun acc k=>if k∈acc then acc else acc++[k]) acc↔k∈acc\/k∈ks
 | [],acc=>by simp
 | x::r,acc=>by
  rw[dF,z8A k r]
  by_cases h:x∈acc
  ·rw[if_pos h,bF]
   constructor
   ·rintro(a|a)
    ·exact .inl a
    ·exact .inr (.inr a)
   ·rintro(a|rfl|a)
    ·exact .inl a
    ·exact .inl h
    ·exact .inr a
  ·rw[if_neg h,cH,bC,bF,or_assoc]
theorem y2J{k:κ}{ks:List κ}:k∈M7 ks↔k∈ks:=by unfold M7;rw[z8A];simp
theorem z98:∀(ks acc:List κ),(ks.foldl (fun acc k=>if k∈acc then acc else acc++[k]) acc).length≤acc.length+ks.length
 | [],acc=>by simp
 | x::r,acc=>by
  rw[dF]
  refine cM (z98 r _) ?_
  by_cases h:x∈acc
  ·rw[if_pos h,cN];lia
  ·rw[if_neg h,bL,cN,cN,jU];lia
theorem y21(ks:List κ):(M7 ks).length≤ks.length:=by
 have:=z98 ks []
 simpa [M7] using this
theorem z9G:∀(ks acc:List κ),(acc++ks).Nodup->ks.foldl (fun acc k=>if k∈acc then acc else acc++[k]) acc=acc++ks
 | [],acc,_=>by simp
 | x::r,acc,h=>by
  have hx:x∉acc:=fun hx=>by
   rw[jB] at h
   exact h.2.2 x hx x (cI) rfl
  rw[dF,if_neg hx,z9G r (acc++[x]) (by rw[jC];exact h),jC]
  rfl
theorem y5x{ks:List κ}(h:ks.Nodup):M7 ks=ks:=by
 have:=z9G ks [] (by simpa using h)
 simpa [M7] using this
end
section
variable{prog:Program}{w:World}{A:Around}{κ:Type}[DecidableEq κ]{kd:KeyKind prog w κ}{I:Addr}{fp wr:List Addr}{G:Array GenState->Array GenState->Prop}{n:Nat}{P:Nat->Value->Prop}{St:Nat->Shared->Prop}
abbrev z6c(kd:KeyKind prog w κ)(h:Heap)(a:Addr)(ks:List κ):Prop:=h.SetOf kd a (fun k=>decide (k∈ks)) (M7 ks).length
theorem z6c.at{h h':Heap}{a:Addr}{ks:List κ}(x:z6c kd h a ks)(e:∀o,h.get? a=some o->h'.get? a=some o):z6c kd h' a ks:=by
 obtain⟨o,es,ep,t,ho,r⟩:=x
 exact⟨o,es,ep,t,e o ho,r⟩
theorem y0m{R:Result->Shared->Prop}(W:WalksS prog w A.in1 I fp wr G n P St){a:Addr}(out:a∉fp){ks:List κ}(lk:ks.length=n)
  (vals:∀i v,P i v->∃k,ks[i]? = some k/\kd.is k v=true/\v.scannable=true) (few:n+1<scanBound) :
  ∀(todo i:Nat) (s:Shared),i+todo=n->St i s->z6c kd s.heap a (ks.take i)->
   (∀s',Moved (a::wr) G s s'->z6c kd s'.heap a ks->R (.ok (.ret .none)) s')->codeAny (model prog w) A (.builtin "set.update.loop" ⟨[.ref a,.ref I],[]⟩) R s
 | 0,i,s,ei,st,sx,fin=>by
  have e:ks.take i=ks:=cP (by lia)
  rw[e] at sx
  have ei':i=n:=by lia
  subst ei'
  refine codeAny_builtin F.entry_set_update_loop ?_
  rw[cR j8 _]
  refine wpAny_bind (W.done s _ _ st fun s' mv=>wpAny_pure (fin s' (mv.mono fun b hb=>.tail _ hb) (sx.at fun o=>mv.heap a o fun q=>out (W.sub _ q))))
 | todo+1,i,s,ei,st,sx,fin=>by
  refine codeAny_builtin F.entry_set_update_loop ?_
  rw[cR j8 _]
  refine wpAny_bind (W.item i s _ _ (by lia) st fun v s1 hv st1 mv=>?_)
  obtain⟨k,ek,iv,sc⟩:=vals i v hv
  have sx1:=sx.at (h':=s1.heap) fun o=>mv.heap a o fun q=>out (W.sub _ q)
  refine wpAny_bind (wpAny_holding (m:=setAdd a v) ?_)
  unfold setAdd
  refine wpAny_holding (wpAny_bind (kd.pyHash iv ?_))
  have lm:=y21 (ks.take i)
  rw[bI] at lm
  refine wpAny_setAddHashed_of (s:={ s1 with toks:=s1.toks+1 }) iv sc sx1 (by lia) fun h2 sb sx2=>?_
  have sx3:z6c kd h2 a (ks.take (i+1)):=by
   have e1:(fun k'=>decide (k'∈ks.take i) || decide (k'=k))=fun k'=>decide (k'∈ks.take (i+1)):=by
    funext k'
    rw[eZ,ek]
    simp[Bool.decide_or]
   have e2:(if decide (k∈ks.take i)=true then (M7 (ks.take i)).length else (M7 (ks.take i)).length+1)=(M7 (ks.take (i+1))).length:=by
    rw[y3R ek]
    by_cases hk:k∈ks.take i
    ·rw[if_pos (decide_eq_true hk),if_pos (y2J.mpr hk)]
    ·rw[if_neg (by simpa using hk),if_neg (fun q=>hk (y2J.mp q)),bL]
     rfl
   rw[e1,e2] at sx2
   exact sx2
  have far:∀b,b≠a->h2.get? b=s1.heap.get? b:=fun b hb=>sb.2 b hb
  refine wpAny_pure ⟨plainId_quiet j8 _,y0m W out lk vals few todo (i+1) _ (by lia) (W.frame _ s1 _ _ st1 (hE _) fun b hb o q=>?_) sx3 fun s3 mv3 sx4=>?_⟩
  ·rw[far b fun z=>out (z ▸ hb)];exact q
  ·refine fin s3 (.trans W.gtrans ((mv.mono fun b hb=>.tail _ hb).then_heap (hE _) fun b o hb q=>?_) mv3) sx4
   rw[far b fun z=>hb (z ▸ .head _)];exact q
end
namespace Ty
theorem y5d:isSubtype (.type "tuple") (.type "set")=pure false:=by rw[isSubtype_type];kernel_rfl
theorem z9b:isSubtype (.type "tuple") (.type "frozenset")=pure false:=by rw[isSubtype_type];kernel_rfl
end Ty
abbrev R0(led:Bool):Obj:={ cls:=.type "set",dict:=none,data:=.set #[] 0 (.fresh 0 0 led) }
section
variable{prog:Program}{w:World}{A:Around}{E:Value->Shared->Prop}{s:Shared}{κ:Type}[DecidableEq κ]{kd:KeyKind prog w κ}
theorem y5Z{T:String}{p:Addr}{o:Obj}{its:Array Value}{c0:Nat}{ks:List κ}{Q:Value->Shared->Prop}(hh:A.handled=none)(hp:s.heap.get? p=some o)(hc:o.cls=.type T)(hd:o.data=.seq its c0)(hT:T="list"\/T="tuple")
  (lk:ks.length=its.size) (vals:∀(i:Nat) v,its[i]? = some v->∃k,ks[i]? = some k/\kd.is k v=true/\v.scannable=true) (few:its.size+1<scanBound)
  (fin:∀(h':Heap) (t:Nat),z6c kd h' s.heap.objs.size ks->(∀b u,b<s.heap.objs.size->s.heap.get? b=some u->h'.get? b=some u)->Q (.ref s.heap.objs.size) { s with heap:=h',toks:=t }) :
  wpAny (model prog w) A (call (.type "set") [.ref p]) Q E s:=by
 obtain⟨c,tl,hmro⟩:=fR.mro
 have g1:=fR.made
 have g2:=fR.sub
 refine wpAny_call (codeAny_of_tree (wpAny_pure ⟨Code.quiet_builtin _ (by decide +kernel),codeAny_builtin F.entry_type_call ?_⟩))
 rw[Around.under_plain (weight_type_call_type "set" [.ref p] []) rfl]
 have g3:=fR.notType
 have g4:=fR.canCreate
 have g5:=F.typeCall_set_1 (.ref p)
 repeat (any_goals (first|assumption|wp_step))
 refine codeAny_mono (code_set_new_1 (.ref p) (E:=E) (Q₁:=fun u s1=>∃led,u=.ref s.heap.objs.size/\s1={ s with heap:=s.heap.push (R0 led) }) fun led=>⟨led,rfl,rfl⟩) fun r s1 q1=>?_
 rcases r with e|(_|_|_|u)
 all_goals try exact q1.elim
 all_goals try exact q1
 obtain⟨led,rfl,rfl⟩:=q1
 have at1:(s.heap.push (R0 led)).get? s.heap.objs.size=some (R0 led):=bK _ rfl
 have ty1:Shared.TypeIs { s with heap:=s.heap.push (R0 led) } (.ref s.heap.objs.size) "set":=⟨_,at1,rfl⟩
 have g6:=fR.init.lookup
 have g7:=fR.init.bind (.ref s.heap.objs.size)
 repeat (any_goals (first|assumption|wp_step))
 refine codeAny_mono (codeAny_call_builtin (R:=wants (fun r s2=>r=.none/\∃h' t,s2={ s with heap:=h',toks:=t }/\z6c kd h' s.heap.objs.size ks/\∀b u,b<s.heap.objs.size->s.heap.get? b=some u->h'.get? b=some u) E)
  fR.init.plain F.entry_set_init (check_set_init_1 ty1 ?_)) fun r s2 q2=>?_
 case _=>
  have hpS:p<s.heap.objs.size:=bQ hp
  obtain⟨oc,od,oa,os⟩:=o
  simp only at hc hd
  subst hc;subst hd
  have hp1:(s.heap.push (R0 led)).get? p=some { cls:=.type T,dict:=od,data:=.seq its c0,slots:=os }:=bB _ hp
  have f1:isSubtype (.type T) (.type "set")=pure false:=by rcases hT with rfl|rfl<;>first|exact F.sub_list_set|exact Ty.y5d
  have f2:isSubtype (.type T) (.type "frozenset")=pure false:=by rcases hT with rfl|rfl<;>first|exact F.sub_list_frozenset|exact Ty.z9b
  have f3:(Value.type T == Value.type "dict")=false:=by rcases hT with rfl|rfl<;>decide
  have hh3:A.in1.in1.in1.handled=none:=by simp[hh]
  have sz:(s.heap.push (R0 led)).objs.size=s.heap.objs.size+1:=eI _ _
  have apart:p≠(s.heap.push (R0 led)).objs.size:=by rw[sz];exact cL (fN hpS)
  have out:s.heap.objs.size∉[(s.heap.push (R0 led)).objs.size,p]:=by rw[sz,bF,bC];exact fun z=>z.elim (cL (h8 _)) (eY hpS)
  have z6g:∀x:Obj,z6c kd ((s.heap.push (R0 led)).push x) s.heap.objs.size (ks.take 0):=fun x=>by
   have z:=(setObjOf_fresh (knd:=kd) led).setOf (bB x at1) (by unfold scanBound;lia)
   have e:(fun k:κ=>decide (k∈ks.take 0))=fun _=>false:=by funext k;simp
   show Heap.SetOf kd _ _ (fun k=>decide (k∈ks.take 0)) _
   rw[e]
   exact z
  have ends:∀(x:Obj) (s':Shared),Moved [s.heap.objs.size,(s.heap.push (R0 led)).objs.size] (fun a b=>b=a) { s with heap:=(s.heap.push (R0 led)).push x } s'->z6c kd s'.heap s.heap.objs.size ks->
    ∃h' t,s'={ s with heap:=h',toks:=t }/\z6c kd h' s.heap.objs.size ks/\∀b u,b<s.heap.objs.size->s.heap.get? b=some u->h'.get? b=some u:=fun x s' mv sx=>by
   obtain⟨h',g',d',t',o'⟩:=s'
   obtain rfl:g'=s.gens:=mv.gens
   obtain rfl:d'=s.drawn:=mv.drawn
   obtain rfl:o'=s.os:=mv.os
   exact⟨h',t',rfl,sx,fun b u hb q=>mv.heap b u (by rw[sz,bF,bC];exact fun z=>z.elim (cL hb) (cL (fN hb))) (bB _ (bB _ q))⟩
  unfold Builtin.«set.__init__» noKeywords Builtin.Frozenset.updateFrom
  generalize hPI:pyIter=PI
  wp_walk
  subst hPI
  rcases hT with rfl|rfl
  ·have hl:(s.heap.push (R0 led)).IsList p its:=⟨_,hp1,rfl,c0,rfl⟩
   refine wpAny_pyIter_list hl (wpAny_bind (wpAny_runValue ?_))
   refine y0m (kd:=kd) ((Walks.list hh3 _ p apart its).toS) out lk vals few its.size 0 _ (kK _) ⟨⟨_,bK _ rfl,rfl,rfl⟩,hl.push _⟩ (z6g _) fun s' mv sx=>?_
   exact wpAny_pure (wpAny_pure ⟨rfl,ends _ s' mv sx⟩)
  ·have hl:(s.heap.push (R0 led)).IsTuple p its:=⟨_,hp1,rfl,c0,rfl⟩
   refine wpAny_pyIter_tuple hl (wpAny_bind (wpAny_runValue ?_))
   refine y0m (kd:=kd) ((Walks.tuple hh3 _ p apart its).toS) out lk vals few its.size 0 _ (kK _) ⟨⟨_,bK _ rfl,rfl,rfl⟩,hl.push _⟩ (z6g _) fun s' mv sx=>?_
   exact wpAny_pure (wpAny_pure ⟨rfl,ends _ s' mv sx⟩)
 ·rcases r with e|(_|_|_|u)
  all_goals try exact q2.elim
  all_goals try exact q2
  obtain⟨rfl,h',t,rfl,sx,kp⟩:=q2
  repeat (any_goals (first|assumption|wp_step))
  exact fin _ _ sx kp
end
section
variable{X:Cx}
noncomputable def S0(P:Program)(w:World)(a:Addr)(zs:List Str):HO:=.ext fun h=>z6c (strKind P w) h a zs
theorem S0.new{P:Program}{w:World}{H:Hp}{h:Heap}{a:Addr}{zs:List Str}(x:z6c (strKind P w) h a zs):z1L P w H h a (S0 P w a zs):=by
 refine⟨x,?_,fun h1 h2 y e=>z6c.at y e⟩
 obtain⟨o,_,_,_,e,_⟩:=x
 exact⟨o,e⟩
theorem y2a:∀{zs:List Str}{us:List Value},Vals (zs.map V.str) us->∀(i:Nat) (v:Value),us[i]? = some v->∃(k:Str) (t:Tok),zs[i]? = some k/\v=.str k t
 | [],_,.nil,i,v,h=>by simp at h
 | z::zs,u::us,.cons r rs,0,v,h=>by
  simp at h
  subst h
  obtain⟨t,rfl⟩:=r
  exact⟨z,t,rfl,rfl⟩
 | z::zs,u::us,.cons r rs,i+1,v,h=>by
  simp at h
  obtain⟨k,t,a,b⟩:=y2a rs i v h
  exact⟨k,t,by simpa using a,b⟩
theorem z5h(hc:X.calm=true):z3R X (.type "set") (fun xs H Q=>∃p zs,xs=[.ref p]/\(SqL X.K H p (zs.map V.str)\/SqT X.K H p (zs.map V.str))/\zs.length≤1000/\∀l,H l=none->Q (.ref l) (upd H l (S0 X.prog X.w l zs))):=by
 intro pins s σ H xs us Q I r h
 obtain⟨p,zs,rfl,hq,hl,q⟩:=h
 obtain⟨u,rfl,rx⟩:=z4y r
 cases rx
 have go:∀(T:String) (o:Obj) (its:List Value) (c0:Nat),s.heap.get? p=some o->o.cls=.type T->o.data=.seq its.toArray c0->(T="list"\/T="tuple")->Vals (zs.map V.str) its->wpAny (model X.prog X.w) X.A (call (.type "set") [.ref p]) (EP X pins σ Q) X.xe s:=
  fun T o its c0 ho hcl hda hT rv=>by
   have ln:zs.length=its.length:=by have:=rv.length;rwa [bA] at this
   refine y5Z (kd:=strKind X.prog X.w) (ks:=zs) (I.ok.hd hc) ho hcl hda hT (by simpa using ln) (fun i v hv=>?_) (by simp[scanBound];lia) fun h' t sx kp=>?_
   ·obtain⟨k,t,a,rfl⟩:=y2a rv i v (by simpa using hv)
    exact⟨k,a,strKind_is _ _ _ _,rfl⟩
   ·refine⟨.ref s.heap.objs.size,_,I.laid (a:=s.heap.objs.size) (o:=S0 X.prog X.w s.heap.objs.size zs) (h':=h') (t':=t) (fun b u q1=>kp b u (bQ q1) q1) (bJ _) (S0.new sx),rfl,q _ (I.hok.fresh (bJ _))⟩
 rcases hq with hq|hq
 ·obtain⟨its,rv,pl,_⟩:=I.list hq
  obtain⟨o,ho,hcl,n,hda⟩:=pl.isList
  exact go "list" o its n ho hcl hda (.inl rfl) rv
 ·obtain⟨its,rv,pl,_⟩:=I.tuple hq
  obtain⟨o,ho,hcl,n,hda⟩:=pl
  exact go "tuple" o its n ho hcl hda (.inr rfl) rv
theorem z6n:z3R X (.builtin "len") (fun xs H Q=>∃p zs,xs=[.ref p]/\H p=some (S0 X.prog X.w p zs)/\zs.length≤1000/\Q (.int (M7 zs).length) H):=by
 intro pins s σ H xs us Q I r h
 obtain⟨p,zs,rfl,hp,hl,q⟩:=h
 obtain⟨u,rfl,rx⟩:=z4y r
 cases rx
 obtain⟨⟨o,es,ep,t,e1,e2,e3,_,_,_,e4,e5⟩,_⟩:=(show z1L X.prog X.w H s.heap p (S0 X.prog X.w p zs) from I.hok p _ hp)
 have:=y21 zs
 exact PySem.call_len_set e1 e2 e3 e4 (by lia) ⟨.int (M7 zs).length,H,I.tok _,⟨s.toks+1,by rw[e5]⟩,q⟩
end
section
variable{κ:Type}[DecidableEq κ]
noncomputable def L5(kvs:List (κ×V))(k:κ):Option V:=(kvs.find? fun kv=>decide (kv.1=k)).map (·.2)
noncomputable def putK(kvs:List (κ×V))(k:κ)(v:V):List (κ×V):=
 if (kvs.any fun kv=>decide (kv.1=k))=true then kvs.map (fun kv=>if kv.1=k then (kv.1,v) else kv) else kvs++[(k,v)]
theorem z6v{p:κ×V}{r:List (κ×V)}{k:κ}(e:p.1=k):L5 (p::r) k=some p.2:=by simp[L5,dW,e]
theorem z6x{p:κ×V}{r:List (κ×V)}{k:κ}(e:¬p.1=k):L5 (p::r) k=L5 r k:=by simp[L5,dW,e]
theorem z81(k:κ):∀kvs:List (κ×V),(kvs.any fun kv=>decide (kv.1=k))=(L5 kvs k).isSome
 | []=>rfl
 | p::r=>by
  rw[gM]
  by_cases e:p.1=k
  ·simp only[z6v e,decide_eq_true e,Bool.true_or,Option.isSome_some]
  ·rw[z6x e,decide_eq_false e,Bool.false_or];exact z81 k r
theorem z8Z(kvs:List (κ×V))(k:κ)(v:V):(putK kvs k v).length≤kvs.length+1:=by
 unfold putK
 split
 ·rw[bA];lia
 ·rw[bL,cN,jU];lia
theorem y2G{kvs:List (κ×V)}{k:κ}(v:V)(h:L5 kvs k=none):putK kvs k v=kvs++[(k,v)]:=by
 unfold putK
 rw[z81,h]
 exact if_neg (by decide)
theorem P0.R3{o:Option V}{u:Option Value}(r:P0 o u):o.isSome=u.isSome:=by
 cases o with
 | none=>cases u with
  | none=>rfl
  | some _=>exact(show False from r).elim
 | some _=>cases u with
  | none=>exact(show False from r).elim
  | some _=>rfl
theorem KV.val{kvs:List (κ×V)}{vs:List (κ×Value)}(r:KV kvs vs)(k:κ):P0 (L5 kvs k) (valueAt vs k):=by
 unfold KV at r
 induction r with
 | nil=>exact True.intro
 | @cons p q ps qs h t ih=>
  obtain⟨h1,h2⟩:=h
  by_cases e:p.1=k
  ·have e':q.1=k:=h1.symm.trans e
   have b:valueAt (q::qs) k=some q.2:=by simp[valueAt,dW,e']
   rw[z6v e,b];exact h2
  ·have e':¬q.1=k:=fun z=>e (h1.trans z)
   have b:valueAt (q::qs) k=valueAt qs k:=by simp[valueAt,dW,e']
   rw[z6x e,b];exact ih
theorem KV.any{kvs:List (κ×V)}{vs:List (κ×Value)}(r:KV kvs vs)(k:κ):(kvs.any fun kv=>decide (kv.1=k))=vs.any fun kv=>decide (kv.1=k):=by
 unfold KV at r
 induction r with
 | nil=>rfl
 | cons h t ih=>rw[gM,gM,ih,h.1]
theorem KV.w0s{kvs:List (κ×V)}{vs:List (κ×Value)}(r:KV kvs vs)(k:κ){y:V}{u:Value}(ry:RelV y u) :
  KV (kvs.map fun kv=>if kv.1=k then (kv.1,y) else kv) (vs.map fun kv=>if kv.1=k then (kv.1,u) else kv):=by
 unfold KV at r ⊢
 induction r with
 | nil=>exact .nil
 | @cons p q ps qs h t ih=>
  rw[cV,cV]
  refine .cons ?_ ih
  obtain⟨h1,h2⟩:=h
  by_cases e:p.1=k
  ·rw[if_pos e,if_pos (h1.symm.trans e)];exact⟨h1,ry⟩
  ·rw[if_neg e,if_neg (fun z=>e (h1.trans z))];exact⟨h1,h2⟩
theorem KV.put{kvs:List (κ×V)}{vs:List (κ×Value)}(r:KV kvs vs)(k:κ){y:V}{u:Value}(ry:RelV y u):KV (putK kvs k y) (stored vs k u):=by
 unfold putK stored
 rw[r.any k]
 by_cases e:(vs.any fun kv=>decide (kv.1=k))=true
 ·rw[if_pos e,if_pos e];exact r.w0s k ry
 ·rw[if_neg e,if_neg e];exact hU r ⟨rfl,ry⟩
theorem KV.keys{kvs:List (κ×V)}{vs:List (κ×Value)}(r:KV kvs vs):kvs.map (·.1)=vs.map (·.1):=by
 unfold KV at r
 induction r with
 | nil=>rfl
 | cons h t ih=>rw[cV,cV,ih,h.1]
theorem KV.length{kvs:List (κ×V)}{vs:List (κ×Value)}(r:KV kvs vs):kvs.length=vs.length:=Paired.length r
end
theorem y4U{P:Program}{w:World}{k:Key}{u:Value}(r:RelV (kV k) u):(z1H P w).is k u=true:=by
 cases k with
 | inl i=>obtain⟨t,e⟩:=(show ∃t,u=Value.int i t from r);subst e;exact y1T P w i t
 | inr x=>obtain⟨t,e⟩:=(show ∃t,u=Value.str x t from r);subst e;exact y1B P w x t
theorem y12{P:Program}{w:World}:∀{ks:List Key}{us:List Value},Vals (ks.map kV) us->ItemsAre (z1H P w) ks us
 | [],_,r=>by rw[List.map_nil] at r;cases r;exact .nil
 | k::ks,_,r=>by
  rw[cV] at r
  cases r with
  | cons h t=>exact .cons (y4U h) (y12 t)
abbrev KT(H:Hp):List (List Key×V)->List (List Key×Addr×Value)->Prop:=Paired fun p q=>p.1=q.1/\H q.2.1=some (.tup (p.1.map kV))/\RelV p.2 q.2.2
theorem KT.val{H:Hp}{kvs:List (List Key×V)}{xs:List (List Key×Addr×Value)}(r:KT H kvs xs)(k:List Key):P0 (L5 kvs k) ((atKey xs k).map (·.2)):=by
 induction r with
 | nil=>exact True.intro
 | @cons p q ps qs h t ih=>
  obtain⟨h1,_,h2⟩:=h
  by_cases e:p.1=k
  ·have e':q.1=k:=h1.symm.trans e
   have b:atKey (q::qs) k=some q.2:=by simp[atKey,dW,e']
   rw[z6v e,b];exact h2
  ·have e':¬q.1=k:=fun z=>e (h1.trans z)
   have b:atKey (q::qs) k=atKey qs k:=by simp[atKey,dW,e']
   rw[z6x e,b];exact ih
theorem KT.w0s{H:Hp}{kvs:List (List Key×V)}{xs:List (List Key×Addr×Value)}(r:KT H kvs xs)(k:List Key){y:V}{u:Value}(ry:RelV y u) :
  KT H (kvs.map fun kv=>if kv.1=k then (kv.1,y) else kv) (xs.map (putAt k u)):=by
 induction r with
 | nil=>exact .nil
 | @cons p q ps qs h t ih=>
  rw[cV,cV]
  refine .cons ?_ ih
  obtain⟨h1,h2,h3⟩:=h
  unfold putAt
  by_cases e:p.1=k
  ·rw[if_pos e,if_pos (h1.symm.trans e)];exact⟨h1,h2,ry⟩
  ·rw[if_neg e,if_neg (fun z=>e (h1.trans z))];exact⟨h1,h2,h3⟩
theorem KT.put{H:Hp}{kvs:List (List Key×V)}{xs:List (List Key×Addr×Value)}(r:KT H kvs xs)(k:List Key){b:Addr}{y:V}{u:Value}(hb:H b=some (.tup (k.map kV)))(ry:RelV y u) :
  KT H (putK kvs k y) (storedH xs k b u):=by
 have e:(kvs.any fun kv=>decide (kv.1=k))=(atKey xs k).isSome:=by
  rw[z81,(r.val k).R3,Option.isSome_map]
 unfold putK storedH
 rw[e]
 by_cases q:(atKey xs k).isSome=true
 ·rw[if_pos q,if_pos q];exact r.w0s k ry
 ·rw[if_neg q,if_neg q];exact hU r ⟨rfl,hb,ry⟩
theorem KT.keeps{H H':Hp}{kvs:List (List Key×V)}{xs:List (List Key×Addr×Value)}(r:KT H kvs xs)(ht:∀b ys,H b=some (.tup ys)->H' b=some (.tup ys)):KT H' kvs xs:=
 Paired.T8 r fun _ _ z=>⟨z.1,ht _ _ z.2.1,z.2.2⟩
section
variable{P:Program}{w:World}{H:Hp}{h:Heap}{a:Addr}
theorem y8k{u:HO}(ok:HOk P w H h)(e:Rd H a u):z1L P w H h a u:=e.ok ok
theorem y5V{kvs:List (Key×V)}(ok:HOk P w H h)(e:Rd H a (.dK kvs)):kvs.length≤sizeLine/\(a == sysModules)=false/\∃vs,KV kvs vs/\h.DictOf (z1H P w) a vs:=
 show z1L P w H h a (.dK kvs) from y8k ok e
theorem y8J{kvs:List (Key×V)}(ok:HOk P w H h)(e:H a=some (.dK kvs)):kvs.length≤sizeLine/\(a == sysModules)=false/\∃vs,KV kvs vs/\h.DictOf (z1H P w) a vs:=y5V ok (.inl e)
theorem y25{ks:List Key}(ok:HOk P w H h)(e:H a=some (.tup (ks.map kV))):(tupleKind (z1H P w)).is h ks a:=by
 obtain⟨_,its,r,o,h1,h2,⟨n,h3⟩,_⟩:=(show z1L P w H h a (.tup (ks.map kV)) from ok a _ e)
 exact⟨o,its.toArray,n,h1,h2,h3,by simpa using y12 r⟩
theorem y5M{kvs:List (List Key×V)}(ok:HOk P w H h)(e:Rd H a (.dT kvs)):kvs.length≤sizeLine/\(a == sysModules)=false/\
  ∃xs,KT H kvs xs/\h.DictOfH (tupleKind (z1H P w)) a xs:=by
 obtain⟨z,y,xs,r,o,es,ep,h1,h2,h3,h4,h5⟩:=(show z1L P w H h a (.dT kvs) from y8k ok e)
 refine⟨z,y,xs,r,o,es,ep,h1,h2,h3,h4,fun x hx=>?_,h5⟩
 have all:∀{l:List (List Key×V)}{m:List (List Key×Addr×Value)},KT H l m->∀x∈m,(tupleKind (z1H P w)).is h x.1 x.2.1:=by
  intro l m q
  induction q with
  | nil=>intro x hx;exact nomatch hx
  | @cons p q ps qs hq t ih=>
   intro x hx
   rcases bF.mp hx with e|hx
   ·subst e
    exact y25 ok (by rw[<- hq.1];exact hq.2.1)
   ·exact ih x hx
 exact all r x hx
theorem w1s{kvs:List (List Key×V)}(ok:HOk P w H h)(e:H a=some (.dT kvs)):kvs.length≤sizeLine/\(a == sysModules)=false/\
  ∃xs,KT H kvs xs/\h.DictOfH (tupleKind (z1H P w)) a xs:=y5M ok (.inl e)
end
noncomputable def N5(H:Hp)(a:Addr)(y:V)(r:Option V):Prop:=
 (∃kvs k,Rd H a (.dK kvs)/\y=kV k/\r=L5 kvs k)\/∃kvs k b,Rd H a (.dT kvs)/\y=.ref b/\H b=some (.tup (k.map kV))/\r=L5 kvs k
noncomputable def V0(H:Hp)(a:Addr)(y v:V)(H':Hp):Prop:=
 (∃kvs k,H a=some (.dK kvs)/\y=kV k/\kvs.length<sizeLine/\H'=upd H a (.dK (putK kvs k v)))\/
 ∃kvs k b,H a=some (.dT kvs)/\y=.ref b/\H b=some (.tup (k.map kV))/\kvs.length<sizeLine/\H'=upd H a (.dT (putK kvs k v))
theorem N5.k{H:Hp}{a:Addr}{kvs:List (Key×V)}{k:Key}(e:H a=some (.dK kvs)):N5 H a (kV k) (L5 kvs k):=.inl ⟨kvs,k,.inl e,rfl,rfl⟩
theorem V0.k{H:Hp}{a:Addr}{kvs:List (Key×V)}{k:Key}{v:V}(e:H a=some (.dK kvs))(hl:kvs.length<sizeLine):V0 H a (kV k) v (upd H a (.dK (putK kvs k v))):=.inl ⟨kvs,k,e,rfl,hl,rfl⟩
section
variable{X:Cx}{pins:List (Addr×Obj)}{σ:St}{H:Hp}{s:Shared}{a:Addr}{y v:V}{u r:Value}{o:Option V}{A:Around}{E:Value->Shared->Prop}
theorem Inv.big(I:Inv X pins σ H s):sysModules<s.heap.objs.size:=by
 have h:mainGlobals<s.heap.objs.size:=(I.mod.glob.keeps I.bk).lt
 exact Nat.lt_trans (by decide) h
theorem y3T{Q:Value->Shared->Prop}(hu:A.units+1<cLine)(I:Inv X pins σ H s)(g:N5 H a y (some v))(ry:RelV y u)(h:∀w' s',Inv X pins σ H s'->RelV v w'->Q w' s') :
  wpAny (model X.prog X.w) A (getItem (.ref a) u) Q E s:=by
 rcases g with ⟨kvs,k,e,ey,l⟩|⟨kvs,k,b,e,ey,eb,l⟩
 ·subst ey
  obtain⟨z,hd,vs,rel,dd⟩:=y5V I.hok e
  obtain⟨w',hw,rw'⟩:=P0.some_of (v:=v) (o:=valueAt vs k) (by rw[l];exact rel.val k)
  exact wpAny_getItem_of (y4U ry) dd.mapOf hw (h w' _ (I.tok _) rw')
 ·subst ey
  cases (show u=Value.ref b from ry)
  obtain⟨z,hd,xs,rel,dd⟩:=y5M I.hok e
  obtain⟨w',hw,rw'⟩:=P0.some_of (v:=v) (o:=(atKey xs k).map (·.2)) (by rw[l];exact rel.val k)
  obtain⟨p,hp,hp2⟩:=bY.mp hw
  refine wpAny_getItem_heap (tupleKind_room_in1 hu) (y25 I.hok eb) dd hp ?_
  rw[hp2]
  exact h w' _ (I.tok _) rw'
theorem d_in{Q:Value->Shared->Prop}(hu:A.units+1<cLine)(I:Inv X pins σ H s)(g:N5 H a y o)(ry:RelV y u)(h:∀s',Inv X pins σ H s'->Q (.bool o.isSome) s') :
  wpAny (model X.prog X.w) A (compareOp .In u (.ref a)) Q E s:=by
 rcases g with ⟨kvs,k,e,ey,l⟩|⟨kvs,k,b,e,ey,eb,l⟩
 ·subst ey
  obtain⟨z,hd,vs,rel,dd⟩:=y5V I.hok e
  refine wpAny_in_of (y4U ry) hd dd.mapOf ?_
  rw[<- (rel.val k).R3,<- l]
  exact h _ (I.tok _)
 ·subst ey
  cases (show u=Value.ref b from ry)
  obtain⟨z,hd,xs,rel,dd⟩:=y5M I.hok e
  refine wpAny_in_heap (tupleKind_room_in1 hu) (y25 I.hok eb) hd dd ?_
  have q:=(rel.val k).R3
  rw[Option.isSome_map] at q
  rw[<- q,<- l]
  exact h _ (I.tok _)
theorem y4W{h':Heap}{t':Nat}{ob:HO}(I:Inv X pins σ H s)(mu:Mut (H a))(hs:Heap.SameBut a s.heap h')(he:∃q,h'.get? a=some q)(new:z1L X.prog X.w (upd H a ob) h' a ob) :
  Inv X pins σ (upd H a ob) { s with heap:=h',toks:=t' }:=
 I.write (x:=a) (e:=a) mu (.inl rfl) (fun b q hb z=>(hs.2 b hb).trans z) he new
theorem y6M{P:Program}{w:World}{H':Hp}{h':Heap}{kvs:List (Key×V)}{vs:List (Key×Value)}(z:kvs.length≤sizeLine)(hd:(a == sysModules)=false)(rel:KV kvs vs)(dd:h'.DictOf (z1H P w) a vs) :
  z1L P w H' h' a (.dK kvs):=⟨z,hd,vs,rel,dd⟩
theorem y4D{H':Hp}{Q:Unit->Shared->Prop}(hu:A.units+1<cLine)(I:Inv X pins σ H s)(g:V0 H a y v H')(ry:RelV y u)(rv:RelV v r)(h:∀s',Inv X pins σ H' s'->Q () s') :
  wpAny (model X.prog X.w) A (setItem (.ref a) u r) Q E s:=by
 rcases g with ⟨kvs,k,e,ey,l,eH⟩|⟨kvs,k,b,e,ey,eb,l,eH⟩
 ·subst ey eH
  obtain⟨z,hd,vs,rel,dd⟩:=y8J I.hok e
  have hz:vs.length≤sizeLine:=by rw[<- rel.length];exact z
  have hl:(putK kvs k v).length≤sizeLine:=by have:=z8Z kvs k v;lia
  refine wpAny_setItem_pairs (hsz:=hz) (y4U ry) dd fun h' dd' hs=>h _ ?_
  have he:∃q,h'.get? a=some q:=let ⟨q,_,_,hq,_⟩:=dd';⟨q,hq⟩
  exact y4W I (by rw[e];exact True.intro) hs he (y6M hl hd (rel.put k rv) dd')
 ·subst ey eH
  cases (show u=Value.ref b from ry)
  obtain⟨z,hd,xs,rel,dd⟩:=w1s I.hok e
  have hz:xs.length≤sizeLine:=by rw[<- Paired.length rel];exact z
  have hl:(putK kvs k v).length≤sizeLine:=by have:=z8Z kvs k v;lia
  refine wpAny_setItem_heap (hsz:=hz) (tupleKind_room_in1 hu) (y25 I.hok eb) dd fun h' dd' hs=>h _ ?_
  obtain⟨q,es,ep,hq,h2,h3,h4,_,h5⟩:=dd'
  refine y4W I (by rw[e];exact True.intro) hs ⟨q,hq⟩ ⟨hl,hd,_,(rel.put k eb rv).keeps fun c ys ec=>?_,q,es,ep,hq,h2,h3,h4,h5⟩
  rw[z0l (z4x ec e (fun z=>nomatch z))]
  exact ec
end
section
variable{X:Cx}{pins:List (Addr×Obj)}{σ:St}{H:Hp}{s:Shared}{a:Addr}{kvs:List (Key×V)}{k:Key}{u:Value}{A:Around}{E:Value->Shared->Prop}
end
noncomputable def NoSl(i:Expr):Prop:=∀ov iv,subscripted i false ov iv=operate [ov,iv] (getItem ov iv)
theorem y7r{prog:Program}{w:World}{A:Around}{E:Value->Shared->Prop}{s:Shared}{env:Env}{value slice:Expr}{pos:Pos}{T id:String}{Q:Value->Shared->Prop}
  (hl:typeLookup (.type T) "__getitem__"=pure (some (.builtin id))) (hs:NoSl slice)
  (h:wpAny (model prog w) A (eval value env) (fun o s₁=>wpAny (model prog w) A (eval slice env) (fun i s₂=>s₂.TypeIs o T/\wpAny (model prog w) A (getItem o i) Q E s₂) E s₁) E s) :
  wpAny (model prog w) A (eval (.Subscript value slice pos) env) Q E s:=by
 refine Subscript_ (wpAny_mono h (fun o s₁ h₁=>wpAny_mono h₁ (fun i s₂ h₂=>?_) fun _ _ x=>x) fun _ _ x=>x)
 obtain⟨hT,h₂⟩:=h₂
 unfold subscriptTail
 refine wpAny_bind ?_
 rw[getitemInPython_of_ne hT.not_modules]
 refine wpAny_bind (wpAny_specialOf hT hl ?_)
 have fin:wpAny (model prog w) A (subscripted slice false o i) (fun r s₃=>wpAny (model prog w) A (letTemporaryGo value o r >>= fun _=>pure r) Q E s₃) E s₂:=by
  rw[hs o i]
  exact wpAny_operating (wpAny_mono h₂ (fun r s₃ h₃=>wpAny_bind (wpAny_letTemporaryGo (wpAny_pure h₃))) fun _ _ x=>x)
 first
  | exact wpAny_pure (wpAny_bind fin)
  | exact wpAny_bind (wpAny_pure (wpAny_bind fin))
  | exact wpAny_bind fin
theorem y1X{X:Cx}{pins:List (Addr×Obj)}{σ:St}{H:Hp}{s:Shared}{a:Addr}{y:V}{o:Option V}(I:Inv X pins σ H s)(g:N5 H a y o):s.TypeIs (.ref a) "dict":=by
 rcases g with ⟨kvs,k,e,_,_⟩|⟨kvs,k,b,e,_,_,_⟩
 ·obtain⟨_,_,vs,_,dd⟩:=y5V I.hok e
  exact dd.typeIs
 ·obtain⟨_,_,xs,_,dd⟩:=y5M I.hok e
  exact dd.typeIs
noncomputable def w0C(td ty:TE):TE:=fun σ H Q=>td σ H fun x H1=>ty σ H1 fun y H2=>∃a v,x=.ref a/\N5 H2 a y (some v)/\Q v H2
noncomputable def tDIn(ty td:TE):TE:=fun σ H Q=>ty σ H fun y H1=>td σ H1 fun x H2=>∃a o,x=.ref a/\N5 H2 a y o/\Q (.bl o.isSome) H2
noncomputable def w0N(td ty tv:TE):TS:=fun D σ H=>tv σ H fun v H1=>td σ H1 fun x H2=>ty σ H2 fun y H3=>∃a H4,x=.ref a/\V0 H3 a y v H4/\D.nx σ H4
section
variable{X:Cx}{o i e value:Expr}{pos pos' tpos:Pos}{td ty tv:TE}
theorem z6L(hu:X.A.units+1<cLine)(ho:PE X o td)(hi:PE X i ty)(hs:NoSl i):PE X (.Subscript o i pos) (w0C td ty):=by
 intro pins s σ H Q I h
 refine y7r PySem.F.slot_dict_getitem.lookup hs (thn (ho pins s σ H _ I h) fun u s1 ⟨x,H1,I1,rx,q1⟩=>thn (hi pins s1 σ H1 _ I1 q1) fun iv s2 hz=>?_)
 obtain⟨y,H2,I2,ry,a,v,ex,g,q2⟩:=hz
 subst ex
 obtain rfl:u=Value.ref a:=rx
 exact⟨y1X I2 g,y3T hu I2 g ry fun w' s3 I3 rw'=>⟨v,H2,I3,rw',q2⟩⟩
theorem y4d(hu:X.A.units+1<cLine)(hi:PE X i ty)(ho:PE X o td):PC X .In i o (tDIn ty td):=by
 intro pins s σ H Q I h
 refine thn (hi pins s σ H _ I h) fun iv s1 ⟨y,H1,I1,ry,q1⟩=>thn (ho pins s1 σ H1 _ I1 q1) fun u s2 hz=>?_
 obtain⟨x,H2,I2,rx,a,ov,ex,g,q2⟩:=hz
 subst ex
 obtain rfl:u=Value.ref a:=rx
 exact d_in hu I2 g ry fun s3 I3=>⟨.bl ov.isSome,H2,I3,rfl,q2⟩
theorem y1u(hu:X.A.units+1<cLine)(ho:PE X o td)(hi:PE X i ty)(hv:PE X value tv)(hs:swapsWith value (some (.Subscript o i pos')) pos.line X.env=pure false) :
  PS X (.Assign [.Subscript o i pos'] value pos) (w0N td ty tv):=by
 intro pins s σ H D I h
 refine wpAny_Assign_Subscript (thn (hv pins s σ H _ I h) fun r s1 ⟨v,H1,I1,rv,q1⟩=>thn (ho pins s1 σ H1 _ I1 q1) fun u s2 ⟨x,H2,I2,rx,q2⟩=>thn (hi pins s2 σ H2 _ I2 q2) fun iv s3 hz=>?_) hs
 obtain⟨y,H3,I3,ry,a,H4,ex,g,q3⟩:=hz
 subst ex
 obtain rfl:u=Value.ref a:=rx
 exact y4D hu I3 g ry rv fun s4 I4=>⟨σ,H4,I4,q3⟩
end
theorem y6B{P:Program}{w:World}{H:Hp}(h:Heap)(hb:sysModules<h.objs.size):z1L P w H (h.push { cls:=.type "dict",data:=.dict #[] }) h.objs.size (.dK []):=
 ⟨cW _,beq_eq_false_iff_ne.mpr (dG (cL hb)),[],.nil,Heap.DictOf.new h⟩
noncomputable def y8u:TE:=fun _ H Q=>∀p,H p=none->Q (.ref p) (upd H p (.dK []))
section
variable{X:Cx}{pos:Pos}
theorem y2j:PE X (.Dict [] [] pos) y8u:=fun pins s σ H Q I h=>
 wpAny_Dict_empty ⟨.ref s.heap.objs.size,_,I.laid (a:=s.heap.objs.size) (o:=.dK []) (t':=s.toks) (fun _ _ q=>bB _ q) (bJ _) (y6B s.heap I.big),rfl,h _ (I.hok.fresh (bJ _))⟩
end
section
variable{X:Cx}{pins:List (Addr×Obj)}{σ:St}{H:Hp}{s:Shared}{a:Addr}{y d:V}{u r:Value}{o:Option V}{A:Around}{E:Value->Shared->Prop}
end
section
variable{X:Cx}{o e f:Expr}{apos U2:Pos}{td ty tx:TE}
end
section
variable{X:Cx}{pins:List (Addr×Obj)}{σ:St}{H:Hp}{s:Shared}{a:Addr}{kvs:List (Key×V)}{A:Around}{E:Value->Shared->Prop}
end
section
variable{X:Cx}{pins:List (Addr×Obj)}{σ:St}{H:Hp}{s:Shared}{a:Addr}{y:V}{u:Value}{A:Around}{E:Value->Shared->Prop}
end
structure D9(P:Program)(w:World)(K:PySem.W.Frag)(mg:Str->Option Value)(base:Heap)(k:Nat)(C:Addr)(m:Str)(ps:List Str)(sp:Sp):Prop where
 cl:Cls K C
 ex:∃(f:Addr) (fd:FuncData),B4 P w K mg base CX0 k f fd ps sp/\z2f K fd ps []/\Meth K C m f
theorem D9.mk'{P:Program}{w:World}{K:PySem.W.Frag}{mg:Str->Option Value}{base:Heap}{k:Nat}{C:Addr}{m:Str}{ps:List Str}{sp:Sp}{f:Addr}{fd:FuncData}(c:Cls K C)(a:B4 P w K mg base CX0 k f fd ps sp)(b:z2f K fd ps [])(d:Meth K C m f) :
  D9 P w K mg base k C m ps sp:=⟨c,f,fd,a,b,d⟩
section
variable{X:Cx}{k:Nat}{C:Addr}{m x:Str}{ps:List Str}{sp:Sp}{o e:Expr}{es:List Expr}{ta:TE}{t:TA}{p pos apos:Pos}{pl:Sem Bool}
theorem z1J(G:D9 X.prog X.w X.K X.mg X.base k C m ps sp)(hr:E9 k X.A)(he:PE X o ta)(ha:PA X (e::es) t)
  (hst:starEach (e::es) X.env=(false,eval e X.env)::starEach es X.env:=by rfl) (hpl:(backTo pos (starEach es X.env)).any (·.1)=false:=by rfl)
  (ht:eval (.Call (.Attribute o m apos) (e::es) [] pos) X.env=(do
   let ov <- eval o X.env
   standAt apos.atName
   let (f,first) <- holding [ov] (getMethod ov m pl)
   callWith pos f first (backTo pos (starEach (e::es) X.env)) (backToKw pos (keywordEach [] X.env))):=by rfl) :
  PE X (.Call (.Attribute o m apos) (e::es) [] pos) (y6w C m sp [] E0 ta t):=by
 obtain⟨f,fd,a,b,d⟩:=G.ex
 exact y7P he G.cl d a hr b .nil y56 ha hst hpl ht
theorem z1C(G:D9 X.prog X.w X.K X.mg X.base k C m ps sp)(hr:E9 k X.A)(he:PE X o ta)
  (ht:eval (.Call (.Attribute o m apos) [] [] pos) X.env=(do
   let ov <- eval o X.env
   standAt apos.atName
   let (f,first) <- holding [ov] (getMethod ov m pl)
   callWith pos f first (backTo pos (starEach [] X.env)) (backToKw pos (keywordEach [] X.env))):=by rfl) :
  PE X (.Call (.Attribute o m apos) [] [] pos) (y6w C m sp [] E0 ta X3):=by
 obtain⟨f,fd,a,b,d⟩:=G.ex
 exact y6g he G.cl d a hr b .nil y56 ht
end
structure Mkr(P:Program)(w:World)(K:PySem.W.Frag)(mg:Str->Option Value)(base:Heap)(k:Nat)(C:Addr)(x:Str)(ps:List Str)(sp:Sp):Prop where
 ex:∃(f:Addr) (fd:FuncData),B4 P w K mg base CX0 k f fd ps sp/\z2f K fd ps []/\Mk K C f/\mg x=some (.ref C)
theorem Mkr.mk'{P:Program}{w:World}{K:PySem.W.Frag}{mg:Str->Option Value}{base:Heap}{k:Nat}{C:Addr}{x:Str}{ps:List Str}{sp:Sp}{f:Addr}{fd:FuncData}(a:B4 P w K mg base CX0 k f fd ps sp)(b:z2f K fd ps [])(c:Mk K C f)(d:mg x=some (.ref C)) :
  Mkr P w K mg base k C x ps sp:=⟨f,fd,a,b,c,d⟩
section
variable{X:Cx}{k:Nat}{C:Addr}{m x:Str}{ps:List Str}{sp:Sp}{o e:Expr}{es:List Expr}{ta:TE}{t:TA}{p pos apos:Pos}
theorem y5h(G:Mkr X.prog X.w X.K X.mg X.base k C x ps sp)(hr:E9 (k+1) X.A)(hg:Gl X x)(ha:PA X (e::es) t)
  (hdb:(x == ("__debug__":Str))=false:=by decide) (he:starEach (e::es) X.env=(false,eval e X.env)::starEach es X.env:=by rfl) (hpl:(backTo pos (starEach es X.env)).any (·.1)=false:=by rfl) :
  PE X (.Call (.Name x p) (e::es) [] pos) (y8R C sp [] E0 t):=by
 obtain⟨f,fd,a,b,c,d⟩:=G.ex
 exact y7w c a hr hg d b .nil y56 ha hdb he hpl
theorem z3b{n:Int}(hg:Gl X x)(hm:∃t,X.mg x=some (.int n t))(hd:(x == ("__debug__":Str))=false:=by decide):PE X (.Name x pos) (tC (.int n)):=by
 obtain⟨t,e⟩:=hm
 exact y4m hg e ⟨t,rfl⟩ hd
end
noncomputable def y75(K:PySem.W.Frag):List V->Hp->VK->Prop:=fun xs H Q=>∃p ys,xs=[.ref p]/\((SqL K H p ys/\∀l,H l=none->Q (.ref l) (upd H l (.tup ys)))\/(SqT K H p ys/\Q (.ref p) H))
section
variable{X:Cx}{K:PySem.W.Frag}
theorem z5i(h:X.K=K):z3R X (.type "tuple") (y75 K):=by
 subst h
 exact z0p
end
section
variable{X:Cx}
noncomputable def y8o(K:PySem.W.Frag)(le:Int->Int->Prop):List V->Hp->VK->Prop:=fun xs H Q=>∃p ns,xs=[.ref p]/\SqI K H p ns/\ns≠[]/\∀m,m∈ns->(∀y∈ns,le y m)->Q (.int m) H
theorem z3t(hc:X.calm=true):z3R X (.builtin "max") (y8o X.K fun y m=>y≤m):=by
 intro pins s σ H xs us Q I r h
 obtain⟨a,ns,rfl,hq,hn,q⟩:=h
 obtain⟨u,rfl,ru⟩:=z4y r
 cases ru
 refine call_max_walk (z6r (A:=X.A.in1) I (I.ok.hd hc) hq fun it fp St its s3 rv W st hfp back=>?_)
 have hl:=rv.length
 rw[bA] at hl
 have h0:0<its.length:=by
  rw[<- hl]
  exact jY.mpr hn
 refine⟨it,fp,[it],_,_,St,_,rfl,W,st,hfp,by rw[bO];exact h0,CmpOf.ints_gt (fun i=>ns.getD i 0) (z3z rv),fun v h' tk hv k=>?_⟩
 rw[bO] at hv
 obtain⟨t,rfl⟩:=z3z rv _ _ hv
 obtain⟨b1,b2⟩:=z9W (fun i=>ns.getD i 0) (its.length-1)
 refine⟨.int _,H,back h' tk k,⟨t,rfl⟩,q _ (z80 (by lia)) fun y hy=>?_⟩
 obtain⟨i,hi,rfl⟩:=z7Y hy
 exact b2 i (by lia)
theorem z91(hc:X.calm=true):z3R X (.builtin "min") (y8o X.K fun y m=>m≤y):=by
 intro pins s σ H xs us Q I r h
 obtain⟨a,ns,rfl,hq,hn,q⟩:=h
 obtain⟨u,rfl,ru⟩:=z4y r
 cases ru
 refine call_min_walk (z6r (A:=X.A.in1) I (I.ok.hd hc) hq fun it fp St its s3 rv W st hfp back=>?_)
 have hl:=rv.length
 rw[bA] at hl
 have h0:0<its.length:=by
  rw[<- hl]
  exact jY.mpr hn
 refine⟨it,fp,[it],_,_,St,_,rfl,W,st,hfp,by rw[bO];exact h0,CmpOf.ints_lt (fun i=>ns.getD i 0) (z3z rv),fun v h' tk hv k=>?_⟩
 rw[bO] at hv
 obtain⟨t,rfl⟩:=z3z rv _ _ hv
 obtain⟨b1,b2⟩:=y0e (fun i=>ns.getD i 0) (its.length-1)
 refine⟨.int _,H,back h' tk k,⟨t,rfl⟩,q _ (z80 (by lia)) fun y hy=>?_⟩
 obtain⟨i,hi,rfl⟩:=z7Y hy
 exact b2 i (by lia)
theorem y6J(hu:X.A.units<cLine):OpR X (compareOp .Eq) (fun x y H Q=>∃a b xs,x=.ref a/\y=.ref b/\SqL X.K H a xs/\SqL X.K H b []/\Q (.bl xs.isEmpty) H):=by
 intro pins s σ H x y v u Q I rx ry h
 obtain⟨a,b,xs,rfl,rfl,ha,hb,q⟩:=h
 cases rx
 cases ry
 obtain⟨its,r,pl,hz⟩:=I.list ha
 obtain⟨M1,r2,pl2,hz2⟩:=I.list hb
 cases r2
 have hl:=r.length
 cases xs with
 | nil=>
  cases r
  exact SeqAt.RcAt.lists (e:=fun _=>true) pl.isList pl2.isList rfl hu (fun j h1 _=>absurd h1 (gP _)) X.prog X.w X.xe _ ⟨.bl true,H,I,rfl,q⟩
 | cons x0 xr=>
  refine SeqAt.RcAt.lists_lengths pl.isList pl2.isList ?_ hu X.prog X.w X.xe _ ⟨.bl false,H,I,rfl,q⟩
  rw[bO,<- hl]
  rfl
end
end L2
namespace L2
open PySem
section
variable{prog:Program}{w:World}{A:Around}{E:Value->Shared->Prop}{s:Shared}{κ:Type}[DecidableEq κ]{kd:KeyKind prog w κ}{led:Bool}
end
end L2
namespace L2
open PySem PySem.Spec PyProof.Rows
namespace Ty
end Ty
section
variable{prog:Program}{w:World}{A:Around}{E:Value->Shared->Prop}{s:Shared}
end
namespace Ty
end Ty
section
variable{prog:Program}{w:World}{A:Around}{E:Value->Shared->Prop}{s:Shared}{κ:Type}[DecidableEq κ]{kd:KeyKind prog w κ}
end
section
variable{X:Cx}
end
theorem z2X:Slot "reversed" "__next__" "reversed.__next__":=
 .of (owner:="reversed") (n:="__next__") (by rw[typeLookup_type,builtinLookup_eq_fast];kernel_rfl) (by decide +kernel) (by decide +kernel) (by decide +kernel) (by first|exact .inl (by decide +kernel)|exact .inr (by decide +kernel)) (by rw[isSubtype_type];kernel_rfl)
theorem z7B:Slot "reversed" "__iter__" "reversed.__iter__":=
 .of (owner:="reversed") (n:="__iter__") (by rw[typeLookup_type,builtinLookup_eq_fast];kernel_rfl) (by decide +kernel) (by decide +kernel) (by decide +kernel) (by first|exact .inl (by decide +kernel)|exact .inr (by decide +kernel)) (by rw[isSubtype_type];kernel_rfl)
theorem y0y:Slot "reversed" "__init__" "object.__init__":=
 .of (owner:="object") (n:="__init__") (by rw[typeLookup_type,builtinLookup_eq_fast];kernel_rfl) (by decide +kernel) (by decide +kernel) (by decide +kernel) (by first|exact .inl (by decide +kernel)|exact .inr (by decide +kernel)) (by rw[isSubtype_type];kernel_rfl)
theorem z6s:entryFor table "reversed.__next__"=some Builtin.«reversed.__next__»:=entryFor_of_tree (by kernel_rfl)
theorem y06:entryFor table "reversed.__iter__"=some Builtin.«dict_keyiterator.__iter__»:=entryFor_alias (id':="dict_keyiterator.__iter__") (by kernel_rfl) (by first|rfl|decide +kernel|(unfold String.splitOn;simp +decide [String.splitOnAux])) (by decide +kernel) (by kernel_rfl)
theorem z7k(a:Value):argsOk "reversed.__next__" ⟨[a],[]⟩:=by unfold argsOk;kernel_rfl
theorem y0I(a:Value):argsOk "reversed.__iter__" ⟨[a],[]⟩:=by unfold argsOk;kernel_rfl
theorem z8N:TypeCalled "reversed" "reversed.__new__" "object.__init__":=
 ⟨by decide +kernel,by decide +kernel,⟨_,_,PySem.F.mro_reversed⟩,PySem.F.made_reversed,by decide +kernel,PySem.F.sub_reversed_self,y0y⟩
theorem z9V:typeLookup (.type "tuple") "__reversed__"=pure none:=by rw[typeLookup_type,builtinLookup_eq_fast];kernel_rfl
theorem y2T:isSubtype (.type "tuple") (.type "dict")=pure false:=by rw[isSubtype_type];kernel_rfl
abbrev y0i(t:Addr)(i:Int):Obj:={ cls:=.type "reversed",dict:=none,data:=.fields #[.ref t,rawInt i],slots:=#[] }
section
variable{prog:Program}{w:World}{A:Around}{E:Value->Shared->Prop}{s:Shared}
theorem y1C{t:Addr}{items:Array Value}{Q:Value->Shared->Prop}(ht:IsTup s.heap t items)(hf:(items.size:Int)<2^63)(h:∀tk,Q (.ref s.heap.objs.size) { s with heap:=s.heap.push (y0i t ((items.size:Int)-1)),toks:=tk }) :
  codeAny (model prog w) A (.call (.builtin "reversed.__new__") ⟨[.type "reversed",.ref t],[]⟩) (wants Q E) s:=by
 refine codeAny_of_tree ?_
 show wpAny _ A.in1 (do checkBuiltinCall "reversed.__new__" ⟨[.type "reversed",.ref t],[]⟩;again (.builtin "reversed.__new__" ⟨[.type "reversed",.ref t],[]⟩)) _ _ s
 refine wpAny_bind (wpAny_of_eq (PySem.F.newCall_reversed_1 _) (wpAny_pure ⟨plainId_quiet PySem.F.plain_reversed_new _,codeAny_builtin PySem.F.entry_reversed_new ?_⟩))
 rw[cR PySem.F.plain_reversed_new _]
 unfold Builtin.«reversed.__new__»
 refine wpAny_bind (wpAny_of_eq (newClass_reversed _) ?_)
 try dsimp only
 refine wpAny_bind (wpAny_of_eq (a:=()) (by first|rfl|kernel_rfl) ?_)
 refine wpAny_bind (wpAny_of_eq (a:=()) (by first|rfl|kernel_rfl) ?_)
 try dsimp only
 refine wpAny_bind (wpAny_specialOf ht.typeIs z9V ?_)
 try dsimp only
 refine wpAny_bind ?_
 show wpAny _ _ (isInstance (.ref t) (.type "dict") >>= fun b=>_) _ _ _
 refine wpAny_bind (wpAny_isInstance (T:="tuple") ht.typeIs y2T ?_)
 rw[if_neg (by decide)]
 refine wpAny_bind (wpAny_specialOf ht.typeIs slot_tuple_getitem.lookup ?_)
 dsimp only
 rw[if_pos (by decide +kernel)]
 refine wpAny_pure ?_
 rw[if_neg (by decide)]
 refine wpAny_bind (len_tuple ht hf ?_)
 refine wpAny_bind (wpAny_of_eq (a:=some (items.size:Int)) rfl ?_)
 dsimp only
 refine wpAny_bind ?_
 show wpAny _ _ (newObj (.type "reversed") (.fields #[.ref t,rawInt ((items.size:Int)-1)])) _ _ _
 exact wpAny_newObj_type (wpAny_pure (h _)) (by size_fits)
theorem y7o{t:Addr}{items:Array Value}{Q:Value->Shared->Prop}(ht:IsTup s.heap t items)(hf:(items.size:Int)<2^63)(h:∀tk,Q (.ref s.heap.objs.size) { s with heap:=s.heap.push (y0i t ((items.size:Int)-1)),toks:=tk }) :
  wpAny (model prog w) A (call (.type "reversed") [.ref t]) Q E s:=by
 refine callType_codes (Q₁:=fun obj s₁=>obj=.ref s.heap.objs.size/\∃tk,s₁={ s with heap:=s.heap.push (y0i t ((items.size:Int)-1)),toks:=tk }) z8N (PySem.F.typeCall_reversed_1 _) F.entry_object_init (y1C ht hf fun tk=>⟨rfl,tk,rfl⟩) ?_
 rintro obj s₁ ⟨rfl,tk,rfl⟩
 have ty:Shared.TypeIs { s with heap:=s.heap.push (y0i t ((items.size:Int)-1)),toks:=tk } (.ref s.heap.objs.size) "reversed":=⟨_,bK _ rfl,rfl⟩
 exact⟨ty,F.args_object_init_2 _ _,object_init_meets z8N.init.lookup z8N.made (by decide) _ _ _ _ _ ⟨ty,rfl,h tk⟩⟩
theorem y7W{I t:Addr}{i:Nat}{items:Array Value}{x:Value}{Q:Option Value->Shared->Prop}(hI:s.heap.get? I=some (y0i t (i:Int)))(ht:IsTup s.heap t items)(hx:items[i]? = some x)(hz:(items.size:Int)<2^63)
  (hQ:∀h' tk,h'.get? I=some (y0i t ((i:Int)-1))->Heap.SameBut I s.heap h'->Q (some x) { s with heap:=h',toks:=tk }):wpAny (model prog w) A (pyNext (.ref I)) Q E s:=by
 have ty:s.TypeIs (.ref I) "reversed":=⟨_,hI,rfl⟩
 have hi:i<items.size:=(Array.getElem?_eq_some_iff.mp hx).1
 unfold pyNext
 refine wpAny_bind (wpAny_attempt (wpAny_callSpecial?_slot (name:=Str.ofString "__next__") ty z2X
  (wpAny_call_entry z2X ty z6s ?_ (z7k _))))
 unfold Builtin.«reversed.__next__»
 refine wpAny_bind (wpAny_of_eq (a:=(Value.ref I,[])) rfl ?_)
 try dsimp only
 refine wpAny_bind (wpAny_field hI rfl (x:=.ref t) rfl ?_)
 refine wpAny_bind (wpAny_field hI rfl (x:=rawInt (i:Int)) rfl ?_)
 show wpAny _ _ (if (i:Int)<0 then _ else _) _ _ s
 rw[if_neg (by lia)]
 refine wpAny_bind (wpAny_specialOf ht.typeIs slot_tuple_getitem.lookup ?_)
 rw[if_neg (by decide)]
 refine wpAny_bind (wpAny_mkInt ?_)
 refine wpAny_bind (wpAny_attempt (getItem_tuple (j:=i) (x:=x) ht (by lia) (by lia) ?_ hx ?_))
 ·exact seqIndex_of (by lia) (by lia)
 dsimp only
 refine wpAny_bind (wpAny_field hI rfl (x:=rawInt (i:Int)) rfl ?_)
 show wpAny _ _ (setField (.ref I) 1 (rawInt ((i:Int)-1)) >>= _) _ _ _
 refine wpAny_bind (wpAny_setField hI rfl (by simp) ?_)
 refine wpAny_pure ⟨x,rfl,wpAny_pure (hQ _ _ ?_ (gB ..))⟩
 exact eM _ hI rfl
theorem y8c{I t:Addr}{Q:Option Value->Shared->Prop}(hh:A.handled=none)(hI:s.heap.get? I=some (y0i t (-1)))
  (hQ:∀h',Heap.ExtBut I s.heap h'->Q none { s with heap:=h' }):wpAny (model prog w) A (pyNext (.ref I)) Q E s:=by
 have ty:s.TypeIs (.ref I) "reversed":=⟨_,hI,rfl⟩
 unfold pyNext
 refine wpAny_bind (wpAny_attempt (wpAny_callSpecial?_slot (name:=Str.ofString "__next__") ty z2X
  (wpAny_call_entry z2X ty z6s ?_ (z7k _))))
 unfold Builtin.«reversed.__next__»
 refine wpAny_bind (wpAny_of_eq (a:=(Value.ref I,[])) rfl ?_)
 try dsimp only
 refine wpAny_bind (wpAny_field hI rfl (x:=.ref t) rfl ?_)
 refine wpAny_bind (wpAny_field hI rfl (x:=rawInt (-1)) rfl ?_)
 show wpAny _ _ (if (-1:Int)<0 then _ else _) _ _ s
 rw[if_pos (by decide)]
 refine wpAny_bind (wpAny_rule ?_)
 refine wpAny_bind ?_
 show wpAny _ _ (setField (.ref I) 1 (rawInt (-1)) >>= fun _=>setField (.ref I) 0 .none) _ _ _
 refine wpAny_bind (wpAny_setField hI rfl (by simp) ?_)
 have g1:=eM (Obj.mapFields (·.setIfInBounds 1 (rawInt (-1)))) hI rfl
 have b1:Heap.SameBut I s.heap (s.heap.update I (Obj.mapFields (·.setIfInBounds 1 (rawInt (-1))))):=gB ..
 refine wpAny_setField (vs:=#[.ref t,rawInt (-1)]) g1 rfl (by simp) ?_
 have b2:Heap.SameBut I (s.heap.update I (Obj.mapFields (·.setIfInBounds 1 (rawInt (-1))))) ((s.heap.update I (Obj.mapFields (·.setIfInBounds 1 (rawInt (-1))))).update I (Obj.mapFields (·.setIfInBounds 0 .none))):=gB ..
 refine wpAny_bind ?_
 unfold Builtin.SmallTypes.stopIteration
 refine wpAny_bind ?_
 simp only[newExc,newTuple]
 refine wpAny_bind (wpAny_newObj_type ?_ (by size_fits))
 refine wpAny_bind (m:=firstArgMember _ _) (wpAny_of_eq (a:=Value.none) (by first|rfl|(simp only[firstArgMember];rfl)) (wpAny_newObj_type ?_ (by size_fits)))
 simp only[raiseNew]
 refine wpAny_bind (wpAny_handled ?_)
 rw[show A.in1.handled=none from hh]
 refine wpAny_bind (wpAny_pure (wpAny_throw ?_))
 refine wpAny_bind (wpAny_isInstance (T:="StopIteration") (b:=true) ⟨_,bK _ rfl,rfl⟩ isSubtype_stop ?_)
 exact wpAny_pure (hQ _ fun b o hb e=>bB _ (bB _ ((b2.2 b hb).trans ((b1.2 b hb).trans e))))
theorem y42{I t:Addr}{i:Int}{Q:Value->Shared->Prop}(hI:s.heap.get? I=some (y0i t i))(h:Q (.ref I) s):wpAny (model prog w) A (pyIter (.ref I)) Q E s:=by
 have ty:s.TypeIs (.ref I) "reversed":=⟨_,hI,rfl⟩
 refine wpAny_pyIter_slot ty z7B (wpAny_call_entry z7B ty y06 ?_ (y0I _))
 show wpAny _ _ (ret (.ref I)) _ _ s
 exact wpAny_pure ⟨_,rfl,"reversed",_,ty,z2X.lookup,h⟩
end
noncomputable def Itv(K:PySem.W.Frag)(a:Addr)(n:Nat):It:=
 ⟨fun i H=>i<n/\∃xs,SqT K H a xs/\xs.length=n,fun i H x H'=>H'=H/\∀xs,SqT K H a xs->xs.reverse[i]? = some x,fun i H=>n≤i⟩
theorem y6e{P:Program}{w:World}{K:PySem.W.Frag}{tg:Expr}(a it:Addr)(n:Nat):Turn P w K tg (Itv K a n) [it] it (fun i h=>i≤n/\h.get? it=some (y0i a ((n:Int)-1-(i:Int)))) where
 mem:=by simp
 obj:=fun i h st b hb=>by
  have e:b=it:=by simpa using hb
  subst e
  exact⟨_,st.2,fun v z=>by
   have z':Data.fields _=Data.cell v:=z
   cases z'⟩
 keep:=fun i h h' st k=>⟨st.1,k it (by simp) _ st.2⟩
 item:=by
  intro X hP hw hK hc i pins s σ H E I hf st hg
  subst hP hw hK
  obtain⟨hi,xs,hq,hn⟩:=hg
  obtain⟨its,rv,p,hz⟩:=I.tuple hq
  have ln:xs.length=its.length:=rv.length
  have hk:n-1-i<xs.length:=by lia
  obtain⟨u,hu,ru⟩:=rv.get (bD hk)
  obtain⟨f0,f1,f2,f3,f4,f5⟩:=hf it (by simp)
  have e1:(n:Int)-1-(i:Int)=((n-1-i:Nat):Int):=by lia
  have st1:=st.2
  rw[e1] at st1
  refine y7W st1 (show IsTup s.heap a its.toArray from p) (x:=u) (by simpa using hu) ?_ fun h' tk st' sb=>?_
  ·have:its.toArray.size=xs.length:=by simp[ln]
   rw[this]
   have:=eS hz z8v
   lia
  have I1:Inv X pins σ H { s with heap:=h',toks:=tk }:=I.turned (t':=tk) (fun b o hb e=>(sb.2 b hb).trans e) f0 f1 f3 f4 f5
  refine⟨u,rfl,y5f (s:={ s with heap:=h',toks:=tk }) st' rfl rfl (by decide) ⟨xs[n-1-i],H,I1,ru,⟨rfl,fun ys hy=>?_⟩,⟨hi,?_⟩,fun b hb=>(hf b hb).1⟩⟩
  ·rw[I.O8 hy hq,jN (by lia),bD (by lia)]
   congr 2
   lia
  ·have e2:(n:Int)-1-((i+1:Nat):Int)=((n-1-i:Nat):Int)-1:=by lia
   rw[e2]
   exact st'
 done:=by
  intro X hP hw hK hc i pins s σ H E I hf st hg
  subst hP hw hK
  obtain⟨f0,f1,f2,f3,f4,f5⟩:=hf it (by simp)
  have hg':n≤i:=hg
  have st1:=st.2
  rw[show(n:Int)-1-(i:Int)=-1 by have:=st.1;lia] at st1
  exact y8c (I.ok.hd hc) st1 fun h' eb=>⟨rfl,I.turned (t':=s.toks) (fun b o hb e=>eb b o hb e) f0 f1 f3 f4 f5⟩
 self:=fun _ _ _ _ _ st h=>y42 st.2 h
section
variable{X:Cx}{tg:Expr}
noncomputable def iRev(K:PySem.W.Frag)(ta:TA):TI:=fun σ H R=>ta σ H fun vs H1=>∃a xs,vs=[.ref a]/\SqT K H1 a xs/\R (Itv K a xs.length) H1
theorem y7a{e:Expr}{ta:TA}{p pos:Pos}(hg:Gl X "reversed")(hm:X.mg "reversed"=none)(ha:PA X [e] ta)(hs:starEach [e] X.env=[(false,eval e X.env)]:=by rfl):PI X tg (.Call (.Name "reversed" p) [e] [] pos) (iRev X.K ta):=by
 intro pins s σ H R I h
 refine Call_ (z5l I hg hm boot_reversed (dX (thn (ha pos pins s σ H _ I h) fun us s1 ⟨vs,H1,I1,r1,q1⟩=>?_) hs rfl))
 obtain⟨a,xs,e,hq,q⟩:=q1
 subst e
 cases r1 with
 | cons r rr=>
  cases rr
  cases r
  obtain⟨its,rv,p,hz⟩:=I1.tuple hq
  have ln:(its.toArray.size:Int)=xs.length:=by simp[rv.length]
  refine y7o (show IsTup s1.heap a its.toArray from p) ?_ fun tk=>?_
  ·rw[ln]
   have:=eS hz z8v
   lia
  refine y42 (bK _ rfl) ?_
  refine⟨s1.heap.objs.size,[s1.heap.objs.size],_,_,H1,rfl,I1.kept (t':=tk) fun b o e=>bB _ e,y6e a _ xs.length,⟨cW _,?_⟩,fun b hb=>?_,q⟩
  ·rw[show(xs.length:Int)-1-((0:Nat):Int)=(its.toArray.size:Int)-1 by rw[ln];simp]
   exact bK _ rfl
  ·have e:b=s1.heap.objs.size:=by simpa using hb
   subst e
   exact I1.S5 (bJ _) (I1.hok.fresh (bJ _))
end
theorem y67{K:PySem.W.Frag}{a:Addr}{xs:List V}{g:TG}{tc:TT}{te:TE}{σ0:St}{H1:Hp}{F:List V->Hp->Prop}(Pv:Nat->List V->Hp->Prop)(h0:Pv 0 [] H1)
  (hl:∀i ys H,i≤xs.length->Pv i ys H->SqT K H a xs/\ys.length<sizeLine)
  (hs:∀i x ys H,xs.reverse[i]? = some x->Pv i ys H->z1D g tc te σ0 x H ys (Pv (i+1))) (hd:∀ys H,Pv xs.length ys H->F ys H):z9Y (Itv K a xs.length) g tc te σ0 H1 F:=by
 refine⟨fun i m ys H=>m=xs.length-i/\i≤xs.length/\Pv i ys H,⟨xs.length,by simp,cW _,h0⟩,?_⟩
 rintro i m ys H ⟨rfl,hi,p⟩
 obtain⟨q,z⟩:=hl i ys H hi p
 by_cases hlt:i<xs.length
 ·refine .inr ⟨⟨hlt,xs,q,rfl⟩,z,Pv (i+1),fun zs H' p'=>⟨xs.length-(i+1),by lia,rfl,hlt,p'⟩,fun x H' y=>?_⟩
  obtain⟨e,y⟩:=y
  subst e
  exact hs i x ys _ (y xs q) p
 ·have e:i=xs.length:=by lia
  subst e
  exact .inl ⟨bJ _,hd ys H p⟩
theorem y80{K:PySem.W.Frag}{a:Addr}{xs:List V}{g:TG}{tb:TS}{D:Ends}{σ:St}{H:Hp}(Pv:Nat->St->Hp->Prop)(h0:Pv 0 σ H)(hl:∀i σ H,i≤xs.length->Pv i σ H->SqT K H a xs)
  (hs:∀i x σ H,xs.reverse[i]? = some x->Pv i σ H->g x σ H fun σ2 H2=>tb { D with nx:=Pv (i+1),ct:=Pv (i+1),bk:=D.nx } σ2 H2) (hd:∀σ H,Pv xs.length σ H->D.nx σ H) :
  ∃W:Nat->Nat->St->Hp->Prop,(∃m,W 0 m σ H)/\∀i m σ H,W i m σ H->
   ((Itv K a xs.length).stop i H/\D.nx σ H)\/((Itv K a xs.length).go i H/\∃N:St->Hp->Prop,(∀σ' H',N σ' H'->∃m',m'<m/\W (i+1) m' σ' H')/\∀x H',(Itv K a xs.length).yld i H x H'->g x σ H' fun σ2 H2=>tb { D with nx:=N,ct:=N,bk:=D.nx } σ2 H2):=by
 refine⟨fun i m σ H=>m=xs.length-i/\i≤xs.length/\Pv i σ H,⟨xs.length,by simp,cW _,h0⟩,?_⟩
 rintro i m σ H ⟨rfl,hi',p⟩
 have q:=hl i σ H hi' p
 by_cases hlt:i<xs.length
 ·refine .inr ⟨⟨hlt,xs,q,rfl⟩,Pv (i+1),fun σ' H' p'=>⟨xs.length-(i+1),by lia,rfl,hlt,p'⟩,fun x H' y=>?_⟩
  obtain⟨e,y⟩:=y
  subst e
  exact hs i x σ _ (y xs q) p
 ·have e:i=xs.length:=by lia
  subst e
  exact .inl ⟨bJ _,hd σ H p⟩
theorem len0{us:List Value}{p:List Value->Prop}(h:us.length=0)(k:p []):p us:=by rw[eO h];exact k
theorem V6{us:List Value}{p:List Value->Prop}(h:us.length=1)(k:∀a,p [a]):p us:=by
 obtain⟨a,r,rfl⟩:=d9 h
 exact len0 (p:=fun r=>p (a::r)) (Nat.succ.inj h) (k a)
theorem Z1{us:List Value}{p:List Value->Prop}(h:us.length=2)(k:∀a b,p [a,b]):p us:=by
 obtain⟨a,r,rfl⟩:=d9 h
 exact V6 (p:=fun r=>p (a::r)) (Nat.succ.inj h) (k a)
theorem w0x{us:List Value}{p:List Value->Prop}(h:us.length=3)(k:∀a b c,p [a,b,c]):p us:=by
 obtain⟨a,r,rfl⟩:=d9 h
 exact Z1 (p:=fun r=>p (a::r)) (Nat.succ.inj h) (k a)
theorem len4{us:List Value}{p:List Value->Prop}(h:us.length=4)(k:∀a b c d,p [a,b,c,d]):p us:=by
 obtain⟨a,r,rfl⟩:=d9 h
 exact w0x (p:=fun r=>p (a::r)) (Nat.succ.inj h) (k a)
theorem len5{us:List Value}{p:List Value->Prop}(h:us.length=5)(k:∀a b c d e,p [a,b,c,d,e]):p us:=by
 obtain⟨a,r,rfl⟩:=d9 h
 exact len4 (p:=fun r=>p (a::r)) (Nat.succ.inj h) (k a)
theorem len6{us:List Value}{p:List Value->Prop}(h:us.length=6)(k:∀a b c d e f,p [a,b,c,d,e,f]):p us:=by
 obtain⟨a,r,rfl⟩:=d9 h
 exact len5 (p:=fun r=>p (a::r)) (Nat.succ.inj h) (k a)
theorem Cal.mono{P:Program}{w:World}{K:PySem.W.Frag}{mg:Str->Option Value}{base:Heap}{j k:Nat}{x:Str}{ps:List Str}{sp:Sp}(G:Cal P w K mg base j x ps sp)(h:j≤k):Cal P w K mg base k x ps sp:=by
 obtain⟨f,fd,a,b,c,d⟩:=G.ex
 exact⟨f,fd,a.mono h,b,c,d⟩
theorem D9.mono{P:Program}{w:World}{K:PySem.W.Frag}{mg:Str->Option Value}{base:Heap}{j k:Nat}{C:Addr}{m:Str}{ps:List Str}{sp:Sp}(G:D9 P w K mg base j C m ps sp)(h:j≤k):D9 P w K mg base k C m ps sp:=by
 obtain⟨f,fd,a,b,c⟩:=G.ex
 exact⟨G.cl,f,fd,a.mono h,b,c⟩
theorem Mkr.mono{P:Program}{w:World}{K:PySem.W.Frag}{mg:Str->Option Value}{base:Heap}{j k:Nat}{C:Addr}{x:Str}{ps:List Str}{sp:Sp}(G:Mkr P w K mg base j C x ps sp)(h:j≤k):Mkr P w K mg base k C x ps sp:=by
 obtain⟨f,fd,a,b,c,d⟩:=G.ex
 exact⟨f,fd,a.mono h,b,c,d⟩
theorem z22{X:Cx}{x z:Str}{pos:Pos}(hg:Gl X x)(hm:∃t,X.mg x=some (.str z t))(hd:(x == ("__debug__":Str))=false:=by decide):PE X (.Name x pos) (tC (.str z)):=by
 obtain⟨t,e⟩:=hm
 exact y4m hg e ⟨t,rfl⟩ hd
section
variable{X:Cx}
theorem z7p{P:Program}{w:World}:∀{ns:List Int}{vs:List Value},vs.length=ns.length->(∀(j:Nat) (v:Value),vs[j]? = some v->∃k:Key,(ns.map Sum.inl)[j]? = some k/\(z1H P w).is k v=true)->IntsAre vs ns
 | [],[],_,_=>.nil
 | [],_::_,h,_=>by cases h
 | _::_,[],h,_=>by cases h
 | n::ns,v::vs,h,q=>by
  obtain⟨k,e,hk⟩:=q 0 v rfl
  cases e
  rcases z1u (show y1Q (Sum.inl n) v=true from hk) with ⟨i,t,e1,rfl⟩|⟨x,t,e1,_⟩
  ·cases e1
   exact .cons n t (z7p (Nat.succ.inj h) fun j u hu=>q (j+1) u hu)
  ·cases e1
theorem y0H{prog:Program}{w:World}{A:Around}{E:Value->Shared->Prop}{s:Shared}{R:List Value->Shared->Prop}{T:String}{r d:Addr}{n:Nat}{P:Nat->Value->Prop}{OK:Heap->Prop}(K:PySem.W.KdlSrc prog w T r d n P OK)(hh:A.handled=none)(hok:OK s.heap)(hn:n≤sizeLine)
  (fin:∀(h':Heap) (tk:Nat) (acc:Array Value),(∀b o,s.heap.get? b=some o->h'.get? b=some o)->s.heap.objs.size<h'.objs.size->ItemsOf P acc n->R acc.toList { s with heap:=h',toks:=tk }):wpAny (model prog w) A (collect (.ref r)) R E s:=by
 have hlt:=K.there _ hok
 unfold collect
 refine wpAny_bind (wpAny_runValue (codeAny_builtin entry_proto_collect' ?_))
 rw[cR PySem.F.plain_proto_collect _]
 refine(show wpAny _ A.in1 (newList [] >>= fun l=>again (.builtin "list.__iadd__" ⟨[l,.ref r],[]⟩)) _ _ s from wpAny_bind (wpAny_newObj_type (wpAny_pure ⟨plainId_quiet gK _,codeAny_builtin entry_list_iadd' ?_⟩)))
 rw[cR gK _]
 have g1:(s.heap.push { cls:=.type "list",data:=.seq ([]:List Value).toArray }).get? s.heap.objs.size=some { cls:=.type "list",data:=.seq #[] }:=bK _ rfl
 have ext:=PySem.W.kdl_extend (A:=A) (s:={ s with heap:=s.heap.push { cls:=.type "list",data:=.seq ([]:List Value).toArray } })
  (R:=fun(q:Result) (s':Shared)=>∃(h':Heap) (tk:Nat) (acc:Array Value) (c':Nat),q=.ok (.ret (.ref s.heap.objs.size))/\s'={ s with heap:=h',toks:=tk }/\(∀b o,s.heap.get? b=some o->h'.get? b=some o)/\
   h'.get? s.heap.objs.size=some { cls:=.type "list",dict:=none,data:=.seq acc c',slots:=#[] }/\ItemsOf P acc n)
  K hh (K.keep _ _ hok fun b _ o e=>bB _ e) s.heap.objs.size (eY hlt.1) (eY hlt.2) (.ref s.heap.objs.size) 0 g1
  (fun h' tk acc c' k hS' so=>⟨h',tk,acc,c',rfl,rfl,fun b o e=>k b o (cL (bQ e)) (bB _ e),hS',so⟩) hn
 refine(show wpAny _ A.in1 (Builtin.List.listExtendWith (.ref s.heap.objs.size) (.ref r) (.ref s.heap.objs.size)) _ _ _ from wpAny_mono ext (fun f s' x=>?_) fun e s' x=>?_)
 ·cases f with
  | done f=>
   obtain⟨h',tk,acc,c',e,rfl,k,hS',so⟩:=x
   cases e
   exact(show wpAny _ A (load s.heap.objs.size >>= _) _ _ _ from wpAny_bind (wpAny_load hS' (wpAny_pure (fin h' tk _ k (bQ hS') so))))
  | again c1=>
   refine⟨x.1,codeAny_mono x.2 fun q s2 y=>?_⟩
   obtain⟨h',tk,acc,c',rfl,rfl,k,hS',so⟩:=y
   exact(show wpAny _ A (load s.heap.objs.size >>= _) _ _ _ from wpAny_bind (wpAny_load hS' (wpAny_pure (fin h' tk _ k (bQ hS') so))))
 ·obtain⟨_,_,_,_,e',_⟩:=x
  cases e'
theorem z4o(hc:X.calm=true):z3R X (.builtin "sorted") (fun xs H Q=>∃(p:Addr) (kvs:List (Key×V)) (ns:List Int),xs=[.ref p]/\H p=some (.dK kvs)/\kvs.map (·.1)=ns.map Sum.inl/\ns.length<64/\
  ∀(l:Addr) (ms:List Int),H l=none->ms.Perm ns->ms.Pairwise (·≤·)->Q (.ref l) (upd H l (.lst (ms.map V.int)))):=by
 intro pins s σ H xs us Q I r h
 obtain⟨p,kvs,ns,rfl,hp,hk,h64,q⟩:=h
 obtain⟨u,rfl,rx⟩:=z4y r
 cases rx
 obtain⟨_,lo,kv,rk,dd⟩:=y8J I.hok hp
 obtain⟨ep,hat⟩:=dd.dictAt
 have lk:kv.length=ns.length:=by
  have e1:=rk.length
  have e2:=congrArg List.length hk
  rw[bA,bA] at e2
  lia
 refine Calls.call_function_entry kind_sorted plain_sorted entry_sorted (args_sorted1 _) ?_
 unfold Builtin.«sorted»
 refine wpAny_bind (m:=checkCount "sorted" 1 1 _) (wpAny_pure ?_)
 refine wpAny_bind (y0H (A:=X.A.in1) (PySem.W.kdl_dict (knd:=z1H X.prog X.w) (kvs:=kv) (ep:=ep) lo) (I.ok.hd hc) hat (by rw[sizeLine_eq];lia) fun h' tk acc kp slt items=>?_)
 have hi:IntsAre acc.toList ns:=z7p (P:=X.prog) (w:=X.w) (by rw[hV,items.1,lk]) fun j v hv=>by
  obtain⟨k,x,e,ik⟩:=items.2 j v (by rw[<- Array.getElem?_toList];exact hv)
  refine⟨k,?_,ik⟩
  rw[<- hk,rk.keys,bE,e]
  rfl
 have lv:acc.toList.length<64:=by rw[IntsAre.length hi];exact h64
 refine wpAny_bind (wpAny_newList ?_ (by rw[sizeLine_eq];lia))
 have g1:(h'.push (seqObj "list" acc.toList.toArray 0)).get? h'.objs.size=some (seqObj "list" acc.toList.toArray 0):=bK _ rfl
 refine wpAny_bind (wpAny_holding (wpAny_call_entry slot_list_sort ⟨_,g1,rfl⟩ entry_list_sort (list_sort_tree g1 hi lv fun out ns' a1 a2 a3=>⟨_,rfl,?_⟩) (args_list_sort _)))
 refine wpAny_pure ⟨_,rfl,?_⟩
 obtain⟨e,he⟩:=sortedHeap_at (out:=out) g1
 have sle:s.heap.objs.size≤h'.objs.size:=dR slt
 have old:∀b o,s.heap.get? b=some o->(sortedHeap (h'.push (seqObj "list" acc.toList.toArray 0)) h'.objs.size acc.toList out).get? b=some o:=fun b o e=>by
  have hb:=bQ (kp b o e)
  rw[sortedHeap_old (cL hb) (by rw[size_push'];exact fN hb)]
  exact bB _ (kp b o e)
 refine⟨.ref h'.objs.size,_,I.laid (a:=h'.objs.size) (o:=.lst (ns'.map V.int)) (t':=tk) old sle (show z1L X.prog X.w _ _ _ (.lst (ns'.map V.int)) from⟨?_,out.toList,e,z67 a1,?_⟩),rfl,q _ ns' (I.hok.fresh sle) a2 a3⟩
 ·rw[bA,a2.length_eq,sizeLine_eq]
  lia
 ·simpa using he
end
theorem z9j:typeLookup (.type "list") "keys"=pure none:=am_miss_of_fast (by kernel_rfl)
theorem z8f:typeLookup (.type "tuple") "keys"=pure none:=am_miss_of_fast (by kernel_rfl)
theorem y0W:typeLookup (.type "list") "__getattr__"=pure none:=by rw[typeLookup_type,builtinLookup_eq_fast];kernel_rfl
theorem y0u:typeLookup (.type "tuple") "__getattr__"=pure none:=by rw[typeLookup_type,builtinLookup_eq_fast];kernel_rfl
section
variable{prog:Program}{w:World}{A:Around}{E:Value->Shared->Prop}{s:Shared}
theorem y1j{a:Addr}{items:Array Value}{n:Nat}{sl:Array (Option Value)}{u:Tok}{R:Result->Shared->Prop}(hA:A.handled=none)(ho:s.heap.get? a=some ⟨.type "list",none,.seq items n,sl⟩)(h:∀h' tk e,Heap.NewAttrErr s.heap h' e (.ref a) "keys"->R (.error (.ref e)) { s with heap:=h',toks:=tk }) :
  wpAny (model prog w) A.in1 (Builtin.«object.__getattribute__» ⟨[.ref a,.str "keys" u],[]⟩) (fun fin s'=>match fin with|.done f=>R (.ok f) s'|.again c'=>c'.quiet=true/\codeAny (model prog w) A c' R s') (fun e s'=>R (.error e) s') s:=by
 obtain⟨hp,g,d,tk,os⟩:=s
 have hT:(⟨hp,g,d,tk,os⟩:Shared).TypeIs (.ref a) "list":=⟨_,ho,rfl⟩
 have f1:=z9j
 unfold Builtin.«object.__getattribute__»
 repeat (any_goals (first|assumption|wp_step))
 exact wpAny_raiseAttrError hA h (attrMsg_fits (by decide +kernel) (by decide +kernel))
theorem y0v{a:Addr}{items:Array Value}{n:Nat}{sl:Array (Option Value)}{u:Tok}{R:Result->Shared->Prop}(hA:A.handled=none)(ho:s.heap.get? a=some ⟨.type "tuple",none,.seq items n,sl⟩)(h:∀h' tk e,Heap.NewAttrErr s.heap h' e (.ref a) "keys"->R (.error (.ref e)) { s with heap:=h',toks:=tk }) :
  wpAny (model prog w) A.in1 (Builtin.«object.__getattribute__» ⟨[.ref a,.str "keys" u],[]⟩) (fun fin s'=>match fin with|.done f=>R (.ok f) s'|.again c'=>c'.quiet=true/\codeAny (model prog w) A c' R s') (fun e s'=>R (.error e) s') s:=by
 obtain⟨hp,g,d,tk,os⟩:=s
 have hT:(⟨hp,g,d,tk,os⟩:Shared).TypeIs (.ref a) "tuple":=⟨_,ho,rfl⟩
 have f1:=z8f
 unfold Builtin.«object.__getattribute__»
 repeat (any_goals (first|assumption|wp_step))
 exact wpAny_raiseAttrError hA h (attrMsg_fits (by decide +kernel) (by decide +kernel))
theorem z9i{a:Addr}{items:Array Value}{n:Nat}{sl:Array (Option Value)}{u:Tok}{R:Result->Shared->Prop}(hA:A.handled=none)(ho:s.heap.get? a=some ⟨.type "list",none,.seq items n,sl⟩)(h:∀h' tk e,Heap.NewAttrErr s.heap h' e (.ref a) "keys"->R (.error (.ref e)) { s with heap:=h',toks:=tk }) :
  codeAny (model prog w) A (.call (.builtin "list.__getattribute__") ⟨[.ref a,.str "keys" u],[]⟩) R s:=
 codeAny_call_builtin fS.plain F.entry_list_ga (fS.check _ _ _ _ _ _ _ _ (show s.TypeIs (.ref a) "list" from⟨_,ho,rfl⟩) (F.args_list_getattribute_2 _ _) (y1j (R:=R) hA ho h))
theorem z9g{a:Addr}{items:Array Value}{n:Nat}{sl:Array (Option Value)}{Q:Option Value->Shared->Prop}(hA:A.handled=none)(ho:s.heap.get? a=some ⟨.type "list",none,.seq items n,sl⟩)(h:∀h' tk,(∀b o,s.heap.get? b=some o->h'.get? b=some o)->Q none { s with heap:=h',toks:=tk }) :
  wpAny (model prog w) A (getAttr? (.ref a) "keys") Q E s:=by
 obtain⟨hp,g,d,tk,os⟩:=s
 have hT:∀tk',(⟨hp,g,d,tk',os⟩:Shared).TypeIs (.ref a) "list":=fun _=>⟨_,ho,rfl⟩
 have f1:=sub_AttributeError
 have f3:=fS.lookup
 have f4:=fS.bind (.ref a)
 have f5:=y0W
 unfold getAttr? getAttrBy? getAttrBy
 repeat (any_goals (first|assumption|exact hT _|wp_step))
 refine z9i (s:=⟨hp,g,d,tk+1,os⟩) hA ho fun h' tk' e hx=>?_
 obtain⟨t',u',he⟩:=hx.there
 show wpAny _ _ (getattributeRaised _ _ _ _ _ _ _) _ _ _
 unfold getattributeRaised
 repeat (any_goals (first|assumption|wp_step))
 exact h _ _ hx.keeps
theorem z8I{a:Addr}{items:Array Value}{n:Nat}{sl:Array (Option Value)}{u:Tok}{R:Result->Shared->Prop}(hA:A.handled=none)(ho:s.heap.get? a=some ⟨.type "tuple",none,.seq items n,sl⟩)(h:∀h' tk e,Heap.NewAttrErr s.heap h' e (.ref a) "keys"->R (.error (.ref e)) { s with heap:=h',toks:=tk }) :
  codeAny (model prog w) A (.call (.builtin "tuple.__getattribute__") ⟨[.ref a,.str "keys" u],[]⟩) R s:=
 codeAny_call_builtin fO.plain F.entry_tuple_ga (fO.check _ _ _ _ _ _ _ _ (show s.TypeIs (.ref a) "tuple" from⟨_,ho,rfl⟩) (F.args_tuple_getattribute_2 _ _) (y0v (R:=R) hA ho h))
theorem z96{a:Addr}{items:Array Value}{n:Nat}{sl:Array (Option Value)}{Q:Option Value->Shared->Prop}(hA:A.handled=none)(ho:s.heap.get? a=some ⟨.type "tuple",none,.seq items n,sl⟩)(h:∀h' tk,(∀b o,s.heap.get? b=some o->h'.get? b=some o)->Q none { s with heap:=h',toks:=tk }) :
  wpAny (model prog w) A (getAttr? (.ref a) "keys") Q E s:=by
 obtain⟨hp,g,d,tk,os⟩:=s
 have hT:∀tk',(⟨hp,g,d,tk',os⟩:Shared).TypeIs (.ref a) "tuple":=fun _=>⟨_,ho,rfl⟩
 have f1:=sub_AttributeError
 have f3:=fO.lookup
 have f4:=fO.bind (.ref a)
 have f5:=y0u
 unfold getAttr? getAttrBy? getAttrBy
 repeat (any_goals (first|assumption|exact hT _|wp_step))
 refine z8I (s:=⟨hp,g,d,tk+1,os⟩) hA ho fun h' tk' e hx=>?_
 obtain⟨t',u',he⟩:=hx.there
 show wpAny _ _ (getattributeRaised _ _ _ _ _ _ _) _ _ _
 unfold getattributeRaised
 repeat (any_goals (first|assumption|wp_step))
 exact h _ _ hx.keeps
end
theorem z5t:entryFor table "dict.update.loop"=some Builtin.«dict.update.loop»:=entryFor_of_tree (by kernel_rfl)
theorem z2d:plainId "dict.update.loop"=true:=by decide +kernel
section
variable{prog:Program}{w:World}{A:Around}{κ:Type}[DecidableEq κ]{kd:KeyKind prog w κ}{I:Addr}{fp wr:List Addr}{G:Array GenState->Array GenState->Prop}{n:Nat}{P:Nat->Value->Prop}{St:Nat->Shared->Prop}
noncomputable def y0G(kd:KeyKind prog w κ)(h:Heap)(v:Value)(kv:κ×Value)(out:List Addr):Prop:=∃(a:Addr) (o:Obj) (T:String) (k:Value) (c:Nat),v=.ref a/\h.get? a=some o/\o.cls=.type T/\(T="list"\/T="tuple")/\o.data=.seq #[k,kv.2] c/\kd.is kv.1 k=true/\a∉out
theorem z8K{R:Result->Shared->Prop}(W:WalksS prog w A.in1 I fp wr G n P St){d:Addr}(out:d∉fp){h0:Heap}{vs:List (κ×Value)}(lk:vs.length=n)
  (vals:∀i v,P i v->∃kv,vs[i]? = some kv/\y0G kd h0 v kv (d::wr)) (few:n≤1000) :
  ∀(todo i:Nat) (s:Shared),i+todo=n->St i s->s.heap.DictOf kd d (merged [] (vs.take i))->(∀b o,b∉d::wr->h0.get? b=some o->s.heap.get? b=some o)->
   (∀s',Moved (d::wr) G s s'->s'.heap.DictOf kd d (merged [] vs)->R (.ok (.ret .none)) s')->codeAny (model prog w) A (.builtin "dict.update.loop" ⟨[.ref d,.ref I,rawInt i,.none],[]⟩) R s
 | 0,i,s,ei,st,sx,kp,fin=>by
  have e:vs.take i=vs:=cP (by lia)
  rw[e] at sx
  have ei':i=n:=by lia
  subst ei'
  refine codeAny_builtin z5t ?_
  rw[cR z2d _]
  refine wpAny_bind (W.done s _ _ st fun s' mv=>wpAny_bind (wpAny_pure (wpAny_pure (fin s' (mv.mono fun b hb=>.tail _ hb) (sx.at fun o=>mv.heap d o fun q=>out (W.sub _ q))))))
 | todo+1,i,s,ei,st,sx,kp,fin=>by
  refine codeAny_builtin z5t ?_
  rw[cR z2d _]
  refine wpAny_bind (W.item i s _ _ (by lia) st fun v s1 hv st1 mv=>?_)
  obtain⟨⟨key,y⟩,ek,a,o,T,k,c,rfl,ho,hc,hT,hd,ik,na⟩:=vals i v hv
  have sx1:=sx.at (h':=s1.heap) fun o=>mv.heap d o fun q=>out (W.sub _ q)
  have ho1:s1.heap.get? a=some o:=mv.heap a o (fun q=>na (.tail _ q)) (kp a o na ho)
  have ty:s1.TypeIs (.ref a) T:=⟨o,ho1,hc⟩
  refine wpAny_bind (wpAny_holding (m:=(Builtin.Dict.pairItems (.ref a)).tryCatch _ >>= _) (wpAny_bind (wpAny_tryCatch ?_)))
  unfold Builtin.Dict.pairItems
  refine wpAny_bind (wpAny_typeOf ty ?_)
  rw[if_pos (by rcases hT with rfl|rfl<;>decide)]
  refine wpAny_bind (wpAny_seqItems ho1 hd (wpAny_pure ?_))
  show wpAny _ _ (holding [k,y] (dictSet d k y)) _ _ _
  have lm:=merged_length_le [] (vs.take i)
  rw[bI,jU] at lm
  refine wpAny_holding (wpAny_dictSet_pairs (hsz:=by rw[sizeLine_eq];lia) ik sx1 fun h2 sx2 sb=>?_)
  rw[<- merged_take_succ [] vs i (key,y) ek] at sx2
  have far:∀b,b≠d->h2.get? b=s1.heap.get? b:=fun b hb=>sb.2 b hb
  refine wpAny_pure ⟨plainId_quiet z2d _,z8K W out lk vals few todo (i+1) _ (by lia) (W.frame _ s1 _ _ st1 (hE _) fun b hb o q=>?_) sx2 (fun b o nb q=>?_) fun s3 mv3 sx4=>?_⟩
  ·rw[far b fun z=>out (z ▸ hb)];exact q
  ·rw[far b fun z=>nb (z ▸ .head _)]
   exact mv.heap b o (fun q=>nb (.tail _ q)) (kp b o nb q)
  ·refine fin s3 (.trans W.gtrans ((mv.mono fun b hb=>.tail _ hb).then_heap (hE _) fun b o hb q=>?_) mv3) sx4
   rw[far b fun z=>hb (z ▸ .head _)];exact q
end
section
variable{prog:Program}{w:World}{A:Around}{E:Value->Shared->Prop}{s:Shared}{κ:Type}[DecidableEq κ]{kd:KeyKind prog w κ}
theorem y7x{T:String}{p:Addr}{its:Array Value}{c0:Nat}{sl:Array (Option Value)}{vs:List (κ×Value)}{Q:Value->Shared->Prop}(hh:A.handled=none)(hp:s.heap.get? p=some ⟨.type T,none,.seq its c0,sl⟩)(hT:T="list"\/T="tuple")
  (lk:vs.length=its.size) (vals:∀(i:Nat) v,its[i]? = some v->∃kv,vs[i]? = some kv/\y0G kd s.heap v kv []) (few:its.size≤1000) (nd:(vs.map (·.1)).Nodup)
  (fin:∀(h':Heap) (t:Nat),h'.DictOf kd s.heap.objs.size vs->(∀b u,s.heap.get? b=some u->h'.get? b=some u)->Q (.ref s.heap.objs.size) { s with heap:=h',toks:=t }) :
  wpAny (model prog w) A (call (.type "dict") [.ref p]) Q E s:=by
 refine callType_codes (Q₁:=fun obj s₁=>obj=.ref s.heap.objs.size/\s₁={ s with heap:=s.heap.push { cls:=.type "dict",data:=.dict #[] } }) PySem.F.kt_called_dict (PySem.F.kt_typeCall_dict_1 _) F.entry_dict_init (kt_code_dict_new _ ⟨rfl,rfl⟩) ?_
 rintro obj s₁ ⟨rfl,rfl⟩
 have w0p:(s.heap.push { cls:=.type "dict",data:=.dict #[] }).DictOf kd s.heap.objs.size []:=Heap.DictOf.new s.heap
 have hp1:(s.heap.push { cls:=.type "dict",data:=.dict #[] }).get? p=some ⟨.type T,none,.seq its c0,sl⟩:=bB _ hp
 have hpl:p<s.heap.objs.size:=bQ hp
 refine⟨w0p.typeIs,F.args_dict_init_2 _ _,?_⟩
 unfold Builtin.«dict.__init__»
 refine wpAny_bind ?_
 unfold Builtin.Dict.selfAndRest
 refine wpAny_bind (wpAny_notOrdered_dict w0p.typeIs ?_)
 show wpAny _ _ (pure (s.heap.objs.size,[Value.ref p])) _ _ _
 refine wpAny_pure ?_
 show wpAny _ _ (Builtin.Dict.updateFrom "dict.__init__" s.heap.objs.size (.ref p) [] .none) _ _ _
 unfold Builtin.Dict.updateFrom
 refine wpAny_bind (wpAny_typeOf (T:=T) ⟨_,hp1,rfl⟩ ?_)
 rw[if_pos (by rcases hT with rfl|rfl<;>decide)]
 have main:∀(h1:Heap) (tk:Nat),(∀b o,(s.heap.push { cls:=.type "dict",data:=.dict #[] }).get? b=some o->h1.get? b=some o)->
   wpAny (model prog w) A.in1.in1 (do
    rule (toString "dict.__init__"++toString ".from-pairs")
    return <- again (.builtin "dict.update.loop" ⟨[.ref s.heap.objs.size,<- pyIter (.ref p),rawInt 0,.none],[]⟩))
    (fun fin s'=>match fin with|.done f=>wants (fun r s₂=>r=.none/\Q (.ref s.heap.objs.size) s₂) E (.ok f) s'|.again c'=>c'.quiet=true/\codeAny (model prog w) A.in1 c' (wants (fun r s₂=>r=.none/\Q (.ref s.heap.objs.size) s₂) E) s')
    (fun e s'=>wants (fun r s₂=>r=.none/\Q (.ref s.heap.objs.size) s₂) E (.error e) s') { s with heap:=h1,toks:=tk }:=by
  intro h1 tk k1
  have hd1:=w0p.keep k1
  have dlt:s.heap.objs.size<h1.objs.size:=by
   obtain⟨_,_,_,e,_⟩:=hd1
   exact bQ e
  have hp2:=k1 _ _ hp1
  have apart:p≠h1.objs.size:=cL (bQ hp2)
  have out:s.heap.objs.size∉[h1.objs.size,p]:=by rw[bF,bC];exact fun z=>z.elim (cL dlt) (eY hpl)
  have hh2:A.in1.in1.handled=none:=by simp[hh]
  have nin:∀{b:Addr}{o:Obj},s.heap.get? b=some o->b∉[s.heap.objs.size,h1.objs.size]:=fun e m=>by
   have hb:=bQ e
   rcases bF.mp m with z|z
   ·exact absurd hb (by rw[z];exact dQ _)
   ·rw[bC] at z
    exact absurd (Nat.lt_trans hb dlt) (by rw[z];exact dQ _)
  have w02:∀(i:Nat) v,its[i]? = some v->∃kv,vs[i]? = some kv/\y0G kd s.heap v kv [s.heap.objs.size,h1.objs.size]:=fun i v hv=>by
   obtain⟨kv,e,a,o,T,k,c,e1,e2,e3,e4,e5,e6,_⟩:=vals i v hv
   exact⟨kv,e,a,o,T,k,c,e1,e2,e3,e4,e5,e6,nin e2⟩
  have ends:∀(x:Obj) (s':Shared),Moved [s.heap.objs.size,h1.objs.size] (fun a b=>b=a) { s with heap:=h1.push x,toks:=tk } s'->s'.heap.DictOf kd s.heap.objs.size (merged [] vs)->Q (.ref s.heap.objs.size) s':=fun x s' mv sx=>by
   obtain⟨h',g',d',t',o'⟩:=s'
   obtain rfl:g'=s.gens:=mv.gens
   obtain rfl:d'=s.drawn:=mv.drawn
   obtain rfl:o'=s.os:=mv.os
   rw[merged_nil_of_nodup vs nd] at sx
   exact fin h' t' sx fun b u q=>mv.heap b u (nin q) (bB _ (k1 _ _ (bB _ q)))
  refine wpAny_bind (wpAny_rule ?_)
  rcases hT with rfl|rfl
  ·have hl:h1.IsList p its:=⟨_,hp2,rfl,c0,rfl⟩
   refine wpAny_bind (wpAny_pyIter_list hl (wpAny_pure ⟨plainId_quiet z2d _,?_⟩))
   exact z8K (kd:=kd) ((Walks.list hh2 _ p apart its).toS) out (h0:=s.heap) lk w02 few its.size 0 _ (kK _) ⟨⟨_,bK _ rfl,rfl,rfl⟩,hl.push _⟩ (by rw[cZ];exact hd1.push _) (fun b o _ q=>bB _ (k1 _ _ (bB _ q))) fun s' mv sx=>⟨rfl,ends _ s' mv sx⟩
  ·have hl:h1.IsTuple p its:=⟨_,hp2,rfl,c0,rfl⟩
   refine wpAny_bind (wpAny_pyIter_tuple hl (wpAny_pure ⟨plainId_quiet z2d _,?_⟩))
   exact z8K (kd:=kd) ((Walks.tuple hh2 _ p apart its).toS) out (h0:=s.heap) lk w02 few its.size 0 _ (kK _) ⟨⟨_,bK _ rfl,rfl,rfl⟩,hl.push _⟩ (by rw[cZ];exact hd1.push _) (fun b o _ q=>bB _ (k1 _ _ (bB _ q))) fun s' mv sx=>⟨rfl,ends _ s' mv sx⟩
 have hh2:A.in1.in1.handled=none:=by simp[hh]
 rcases hT with rfl|rfl
 ·refine wpAny_bind (z9g hh2 hp1 fun h1 tk k1=>?_)
  exact main h1 tk k1
 ·refine wpAny_bind (z96 hh2 hp1 fun h1 tk k1=>?_)
  exact main h1 tk k1
end
section
variable{X:Cx}
noncomputable def y4I(K:PySem.W.Frag)(H:Hp)(u:V)(kv:Key×V):Prop:=∃a,u=.ref a/\(SqL K H a [kV kv.1,kv.2]\/SqT K H a [kV kv.1,kv.2])
noncomputable def SqP(K:PySem.W.Frag)(H:Hp)(p:Addr)(ys:List V):Prop:=SqL K H p ys\/H p=some (.tup ys)
noncomputable def y89(K:PySem.W.Frag):List V->Hp->VK->Prop:=fun xs H Q=>∃p ys kvs,xs=[.ref p]/\SqP K H p ys/\Paired (y4I K H) ys kvs/\ys.length≤1000/\(kvs.map (·.1)).Nodup/\∀l,H l=none->Q (.ref l) (upd H l (.dK kvs))
theorem z9L{pins:List (Addr×Obj)}{σ:St}{H:Hp}{s:Shared}(I:Inv X pins σ H s):∀{ys:List V}{kvs:List (Key×V)}{its:List Value},Paired (y4I X.K H) ys kvs->Vals ys its->
  ∃vs,KV kvs vs/\vs.length=its.length/\∀(i:Nat) v,its[i]? = some v->∃kv,vs[i]? = some kv/\y0G (z1H X.prog X.w) s.heap v kv []
 | _,_,_,.nil,.nil=>⟨[],.nil,rfl,fun i v h=>by simp at h⟩
 | _::ys,kv::kvs,_::its,.cons ⟨a,e,hq⟩ t,.cons r rr=>by
  obtain⟨vs,k1,l1,p1⟩:=z9L I t rr
  subst e
  cases r
  have go:∀(T:String) (o:Obj) (us:List Value) (c:Nat),s.heap.get? a=some o->o.cls=.type T->(T="list"\/T="tuple")->o.data=.seq us.toArray c->Vals [kV kv.1,kv.2] us->
    ∃vs',KV (kv::kvs) vs'/\vs'.length=(Value.ref a::its).length/\∀(i:Nat) v,(Value.ref a::its)[i]? = some v->∃kv,vs'[i]? = some kv/\y0G (z1H X.prog X.w) s.heap v kv []:=fun T o us c h1 h2 h3 h4 h5=>by
   obtain⟨u1,u2,rfl,r1,r2⟩:=y3V h5
   refine⟨(kv.1,u2)::vs,.cons ⟨rfl,r2⟩ k1,by rw[cN,cN,l1],fun i v hv=>?_⟩
   cases i with
   | zero=>
    simp at hv
    subst hv
    exact⟨_,rfl,a,o,T,u1,c,rfl,h1,h2,h3,by simpa using h4,y4U r1,by simp⟩
   | succ i=>exact p1 i v (by simpa using hv)
  rcases hq with hq|hq
  ·obtain⟨us,rv,pl,_⟩:=I.list hq
   obtain⟨o,ho,hcl,n,hda⟩:=pl.isList
   exact go "list" o us n ho hcl (.inl rfl) hda rv
  ·obtain⟨us,rv,pl,_⟩:=I.tuple hq
   obtain⟨o,ho,hcl,n,hda⟩:=pl
   exact go "tuple" o us n ho hcl (.inr rfl) hda rv
theorem z4N{K:PySem.W.Frag}(hK:X.K=K)(hc:X.calm=true):z3R X (.type "dict") (y89 K):=by
 subst hK
 intro pins s σ H xs us Q I r h
 obtain⟨p,ys,kvs,rfl,hq,pr,hl,nd,q⟩:=h
 obtain⟨u,rfl,rx⟩:=z4y r
 cases rx
 have go:∀(T:String) (its:List Value) (c0:Nat) (sl:Array (Option Value)),s.heap.get? p=some ⟨.type T,none,.seq its.toArray c0,sl⟩->(T="list"\/T="tuple")->Vals ys its->wpAny (model X.prog X.w) X.A (call (.type "dict") [.ref p]) (EP X pins σ Q) X.xe s:=
  fun T its c0 sl ho hT rv=>by
   obtain⟨vs,k1,l1,p1⟩:=z9L I pr rv
   have ln:ys.length=its.length:=rv.length
   refine y7x (kd:=z1H X.prog X.w) (vs:=vs) (I.ok.hd hc) ho hT (by simpa using l1) (fun i v hv=>p1 i v (by simpa using hv)) (by simp;lia) (by rw[<- k1.keys];exact nd) fun h' t dd kp=>?_
   have big:=I.big
   refine⟨.ref s.heap.objs.size,_,I.laid (a:=s.heap.objs.size) (o:=.dK kvs) (h':=h') (t':=t) kp (bJ _) (y6M ?_ ?_ k1 dd),rfl,q _ (I.hok.fresh (bJ _))⟩
   ·have:=k1.length
    rw[sizeLine_eq]
    lia
   ·exact beq_false_of_ne (eY big)
 rcases hq with hq|hq
 ·obtain⟨its,rv,pl,_⟩:=I.list hq
  obtain⟨o,n,ho,hcl,hdi,hda⟩:=pl
  obtain⟨oc,od,oa,os⟩:=o
  simp only at hcl hdi hda
  subst hcl hdi hda
  exact go "list" its n os ho (.inl rfl) rv
 ·obtain⟨_,its,rv,o,ho,hcl,⟨n,hda⟩,hdi⟩:=(show z1L X.prog X.w H s.heap p (.tup ys) from I.hok p _ hq)
  obtain⟨oc,od,oa,os⟩:=o
  simp only at hcl hdi hda
  subst hcl hdi hda
  exact go "tuple" its n os ho (.inr rfl) rv
end
noncomputable def SqS(K:PySem.W.Frag)(t:Bool)(H:Hp)(a:Addr)(xs:List V):Prop:=if t then SqL K H a xs else SqT K H a xs
theorem SqS.of{K:PySem.W.Frag}{H:Hp}{a:Addr}{xs:List V}(h:SqL K H a xs\/SqT K H a xs):∃t,SqS K t H a xs:=h.elim (fun q=>⟨true,q⟩) fun q=>⟨false,q⟩
theorem SqS.keep{K:PySem.W.Frag}{t:Bool}{H H':Hp}{a:Addr}{xs:List V}(s:B0 H H')(h:SqS K t H a xs):SqS K t H' a xs:=by
 cases t
 ·rcases(show SqT K H a xs from h) with (h|⟨o,h⟩)|h
  ·exact .inl (.inl (s _ _ h))
  ·exact .inl (.inr ⟨o,s _ _ h⟩)
  ·exact .inr h
 ·exact s.seq (show SqL K H a xs from h)
noncomputable def Its(K:PySem.W.Frag)(t:Bool)(a:Addr):It:=if t then Itl K a else Itt K a
section
variable{X:Cx}{tg:Expr}
noncomputable def iSeq(K:PySem.W.Frag)(tl:TE):TI:=fun σ H R=>tl σ H fun x H1=>∃a t,x=.ref a/\(∃xs,SqS K t H1 a xs)/\R (Its K t a) H1
theorem y5t{l:Expr}{tl:TE}(hl:PE X l tl):PI X tg l (iSeq X.K tl):=by
 intro pins s σ H R I h
 refine thn (hl pins s σ H _ I h) fun v s1 ⟨x,H1,I1,r1,q1⟩=>?_
 obtain⟨a,t,e,⟨xs,hq⟩,q⟩:=q1
 subst e
 cases r1
 cases t
 ·obtain⟨its,rv,p,hz⟩:=I1.tuple hq
  refine wpAny_pyIter_tuple (show s1.heap.IsTuple a its.toArray from p) ?_
  refine⟨s1.heap.objs.size,[s1.heap.objs.size],_,_,H1,rfl,I1.kept (t':=s1.toks) fun b o e=>bB _ e,z9w a _,⟨_,bK _ rfl,rfl,rfl⟩,fun b hb=>?_,q⟩
  have e:b=s1.heap.objs.size:=by simpa using hb
  subst e
  exact I1.S5 (bJ _) (I1.hok.fresh (bJ _))
 ·obtain⟨its,rv,p,hz⟩:=I1.list hq
  refine wpAny_pyIter_list p.isList ?_
  refine⟨s1.heap.objs.size,[s1.heap.objs.size],_,_,H1,rfl,I1.kept (t':=s1.toks) fun b o e=>bB _ e,y1h a _,⟨_,bK _ rfl,rfl,rfl⟩,fun b hb=>?_,q⟩
  have e:b=s1.heap.objs.size:=by simpa using hb
  subst e
  exact I1.S5 (bJ _) (I1.hok.fresh (bJ _))
end
theorem y2E{K:PySem.W.Frag}{t:Bool}{a:Addr}{xs:List V}{g:TG}{tc:TT}{te:TE}{σ0:St}{H1:Hp}{F:List V->Hp->Prop}(Pv:Nat->List V->Hp->Prop)(h0:Pv 0 [] H1)
  (hl:∀i ys H,i≤xs.length->Pv i ys H->SqS K t H a xs/\ys.length<sizeLine)
  (hs:∀i x ys H,xs[i]? = some x->Pv i ys H->z1D g tc te σ0 x H ys (Pv (i+1))) (hd:∀ys H,Pv xs.length ys H->F ys H):z9Y (Its K t a) g tc te σ0 H1 F:=by
 cases t
 ·exact z1A Pv h0 hl hs hd
 ·exact z3k Pv h0 hl hs hd
theorem y7Q{K:PySem.W.Frag}{t:Bool}{a:Addr}{xs:List V}{g:TG}{tb:TS}{D:Ends}{σ:St}{H:Hp}(Pv:Nat->St->Hp->Prop)(h0:Pv 0 σ H)(hl:∀i σ H,i≤xs.length->Pv i σ H->SqS K t H a xs)
  (hs:∀i x σ H,xs[i]? = some x->Pv i σ H->g x σ H fun σ2 H2=>tb { D with nx:=Pv (i+1),ct:=Pv (i+1),bk:=D.nx } σ2 H2) (hd:∀σ H,Pv xs.length σ H->D.nx σ H) :
  ∃W:Nat->Nat->St->Hp->Prop,(∃m,W 0 m σ H)/\∀i m σ H,W i m σ H->
   ((Its K t a).stop i H/\D.nx σ H)\/((Its K t a).go i H/\∃N:St->Hp->Prop,(∀σ' H',N σ' H'->∃m',m'<m/\W (i+1) m' σ' H')/\∀x H',(Its K t a).yld i H x H'->g x σ H' fun σ2 H2=>tb { D with nx:=N,ct:=N,bk:=D.nx } σ2 H2):=by
 cases t
 ·exact z4G Pv h0 hl hs hd
 ·exact z1R Pv h0 hl hs hd
section
variable{prog:Program}{w:World}{A:Around}{E:Value->Shared->Prop}
theorem y1d{it t:Addr}{items:Array Value}(hne:t≠it):∀(n i:Nat) (s:Shared) (Q:List Value->Shared->Prop),s.heap.IsListIter it t i->s.heap.IsList t items->i+n≤items.size->
  (∀h',h'.IsListIter it t (i+n)->Heap.SameBut it s.heap h'->Q ((items.toList.drop i).take n) { s with heap:=h' })->wpAny (model prog w) A (draw (.ref it) n) Q E s
 | 0,i,s,Q,hit,_,_,hQ=>by
  show wpAny _ _ (pure []) Q E s
  exact wpAny_pure (by simpa using hQ s.heap hit (Heap.SameBut.refl ..))
 | n+1,i,s,Q,hit,ht,hle,hQ=>by
  have hlt:i<items.size:=by lia
  show wpAny _ _ (pyNext (.ref it) >>= _) Q E s
  refine wpAny_bind (wpAny_pyNext_list_item hit ht (x:=items[i]) (by simp[hlt]) fun h₁ hit₁ hs₁=>?_)
  refine wpAny_bind (wpAny_holding (y1d hne n (i+1) _ _ hit₁ (ht.at fun o e=>(hs₁.2 t hne).trans e) (by lia) fun h₂ hit₂ hs₂=>wpAny_pure ?_))
  have hd:items.toList.drop i=items[i]::items.toList.drop (i+1):=by simp[List.drop_eq_getElem_cons,hlt]
  have:=hQ h₂ (by rw[show i+(n+1)=i+1+n by lia];exact hit₂) (hs₁.trans hs₂)
  rw[hd,List.take_succ_cons] at this
  exact this
theorem y1A{s:Shared}{t:Addr}{items:Array Value}{Q:List Value->Shared->Prop}(hh:A.handled=none)(ht:s.heap.IsList t items)
  (hQ:∀h',Heap.ExtBut s.heap.objs.size s.heap h'->Q items.toList { s with heap:=h' }):wpAny (model prog w) A (unpackItems (.ref t) items.size none) Q E s:=by
 have hlt:t≠s.heap.objs.size:=by obtain⟨o,ho,_⟩:=ht;exact cL (bQ ho)
 unfold unpackItems
 refine wpAny_bind ?_
 unfold notIterableAtAll
 refine wpAny_bind (wpAny_specialOf ht.typeIs PySem.F.slot_list_iter.lookup ?_)
 refine wpAny_pure ?_
 simp only[fJ,if_false]
 refine wpAny_bind (wpAny_holding (wpAny_pyIter_list ht ?_))
 refine wpAny_bind (wpAny_holding (y1d hlt items.size 0 _ _ ⟨_,bK _ rfl,rfl,rfl⟩ (ht.push _) (by lia) fun h₁ hit₁ hs₁=>?_))
 have C3:List.take items.size (List.drop 0 items.toList)=items.toList:=by
  rw[fH];exact cP (by simp)
 rw[C3]
 rw[if_neg (by simp)]
 have ht₁:h₁.IsList t items:=(ht.push _).at fun o e=>(hs₁.2 t hlt).trans e
 refine wpAny_bind (wpAny_holding (wpAny_pyNext_list_end hh hit₁ ht₁ (by simp) fun h₂ he₂=>?_))
 simp only[Option.isSome_none,fJ,if_false]
 exact wpAny_pure (hQ h₂ fun b o hb e=>he₂ b o hb (hs₁.extBut b o hb (bB _ e)))
theorem z76{s:Shared}{env:Env}{elts:List Expr}{x1}{pos:Pos}{t:Addr}{items:Array Value}{Q:Unit->Shared->Prop}(hh:A.handled=none)(ht:s.heap.IsList t items)
  (hn:(assignEach elts env).length=items.size) (w1B:(assignEach elts env).findIdx? (·.1)=none)
  (h:∀h',Heap.ExtBut s.heap.objs.size s.heap h'->wpAny (model prog w) A (assignInOrder ((assignEach elts env).map (·.2)) items.toList) Q E { s with heap:=h' }) :
  wpAny (model prog w) A (assign (.Tuple elts x1 pos) env (.ref t)) Q E s:=by
 rw[assign_Tuple]
 refine wpAny_bind (wpAny_standAt ?_)
 unfold unpack
 rw[hn,w1B]
 exact wpAny_bind (wpAny_holding (y1A hh ht h))
end
noncomputable def w0g(K:PySem.W.Frag)(n:Nat)(t:TGs):TG:=fun v σ H Q=>∃a xs,v=.ref a/\(SqL K H a xs\/SqT K H a xs)/\xs.length=n/\t xs σ H Q
theorem y4c{X:Cx}{K:PySem.W.Frag}{es:List Expr}{k:Nat}{t:TGs}{n:Nat}{pos:Pos}(hK:X.K=K)(hc:X.calm=true)(h:PGs X es t)
  (hn:(assignEach es X.env).length=n:=by rfl) (hst:(assignEach es X.env).findIdx? (·.1)=none:=by rfl):PG X (.Tuple es k pos) (w0g K n t):=by
 subst hK
 intro pins s σ H v u Q I r hw
 obtain⟨a,xs,e1,hq,hl,hw⟩:=hw
 subst e1
 cases r
 rcases hq with hq|hq
 ·obtain⟨its,rv,ht,hz⟩:=I.list hq
  refine z76 (I.ok.hd hc) ht.isList (by simp[hn,<- hl,rv.length]) hst fun h' hx=>?_
  have I1:Inv X pins σ H { s with heap:=h' }:=I.kept (t':=s.toks) fun b o e=>hx b o (cL (bQ e)) e
  exact h pins _ σ H xs _ Q I1 (by simpa using rv) hw
 ·obtain⟨its,rv,ht,hz⟩:=I.tuple hq
  refine assign_Tuple_tuple (I.ok.hd hc) ht (by simp[hn,<- hl,rv.length]) hst fun h' hx=>?_
  have I1:Inv X pins σ H { s with heap:=h' }:=I.kept (t':=s.toks) fun b o e=>hx b o (cL (bQ e)) e
  exact h pins _ σ H xs _ Q I1 (by simpa using rv) hw
theorem y5C{K:PySem.W.Frag}{n:Nat}{t:TGs}(a:z9H t):y11 (w0g K n t):=fun v σ H Q Q' f q=>by
 obtain⟨p,xs,e,h1,h2,q⟩:=q
 exact⟨p,xs,e,h1,h2,a _ _ _ _ _ f q⟩
theorem y88{K:PySem.W.Frag}{n k:Nat}{t:TGs}(a:y5g n t):W2 n (w0g K k t):=fun v σ H Q q=>by
 obtain⟨p,xs,e,h1,h2,q⟩:=q
 exact⟨p,xs,e,h1,h2,a _ _ _ _ q⟩
theorem z7T{X:Cx}{K:PySem.W.Frag}(hK:X.K=K):OpR X (binaryOp .Add) (y8w K):=by
 subst hK
 exact y7n
section
variable{X:Cx}
noncomputable def w1u(i j:Int):Prop:=0<j/\j<18446744073709551616
theorem y2y:OpR X (binaryOp .FloorDiv) (rI w1u fun i j=>.int (i / j)):=opI fun i j _ _ _ _ _ hc q=>by
 have h1:(0:Int)<j:=hc.1
 have h2:j<18446744073709551616:=hc.2
 have h3:j.natAbs.log2<64:=(Nat.log2_lt (by lia)).mpr (by lia)
 exact floordiv_int (by lia) (by rw[Int.fdiv_eq_ediv_of_nonneg i (by lia)];exact q) (.inl (PyProof.noPylong_of_log2 (by lia)))
end
structure S9(K:PySem.W.Frag)(x qual:Str)(st:Stmt)(f:Addr)(fd:FuncData)(T:Addr)(items:Array Value):Prop where
 ex:∃(oc:Value) (od:Option Addr) (kV doc pm:Value) (an:Option Addr) (cdv ct:Value) (osl:Array (Option Value)),
  fd=PySem.W.fnOf x qual (z1G st) (z1x st) (z07 st) (.ref T) kV doc pm an cdv ct/\K.lookup f=some ⟨oc,od,.func fd,osl⟩/\PySem.W.codeIn K cdv qual=true
 kp:PySem.W.keepIn K (.ref f)=true
 dt:∃(o:Obj) (n:Nat),K.lookup T=some o/\o.data=.seq items n
section
variable{P:Program}{w:World}{K:PySem.W.Frag}{mg:Str->Option Value}{base:Heap}
theorem S9.ok{x qual:Str}{st:Stmt}{f T:Addr}{items:Array Value}{fd:FuncData}{N ps:List Str}{k:Nat}{sp:Sp}(F:S9 K x qual st f fd T items)(S:A9 N ps (z07 st))(len:∀vs H Q E,sp vs H Q E->vs.length=ps.length)
  (U5:∀(cdv:Value) (A:Around) (outer:List Env) (s:Shared) (H:Hp) (vs:List V) (Q:VK) (E:XK),E9 k (A.deeper (envOfC qual (z07 st) s.heap.objs.size f cdv))->sp vs H Q E->
   ∃t,PSs (W4 CX0 P w K mg base N qual (z07 st) f cdv A outer s H E).nox (z1x st) t/\t { nx:=fun _ H'=>Q .non H',rt:=Q } (z6g N vs) H):B4 P w K mg base CX0 (k+1) f fd ps sp:=by
 obtain⟨oc,od,kV,doc,pm,an,cdv,ct,osl,rfl,lk,hcd⟩:=F.ex
 refine y8j lk hcd S len fun A outer s H vs Q E hr hsp=>?_
 obtain⟨t,h,q⟩:=U5 cdv A outer s H vs Q E hr hsp
 exact⟨t,h.nox,q⟩
theorem S9.binds{x qual:Str}{st:Stmt}{f T:Addr}{items:Array Value}{fd:FuncData}{ps:List Str}{ds:List Value}(F:S9 K x qual st f fd T items)
  (h:∀(kV doc pm:Value) (an:Option Addr) (cdv ct:Value) (us:List Value),us.length+ds.length=ps.length->∃k,bindArgs (PySem.W.fnOf x qual (z1G st) (z1x st) (z07 st) (.ref T) kV doc pm an cdv ct) ⟨us,[]⟩=seqItems? (.ref T) >>= k/\k (some items)=pure (ps.zip (us++ds))):z2f K fd ps ds:=by
 obtain⟨oc,od,kV,doc,pm,an,cdv,ct,osl,rfl,lk,hcd⟩:=F.ex
 obtain⟨o,n,lt,hs⟩:=F.dt
 intro s us KX hl
 rw[bL] at hl
 obtain⟨k,h1,h2⟩:=h kV doc pm an cdv ct us hl
 exact .of_defaults rfl (KX _ _ lt) hs h1 h2
theorem y7y{x qual:Str}{st:Stmt}{f T:Addr}{oc oct:Value}{od odt an:Option Addr}{osl oslt:Array (Option Value)}{items:Array Value}{n:Nat}{kV doc pm cdv ct:Value}(l:K.lookup f=some ⟨oc,od,.func (PySem.W.fnOf x qual (z1G st) (z1x st) (z07 st) (.ref T) kV doc pm an cdv ct),osl⟩)
  (lt:K.lookup T=some ⟨oct,odt,.seq items n,oslt⟩) (c:PySem.W.codeIn K cdv qual=true) (k:PySem.W.keepIn K (.ref f)=true):S9 K x qual st f (PySem.W.fnOf x qual (z1G st) (z1x st) (z07 st) (.ref T) kV doc pm an cdv ct) T items:=⟨⟨oc,od,kV,doc,pm,an,cdv,ct,osl,rfl,l,c⟩,k,_,n,lt,rfl⟩
end
structure S3(P:Program)(w:World)(K:PySem.W.Frag)(mg:Str->Option Value)(base:Heap)(k:Nat)(x:Str)(ps:List Str)(sp:Sp)(dvs:List V):Prop where
 ex:∃(f:Addr) (fd:FuncData) (ds:List Value),B4 P w K mg base CX0 k f fd ps sp/\z2f K fd ps ds/\Vals dvs ds/\PySem.W.keepIn K (.ref f)=true/\mg x=some (.ref f)
theorem S3.mk'{P:Program}{w:World}{K:PySem.W.Frag}{mg:Str->Option Value}{base:Heap}{k:Nat}{x:Str}{ps:List Str}{sp:Sp}{dvs:List V}{ds:List Value}{f:Addr}{fd:FuncData}(v:Vals dvs ds)(a:B4 P w K mg base CX0 k f fd ps sp)(b:z2f K fd ps ds)(c:PySem.W.keepIn K (.ref f)=true)(d:mg x=some (.ref f)) :
  S3 P w K mg base k x ps sp dvs:=⟨⟨f,fd,ds,a,b,v,c,d⟩⟩
theorem S3.mono{P:Program}{w:World}{K:PySem.W.Frag}{mg:Str->Option Value}{base:Heap}{j k:Nat}{x:Str}{ps:List Str}{sp:Sp}{dvs:List V}(G:S3 P w K mg base j x ps sp dvs)(h:j≤k):S3 P w K mg base k x ps sp dvs:=by
 obtain⟨f,fd,ds,a,b,v,c,d⟩:=G.ex
 exact⟨f,fd,ds,a.mono h,b,v,c,d⟩
theorem y7p{X:Cx}{k:Nat}{x:Str}{ps:List Str}{sp:Sp}{dvs:List V}{e:Expr}{es:List Expr}{t:TA}{p pos:Pos}(G:S3 X.prog X.w X.K X.mg X.base k x ps sp dvs)(hr:E9 k X.A)(hg:Gl X x)(ha:PA X (e::es) t)
  (hdb:(x == ("__debug__":Str))=false:=by decide) (he:starEach (e::es) X.env=(false,eval e X.env)::starEach es X.env:=by rfl) (hpl:(backTo pos (starEach es X.env)).any (·.1)=false:=by rfl) :
  PE X (.Call (.Name x p) (e::es) [] pos) (y7l sp dvs E0 t):=by
 obtain⟨f,fd,ds,a,b,v,c,d⟩:=G.ex
 exact y57 a hr hg d c b v y56 ha hdb he hpl
structure X8(P:Program)(w:World)(K:PySem.W.Frag)(mg:Str->Option Value)(base:Heap)(k:Nat)(C:Addr)(m:Str)(ps:List Str)(sp:Sp)(dvs:List V):Prop where
 cl:Cls K C
 ex:∃(f:Addr) (fd:FuncData) (ds:List Value),B4 P w K mg base CX0 k f fd ps sp/\z2f K fd ps ds/\Vals dvs ds/\Meth K C m f
theorem X8.mk'{P:Program}{w:World}{K:PySem.W.Frag}{mg:Str->Option Value}{base:Heap}{k:Nat}{C:Addr}{m:Str}{ps:List Str}{sp:Sp}{dvs:List V}{ds:List Value}{f:Addr}{fd:FuncData}(v:Vals dvs ds)(c:Cls K C)(a:B4 P w K mg base CX0 k f fd ps sp)(b:z2f K fd ps ds)(d:Meth K C m f) :
  X8 P w K mg base k C m ps sp dvs:=⟨c,f,fd,ds,a,b,v,d⟩
end L2
namespace HT
open PySem PySem.Spec PyProof.Rows L2
section
variable{prog:Program}{w:World}{A:Around}{E:Value->Shared->Prop}{s:Shared}
theorem z7h{t sl:Addr}{items:Array Value}{vl vu:Value}{lo hi:Option Int}{Q:Value->Shared->Prop}(ht:IsTup s.heap t items)(hs:s.heap.IsSliceOf sl vl vu .none)(pl:IsPart vl lo)(pu:IsPart vu hi)
  (hw:sIx items.size 0 lo=0/\sIx items.size items.size hi=items.size) (h:Q (.ref t) s):wpAny (model prog w) A (getItem (.ref t) (.ref sl)) Q E s:=by
 obtain⟨os,hos,hcs,hds⟩:=id hs
 have hTs:s.TypeIs (.ref sl) "slice":=⟨os,hos,hcs⟩
 unfold getItem
 try with_reducible refine wpAny_holding ?_
 first|refine wpAny_bind (wpAny_pure ?_)|skip
 refine wpAny_bind (wpAny_sequenceKey ht.typeIs (by decide) ?_)
 refine wpAny_bind (wpAny_callSpecial?_slot (name:=Str.ofString "__getitem__") ht.typeIs dI
  (wpAny_call_entry dI ht.typeIs entry_tuple_getitem ?_ (args_tuple_getitem _ _)))
 show wpAny _ _ (Builtin.Tuple.tupleItemsOf (.ref t) >>= _) _ _ s
 refine wpAny_bind (tupleItemsOf_ ht ?_)
 refine wpAny_bind (wpAny_typeOf hTs ?_)
 rw[if_pos (by decide)]
 refine wpAny_bind (z4w hs pl pu ?_)
 have hyes:(((sIx items.size 0 lo:Nat):Int) == 0 && (1:Int) == 1 && (sIx items.size items.size hi-sIx items.size 0 lo) == items.size)=true:=by
  rw[hw.1,hw.2]
  simp
 show wpAny _ _ (if (((sIx items.size 0 lo:Nat):Int) == 0 && (1:Int) == 1 && (sIx items.size items.size hi-sIx items.size 0 lo) == items.size)=true then _ else _) _ _ s
 rw[if_pos hyes]
 refine wpAny_bind (m:=Builtin.Tuple.tupleIsExact _) (wpAny_bind (wpAny_typeOf ht.typeIs (wpAny_pure ?_)))
 rw[if_pos (by decide)]
 refine wpAny_bind (wpAny_rule ?_)
 exact wpAny_pure ⟨_,rfl,wpAny_pure h⟩
end
end HT
namespace L2
open PySem PySem.Spec PyProof.Rows
noncomputable def z2p:List V->List V->Bool
 | [],[]=>true
 | x::xs,y::ys=>eqV x y && z2p xs ys
 | _,_=>false
theorem z9X:∀xs ys:List V,((List.range (min xs.length ys.length)).all (fun j=>eqV (xs.getD j .non) (ys.getD j .non)) && xs.length == ys.length)=z2p xs ys
 | [],[]=>rfl
 | [],_::_=>rfl
 | _::_,[]=>rfl
 | x::xs,y::ys=>by
  have ih:=z9X xs ys
  unfold z2p
  rw[<- ih,cN,cN,Nat.succ_min_succ,List.range_succ_eq_map,gL,kL,Bool.and_assoc]
  congr 1
  congr 1
  rw[dA]
  simp
theorem y0s:∀{x:V},z2k x=true->eqV x x=true:=fun {x} h=>by
 cases x with
 | non=>rfl
 | bl b=>exact beq_self_eq_true b
 | int i=>exact beq_self_eq_true i
 | str z=>exact beq_self_eq_true z
 | _=>exact absurd (show false=true from h) bM
theorem z6R:∀{xs:List V},xs.all z2k=true->z2p xs xs=true
 | [],_=>rfl
 | x::xs,h=>by
  rw[gL,bZ] at h
  unfold z2p
  rw[y0s h.1,z6R h.2]
  rfl
theorem z6M:∀{xs:List V}{us:List Value},Vals xs us->xs.all z2k=true->∀(j:Nat) (h:j<us.length),RelV (xs.getD j .non) us[j]/\z2k (xs.getD j .non)=true
 | _,_,.nil,_,j,h=>absurd h (gP _)
 | x::xs,u::us,.cons r t,f,0,h=>by
  rw[gL,bZ] at f
  exact⟨r,f.1⟩
 | x::xs,u::us,.cons r t,f,j+1,h=>by
  rw[gL,bZ] at f
  exact z6M t f.2 j (Nat.lt_of_succ_lt_succ h)
noncomputable def eqI:List Value->List V->Bool
 | [],[]=>true
 | u::us,x::xs=>eqU x u && eqI us xs
 | _,_=>false
theorem y44:∀{ys:List V}{us:List Value} (xs:List V),Vals ys us->ys.all z2k=true->eqI us xs=z2p ys xs
 | _,_,[],.nil,_=>rfl
 | _,_,_::_,.nil,_=>rfl
 | y::ys,u::us,[],.cons r t,f=>rfl
 | y::ys,u::us,x::xs,.cons r t,f=>by
  rw[gL,bZ] at f
  unfold eqI z2p
  rw[y27 r f.1,y44 xs t f.2]
section
variable{X:Cx}
theorem y3G{A:Around}{s:Shared}{a b:Addr}{its M1:List Value}{xs ys:List V}(pl:s.heap.IsTuple a its.toArray)(pl2:s.heap.IsTuple b M1.toArray)(r:Vals xs its)(r2:Vals ys M1)(f:xs.all z2k=true)(f2:ys.all z2k=true)(hu:A.units<cLine) :
  SeqAt.RcAt A s (.ref a) (.ref b) (z2p xs ys):=by
 have h:=SeqAt.RcAt.tuples (e:=fun j=>eqV (xs.getD j .non) (ys.getD j .non)) pl pl2 hu fun j h1 h2=>by
  rw[bO] at h1 h2
  obtain⟨q1,q2⟩:=z6M r f j h1
  obtain⟨q3,q4⟩:=z6M r2 f2 j h2
  exact y41 q1 q3 q2 q4
 rw[bO,bO,<- r.length,<- r2.length,z9X] at h
 exact h
noncomputable def rEqT(K:PySem.W.Frag):R2:=fun x y H Q=>∃a b xs ys,x=.ref a/\y=.ref b/\SqT K H a xs/\SqT K H b ys/\xs.all z2k=true/\ys.all z2k=true/\Q (.bl (z2p xs ys)) H
theorem y5n(hu:X.A.units<cLine):OpR X (compareOp .Eq) (rEqT X.K):=by
 intro pins s σ H x y v u Q I rx ry h
 obtain⟨a,b,xs,ys,rfl,rfl,ha,hb,f1,f2,q⟩:=h
 cases rx
 cases ry
 obtain⟨its,r,pl,hz⟩:=I.tuple ha
 obtain⟨M1,r2,pl2,hz2⟩:=I.tuple hb
 exact y3G pl pl2 r r2 f1 f2 hu X.prog X.w X.xe _ ⟨.bl _,H,I,rfl,q⟩
noncomputable def z4h(s:Shared)(xs:List V):Value->Bool
 | .ref b=>match s.heap.get? b with
  | some o=>match o.data with
   | .seq its _=>eqI its.toList xs
   | _=>false
  | none=>false
 | _=>false
noncomputable def y7J(K:PySem.W.Frag):R2:=fun x y H Q=>∃a p xs us yss,x=.ref a/\y=.ref p/\SqT K H a xs/\xs.all z2k=true/\SqL K H p us/\Paired (fun u ys=>∃b,u=.ref b/\SqT K H b ys/\ys.all z2k=true) us yss/\Q (.bl (!yss.any fun ys=>z2p ys xs)) H
theorem y4X(hu:X.A.units+1<cLine):OpR X (compareOp .NotIn) (y7J X.K):=by
 intro pins s σ H x y v u Q I rx ry h
 obtain⟨a,p,xs,us,yss,rfl,rfl,ha,f1,hp,pr,q⟩:=h
 cases rx
 cases ry
 obtain⟨its,r,pl,hz⟩:=I.tuple ha
 obtain⟨M1,r2,pl2,hz2⟩:=I.list hp
 have item:∀(b:Addr) (ys:List V),SqT X.K H b ys->ys.all z2k=true->z4h s xs (.ref b)=z2p ys xs/\SeqAt.EqAt X.A.in1 s (.ref b) (.ref a) (z2p ys xs):=fun b ys hb fb=>by
  obtain⟨its3,r3,pl3,hz3⟩:=I.tuple hb
  have e1:z4h s xs (.ref b)=z2p ys xs:=by
   obtain⟨o,ho,hc,n,hd⟩:=pl3
   unfold z4h
   simp only[ho,hd]
   exact y44 xs r3 fb
  refine⟨e1,?_⟩
  by_cases hne:b=a
  ·subst hne
   have e2:z2p ys xs=true:=by
    rw[<- e1]
    obtain⟨o,ho,hc,n,hd⟩:=pl
    unfold z4h
    simp only[ho,hd]
    rw[y44 xs r f1]
    exact z6R f1
   rw[e2]
   exact SeqAt.EqAt.same _
  ·exact SeqAt.EqAt.of_refs hne (y3G pl3 pl r3 r fb f1 hu)
 have all:∀{us:List V}{yss:List (List V)}{vs:List Value},Paired (fun u ys=>∃b,u=.ref b/\SqT X.K H b ys/\ys.all z2k=true) us yss->Vals us vs->vs.any (z4h s xs)=yss.any (fun ys=>z2p ys xs)/\∀v∈vs,SeqAt.EqAt X.A.in1 s v (.ref a) (z4h s xs v):=by
  intro us yss vs pr
  induction pr generalizing vs with
  | nil=>
   intro r
   cases r
   exact⟨rfl,fun v hv=>(nomatch hv)⟩
  | cons h t ih=>
   intro r
   cases r with
   | cons r1 rt=>
    obtain⟨b,rfl,hb,fb⟩:=h
    cases r1
    obtain⟨i1,i2⟩:=ih rt
    obtain⟨j1,j2⟩:=item b _ hb fb
    refine⟨by rw[gM,gM,i1,j1],fun v hv=>?_⟩
    rcases bF.mp hv with rfl|hv
    ·rw[j1];exact j2
    ·exact i2 v hv
 obtain⟨a1,a2⟩:=all pr r2
 refine SeqAt.notIn_listAt (z4h s xs) pl2.isList (fun w hw=>a2 w (by simpa using hw)) ⟨.bl _,H,I,rfl,?_⟩
 rw[show M1.toArray.any (z4h s xs)=M1.any (z4h s xs) by simp,a1]
 exact q
end
noncomputable def rSlA(K:PySem.W.Frag):V->Option Int->Option Int->Hp->VK->Prop:=fun x lo hi H Q=>∃a xs,x=.ref a/\SqT K H a xs/\((HT.sIx xs.length 0 lo=0/\HT.sIx xs.length xs.length hi=xs.length)->Q (.ref a) H)/\
 (¬(HT.sIx xs.length 0 lo=0/\HT.sIx xs.length xs.length hi=xs.length)->∀p,H p=none->Q (.ref p) (upd H p (.tup (K6 xs lo hi))))
theorem y4j{X:Cx}:SlR X (rSlA X.K):=by
 intro pins s σ H x v vl vu lo hi sl Q I rx hs pl pu h
 obtain⟨a,xs,rfl,hx,q1,q2⟩:=h
 by_cases hw:HT.sIx xs.length 0 lo=0/\HT.sIx xs.length xs.length hi=xs.length
 ·cases rx
  obtain⟨its,r,ht,hz⟩:=I.tuple hx
  have hlen:its.toArray.size=xs.length:=by rw[bO];exact r.length.symm
  exact⟨"tuple",_,dI.lookup,ht.typeIs,HT.z7h ht hs pl pu (by rw[hlen];exact hw) ⟨.ref a,H,I,rfl,q1 hw⟩⟩
 ·exact y1m pins s σ H (.ref a) v vl vu lo hi sl Q I rx hs pl pu ⟨a,xs,rfl,hx,hw,q2 hw⟩
noncomputable def rNeT(K:PySem.W.Frag):R2:=fun x y H Q=>∃a b xs ys,x=.ref a/\y=.ref b/\SqT K H a xs/\SqT K H b ys/\xs.all z2k=true/\ys.all z2k=true/\Q (.bl (!z2p xs ys)) H
theorem y7c{X:Cx}(hu:X.A.units<cLine):OpR X (compareOp .NotEq) (rNeT X.K):=by
 intro pins s σ H x y v u Q I rx ry h
 obtain⟨a,b,xs,ys,rfl,rfl,ha,hb,f1,f2,q⟩:=h
 cases rx
 cases ry
 obtain⟨its,r,pl,hz⟩:=I.tuple ha
 obtain⟨M1,r2,pl2,hz2⟩:=I.tuple hb
 have h:=SeqAt.RcNeAt.tuples (A:=X.A) (e:=fun j=>eqV (xs.getD j .non) (ys.getD j .non)) pl pl2 hu fun j h1 h2=>by
  rw[bO] at h1 h2
  obtain⟨q1,q2⟩:=z6M r f1 j h1
  obtain⟨q3,q4⟩:=z6M r2 f2 j h2
  exact y41 q1 q3 q2 q4
 rw[bO,bO,<- r.length,<- r2.length,z9X] at h
 exact h X.prog X.w X.xe _ ⟨.bl _,H,I,rfl,q⟩
noncomputable def K4(a b c:Int):Nat:=(Builtin.Range.rangeSize a b c).toNat
theorem y2o{a b c:Int}(hc:c<0):K4 a b c=if a > b then ((a-b-1) / (-c)+1).toNat else 0:=by
 unfold K4 Builtin.Range.rangeSize
 rw[if_neg (by lia)]
 split<;>rfl
theorem y1v{a b c:Int}{i:Nat}(hc:c<0)(h:i<K4 a b c):b<a+i*c/\a+i*c≤a:=by
 rw[y2o hc] at h
 split at h
 ·have h0:0≤(a-b-1) / (-c):=Int.ediv_nonneg (by lia) (by lia)
  have h1:(i:Int)≤(a-b-1) / (-c):=by lia
  have h2:(a-b-1) / (-c)*(-c)≤a-b-1:=Int.ediv_mul_le _ (by lia)
  have h3:(i:Int)*(-c)≤(a-b-1) / (-c)*(-c):=Int.mul_le_mul_of_nonneg_right h1 (by lia)
  have h4:(i:Int)*(-c)=-((i:Int)*c):=Int.mul_neg _ _
  have h5:(0:Int)≤(i:Int)*(-c):=k9 (by lia) (by lia)
  lia
 ·exact absurd h (gP _)
theorem y5L{a b c:Int}(hc:c<0):(K4 a b c:Int)≤(a-b).toNat:=by
 rw[y2o hc]
 split
 ·have h0:0≤(a-b-1) / (-c):=Int.ediv_nonneg (by lia) (by lia)
  have h1:(a-b-1) / (-c)≤a-b-1:=Int.ediv_le_self _ (by lia)
  lia
 ·lia
noncomputable def Itk(hi c:Int)(n:Nat):It:=⟨fun i _=>i<n,fun i H x H'=>H'=H/\x=.int (hi+i*c),fun i _=>n≤i⟩
theorem y4q{P:Program}{w:World}{K:PySem.W.Frag}{tg:Expr}(it:Addr)(hi c:Int)(n:Nat):Turn P w K tg (Itk hi c n) [it] it (fun i h=>IsRangeIter h it (hi+(i:Nat)*c) ((n:Int)-(i:Nat)) c) where
 mem:=by simp
 obj:=fun i h st b hb=>by
  have e:b=it:=by simpa using hb
  subst e
  exact⟨_,st,fun v z=>by
   have z':Data.fields _=Data.cell v:=z
   cases z'⟩
 keep:=fun i h h' st k=>k it (by simp) _ st
 item:=by
  intro X hP hw hK hc i pins s σ H E I hf st hg
  subst hP hw hK
  obtain⟨f0,f1,f2,f3,f4,f5⟩:=hf it (by simp)
  have W:=Walks.range (prog:=X.prog) (w:=X.w) (I.ok.hd hc) it hi c n
  refine W.item i s _ _ hg st fun v h' tk hv st' kk=>?_
  obtain⟨t,rfl⟩:=hv
  have I1:Inv X pins σ H { s with heap:=h',toks:=tk }:=I.turned (fun b o hb e=>kk b o (by simpa using hb) e) f0 f1 f3 f4 f5
  exact⟨_,rfl,y5f (s:={ s with heap:=h',toks:=tk }) (n:="range_iterator") st' rfl rfl (by decide) ⟨.int (hi+i*c),H,I1,⟨t,rfl⟩,⟨rfl,rfl⟩,st',fun b hb=>(hf b hb).1⟩⟩
 done:=by
  intro X hP hw hK hc i pins s σ H E I hf st hg
  subst hP hw hK
  obtain⟨f0,f1,f2,f3,f4,f5⟩:=hf it (by simp)
  exact wpAny_pyNext_range_end (I.ok.hd hc) st (by have:n≤i:=hg;lia) fun h' eb=>⟨rfl,I.turned (t':=s.toks) (fun b o hb e=>eb b o hb e) f0 f1 f3 f4 f5⟩
 self:=fun _ _ _ _ _ st h=>wpAny_pyIter_rangeiter st h
theorem y3A{a b c:Int}(ha:-1000≤a)(ha':a≤1000)(hb:-1000≤b)(hb':b≤1000)(hc:c<0)(hc':-1000≤c):Builtin.Range.small a b c=true:=by
 have h:=y5L (a:=a) (b:=b) hc
 have e:Builtin.Range.rangeSize a b c=(K4 a b c:Int):=by
  unfold K4
  exact rangeSize_toNat a b c
 unfold Builtin.Range.small
 rw[e]
 have h0:(0:Int)≤(K4 a b c:Int):=eV _
 have h':(K4 a b c:Int)≤2000:=by lia
 clear h
 generalize (K4 a b c:Int)=m at h' h0
 rw[if_neg (show ¬c > 0 by lia)]
 simp only[Builtin.Range.rangeFitsLong,bZ,jT,decide_eq_true_eq,beq_iff_eq]
 exact⟨by lia,.inr (by lia)⟩
section
variable{X:Cx}{tg:Expr}
noncomputable def w0H(ta:TA):TI:=fun σ H R=>ta σ H fun vs H1=>∃i j c:Int,vs=[.int i,.int j,.int c]/\(-1000≤i/\i≤1000/\-1000≤j/\j≤1000/\c<0/\-1000≤c)/\R (Itk i c (K4 i j c)) H1
theorem y4l{a b c:Expr}{ta:TA}{p pos:Pos}(hg:Gl X "range")(hm:X.mg "range"=none)(ha:PA X [a,b,c] ta)
  (hs:starEach [a,b,c] X.env=[(false,eval a X.env),(false,eval b X.env),(false,eval c X.env)]:=by rfl) (hs2:starEach [b,c] X.env=[(false,eval b X.env),(false,eval c X.env)]:=by rfl) :
  PI X tg (.Call (.Name "range" p) [a,b,c] [] pos) (w0H ta):=by
 intro pins s σ H R I h
 refine Call_ (z5l I hg hm boot_range (dX (thn (ha pos pins s σ H _ I h) fun us s1 ⟨vs,H1,I1,r1,q1⟩=>?_) (by rw[hs,hs2]) (by rw[hs2];rfl)))
 obtain⟨i,j,k,e,⟨q1,q2,q3,q4,q5,q6⟩,q⟩:=q1
 subst e
 cases r1 with
 | cons r rr=>
  cases rr with
  | cons r' rr=>
   cases rr with
   | cons r'' rr=>
    cases rr
    obtain⟨t,rfl⟩:=r
    obtain⟨t',rfl⟩:=r'
    obtain⟨t'',rfl⟩:=r''
    refine call_range_3 (by lia) ?_ (.inl (PyProof.noPylong_small (by lia)))
    refine wpAny_pyIter_range (IsRange.new ..) (y3A q1 q2 q3 q4 q5 q6) ?_
    have I2:Inv X pins σ H1 { s1 with heap:=s1.heap.push { cls:=.type "range",data:=.fields #[.int i t,.int j t',.int k t''] },toks:=s1.toks }:=I1.kept fun b o e=>bB _ e
    refine⟨(s1.heap.push { cls:=.type "range",data:=.fields #[.int i t,.int j t',.int k t''] }).objs.size,[(s1.heap.push { cls:=.type "range",data:=.fields #[.int i t,.int j t',.int k t''] }).objs.size],_,_,H1,rfl,
     I2.kept (t':=s1.toks) fun b o e=>bB _ e,y4q _ i k (K4 i j k),?_,fun b hb=>?_,q⟩
    ·have e1:i+((0:Nat):Int)*k=i:=by simp
     have e2:((K4 i j k:Nat):Int)-((0:Nat):Int)=Builtin.Range.rangeSize i j k:=by
      unfold K4
      rw[<- rangeSize_toNat i j k]
      simp
     show IsRangeIter _ _ (i+((0:Nat):Int)*k) (((K4 i j k:Nat):Int)-((0:Nat):Int)) k
     rw[e1,e2]
     exact bK _ rfl
    ·have e:b=(s1.heap.push { cls:=.type "range",data:=.fields #[.int i t,.int j t',.int k t''] }).objs.size:=by simpa using hb
     subst e
     exact I2.S5 (bJ _) (I2.hok.fresh (bJ _))
end
theorem y2m{hi c:Int}{n:Nat}{g:TG}{tb:TS}{D:Ends}{σ:St}{H:Hp}(Pv:Nat->St->Hp->Prop)(h0:Pv 0 σ H)
  (hs:∀i σ H,i<n->Pv i σ H->g (.int (hi+i*c)) σ H fun σ2 H2=>tb { D with nx:=Pv (i+1),ct:=Pv (i+1),bk:=D.nx } σ2 H2) (hd:∀σ H,Pv n σ H->D.nx σ H) :
  ∃W:Nat->Nat->St->Hp->Prop,(∃m,W 0 m σ H)/\∀i m σ H,W i m σ H->
   ((Itk hi c n).stop i H/\D.nx σ H)\/((Itk hi c n).go i H/\∃N:St->Hp->Prop,(∀σ' H',N σ' H'->∃m',m'<m/\W (i+1) m' σ' H')/\∀x H',(Itk hi c n).yld i H x H'->g x σ H' fun σ2 H2=>tb { D with nx:=N,ct:=N,bk:=D.nx } σ2 H2):=by
 refine⟨fun i m σ H=>m=n-i/\i≤n/\Pv i σ H,⟨n,by simp,cW _,h0⟩,?_⟩
 rintro i m σ H ⟨rfl,hi',p⟩
 by_cases hlt:i<n
 ·refine .inr ⟨hlt,Pv (i+1),fun σ' H' p'=>⟨n-(i+1),by lia,rfl,hlt,p'⟩,fun x H' y=>?_⟩
  obtain⟨e,y⟩:=y
  subst e y
  exact hs i σ _ hlt p
 ·have e:i=n:=by lia
  subst e
  exact .inl ⟨bJ _,hd σ H p⟩
theorem len7{us:List Value}{p:List Value->Prop}(h:us.length=7)(k:∀a b c d e f g,p [a,b,c,d,e,f,g]):p us:=by
 match us,h with
 | [a,b,c,d,e,f,g],_=>exact k a b c d e f g
end L2
namespace HT
open PySem PySem.Spec PyProof.Rows L2
section
variable{prog:Program}{w:World}{A:Around}{E:Value->Shared->Prop}{s:Shared}
theorem y63{t b:Addr}{vs ws:List Value}{Q:Value->Shared->Prop}(ht:IsTup s.heap t vs.toArray)(hb:IsTup s.heap b ws.toArray)(h0:vs=[]->Q (.ref b) s)
  (h1:vs≠[]->ws=[]->Q (.ref t) s) (h2:vs≠[]->ws≠[]->Q (.ref s.heap.objs.size) { s with heap:=s.heap.push { cls:=.type "tuple",data:=.seq (vs++ws).toArray } })
  (hsz:vs.length+ws.length≤sizeLine):wpAny (model prog w) A (binaryOp .Add (.ref t) (.ref b)) Q E s:=by
 by_cases hv:vs=[]
 ·obtain⟨⟨cls,dd,data,sl⟩,ho,hc,n,hd⟩:=id ht
  obtain⟨⟨cls2,dd2,data2,sl2⟩,ho2,hc2,n2,hd2⟩:=id hb
  simp only at hc hd hc2 hd2
  subst hc hd hc2 hd2
  exact concat_meets ⟨_,ho,rfl⟩ ⟨_,ho2,rfl⟩ noFill_tuple_add seq_tuple_add jD j7 (j3 _ _)
   (tuple_addW0 t b vs.toArray ws.toArray n n2 dd dd2 sl sl2 (by simp[hv])) ⟨ho,ho2,h0 hv⟩
 ·exact y3F ht hb hv (h1 hv) (h2 hv) hsz
end
end HT
namespace L2
open PySem PySem.Spec PyProof.Rows
section
variable{X:Cx}
noncomputable def w1b:R2:=fun x y H Q=>∃a b xs ys,x=.ref a/\y=.ref b/\H a=some (.tup xs)/\H b=some (.tup ys)/\xs.length+ys.length≤sizeLine/\∀p H',B0 H H'->H' p=some (.tup (xs++ys))->Q (.ref p) H'
theorem y3L:OpR X (binaryOp .Add) w1b:=by
 intro pins s σ H x y v u Q I rx ry h
 obtain⟨a,b,xs,ys,rfl,rfl,ha,hb,hz,q⟩:=h
 cases rx
 cases ry
 obtain⟨its,r1,p1,_⟩:=I.tuple (SqT.of ha)
 obtain⟨M1,r2,p2,_⟩:=I.tuple (SqT.of hb)
 refine HT.y63 p1 p2 (fun z=>?_) (fun z0 z=>?_) (fun z0 z=>?_) (by rw[<- r1.length,<- r2.length];exact hz)
 ·refine⟨.ref b,H,I,rfl,q b H (B0.refl _) ?_⟩
  rw[r1.Q5.mp z]
  exact hb
 ·refine⟨.ref a,H,I,rfl,q a H (B0.refl _) ?_⟩
  rw[r2.Q5.mp z,cX]
  exact ha
 ·refine⟨.ref s.heap.objs.size,_,I.laid (t':=s.toks) (o:=.tup (xs++ys)) (fun b ob q=>bB _ q) (bJ _) ?_,rfl,q _ _ (fun c o e=>?_) z03⟩
  ·exact⟨by rw[bL];exact hz,_,r1.append r2,PlT.new _ _⟩
  ·rw[z0l (z0q e (I.hok.fresh (bJ _)))]
   exact e
noncomputable def rSlB:V->Option Int->Option Int->Hp->VK->Prop:=fun x lo hi H Q=>∃a xs,x=.ref a/\H a=some (.tup xs)/\∀p H',B0 H H'->H' p=some (.tup (K6 xs lo hi))->Q (.ref p) H'
theorem y48:SlR X rSlB:=by
 intro pins s σ H x v vl vu lo hi sl Q I rx hs pl pu h
 obtain⟨a,xs,rfl,ha,q⟩:=h
 refine y4j pins s σ H (.ref a) v vl vu lo hi sl Q I rx hs pl pu ⟨a,xs,rfl,SqT.of ha,fun hw=>q a H (B0.refl _) ?_,fun _ p hp=>q p _ (fun c o e=>by rw[z0l (z0q e hp)];exact e) z03⟩
 have e:K6 xs lo hi=xs:=by
  unfold K6
  rw[hw.1,hw.2,fH,gY,bR]
 rw[e]
 exact ha
noncomputable def y7M(K:PySem.W.Frag):V->List V->Hp->VK->Prop:=fun x vs H Q=>∃(l:Addr) (zs:List Str) (z:Str) (j:Nat),x=.ref l/\vs=[.str z]/\SqL K H l (zs.map V.str)/\zs[j]? = some z/\(∀m,m<j->zs[m]? ≠ some z)/\Q (.int (j:Nat)) H
theorem z18(zs:List Str):(zs.map V.str).all z2k=true:=by
 rw[kL,fT]
 intro z _
 rfl
theorem y4u:MtM X "list.index" (y7M X.K):=by
 intro pins s σ H x vs v us Q I rx rv h
 obtain⟨l,zs,z,j,rfl,rfl,hL,ej,hno,q⟩:=h
 cases rx
 obtain⟨u,rfl,ru⟩:=rv.one
 have ru0:=ru
 obtain⟨t,rfl⟩:=ru
 obtain⟨its,r,pl,hz⟩:=I.list hL
 have lr:=r.length
 rw[bA] at lr hz
 have hj:=(bX.mp ej).1
 have line:=sizeLine_eq
 have at_:∀(m:Nat) (hm:m<its.toArray.size),eqU (.str z) its.toArray[m]=decide (zs[m]? = some z):=fun m hm=>by
  have hm':m<its.length:=by rw[bO] at hm;exact hm
  obtain⟨q1,q2⟩:=z6M r (z18 zs) m hm'
  have eu:=y27 (x:=.str z) q1 q2
  have eg:(zs.map V.str).getD m .non=.str (zs[m]'(by lia)):=by
   rw[bP,bE,bD (show m<zs.length by lia)]
   rfl
  rw[eg] at eu
  rw[List.getElem_toArray,eu,bD (show m<zs.length by lia)]
  show(zs[m] == z)=decide (some zs[m]=some z)
  rw[dA,decide_eq_true_eq,beq_iff_eq,Option.some.injEq]
 obtain⟨⟨cls,dd,data,sl⟩,ho,hc,n,hd⟩:=id pl.isList
 simp only at hc hd
 subst hc hd
 have hjs:j<its.toArray.size:=by rw[bO];lia
 refine call_meets F.slot_list_index ⟨_,ho,rfl⟩ F.entry_list_index (F.args_list_index_2 _ _)
  (SeqAt.list_indexAt l its.toArray n dd sl (.str z t) (eqU (.str z)) j hjs (by lia) (by rw[at_ j hjs];exact decide_eq_true ej) (fun m hm hlt=>by rw[at_ m hm];exact decide_eq_false (hno m hlt)))
  ⟨ho,fun w hw=>z5f ru0 rfl r (z18 zs) w (by simpa using hw),?_⟩
 exact⟨.int j,H,I.tok _,⟨_,rfl⟩,q⟩
noncomputable def y0Y:V->Bool
 | .non=>true
 | _=>false
noncomputable def y4J:Value->Bool
 | .none=>true
 | _=>false
noncomputable def y7N(K:PySem.W.Frag):V->List V->Hp->VK->Prop:=fun x vs H Q=>∃(l:Addr) (xs:List V),x=.ref l/\vs=[.non]/\SqL K H l xs/\(∀y∈xs,y=.non\/∃a ys,y=.ref a/\SqT K H a ys)/\Q (.int (xs.countP y0Y:Nat)) H
theorem y5p(A:Around)(s:Shared):SeqAt.EqAt A s .none .none true:=SeqAt.EqAt.same _
theorem y3W(hu:X.A.units+1<cLine):MtM X "list.count" (y7N X.K):=by
 intro pins s σ H x vs v us Q I rx rv h
 obtain⟨l,xs,rfl,rfl,hL,hk,q⟩:=h
 cases rx
 obtain⟨u,rfl,ru⟩:=rv.one
 cases ru
 obtain⟨its,r,pl,hz⟩:=I.list hL
 have all:∀{xs:List V}{us:List Value},Vals xs us->(∀y∈xs,y=.non\/∃a ys,y=.ref a/\SqT X.K H a ys)->us.countP y4J=xs.countP y0Y/\∀v∈us,SeqAt.EqAt X.A.in1 s v .none (y4J v):=by
  intro xs us r
  induction r with
  | nil=>exact fun _=>⟨rfl,fun v hv=>(nomatch hv)⟩
  | cons r1 rt ih=>
   intro hk
   obtain⟨i1,i2⟩:=ih fun y hy=>hk y (cG _ hy)
   rcases hk _ cI with e|⟨a,ys,e,ha⟩
   ·subst e
    cases r1
    refine⟨by rw[fU,fU,i1];rfl,fun v hv=>?_⟩
    rcases bF.mp hv with rfl|hv
    ·exact y5p _ _
    ·exact i2 v hv
   ·subst e
    cases r1
    obtain⟨its3,r3,pl3,hz3⟩:=I.tuple ha
    refine⟨by rw[fU,fU,i1];rfl,fun v hv=>?_⟩
    rcases bF.mp hv with rfl|hv
    ·exact SeqAt.EqAt.tuple_none pl3 hu
    ·exact i2 v hv
 obtain⟨a1,a2⟩:=all r hk
 obtain⟨⟨cls,dd,data,sl⟩,ho,hc,n,hd⟩:=id pl.isList
 simp only at hc hd
 subst hc hd
 refine call_meets F.slot_list_count ⟨_,ho,rfl⟩ F.entry_list_count (F.args_list_count_2 _ _) (SeqAt.list_countAt l its.toArray n dd sl .none y4J) ⟨ho,fun w hw=>a2 w (by simpa using hw),?_⟩
 refine⟨.int (xs.countP y0Y:Nat),H,I.tok _,?_,q⟩
 rw[<- a1]
 exact⟨_,rfl⟩
end
noncomputable def DfK(K:PySem.W.Frag)(x q:Str)(st:Stmt)(dV:Value)(f:Addr):Prop:=∃(oc:Value) (od:Option Addr) (kV doc pm:Value) (an:Option Addr) (cdv ct:Value) (osl:Array (Option Value)),
 K.lookup f=some ⟨oc,od,.func (PySem.W.fnOf x q (z1G st) (z1x st) (z07 st) dV kV doc pm an cdv ct),osl⟩/\PySem.W.codeIn K cdv q=true/\PySem.W.keepIn K (.ref f)=true
noncomputable def DfT(K:PySem.W.Frag)(x:Str)(st:Stmt)(dV:Value)(f:Addr):Prop:=PySem.W.nsIn K mainGlobals x=some (some (.ref f))/\DfK K x x st dV f
noncomputable def DfM(K:PySem.W.Frag)(C:Addr)(x q:Str)(st:Stmt)(dV:Value)(f:Addr):Prop:=PySem.W.findIn K (.ref C) x=some (some (.ref f))/\PySem.W.isFn K (.ref f)=true/\DfK K x q st dV f
noncomputable def DfD(K:PySem.W.Frag)(T:Addr)(its:Array Value):Prop:=∃oct odt nt slt,K.lookup T=some ⟨oct,odt,.seq its nt,slt⟩
noncomputable def DfC(K:PySem.W.Frag)(x:Str)(C:Addr):Prop:=PySem.W.nsIn K mainGlobals x=some (some (.ref C))/\PySem.W.plainGet K C Str.empty=true/\PySem.W.hasDictIn K C=true/\PySem.W.plainOver K C=true/\PySem.W.findIn K (.ref C) "__setattr__"=some (some (.builtin "object.__setattr__"))/\PySem.W.makesIn K C=true/\PySem.W.keepIn K (.ref C)=true
section
variable{K:PySem.W.Frag}{mg:Str->Option Value}{x q:Str}{st:Stmt}{f C T:Addr}{fd:FuncData}{its:Array Value}
theorem DfK.fn(h:DfK K x q st .none f):∃fd,Fun K x q st f fd:=by
 obtain⟨oc,od,kV,doc,pm,an,cdv,ct,osl,l,c,k⟩:=h
 exact⟨_,y8z l c k⟩
theorem DfK.fnD(h:DfK K x q st (.ref T) f)(d:DfD K T its):∃fd,S9 K x q st f fd T its:=by
 obtain⟨oc,od,kV,doc,pm,an,cdv,ct,osl,l,c,k⟩:=h
 obtain⟨_,_,_,_,d⟩:=d
 exact⟨_,y7y l d c k⟩
theorem z0z{h:Heap}(X:K.In h)(G:h.Ns mainGlobals mg)(a:DfT K x st .none f):∃fd,Fun K x x st f fd/\mg x=some (.ref f):=by
 obtain⟨fd,F⟩:=a.2.fn
 exact⟨fd,F,dJ X G a.1⟩
theorem y7s{h:Heap}(X:K.In h)(G:h.Ns mainGlobals mg)(a:DfT K x st (.ref T) f)(d:DfD K T its):∃fd,S9 K x x st f fd T its/\mg x=some (.ref f):=by
 obtain⟨fd,F⟩:=a.2.fnD d
 exact⟨fd,F,dJ X G a.1⟩
theorem z1X(a:DfM K C x q st .none f):∃fd,Fun K x q st f fd/\Meth K C x f:=by
 obtain⟨fd,F⟩:=a.2.2.fn
 exact⟨fd,F,a.1,a.2.1,F.kp⟩
theorem y5E(a:DfM K C x q st (.ref T) f)(d:DfD K T its):∃fd,S9 K x q st f fd T its/\Meth K C x f:=by
 obtain⟨fd,F⟩:=a.2.2.fnD d
 exact⟨fd,F,a.1,a.2.1,F.kp⟩
theorem y20{y:Str}(c:DfC K y C)(a:DfM K C "__init__" q st .none f):∃fd,Fun K "__init__" q st f fd/\Mk K C f:=by
 obtain⟨fd,F⟩:=a.2.2.fn
 exact⟨fd,F,c.2.2.2.2.2.1,a.1,a.2.1,c.2.2.2.2.2.2⟩
theorem DfC.cls{y:Str}(c:DfC K y C):Cls K C:=⟨c.2.1,c.2.2.1,c.2.2.2.1,c.2.2.2.2.1⟩
theorem DfC.nm{h:Heap}(X:K.In h)(G:h.Ns mainGlobals mg){y:Str}(c:DfC K y C):mg y=some (.ref C):=dJ X G c.1
theorem y49{p:Str}(F:Fun K x q st f fd)(h:∀kV doc pm an cdv ct v,bindArgs (PySem.W.fnOf x q (z1G st) (z1x st) (z07 st) .none kV doc pm an cdv ct) ⟨[v],[]⟩=pure [(p,v)]:=by intros;rfl):∀(s:Shared) (v:Value),BindsTo s fd ⟨[v],[]⟩ [(p,v)]:=by
 obtain⟨oc,od,kV,doc,pm,an,cdv,ct,osl,rfl,l,c⟩:=F.ex
 exact fun s v=>.of_eq (h _ _ _ _ _ _ _)
theorem b0(F:Fun K x q st f fd)(h:∀kV doc pm an cdv ct,bindArgs (PySem.W.fnOf x q (z1G st) (z1x st) (z07 st) .none kV doc pm an cdv ct) ⟨[],[]⟩=pure (List.zip [] []):=by intros;rfl):z2f K fd [] []:=
 F.binds fun kV doc pm an cdv ct us hl=>len0 (p:=fun us=>bindArgs _ ⟨us,[]⟩=pure (List.zip _ us)) hl (h kV doc pm an cdv ct)
theorem b1{p1:Str}(F:Fun K x q st f fd)(h:∀kV doc pm an cdv ct a,bindArgs (PySem.W.fnOf x q (z1G st) (z1x st) (z07 st) .none kV doc pm an cdv ct) ⟨[a],[]⟩=pure (List.zip [p1] [a]):=by intros;rfl):z2f K fd [p1] []:=
 F.binds fun kV doc pm an cdv ct us hl=>V6 (p:=fun us=>bindArgs _ ⟨us,[]⟩=pure (List.zip _ us)) hl (h kV doc pm an cdv ct)
theorem b2{p1 p2:Str}(F:Fun K x q st f fd)(h:∀kV doc pm an cdv ct a b,bindArgs (PySem.W.fnOf x q (z1G st) (z1x st) (z07 st) .none kV doc pm an cdv ct) ⟨[a,b],[]⟩=pure (List.zip [p1,p2] [a,b]):=by intros;rfl):z2f K fd [p1,p2] []:=
 F.binds fun kV doc pm an cdv ct us hl=>Z1 (p:=fun us=>bindArgs _ ⟨us,[]⟩=pure (List.zip _ us)) hl (h kV doc pm an cdv ct)
theorem b3{p1 p2 p3:Str}(F:Fun K x q st f fd)(h:∀kV doc pm an cdv ct a b c,bindArgs (PySem.W.fnOf x q (z1G st) (z1x st) (z07 st) .none kV doc pm an cdv ct) ⟨[a,b,c],[]⟩=pure (List.zip [p1,p2,p3] [a,b,c]):=by intros;rfl):z2f K fd [p1,p2,p3] []:=
 F.binds fun kV doc pm an cdv ct us hl=>w0x (p:=fun us=>bindArgs _ ⟨us,[]⟩=pure (List.zip _ us)) hl (h kV doc pm an cdv ct)
theorem b4{p1 p2 p3 p4:Str}(F:Fun K x q st f fd)(h:∀kV doc pm an cdv ct a b c d,bindArgs (PySem.W.fnOf x q (z1G st) (z1x st) (z07 st) .none kV doc pm an cdv ct) ⟨[a,b,c,d],[]⟩=pure (List.zip [p1,p2,p3,p4] [a,b,c,d]):=by intros;rfl):z2f K fd [p1,p2,p3,p4] []:=
 F.binds fun kV doc pm an cdv ct us hl=>len4 (p:=fun us=>bindArgs _ ⟨us,[]⟩=pure (List.zip _ us)) hl (h kV doc pm an cdv ct)
theorem b5{p1 p2 p3 p4 p5:Str}(F:Fun K x q st f fd)(h:∀kV doc pm an cdv ct a b c d e,bindArgs (PySem.W.fnOf x q (z1G st) (z1x st) (z07 st) .none kV doc pm an cdv ct) ⟨[a,b,c,d,e],[]⟩=pure (List.zip [p1,p2,p3,p4,p5] [a,b,c,d,e]):=by intros;rfl):z2f K fd [p1,p2,p3,p4,p5] []:=
 F.binds fun kV doc pm an cdv ct us hl=>len5 (p:=fun us=>bindArgs _ ⟨us,[]⟩=pure (List.zip _ us)) hl (h kV doc pm an cdv ct)
theorem b6{p1 p2 p3 p4 p5 p6:Str}(F:Fun K x q st f fd)(h:∀kV doc pm an cdv ct a b c d e g,bindArgs (PySem.W.fnOf x q (z1G st) (z1x st) (z07 st) .none kV doc pm an cdv ct) ⟨[a,b,c,d,e,g],[]⟩=pure (List.zip [p1,p2,p3,p4,p5,p6] [a,b,c,d,e,g]):=by intros;rfl):z2f K fd [p1,p2,p3,p4,p5,p6] []:=
 F.binds fun kV doc pm an cdv ct us hl=>len6 (p:=fun us=>bindArgs _ ⟨us,[]⟩=pure (List.zip _ us)) hl (h kV doc pm an cdv ct)
theorem b7{p1 p2 p3 p4 p5 p6 p7:Str}(F:Fun K x q st f fd)(h:∀kV doc pm an cdv ct a b c d e g i,bindArgs (PySem.W.fnOf x q (z1G st) (z1x st) (z07 st) .none kV doc pm an cdv ct) ⟨[a,b,c,d,e,g,i],[]⟩=pure (List.zip [p1,p2,p3,p4,p5,p6,p7] [a,b,c,d,e,g,i]):=by intros;rfl):z2f K fd [p1,p2,p3,p4,p5,p6,p7] []:=
 F.binds fun kV doc pm an cdv ct us hl=>len7 (p:=fun us=>bindArgs _ ⟨us,[]⟩=pure (List.zip _ us)) hl (h kV doc pm an cdv ct)
end
theorem calF(P:Program)(w:World)(K:PySem.W.Frag)(mg:Str->Option Value)(base:Heap){k:Nat}{x:Str}{ps:List Str}{sp:Sp}{st:Stmt}{f:Addr}{fd:FuncData}(F:Fun K x x st f fd/\mg x=some (.ref f))(a:B4 P w K mg base CX0 k f fd ps sp)(b:z2f K fd ps []):Cal P w K mg base k x ps sp:=.mk' a b F.1.kp F.2
theorem mclF(P:Program)(w:World)(K:PySem.W.Frag)(mg:Str->Option Value)(base:Heap){k:Nat}{C:Addr}{x q:Str}{ps:List Str}{sp:Sp}{st:Stmt}{f:Addr}{fd:FuncData}(c:Cls K C)(F:Fun K x q st f fd/\Meth K C x f)(a:B4 P w K mg base CX0 k f fd ps sp)(b:z2f K fd ps []):D9 P w K mg base k C x ps sp:=.mk' c a b F.2
theorem mkrF(P:Program)(w:World)(K:PySem.W.Frag)(mg:Str->Option Value)(base:Heap){k:Nat}{C:Addr}{x y q:Str}{ps:List Str}{sp:Sp}{st:Stmt}{f:Addr}{fd:FuncData}(c:mg x=some (.ref C))(F:Fun K y q st f fd/\Mk K C f)(a:B4 P w K mg base CX0 k f fd ps sp)(b:z2f K fd ps []):Mkr P w K mg base k C x ps sp:=.mk' a b F.2 c
theorem scp{N P:List Str}{sc:Scope}(h1:sc.kind=.function:=by rfl)(h2:sc.isCoroutine=false:=by rfl)(h3:sc.isGenerator=false:=by rfl)(h4:N.Nodup:=by decide +kernel)(h5:N.take P.length=P:=by rfl)
  (h6:∀x∈P,sc.names.lookup x=some .local\/sc.names.lookup x=some .cell:=by decide +kernel) (h7:∀y∈sc.names,y.2≠.free:=by decide +kernel):A9 N P sc:=⟨h1,h2,h3,h4,h5,h6,h7⟩
theorem rm{j k:Nat}{A:Around}(r:E9 k A)(h:j≤k:=by lia):E9 j A:=r.mono h
theorem Cal.up{P:Program}{w:World}{K:PySem.W.Frag}{mg:Str->Option Value}{base:Heap}{j k:Nat}{x:Str}{ps:List Str}{sp:Sp}(G:Cal P w K mg base j x ps sp)(h:j≤k:=by decide):Cal P w K mg base k x ps sp:=G.mono h
theorem S3.up{P:Program}{w:World}{K:PySem.W.Frag}{mg:Str->Option Value}{base:Heap}{j k:Nat}{x:Str}{ps:List Str}{sp:Sp}{d:List V}(G:S3 P w K mg base j x ps sp d)(h:j≤k:=by decide):S3 P w K mg base k x ps sp d:=G.mono h
theorem D9.up{P:Program}{w:World}{K:PySem.W.Frag}{mg:Str->Option Value}{base:Heap}{j k:Nat}{C:Addr}{x:Str}{ps:List Str}{sp:Sp}(G:D9 P w K mg base j C x ps sp)(h:j≤k:=by decide):D9 P w K mg base k C x ps sp:=G.mono h
theorem Mkr.up{P:Program}{w:World}{K:PySem.W.Frag}{mg:Str->Option Value}{base:Heap}{j k:Nat}{C:Addr}{x:Str}{ps:List Str}{sp:Sp}(G:Mkr P w K mg base j C x ps sp)(h:j≤k:=by decide):Mkr P w K mg base k C x ps sp:=G.mono h
section
variable{X:Cx}{mg:Str->Option Value}
theorem le2:2≤sizeLine:=by decide
end
end L2
namespace HT
open PySem PySem.Spec PyProof.Rows L2
section
variable{prog:Program}{w:World}{A:Around}{E:Value->Shared->Prop}{s:Shared}
theorem y4o{J t:Addr}{k:Nat}{ts:Array Value}{v:Value}{Q:Value->Shared->Prop}(hJ:s.heap.IsTupleIter J t k)(hT:s.heap.IsTuple t ts)(hv:ts[k]? = some v)
  (q:∀g,g.IsTupleIter J t (k+1)->Heap.SameBut J s.heap g->Q v { s with heap:=g }):wpAny (model prog w) A (Builtin.SmallTypes.nextOf (.ref J)) Q E s:=by
 obtain⟨oj,gj,cj,dj⟩:=id hJ
 obtain⟨ot,gt,_,nt,dt⟩:=hT
 unfold Builtin.SmallTypes.nextOf
 refine wpAny_bind (wpAny_callSpecial?_slot (name:=Str.ofString "__next__") hJ.typeIs fM (wpAny_call_entry fM hJ.typeIs F.entry_tuple_iterator_next ?_ (F.args_tuple_iterator_next_1 _)))
 show wpAny _ _ (field (.ref J) 0 >>= _) _ _ s
 refine wpAny_bind (wpAny_field gj dj (x:=.ref t) rfl ?_)
 show wpAny _ _ (if (Value.ref t == .none)=true then _ else _) _ _ s
 rw[if_neg (show ¬(Value.ref t == .none)=true from bM)]
 show wpAny _ _ (field (.ref J) 1 >>= _) _ _ s
 refine wpAny_bind (wpAny_field gj dj (x:=.int k 0) rfl ?_)
 show wpAny _ _ (seqItems? (.ref t) >>= _) _ _ s
 refine wpAny_bind (wpAny_seqItems gt dt ?_)
 simp only[eU,hv]
 refine wpAny_bind (wpAny_setField gj dj (by simp) (wpAny_pure ⟨v,rfl,wpAny_pure (q _ ⟨_,eM _ gj (Obj.isFreed_of_fields (Obj.data_mapFields dj _)),(Obj.cls_mapFields ..).trans cj,?_⟩ (gB ..))⟩))
 rw[Obj.data_mapFields dj]
 simp[rawInt]
theorem y8l{J t:Addr}{k:Nat}{ts:Array Value}{Q:Value->Shared->Prop}(nh:A.handled=none)(hJ:s.heap.IsTupleIter J t k)(hT:s.heap.IsTuple t ts)(hv:ts[k]? = none)
  (q:∀g e,Heap.ExtBut J s.heap g->(∃o,g.get? e=some o/\o.cls=.type "StopIteration")->E (.ref e) { s with heap:=g }):wpAny (model prog w) A (Builtin.SmallTypes.nextOf (.ref J)) Q E s:=by
 obtain⟨oj,gj,cj,dj⟩:=id hJ
 obtain⟨ot,gt,_,nt,dt⟩:=hT
 unfold Builtin.SmallTypes.nextOf
 refine wpAny_bind (wpAny_callSpecial?_slot (name:=Str.ofString "__next__") hJ.typeIs fM (wpAny_call_entry fM hJ.typeIs F.entry_tuple_iterator_next ?_ (F.args_tuple_iterator_next_1 _)))
 show wpAny _ _ (field (.ref J) 0 >>= _) _ _ s
 refine wpAny_bind (wpAny_field gj dj (x:=.ref t) rfl ?_)
 show wpAny _ _ (if (Value.ref t == .none)=true then _ else _) _ _ s
 rw[if_neg (show ¬(Value.ref t == .none)=true from bM)]
 show wpAny _ _ (field (.ref J) 1 >>= _) _ _ s
 refine wpAny_bind (wpAny_field gj dj (x:=.int k 0) rfl ?_)
 show wpAny _ _ (seqItems? (.ref t) >>= _) _ _ s
 refine wpAny_bind (wpAny_seqItems gt dt ?_)
 simp only[eU,hv]
 refine wpAny_bind (wpAny_rule (wpAny_bind (wpAny_setField gj dj (by simp) ?_)))
 show wpAny _ _ (newExc (.type "StopIteration") [] >>= _) _ _ _
 refine wpAny_bind ?_
 simp only[newExc,newTuple]
 refine wpAny_bind (wpAny_newObj_type ?_ (by size_fits))
 refine wpAny_bind (m:=firstArgMember _ _) (wpAny_of_eq (a:=Value.none) (by first|rfl|(simp only[firstArgMember];rfl)) ?_)
 refine wpAny_newObj_type ?_ (by size_fits)
 simp only[raiseNew]
 refine wpAny_bind (wpAny_handled ?_)
 first|rw[show A.in1.handled=none from nh]|rw[nh]
 exact wpAny_bind (wpAny_pure (wpAny_throw (q _ _ (((gB ..).extBut.push _).push _) ⟨_,bK _ rfl,rfl⟩)))
structure ZA(z I O j1 j2 t1 t2:Addr):Prop where
 Iz:I≠z
 Oz:O≠z
 j1z:j1≠z
 j2z:j2≠z
 IO:I≠O
 Ij1:I≠j1
 Ij2:I≠j2
 Oj1:O≠j1
 Oj2:O≠j2
 jj:j1≠j2
 t1z:t1≠z
 t1O:t1≠O
 t1j1:t1≠j1
 t1j2:t1≠j2
 t2z:t2≠z
 t2O:t2≠O
 t2j1:t2≠j1
 t2j2:t2≠j2
abbrev Y8(h:Heap)(a t:Addr)(i:Nat):Prop:=h.IsTupleIter a t i
theorem Y8.at{h g:Heap}{a t:Addr}{i:Nat}(x:h.IsTupleIter a t i)(k:∀o,h.get? a=some o->g.get? a=some o):g.IsTupleIter a t i:=by
 obtain⟨o,e,r⟩:=x
 exact⟨o,k o e,r⟩
theorem y7v{z I O j1 j2 t1 t2:Addr}{k:Nat}{xs ys:Array Value}{x y a b:Value}{Q:Value->Shared->Prop}(D:ZA z I O j1 j2 t1 t2)
  (gz:IsZip s.heap z I O .none) (gI:IsPair s.heap I (.ref j1) (.ref j2)) (gO:IsPair s.heap O a b) (g1:s.heap.IsTupleIter j1 t1 k) (g2:s.heap.IsTupleIter j2 t2 k) (u1:s.heap.IsTuple t1 xs) (u2:s.heap.IsTuple t2 ys) (hx:xs[k]? = some x) (hy:ys[k]? = some y)
  (q:∀g,IsZip g z I O (rawInt s.heap.objs.size)->IsPair g O x y->g.IsTupleIter j1 t1 (k+1)->g.IsTupleIter j2 t2 (k+1)->IsPair g s.heap.objs.size x y->g.objs.size=s.heap.objs.size+1->
   (∀c o,c≠z->c≠O->c≠j1->c≠j2->s.heap.get? c=some o->g.get? c=some o)->Q (.ref s.heap.objs.size) { s with heap:=g }) :
  wpAny (model prog w) A (Builtin.«zip.__next__» ⟨[.ref z],[]⟩) (fun fin s'=>∃v,fin=.done (.ret v)/\Q v s') E s:=by
 show wpAny _ _ (field (.ref z) 2 >>= _) _ _ _
 refine wpAny_bind (wpAny_field gz rfl (x:=.bool false) rfl ?_)
 show wpAny _ _ (field (.ref z) 3 >>= _) _ _ _
 refine wpAny_bind (wpAny_field gz rfl (x:=.ref I) rfl ?_)
 refine wpAny_bind (wpAny_seqItems gI rfl ?_)
 show wpAny _ _ (Builtin.SmallTypes.ownedTupleIsFree (.ref z) >>= _) _ _ _
 refine wpAny_bind ?_
 unfold Builtin.SmallTypes.ownedTupleIsFree
 refine wpAny_bind (wpAny_field gz rfl (x:=.none) rfl (wpAny_pure ?_))
 simp only[if_true]
 refine wpAny_bind (wpAny_rule ?_)
 refine wpAny_bind (wpAny_field gz rfl (x:=.ref O) rfl ?_)
 refine wpAny_bind (wpAny_setField_rec gz (by simp) fun A1 a1 b1=>?_)
 replace a1:IsZip A1 z I O .ellipsis:=a1
 refine wpAny_bind ?_
 simp only[List.zipIdx_cons,List.zipIdx_nil,List.forIn_cons,List.forIn_nil]
 refine wpAny_bind (wpAny_bind (wpAny_onRaise ?_))
 show wpAny _ _ (Builtin.SmallTypes.nextOf (.ref j1) >>= _) _ _ _
 refine wpAny_bind (y4o (g1.extBut b1.extBut D.j1z) (u1.extBut b1.extBut D.t1z) hx fun A2 a2 b2=>wpAny_pure ?_)
 have o2:IsPair A2 O a b:=b2.extBut _ _ D.Oj1 (b1.extBut _ _ D.Oz gO)
 refine wpAny_bind (wpAny_seqItems o2 rfl ?_)
 refine wpAny_bind (wpAny_updateSeq_pair o2 fun A3 o3 b3=>?_)
 replace o3:IsPair A3 O x b:=o3
 refine wpAny_bind (wpAny_letGo (wpAny_pure ?_))
 refine wpAny_bind (wpAny_bind (wpAny_onRaise ?_))
 show wpAny _ _ (Builtin.SmallTypes.nextOf (.ref j2) >>= _) _ _ _
 refine wpAny_bind (y4o (((g2.extBut b1.extBut D.j2z).extBut b2.extBut D.jj.symm).extBut b3.extBut D.Oj2.symm) (((u2.extBut b1.extBut D.t2z).extBut b2.extBut D.t2j1).extBut b3.extBut D.t2O) hy fun A4 a4 b4=>wpAny_pure ?_)
 have o4:IsPair A4 O x b:=b4.extBut _ _ D.Oj2 o3
 refine wpAny_bind (wpAny_seqItems o4 rfl ?_)
 refine wpAny_bind (wpAny_updateSeq_pair o4 fun A5 o5 b5=>?_)
 replace o5:IsPair A5 O x y:=o5
 refine wpAny_bind (wpAny_letGo (wpAny_pure (wpAny_pure ?_)))
 refine wpAny_bind (wpAny_seqItems o5 rfl ?_)
 refine wpAny_bind (wpAny_newTuple ?_)
 have hsz:A5.objs.size=s.heap.objs.size:=by rw[b5.1,b4.1,b3.1,b2.1,b1.1]
 have z5:IsZip A5 z I O .ellipsis:=b5.extBut _ _ D.Oz.symm (b4.extBut _ _ D.j2z.symm (b3.extBut _ _ D.Oz.symm (b2.extBut _ _ D.j1z.symm a1)))
 have k5:∀c o,c≠z->c≠O->c≠j1->c≠j2->s.heap.get? c=some o->A5.get? c=some o:=fun c o c1 c2 c3 c4 e=>b5.extBut _ _ c2 (b4.extBut _ _ c4 (b3.extBut _ _ c2 (b2.extBut _ _ c3 (b1.extBut _ _ c1 e))))
 have e1:A5.IsTupleIter j1 t1 (k+1):=((a2.extBut b3.extBut D.Oj1.symm).extBut b4.extBut D.jj).extBut b5.extBut D.Oj1.symm
 have e2:A5.IsTupleIter j2 t2 (k+1):=a4.extBut b5.extBut D.Oj2.symm
 have lz:z<A5.objs.size:=bQ z5
 show wpAny _ _ (Builtin.SmallTypes.ownedTupleHandOut (.ref z) (.ref A5.objs.size) >>= _) _ _ _
 refine wpAny_bind ?_
 unfold Builtin.SmallTypes.ownedTupleHandOut
 have z6:IsZip (A5.push { cls:=.type "tuple",data:=.seq #[x,y] }) z I O .ellipsis:=bB _ z5
 refine wpAny_bind (wpAny_setField_rec z6 (by simp) fun A7 z7 b7=>?_)
 replace z7:IsZip A7 z I O (rawInt A5.objs.size):=z7
 refine wpAny_setField_rec z7 (by simp) fun A8 z8 b8=>?_
 replace z8:IsZip A8 z I O (rawInt A5.objs.size):=z8
 have up:∀c o,c≠z->A5.get? c=some o->A8.get? c=some o:=fun c o c1 e=>b8.extBut _ _ c1 (b7.extBut _ _ c1 (bB _ e))
 have r8:IsPair A8 A5.objs.size x y:=b8.extBut _ _ (eY lz) (b7.extBut _ _ (eY lz) (bK _ rfl))
 have s8:A8.objs.size=A5.objs.size+1:=by rw[b8.1,b7.1,eI]
 rw[hsz] at z8 r8 s8
 refine wpAny_pure ⟨_,rfl,?_⟩
 show Q (.ref A5.objs.size) _
 rw[hsz]
 exact q A8 z8 (up _ _ D.Oz o5) (Y8.at e1 fun o e=>up _ o D.j1z e) (Y8.at e2 fun o e=>up _ o D.j2z e) r8 s8 fun c o c1 c2 c3 c4 e=>up c o c1 (k5 c o c1 c2 c3 c4 e)
theorem y8K{z I O j1 j2 t1 t2:Addr}{k:Nat}{xs:Array Value}{Q:Fin->Shared->Prop}(nh:A.handled=none)(D:ZA z I O j1 j2 t1 t2)
  (gz:IsZip s.heap z I O .none) (gI:IsPair s.heap I (.ref j1) (.ref j2)) (g1:s.heap.IsTupleIter j1 t1 k) (u1:s.heap.IsTuple t1 xs) (hx:xs[k]? = none)
  (q:∀g e,(∀c o,c≠z->c≠j1->s.heap.get? c=some o->g.get? c=some o)->(∃o,g.get? e=some o/\o.cls=.type "StopIteration")->E (.ref e) { s with heap:=g }) :
  wpAny (model prog w) A (Builtin.«zip.__next__» ⟨[.ref z],[]⟩) Q E s:=by
 show wpAny _ _ (field (.ref z) 2 >>= _) _ _ _
 refine wpAny_bind (wpAny_field gz rfl (x:=.bool false) rfl ?_)
 show wpAny _ _ (field (.ref z) 3 >>= _) _ _ _
 refine wpAny_bind (wpAny_field gz rfl (x:=.ref I) rfl ?_)
 refine wpAny_bind (wpAny_seqItems gI rfl ?_)
 show wpAny _ _ (Builtin.SmallTypes.ownedTupleIsFree (.ref z) >>= _) _ _ _
 refine wpAny_bind ?_
 unfold Builtin.SmallTypes.ownedTupleIsFree
 refine wpAny_bind (wpAny_field gz rfl (x:=.none) rfl (wpAny_pure ?_))
 simp only[if_true]
 refine wpAny_bind (wpAny_rule ?_)
 refine wpAny_bind (wpAny_field gz rfl (x:=.ref O) rfl ?_)
 refine wpAny_bind (wpAny_setField_rec gz (by simp) fun A1 a1 b1=>?_)
 replace a1:IsZip A1 z I O .ellipsis:=a1
 refine wpAny_bind ?_
 simp only[List.zipIdx_cons,List.zipIdx_nil,List.forIn_cons,List.forIn_nil]
 refine wpAny_bind (wpAny_bind (wpAny_onRaise ?_))
 show wpAny _ _ (Builtin.SmallTypes.nextOf (.ref j1) >>= _) _ _ _
 refine wpAny_bind (y8l nh (g1.extBut b1.extBut D.j1z) (u1.extBut b1.extBut D.t1z) hx fun A2 e b2 he=>?_)
 obtain⟨oe,ge,ce⟩:=he
 have z2:IsZip A2 z I O .ellipsis:=b2 _ _ D.j1z.symm a1
 have ne:e≠z:=fun x=>by subst x;rw[z2] at ge;cases ge;simp at ce
 exact wpAny_setField_rec z2 (by simp) fun A3 _ b3=>q A3 e (fun c o c1 c3 x=>b3.extBut _ _ c1 (b2 _ _ c3 (b1.extBut _ _ c1 x))) ⟨oe,b3.extBut _ _ ne ge,ce⟩
theorem y7L{z I O j1 j2 t1 t2:Addr}{k:Nat}{xs ys:Array Value}{x y a b:Value}{Q:Option Value->Shared->Prop}(D:ZA z I O j1 j2 t1 t2)
  (gz:IsZip s.heap z I O .none) (gI:IsPair s.heap I (.ref j1) (.ref j2)) (gO:IsPair s.heap O a b) (g1:s.heap.IsTupleIter j1 t1 k) (g2:s.heap.IsTupleIter j2 t2 k) (u1:s.heap.IsTuple t1 xs) (u2:s.heap.IsTuple t2 ys) (hx:xs[k]? = some x) (hy:ys[k]? = some y)
  (q:∀g,IsZip g z I O (rawInt s.heap.objs.size)->IsPair g O x y->g.IsTupleIter j1 t1 (k+1)->g.IsTupleIter j2 t2 (k+1)->IsPair g s.heap.objs.size x y->g.objs.size=s.heap.objs.size+1->
   (∀c o,c≠z->c≠O->c≠j1->c≠j2->s.heap.get? c=some o->g.get? c=some o)->Q (some (.ref s.heap.objs.size)) { s with heap:=g }):wpAny (model prog w) A (pyNext (.ref z)) Q E s:=by
 have ty:s.TypeIs (.ref z) "zip":=⟨_,gz,rfl⟩
 unfold pyNext
 exact wpAny_bind (wpAny_attempt (wpAny_callSpecial?_slot (name:=Str.ofString "__next__") ty jV (wpAny_call_entry jV ty F.entry_zip_next
  (y7v D gz gI gO g1 g2 u1 u2 hx hy fun g p1 p2 p3 p4 p5 p6 p7=>wpAny_pure (q g p1 p2 p3 p4 p5 p6 p7)) (F.args_zip_next_1 _))))
theorem y8i{z I O j1 j2 t1 t2:Addr}{k:Nat}{xs:Array Value}{Q:Option Value->Shared->Prop}(nh:A.handled=none)(D:ZA z I O j1 j2 t1 t2)
  (gz:IsZip s.heap z I O .none) (gI:IsPair s.heap I (.ref j1) (.ref j2)) (g1:s.heap.IsTupleIter j1 t1 k) (u1:s.heap.IsTuple t1 xs) (hx:xs[k]? = none)
  (q:∀g,(∀c o,c≠z->c≠j1->s.heap.get? c=some o->g.get? c=some o)->Q none { s with heap:=g }):wpAny (model prog w) A (pyNext (.ref z)) Q E s:=by
 have ty:s.TypeIs (.ref z) "zip":=⟨_,gz,rfl⟩
 unfold pyNext
 refine wpAny_bind (wpAny_attempt (wpAny_callSpecial?_slot (name:=Str.ofString "__next__") ty jV (wpAny_call_entry jV ty F.entry_zip_next (y8K nh D gz gI g1 u1 hx fun g e hk he=>?_) (F.args_zip_next_1 _))))
 obtain⟨o,go,co⟩:=he
 exact wpAny_bind (wpAny_isInstance (T:="StopIteration") (b:=true) ⟨o,go,co⟩ isSubtype_stop (wpAny_pure (q _ hk)))
abbrev zq1(h:Heap)(t1:Addr):Heap:=h.push { cls:=.type "tuple_iterator",data:=.fields #[.ref t1,.int 0 0] }
abbrev zq2(h:Heap)(t1 t2:Addr):Heap:=(zq1 h t1).push { cls:=.type "tuple_iterator",data:=.fields #[.ref t2,.int 0 0] }
abbrev zq3(h:Heap)(t1 t2:Addr):Heap:=(zq2 h t1 t2).push { cls:=.type "tuple",data:=.seq #[.ref h.objs.size,.ref (zq1 h t1).objs.size] }
abbrev zq4(h:Heap)(t1 t2:Addr):Heap:=(zq3 h t1 t2).push { cls:=.type "tuple",data:=.seq #[.none,.none] }
abbrev zq5(h:Heap)(t1 t2:Addr):Heap:=(zq4 h t1 t2).push { cls:=.type "zip",data:=.fields #[.none,.bool false,.bool false,.ref (zq2 h t1 t2).objs.size,.ref (zq3 h t1 t2).objs.size] }
theorem y39(t1 t2:Addr)(xs ys:Array Value):Meets (Builtin.«zip.__new__» ⟨[.type "zip",.ref t1,.ref t2],[]⟩) (fun _ R s=>s.heap.IsTuple t1 xs/\s.heap.IsTuple t2 ys/\R (.ok (.ret (.ref (zq4 s.heap t1 t2).objs.size))) { s with heap:=zq5 s.heap t1 t2 }):=
 .of_wp fun prog w A R s h=>by
  obtain⟨hp,g,d,tk,os⟩:=s
  obtain⟨u1,u2,h⟩:=h
  have hsub:=sub_zip
  have v1:Heap.IsTuple (Shared.heap ⟨hp,g,d,tk,os⟩) t1 xs:=u1
  have v2:Heap.IsTuple (Shared.heap ⟨hp.push { cls:=.type "tuple_iterator",data:=.fields #[.ref t1,.int 0 0] },g,d,tk,os⟩) t2 ys:=Heap.IsTuple.push u2 _
  wp_walk using wpAny_pyIter_tuple v1,wpAny_pyIter_tuple v2
  exact⟨_,rfl,h⟩
theorem y45{t1 t2:Addr}{xs ys:Array Value}{Q:Value->Shared->Prop}(u1:s.heap.IsTuple t1 xs)(u2:s.heap.IsTuple t2 ys)
  (h:∀g,IsZip g (s.heap.objs.size+4) (s.heap.objs.size+2) (s.heap.objs.size+3) .none->IsPair g (s.heap.objs.size+2) (.ref s.heap.objs.size) (.ref (s.heap.objs.size+1))->IsPair g (s.heap.objs.size+3) .none .none->g.IsTupleIter s.heap.objs.size t1 0->
   g.IsTupleIter (s.heap.objs.size+1) t2 0->(∀c o,s.heap.get? c=some o->g.get? c=some o)->Q (.ref (s.heap.objs.size+4)) { s with heap:=g }):wpAny (model prog w) A (call (.type "zip") [.ref t1,.ref t2]) Q E s:=by
 refine callType_new F.called_zip (by decide) (F.typeCall_zip_2 _ _) (F.newCall_zip_2 _ _) (fun obj=>F.args_object_init_3 obj _ _) F.entry_zip_new (y39 t1 t2 xs ys) ⟨u1,u2,?_⟩
 have n1:(zq1 s.heap t1).objs.size=s.heap.objs.size+1:=eI ..
 have n2:(zq2 s.heap t1 t2).objs.size=s.heap.objs.size+2:=by rw[eI,n1]
 have n3:(zq3 s.heap t1 t2).objs.size=s.heap.objs.size+3:=by rw[eI,n2]
 have n4:(zq4 s.heap t1 t2).objs.size=s.heap.objs.size+4:=by rw[eI,n3]
 have k5:(zq5 s.heap t1 t2).get? (zq4 s.heap t1 t2).objs.size=some _:=bK _ rfl
 have k4:(zq5 s.heap t1 t2).get? (zq3 s.heap t1 t2).objs.size=some _:=bB _ (bK _ rfl)
 have k3:(zq5 s.heap t1 t2).get? (zq2 s.heap t1 t2).objs.size=some _:=bB _ (bB _ (bK _ rfl))
 have k2:(zq5 s.heap t1 t2).get? (zq1 s.heap t1).objs.size=some _:=bB _ (bB _ (bB _ (bK _ rfl)))
 have k1:(zq5 s.heap t1 t2).get? s.heap.objs.size=some _:=bB _ (bB _ (bB _ (bB _ (bK _ rfl))))
 show _/\_
 rw[n2,n3,n4] at k5
 rw[n1,n2] at k3
 rw[n3] at k4
 rw[n1] at k2
 rw[n4]
 exact⟨⟨_,k5,rfl⟩,h _ k5 k3 k4 ⟨_,k1,rfl,rfl⟩ ⟨_,k2,rfl,rfl⟩ fun c o x=>bB _ (bB _ (bB _ (bB _ (bB _ x))))⟩
theorem y8g{n t1 t2:Nat}(h1:t1<n)(h2:t2<n):ZA (n+4) (n+2) (n+3) n (n+1) t1 t2:=
 have l {a b:Nat} (h:a<b):a≠b:=cL h
 have g {a b:Nat} (h:b<a):a≠b:=eY h
 ⟨l (by lia),l (by lia),l (by lia),l (by lia),l (by lia),g (by lia),g (by lia),g (by lia),g (by lia),l (by lia),l (by lia),l (by lia),l (by lia),l (by lia),l (by lia),l (by lia),l (by lia),l (by lia)⟩
end
end HT
namespace L2
open PySem PySem.Spec PyProof.Rows
theorem Inv.w1m{X:Cx}{pins:List (Addr×Obj)}{σ:St}{H:Hp}{s:Shared}{h':Heap}{fp:List Addr}{T:Addr}{o:HO}{t':Nat}(I:Inv X pins σ H s)(hf:∀b∈fp,Q3 X pins H b)
  (k:∀b u,b∉fp->s.heap.get? b=some u->h'.get? b=some u) (hp:s.heap.objs.size≤T) (new:z1L X.prog X.w (upd H T o) h' T o):Inv X pins σ (upd H T o) { s with heap:=h',toks:=t' }:=by
 have hn:=I.hok.fresh hp
 refine I.step (g':=s.gens) (d':=s.drawn) (ch:=fp) (fun b hb=>⟨(hf b hb).2.2.2.1,(hf b hb).2.1,(hf b hb).2.2.2.2.1,(hf b hb).2.2.2.2.2⟩) (fun b o _ _ hc e _=>k b o hc e) (fun b o _ _ hc e _=>⟨o.slots,k b o hc e⟩)
  (fun b o _ e n=>by rw[z0l (cL (cT (bQ e) hp))];exact n) (fun b o hc e=>⟨o,k b o hc e⟩) (fun b xs e=>by rw[z0l (z0q e hn)];exact e) (fun b o u e=>by rw[z0l (z0q e hn)];exact e)
  (fun b ps e=>⟨#[],by rw[z0l (z0q e hn),e];simp⟩) (fun m hm=>?_) (fun b u e=>?_) I.bare
 ·obtain⟨o,es,ep,ho,r⟩:=hm
  exact⟨o,es,ep,k _ o (fun m=>(hf _ m).2.1 rfl) ho,r⟩
 ·by_cases hb:b=T
  ·subst hb
   rw[z03] at e
   cases e
   exact new
  ·rw[z0l hb] at e
   refine(I.hok b u e).U9 (fun c v hc q=>k c v (fun m=>?_) q) (fun c q=>by rw[z0l (z0q q hn)];exact q) fun c xs q=>by rw[z0l (z0q q hn)];exact q
   have z:=(hf c m).1
   rcases hc with e2|e2
   ·rw[e2,e] at z
    cases z
   ·rw[e2] at z
    cases z
theorem Inv.w1n{X:Cx}{pins:List (Addr×Obj)}{σ:St}{H:Hp}{s:Shared}{h':Heap}{fp:List Addr}{t':Nat}(I:Inv X pins σ H s)(hf:∀b∈fp,Q3 X pins H b)
  (k:∀b u,b∉fp->s.heap.get? b=some u->h'.get? b=some u):Inv X pins σ H { s with heap:=h',toks:=t' }:=by
 refine I.step (g':=s.gens) (d':=s.drawn) (ch:=fp) (fun b hb=>⟨(hf b hb).2.2.2.1,(hf b hb).2.1,(hf b hb).2.2.2.2.1,(hf b hb).2.2.2.2.2⟩) (fun b o _ _ hc e _=>k b o hc e) (fun b o _ _ hc e _=>⟨o.slots,k b o hc e⟩)
  (fun _ _ _ _ n=>n) (fun b o hc e=>⟨o,k b o hc e⟩) (fun _ _ e=>e) (fun _ _ _ e=>e) (fun b ps e=>⟨#[],by rw[e];simp⟩) (fun m hm=>?_) (fun b u e=>?_) I.bare
 ·obtain⟨o,es,ep,ho,r⟩:=hm
  exact⟨o,es,ep,k _ o (fun m=>(hf _ m).2.1 rfl) ho,r⟩
 ·refine(I.hok b u e).U9 (fun c v hc q=>k c v (fun m=>?_) q) (fun _ q=>q) fun _ _ q=>q
  have z:=(hf c m).1
  rcases hc with e2|e2
  ·rw[e2,e] at z
   cases z
  ·rw[e2] at z
   cases z
noncomputable def Itz(K:PySem.W.Frag)(a b:Addr)(n:Nat):It:=
 ⟨fun i H=>i<n/\∃xs ys,SqT K H a xs/\SqT K H b ys/\xs.length=n/\ys.length=n,
  fun i H v H'=>∃T,v=.ref T/\H T=none/\∀xs ys,SqT K H a xs->SqT K H b ys->∃x y,xs[i]? = some x/\ys[i]? = some y/\H'=upd H T (.tup [x,y]),
  fun i H=>n≤i/\∃xs,SqT K H a xs/\xs.length=n⟩
noncomputable def ZSt(z J O j1 j2 a b:Addr)(i:Nat)(h:Heap):Prop:=IsZip h z J O .none/\IsPair h J (.ref j1) (.ref j2)/\(∃u v,IsPair h O u v)/\h.IsTupleIter j1 a i/\h.IsTupleIter j2 b i
theorem y5Y{P:Program}{w:World}{K:PySem.W.Frag}{es:List Expr}{ec:Nat}{tp:Pos}{z J O j1 j2 a b:Addr}(D:HT.ZA z J O j1 j2 a b)(n:Nat):Turn P w K (.Tuple es ec tp) (Itz K a b n) [z,J,O,j1,j2] z (ZSt z J O j1 j2 a b) where
 mem:=by simp
 obj:=fun i h st c hc=>by
  obtain⟨g1,g2,⟨u,v,g3⟩,⟨o4,g4,_,d4⟩,⟨o5,g5,_,d5⟩⟩:=st
  simp only[bF,dD,or_false] at hc
  rcases hc with rfl|rfl|rfl|rfl|rfl
  ·exact⟨_,g1,fun v e=>by cases e⟩
  ·exact⟨_,g2,fun v e=>by cases e⟩
  ·exact⟨_,g3,fun v e=>by cases e⟩
  ·exact⟨_,g4,fun v e=>by rw[d4] at e;cases e⟩
  ·exact⟨_,g5,fun v e=>by rw[d5] at e;cases e⟩
 keep:=fun i h h' st k=>by
  obtain⟨g1,g2,⟨u,v,g3⟩,g4,g5⟩:=st
  exact⟨k _ (by simp) _ g1,k _ (by simp) _ g2,⟨u,v,k _ (by simp) _ g3⟩,HT.Y8.at g4 fun o e=>k _ (by simp) o e,HT.Y8.at g5 fun o e=>k _ (by simp) o e⟩
 item:=by
  intro X hP hw hK hc i pins s σ H E I hf st hg
  subst hP hw hK
  obtain⟨hi,xs,ys,ha,hb,lx,ly⟩:=hg
  obtain⟨its,rv,pa,hz⟩:=I.tuple ha
  obtain⟨M1,rv2,pb,hz2⟩:=I.tuple hb
  have ex:xs[i]? = some xs[i]:=bD (by lia)
  have ey:ys[i]? = some ys[i]:=bD (by lia)
  obtain⟨u,hu,ru⟩:=rv.get ex
  obtain⟨u2,hu2,ru2⟩:=rv2.get ey
  obtain⟨g1,g2,⟨p,q,g3⟩,g4,g5⟩:=st
  refine HT.y7L D g1 g2 g3 g4 g5 (show s.heap.IsTuple a its.toArray from pa) (show s.heap.IsTuple b M1.toArray from pb) (x:=u) (y:=u2) (by simpa using hu) (by simpa using hu2) fun g p1 p2 p3 p4 p5 p6 p7=>⟨_,rfl,wpAny_letOwnedTupleGo_zip p1 fun g' z' sb=>?_⟩
  have nT:∀c∈[z,J,O,j1,j2],s.heap.objs.size≠c:=fun c hc=>by
   obtain⟨o,e⟩:∃o,s.heap.get? c=some o:=by
    simp only[bF,dD,or_false] at hc
    rcases hc with rfl|rfl|rfl|rfl|rfl
    ·exact⟨_,g1⟩
    ·exact⟨_,g2⟩
    ·exact⟨_,g3⟩
    ·obtain⟨o,e,_⟩:=g4;exact⟨o,e⟩
    ·obtain⟨o,e,_⟩:=g5;exact⟨o,e⟩
   exact eY (bQ e)
  have gT:g'.get? s.heap.objs.size=some { cls:=.type "tuple",data:=.seq #[u,u2] }:=sb.extBut _ _ (nT z (by simp)) p5
  have kp:∀c o,c∉[z,J,O,j1,j2]->s.heap.get? c=some o->g'.get? c=some o:=fun c o hc e=>by
   simp only[bF,dD,or_false,not_or] at hc
   exact sb.extBut _ _ hc.1 (p7 c o hc.1 hc.2.2.1 hc.2.2.2.1 hc.2.2.2.2 e)
  have I1:Inv X pins σ (upd H s.heap.objs.size (.tup [xs[i],ys[i]])) { s with heap:=g' }:=Inv.w1m (t':=s.toks) I hf kp (bJ _) ⟨by show 2≤sizeLine;decide,[u,u2],.cons ru (.cons ru2 .nil),⟨_,gT,rfl,⟨_,rfl⟩,rfl⟩⟩
  refine⟨.ref s.heap.objs.size,_,I1,rfl,⟨_,rfl,I.hok.fresh (bJ _),fun xs' ys' hx' hy'=>?_⟩,?_,fun c hc=>?_⟩
  ·rw[I.O8 hx' ha,I.O8 hy' hb]
   exact⟨_,_,ex,ey,rfl⟩
  ·exact⟨z',sb.extBut _ _ D.Iz (p7 _ _ D.Iz D.IO D.Ij1 D.Ij2 g2),⟨_,_,sb.extBut _ _ D.Oz p2⟩,p3.extBut sb.extBut D.j1z,p4.extBut sb.extBut D.j2z⟩
  ·rw[z0l (dG (nT c hc))]
   exact(hf c hc).1
 done:=by
  intro X hP hw hK hc i pins s σ H E I hf st hg
  subst hP hw hK
  obtain⟨hi,xs,ha,lx⟩:=hg
  obtain⟨its,rv,pa,hz⟩:=I.tuple ha
  have hl:=rv.length
  obtain⟨g1,g2,_,g4,_⟩:=st
  refine HT.y8i (I.ok.hd hc) D g1 g2 g4 (show s.heap.IsTuple a its.toArray from pa) (by simp;lia) fun g hk=>⟨rfl,Inv.w1n (t':=s.toks) I hf fun c o hc e=>?_⟩
  simp only[bF,dD,or_false,not_or] at hc
  exact hk c o hc.1 hc.2.2.2.1 e
 self:=fun _ _ _ _ _ st h=>wpAny_pyIter_zip st.1 h
section
variable{X:Cx}{es:List Expr}{ec:Nat}{tp:Pos}
noncomputable def iZip(K:PySem.W.Frag)(ta:TA):TI:=fun σ H R=>ta σ H fun vs H1=>∃a b xs ys,vs=[.ref a,.ref b]/\SqT K H1 a xs/\SqT K H1 b ys/\xs.length=ys.length/\R (Itz K a b xs.length) H1
theorem y8S{e e2:Expr}{ta:TA}{p pos:Pos}(hg:Gl X "zip")(hm:X.mg "zip"=none)(ha:PA X [e,e2] ta)(hs:starEach [e,e2] X.env=(false,eval e X.env)::starEach [e2] X.env:=by rfl)(hs2:(backTo pos (starEach [e2] X.env)).any (·.1)=false:=by rfl):PI X (.Tuple es ec tp) (.Call (.Name "zip" p) [e,e2] [] pos) (iZip X.K ta):=by
 intro pins s σ H R I h
 refine Call_ (z5l I hg hm boot_zip (dX (thn (ha pos pins s σ H _ I h) fun us s1 ⟨vs,H1,I1,r1,q1⟩=>?_) hs hs2))
 obtain⟨a,b,xs,ys,e,hq,hq2,ll,q⟩:=q1
 subst e
 cases r1 with
 | cons r rr=>
  cases rr with
  | cons r' rr'=>
   cases rr'
   cases r
   cases r'
   obtain⟨its,rv,pa,hz⟩:=I1.tuple hq
   obtain⟨M1,rv2,pb,hz2⟩:=I1.tuple hq2
   have la:a<s1.heap.objs.size:=by obtain⟨o,e,_⟩:=pa;exact bQ e
   have lb:b<s1.heap.objs.size:=by obtain⟨o,e,_⟩:=pb;exact bQ e
   refine HT.y45 (show s1.heap.IsTuple a its.toArray from pa) (show s1.heap.IsTuple b M1.toArray from pb) fun g k1 k2 k3 k4 k5 k6=>?_
   refine wpAny_pyIter_zip k1 ?_
   refine⟨s1.heap.objs.size+4,_,_,_,H1,rfl,I1.kept (t':=s1.toks) k6,y5Y (HT.y8g la lb) xs.length,⟨k1,k2,⟨_,_,k3⟩,k4,k5⟩,fun c hc=>?_,q⟩
   have lc:s1.heap.objs.size≤c:=by
    simp only[bF,dD,or_false] at hc
    rcases hc with rfl|rfl|rfl|rfl|rfl
    ·exact jI _ _
    ·exact jI _ _
    ·exact jI _ _
    ·exact bJ _
    ·exact jI _ _
   exact I1.S5 lc (I1.hok.fresh lc)
theorem y6z(hc:X.calm=true):z3R X (.builtin "all") (fun xs H Q=>∃(p:Addr) (bs:List Bool),xs=[.ref p]/\SqL X.K H p (bs.map V.bl)/\Q (.bl (bs.all id)) H):=by
 intro pins s σ H xs us Q I r h
 obtain⟨p,bs,rfl,hq,q⟩:=h
 obtain⟨u,rfl,rx⟩:=z4y r
 cases rx
 obtain⟨its,rv,pl,hz⟩:=I.list hq
 have hl:=rv.length
 rw[bA] at hl
 have lp:p<s.heap.objs.size:=by obtain⟨o,e,_⟩:=pl.isList;exact bQ e
 have vals:∀(i:Nat) (v:Value),its.toArray[i]? = some v->v=.bool (bs.getD i true):=fun i v e=>by
  have e':its[i]? = some v:=by simpa using e
  have hi:i<bs.length:=by have:=(bX.mp e').1;lia
  obtain⟨u,hu,ru⟩:=rv.get (show(bs.map V.bl)[i]? = some (V.bl bs[i]) by rw[bE,bD hi];rfl)
  rw[e'] at hu
  cases hu
  rw[bP,bD hi]
  cases ru
  rfl
 refine call_all_walk (wpAny_pyIter_list pl.isList ?_)
 refine⟨s.heap.objs.size,_,_,_,_,_,fun i=>bs.getD i true,rfl,Walks.list (A:=X.A.in1) (show X.A.in1.handled=none from I.ok.hd hc) s.heap.objs.size p (cL lp) its.toArray,⟨⟨_,bK _ rfl,rfl,rfl⟩,Heap.IsList.push pl.isList _⟩,fun i v s Q E e hQ=>?_,fun h' tk k=>?_⟩
 ·rw[vals i v e]
  exact wpAny_truthy_bool hQ
 ·refine⟨.bl _,H,I.kept (t':=tk) (fun b o e=>k b o (fun m=>?_) (bB _ e)),rfl,?_⟩
  ·have:=bQ e
   rw[bC.mp m] at this
   exact absurd this (dQ _)
  ·have e:(List.range its.toArray.size).all (fun i=>bs.getD i true)=bs.all id:=by
    rw[bO,<- hl,dA,fT,fT]
    constructor
    ·intro h b hb
     obtain⟨i,hi,e⟩:=gH hb
     have:=h i (fQ.mpr hi)
     rw[bP,bD hi,e] at this
     exact this
    ·intro h i hi
     have hi':=fQ.mp hi
     rw[bP,bD hi']
     exact h _ (fG hi')
   rw[e]
   exact q
end
theorem y6b{K:PySem.W.Frag}{a b:Addr}{xs ys:List V}{g:TG}{tc:TT}{te:TE}{σ0:St}{H1:Hp}{F:List V->Hp->Prop}(ll:xs.length=ys.length)(Pv:Nat->List V->Hp->Prop)(h0:Pv 0 [] H1)
  (hl:∀i zs H,i≤xs.length->Pv i zs H->SqT K H a xs/\SqT K H b ys/\zs.length<sizeLine)
  (hs:∀i x y zs H T,xs[i]? = some x->ys[i]? = some y->H T=none->Pv i zs H->z1D g tc te σ0 (.ref T) (upd H T (.tup [x,y])) zs (Pv (i+1))) (hd:∀zs H,Pv xs.length zs H->F zs H):z9Y (Itz K a b xs.length) g tc te σ0 H1 F:=by
 refine⟨fun i m zs H=>m=xs.length-i/\i≤xs.length/\Pv i zs H,⟨xs.length,by simp,cW _,h0⟩,?_⟩
 rintro i m zs H ⟨rfl,hi,p⟩
 obtain⟨q1,q2,z⟩:=hl i zs H hi p
 by_cases hlt:i<xs.length
 ·refine .inr ⟨⟨hlt,xs,ys,q1,q2,rfl,ll.symm⟩,z,Pv (i+1),fun zs' H' p'=>⟨xs.length-(i+1),by lia,rfl,hlt,p'⟩,fun x H' y=>?_⟩
  obtain⟨T,rfl,hT,y⟩:=y
  obtain⟨x1,y1,e1,e2,rfl⟩:=y xs ys q1 q2
  exact hs i x1 y1 zs H T e1 e2 hT p
 ·have e:i=xs.length:=by lia
  subst e
  exact .inl ⟨⟨bJ _,xs,q1,rfl⟩,hd zs H p⟩
theorem y7B{X:Cx}{K:PySem.W.Frag}{e:Expr}{ta:TE}{f:Str}{pos:Pos}(hK:X.K=K)(he:PE X e ta)(hb:attributeBase e f X.env (eval e X.env)=eval e X.env):PE X (.Attribute e f pos) (Z7 K ta f):=by
 subst hK
 exact z0M he hb
theorem y7i{X:Cx}{K:PySem.W.Frag}{tg l:Expr}{tl:TE}(hK:X.K=K)(hl:PE X l tl):PI X tg l (iTup K tl):=by
 subst hK
 exact z26 hl
section
variable{X:Cx}
end
end L2
namespace My
open PySem L2
theorem rdI{α:Sort _}{p q:α->Prop}{a:α}(h1:p a)(h2:q a):∃v,p v/\q v:=⟨a,h1,h2⟩
theorem ex2{t0 t1:Type}{p:t0->t1->Prop}(a0:t0)(a1:t1)(h:p a0 a1):∃a0 a1,p a0 a1:=⟨a0,a1,h⟩
theorem ex3{t0 t1 t2:Type}{p:t0->t1->t2->Prop}(a0:t0)(a1:t1)(a2:t2)(h:p a0 a1 a2):∃a0 a1 a2,p a0 a1 a2:=⟨a0,a1,a2,h⟩
theorem ex4{t0 t1 t2 t3:Type}{p:t0->t1->t2->t3->Prop}(a0:t0)(a1:t1)(a2:t2)(a3:t3)(h:p a0 a1 a2 a3):∃a0 a1 a2 a3,p a0 a1 a2 a3:=⟨a0,a1,a2,a3,h⟩
theorem ex5{t0 t1 t2 t3 t4:Type}{p:t0->t1->t2->t3->t4->Prop}(a0:t0)(a1:t1)(a2:t2)(a3:t3)(a4:t4)(h:p a0 a1 a2 a3 a4):∃a0 a1 a2 a3 a4,p a0 a1 a2 a3 a4:=⟨a0,a1,a2,a3,a4,h⟩
theorem ex6{t0 t1 t2 t3 t4 t5:Type}{p:t0->t1->t2->t3->t4->t5->Prop}(a0:t0)(a1:t1)(a2:t2)(a3:t3)(a4:t4)(a5:t5)(h:p a0 a1 a2 a3 a4 a5):∃a0 a1 a2 a3 a4 a5,p a0 a1 a2 a3 a4 a5:=⟨a0,a1,a2,a3,a4,a5,h⟩
theorem ex7{t0 t1 t2 t3 t4 t5 t6:Type}{p:t0->t1->t2->t3->t4->t5->t6->Prop}(a0:t0)(a1:t1)(a2:t2)(a3:t3)(a4:t4)(a5:t5)(a6:t6)(h:p a0 a1 a2 a3 a4 a5 a6):∃a0 a1 a2 a3 a4 a5 a6,p a0 a1 a2 a3 a4 a5 a6:=⟨a0,a1,a2,a3,a4,a5,a6,h⟩
theorem ex8{t0 t1 t2 t3 t4 t5 t6 t7:Type}{p:t0->t1->t2->t3->t4->t5->t6->t7->Prop}(a0:t0)(a1:t1)(a2:t2)(a3:t3)(a4:t4)(a5:t5)(a6:t6)(a7:t7)(h:p a0 a1 a2 a3 a4 a5 a6 a7):∃a0 a1 a2 a3 a4 a5 a6 a7,p a0 a1 a2 a3 a4 a5 a6 a7:=⟨a0,a1,a2,a3,a4,a5,a6,a7,h⟩
theorem ex9{t0 t1 t2 t3 t4 t5 t6 t7 t8:Type}{p:t0->t1->t2->t3->t4->t5->t6->t7->t8->Prop}(a0:t0)(a1:t1)(a2:t2)(a3:t3)(a4:t4)(a5:t5)(a6:t6)(a7:t7)(a8:t8)(h:p a0 a1 a2 a3 a4 a5 a6 a7 a8):∃a0 a1 a2 a3 a4 a5 a6 a7 a8,p a0 a1 a2 a3 a4 a5 a6 a7 a8:=⟨a0,a1,a2,a3,a4,a5,a6,a7,a8,h⟩
theorem w0q{t0 t1 t2 t3 t4 t5 t6 t7 t8 t9:Type}{p:t0->t1->t2->t3->t4->t5->t6->t7->t8->t9->Prop}(a0:t0)(a1:t1)(a2:t2)(a3:t3)(a4:t4)(a5:t5)(a6:t6)(a7:t7)(a8:t8)(a9:t9)(h:p a0 a1 a2 a3 a4 a5 a6 a7 a8 a9):∃a0 a1 a2 a3 a4 a5 a6 a7 a8 a9,p a0 a1 a2 a3 a4 a5 a6 a7 a8 a9:=⟨a0,a1,a2,a3,a4,a5,a6,a7,a8,a9,h⟩
theorem ex11{t0 t1 t2 t3 t4 t5 t6 t7 t8 t9 t10:Type}{p:t0->t1->t2->t3->t4->t5->t6->t7->t8->t9->t10->Prop}(a0:t0)(a1:t1)(a2:t2)(a3:t3)(a4:t4)(a5:t5)(a6:t6)(a7:t7)(a8:t8)(a9:t9)(a10:t10)(h:p a0 a1 a2 a3 a4 a5 a6 a7 a8 a9 a10):∃a0 a1 a2 a3 a4 a5 a6 a7 a8 a9 a10,p a0 a1 a2 a3 a4 a5 a6 a7 a8 a9 a10:=⟨a0,a1,a2,a3,a4,a5,a6,a7,a8,a9,a10,h⟩
theorem ex12{t0 t1 t2 t3 t4 t5 t6 t7 t8 t9 t10 t11:Type}{p:t0->t1->t2->t3->t4->t5->t6->t7->t8->t9->t10->t11->Prop}(a0:t0)(a1:t1)(a2:t2)(a3:t3)(a4:t4)(a5:t5)(a6:t6)(a7:t7)(a8:t8)(a9:t9)(a10:t10)(a11:t11)(h:p a0 a1 a2 a3 a4 a5 a6 a7 a8 a9 a10 a11):∃a0 a1 a2 a3 a4 a5 a6 a7 a8 a9 a10 a11,p a0 a1 a2 a3 a4 a5 a6 a7 a8 a9 a10 a11:=⟨a0,a1,a2,a3,a4,a5,a6,a7,a8,a9,a10,a11,h⟩
theorem ex14{t0 t1 t2 t3 t4 t5 t6 t7 t8 t9 t10 t11 t12 t13:Type}{p:t0->t1->t2->t3->t4->t5->t6->t7->t8->t9->t10->t11->t12->t13->Prop}(a0:t0)(a1:t1)(a2:t2)(a3:t3)(a4:t4)(a5:t5)(a6:t6)(a7:t7)(a8:t8)(a9:t9)(a10:t10)(a11:t11)(a12:t12)(a13:t13)(h:p a0 a1 a2 a3 a4 a5 a6 a7 a8 a9 a10 a11 a12 a13):∃a0 a1 a2 a3 a4 a5 a6 a7 a8 a9 a10 a11 a12 a13,p a0 a1 a2 a3 a4 a5 a6 a7 a8 a9 a10 a11 a12 a13:=⟨a0,a1,a2,a3,a4,a5,a6,a7,a8,a9,a10,a11,a12,a13,h⟩
def top(i:Nat):Stmt:=PySem.Challenge.pw_backissues_k46_whole_any_deed.main.body.getD i (.Pass ⟨0,0,0,0⟩)
abbrev z2F:Stmt:=top 20
abbrev z2K:Stmt:=top 21
abbrev z3e:Stmt:=top 22
abbrev z2b:Stmt:=top 23
abbrev z31:Stmt:=top 25
abbrev z5X:Stmt:=top 26
abbrev z6H:Stmt:=top 27
abbrev z1Y:Stmt:=top 28
abbrev z4a:Stmt:=top 29
abbrev z29:Stmt:=top 30
abbrev z8e:Stmt:=top 32
abbrev z2I:Stmt:=top 34
abbrev z35:Stmt:=top 35
abbrev z3L:Stmt:=top 36
abbrev z3H:Stmt:=top 37
abbrev z30:Stmt:=z1s (top 38) 0
abbrev z1K:Stmt:=z1s (top 38) 1
abbrev z45:Stmt:=z1s (top 38) 2
abbrev z3E:Stmt:=z1s (top 38) 3
abbrev z42:Stmt:=z1s (top 38) 4
abbrev z3f:Stmt:=z1s (top 40) 0
abbrev z6O:Stmt:=z1s (top 40) 1
abbrev z7e:Stmt:=z1s (top 40) 2
abbrev z49:Stmt:=z1s (top 40) 3
abbrev z3M:Stmt:=z1s (top 40) 4
abbrev z3D:Stmt:=z1s (top 40) 5
abbrev z2j:Stmt:=top 44
abbrev z3N:Stmt:=z1s (top 45) 0
abbrev z1b:Stmt:=z1s (top 45) 1
abbrev z1r:Stmt:=z1s (top 45) 2
abbrev z5T:Stmt:=z1s (top 45) 3
abbrev z4d:Stmt:=z1s (top 45) 4
abbrev z4A:Stmt:=z1s (top 45) 5
abbrev z5Q:Stmt:=z1s (top 45) 6
abbrev z5K:Stmt:=z1s (top 45) 7
abbrev z77:Stmt:=z1s (top 45) 8
abbrev z5I:Stmt:=z1s (top 45) 9
abbrev z8E:Stmt:=top 50
abbrev z3B:Stmt:=top 51
abbrev y0a:Stmt:=top 52
abbrev z6B:Stmt:=top 53
abbrev z8g:Stmt:=top 54
abbrev z3m:Stmt:=top 55
abbrev z6T:Stmt:=top 56
abbrev z5Y:Stmt:=top 58
abbrev z7c:Stmt:=top 59
abbrev z73:Stmt:=top 60
abbrev y7z:Stmt:=top 61
abbrev z5W:Stmt:=top 62
abbrev z4e:Stmt:=top 63
abbrev z4J:Stmt:=top 64
abbrev z4D:Stmt:=top 65
abbrev z9S:Stmt:=top 67
abbrev z3r:Stmt:=top 69
abbrev z8R:Stmt:=top 70
abbrev y0d:Stmt:=top 72
abbrev z6W:Stmt:=top 73
abbrev z9e:Stmt:=top 74
abbrev z5L:Stmt:=top 75
abbrev z57:Stmt:=top 76
abbrev z5O:Stmt:=top 77
abbrev z44:Stmt:=top 78
abbrev z72:Stmt:=top 79
abbrev z5S:Stmt:=top 80
abbrev z4U:Stmt:=top 81
abbrev z4F:Stmt:=top 82
abbrev z6D:Stmt:=top 83
abbrev z6J:Stmt:=top 84
abbrev z5A:Stmt:=top 85
abbrev z5U:Stmt:=top 86
abbrev z5Z:Stmt:=top 87
abbrev z75:Stmt:=top 88
abbrev z5y:Stmt:=top 89
abbrev z4M:Stmt:=top 90
abbrev z3n:Stmt:=top 91
abbrev z6Q:Stmt:=top 92
abbrev z5N:Stmt:=top 93
abbrev z5z:Stmt:=top 94
abbrev z4T:Stmt:=top 95
abbrev z6I:Stmt:=top 96
abbrev z3p:Stmt:=top 97
abbrev z3C:Stmt:=top 98
abbrev z4m:Stmt:=top 99
abbrev w0o:Stmt:=top 100
abbrev z2M:List Str:=["names"]
abbrev z2E:List Str:=["reach"]
abbrev z2q:List Str:=["names","reach"]
abbrev z1w:List Str:=["names","name"]
abbrev z32:List Str:=["had"]
abbrev z5D:List Str:=["number","reach"]
abbrev z7d:List Str:=["had","number","reach"]
abbrev z1n:List Str:=["had","reach"]
abbrev z2y:List Str:=["had","reach"]
abbrev z17:List Str:=["had","reach","behind"]
abbrev z8n:List Str:=["sets","reach"]
abbrev z2H:List Str:=["value"]
abbrev z34:List Str:=["names","rows"]
abbrev z3G:List Str:=["names","rows"]
abbrev z2O:List Str:=["rows"]
abbrev z33:List Str:=["self","names","reach"]
abbrev z1f:List Str:=["self","rows"]
abbrev z4f:List Str:=["self","rows"]
abbrev z3I:List Str:=["self"]
abbrev z2u:List Str:=["self","number"]
abbrev z3u:List Str:=["self","names","reach"]
abbrev z6V:List Str:=["self","issue"]
abbrev z1l:List Str:=["self"]
abbrev z4i:List Str:=["self"]
abbrev z2Q:List Str:=["self","number"]
abbrev z3J:List Str:=["self","number"]
abbrev z2l:List Str:=["readers"]
abbrev z3K:List Str:=["self","names","reach","readers"]
abbrev z0Y:List Str:=["self","reader"]
abbrev z13:List Str:=["self"]
abbrev z5R:List Str:=["self","rows"]
abbrev z4l:List Str:=["self","reader","number"]
abbrev z7H:List Str:=["self"]
abbrev z8b:List Str:=["self","number"]
abbrev z5E:List Str:=["self"]
abbrev z9J:List Str:=["self","which"]
abbrev z2G:List Str:=["self","reader","deed"]
abbrev z2T:List Str:=["shelf","name"]
abbrev z3F:List Str:=["shelf","number","teller"]
abbrev z61:List Str:=["shelf"]
abbrev z5c:List Str:=["shelf","name"]
abbrev z3q:List Str:=["shelf","name"]
abbrev z2x:List Str:=["shelf","name"]
abbrev z6U:List Str:=["shelf"]
abbrev z4b:List Str:=["shelf"]
abbrev z78:List Str:=["names","chosen"]
abbrev z7f:List Str:=["names","known","chosen"]
abbrev y7Z:List Str:=["shelf","course"]
abbrev z46:List Str:=["power"]
abbrev z39:List Str:=["shelf"]
abbrev z4O:List Str:=["shelf","name"]
abbrev z53:List Str:=["shelf","name"]
abbrev y03:List Str:=["book","reader","name"]
abbrev z3j:List Str:=["had","reach","behind"]
abbrev z55:List Str:=["shelf","name"]
abbrev z7V:List Str:=["_law_script","_law_k"]
abbrev z3S:List Str:=["_law_cell","_law_size"]
abbrev z6l:List Str:=["_law_cell","_law_many","_law_size"]
abbrev z5H:List Str:=["_law_found"]
abbrev z1E:List Str:=["_law_found","_law_due"]
abbrev z5P:List Str:=["_law_cell","_law_many"]
abbrev z2z:List Str:=["_law_times"]
abbrev z7b:List Str:=["_law_names_here","_law_cell","_law_many"]
abbrev z5J:List Str:=["_law_figure","_law_place"]
abbrev z4B:List Str:=["_law_sets_here","_law_cell"]
abbrev z2W:List Str:=["_law_had","_law_number","_law_reach"]
abbrev z41:List Str:=["_law_had","_law_rows","_law_reach"]
abbrev z3T:List Str:=["_law_had","_law_rows","_law_name"]
abbrev z4n:List Str:=["_law_gaps_here","_law_number","_law_name"]
abbrev z2L:List Str:=["_law_gaps_here","_law_number","_law_name"]
abbrev z4k:List Str:=["_law_names_here","_law_had","_law_rows","_law_reach"]
abbrev z59:List Str:=["_law_had","_law_reach"]
abbrev z5M:List Str:=["_law_had","_law_rows","_law_reach"]
abbrev z4R:List Str:=["_law_found","_law_names_here","_law_known_here"]
abbrev z3l:List Str:=["_law_course_here","_law_number","_law_name"]
abbrev z6C:List Str:=["_law_found","_law_had","_law_reach","_law_behind"]
abbrev z5v:List Str:=["_law_script"]
abbrev z5x:List Str:=["_law_cells","_law_many","_law_first","_law_readers"]
abbrev z4S:List Str:=["_law_log","_law_reader","_law_done"]
abbrev z7g:List Str:=["_law_book","_law_log","_law_rows"]
abbrev z3g:List Str:=["_law_shelf","_law_names_here","_law_name","_law_known_here","_law_gaps_here","_law_held_here"]
abbrev z3O:List Str:=["_law_shelf","_law_names_here","_law_had","_law_rows","_law_reach"]
abbrev z4j:List Str:=["_law_shelf","_law_names_here","_law_had","_law_rows","_law_reach"]
abbrev plaw:List Str:=["_law_script"]
theorem z3y:A9 ["names"] z2M (z07 z2F):=scp
theorem z3w:A9 ["reach"] z2E (z07 z2K):=scp
theorem z4s:A9 ["names","reach"] z2q (z07 z3e):=scp
theorem z2U:A9 ["names","name"] z1w (z07 z2b):=scp
theorem z3W:A9 ["had","latest"] z32 (z07 z31):=scp
theorem z7l:A9 ["number","reach"] z5D (z07 z5X):=scp
theorem z88:A9 ["had","number","reach","tellers"] z7d (z07 z6H):=scp
theorem z2D:A9 ["had","reach"] z1n (z07 z1Y):=scp
theorem z5m:A9 ["had","reach"] z2y (z07 z4a):=scp
theorem z2V:A9 ["had","reach","behind"] z17 (z07 z29):=scp
theorem z9D:A9 ["sets","reach","number","ahead"] z8n (z07 z8e):=scp
theorem z3A:A9 ["value"] z2H (z07 z2I):=scp
theorem z3Y:A9 ["names","rows","set_names","name","value"] z34 (z07 z35):=scp
theorem z4W:A9 ["names","rows","values"] z3G (z07 z3L):=scp
theorem z4z:A9 ["rows"] z2O (z07 z3H):=scp
theorem z3U:A9 ["self","names","reach"] z33 (z07 z30):=scp
theorem z2w:A9 ["self","rows"] z1f (z07 z1K):=scp
theorem z5n:A9 ["self","rows","number","sets"] z4f (z07 z45):=scp
theorem z4L:A9 ["self"] z3I (z07 z3E):=scp
theorem z5p:A9 ["self","number"] z2u (z07 z42):=scp
theorem z4p:A9 ["self","names","reach"] z3u (z07 z3f):=scp
theorem z87:A9 ["self","issue","number"] z6V (z07 z6O):=scp
theorem z8x:A9 ["self"] z1l (z07 z7e):=scp
theorem z5k:A9 ["self"] z4i (z07 z49):=scp
theorem z52:A9 ["self","number"] z2Q (z07 z3M):=scp
theorem z54:A9 ["self","number"] z3J (z07 z3D):=scp
theorem z36:A9 ["readers"] z2l (z07 z2j):=scp
theorem z4V:A9 ["self","names","reach","readers"] z3K (z07 z3N):=scp
theorem z1M:A9 ["self","reader"] z0Y (z07 z1b):=scp
theorem z27:A9 ["self"] z13 (z07 z1r):=scp
theorem z7m:A9 ["self","rows","number"] z5R (z07 z5T):=scp
theorem z5o:A9 ["self","reader","number","getting","lacked"] z4l (z07 z4d):=scp
theorem z63:A9 ["self"] z7H (z07 z4A):=scp
theorem z7L:A9 ["self","number"] z8b (z07 z5Q):=scp
theorem z7j:A9 ["self"] z5E (z07 z5K):=scp
theorem z8J:A9 ["self","which"] z9J (z07 z77):=scp
theorem z7n:A9 ["self","reader","deed","behind","told","past"] z2G (z07 z5I):=scp
theorem z9s:A9 ["shelf","name","number","values"] z2T (z07 z8E):=scp
theorem z4C:A9 ["shelf","number","teller"] z3F (z07 z3B):=scp
theorem y10:A9 ["shelf","lacking"] z61 (z07 y0a):=scp
theorem z8H:A9 ["shelf","name","held_from"] z5c (z07 z6B):=scp
theorem z9I:A9 ["shelf","name","held_from","dark_behind"] z3q (z07 z8g):=scp
theorem z4v:A9 ["shelf","name"] z2x (z07 z3m):=scp
theorem z8c:A9 ["shelf"] z6U (z07 z6T):=scp
theorem z7w:A9 ["shelf","sets","number","teller","names"] z4b (z07 z5Y):=scp
theorem z8i:A9 ["names","chosen"] z78 (z07 z7c):=scp
theorem z8z:A9 ["names","known","chosen"] z7f (z07 z73):=scp
theorem y6N:A9 ["shelf","course","sets"] y7Z (z07 y7z):=scp
theorem z7v:A9 ["power","product","step"] z46 (z07 z5W):=scp
theorem z5j:A9 ["shelf","dark"] z39 (z07 z4e):=scp
theorem z6q:A9 ["shelf","name","state","count","held_from","dark_behind","not_again"] z4O (z07 z4J):=scp
theorem z6o:A9 ["shelf","name","not_again","latest_dark","again"] z53 (z07 z4D):=scp
theorem y0z:A9 ["book","reader","name","rows","which","now"] y03 (z07 z9S):=scp
theorem z4r:A9 ["had","reach","behind","fewest","apart","dark"] z3j (z07 z3r):=scp
theorem z9o:A9 ["shelf","name","asked","held_from"] z55 (z07 z8R):=scp
theorem y18:A9 ["_law_script","_law_k"] z7V (z07 y0d):=scp
theorem z85:A9 ["_law_cell","_law_size","_law_once"] z3S (z07 z6W):=scp
theorem z9r:A9 ["_law_cell","_law_many","_law_size","_law_rest","_law_mixed","_law_figures","_law_k"] z6l (z07 z9e):=scp
theorem z7t:A9 ["_law_found"] z5H (z07 z5L):=scp
theorem z8d:A9 ["_law_found","_law_due","_law_k"] z1E (z07 z57):=scp
theorem z7I:A9 ["_law_cell","_law_many","_law_signs","_law_turn","_law_stem","_law_spot"] z5P (z07 z5O):=scp
theorem z5r:A9 ["_law_times","_law_many","_law_turn"] z2z (z07 z44):=scp
theorem z8X:A9 ["_law_names_here","_law_cell","_law_many","_law_size","_law_sets_here","_law_figure","_law_mask","_law_chosen","_law_name"] z7b (z07 z72):=scp
theorem z7o:A9 ["_law_figure","_law_place"] z5J (z07 z5S):=scp
theorem z6z:A9 ["_law_sets_here","_law_cell","_law_figures","_law_rows","_law_k","_law_one","_law_place"] z4B (z07 z4U):=scp
theorem z6h:A9 ["_law_had","_law_number","_law_reach","_law_above"] z2W (z07 z4F):=scp
theorem z8G:A9 ["_law_had","_law_rows","_law_reach","_law_gaps_here","_law_number","_law_teller_here"] z41 (z07 z6D):=scp
theorem z8w:A9 ["_law_had","_law_rows","_law_name","_law_held_here","_law_number","_law_row_here"] z3T (z07 z6J):=scp
theorem z7G:A9 ["_law_gaps_here","_law_number","_law_name"] z4n (z07 z5A):=scp
theorem z7K:A9 ["_law_gaps_here","_law_number","_law_name"] z2L (z07 z5U):=scp
theorem z7C:A9 ["_law_names_here","_law_had","_law_rows","_law_reach","_law_gaps_here","_law_table_here","_law_name","_law_held_here"] z4k (z07 z5Z):=scp
theorem z8o:A9 ["_law_had","_law_reach","_law_dark_here","_law_number"] z59 (z07 z75):=scp
theorem z7r:A9 ["_law_had","_law_rows","_law_reach","_law_known_here","_law_number"] z5M (z07 z5y):=scp
theorem z6j:A9 ["_law_found","_law_names_here","_law_known_here","_law_k","_law_places","_law_name","_law_j"] z4R (z07 z4M):=scp
theorem z4t:A9 ["_law_course_here","_law_number","_law_name","_law_k"] z3l (z07 z3n):=scp
theorem z8C:A9 ["_law_found","_law_had","_law_reach","_law_behind","_law_part","_law_k","_law_need","_law_number","_law_dark_here"] z6C (z07 z6Q):=scp
theorem z7s:A9 ["_law_script"] z5v (z07 z5N):=scp
theorem z7x:A9 ["_law_cells","_law_many","_law_first","_law_readers","_law_log","_law_written","_law_cell","_law_rest","_law_k","_law_reader","_law_number","_law_jump","_law_other"] z5x (z07 z5z):=scp
theorem z6a:A9 ["_law_log","_law_reader","_law_done","_law_had","_law_deed"] z4S (z07 z4T):=scp
theorem z8B:A9 ["_law_book","_law_log","_law_rows","_law_deed"] z7g (z07 z6I):=scp
theorem z4u:A9 ["_law_shelf","_law_names_here","_law_name","_law_known_here","_law_gaps_here","_law_held_here","_law_state_here","_law_again_here","_law_pair"] z3g (z07 z3p):=scp
theorem z4I:A9 ["_law_shelf","_law_names_here","_law_had","_law_rows","_law_reach","_law_gaps_here","_law_known_here","_law_least","_law_name","_law_held_here"] z3O (z07 z3C):=scp
theorem z5q:A9 ["_law_shelf","_law_names_here","_law_had","_law_rows","_law_reach","_law_gaps_here","_law_name","_law_number","_law_every","_law_behind","_law_due","_law_truth"] z4j (z07 z4m):=scp
theorem y8m:A9 ["_law_script","_law_names_here","_law_rows","_law_reach","_law_readers","_law_log","_law_book","_law_reader","_law_deed","_law_had","_law_shelf","_law_found","_law_last"] plaw (z07 w0o):=scp
structure L4(K:PySem.W.Frag)(mg:Str->Option Value)(C:Addr):Prop where
 cl:Cls K C
 mgC:mg "Office"=some (.ref C)
 n_names:z3s K C "names"
 n_reach:z3s K C "reach"
 n_written:z3s K C "written"
structure D7(K:PySem.W.Frag)(mg:Str->Option Value)(C:Addr):Prop where
 cl:Cls K C
 mgC:mg "Shelf"=some (.ref C)
 n_names:z3s K C "names"
 n_reach:z3s K C "reach"
 n_issues:z3s K C "issues"
structure L9(K:PySem.W.Frag)(mg:Str->Option Value)(C:Addr):Prop where
 cl:Cls K C
 mgC:mg "Book"=some (.ref C)
 n_office:z3s K C "office"
 n_readers:z3s K C "readers"
 n_done:z3s K C "done"
structure Bl(mg:Str->Option Value):Prop where
 len:mg "len"=none
 range:mg "range"=none
 tuple:mg "tuple"=none
 list:mg "list"=none
 max:mg "max"=none
 min:mg "min"=none
 sorted:mg "sorted"=none
 isinstance:mg "isinstance"=none
 bool:mg "bool"=none
 int:mg "int"=none
 str:mg "str"=none
 set:mg "set"=none
 reversed:mg "reversed"=none
 dict:mg "dict"=none
 zip:mg "zip"=none
 all:mg "all"=none
 MOST_NAMES:∃t,mg "MOST_NAMES"=some (.int 12 t)
 MOST_REACH:∃t,mg "MOST_REACH"=some (.int 10 t)
 MOST_NUMBERS:∃t,mg "MOST_NUMBERS"=some (.int 60 t)
 MOST_VALUE:∃t,mg "MOST_VALUE"=some (.int 1000000 t)
 MOST_READERS:∃t,mg "MOST_READERS"=some (.int 10 t)
 MOST_DEEDS:∃t,mg "MOST_DEEDS"=some (.int 400 t)
 WRITE:∃t,mg "WRITE"=some (.str "write" t)
 DELIVER:∃t,mg "DELIVER"=some (.str "deliver" t)
 SURE:∃t,mg "SURE"=some (.str "sure" t)
 STALE:∃t,mg "STALE"=some (.str "stale" t)
 OPEN:∃t,mg "OPEN"=some (.str "open" t)
theorem z01{H:Hp}{p:Addr}(h:H p=none)(o:HO):B0 H (upd H p o):=fun b u q=>by rw[z0l (z0q q h)];exact q
theorem z2g{H H':Hp}{l:Addr}{o:HO}(hs:B0 H H')(hl:H l=none):B0 H (upd H' l o):=fun b u e=>by rw[z0l (z0q e hl)];exact hs b u e
theorem y0f{n:Nat}(h:n≤1000):n≤sizeLine:=dR (z0f h)
theorem z6Y{ns:List Int}{k:Int}(h0:0≤k)(h:k<(ns.length:Int)):atI (ns.map V.int) k=some (.int (ns.getD k.toNat 0)):=by
 have hk:k.toNat<ns.length:=by lia
 have ek:k=((k.toNat:Nat):Int):=by lia
 have q:atI (ns.map V.int) ((k.toNat:Nat):Int)=some (.int (ns.getD k.toNat 0)):=z0V (by
  rw[bE,bD hk,bP,bD hk]<;>rfl)
 rw[<- ek] at q
 exact q
theorem z6d{K:PySem.W.Frag}{H H':Hp}{a:Addr}{xs:List V}(e:B0 H H')(h:SqT K H a xs):SqT K H' a xs:=by
 rcases h with (h|⟨o,h⟩)|h
 ·exact .inl (.inl (e _ _ h))
 ·exact .inl (.inr ⟨o,e _ _ h⟩)
 ·exact .inr h
theorem z0K{p:Prop}[Decidable p](h:decide p=true):p:=of_decide_eq_true h
theorem z3Z{p:Prop}[Decidable p](h:¬decide p=true):¬p:=fun q=>h (decide_eq_true q)
section
variable{P:Program}{w:World}{K:PySem.W.Frag}{mg:Str->Option Value}{base:Heap}{f:Addr}{fd:FuncData}
theorem z1P:∀{l1 l2:List Int},l1.Pairwise (· < ·)->l2.Pairwise (· < ·)->(∀x,x∈l1↔x∈l2)->l1=l2
 | [],[],_,_,_=>rfl
 | [],y::_,_,_,h=>by have:=(h y).mpr cI;cases this
 | x::_,[],_,_,h=>by have:=(h x).mp cI;cases this
 | x::r,y::t,p1,p2,h=>by
  rw[kB] at p1 p2
  have e:x=y:=by
   rcases bF.mp ((h x).mp cI) with e|hx
   ·exact e
   ·rcases bF.mp ((h y).mpr cI) with e|hy
    ·exact e.symm
    ·have:=p1.1 y hy
     have:=p2.1 x hx
     lia
  subst e
  refine congrArg (x::·) (z1P p1.2 p2.2 fun z=>⟨fun hz=>?_,fun hz=>?_⟩)
  ·rcases bF.mp ((h z).mp (cG _ hz)) with e|q
   ·have:=p1.1 z hz
    lia
   ·exact q
  ·rcases bF.mp ((h z).mpr (cG _ hz)) with e|q
   ·have:=p2.1 z hz
    lia
   ·exact q
theorem z1Q(lo:Int):∀n,(upI lo n).Pairwise (· < ·)
 | 0=>List.Pairwise.nil
 | n+1=>by
  rw[z6f]
  refine d8.mpr ⟨z1Q lo n,fB _ _,fun x hx y hy=>?_⟩
  have h1:=z1i.mp hx
  rw[bC.mp hy]
  lia
theorem y84(lo:Int)(n:Nat):T6 lo n=(upI lo n).map V.int:=by
 unfold T6 upI
 rw[eF]
 rfl
noncomputable def w0z(K:PySem.W.Frag):Sp:=fun vs H Q _=>∃(a:Addr) (ns:List Int) (k:Int),vs=[.ref a,.int k]/\SqL K H a (ns.map V.int)/\0≤k/\Q (.int (ns.getD k.toNat 0)) H
theorem w0Y(M:Bl mg)(F:Fun K "_law_at" "_law_at" y0d f fd):B4 P w K mg base CX0 1 f fd z7V (w0z K):=by
 have nd:=y18.nd
 refine F.ok y18 (fun vs H Q E h=>?_) (fun cdv A outer s H vs Q E hr h=>?_)
 ·obtain⟨a,ns,k,rfl,_⟩:=h
  rfl
 obtain⟨a,ns,k,rfl,hS,h0,q⟩:=h
 refine⟨_,(z04 (z0C (z0c z8l (pv 1) (z0b z09 rfl M.len bN (z00 (pv 0) z02)) (z0m _)) (z05 (z0i (z0A z1j (pv 0) (pv 1) (fun _ _=>rfl)))) z0k) (z05 (z0i z06))),?_⟩
 have hl:(ns.map V.int).length=ns.length:=bA _
 refine(rdI rfl (rdI rfl (ex2 a _ ⟨rfl,.inl hS,(ex2 _ _ ⟨rfl,rfl,(rdI rfl ?_)⟩)⟩)))
 refine B9 (fun c=>?_) (fun c=>?_)
 ·have c':=z0K c
  rw[hl] at c'
  exact(rdI rfl (rdI rfl (ex4 a _ _ _ ⟨rfl,rfl,hS,z6Y h0 c',q⟩)))
 ·have c':=z3Z c
  rw[hl] at c'
  have e:ns.getD k.toNat 0=0:=by rw[bP,jO (by lia)];rfl
  rw[e] at q
  exact q
noncomputable def y2v:Sp:=fun vs H Q _=>∃c n:Int,vs=[.int c,.int n]/\0<n/\∀r,0≤r->r<n->Q (.int r) H
theorem y87(F:Fun K "_law_pick" "_law_pick" z6W f fd):B4 P w K mg base CX0 1 f fd z3S y2v:=by
 have nd:=z85.nd
 refine F.ok z85 (fun vs H Q E h=>?_) (fun cdv A outer s H vs Q E hr h=>?_)
 ·obtain⟨c,n,rfl,_⟩:=h
  rfl
 obtain⟨c,n,rfl,hn,q⟩:=h
 refine⟨_,(z04 (z0C (z0c z28 (z0r z19 (pv 0) z06) z06 (z0m _)) (z05 (z0i (z0r z19 (z0r z1B (pv 0) z06) (pv 1)))) z0k) (z04 (z0o (i:=2) nd rfl (Or.inl rfl) (z0r z19 (z0r z3P (z0r z1B (pv 0) z06) z06) z06)) (z05 (z0i (z0r z19 (z0r z19 (z0r z3P (z0r z1o (pv 2) z06) z06) z06) (pv 1)))))),?_⟩
 refine(rdI rfl (ex2 _ _ ⟨rfl,rfl,(by show(0:Int)<2;decide),rfl,(rdI rfl ?_)⟩))
 refine B9 (fun _=>?_) (fun _=>?_)
 ·exact(rdI rfl (ex2 _ _ ⟨rfl,rfl,⟨by decide,by decide⟩,(rdI rfl (ex2 _ _ ⟨rfl,rfl,hn,q _ (cY _ (by lia)) (cQ _ hn)⟩))⟩))
 ·refine(rdI rfl (ex2 _ _ ⟨rfl,rfl,⟨by decide,by decide⟩,(ex2 _ _ ⟨rfl,rfl,.inr ⟨by decide,by decide⟩,(ex2 _ _ ⟨rfl,rfl,(by show(0:Int)<2147483647;decide),?_⟩)⟩)⟩))
  refine(rdI rfl (ex2 _ _ ⟨rfl,rfl,(ex2 _ _ ⟨rfl,rfl,.inr ⟨by decide,by decide⟩,(ex2 _ _ ⟨rfl,rfl,(by show(0:Int)<2147483647;decide),(rdI rfl (ex2 _ _ ⟨rfl,rfl,hn,?_⟩))⟩)⟩)⟩))
  exact q _ (cY _ (by lia)) (cQ _ hn)
noncomputable def z7D:Nat->Sp
 | 0=>fun _ _ _ _=>False
 | n+1=>fun vs H Q _=>∃x y,vs=[x,y]/\z4P H n x y/\∀H',B0 H H'->Q (.bl true) H'
theorem y3H:B4 P w K mg base CX0 0 f fd z1E (z7D 0):=
 ⟨fun vs H Q E h=>h.elim,fun A outer s H args us vs Q E _ _ _ _ h=>h.elim⟩
noncomputable def tyOf:V->String
 | .non=>"NoneType"
 | .bl _=>"bool"
 | .int _=>"int"
 | _=>"str"
theorem z4H{H:Hp}{x:V}(h:y3q x=true):Q8 K H x (.type (tyOf x)):=by
 cases x with
 | non=>exact .non
 | bl b=>exact .bl b
 | int i=>exact .int i
 | str z=>exact .str z
 | _=>exact absurd h bM
noncomputable def kitB:V->String->Bool
 | .bl _,T=>T == "bool" || T == "int"
 | .int _,T=>T == "int"
 | .str _,T=>T == "str"
 | _,_=>false
theorem z47(T:String)(hT:T="tuple"\/T="bool"\/T="int"\/T="str"){x:V}(h:y3q x=true):PySem.W.kitOne K (.type (tyOf x)) (.type T)=some (kitB x T):=by
 cases x with
 | non=>rcases hT with rfl|rfl|rfl|rfl<;>kernel_rfl
 | bl b=>rcases hT with rfl|rfl|rfl|rfl<;>kernel_rfl
 | int i=>rcases hT with rfl|rfl|rfl|rfl<;>kernel_rfl
 | str z=>rcases hT with rfl|rfl|rfl|rfl<;>kernel_rfl
 | _=>exact absurd h bM
theorem y34(x:V):kitB x "tuple"=false:=by cases x<;>rfl
theorem z48:PySem.W.kitOne K (.type "tuple") (.type "tuple")=some true:=by kernel_rfl
theorem y6O{xs:List V}{i:Nat}(h:i<xs.length):∃v,xs[i]? = some v/\atI xs (i:Int)=some v:=⟨xs[i],bD h,z0V (bD h)⟩
theorem y7f{x:V}(h:y3q x=true):w0n x x=true:=by
 cases x<;>first|rfl|exact absurd h bM
theorem y7K{n:Nat}(M:Bl mg)(F:Fun K "_law_same" "_law_same" z57 f fd)(D1:Cal P w K mg base n "_law_same" z1E (z7D n)) :
  B4 P w K mg base CX0 (n+1) f fd z1E (z7D (n+1)):=by
 have nd:=z8d.nd
 refine F.ok z8d (fun vs H Q E h=>?_) (fun cdv A outer s H vs Q E hr h=>?_)
 ·obtain⟨x,y,rfl,_⟩:=h
  rfl
 obtain⟨x,y,rfl,ha,q⟩:=h
 refine⟨_,(z04 (z0C (z1N (z0b z0I rfl M.isinstance cC (z00 (pv 1) (z00 (z1F (v:=.ty "tuple") rfl M.tuple bH rfl) z02)))) (z04 (z0C (PW.pt (z38 (z1V (z1N (z0b z0I rfl M.isinstance cC (z00 (pv 0) (z00 (z1F (v:=.ty "tuple") rfl M.tuple bH rfl) z02))))) (z24 (z0c z79 (z0b z09 rfl M.len bN (z00 (pv 0) z02)) (z0b z09 rfl M.len bN (z00 (pv 1) z02)) (z0m _))))) (z05 (z0i z1I)) z0k) (z04 (z0W bT rfl (z1p rfl M.range (z00 (z0b z09 rfl M.len bN (z00 (pv 1) z02)) z02)) (z0j (i:=2) nd rfl (Or.inl rfl)) (z05 (z0C (z1V (z1N (z0g D1 (rm hr) rfl (z00 (z0A z0w (pv 0) (pv 2) (fun _ _=>rfl)) (z00 (z0A z0w (pv 1) (pv 2) (fun _ _=>rfl)) z02))))) (z05 (z0i z1I)) z0k))) (z05 (z0i z1I)))) z0k) (z04 (z0C (PW.pt (z38 (z0c z79 (z0b z0I rfl M.isinstance cC (z00 (pv 0) (z00 (z1F (v:=.ty "bool") rfl M.bool jE rfl) z02))) (z0b z0I rfl M.isinstance cC (z00 (pv 1) (z00 (z1F (v:=.ty "bool") rfl M.bool jE rfl) z02))) (z0m _)) (z24 (z0c z79 (z0b z0I rfl M.isinstance cC (z00 (pv 0) (z00 (z1F (v:=.ty "int") rfl M.int jP rfl) z02))) (z0b z0I rfl M.isinstance cC (z00 (pv 1) (z00 (z1F (v:=.ty "int") rfl M.int jP rfl) z02))) (z0m _))))) (z05 (z0i z1I)) z0k) (z04 (z0C (PW.pt (z38 (z0c z79 (z0b z0I rfl M.isinstance cC (z00 (pv 0) (z00 (z1F (v:=.ty "str") rfl M.str jQ rfl) z02))) (z0b z0I rfl M.isinstance cC (z00 (pv 1) (z00 (z1F (v:=.ty "str") rfl M.str jQ rfl) z02))) (z0m _)) (z24 (z0c z79 (y4Y (z8p (pv 0))) (y4Y (z8p (pv 1))) (z0m _))))) (z05 (z0i z1I)) z0k) (z05 (z0i (z8T z28 (pv 0) (pv 1) (z0m _))))))),?_⟩
 have ha':(x=y/\y3q x=true)\/∃(m:Nat) (a b:Addr) (xs ys:List V),n=m+1/\x=.ref a/\y=.ref b/\H a=some (.tup xs)/\H b=some (.tup ys)/\xs.length=ys.length/\ys.length≤1000000/\
   ∀(i:Nat) (u v:V),xs[i]? = some u->ys[i]? = some v->z4P H m u v:=by
  cases n with
  | zero=>exact .inl ha
  | succ n=>
   rcases ha with ha|⟨a,b,xs,ys,e1,e2,h1,h2,hl,hm,hi⟩
   ·exact .inl ha
   ·exact .inr (ex5 n a b xs ys ⟨rfl,e1,e2,h1,h2,hl,hm,hi⟩)
 rcases ha' with ⟨rfl,hs⟩|⟨m,a,b,xs,ys,rfl,rfl,rfl,h1,h2,hl,hm,hi⟩
 ·have k1:=z47 (K:=K) "tuple" (.inl rfl) hs
  have k2:=z47 (K:=K) "bool" (.inr (.inl rfl)) hs
  have k3:=z47 (K:=K) "int" (.inr (.inr (.inl rfl))) hs
  have k4:=z47 (K:=K) "str" (.inr (.inr (.inr rfl))) hs
  rw[y34] at k1
  refine(rdI rfl (ex4 _ _ _ _ ⟨rfl,z4H hs,k1,(rdI rfl (B7 ?_))⟩))
  refine(rdI rfl (ex4 _ _ _ _ ⟨rfl,z4H hs,k2,(rdI rfl (ex4 _ _ _ _ ⟨rfl,z4H hs,k2,rfl,(rdI rfl ?_)⟩))⟩))
  rw[decide_eq_true rfl]
  refine B7 (rdI rfl (ex4 _ _ _ _ ⟨rfl,z4H hs,k3,(rdI rfl (ex4 _ _ _ _ ⟨rfl,z4H hs,k3,rfl,(rdI rfl ?_)⟩))⟩))
  rw[decide_eq_true rfl]
  refine B7 ?_
  refine(rdI rfl (ex4 _ _ _ _ ⟨rfl,z4H hs,k4,(rdI rfl (ex4 _ _ _ _ ⟨rfl,z4H hs,k4,rfl,(rdI rfl ?_)⟩))⟩))
  rw[decide_eq_true rfl]
  refine B7 (rdI rfl (rdI rfl ⟨rfl,(rdI rfl ?_)⟩))
  rw[decide_eq_true rfl]
  refine B7 ?_
  refine(rdI rfl (rdI rfl ⟨y7f hs,?_⟩))
  rw[decide_eq_true rfl]
  exact q H (B0.refl H)
 ·refine(rdI rfl (ex4 _ _ _ _ ⟨rfl,.tup h2,z48,(rdI rfl (E8 ?_))⟩))
  refine(rdI rfl (ex4 _ _ _ _ ⟨rfl,.tup h1,z48,(rdI rfl (B7 ?_))⟩))
  refine(rdI rfl (ex2 a xs ⟨rfl,.inr (SqT.of h1),(rdI rfl (ex2 b ys ⟨rfl,.inr (SqT.of h2),rfl,(rdI rfl ?_)⟩))⟩))
  rw[hl,decide_eq_true rfl]
  refine B7 ?_
  refine(rdI rfl (ex2 b ys ⟨rfl,.inr (SqT.of h2),(rdI rfl ⟨by lia,by lia,?_⟩)⟩))
  refine z15 (lo:=0) (n:=ys.length) (fun _ σ H'=>B0 H H'/\∃o,σ=[some (.ref a),some (.ref b),o]) ⟨B0.refl H,_,rfl⟩ (fun i σ H' hi' hp=>?_) (fun σ H' hp=>?_)
  ·obtain⟨hS,o,rfl⟩:=hp
   obtain⟨u,hu,au⟩:=y6O (xs:=xs) (i:=i) (by lia)
   obtain⟨v,hv,av⟩:=y6O (xs:=ys) (i:=i) hi'
   have ei:(0:Int)+(i:Int)=(i:Int):=fV _
   refine(rdI rfl (rdI rfl (ex4 a _ _ _ ⟨rfl,rfl,SqT.of (hS _ _ h1),(by rw[ei];exact au),(rdI rfl (rdI rfl (ex4 b _ _ _ ⟨rfl,rfl,SqT.of (hS _ _ h2),(by rw[ei];exact av),?_⟩)))⟩)))
   refine(ex2 u v ⟨rfl,(hi i u v hu hv).keep hS,fun H2 hS2=>(rdI rfl ?_)⟩)
   exact B7 ⟨hS.trans hS2,_,rfl⟩
  ·obtain⟨hS,o,rfl⟩:=hp
   exact q H' hS
theorem y28(M:Bl mg)(F:Fun K "_law_same" "_law_same" z57 f fd)(B:z2f K fd z1E [])(N:mg "_law_same"=some (.ref f)) :
  ∀n,Cal P w K mg base n "_law_same" z1E (z7D n)
 | 0=>.mk' y3H B F.kp N
 | n+1=>.mk' (y7K M F (y28 M F B N n)) B F.kp N
theorem y3E{ns:List Int}{n:Nat}(h:ns.length≤n)(hn:n≤1000):(ns.map V.int).length<sizeLine:=z0f (by rw[bA];lia)
noncomputable def y7d:Sp:=fun vs H Q _=>∃c m z:Int,vs=[.int c,.int m,.int z]/\0≤m/\m≤900/\0<z/\z<1073741824/\
 ∀(l:Addr) (ns:List Int) (H':Hp),H l=none->B0 H H'->H' l=some (.lst (ns.map V.int))->ns.length=m.toNat->(∀x∈ns,0≤x/\x<z)->Q (.ref l) H'
theorem y8P(M:Bl mg)(F:Fun K "_law_row" "_law_row" z9e f fd):B4 P w K mg base CX0 1 f fd z6l y7d:=by
 have nd:=z9r.nd
 refine F.ok z9r (fun vs H Q E h=>?_) (fun cdv A outer s H vs Q E hr h=>?_)
 ·obtain⟨c,m,z,rfl,_⟩:=h
  rfl
 obtain⟨c,m,z,rfl,m0,m1,z0,z1,q⟩:=h
 refine⟨_,(z04 (z0o (i:=3) nd rfl (Or.inl rfl) (z0r z1B (pv 0) z06)) (z04 (z0o (i:=4) nd rfl (Or.inl rfl) (z0r z19 (z0r z3P (pv 3) z06) z06)) (z04 (z0o (i:=5) nd rfl (Or.inl rfl) (z1m z02)) (z04 (z0W bT rfl (z1p rfl M.range (z00 (pv 1) z02)) (z0j (i:=6) nd rfl (Or.inl rfl)) (z04 (z0o (i:=4) nd rfl (Or.inl rfl) (z0r z19 (z0r z1o (z0r z1o (z0r z3P (pv 4) z06) (pv 6)) z06) z06)) (z05 (z0C (z0c z28 (z0r z19 (pv 0) z06) z06 (z0m _)) (z04 (z0F (z2Z bV bU bW z0L (pv 5) (z00 (z0r z19 (pv 3) (pv 2)) z02))) (z05 (z0o (i:=3) nd rfl (Or.inl rfl) (z0r z1B (pv 3) (pv 2))))) (z05 (z0F (z2Z bV bU bW z0L (pv 5) (z00 (z0r z19 (z0r z1B (pv 4) z06) (pv 2)) z02)))))))) (z05 (z0i (pv 5))))))),?_⟩
 refine(rdI rfl (ex2 _ _ ⟨rfl,rfl,⟨by decide,by decide⟩,?_⟩))
 refine(rdI rfl (ex2 _ _ ⟨rfl,rfl,.inr ⟨by decide,by decide⟩,(ex2 _ _ ⟨rfl,rfl,(by show(0:Int)<2147483647;decide),?_⟩)⟩))
 refine⟨(by show 0≤sizeLine;decide),fun l hl=>?_⟩
 refine(rdI rfl (rdI rfl ⟨by lia,by lia,?_⟩))
 refine z15 (lo:=0) (n:=m.toNat) (fun i σ H'=>∃(ns:List Int) (r mx:Int) (o:Option V),ns.length=i/\(∀x∈ns,0≤x/\x<z)/\H'=upd H l (.lst (ns.map V.int))/\
  σ=[some (.int c),some (.int m),some (.int z),some (.int r),some (.int mx),some (.ref l),o]) ⟨[],_,_,_,rfl,(fun _ h=>nomatch h),rfl,rfl⟩ (fun i σ H' hi hp=>?_) (fun σ H' hp=>?_)
 ·obtain⟨ns,r,mx,o,hlen,C3,rfl,rfl⟩:=hp
  refine(rdI rfl (ex2 _ _ ⟨rfl,rfl,.inr ⟨by decide,by decide⟩,(rdI rfl (ex2 _ _ ⟨rfl,rfl,(ex2 _ _ ⟨rfl,rfl,(ex2 _ _ ⟨rfl,rfl,(by show(0:Int)<2147483647;decide),?_⟩)⟩)⟩))⟩))
  refine(rdI rfl (ex2 _ _ ⟨rfl,rfl,(by show(0:Int)<2;decide),rfl,(rdI rfl ?_)⟩))
  have grow:∀y:Int,(∀x∈ns++[y%z],0≤x/\x<z):=fun y x hx=>by
   rcases cH.mp hx with h|h
   ·exact C3 x h
   ·rw[bC.mp h]
    exact⟨cY _ (by lia),cQ _ z0⟩
  have put:∀y:Int,upd (upd H l (.lst (ns.map V.int))) l (.lst (ns.map V.int++[.int (y%z)]))=upd H l (.lst ((ns++[y%z]).map V.int)):=fun y=>by
   rw[z8V,bG]
   rfl
  refine B9 (fun _=>?_) (fun _=>?_)
  ·refine(rdI rfl ⟨.inl ⟨rfl,_,SqL.of z03⟩,(rdI rfl (rdI rfl (ex2 _ _ ⟨rfl,rfl,z0,(ex3 l _ _ ⟨rfl,rfl,z03,y3E (n:=i) (by lia) (by lia),?_⟩)⟩)))⟩)
   refine(rdI rfl (rdI rfl (ex2 _ _ ⟨rfl,rfl,⟨z0,z1⟩,?_⟩)))
   exact⟨ns++[r%z],_,_,_,by rw[bL,hlen];rfl,grow r,put r,rfl⟩
  ·refine(rdI rfl ⟨.inl ⟨rfl,_,SqL.of z03⟩,(rdI rfl (ex2 _ _ ⟨rfl,rfl,⟨by decide,by decide⟩,(rdI rfl (ex2 _ _ ⟨rfl,rfl,z0,(ex3 l _ _ ⟨rfl,rfl,z03,y3E (n:=i) (by lia) (by lia),?_⟩)⟩))⟩))⟩)
   exact⟨ns++[_%z],_,_,_,by rw[bL,hlen];rfl,grow _,put _,rfl⟩
 ·obtain⟨ns,r,mx,o,hlen,C3,rfl,rfl⟩:=hp
  exact(rdI rfl (q l ns _ hl (z01 hl _) z03 hlen C3))
theorem z2P(x:Int)(ns:List Int):inV (.int x) (ns.map V.int)=decide (x∈ns):=by
 unfold inV
 rw[dA,j5,jJ,decide_eq_true_eq]
 constructor
 ·rintro⟨y,hy,e⟩
  have e':(y == x)=true:=e
  rw[<- eq_of_beq e']
  exact hy
 ·intro h
  exact⟨x,h,show(x == x)=true from beq_self_eq_true x⟩
theorem z2c(ns:List Int):(ns.map V.int).all z2k=true:=by
 rw[kL,fT]
 intro x _
 rfl
noncomputable def z1g(ns:List Int):List Int:=(upI 1 60).filter fun x=>decide (x∉ns) && decide (∃y∈ns,x<y)
theorem z0X{ns:List Int}{x:Int}:x∈z1g ns↔(1≤x/\x<1+60)/\x∉ns/\∃y∈ns,x<y:=by
 unfold z1g
 rw[cO,z1i,bZ,decide_eq_true_eq,decide_eq_true_eq]
 rfl
theorem z2N(ns:List Int):(z1g ns).Pairwise (· < ·):=(z1Q 1 60).filter _
theorem z2v(ns:List Int):(z1g ns).length≤60:=by
 have h:=cJ (fun x=>decide (x∉ns) && decide (∃y∈ns,x<y)) (upI 1 60)
 rw[z0S] at h
 exact h
theorem y3U{ns:List Int}{m:Int}(hm:m∈ns)(C3:∀x∈ns,1≤x/\x≤60)(top:∀y∈ns,y≤m):(upI 1 (m+1-1).toNat).filter (fun x=>!decide (x∈ns))=z1g ns:=
 z1P ((z1Q _ _).filter _) (z2N _) fun x=>by
  have hm':=C3 m hm
  rw[cO,z1i,z0X,kG,decide_eq_false_iff_not]
  constructor
  ·rintro⟨⟨a,b⟩,c⟩
   refine⟨by lia,c,m,hm,?_⟩
   have:x≠m:=fun e=>c (e ▸ hm)
   lia
  ·rintro⟨a,b,y,hy,c⟩
   have:=top y hy
   exact⟨by lia,b⟩
theorem y15:z1g []=[]:=by
 refine z1P (z2N _) .nil fun x=>?_
 rw[z0X]
 constructor
 ·rintro⟨_,_,y,hy,_⟩
  cases hy
 ·intro h
  cases h
theorem SqI.keep{K:PySem.W.Frag}{H H':Hp}{a:Addr}{ns:List Int}(e:B0 H H')(h:SqI K H a ns):SqI K H' a ns:=by
 rcases h with h|h
 ·exact .inl (e.seq h)
 ·rcases h with (h|⟨o,h⟩)|h
  ·exact .inr (.inl (.inl (e _ _ h)))
  ·exact .inr (.inl (.inr ⟨o,e _ _ h⟩))
  ·exact .inr (.inr h)
theorem z9M{c:Int->Bool}{t:Int}:∀{l:List Int},l.Pairwise (· < ·)->t∈l->c t=true->(∀y∈l,c y=true->t≤y)->l.find? c=some t
 | [],_,h,_,_=>by cases h
 | x::r,p,h,hc,hm=>by
  rw[kB] at p
  rw[dW]
  rcases bF.mp h with rfl|h
  ·rw[hc]
  ·cases e:c x with
   | true=>
    have h1:=p.1 t h
    have h2:=hm x cI e
    lia
   | false=>exact z9M p.2 h hc fun y hy=>hm y (cG _ hy)
theorem y5l{c:Int->Bool}{t:Int}:∀{l:List Int},l.Pairwise (· < ·)->l.find? c=some t->t∈l/\c t=true/\∀y∈l,c y=true->t≤y
 | [],_,h=>by cases h
 | x::r,p,h=>by
  rw[kB] at p
  rw[dW] at h
  cases e:c x with
  | true=>
   rw[e] at h
   have h':x=t:=Option.some.inj h
   subst h'
   refine⟨cI,e,fun y hy _=>?_⟩
   rcases bF.mp hy with rfl|hy
   ·exact eX _
   ·have:=p.1 y hy
    lia
  | false=>
   rw[e] at h
   obtain⟨h1,h2,h3⟩:=y5l p.2 h
   refine⟨cG _ h1,h2,fun y hy hc=>?_⟩
   rcases bF.mp hy with rfl|hy
   ·rw[e] at hc
    cases hc
   ·exact h3 y hy hc
noncomputable def y1O(ns:List Int)(n r:Int)(y:Int):Bool:=decide (n<y) && decide (y-r≤n) && decide (y∈ns)
noncomputable def z0J(ns:List Int)(n r:Int):Int:=((upI 1 60).find? (y1O ns n r)).getD 0
theorem z4Y{ns:List Int}{n r y:Int}:y1O ns n r y=true↔n<y/\y-r≤n/\y∈ns:=by
 unfold y1O
 rw[bZ,bZ,decide_eq_true_eq,decide_eq_true_eq,decide_eq_true_eq,and_assoc]
theorem y2D{ns:List Int}{n r t:Int}(C3:∀x∈ns,1≤x/\x≤60)(ht:t∈ns)(h1:n<t)(h2:t-r≤n)(hm:∀y∈ns,n<y->y-r≤n->t≤y):z0J ns n r=t:=by
 unfold z0J
 rw[z9M (z1Q 1 60) (t:=t) (z1i.mpr (by have:=C3 t ht;lia)) (z4Y.mpr ⟨h1,h2,ht⟩) fun y _ hy=>by
  obtain⟨a,b,c⟩:=z4Y.mp hy
  exact hm y c a b]
 rfl
theorem z56{ns:List Int}{n r:Int}(h:∀y∈ns,n<y->¬y-r≤n):z0J ns n r=0:=by
 unfold z0J
 have e:(upI 1 60).find? (y1O ns n r)=none:=kC.mpr fun y _ hy=>by
  obtain⟨a,b,c⟩:=z4Y.mp hy
  exact h y c a b
 rw[e]
 rfl
noncomputable def z66(K:PySem.W.Frag):Sp:=fun vs H Q _=>∃(p:Addr) (ns:List Int) (n r:Int),vs=[.ref p,.int n,.int r]/\SqL K H p (ns.map V.int)/\(∀x∈ns,1≤x/\x≤60)/\ns.length≤900/\0≤r/\
 ∀H',B0 H H'->Q (.int (z0J ns n r)) H'
theorem y3f(M:Bl mg)(F:Fun K "_law_teller" "_law_teller" z4F f fd):B4 P w K mg base CX0 1 f fd z2W (z66 K):=by
 have nd:=z6h.nd
 refine F.ok z6h (fun vs H Q E h=>?_) (fun cdv A outer s H vs Q E hr h=>?_)
 ·obtain⟨p,ns,n,r,rfl,_⟩:=h
  rfl
 obtain⟨p,ns,n,r,rfl,hS,C3,hlen,r0,q⟩:=h
 refine⟨_,(z04 (z4g (i:=3) ["_law_other"] ["_law_number"] [1] rfl nd rfl (Or.inl rfl) (z0v rfl (by decide +kernel) rfl (by decide +kernel) rfl rfl) (z1k (pv 0)) (fun _ _ _ _ _=>(z0j (i:=0) (show((["_law_other"]:List PySem.Str)++(["_law_number"]:List PySem.Str)).Nodup from by decide +kernel) rfl (Or.inl rfl))) (z0x (by decide)) z0h (fun _ _ _ _ _=>(z2i (z0c z2o (pv 0) (pv 1) (z0m _)))) (fun _ _ _ _ _=>(pv 0))) (z04 (z0C (PW.pt (z38 (z0c (y6J hr.N9) (pv 3) (z1m z02) (z0m _)) (z24 (z0c z2o (z0r z25 (z0b (z91 rfl) rfl M.min fK (z00 (pv 3) z02)) (pv 1)) (pv 2) (z0m _))))) (z05 (z0i z06)) z0k) (z05 (z0i (z0b (z91 rfl) rfl M.min fK (z00 (pv 3) z02)))))),?_⟩
 refine(rdI rfl ⟨p,rfl,⟨_,hS⟩,?_⟩)
 refine z68 (ns:=ns) (fun y=>decide (n<y)) (fun y=>.int y) hS (by lia) (fun y ys N hy hN=>?_) (fun D hD=>?_)
 ·refine(rdI rfl (rdI rfl (ex2 _ _ ⟨rfl,rfl,(rdI rfl ?_)⟩)))
  refine B9 (fun c=>?_) (fun c=>?_)
  ·rw[if_pos c] at hN
   exact(rdI rfl hN)
  ·rw[if_neg c] at hN
   exact hN
 have eD:upd H D (.lst (z2a (fun y=>decide (n<y)) (fun y=>V.int y) ns)) D=some (.lst ((ns.filter fun y=>decide (n<y)).map V.int)):=z03
 have sD:=z01 hD (.lst (z2a (fun y=>decide (n<y)) (fun y=>V.int y) ns))
 generalize upd H D (.lst (z2a (fun y=>decide (n<y)) (fun y=>V.int y) ns))=H1 at eD sD
 have mem:∀y,y∈ns.filter (fun y=>decide (n<y))↔y∈ns/\n<y:=fun y=>by rw[cO,decide_eq_true_eq]
 generalize ns.filter (fun y=>decide (n<y))=ab at eD mem
 refine(rdI rfl ⟨(by show 0≤sizeLine;decide),fun e0 he0=>(ex3 D e0 _ ⟨rfl,rfl,SqL.of (z01 he0 _ _ _ eD),SqL.of z03,(rdI rfl ?_)⟩)⟩)
 have s2:=sD.trans (z01 he0 (.lst []))
 cases ab with
 | nil=>
  refine E8 ?_
  have e:z0J ns n r=0:=z56 fun y hy h1 _=>by
   have:=(mem y).mpr ⟨hy,h1⟩
   cases this
  exact(by rw[<- e];exact q _ s2)
 | cons y0 yr=>
  refine B7 ?_
  have eL:=z01 he0 (.lst []) _ _ eD
  generalize upd H1 e0 (.lst [])=H2 at s2 eL
  refine(rdI rfl (ex2 D _ ⟨rfl,.inl (SqL.of eL),by simp,fun m hm hl=>(rdI rfl (ex2 _ _ ⟨rfl,rfl,(rdI rfl (ex2 _ _ ⟨rfl,rfl,(rdI rfl ?_)⟩))⟩))⟩))
  have hm':=(mem m).mp hm
  refine B9 (fun c=>?_) (fun c=>?_)
  ·have c':r<m-n:=z0K c
   have e:z0J ns n r=0:=z56 fun y hy h1 h2=>by
    have:=hl y ((mem y).mpr ⟨hy,h1⟩)
    lia
   exact(by rw[<- e];exact q _ s2)
  ·have c':¬r<m-n:=z3Z c
   refine(rdI rfl (ex2 D _ ⟨rfl,.inl (SqL.of eL),by simp,fun m2 hm2 hl2=>?_⟩))
   have h2:=(mem m2).mp hm2
   have e:z0J ns n r=m2:=y2D C3 h2.1 h2.2 (by have:=hl2 m hm;lia) fun y hy h1 _=>hl2 y ((mem y).mpr ⟨hy,h1⟩)
   exact(by rw[<- e];exact q _ s2)
noncomputable def y4C:Sp:=fun vs H Q _=>∃i:Int,vs=[.int i]/\Q (.bl true) H
theorem y5G(M:Bl mg)(F:Fun K "_law_whole" "_law_whole" z5L f fd):B4 P w K mg base CX0 1 f fd z5H y4C:=by
 have nd:=z7t.nd
 refine F.ok z7t (fun vs H Q E h=>?_) (fun cdv A outer s H vs Q E hr h=>?_)
 ·obtain⟨i,rfl,_⟩:=h
  rfl
 obtain⟨i,rfl,q⟩:=h
 refine⟨_,(z05 (z0i (y6R (z0b z0I rfl M.isinstance cC (z00 (pv 0) (z00 (z1F (v:=.ty "int") rfl M.int jP rfl) z02))) (y6W (y6Y (z0b z0I rfl M.isinstance cC (z00 (pv 0) (z00 (z1F (v:=.ty "bool") rfl M.bool jE rfl) z02)))))))),?_⟩
 have k2:=z47 (K:=K) "bool" (.inr (.inl rfl)) (x:=.int i) rfl
 have k3:=z47 (K:=K) "int" (.inr (.inr (.inl rfl))) (x:=.int i) rfl
 refine(rdI rfl (ex4 _ _ _ _ ⟨rfl,.int i,k3,(rdI rfl ?_)⟩))
 refine E8 (rdI rfl (ex4 _ _ _ _ ⟨rfl,.int i,k2,?_⟩))
 exact(rdI rfl q)
noncomputable def sgL:List Nat:=(("mM ~aA0.xX_9":Str).cps.toList)
theorem y1R:sgL.length=12:=by decide +kernel
theorem y4P:sgL.Nodup:=by decide +kernel
abbrev Y5:Str:="a stranger of twenty"
abbrev y0o:Str:="a long stem of them"
structure Nms(nm:List Str):Prop where
 nd:nm.Nodup
 lo:∀x∈nm,1≤x.length
 hi:∀x∈nm,x.length≤20
 far:Y5∉nm
theorem y1Y(a b:Str):(a++b).cps.toList=a.cps.toList++b.cps.toList:=by
 show(a.cps++b.cps).toList=_
 simp
theorem y7j(c:Nat):(⟨#[c]⟩:Str).cps.toList=[c]:=rfl
theorem z4X{α β:Type}{g:α->β}:∀{l:List α},l.Nodup->(∀x∈l,∀y∈l,g x=g y->x=y)->(l.map g).Nodup
 | [],_,_=>List.nodup_nil
 | x::r,n,h=>by
  rw[dU] at n
  rw[cV,dU]
  refine⟨fun hm=>?_,z4X n.2 fun a ha b hb=>h a (cG _ ha) b (cG _ hb)⟩
  obtain⟨y,hy,e⟩:=cS.mp hm
  have:=h x cI y (cG _ hy) e.symm
  exact n.1 (this ▸ hy)
theorem y0X(lo:Int)(n:Nat):(upI lo n).Nodup:=(z1Q lo n).imp fun {a b} h=>by lia
theorem y2A{t a b:Int}(ht:0≤t)(ht2:t<12)(a0:0≤a)(a1:a<12)(b0:0≤b)(b1:b<12)(h:(t+a)%12=(t+b)%12):a=b:=by lia
noncomputable def Y1(c:Nat)(t k:Int):Str:=Y6 ⟨#[c]⟩ (1+(t+k)%12).toNat
theorem z6e(c:Nat)(t k:Int):(Y1 c t k).length=(1+(t+k)%12).toNat:=by
 unfold Y1
 rw[<- z1Z]
 show((List.replicate _ [c]).flatten.toArray).toList.length=_
 simp
theorem y7O(c:Nat){t:Int}(h0:0≤t)(h1:t<12){m:Nat}(hm:m≤12):Nms ((upI 0 m).map (Y1 c t)) where
 nd:=z4X (y0X _ _) fun a ha b hb e=>by
  have ha':=z1i.mp ha
  have hb':=z1i.mp hb
  have e2:=congrArg Str.length e
  rw[z6e,z6e] at e2
  exact y2A h0 h1 (by lia) (by lia) (by lia) (by lia) (by lia)
 lo:=fun x hx=>by
  obtain⟨k,hk,rfl⟩:=cS.mp hx
  rw[z6e]
  lia
 hi:=fun x hx=>by
  obtain⟨k,hk,rfl⟩:=cS.mp hx
  rw[z6e]
  lia
 far:=fun hx=>by
  obtain⟨k,hk,e⟩:=cS.mp hx
  have e2:=congrArg Str.length e
  rw[z6e] at e2
  have e3:Y5.length=20:=by decide +kernel
  lia
noncomputable def z9T(st:Str)(sp:Int)(t k:Int):Str:=Q7 st none (some sp)++⟨#[sgL.getD ((t+k)%12).toNat 0]⟩++Q7 st (some sp) none
theorem y2g{n d:Nat}{v:Int}(h0:0≤v)(h1:v≤n):HT.sIx n d (some v)=v.toNat:=by
 show(if v<0 then (v+(n:Int)).toNat else min v.toNat n)=_
 rw[if_neg (by lia),hW (by lia)]
theorem y76(st:Str){sp:Int}(h0:0≤sp)(h1:sp≤st.length):(Q7 st none (some sp)).cps.toList=st.cps.toList.take sp.toNat:=by
 show((st.cps.toList.drop 0).take (HT.sIx st.length st.length (some sp)-0))=_
 rw[y2g h0 h1,fH,gY]
theorem y77(st:Str){sp:Int}(h0:0≤sp)(h1:sp≤st.length):(Q7 st (some sp) none).cps.toList=st.cps.toList.drop sp.toNat:=by
 show((st.cps.toList.drop (HT.sIx st.length 0 (some sp))).take (st.length-HT.sIx st.length 0 (some sp)))=_
 rw[y2g h0 h1,cP]
 rw[dY,z1Z]
 exact bJ _
theorem z6k(st:Str){sp:Int}(h0:0≤sp)(h1:sp≤st.length)(t k:Int):(z9T st sp t k).cps.toList=st.cps.toList.take sp.toNat++sgL.getD ((t+k)%12).toNat 0::st.cps.toList.drop sp.toNat:=by
 unfold z9T
 rw[y1Y,y1Y,y76 st h0 h1,y77 st h0 h1,y7j,jC]
 rfl
theorem z8F(st:Str){sp:Int}(h0:0≤sp)(h1:sp≤st.length)(t k:Int):(z9T st sp t k).length=st.length+1:=by
 rw[<- z1Z,z6k st h0 h1,bL,cN,bI,dY,z1Z]
 lia
theorem y5X:∀s<20,∀i<12,y0o.cps.toList.take s++sgL.getD i 0::y0o.cps.toList.drop s≠Y5.cps.toList:=by decide +kernel
theorem y5P{st:Str}(hst:st=""\/st="row"\/st=y0o){sp:Int}(h0:0≤sp)(h1:sp≤st.length){t:Int}(t0:0≤t)(t1:t<12){m:Nat}(hm:m≤12):Nms ((upI 0 m).map (z9T st sp t)) where
 nd:=z4X (y0X _ _) fun a ha b hb e=>by
  have ha':=z1i.mp ha
  have hb':=z1i.mp hb
  have e2:(z9T st sp t a).cps.toList=(z9T st sp t b).cps.toList:=congrArg (fun z:Str=>z.cps.toList) e
  rw[z6k st h0 h1,z6k st h0 h1] at e2
  have e3:=List.append_cancel_left e2
  have e4:sgL.getD ((t+a)%12).toNat 0=sgL.getD ((t+b)%12).toNat 0:=(List.cons.inj e3).1
  have l1:((t+a)%12).toNat<sgL.length:=by rw[y1R];lia
  have l2:((t+b)%12).toNat<sgL.length:=by rw[y1R];lia
  rw[bP,bD l1,bP,bD l2] at e4
  have e5:=(List.getElem_inj y4P).mp e4
  exact y2A t0 t1 (by lia) (by lia) (by lia) (by lia) (by lia)
 lo:=fun x hx=>by
  obtain⟨k,hk,rfl⟩:=cS.mp hx
  rw[z8F st h0 h1]
  lia
 hi:=fun x hx=>by
  obtain⟨k,hk,rfl⟩:=cS.mp hx
  rw[z8F st h0 h1]
  have l1:("":Str).length=0:=by decide +kernel
  have l2:("row":Str).length=3:=by decide +kernel
  have l3:y0o.length=19:=by decide +kernel
  rcases hst with rfl|rfl|rfl<;>lia
 far:=fun hx=>by
  obtain⟨k,hk,e⟩:=cS.mp hx
  have l1:("":Str).length=0:=by decide +kernel
  have l2:("row":Str).length=3:=by decide +kernel
  have l3:y0o.length=19:=by decide +kernel
  have l4:Y5.length=20:=by decide +kernel
  have e2:=congrArg Str.length e
  rw[z8F st h0 h1] at e2
  rcases hst with rfl|rfl|rfl
  ·lia
  ·lia
  ·have e3:(z9T y0o sp t k).cps.toList=Y5.cps.toList:=congrArg (fun z:Str=>z.cps.toList) e
   rw[z6k y0o h0 h1] at e3
   exact y5X sp.toNat (by lia) ((t+k)%12).toNat (by lia) e3
noncomputable def y4S:Sp:=fun vs H Q _=>∃c m:Int,vs=[.int c,.int m]/\0≤m/\m≤12/\
 ∀(l:Addr) (nm:List Str) (H':Hp),H l=none->B0 H H'->H' l=some (.lst (nm.map V.str))->nm.length=m.toNat->Nms nm->Q (.ref l) H'
theorem y2b{f:Int->V}(l:List Int):z2a (fun _=>true) f l=l.map f:=by
 unfold z2a
 rw[List.filter_eq_self.mpr fun _ _=>rfl]
theorem y6l(M:Bl mg)(F:Fun K "_law_named" "_law_named" z5O f fd):B4 P w K mg base CX0 1 f fd z5P y4S:=by
 have nd:=z7I.nd
 refine F.ok z7I (fun vs H Q E h=>?_) (fun cdv A outer s H vs Q E hr h=>?_)
 ·obtain⟨c,m,rfl,_⟩:=h
  rfl
 obtain⟨c,m,rfl,m0,m1,q⟩:=h
 refine⟨_,(z04 (z0o (i:=2) nd rfl (Or.inr rfl) z2A) (z04 (z0o (i:=3) nd rfl (Or.inr rfl) (z0r z19 (z0r z1B (pv 0) z06) z06)) (z04 (z0C (z0c z28 (z0r z19 (pv 0) z06) z06 (z0m _)) (z05 (z0i (z1c ["_law_k"] ["_law_cell","_law_turn"] [0,3] rfl (z0v rfl (by decide +kernel) rfl (by decide +kernel) rfl rfl) (z1p rfl M.range (z00 (pv 1) z02)) (fun _ _ _ _ _=>(z0j (i:=0) (show((["_law_k"]:List PySem.Str)++(["_law_cell","_law_turn"]:List PySem.Str)).Nodup from by decide +kernel) rfl (Or.inl rfl))) (z0x (by decide)) z0h (fun _ _ _ _ _=>z1W) (fun _ _ _ _ _=>(z0r y3v (z0A y40 z2A (z0r z19 (z0r z1B (pv 1) z06) z06) (fun _ _=>rfl)) (z0r z1o z06 (z0r z19 (z0r z1o (pv 2) (pv 0)) z06))))))) z0k) (z04 (z0o (i:=4) nd rfl (Or.inr rfl) (z0A z1j (z1m (z00 z2A (z00 z2A (z00 z2A z02)))) (z0r z19 (pv 0) z06) (fun _ _=>rfl))) (z04 (z0o (i:=5) nd rfl (Or.inr rfl) (z0r z19 (z0r z1B (pv 0) z06) (z0r z1o (z0b y0D rfl M.len bN (z00 (pv 4) z02)) z06))) (z05 (z0i (z1c ["_law_k"] ["_law_stem","_law_signs","_law_spot","_law_turn"] [4,2,5,3] rfl (z0v rfl (by decide +kernel) rfl (by decide +kernel) rfl rfl) (z1p rfl M.range (z00 (pv 1) z02)) (fun _ _ _ _ _=>(z0j (i:=0) (show((["_law_k"]:List PySem.Str)++(["_law_stem","_law_signs","_law_spot","_law_turn"]:List PySem.Str)).Nodup from by decide +kernel) rfl (Or.inl rfl))) (z0x (by decide)) z0h (fun _ _ _ _ _=>z1W) (fun _ _ _ _ _=>(z0r z9A (z0r z9A (z1O y73 (pv 1) z2r (z2s (pv 3))) (z0A y40 (pv 2) (z0r z19 (z0r z1o (pv 4) (pv 0)) z06) (fun _ _=>rfl))) (z1O y73 (pv 1) (z2s (pv 3)) z2r))))))))))),?_⟩
 have t0:0≤c / 4%12:=cY _ (by decide)
 have t1:c / 4%12<12:=cQ _ (by decide)
 refine(rdI rfl (ex2 _ _ ⟨rfl,rfl,⟨by decide,by decide⟩,(ex2 _ _ ⟨rfl,rfl,(by show(0:Int)<12;decide),?_⟩)⟩))
 refine(rdI rfl (ex2 _ _ ⟨rfl,rfl,(by show(0:Int)<4;decide),rfl,(rdI rfl ?_)⟩))
 refine B9 (fun _=>?_) (fun cn=>?_)
 ·obtain⟨sg,hsg⟩:∃sg,atI (("a ~":Str).cps.toList) (c / 48%3)=some sg:=by
   have h0:0≤c / 48%3:=cY _ (by decide)
   have h1:c / 48%3<3:=cQ _ (by decide)
   have ek:c / 48%3=(((c / 48%3).toNat:Nat):Int):=by lia
   have hl:(("a ~":Str).cps.toList).length=3:=by decide +kernel
   rw[ek]
   exact⟨_,z0V (bD (by rw[hl];lia))⟩
  refine(rdI rfl (rdI rfl ⟨by lia,by lia,?_⟩))
  refine y07 (lo:=0) (n:=m.toNat) (fun _=>true) (fun k=>.str (Y1 sg (c / 4%12) k)) (by lia) (fun k ys N k0 k1 hN=>?_) ?_
  ·refine(rdI rfl (ex2 _ _ ⟨rfl,rfl,⟨by decide,by decide⟩,(ex2 _ _ ⟨rfl,rfl,(by show(0:Int)<3;decide),(ex3 _ _ sg ⟨rfl,rfl,(by decide +kernel),hsg,?_⟩)⟩)⟩))
   refine(rdI rfl (rdI rfl (ex2 _ _ ⟨rfl,rfl,(ex2 _ _ ⟨rfl,rfl,(by show(0:Int)<12;decide),(ex2 _ _ ⟨rfl,rfl,(ex2 _ _ ⟨rfl,rfl,?_,?_,?_,?_⟩)⟩)⟩)⟩)))
   ·have:=cY (c / 4%12+k) (show(12:Int)≠0 by decide)
    lia
   ·have:=cQ (c / 4%12+k) (show(0:Int)<12 by decide)
    lia
   ·show 1≤1000
    decide
   ·exact hN
  ·intro D hD
   rw[y2b]
   refine q D ((upI 0 m.toNat).map (Y1 sg (c / 4%12))) _ hD (z01 hD _) ?_ (by rw[bA,z0S]) (y7O sg t0 t1 (by lia))
   rw[z03,eF]
   rfl
 ·have c4:c%4=0\/c%4=1\/c%4=2:=by
   have h1:=cY c (show(4:Int)≠0 by decide)
   have h2:=cQ c (show(0:Int)<4 by decide)
   have h3:c%4≠3:=fun e=>cn (decide_eq_true (congrArg V.int e))
   lia
  obtain⟨st,hat,hst⟩:∃st:Str,atI [V.str "",V.str "row",V.str "a long stem of them"] (c%4)=some (.str st)/\(st=""\/st="row"\/st=y0o):=by
   rcases c4 with e|e|e<;>rw[e]
   ·exact(rdI rfl (.inl rfl))
   ·exact(rdI rfl (.inr (.inl rfl)))
   ·exact(rdI rfl (.inr (.inr rfl)))
  have stl:st.length≤19:=by
   have l1:("":Str).length=0:=by decide +kernel
   have l2:("row":Str).length=3:=by decide +kernel
   have l3:y0o.length=19:=by decide +kernel
   rcases hst with rfl|rfl|rfl<;>lia
  refine⟨(by show 3≤sizeLine;decide),fun p hp=>(rdI rfl (ex2 _ _ ⟨rfl,rfl,(by show(0:Int)<4;decide),(ex4 p _ _ _ ⟨rfl,rfl,SqL.of z03,hat,?_⟩)⟩))⟩
  refine(rdI rfl (ex2 _ _ ⟨rfl,rfl,⟨by decide,by decide⟩,(rdI rfl ⟨st,rfl,y0f (by lia),(ex2 _ _ ⟨rfl,rfl,(ex2 _ _ ⟨rfl,rfl,by lia,?_⟩)⟩)⟩)⟩))
  have s0:0≤c / 48%((st.length:Int)+1):=cY _ (by lia)
  have s1:c / 48%((st.length:Int)+1)≤(st.length:Int):=by
   have:=cQ (c / 48) (show(0:Int)<(st.length:Int)+1 by lia)
   lia
  refine(rdI rfl (rdI rfl ⟨by lia,by lia,?_⟩))
  refine y07 (lo:=0) (n:=m.toNat) (fun _=>true) (fun k=>.str (z9T st (c / 48%((st.length:Int)+1)) (c / 4%12) k)) (by lia) (fun k ys N k0 k1 hN=>?_) ?_
  ·have i0:=cY (c / 4%12+k) (show(12:Int)≠0 by decide)
   have i1:=cQ (c / 4%12+k) (show(0:Int)<12 by decide)
   have hsg:atI (("mM ~aA0.xX_9":Str).cps.toList) ((c / 4%12+k)%12)=some (sgL.getD ((c / 4%12+k)%12).toNat 0):=by
    have ek:(c / 4%12+k)%12=((((c / 4%12+k)%12).toNat:Nat):Int):=by lia
    have l1:((c / 4%12+k)%12).toNat<sgL.length:=by rw[y1R];lia
    have q1:atI sgL ((((c / 4%12+k)%12).toNat:Nat):Int)=some (sgL.getD ((c / 4%12+k)%12).toNat 0):=z0V (by
     rw[bP,bD l1]
     rfl)
    rw[<- ek] at q1
    exact q1
   have la:(Q7 st none (some (c / 48%((st.length:Int)+1)))).length≤19:=by
    rw[<- z1Z,y76 st s0 s1,bI,z1Z]
    lia
   have lb:(Q7 st (some (c / 48%((st.length:Int)+1))) none).length≤19:=by
    rw[<- z1Z,y77 st s0 s1,dY,z1Z]
    lia
   have lc:∀(x:Nat),(⟨#[x]⟩:Str).length=1:=fun _=>rfl
   have lab:∀(x:Nat),(Q7 st none (some (c / 48%((st.length:Int)+1)))++(⟨#[x]⟩:Str)).length≤20:=fun x=>by
    rw[<- z1Z,y1Y,bL,z1Z,z1Z,lc]
    lia
   refine(rdI rfl (rdI rfl (rdI rfl ⟨st,rfl,y0f (by lia),?_⟩)))
   refine(rdI rfl (rdI rfl (rdI rfl (ex2 _ _ ⟨rfl,rfl,(ex2 _ _ ⟨rfl,rfl,(by show(0:Int)<12;decide),(ex3 _ _ _ ⟨rfl,rfl,(by decide +kernel),hsg,?_⟩)⟩)⟩))))
   refine(ex2 _ _ ⟨rfl,rfl,y0f (by rw[lc];lia),?_⟩)
   refine(rdI rfl (rdI rfl (rdI rfl ⟨st,rfl,y0f (by lia),(ex2 _ _ ⟨rfl,rfl,y0f (by have:=lab (sgL.getD ((c / 4%12+k)%12).toNat 0);lia),?_⟩)⟩)))
   exact hN
  ·intro D hD
   rw[y2b]
   refine q D ((upI 0 m.toNat).map (z9T st (c / 48%((st.length:Int)+1)) (c / 4%12))) _ ((z01 hp _).free hD) ((z01 hp _).trans (z01 hD _)) ?_ (by rw[bA,z0S]) (y5P hst s0 s1 t0 t1 (by lia))
   rw[z03,eF]
   rfl
noncomputable def z3o:Sp:=fun vs H Q _=>∃t:Int,vs=[.int t]/\0≤t/\t<1000000/\Q (.int (2^t.toNat)) H
theorem y3w(M:Bl mg)(F:Fun K "_law_doubled" "_law_doubled" z44 f fd):B4 P w K mg base CX0 1 f fd z2z z3o:=by
 have nd:=z5r.nd
 refine F.ok z5r (fun vs H Q E h=>?_) (fun cdv A outer s H vs Q E hr h=>?_)
 ·obtain⟨t,rfl,_⟩:=h
  rfl
 obtain⟨t,rfl,t0,t1,q⟩:=h
 refine⟨_,(z04 (z0o (i:=1) nd rfl (Or.inl rfl) z06) (z04 (z0W bT rfl (z1p rfl M.range (z00 (pv 0) z02)) (z0j (i:=2) nd rfl (Or.inl rfl)) (z05 (z0o (i:=1) nd rfl (Or.inl rfl) (z0r z3P (pv 1) z06)))) (z05 (z0i (pv 1))))),?_⟩
 refine(rdI rfl (rdI rfl ⟨by lia,by lia,?_⟩))
 refine z15 (lo:=0) (n:=t.toNat) (fun i σ H'=>H'=H/\∃o,σ=[some (.int t),some (.int (2^i)),o]) ⟨rfl,_,rfl⟩ (fun i σ H' hi hp=>?_) (fun σ H' hp=>?_)
 ·obtain⟨rfl,o,rfl⟩:=hp
  refine(rdI rfl (ex2 _ _ ⟨rfl,rfl,.inr ⟨by decide,by decide⟩,rfl,some (.int (0+(i:Int))),?_⟩))
  rw[Int.pow_succ]
  rfl
 ·obtain⟨rfl,o,rfl⟩:=hp
  exact(rdI rfl q)
def y1k(H:Hp)(l:Addr)(v:V)(s:List Str):Prop:=∃a,v=.ref a/\a≠l/\H a=some (.lst (s.map V.str))
theorem y1k.keep{H H':Hp}(g:B0 H H'){l:Addr}{v:V}{s:List Str}(h:y1k H l v s):y1k H' l v s:=let ⟨a,e,n,q⟩:=h;⟨a,e,n,g _ _ q⟩
theorem y1k.over{H:Hp}{l:Addr}{o:HO}{v:V}{s:List Str}(h:y1k H l v s):y1k (upd H l o) l v s:=let ⟨a,e,n,q⟩:=h;⟨a,e,n,by rw[z0l n];exact q⟩
abbrev z2C(H:Hp)(l:Addr):List V->List (List Str)->Prop:=Paired (y1k H l)
theorem z2C.keep{H H':Hp}(g:B0 H H'){l:Addr}:∀{xs:List V}{ss:List (List Str)},z2C H l xs ss->z2C H' l xs ss
 | _,_,.nil=>.nil
 | _,_,.cons r t=>.cons (r.keep g) (z2C.keep g t)
theorem z2C.over{H:Hp}{l:Addr}{o:HO}:∀{xs:List V}{ss:List (List Str)},z2C H l xs ss->z2C (upd H l o) l xs ss
 | _,_,.nil=>.nil
 | _,_,.cons r t=>.cons r.over (z2C.over t)
theorem z2C.len{H:Hp}{l:Addr}:∀{xs:List V}{ss:List (List Str)},z2C H l xs ss->xs.length=ss.length
 | _,_,.nil=>rfl
 | _,_,.cons _ t=>by rw[cN,cN,z2C.len t]
theorem z2C.get{H:Hp}{l:Addr}:∀{xs:List V}{ss:List (List Str)},z2C H l xs ss->∀(i:Nat) (s:List Str),ss[i]? = some s->∃v,xs[i]? = some v/\y1k H l v s
 | _,_,.nil,i,s,e=>by simp at e
 | _,_,.cons r t,0,s,e=>by
  simp at e
  subst e
  exact(rdI rfl r)
 | _,_,.cons r t,i+1,s,e=>by
  obtain⟨v,h1,h2⟩:=z2C.get t i s (by simpa using e)
  exact⟨v,by simpa using h1,h2⟩
theorem z18(ns:List Str):(ns.map V.str).all z2k=true:=by
 rw[kL,fT]
 intro x _
 rfl
theorem y7R{ns:List Str}{k:Int}(h0:0≤k)(h:k<(ns.length:Int)):∃x,ns[k.toNat]? = some x/\atI (ns.map V.str) k=some (.str x):=by
 have hk:k.toNat<ns.length:=by lia
 have ek:k=((k.toNat:Nat):Int):=by lia
 have q:atI (ns.map V.str) ((k.toNat:Nat):Int)=some (.str ns[k.toNat]):=z0V (by rw[bE,bD hk];rfl)
 rw[<- ek] at q
 exact⟨_,bD hk,q⟩
noncomputable def y70(K:PySem.W.Frag):Sp:=fun vs H Q _=>∃(ln:Addr) (nm:List Str) (c m:Int),vs=[.ref ln,.int c,.int m]/\SqL K H ln (nm.map V.str)/\1≤nm.length/\nm.length≤12/\0≤m/\m≤900/\
 ∀(l:Addr) (xs:List V) (ss:List (List Str)) (H':Hp),H l=none->B0 H H'->H' l=some (.lst xs)->z2C H' l xs ss->ss.length=m.toNat->(∀s∈ss,s.Sublist nm)->Q (.ref l) H'
theorem two_pow_le{n:Nat}(h:n≤12):(1:Int)≤2^n/\(2:Int)^n≤4096:=by
 have:∀k≤12,(1:Int)≤2^k/\(2:Int)^k≤4096:=by decide
 exact this n h
theorem y7V(M:Bl mg)(F:Fun K "_law_sets" "_law_sets" z72 f fd)(L0:Cal P w K mg base 1 "_law_row" z6l y7d)(C7:Cal P w K mg base 1 "_law_doubled" z2z z3o) :
  B4 P w K mg base CX0 2 f fd z7b (y70 K):=by
 have nd:=z8X.nd
 refine F.ok z8X (fun vs H Q E h=>?_) (fun cdv A outer s H vs Q E hr h=>?_)
 ·obtain⟨ln,nm,c,m,rfl,_⟩:=h
  rfl
 obtain⟨ln,nm,c,m,rfl,hS,n1,n2,m0,m1,q⟩:=h
 refine⟨_,(z04 (z0o (i:=3) nd rfl (Or.inl rfl) (z0g C7 (rm hr) rfl (z00 (z0b z09 rfl M.len bN (z00 (pv 0) z02)) z02))) (z04 (z0o (i:=4) nd rfl (Or.inl rfl) (z1m z02)) (z04 (z0W bT rfl (z1k (z0g L0 (rm hr) rfl (z00 (pv 1) (z00 (pv 2) (z00 (z0r z3P z06 (pv 3)) z02))))) (z0j (i:=5) nd rfl (Or.inl rfl)) (z04 (z0o (i:=6) nd rfl (Or.inl rfl) (z0r z19 (pv 5) (pv 3))) (z04 (z0o (i:=7) nd rfl (Or.inl rfl) (z1m z02)) (z04 (z0W bT rfl (z1k (pv 0)) (z0j (i:=8) nd rfl (Or.inl rfl)) (z04 (z0C (z0c z28 (z0r z19 (pv 6) z06) z06 (z0m _)) (z05 (z0F (z2Z bV bU bW z0L (pv 7) (z00 (pv 8) z02)))) z0k) (z05 (z0o (i:=6) nd rfl (Or.inl rfl) (z0r z1B (pv 6) z06))))) (z04 (z0C (z0c z28 (z0r z1B (pv 5) (pv 3)) z06 (z0m _)) (z05 (z0o (i:=7) nd rfl (Or.inl rfl) (z1m (z00 (z0A z1j (pv 0) (z0r z19 (pv 5) (z0b z09 rfl M.len bN (z00 (pv 0) z02))) (fun _ _=>rfl)) z02)))) z0k) (z04 (z0C (z0c z28 (z0r z1B (pv 5) (pv 3)) z06 (z0m _)) (z05 (z0o (i:=7) nd rfl (Or.inl rfl) (z1m z02))) z0k) (z04 (z0C (z0c z28 (z0r z1B (pv 5) (pv 3)) z06 (z0m _)) (z05 (z0o (i:=7) nd rfl (Or.inl rfl) (z0t z4K rfl M.list jF (z00 (pv 0) z02)))) z0k) (z05 (z0F (z2Z bV bU bW z0L (pv 4) (z00 (pv 7) z02))))))))))) (z05 (z0i (pv 4)))))),?_⟩
 have hl0:(nm.map V.str).length=nm.length:=bA _
 refine(rdI rfl ⟨ln,(rdI rfl ⟨.inl hS,(rdI rfl ⟨by lia,by lia,?_⟩)⟩)⟩)
 have pw:=two_pow_le n2
 rw[hl0]
 have ez:(2:Int)^(((nm.length:Nat):Int).toNat)=2^nm.length:=rfl
 rw[ez]
 generalize hz:(2:Int)^nm.length=z at pw ⊢
 refine⟨(by show 0≤sizeLine;decide),fun l hl=>?_⟩
 refine(rdI rfl (rdI rfl (rdI rfl (ex2 _ _ ⟨rfl,rfl,.inl ⟨by decide,by decide⟩,(ex3 c m (4*z) ⟨rfl,m0,m1,by lia,by lia,fun lf fs H1 nlf s1 e1 V6 all1=>?_⟩)⟩))))
 have sl:=z01 (H:=H) hl (.lst [])
 have nl:lf≠l:=fun e=>by rw[e,z03] at nlf;cases nlf
 have el1:H1 l=some (.lst []):=s1 _ _ z03
 refine⟨lf,rfl,⟨_,SqL.of e1⟩,?_⟩
 refine z1R (xs:=fs.map V.int) (fun i σ H'=>∃(xs:List V) (ss:List (List Str)) (o1 o2 o3 o4:Option V),H' l=some (.lst xs)/\z2C H' l xs ss/\ss.length=i/\(∀s∈ss,s.Sublist nm)/\H' lf=some (.lst (fs.map V.int))/\B0 H H'/\
  σ=[some (.ref ln),some (.int c),some (.int m),some (.int z),some (.ref l),o1,o2,o3,o4]) ⟨[],[],_,_,_,_,el1,.nil,rfl,(fun _ h=>nomatch h),e1,sl.trans s1,rfl⟩ (fun i σ H' hi hp=>?_) (fun i x σ H' hx hp=>?_) (fun σ H' hp=>?_)
 ·obtain⟨xs,ss,o1,o2,o3,o4,_,_,_,_,h2,_⟩:=hp
  exact SqL.of h2
 ·obtain⟨xs,ss,o1,o2,o3,o4,p1,p2,p3,p4,p5,p6,rfl⟩:=hp
  rw[bE] at hx
  cases ef:fs[i]? with
  | none=>rw[ef] at hx;cases hx
  | some g=>
   rw[ef] at hx
   cases hx
   have hg:=all1 g (bS ef)
   have hi:i<fs.length:=(bX.mp ef).1
   have lx:=p2.len
   have cd:CDiv g z:=⟨by lia,by lia⟩
   refine(rdI rfl (rdI rfl (ex2 _ _ ⟨rfl,rfl,(by lia),?_⟩)))
   refine⟨(by show 0≤sizeLine;decide),fun a ha=>?_⟩
   have nal:a≠l:=fun e=>by rw[e,p1] at ha;cases ha
   have naf:a≠lf:=fun e=>by rw[e,p5] at ha;cases ha
   refine(rdI rfl ⟨ln,rfl,⟨_,(p6.trans (z01 ha _)).seq hS⟩,?_⟩)
   refine z1R (xs:=nm.map V.str) (fun k σ H2=>∃(ch:List Str) (mk:Int) (o4:Option V),ch.Sublist (nm.take k)/\H2=upd H' a (.lst (ch.map V.str))/\
    σ=[some (.ref ln),some (.int c),some (.int m),some (.int z),some (.ref l),some (.int g),some (.int mk),some (.ref a),o4]) ⟨[],_,_,kH _,rfl,rfl⟩ (fun k σ H2 hk hp=>?_) (fun k y σ H2 hy hp=>?_) (fun σ H2 hp=>?_)
   ·obtain⟨ch,mk,o4,_,rfl,_⟩:=hp
    exact(p6.trans (z01 ha _)).seq hS
   ·obtain⟨ch,mk,o4,hch,rfl,rfl⟩:=hp
    rw[bE] at hy
    cases en:nm[k]? with
    | none=>rw[en] at hy;cases hy
    | some nk=>
     rw[en] at hy
     cases hy
     have tk:=z0n en
     have hcl:ch.length≤12:=by
      have:=hch.length_le
      rw[bI] at this
      lia
     refine(rdI rfl (ex2 _ _ ⟨rfl,rfl,(by show(0:Int)<2;decide),rfl,(rdI rfl ?_)⟩))
     refine B9 (fun _=>?_) (fun _=>?_)
     ·refine(rdI rfl ⟨.inl ⟨rfl,_,SqL.of z03⟩,(rdI rfl (ex3 a _ _ ⟨rfl,rfl,z03,z0f (by rw[bA];lia),?_⟩))⟩)
      refine(rdI rfl (ex2 _ _ ⟨rfl,rfl,⟨by decide,by decide⟩,ch++[nk],_,some (.str nk),?_,?_,rfl⟩))
      ·rw[tk]
       exact hch.append (kH _)
      ·rw[z8V,bG]
       rfl
     ·refine(rdI rfl (ex2 _ _ ⟨rfl,rfl,⟨by decide,by decide⟩,ch,_,some (.str nk),?_,rfl,rfl⟩))
      rw[tk]
      exact hch.trans (List.sublist_append_left _ _)
   ·obtain⟨ch,mk,o4,hch,rfl,rfl⟩:=hp
    rw[bA,bR] at hch
    have fin:∀(b:Addr) (cs:List Str) (H3:Hp) (o2 o4:Option V),cs.Sublist nm->b≠l->H3 b=some (.lst (cs.map V.str))->B0 (upd H' a (.lst (ch.map V.str))) H3->
      ∃(xs':List V) (ss':List (List Str)) (o1' o2' o3' o4':Option V),upd H3 l (.lst (xs++[.ref b])) l=some (.lst xs')/\z2C (upd H3 l (.lst (xs++[.ref b]))) l xs' ss'/\ss'.length=i+1/\(∀s∈ss',s.Sublist nm)/\
       upd H3 l (.lst (xs++[.ref b])) lf=some (.lst (fs.map V.int))/\B0 H (upd H3 l (.lst (xs++[.ref b])))/\
       ([some (.ref ln),some (.int c),some (.int m),some (.int z),some (.ref l),some (.int g),o2,some (.ref b),o4]:St)=[some (.ref ln),some (.int c),some (.int m),some (.int z),some (.ref l),o1',o2',o3',o4']:=by
     intro b cs H3 o2 o4 hcs hb hb3 g3
     have g4:B0 H' H3:=(z01 ha _).trans g3
     refine⟨_,ss++[cs],_,_,_,_,z03,?_,by rw[bL,p3];rfl,fun s' hs'=>?_,?_,z2g (p6.trans g4) hl,rfl⟩
     ·exact hU (p2.keep g4).over ⟨b,rfl,hb,by rw[z0l hb];exact hb3⟩
     ·rcases cH.mp hs' with h|h
      ·exact p4 s' h
      ·rw[bC.mp h]
       exact hcs
     ·rw[z0l nl]
      exact g4 _ _ p5
    have el:∀{H3:Hp},B0 (upd H' a (.lst (ch.map V.str))) H3->H3 l=some (.lst xs):=fun {H3} g3=>g3 _ _ ((z01 ha _) _ _ p1)
    have app:∀{H3:Hp},B0 (upd H' a (.lst (ch.map V.str))) H3->xs.length<sizeLine:=fun _=>z0f (by lia)
    refine(rdI rfl (rdI rfl (ex2 _ _ ⟨rfl,rfl,cd,rfl,(rdI rfl ?_)⟩)))
    refine B9 (fun d1=>?_) (fun d1=>?_)
    ·obtain⟨x1,hx1,ax1⟩:=y7R (ns:=nm) (k:=g%(((nm.map V.str).length:Nat):Int)) (cY _ (by lia)) (by rw[hl0];exact cQ _ (by lia))
     have q1:g / z=1:=V.int.inj (z0K d1)
     refine(rdI rfl (rdI rfl (rdI rfl ⟨ln,(rdI rfl ⟨.inl ((p6.trans (z01 ha _)).seq hS),(ex2 _ _ ⟨rfl,rfl,(by rw[hl0];lia),(ex4 ln _ _ _ ⟨rfl,rfl,(p6.trans (z01 ha _)).seq hS,ax1,(by show 1≤sizeLine;decide),fun b1 hb1=>?_⟩)⟩)⟩)⟩)))
     have g1:=z01 hb1 (.lst [.str x1])
     have sub1:[x1].Sublist nm:=List.singleton_sublist.mpr (bS hx1)
     refine(rdI rfl (rdI rfl (ex2 _ _ ⟨rfl,rfl,cd,rfl,(rdI rfl ?_)⟩)))
     refine B9 (fun d=>absurd (show g / z=2 from V.int.inj (z0K d)) (by lia)) (fun _=>(rdI rfl (rdI rfl (ex2 _ _ ⟨rfl,rfl,cd,rfl,(rdI rfl ?_)⟩))))
     refine B9 (fun d=>absurd (show g / z=3 from V.int.inj (z0K d)) (by lia)) (fun _=>?_)
     refine(rdI rfl ⟨.inl ⟨rfl,_,SqL.of (el g1)⟩,(rdI rfl (ex3 l _ _ ⟨rfl,rfl,el g1,app g1,?_⟩))⟩)
     exact fin b1 [x1] _ _ _ sub1 (fun e=>by rw[e,(z01 ha (.lst (ch.map V.str))) _ _ p1] at hb1;cases hb1) z03 g1
    ·refine(rdI rfl (rdI rfl (ex2 _ _ ⟨rfl,rfl,cd,rfl,(rdI rfl ?_)⟩)))
     refine B9 (fun d2=>?_) (fun d2=>?_)
     ·have q2:g / z=2:=V.int.inj (z0K d2)
      refine⟨(by show 0≤sizeLine;decide),fun b1 hb1=>?_⟩
      have g1:=z01 hb1 (.lst [])
      refine(rdI rfl (rdI rfl (ex2 _ _ ⟨rfl,rfl,cd,rfl,(rdI rfl ?_)⟩)))
      refine B9 (fun d=>absurd (show g / z=3 from V.int.inj (z0K d)) (by lia)) (fun _=>?_)
      refine(rdI rfl ⟨.inl ⟨rfl,_,SqL.of (el g1)⟩,(rdI rfl (ex3 l _ _ ⟨rfl,rfl,el g1,app g1,?_⟩))⟩)
      exact fin b1 [] _ _ _ (kM _) (fun e=>by rw[e,(z01 ha (.lst (ch.map V.str))) _ _ p1] at hb1;cases hb1) z03 g1
     ·refine(rdI rfl (rdI rfl (ex2 _ _ ⟨rfl,rfl,cd,rfl,(rdI rfl ?_)⟩)))
      refine B9 (fun d3=>?_) (fun d3=>?_)
      ·refine(rdI rfl ⟨ln,(rdI rfl ⟨.inl ((p6.trans (z01 ha _)).seq hS),fun b1 hb1=>?_⟩)⟩)
       have g1:=z01 hb1 (.lst (nm.map V.str))
       refine(rdI rfl ⟨.inl ⟨rfl,_,SqL.of (el g1)⟩,(rdI rfl (ex3 l _ _ ⟨rfl,rfl,el g1,app g1,?_⟩))⟩)
       exact fin b1 nm _ _ _ (kH _) (fun e=>by rw[e,(z01 ha (.lst (ch.map V.str))) _ _ p1] at hb1;cases hb1) z03 g1
      ·refine(rdI rfl ⟨.inl ⟨rfl,_,SqL.of (el (B0.refl _))⟩,(rdI rfl (ex3 l _ _ ⟨rfl,rfl,el (B0.refl _),app (B0.refl _),?_⟩))⟩)
       exact fin a ch _ _ _ hch nal z03 (B0.refl _)
 ·obtain⟨xs,ss,o1,o2,o3,o4,p1,p2,p3,p4,p5,p6,rfl⟩:=hp
  rw[bA] at p3
  exact(rdI rfl (q l xs ss _ hl p6 p1 p2 (by rw[p3,V6]) p4))
abbrev Row:=List (Str×Int)
noncomputable def z9U(p:Str×Int):DV:=.tup [.str p.1,.int p.2]
noncomputable def O9(r:Row):DV:=.tup (r.map z9U)
theorem y52{H:Hp}{a:Addr}{x:Str}{z:Int}(h:H a=some (.tup [.str x,.int z])):B2 H (z9U (x,z)) (.ref a):=z0s h (by show 2≤1000000;decide) (.cons (z2h x) (.cons (z0E z) .nil))
theorem y2c{xs:List V}:∀ys,HO.lst xs≠.tup ys:=fun _ e=>by cases e
noncomputable def y54:Sp:=fun vs H Q _=>∃g p:Int,vs=[.int g,.int p]/\∀r,0≤r->r≤1000000->Q (.int r) H
theorem y60(F:Fun K "_law_value" "_law_value" z5S f fd):B4 P w K mg base CX0 1 f fd z5J y54:=by
 have nd:=z7o.nd
 refine F.ok z7o (fun vs H Q E h=>?_) (fun cdv A outer s H vs Q E hr h=>?_)
 ·obtain⟨g,p,rfl,_⟩:=h
  rfl
 obtain⟨g,p,rfl,q⟩:=h
 refine⟨_,(z04 (z0C (z0c z28 (z0r z1B (pv 0) z06) z06 (z0m _)) (z05 (z0i (z0r z19 (z0r z1o (pv 0) (z0r z3P z06 (pv 1))) z06))) z0k) (z04 (z0C (z0c z28 (z0r z1B (pv 0) z06) z06 (z0m _)) (z05 (z0i (z0r z3P z06 (z0r z19 (z0r z1o (pv 0) (pv 1)) z06)))) z0k) (z05 (z0i (z0r z19 (z0r z1o (pv 0) (pv 1)) z06))))),?_⟩
 refine(rdI rfl (ex2 _ _ ⟨rfl,rfl,⟨by decide,by decide⟩,rfl,(rdI rfl ?_)⟩))
 refine B9 (fun _=>?_) (fun _=>?_)
 ·refine(rdI rfl (rdI rfl (ex2 _ _ ⟨rfl,rfl,.inl ⟨by decide,by decide⟩,(ex2 _ _ ⟨rfl,rfl,(ex2 _ _ ⟨rfl,rfl,(by show(0:Int)<1000001;decide),?_⟩)⟩)⟩)))
  have h1:=cY (g+7*p) (show(1000001:Int)≠0 by decide)
  have h2:=cQ (g+7*p) (show(0:Int)<1000001 by decide)
  exact q _ h1 (by lia)
 ·refine(rdI rfl (ex2 _ _ ⟨rfl,rfl,⟨by decide,by decide⟩,rfl,(rdI rfl ?_)⟩))
  have h1:=cY (g+p) (show(2:Int)≠0 by decide)
  have h2:=cQ (g+p) (show(0:Int)<2 by decide)
  refine B9 (fun _=>?_) (fun _=>?_)
  ·refine(rdI rfl (rdI rfl (ex2 _ _ ⟨rfl,rfl,(ex2 _ _ ⟨rfl,rfl,(by show(0:Int)<2;decide),(ex2 _ _ ⟨rfl,rfl,.inl ⟨by decide,by decide⟩,?_⟩)⟩)⟩)))
   exact q _ (by lia) (by lia)
  ·refine(rdI rfl (rdI rfl (ex2 _ _ ⟨rfl,rfl,(ex2 _ _ ⟨rfl,rfl,(by show(0:Int)<2;decide),?_⟩)⟩)))
   exact q _ h1 (by lia)
structure Rws(nm:List Str)(rows:List Row):Prop where
 sub:∀r∈rows,(r.map Prod.fst).Sublist nm
 val:∀r∈rows,∀p∈r,0≤p.2/\p.2≤1000000
noncomputable def y2u:Sp:=fun vs H Q _=>∃(l:Addr) (xs:List V) (ss:List (List Str)) (c:Int),vs=[.ref l,.int c]/\H l=some (.lst xs)/\z2C H l xs ss/\ss.length≤900/\(∀s∈ss,s.length≤12)/\
 ∀(lr:Addr) (us:List V) (rows:List Row) (H':Hp),H lr=none->B0 H H'->H' lr=some (.lst us)->z0a H' (rows.map O9) us->rows.map (fun r=>r.map Prod.fst)=ss->(∀r∈rows,∀p∈r,0≤p.2/\p.2≤1000000)->Q (.ref lr) H'
theorem y4e(M:Bl mg)(F:Fun K "_law_valued" "_law_valued" z4U f fd)(L0:Cal P w K mg base 1 "_law_row" z6l y7d)(O4:Cal P w K mg base 1 "_law_value" z5J y54) :
  B4 P w K mg base CX0 2 f fd z4B y2u:=by
 have nd:=z6z.nd
 refine F.ok z6z (fun vs H Q E h=>?_) (fun cdv A outer s H vs Q E hr h=>?_)
 ·obtain⟨l,xs,ss,c,rfl,_⟩:=h
  rfl
 obtain⟨l,xs,ss,c,rfl,hL,hSs,n0,n1,q⟩:=h
 refine⟨_,(z04 (z0o (i:=2) nd rfl (Or.inl rfl) (z0g L0 (rm hr) rfl (z00 (pv 1) (z00 (z0b z09 rfl M.len bN (z00 (pv 0) z02)) (z00 z06 z02))))) (z04 (z0o (i:=3) nd rfl (Or.inl rfl) (z1m z02)) (z04 (z0W bT rfl (z1p rfl M.range (z00 (z0b z09 rfl M.len bN (z00 (pv 0) z02)) z02)) (z0j (i:=4) nd rfl (Or.inl rfl)) (z04 (z0o (i:=5) nd rfl (Or.inl rfl) (z1m z02)) (z04 (z0W bT rfl (z1p rfl M.range (z00 (z0b z09 rfl M.len bN (z00 (z0A z1j (pv 0) (pv 4) (fun _ _=>rfl)) z02)) z02)) (z0j (i:=6) nd rfl (Or.inl rfl)) (z05 (z0F (z2Z bV bU bW z0L (pv 5) (z00 (z0U (z00 (z0A z1j (z0A z1j (pv 0) (pv 4) (fun _ _=>rfl)) (pv 6) (fun _ _=>rfl)) (z00 (z0g O4 (rm hr) rfl (z00 (z0A z1j (pv 2) (pv 4) (fun _ _=>rfl)) (z00 (pv 6) z02))) z02))) z02))))) (z05 (z0F (z2Z bV bU bW z0L (pv 3) (z00 (z0t z0p rfl M.tuple bH (z00 (pv 5) z02)) z02))))))) (z05 (z0i (pv 3)))))),?_⟩
 have hl0:=hSs.len
 refine(rdI rfl (rdI rfl (ex2 l _ ⟨rfl,.inl (SqL.of hL),(ex3 _ _ _ ⟨rfl,by lia,by lia,by decide,by decide,fun lf fs H1 nlf s1 e1 V6 all1=>?_⟩)⟩)))
 have len1':fs.length=ss.length:=by rw[V6,hl0];rfl
 refine⟨(by show 0≤sizeLine;decide),fun lr hlr=>?_⟩
 have nr:lf≠lr:=z0q e1 hlr
 have nlr0:H lr=none:=s1.free hlr
 refine(rdI rfl (ex2 l _ ⟨rfl,.inl (SqL.of ((s1.trans (z01 hlr _)) _ _ hL)),(rdI rfl ⟨by lia,by lia,?_⟩)⟩))
 refine z15 (lo:=0) (n:=((xs.length:Nat):Int).toNat) (fun i σ H'=>∃(us:List V) (rows:List Row) (o1 o2 o3:Option V),H' lr=some (.lst us)/\z0a H' (rows.map O9) us/\rows.map (fun r=>r.map Prod.fst)=ss.take i/\(∀r∈rows,∀p∈r,0≤p.2/\p.2≤1000000)/\B0 H1 H'/\
  σ=[some (.ref l),some (.int c),some (.ref lf),some (.ref lr),o1,o2,o3]) ⟨[],[],_,_,_,z03,.nil,rfl,(fun _ h=>nomatch h),z01 hlr _,rfl⟩ (fun i σ H' hi hp=>?_) (fun σ H' hp=>?_)
 ·obtain⟨us,rows,o1,o2,o3,p1,p2,p3,p4,p5,rfl⟩:=hp
  have hi':i<ss.length:=by
   have:((xs.length:Nat):Int).toNat=xs.length:=rfl
   lia
  have ei:(0:Int)+(i:Int)=(i:Int):=fV _
  have es:ss[i]? = some ss[i]:=bD hi'
  generalize ss[i]=sI at es
  have hsI:=n1 sI (bS es)
  obtain⟨v,hv,a,rfl,na,ha⟩:=hSs.get i sI es
  have lus:=p2.length
  rw[bA] at lus
  have lrows:rows.length=i:=by
   have:=congrArg List.length p3
   rw[bA,bI] at this
   lia
  have atv:atI xs ((0:Int)+(i:Int))=some (.ref a):=by rw[ei];exact z0V hv
  have gl:∀{H2:Hp},B0 H' H2->H2 l=some (.lst xs)/\H2 a=some (.lst (sI.map V.str))/\H2 lf=some (.lst (fs.map V.int)):=fun {H2} g=>⟨(s1.trans (p5.trans g)) _ _ hL,(s1.trans (p5.trans g)) _ _ ha,(p5.trans g) _ _ e1⟩
  refine⟨(by show 0≤sizeLine;decide),fun lo hlo=>?_⟩
  have go:=z01 (H:=H') hlo (.lst [])
  refine(rdI rfl (rdI rfl (ex4 l _ _ _ ⟨rfl,rfl,SqL.of (gl go).1,atv,(ex2 a _ ⟨rfl,.inl (SqL.of (gl go).2.1),(rdI rfl ⟨by lia,by rw[bA];lia,?_⟩)⟩)⟩)))
  have hls:(sI.map V.str).length=sI.length:=bA _
  refine z15 (lo:=0) (n:=(((sI.map V.str).length:Nat):Int).toNat) (fun j σ H2=>∃(zs:List V) (row:Row) (o3:Option V),H2 lo=some (.lst zs)/\z0a H2 (row.map z9U) zs/\row.map Prod.fst=sI.take j/\(∀p∈row,0≤p.2/\p.2≤1000000)/\B0 H' H2/\
   σ=[some (.ref l),some (.int c),some (.ref lf),some (.ref lr),some (.int (0+(i:Int))),some (.ref lo),o3]) ⟨[],[],_,z03,.nil,rfl,(fun _ h=>nomatch h),go,rfl⟩ (fun j σ H2 hj hp=>?_) (fun σ H2 hp=>?_)
  ·obtain⟨zs,row,o3,r1,r2,r3,r4,r5,rfl⟩:=hp
   have hj':j<sI.length:=by
    have:(((sI.map V.str).length:Nat):Int).toNat=sI.length:=by rw[hls];rfl
    lia
   have ej:(0:Int)+(j:Int)=(j:Int):=fV _
   have ex:sI[j]? = some sI[j]:=bD hj'
   generalize sI[j]=x at ex
   have atx:atI (sI.map V.str) ((0:Int)+(j:Int))=some (.str x):=by
    rw[ej]
    exact z0V (by rw[bE,ex];rfl)
   have atf:atI (fs.map V.int) ((0:Int)+(i:Int))=some (.int (fs.getD i 0)):=by
    rw[ei]
    exact z6Y (ns:=fs) (k:=(i:Int)) (by lia) (by lia)
   have lrow:row.length=j:=by
    have:=congrArg List.length r3
    rw[bA,bI] at this
    lia
   have lz:=r2.length
   rw[bA] at lz
   refine(rdI rfl ⟨.inl ⟨rfl,_,SqL.of r1⟩,(rdI rfl (rdI rfl (ex4 l _ _ _ ⟨rfl,rfl,SqL.of (gl r5).1,atv,(rdI rfl (ex4 a _ _ _ ⟨rfl,rfl,SqL.of (gl r5).2.1,atx,?_⟩))⟩)))⟩)
   refine(rdI rfl (rdI rfl (ex4 lf _ _ _ ⟨rfl,rfl,SqL.of (gl r5).2.2,atf,(rdI rfl (ex2 _ _ ⟨rfl,fun z z0 z1=>⟨(by show 2≤sizeLine;decide),fun t ht=>?_⟩⟩))⟩)))
   have gt:=z01 (H:=H2) ht (.tup [.str x,.int z])
   refine(ex3 lo zs _ ⟨rfl,rfl,gt _ _ r1,z0f (by lia),?_⟩)
   refine⟨_,row++[(x,z)],some (.int (0+(j:Int))),z03,?_,?_,fun p hp=>?_,z2g (r5.trans gt) hlo,rfl⟩
   ·rw[bG]
    exact z0a.over (gt _ _ r1) y2c _ _ (z0a.snoc (z0a.keep gt _ _ r2) (y52 z03))
   ·rw[bG,r3,z0n ex]
    rfl
   ·rcases cH.mp hp with h|h
    ·exact r4 p h
    ·rw[bC.mp h]
     exact⟨z0,z1⟩
  ·obtain⟨zs,row,o3,r1,r2,r3,r4,r5,rfl⟩:=hp
   have er:(((sI.map V.str).length:Nat):Int).toNat=sI.length:=by rw[hls];rfl
   rw[er,bR] at r3
   have lrow:row.length≤12:=by
    have:=congrArg List.length r3
    rw[bA] at this
    lia
   refine(rdI rfl ⟨.inl ⟨rfl,_,SqL.of (r5 _ _ p1)⟩,(rdI rfl ⟨lo,(rdI rfl (.inl ⟨SqL.of r1,fun t ht=>?_⟩))⟩)⟩)
   have gt:=z01 (H:=H2) ht (.tup zs)
   have el:=(r5.trans gt) _ _ p1
   refine(ex3 lr us _ ⟨rfl,rfl,el,z0f (by lia),?_⟩)
   refine⟨_,rows++[row],_,_,_,z03,?_,?_,fun r hr'=>?_,z2g (p5.trans (r5.trans gt)) hlr,rfl⟩
   ·rw[bG]
    refine z0a.over el y2c _ _ (z0a.snoc (z0a.keep (r5.trans gt) _ _ p2) (z0s z03 ?_ (z0a.keep gt _ _ r2)))
    rw[bA]
    lia
   ·rw[bG,p3,z0n es]
    exact congrArg (ss.take i++·) (congrArg (fun z=>[z]) r3)
   ·rcases cH.mp hr' with h|h
    ·exact p4 r h
    ·rw[bC.mp h]
     exact r4
 ·obtain⟨us,rows,o1,o2,o3,p1,p2,p3,p4,p5,rfl⟩:=hp
  have er:((xs.length:Nat):Int).toNat=ss.length:=by rw[hl0];rfl
  rw[er,bR] at p3
  exact(rdI rfl (q lr us rows _ nlr0 (s1.trans p5) p1 p2 p3 p4))
noncomputable def y3S(K:PySem.W.Frag):Sp:=fun vs H Q _=>∃(a:Addr) (ns:List Int),vs=[.ref a]/\SqL K H a (ns.map V.int)/\
 ∀(l:Addr) (nm:List Str) (H':Hp),H l=none->B0 H H'->H' l=some (.lst (nm.map V.str))->1≤nm.length->nm.length≤12->Nms nm->Q (.ref l) H'
theorem y5S(F:Fun K "_law_names" "_law_names" z5N f fd)(E6:Cal P w K mg base 1 "_law_at" z7V (w0z K))(D4:Cal P w K mg base 1 "_law_pick" z3S y2v)
  (O0:Cal P w K mg base 1 "_law_named" z5P y4S):B4 P w K mg base CX0 2 f fd z5v (y3S K):=by
 have nd:=z7s.nd
 refine F.ok z7s (fun vs H Q E h=>?_) (fun cdv A outer s H vs Q E hr h=>?_)
 ·obtain⟨a,ns,rfl,_⟩:=h
  rfl
 obtain⟨a,ns,rfl,hS,q⟩:=h
 refine⟨_,(z05 (z0i (z0g O0 (rm hr) rfl (z00 (z0r z1B (z0g E6 (rm hr) rfl (z00 (pv 0) (z00 z06 z02))) z06) (z00 (z0r z1o z06 (z0g D4 (rm hr) rfl (z00 (z0r z19 (z0g E6 (rm hr) rfl (z00 (pv 0) (z00 z06 z02))) z06) (z00 z06 z02)))) z02))))),?_⟩
 refine(rdI rfl (ex3 a ns 0 ⟨rfl,hS,eX 0,(ex2 _ _ ⟨rfl,rfl,⟨by decide,by decide⟩,?_⟩)⟩))
 refine(rdI rfl (ex3 a ns 0 ⟨rfl,hS,eX 0,(ex2 _ _ ⟨rfl,rfl,(by show(0:Int)<24;decide),(ex2 _ _ ⟨rfl,(by decide),fun r h0 h1=>(ex2 _ _ ⟨rfl,rfl,?_⟩)⟩)⟩)⟩))
 exact(ex2 _ _ ⟨rfl,by lia,by lia,fun l nm H' nl g e len N=>q l nm H' nl g e (by lia) (by lia) N⟩)
noncomputable def L7(s:List Str):DV:=.tup (s.map DV.str)
noncomputable def dnI(hi:Int)(j:Nat):List Int:=(List.range j).map fun(k:Nat)=>hi-(k:Int)
theorem y1x(hi:Int)(j:Nat):(dnI hi j).length=j:=by unfold dnI;rw[bA,jA]
theorem y0b{hi:Int}{j:Nat}{x:Int}:x∈dnI hi j↔hi-j<x/\x≤hi:=by
 unfold dnI
 rw[cS]
 constructor
 ·rintro⟨k,hk,rfl⟩
  have:=fQ.mp hk
  lia
 ·rintro⟨h1,h2⟩
  exact⟨(hi-x).toNat,fQ.mpr (by lia),by lia⟩
noncomputable def z0H(r:Row):List Str:=r.map Prod.fst
noncomputable def z0D(rows:List Row)(n:Int):Row:=rows.getD (n-1).toNat []
noncomputable def y3k(rows:List Row)(k:Int):DV:=.tup [.int k,L7 (z0H (z0D rows k))]
noncomputable def z6P(n r:Int):List Int:=(dnI (n-1) (n-1).toNat).filter fun k=>decide (n-k≤r)
noncomputable def y6n(rows:List Row)(n r:Int):DV:=.tup ((z6P n r).map (y3k rows))
noncomputable def z10(rows:List Row)(n r:Int):DV:=.tup [.int n,O9 (z0D rows n),y6n rows n r]
theorem z69{H:Hp}{rows:List Row}{us:List V}(h:z0a H (rows.map O9) us){k:Int}(k0:1≤k)(k1:k≤rows.length):∃v,us[(k-1).toNat]? = some v/\atI us (k-1)=some v/\B2 H (O9 (z0D rows k)) v:=by
 have hk:(k-1).toNat<rows.length:=by lia
 obtain⟨v,e,t⟩:=h.get (k-1).toNat (O9 (z0D rows k)) (by
  unfold z0D
  rw[bE,bP,bD hk]
  rfl)
 have ek:k-1=(((k-1).toNat:Nat):Int):=by lia
 exact⟨v,e,by rw[ek];exact z0V e,t⟩
theorem z2J{H:Hp}:∀{r:Row}{xs:List V},z0a H (r.map z9U) xs->∀(i:Nat) (x:V),xs[i]? = some x->∃(p:Str×Int) (a:Addr),r[i]? = some p/\x=.ref a/\H a=some (.tup [.str p.1,.int p.2]):=by
 intro r xs h i x e
 obtain⟨d,e1,t⟩:=h.at i x e
 rw[bE] at e1
 cases er:r[i]? with
 | none=>rw[er] at e1;cases e1
 | some p=>
  rw[er] at e1
  have e2:z9U p=d:=Option.some.inj e1
  subst e2
  obtain⟨a,ys,rfl,h1,_,h2⟩:=z0d t
  obtain⟨y1,r1,rfl,t1,h3⟩:=z0e h2
  obtain⟨y2,r2,rfl,t2,h4⟩:=z0e h3
  have:=z0G h4
  subst this
  rw[z2S t1,z14 t2] at h1
  exact(ex2 p a ⟨rfl,rfl,h1⟩)
theorem z92{rows:List Row}(h:∀w∈rows,w.length≤12)(k:Int):(z0D rows k).length≤12:=by
 unfold z0D
 rw[bP]
 cases e:rows[(k-1).toNat]? with
 | none=>exact cW _
 | some w=>exact h w (bS e)
structure E2(zs:List Str):Prop where
 lo:1≤zs.length
 hi:zs.length≤12
 nd:zs.Nodup
noncomputable def SqN(K:PySem.W.Frag)(H:Hp)(p:Addr)(zs:List Str):Prop:=SqL K H p (zs.map V.str)\/SqT K H p (zs.map V.str)
theorem SqN.keep{K:PySem.W.Frag}{H H':Hp}{p:Addr}{zs:List Str}(h:B0 H H')(x:SqN K H p zs):SqN K H' p zs:=x.imp (fun q=>h.seq q) fun q=>z6d h q
noncomputable def z9u(K:PySem.W.Frag):Sp:=fun vs H Q _=>∃(p:Addr) (zs:List Str),vs=[.ref p]/\SqN K H p zs/\E2 zs/\∀H',B0 H H'->Q .non H'
theorem y1y(M:Bl mg)(F:Fun K "refuse_bad_names" "refuse_bad_names" z2F f fd):B4 P w K mg base CX0 1 f fd z2M (z9u K):=by
 have nd:=z3y.nd
 refine F.ok z3y (fun vs H Q E h=>?_) (fun cdv A outer s H vs Q E hr h=>?_)
 ·obtain⟨p,zs,rfl,_⟩:=h
  rfl
 ·obtain⟨p,zs,rfl,hp,g,k⟩:=h
  refine⟨_,(z04 (z0C (z0c z8l (z0b z09 rfl M.len bN (z00 (pv 0) z02)) z06 (z0m _)) (z05 z1S) z0k) (z04 (z0C (z0c z2o (z0b z09 rfl M.len bN (z00 (pv 0) z02)) (z3b rfl M.MOST_NAMES) (z0m _)) (z05 z1S) z0k) (z05 (z0C (z0c z79 (z0b z6n rfl M.len bN (z00 (z0t (z5h rfl) rfl M.set PyProof.Rows.boot_set (z00 (pv 0) z02)) z02)) (z0b z09 rfl M.len bN (z00 (pv 0) z02)) (z0m _)) (z05 z1S) z0k)))),?_⟩
  have:=g.lo
  have:=g.hi
  have el:(zs.map V.str).length=zs.length:=bA _
  refine(rdI rfl (ex2 p _ ⟨rfl,hp,(ex2 _ _ ⟨rfl,rfl,(rdI rfl (B9 (fun q=>absurd (z0K q) (by lia)) fun _=>?_))⟩)⟩))
  refine(rdI rfl (ex2 p _ ⟨rfl,hp,(ex2 _ _ ⟨rfl,rfl,(rdI rfl (B9 (fun q=>absurd (z0K q) (by lia)) fun _=>?_))⟩)⟩))
  refine(rdI rfl (ex2 p zs ⟨rfl,hp,by lia,fun l hl=>(ex2 l zs ⟨rfl,z03,by lia,(rdI rfl (ex2 p (zs.map V.str) ⟨rfl,SqN.keep (z01 hl _) hp,rfl,(rdI rfl ?_)⟩))⟩)⟩))
  refine y8p ?_ (k _ (z01 hl _))
  rw[y5x g.nd,el]
noncomputable def z9x:Sp:=fun vs H Q _=>∃r:Int,vs=[.int r]/\0≤r/\r≤10/\Q .non H
theorem y1Z(M:Bl mg)(F:Fun K "refuse_bad_reach" "refuse_bad_reach" z2K f fd):B4 P w K mg base CX0 1 f fd z2E z9x:=by
 have nd:=z3w.nd
 refine F.ok z3w (fun vs H Q E h=>?_) (fun cdv A outer s H vs Q E hr h=>?_)
 ·obtain⟨r,rfl,_⟩:=h
  rfl
 ·obtain⟨r,rfl,r0,r1,k⟩:=h
  refine⟨_,(z05 (z0C (PW.pt (z38 (z0c z8l (pv 0) z06 (z0m _)) (z24 (z0c z2o (pv 0) (z3b rfl M.MOST_REACH) (z0m _))))) (z05 z1S) z0k)),?_⟩
  refine(rdI rfl (ex2 _ _ ⟨rfl,rfl,(rdI rfl (B9 (fun q=>absurd (z0K q) (by lia)) fun _=>?_))⟩))
  exact(rdI rfl (ex2 _ _ ⟨rfl,rfl,(rdI rfl (B9 (fun q=>absurd (z0K q) (by lia)) fun _=>k))⟩))
noncomputable def HdN(K:PySem.W.Frag)(H:Hp)(p:Addr)(zs:List Str):Prop:=SqL K H p (zs.map V.str)\/H p=some (.tup (zs.map V.str))
theorem HdN.sq{K:PySem.W.Frag}{H:Hp}{p:Addr}{zs:List Str}(h:HdN K H p zs):SqN K H p zs:=h.imp id SqT.of
theorem HdN.keep{K:PySem.W.Frag}{H H':Hp}{p:Addr}{zs:List Str}(s:B0 H H')(h:HdN K H p zs):HdN K H' p zs:=h.imp (fun q=>s.seq q) fun q=>s _ _ q
noncomputable def z6S(K:PySem.W.Frag):Sp:=fun vs H Q _=>∃(p:Addr) (zs:List Str) (r:Int),vs=[.ref p,.int r]/\HdN K H p zs/\E2 zs/\0≤r/\r≤10/\∀(l:Addr) (H':Hp),B0 H H'->H' l=some (.tup (zs.map V.str))->Q (.ref l) H'
theorem y1q(M:Bl mg)(F:Fun K "bulletin_names" "bulletin_names" z3e f fd)(J8:Cal P w K mg base 1 "refuse_bad_names" z2M (z9u K))(J5:Cal P w K mg base 1 "refuse_bad_reach" z2E z9x) :
  B4 P w K mg base CX0 2 f fd z2q (z6S K):=by
 have nd:=z4s.nd
 refine F.ok z4s (fun vs H Q E h=>?_) (fun cdv A outer s H vs Q E hr h=>?_)
 ·obtain⟨p,zs,r,rfl,_⟩:=h
  rfl
 ·obtain⟨p,zs,r,rfl,hp,g,r0,r1,k⟩:=h
  refine⟨_,(z04 (z0F (z0g J8 (rm hr) rfl (z00 (pv 0) z02))) (z04 (z0F (z0g J5 (rm hr) rfl (z00 (pv 1) z02))) (z05 (z0i (z0t z0p rfl M.tuple bH (z00 (pv 0) z02)))))),?_⟩
  refine(rdI rfl (ex2 p zs ⟨rfl,hp.sq,g,fun H1 s1=>(rdI rfl ⟨r,rfl,r0,r1,(rdI rfl (ex2 p (zs.map V.str) ⟨rfl,?_⟩))⟩)⟩))
  rcases hp.keep s1 with hq|hq
  ·exact .inl ⟨hq,fun l hl=>k l _ (s1.trans (z01 hl _)) z03⟩
  ·exact .inr ⟨SqT.of hq,k p _ s1 hq⟩
noncomputable def z0B(fp:List Addr)(H H':Hp):Prop:=∀b o,H b=some o->b∉fp->H' b=some o
theorem z0B.of{fp:List Addr}{H H':Hp}(h:B0 H H'):z0B fp H H':=fun b o e _=>h b o e
noncomputable def z5w(H:Hp)(fp:List Addr):Prop:=∀b∈fp,∀xs,H b≠some (.tup xs)
mutual
theorem B2.but{fp:List Addr}{H H':Hp}(s:z0B fp H H')(n:z5w H fp):∀(d:DV) (x:V),B2 H d x->B2 H' d x
 | .non,_,h=>by unfold B2 at h ⊢;exact h
 | .bl _,_,h=>by unfold B2 at h ⊢;exact h
 | .int _,_,h=>by unfold B2 at h ⊢;exact h
 | .str _,_,h=>by unfold B2 at h ⊢;exact h
 | .tup ds,_,h=>by
  unfold B2 at h ⊢
  obtain⟨a,xs,e,h1,h2,h3⟩:=h
  exact⟨a,xs,e,s _ _ h1 (fun m=>n a m xs h1),h2,z0a.but s n ds xs h3⟩
theorem z0a.but{fp:List Addr}{H H':Hp}(s:z0B fp H H')(n:z5w H fp):∀(ds:List DV) (xs:List V),z0a H ds xs->z0a H' ds xs
 | [],_,h=>by unfold z0a at h ⊢;exact h
 | d::ds,_,h=>by
  unfold z0a at h ⊢
  obtain⟨x,r,e,h1,h2⟩:=h
  exact⟨x,r,e,B2.but s n d x h1,z0a.but s n ds r h2⟩
end
theorem y0R{H:Hp}{x dx b:Addr}{o u v:HO}(nx:H x=none)(ndx:H dx=none)(h:H b=some o):upd (upd H dx u) x v b=some o:=by
 rw[z0l (z0q h nx),z0l (z0q h ndx)]
 exact h
theorem z9d{H H1:Hp}{C x dx:Addr}(s:B0 H H1)(nx:H1 x=none)(ndx:H1 dx=none):B0 H (upd (upd H1 dx (.own x)) x (.ins C dx [])):=fun _ _ e=>y0R nx ndx (s _ _ e)
theorem z84{H H1 H2:Hp}{x:Addr}(b:z0B [x] H1 H2)(m:B0 H H1)(nx:H x=none):B0 H H2:=fun c o e=>b c o (m c o e) (by
 rw[bC]
 exact z0q e nx)
theorem z6X{H H1:Hp}{x dx b:Addr}(m:B0 H H1)(nx:H x=none)(ndx:H dx=none)(h:b=x\/b=dx\/H1 b=none):H b=none:=by
 rcases h with rfl|rfl|h
 ·exact nx
 ·exact ndx
 ·exact m.free h
theorem y4T{fp fp' fp2:List Addr}{H7 H' GW:Hp}(bt:z0B fp H7 H')(ff:∀b∈fp',b∈fp\/H7 b=none)(gW:B0 H' GW)(hf2:∀b∈fp2,b∈fp'\/GW b=none):∀b∈fp2,b∈fp\/H7 b=none:=fun b m=>(hf2 b m).elim (ff b) fun z=>by
 cases e:H7 b with
 | none=>exact .inr rfl
 | some o=>
  by_cases nb:b∈fp
  ·exact .inl nb
  ·rw[gW _ _ (bt b o e nb)] at z
   cases z
noncomputable def z08(had:List Int):List Int:=(upI 1 60).filter fun x=>decide (x∈had)
noncomputable def Q2(had:List Int):Int:=(z08 had).getLastD 0
noncomputable def P2(had:List Int)(n:Int):List Int:=if n∈had then had else had++[n]
theorem y2f{had:List Int}{n x:Int}:x∈P2 had n↔x∈had\/x=n:=by
 unfold P2
 by_cases h:n∈had
 ·rw[if_pos h]
  exact⟨.inl,fun q=>q.elim id fun e=>e ▸ h⟩
 ·rw[if_neg h,cH,bC]
theorem z0Q{had:List Int}{x:Int}:x∈z08 had↔(1≤x/\x<1+60)/\x∈had:=by
 unfold z08
 rw[cO,z1i,decide_eq_true_eq]
 rfl
theorem z16(had:List Int):(z08 had).Pairwise (· < ·):=(z1Q 1 60).filter _
theorem z2e(had:List Int):(z08 had).length≤60:=by
 have h:=cJ (fun x=>decide (x∈had)) (upI 1 60)
 rw[z0S] at h
 exact h
theorem y0q{ns ms:List Int}(nd:ns.Nodup)(C3:∀x∈ns,1≤x/\x≤60)(hp:ms.Perm ns)(hs:ms.Pairwise (·≤·)):ms=z08 ns:=by
 have n2:ms.Nodup:=hp.nodup_iff.mpr nd
 have lt:ms.Pairwise (· < ·):=by
  have:=List.pairwise_and_iff.mpr ⟨hs,n2⟩
  exact this.imp fun h=>by
   have:=h.1
   have:=h.2
   lia
 refine z1P lt (z16 _) fun x=>?_
 rw[z0Q,hp.mem_iff]
 exact⟨fun h=>⟨by have:=C3 x h;lia,h⟩,fun h=>h.2⟩
abbrev ShP:=Hp->Addr->List Addr->List Str->Int->(Int->DV)->List Int->Prop
structure V2(C:Addr)(ms:List Str)(Sh:ShP):Prop where
 ins:∀{H p fp zs r iss had},Sh H p fp zs r iss had->∃dx fs,H p=some (.ins C dx fs)/\∀m∈ms,fs.lookup m=none
 own:∀{H p fp zs r iss had},Sh H p fp zs r iss had->∀b∈fp,∃o,H b=some o/\∀xs,o≠.tup xs
 keep:∀{H H' p fp gp zs r iss had},Sh H p fp zs r iss had->z0B gp H H'->(∀b∈gp,b∉fp)->z5w H gp->Sh H' p fp zs r iss had
theorem V2.same{C:Addr}{ms:List Str}{Sh:ShP}(O:V2 C ms Sh){H H':Hp}{p:Addr}{fp:List Addr}{zs:List Str}{r:Int}{iss:Int->DV}{had:List Int}(h:Sh H p fp zs r iss had)(s:B0 H H'):Sh H' p fp zs r iss had:=
 O.keep (gp:=[]) h (.of s) (fun _ q=>by cases q) fun _ q=>by cases q
theorem V2.Q4{C:Addr}{ms:List Str}{Sh:ShP}(O:V2 C ms Sh){H:Hp}{p:Addr}{fp:List Addr}{zs:List Str}{r:Int}{iss:Int->DV}{had:List Int}(h:Sh H p fp zs r iss had):z5w H fp:=fun b m xs e=>by
 obtain⟨o,e1,n⟩:=O.own h b m
 rw[e1] at e
 exact n xs (Option.some.inj e)
noncomputable def y2O(K:PySem.W.Frag)(C:Addr)(Sh:ShP):Sp:=fun vs H Q _=>∃(x dx pn:Addr) (zs:List Str) (r:Int),vs=[.ref x,.ref pn,.int r]/\H x=some (.ins C dx [])/\dx≠x/\H dx=some (.own x)/\HdN K H pn zs/\E2 zs/\0≤r/\r≤10/\
 ∀(fp:List Addr) (H':Hp),(∀b∈fp,b=x\/b=dx\/H b=none)->z0B [x] H H'->(∀iss,Sh H' x fp zs r iss [])->Q .non H'
noncomputable def y8C(Sh:ShP):Sp:=fun vs H Q _=>∃(p:Addr) (v:V) (fp:List Addr) (zs:List Str) (r:Int) (iss:Int->DV) (had:List Int) (n:Int) (ds:List DV),vs=[.ref p,v]/\Sh H p fp zs r iss had/\B2 H (iss n) v/\iss n=.tup (.int n::ds)/\1≤n/\n≤60/\
 ∀(fp':List Addr) (H':Hp),(∀b∈fp',b∈fp\/H b=none)->z0B fp H H'->Sh H' p fp' zs r iss (P2 had n)->Q (.bl (decide (n∉had))) H'
noncomputable def z3c(Sh:ShP):Sp:=fun vs H Q _=>∃(p:Addr) (fp:List Addr) (zs:List Str) (r:Int) (iss:Int->DV) (had:List Int),vs=[.ref p]/\Sh H p fp zs r iss had/\
 ∀(l:Addr) (H':Hp),B0 H H'->H' l=some (.tup ((z08 had).map V.int))->Q (.ref l) H'
noncomputable def z9z(Sh:ShP):Sp:=fun vs H Q _=>∃(p:Addr) (fp:List Addr) (zs:List Str) (r:Int) (iss:Int->DV) (had:List Int),vs=[.ref p]/\Sh H p fp zs r iss had/\∀H',B0 H H'->Q (.int (Q2 had)) H'
noncomputable def ShD(K:PySem.W.Frag)(C:Addr):ShP:=fun H p fp zs r iss had=>∃(dx pn pd:Addr) (fs:List (Str×V)) (kvs:List (Key×V)),fp=[p,dx,pd]/\H p=some (.ins C dx fs)/\H dx=some (.own p)/\H pn=some (.tup (zs.map V.str))/\H pd=some (.dK kvs)/\
 fs.lookup ("names":Str)=some (V.ref pn)/\fs.lookup ("reach":Str)=some (V.int r)/\fs.lookup ("issues":Str)=some (V.ref pd)/\(∀m∈(["put","had","latest","rows_of","tail_of"]:List Str),fs.lookup m=none)/\
 kvs.map (·.1)=had.map Sum.inl/\had.Nodup/\(∀n∈had,1≤n/\n≤60)/\(∀n v,(Sum.inl n,v)∈kvs->B2 H (iss n) v)/\E2 zs/\0≤r/\r≤10
theorem ShD.ins{K:PySem.W.Frag}{C:Addr}{H:Hp}{p:Addr}{fp:List Addr}{zs:List Str}{r:Int}{iss:Int->DV}{had:List Int}(h:ShD K C H p fp zs r iss had):∃dx fs,H p=some (.ins C dx fs)/\∀m∈(["put","had","latest","rows_of","tail_of"]:List Str),fs.lookup m=none:=by
 obtain⟨dx,pn,pd,fs,kvs,e,h1,h2,h3,h4,l1,l2,l3,lm,_⟩:=h
 exact⟨dx,fs,h1,lm⟩
theorem F2{K:PySem.W.Frag}{C:Addr}:V2 C ["put","had","latest"] (ShD K C):=by
 refine⟨fun h=>?_,fun h b hb=>?_,fun h s out nt=>?_⟩
 ·obtain⟨dx,fs,h1,lm⟩:=ShD.ins h
  refine⟨dx,fs,h1,fun m hm=>lm m ?_⟩
  simp only[bF,dD,or_false] at hm ⊢
  rcases hm with h|h|h<;>simp[h]
 ·obtain⟨dx,pn,pd,fs,kvs,rfl,h1,h2,h3,h4,_⟩:=h
  rcases bF.mp hb with rfl|hb
  ·exact⟨_,h1,fun xs z=>by cases z⟩
  rcases bF.mp hb with rfl|hb
  ·exact⟨_,h2,fun xs z=>by cases z⟩
  rw[bC.mp hb]
  exact⟨_,h4,fun xs z=>by cases z⟩
 ·obtain⟨dx,pn,pd,fs,kvs,rfl,h1,h2,h3,h4,l1,l2,l3,lm,kk,nd,all,tl,g⟩:=h
  exact(ex5 dx pn pd fs kvs ⟨rfl,s _ _ h1 (fun m=>out _ m (by simp)),s _ _ h2 (fun m=>out _ m (by simp)),s _ _ h3 (fun m=>nt _ m _ h3),s _ _ h4 (fun m=>out _ m (by simp)),l1,l2,l3,lm,kk,nd,all,fun n v hv=>B2.but s nt _ _ (tl n v hv),g⟩)
theorem y3C{A0:Addr}(M:Bl mg)(T:D7 K mg A0)(F:Fun K "__init__" "Shelf.__init__" z3f f fd)(D8:Cal P w K mg base 2 "bulletin_names" z2q (z6S K)) :
  B4 P w K mg base CX0 3 f fd z3u (y2O K A0 (ShD K A0)):=by
 have nd:=z4p.nd
 refine F.ok z4p (fun vs H Q E h=>?_) (fun cdv A outer s H vs Q E hr h=>?_)
 ·obtain⟨x,dx,pn,zs,r,rfl,_⟩:=h
  rfl
 obtain⟨x,dx,pn,zs,r,rfl,hx,ne,hdx,hn,g,r0,r1,k⟩:=h
 refine⟨_,(z04 (z6b (pv 0) (z0g D8 (rm hr) rfl (z00 (pv 1) (z00 (pv 2) z02))) rfl) (z04 (z6b (pv 0) (pv 2) rfl) (z05 (z6b (pv 0) y2j rfl)))),?_⟩
 refine(rdI rfl (rdI rfl (ex3 pn zs r ⟨rfl,hn,g,r0,r1,fun l H1 s1 e1=>?_⟩)))
 refine(rdI rfl (ex4 x A0 dx ([]) ⟨rfl,s1 _ _ hx,T.cl,T.n_names,by decide,?_⟩))
 have z1:=z20 "names" (.ref l) []
 have z2:=z20 "reach" (.int r) (K7 "names" (.ref l) [])
 have z0:([]:List (Str×V)).length=0:=rfl
 refine(rdI rfl (rdI rfl (ex4 x A0 dx _ ⟨rfl,z03,T.cl,T.n_reach,(by lia),?_⟩)))
 rw[z8V]
 intro pd hd
 have nx:x≠pd:=z0q z03 hd
 have ndd:dx≠pd:=z0q (show upd H1 x _ dx=some _ by rw[z0l ne];exact s1 _ _ hdx) hd
 have nl:l≠x:=z4x e1 (s1 _ _ hx) (fun z=>by cases z)
 have nlp:l≠pd:=z0q (show upd H1 x _ l=some _ by rw[z0l nl];exact e1) hd
 have dfr:H1 pd=none:=by rw[z0l (dG nx)] at hd;exact hd
 refine(rdI rfl (ex4 x A0 dx _ ⟨rfl,(by rw[z0l nx,z03]),T.cl,T.n_issues,(by lia),?_⟩))
 refine k [x,dx,pd] _ (fun b hb=>?_) (fun b o e nb=>?_) (fun iss=>(ex5 dx l pd _ ([]) ⟨rfl,z03,?_,?_,?_,?_,?_,?_,?_,rfl,.nil,fun _ q=>(nomatch q),fun _ _ q=>(nomatch q),g,r0,r1⟩))
 ·simp only[bF,dD,or_false] at hb
  rcases hb with rfl|rfl|rfl
  ·exact .inl rfl
  ·exact .inr (.inl rfl)
  ·exact .inr (.inr (s1.free dfr))
 ·rw[bC] at nb
  rw[z0l nb,z0l (z0q e (s1.free dfr)),z0l nb]
  exact s1 _ _ e
 ·rw[z0l ne,z0l ndd,z0l ne]
  exact s1 _ _ hdx
 ·rw[z0l nl,z0l nlp,z0l nl]
  exact e1
 ·rw[z0l (dG nx),z03]
 ·rw[z0u,if_neg (by decide +kernel),z0u,if_neg (by decide +kernel),z0u,if_pos rfl]
 ·rw[z0u,if_neg (by decide +kernel),z0u,if_pos rfl]
 ·rw[z0u,if_pos rfl]
 ·intro m hm
  simp only[bF,dD,or_false] at hm
  rcases hm with rfl|rfl|rfl|rfl|rfl<;>rw[z0u,if_neg (by decide +kernel),z0u,if_neg (by decide +kernel),z0u,if_neg (by decide +kernel)]<;>rfl
theorem y8f{α:Type}[DecidableEq α]:∀{l1 l2:List α},l1.Nodup->(∀x∈l1,x∈l2)->l1.length≤l2.length
 | [],_,_,_=>cW _
 | x::r,l2,nd,sub=>by
  rw[dU] at nd
  have hx:=sub x cI
  have:=y8f (l1:=r) (l2:=l2.erase x) nd.2 fun y hy=>(List.mem_erase_of_ne (fun(e:y=x)=>nd.1 (e ▸ hy))).mpr (sub y (cG _ hy))
  rw[List.length_erase_of_mem hx] at this
  have h0:=List.length_pos_of_mem hx
  rw[cN]
  lia
theorem z8r{had:List Int}(nd:had.Nodup)(all:∀n∈had,1≤n/\n≤60):had.length≤60:=by
 have h:=y8f (l2:=upI 1 60) nd fun n hn=>z1i.mpr (by have:=all n hn;lia)
 rw[z0S] at h
 exact h
theorem y08{kvs:List (Key×V)}{had:List Int}(kk:kvs.map (·.1)=had.map Sum.inl)(n:Int):(L5 kvs (Sum.inl n)).isSome=decide (n∈had):=by
 rw[<- z81]
 have e:(kvs.any fun kv=>decide (kv.1=Sum.inl n))=(kvs.map (·.1)).any fun k=>decide (k=Sum.inl n):=by rw[j5];rfl
 rw[e,kk,j5]
 by_cases h:n∈had
 ·rw[decide_eq_true h,jJ]
  exact⟨n,h,decide_eq_true rfl⟩
 ·rw[decide_eq_false h,kE]
  intro m hm z
  have e:=of_decide_eq_true z
  cases e
  exact h hm
theorem y8d{A0:Addr}(M:Bl mg)(T:D7 K mg A0)(F:Fun K "put" "Shelf.put" z6O f fd):B4 P w K mg base CX0 1 f fd z6V (y8C (ShD K A0)):=by
 have nd:=z87.nd
 refine F.ok z87 (fun vs H Q E h=>?_) (fun cdv A outer s H vs Q E hr h=>?_)
 ·obtain⟨p,v,fp,zs,r,iss,had,n,ds,rfl,_⟩:=h
  rfl
 obtain⟨p,v,fp,zs,r,iss,had,n,ds,rfl,sh,tv,en,n1,n2,k⟩:=h
 have hu:=y0M hr
 refine⟨_,(z04 (z0o (i:=2) nd rfl (Or.inl rfl) (z0A z0w (pv 1) z06 (fun _ _=>rfl))) (z04 (z0C (z7J (y4d hu (pv 2) (z0M (pv 0) rfl))) (z05 (z0i z1I)) z0k) (z04 (y1u hu (z0M (pv 0) rfl) (pv 2) (pv 1) rfl) (z05 (z0i z1I))))),?_⟩
 obtain⟨dx,pn,pd,fs,kvs,rfl,h1,h2,h3,h4,l1,l2,l3,lm,kk,ndh,all,tl,g,r0,r1⟩:=sh
 rw[en] at tv
 obtain⟨a,us,rfl,ea,_,tu⟩:=z0d tv
 obtain⟨x0,ur,rfl,t0,_⟩:=z0e tu
 cases z14 t0
 refine(rdI rfl (ex4 a _ _ _ ⟨rfl,rfl,SqT.of ea,z0V rfl,?_⟩))
 refine(rdI rfl (rdI rfl (ex5 p A0 dx fs _ ⟨rfl,h1,T.cl,T.n_issues,l3,(ex2 pd _ ⟨rfl,N5.k (k:=Sum.inl n) h4,?_⟩)⟩)))
 refine(rdI rfl ?_)
 rw[y08 kk]
 have fr:∀b∈[p,dx,pd],∃o,H b=some o:=fun b hb=>by
  simp only[bF,dD,or_false] at hb
  rcases hb with rfl|rfl|rfl
  ·exact⟨_,h1⟩
  ·exact⟨_,h2⟩
  ·exact⟨_,h4⟩
 refine B9 (fun c=>?_) (fun c=>?_)
 ·have c':=z0K c
  have e:=k [p,dx,pd] H (fun b hb=>.inl hb) (fun b o e _=>e) ⟨dx,pn,pd,fs,kvs,rfl,h1,h2,h3,h4,l1,l2,l3,lm,by unfold P2;rw[if_pos c'];exact kk,by unfold P2;rw[if_pos c'];exact ndh,fun m hm=>?_,tl,g,r0,r1⟩
  ·rw[decide_eq_false (fun z=>z c')] at e
   exact e
  ·unfold P2 at hm
   rw[if_pos c'] at hm
   exact all m hm
 ·have c':=z3Z c
  have lk:kvs.length≤60:=by
   have e2:=congrArg List.length kk
   rw[bA,bA] at e2
   have:=z8r ndh all
   lia
  have en':L5 kvs (Sum.inl n:Key)=none:=by
   have:=y08 kk n
   rw[decide_eq_false c'] at this
   cases e:L5 kvs (Sum.inl n:Key) with
   | none=>rfl
   | some v=>rw[e] at this;cases this
  refine(rdI rfl (rdI rfl (ex5 p A0 dx fs _ ⟨rfl,h1,T.cl,T.n_issues,l3,(rdI rfl (ex2 pd _ ⟨rfl,V0.k (k:=Sum.inl n) h4 (z0f (by lia)),?_⟩))⟩)))
  rw[y2G _ en']
  have np:p≠pd:=z4x h1 h4 (fun z=>by cases z)
  have nx:dx≠pd:=z4x h2 h4 (fun z=>by cases z)
  have nn:pn≠pd:=z4x h3 h4 (fun z=>by cases z)
  have e:=k [p,dx,pd] (upd H pd (.dK (kvs++[(Sum.inl n,.ref a)]))) (fun b hb=>.inl hb) (fun b o e nb=>by rw[z0l (fun z=>nb (by rw[z];simp))];exact e)
   ⟨dx,pn,pd,fs,_,rfl,by rw[z0l np];exact h1,by rw[z0l nx];exact h2,by rw[z0l nn];exact h3,z03,l1,l2,l3,lm,?_,?_,fun m hm=>?_,fun m v hv=>?_,g,r0,r1⟩
  ·rw[decide_eq_true c'] at e
   exact e
  ·unfold P2
   rw[if_neg c',bG,bG,kk]
   rfl
  ·unfold P2
   rw[if_neg c',jB]
   exact⟨ndh,by simp,fun x hx y hy z=>by rw[bC] at hy;subst hy;subst z;exact c' hx⟩
  ·rcases y2f.mp hm with h|rfl
   ·exact all m h
   ·lia
  ·refine B2.over h4 (fun _ z=>by cases z) _ _ ?_
   rcases cH.mp hv with h|h
   ·exact tl m v h
   ·rw[bC] at h
    cases h
    rw[en]
    exact tv
theorem y6v{A0:Addr}(M:Bl mg)(T:D7 K mg A0)(F:Fun K "had" "Shelf.had" z7e f fd):B4 P w K mg base CX0 1 f fd z1l (z3c (ShD K A0)):=by
 have nd:=z8x.nd
 refine F.ok z8x (fun vs H Q E h=>?_) (fun cdv A outer s H vs Q E hr h=>?_)
 ·obtain⟨p,fp,zs,r,iss,had,rfl,_⟩:=h
  rfl
 obtain⟨p,fp,zs,r,iss,had,rfl,sh,k⟩:=h
 refine⟨_,(z05 (z0i (z0t z0p rfl M.tuple bH (z00 (z0b (z4o rfl) rfl M.sorted fW (z00 (z0M (pv 0) rfl) z02)) z02)))),?_⟩
 obtain⟨dx,pn,pd,fs,kvs,rfl,h1,h2,h3,h4,l1,l2,l3,lm,kk,ndh,all,tl,g,r0,r1⟩:=sh
 refine(rdI rfl (ex5 p A0 dx fs _ ⟨rfl,h1,T.cl,T.n_issues,l3,(ex3 pd kvs had ⟨rfl,h4,kk,eS (z8r ndh all) (by decide),fun l ms hl hp hs=>?_⟩)⟩))
 rw[y0q ndh all hp hs]
 exact(ex2 l _ ⟨rfl,.inl ⟨SqL.of z03,fun t ht=>k t _ ((z01 hl _).trans (z01 ht _)) z03⟩⟩)
theorem y2p{had:List Int}{m:Int}(hm:m∈z08 had)(hb:∀y∈z08 had,y≤m):m=Q2 had:=by
 unfold Q2
 have ne:z08 had≠[]:=fun z=>by rw[z] at hm;cases hm
 have e:(z08 had).getLastD 0=(z08 had).getLast ne:=by rw[List.getLastD_eq_getLast?,List.getLast?_eq_some_getLast ne]<;>rfl
 rw[e]
 have h1:=hb _ (List.getLast_mem ne)
 have d:z08 had=(z08 had).dropLast++[(z08 had).getLast ne]:=(fI ne).symm
 have rs:=z16 had
 rw[d] at hm rs
 rcases cH.mp hm with h|h
 ·have:=(d8.mp rs).2.2 m h _ (bC.mpr rfl)
  lia
 ·exact bC.mp h
theorem y58{A0:Addr}(M:Bl mg)(T:D7 K mg A0)(F:Fun K "latest" "Shelf.latest" z49 f fd)(B3:D9 P w K mg base 1 A0 "had" z1l (z3c (ShD K A0))):B4 P w K mg base CX0 2 f fd z4i (z9z (ShD K A0)):=by
 have nd:=z5k.nd
 refine F.ok z5k (fun vs H Q E h=>?_) (fun cdv A outer s H vs Q E hr h=>?_)
 ·obtain⟨p,fp,zs,r,iss,had,rfl,_⟩:=h
  rfl
 obtain⟨p,fp,zs,r,iss,had,rfl,sh,k⟩:=h
 refine⟨_,(z05 (z0i (y4Z rfl rfl M.max (z00 (z1C B3 (rm hr) (pv 0)) z02) (y0p z06 y2z)))),?_⟩
 obtain⟨dx,fs,h1,lm⟩:=F2.ins sh
 refine(rdI rfl (ex3 p dx fs ⟨rfl,h1,lm _ (by simp),(ex6 p fp zs r iss had ⟨rfl,sh,fun l H1 s1 e1=>?_⟩)⟩))
 refine(ex3 l (z08 had) _ ⟨rfl,rfl,.inr (SqT.of e1),fun z=>?_,fun m hm hb=>?_⟩)
 ·have e:Q2 had=0:=by unfold Q2;rw[z];rfl
  have:=k H1 s1
  rw[e] at this
  exact this
 ·rw[y2p hm hb]
  exact k H1 s1
noncomputable def R6(ns:List Int)(rows:List Row)(r n:Int):DV:=.tup [.int n,.int (z0J ns n r),if z0J ns n r=0 then .tup [] else L7 (z0H (z0D rows n))]
noncomputable def z3v(ns:List Int)(rows:List Row)(r:Int):List DV:=(z1g ns).map (R6 ns rows r)
theorem z7q{ns:List Int}{n r:Int}:0≤z0J ns n r:=by
 unfold z0J
 cases e:(upI 1 60).find? (y1O ns n r) with
 | none=>exact eX _
 | some y=>
  have:=z1i.mp (hZ e)
  show 0≤y
  lia
theorem y1i{ns:List Int}{m:Int}(hm:m∈ns\/(ns=[]/\m=0))(C3:∀x∈ns,1≤x/\x≤60)(top:∀y∈ns,y≤m):(upI 1 (m-1).toNat).filter (fun x=>!decide (x∈ns))=z1g ns:=by
 rcases hm with hm|⟨rfl,rfl⟩
 ·refine z1P ((z1Q _ _).filter _) (z2N _) fun x=>?_
  have hm':=C3 m hm
  rw[cO,z1i,z0X,kG,decide_eq_false_iff_not]
  constructor
  ·rintro⟨⟨a,b⟩,c⟩
   exact⟨by lia,c,m,hm,by lia⟩
  ·rintro⟨a,b,y,hy,c⟩
   have:=top y hy
   exact⟨by lia,b⟩
 ·rw[y15]
  rfl
theorem z6t{ns:List Int}(i:Nat):(upI 1 (i+1)).filter (fun x=>!decide (x∈ns))=(upI 1 i).filter (fun x=>!decide (x∈ns))++(if (1:Int)+(i:Int)∈ns then [] else [1+(i:Int)]):=by
 rw[z6f,dM,dP]
 by_cases h:(1:Int)+(i:Int)∈ns
 ·rw[if_pos h,decide_eq_true h]
  rfl
 ·rw[if_neg h,decide_eq_false h]
  rfl
noncomputable def J2(w:Row)(z:Str):Option Int:=w.foldl (fun acc p=>if p.1=z then some p.2 else acc) none
theorem y0Q(w:Row)(p:Str×Int)(z:Str):J2 (w++[p]) z=if p.1=z then some p.2 else J2 w z:=by
 unfold J2
 rw[gU]
 rfl
noncomputable def z0y(ms:List Int)(rows:List Row)(z:Str):Option (Int×Int):=ms.foldl (fun acc n=>match J2 (z0D rows n) z with|some v=>some (n,v)|none=>acc) none
theorem z6Z(ms:List Int)(n:Int)(rows:List Row)(z:Str):z0y (ms++[n]) rows z=match J2 (z0D rows n) z with|some v=>some (n,v)|none=>z0y ms rows z:=by
 unfold z0y
 rw[gU]
 rfl
noncomputable def z9Z:Option (Int×Int)->DV
 | some (n,v)=>.tup [.int n,.int v]
 | none=>.tup [.int 0,.non]
noncomputable def z0N(o:Option (Int×Int)):Int:=(o.map Prod.fst).getD 0
noncomputable def z9f:Option (Int×Int)->DV
 | some (_,v)=>.int v
 | none=>.non
theorem z3a{H:Hp}{o:Option (Int×Int)}{v:V}(h:B2 H (z9Z o) v):∃(a:Addr) (y:V),v=.ref a/\H a=some (.tup [.int (z0N o),y])/\B2 H (z9f o) y:=by
 cases o with
 | none=>
  obtain⟨a,xs,rfl,ha,_,ta⟩:=z0d (show B2 H (.tup [.int 0,.non]) v from h)
  obtain⟨y1,r1,rfl,t1,h3⟩:=z0e ta
  obtain⟨y2,r2,rfl,t2,h4⟩:=z0e h3
  have:=z0G h4
  subst this
  rw[z14 t1] at ha
  exact(ex2 a y2 ⟨rfl,ha,t2⟩)
 | some p=>
  obtain⟨n,x⟩:=p
  obtain⟨a,xs,rfl,ha,_,ta⟩:=z0d (show B2 H (.tup [.int n,.int x]) v from h)
  obtain⟨y1,r1,rfl,t1,h3⟩:=z0e ta
  obtain⟨y2,r2,rfl,t2,h4⟩:=z0e h3
  have:=z0G h4
  subst this
  rw[z14 t1] at ha
  exact(ex2 a y2 ⟨rfl,ha,t2⟩)
noncomputable def y0t(K:PySem.W.Frag):Sp:=fun vs H Q _=>∃(p lr:Addr) (ns:List Int) (us:List V) (rows:List Row) (z:Str),vs=[.ref p,.ref lr,.str z]/\SqL K H p (ns.map V.int)/\ns.length<64/\ns.Nodup/\(∀x∈ns,1≤x/\x≤60)/\(∀x∈ns,x≤rows.length)/\
 SqL K H lr us/\z0a H (rows.map O9) us/\∀(v:V) (H':Hp),B0 H H'->B2 H' (z9Z (z0y (z08 ns) rows z)) v->Q v H'
theorem y6x(M:Bl mg)(F:Fun K "_law_held" "_law_held" z6J f fd):B4 P w K mg base CX0 1 f fd z3T (y0t K):=by
 have nd:=z8w.nd
 refine F.ok z8w (fun vs H Q E h=>?_) (fun cdv A outer s H vs Q E hr h=>?_)
 ·obtain⟨p,lr,ns,us,rows,z,rfl,_⟩:=h
  rfl
 obtain⟨p,lr,ns,us,rows,z,rfl,hP,h64,nds,C3,hup,hR,tl,q⟩:=h
 refine⟨_,(z04 (z0o (i:=3) nd rfl (Or.inl rfl) (z0U (z00 z06 (z00 z9F z02)))) (z04 (z0W bT rfl (z1k (z0b z8s rfl M.sorted fW (z00 (pv 0) z02))) (z0j (i:=4) nd rfl (Or.inl rfl)) (z05 (z0W bT rfl (z26 (z0A z1j (pv 1) (z0r z25 (pv 4) z06) (fun _ _=>rfl))) (z0j (i:=5) nd rfl (Or.inl rfl)) (z05 (z0C (z0c z28 (z0A z0w (pv 5) z06 (fun _ _=>rfl)) (pv 2) (z0m _)) (z05 (z0o (i:=3) nd rfl (Or.inl rfl) (z0U (z00 (pv 4) (z00 (z0A z0w (pv 5) z06 (fun _ _=>rfl)) z02))))) z0k))))) (z05 (z0i (pv 3))))),?_⟩
 refine⟨(by show 2≤sizeLine;decide),fun t0 ht0=>?_⟩
 have s1:=z01 ht0 (.tup [V.int 0,V.non])
 have e1:upd H t0 (.tup [V.int 0,V.non]) t0=some (.tup [V.int 0,V.non]):=z03
 generalize upd H t0 (.tup [V.int 0,V.non])=H1 at s1 e1
 refine(rdI rfl (ex2 p ns ⟨rfl,s1.seq hP,h64,fun ls ms nls hp hs=>?_⟩))
 have er:=y0q nds C3 hp hs
 have s2:=s1.trans (z01 nls (.lst (ms.map V.int)))
 have e2:=z01 nls (.lst (ms.map V.int)) _ _ e1
 have els:upd H1 ls (.lst (ms.map V.int)) ls=some (.lst (ms.map V.int)):=z03
 generalize upd H1 ls (.lst (ms.map V.int))=H2 at s2 e2 els
 refine⟨ls,rfl,⟨_,SqL.of els⟩,z1R (K:=K) (a:=ls) (xs:=ms.map V.int) (fun i σ H'=>∃(hv:V) (o1 o2:Option V),B0 H2 H'/\B2 H' (z9Z (z0y (ms.take i) rows z)) hv/\σ=[some (.ref p),some (.ref lr),some (.str z),some hv,o1,o2])
  ⟨.ref t0,none,none,B0.refl _,z0s e2 (by show 2≤1000000;decide) (.cons (z0E 0) (.cons z5a .nil)),rfl⟩ (fun i σ H' _ ⟨_,_,_,g,_⟩=>SqL.of (g _ _ els)) ?_ ?_⟩
 ·rintro i x σ H' hi ⟨hv,o1,o2,g,th,rfl⟩
  obtain⟨n,hn,rfl⟩:∃n,ms[i]? = some n/\x=V.int n:=by
   rw[bE] at hi
   cases e:ms[i]? with
   | none=>rw[e] at hi;cases hi
   | some n=>rw[e] at hi;exact⟨n,rfl,(Option.some.inj hi).symm⟩
  have nin:n∈ns:=hp.mem_iff.mp (bS hn)
  have hn1:=C3 n nin
  have hn2:=hup n nin
  obtain⟨v,_,av,tv⟩:=z69 (z0a.keep (s2.trans g) _ _ tl) (k:=n) hn1.1 hn2
  obtain⟨ar,xs,rfl,er',_,tp⟩:=z0d tv
  have lw:xs.length=(z0D rows n).length:=by rw[tp.length,bA]
  refine(rdI rfl (rdI rfl (ex2 _ _ ⟨rfl,rfl,(ex4 lr us _ _ ⟨rfl,rfl,(s2.trans g).seq hR,av,ar,rfl,⟨_,SqT.of er'⟩,?_⟩)⟩)))
  refine z4G (K:=K) (a:=ar) (xs:=xs) (fun j σ H2'=>∃(hv:V) (o2:Option V),B0 H' H2'/\B2 H2' (z9Z (match J2 ((z0D rows n).take j) z with|some v=>some (n,v)|none=>z0y (ms.take i) rows z)) hv/\
    σ=[some (.ref p),some (.ref lr),some (.str z),some hv,some (.int n),o2]) ⟨hv,o2,B0.refl _,th,rfl⟩ (fun j σ H2' _ ⟨_,_,g2,_⟩=>SqT.of (g2 _ _ er')) ?_ ?_
  ·rintro j y σ H2' hy ⟨hv2,o3,g2,th2,rfl⟩
   obtain⟨pq,b,e1',rfl,e2'⟩:=z2J tp j y hy
   have sb:SqT K H2' b [V.str pq.1,V.int pq.2]:=SqT.of (g2 _ _ e2')
   refine(rdI rfl (ex4 b _ 0 _ ⟨rfl,rfl,sb,rfl,(rdI rfl ⟨rfl,(rdI rfl ?_)⟩)⟩))
   have tk:(z0D rows n).take (j+1)=(z0D rows n).take j++[pq]:=z0n e1'
   refine B9 (fun c=>?_) (fun c=>?_)
   ·have c':pq.1=z:=by
     have:=z0K c
     injection this
    refine(rdI rfl (rdI rfl (ex4 b _ 1 _ ⟨rfl,rfl,sb,rfl,(by show 2≤sizeLine;decide),fun t ht=>?_⟩)))
    refine⟨.ref t,_,g2.trans (z01 ht _),?_,rfl⟩
    rw[tk,y0Q,if_pos c']
    exact z0s z03 (by show 2≤1000000;decide) (.cons (z0E _) (.cons (z0E _) .nil))
   ·have c':¬pq.1=z:=fun e=>z3Z c (by rw[e])
    refine⟨hv2,_,g2,?_,rfl⟩
    rw[tk,y0Q,if_neg c']
    exact th2
  ·rintro σ H2' ⟨hv2,o3,g2,th2,rfl⟩
   rw[lw,bR] at th2
   refine⟨hv2,_,_,g.trans g2,?_,rfl⟩
   rw[z0n hn,z6Z]
   exact th2
 ·rintro σ H' ⟨hv,o1,o2,g,th,rfl⟩
  rw[bA,bR,er] at th
  exact(rdI rfl (q hv H' (s2.trans g) th))
noncomputable def y2h(K:PySem.W.Frag):Sp:=fun vs H Q _=>∃(p lr:Addr) (ns:List Int) (us:List V) (rows:List Row) (r:Int),vs=[.ref p,.ref lr,.int r]/\H p=some (.lst (ns.map V.int))/\(∀x∈ns,1≤x/\x≤60)/\ns.length≤900/\(∀x∈ns,x≤rows.length)/\
 SqL K H lr us/\z0a H (rows.map O9) us/\(∀w∈rows,w.length≤12)/\0≤r/\∀(l:Addr) (zs:List V) (H':Hp),H l=none->B0 H H'->H' l=some (.lst zs)->z0a H' (z3v ns rows r) zs->Q (.ref l) H'
theorem y7F(M:Bl mg)(F:Fun K "_law_gaps" "_law_gaps" z6D f fd)(D6:Cal P w K mg base 1 "_law_teller" z2W (z66 K)):B4 P w K mg base CX0 2 f fd z41 (y2h K):=by
 have nd:=z8G.nd
 refine F.ok z8G (fun vs H Q E h=>?_) (fun cdv A outer s H vs Q E hr h=>?_)
 ·obtain⟨p,lr,ns,us,rows,r,rfl,_⟩:=h
  rfl
 obtain⟨p,lr,ns,us,rows,r,rfl,hP,C3,hlen,hup,hR,tl,h12,r0,q⟩:=h
 refine⟨_,(z04 (z0o (i:=3) nd rfl (Or.inl rfl) (z1m z02)) (z04 (z0W bT rfl (z3i rfl M.range (z00 z06 (z00 (z0b (z3t rfl) rfl M.max dB (z00 (z0r z9p (pv 0) (z1m (z00 z06 z02))) z02)) z02))) (z0j (i:=4) nd rfl (Or.inl rfl)) (z04 (z0o (i:=5) nd rfl (Or.inl rfl) (z0g D6 (rm hr) rfl (z00 (pv 0) (z00 (pv 4) (z00 (pv 2) z02))))) (z04 (z0C (PW.pt (z37 (z0c z1z (pv 4) (pv 0) (by with_unfolding_all rfl)) (z2m (z0c z28 (pv 5) z06 (z0m _))))) (z05 (z0F (z2Z bV bU bW z0L (pv 3) (z00 (z0U (z00 (pv 4) (z00 z06 (z00 (z0U z02) z02)))) z02)))) z0k) (z05 (z0C (PW.pt (z37 (z0c z1z (pv 4) (pv 0) (by with_unfolding_all rfl)) (z2m (z0c z2o (pv 5) z06 (z0m _))))) (z05 (z0F (z2Z bV bU bW z0L (pv 3) (z00 (z0U (z00 (pv 4) (z00 (pv 5) (z00 (z0t z0p rfl M.tuple bH (z00 (z1c ["_law_row_here"] [] [] rfl (z0v rfl (by decide +kernel) rfl (by decide +kernel) rfl rfl) (z26 (z0A z1j (pv 1) (z0r z25 (pv 4) z06) (fun _ _=>rfl))) (fun _ _ _ _ _=>(z0j (i:=0) (show((["_law_row_here"]:List PySem.Str)++([]:List PySem.Str)).Nodup from by decide +kernel) rfl (Or.inl rfl))) (z0x (by decide)) z0h (fun _ _ _ _ _=>z1W) (fun _ _ _ _ _=>(z0A (r:=Q6 K) z0w (pv 0) z06 (fun _ _=>rfl)))) z02)) z02)))) z02)))) z0k))))) (z05 (z0i (pv 3))))),?_⟩
 refine⟨(by show 0≤sizeLine;decide),fun lg hlg=>?_⟩
 have s1:=z01 hlg (.lst [])
 refine(rdI rfl ⟨(by show 1≤sizeLine;decide),fun l0 hl0=>(ex4 p l0 _ _ ⟨rfl,rfl,z01 hl0 _ _ _ (s1 _ _ hP),z03,?_,fun lc hlc=>?_⟩)⟩)
 ·rw[bA]
  exact dR (z0f (by show ns.length+1≤1000;lia))
 have s2:=s1.trans ((z01 hl0 (.lst [V.int 0])).trans (z01 hlc (.lst (ns.map V.int++[V.int 0]))))
 have eg:upd (upd (upd H lg (.lst [])) l0 (.lst [V.int 0])) lc (.lst (ns.map V.int++[V.int 0])) lg=some (.lst []):=(z01 hl0 _).trans (z01 hlc _) _ _ z03
 have ec:upd (upd (upd H lg (.lst [])) l0 (.lst [V.int 0])) lc (.lst (ns.map V.int++[V.int 0])) lc=some (.lst ((ns++[0]).map V.int)):=by
  rw[z03,bG]
  rfl
 generalize upd (upd (upd H lg (.lst [])) l0 (.lst [V.int 0])) lc (.lst (ns.map V.int++[V.int 0]))=H2 at s2 eg ec
 refine(ex2 lc (ns++[0]) ⟨rfl,.inl (SqL.of ec),by simp,fun m hm top=>?_⟩)
 have hm':m∈ns\/(ns=[]/\m=0):=by
  rcases cH.mp hm with h|h
  ·exact .inl h
  ·rw[bC] at h
   subst h
   cases ns with
   | nil=>exact .inr ⟨rfl,rfl⟩
   | cons x xs=>
    have h1:=top x (by simp)
    have h2:=C3 x cI
    lia
 have m60:0≤m/\m≤60:=by
  rcases hm' with h|⟨_,h⟩
  ·have:=C3 m h
   lia
  ·lia
 have w0t:∀y∈ns,y≤m:=fun y hy=>top y (d7 _ hy)
 refine(ex2 1 m ⟨rfl,⟨by decide,by decide,by lia,by lia⟩,?_⟩)
 refine z15 (lo:=1) (n:=(m-1).toNat) (fun i σ H'=>∃(zs:List V) (o1 o2:Option V),(∀b u,H b=some u->H' b=some u)/\H' lg=some (.lst zs)/\z0a H' (((upI 1 i).filter fun x=>!decide (x∈ns)).map (R6 ns rows r)) zs/\
   σ=[some (.ref p),some (.ref lr),some (.int r),some (.ref lg),o1,o2]) ⟨[],none,none,s2,eg,.nil,rfl⟩ (fun i σ H' hi hp=>?_) (fun σ H' hp=>?_)
 ·obtain⟨zs,o1,o2,g,eG,tG,rfl⟩:=hp
  have g':B0 H H':=g
  have hn:(1:Int)+(i:Int)≤rows.length:=by
   rcases hm' with h|⟨_,h⟩
   ·have:=hup m h
    lia
   ·lia
  have lz:zs.length≤i:=by
   rw[tG.length,bA]
   have:=cJ (fun x=>!decide (x∈ns)) (upI 1 i)
   rw[z0S] at this
   exact this
  refine(rdI rfl (rdI rfl (rdI rfl (ex4 p ns (1+(i:Int)) r ⟨rfl,SqL.of (g _ _ hP),C3,hlen,r0,fun H3 s3=>?_⟩))))
  have t0:=z7q (ns:=ns) (n:=1+(i:Int)) (r:=r)
  have g3:B0 H H3:=g'.trans s3
  have eG3:=s3 _ _ eG
  have tG3:=z0a.keep s3 _ _ tG
  refine(rdI rfl (rdI rfl (ex2 p _ ⟨rfl,.inl (SqL.of (g3 _ _ hP)),rfl,z2c ns,(rdI rfl ?_)⟩)))
  rw[if_pos rfl,z2P]
  by_cases hin:(1:Int)+(i:Int)∈ns
  ·rw[decide_eq_true hin]
   refine B7 (B7 ?_)
   refine(rdI rfl (rdI rfl (ex2 p _ ⟨rfl,.inl (SqL.of (g3 _ _ hP)),rfl,z2c ns,(rdI rfl ?_)⟩)))
   rw[if_pos rfl,z2P,decide_eq_true hin]
   refine B7 (B7 ⟨zs,_,_,g3,eG3,?_,rfl⟩)
   rw[z6t,if_pos hin,cX]
   exact tG3
  ·rw[decide_eq_false hin]
   refine E8 (rdI rfl ⟨rfl,(rdI rfl ?_)⟩)
   refine B9 (fun c=>?_) (fun c=>?_)
   ·have c0:z0J ns (1+(i:Int)) r=0:=by
     have:=z0K c
     injection this
    refine(rdI rfl ⟨.inl ⟨rfl,_,SqL.of eG3⟩,(rdI rfl ⟨(by show 0≤sizeLine;decide),fun t0 ht0=>⟨(by show 3≤sizeLine;decide),fun t ht=>?_⟩⟩)⟩)
    have s4:=(z01 ht0 (.tup [])).trans (z01 ht (.tup [V.int (1+(i:Int)),V.int 0,V.ref t0]))
    have et:upd (upd H3 t0 (.tup [])) t (.tup [V.int (1+(i:Int)),V.int 0,V.ref t0]) t=some (.tup [V.int (1+(i:Int)),V.int 0,V.ref t0]):=z03
    have et0:upd (upd H3 t0 (.tup [])) t (.tup [V.int (1+(i:Int)),V.int 0,V.ref t0]) t0=some (.tup []):=z01 ht _ _ _ z03
    generalize upd (upd H3 t0 (.tup [])) t (.tup [V.int (1+(i:Int)),V.int 0,V.ref t0])=H4 at s4 et et0
    refine(ex3 lg _ _ ⟨rfl,rfl,s4 _ _ eG3,z0f (by lia),?_⟩)
    have g5:∀b u,H b=some u->upd H4 lg (.lst (zs++[V.ref t])) b=some u:=fun b u e=>by
     rw[z0l (z0q e hlg)]
     exact s4 _ _ (g3 _ _ e)
    have tg:B2 H4 (R6 ns rows r (1+(i:Int))) (.ref t):=by
     unfold R6
     rw[if_pos c0,c0]
     exact z0s et (by show 3≤1000000;decide) (.cons (z0E _) (.cons (z0E _) (.cons (z0s et0 (by show 0≤1000000;decide) .nil) .nil)))
    have t5:z0a (upd H4 lg (.lst (zs++[V.ref t]))) (((upI 1 (i+1)).filter fun x=>!decide (x∈ns)).map (R6 ns rows r)) (zs++[V.ref t]):=by
     rw[z6t,if_neg hin,bG]
     exact z0a.over (s4 _ _ eG3) (fun _ e=>by cases e) _ _ (z0a.snoc (z0a.keep s4 _ _ tG3) tg)
    refine(rdI rfl (rdI rfl (ex2 p _ ⟨rfl,.inl (SqL.of (g5 _ _ hP)),rfl,z2c ns,(rdI rfl ?_)⟩)))
    rw[if_pos rfl,z2P,decide_eq_false hin]
    refine E8 (rdI rfl (ex2 _ _ ⟨rfl,rfl,(rdI rfl ?_)⟩))
    rw[c0]
    exact B7 ⟨_,_,_,g5,z03,t5,rfl⟩
   ·have c0:z0J ns (1+(i:Int)) r≠0:=fun e=>z3Z c (by rw[e])
    refine(rdI rfl (rdI rfl (ex2 p _ ⟨rfl,.inl (SqL.of (g3 _ _ hP)),rfl,z2c ns,(rdI rfl ?_)⟩)))
    rw[if_pos rfl,z2P,decide_eq_false hin]
    refine E8 (rdI rfl (ex2 _ _ ⟨rfl,rfl,(rdI rfl ?_)⟩))
    rw[decide_eq_true (show(0:Int)<z0J ns (1+(i:Int)) r by lia)]
    refine E8 ?_
    obtain⟨v,_,av,tv⟩:=z69 (z0a.keep g3 _ _ tl) (k:=1+(i:Int)) (by lia) hn
    obtain⟨ar,xs,rfl,er,_,tp⟩:=z0d tv
    have lw:xs.length=(z0D rows (1+(i:Int))).length:=by rw[tp.length,bA]
    have w12:=z92 h12 (1+(i:Int))
    refine(rdI rfl ⟨.inl ⟨rfl,_,SqL.of eG3⟩,(rdI rfl (rdI rfl (rdI rfl (rdI rfl (ex2 _ _ ⟨rfl,rfl,(ex4 lr us _ _ ⟨rfl,rfl,g3.seq hR,av,ar,rfl,⟨_,SqT.of er⟩,?_⟩)⟩)))))⟩)
    refine z1A (xs:=xs) (fun j ys H2=>H2=H3/\ys=((z0H (z0D rows (1+(i:Int)))).take j).map V.str) ⟨rfl,rfl⟩ (fun j ys H2 hj hp=>?_) (fun j y ys H2 hy hp=>?_) (fun ys H2 hp=>?_)
    ·obtain⟨rfl,rfl⟩:=hp
     refine⟨SqT.of er,z0f ?_⟩
     rw[bA,bI]
     lia
    ·obtain⟨rfl,rfl⟩:=hp
     obtain⟨pq,b,e1,rfl,e2⟩:=z2J tp j y hy
     refine(rdI rfl (ex4 b _ 0 _ ⟨rfl,rfl,SqT.of e2,rfl,rfl,?_⟩))
     have e3:(z0H (z0D rows (1+(i:Int))))[j]? = some pq.1:=by
      unfold z0H
      rw[bE,e1]
      rfl
     rw[z0n e3,bG]
     rfl
    obtain⟨rfl,rfl⟩:=hp
    have ll:(z0H (z0D rows (1+(i:Int)))).take xs.length=z0H (z0D rows (1+(i:Int))):=cP (by unfold z0H;rw[bA];lia)
    rw[ll]
    intro D hD
    refine(ex2 D _ ⟨rfl,.inl ⟨SqL.of z03,fun t0 ht0=>⟨(by show 3≤sizeLine;decide),fun t ht=>?_⟩⟩⟩)
    generalize hN:(z0H (z0D rows (1+(i:Int)))).map V.str=nv at hD ht0 ht
    have s4:=(z01 hD (.lst nv)).trans ((z01 ht0 (.tup nv)).trans (z01 ht (.tup [V.int (1+(i:Int)),V.int (z0J ns (1+(i:Int)) r),V.ref t0])))
    have et:upd (upd (upd H2 D (.lst nv)) t0 (.tup nv)) t (.tup [V.int (1+(i:Int)),V.int (z0J ns (1+(i:Int)) r),V.ref t0]) t=some (.tup [V.int (1+(i:Int)),V.int (z0J ns (1+(i:Int)) r),V.ref t0]):=z03
    have et0:upd (upd (upd H2 D (.lst nv)) t0 (.tup nv)) t (.tup [V.int (1+(i:Int)),V.int (z0J ns (1+(i:Int)) r),V.ref t0]) t0=some (.tup nv):=z01 ht _ _ _ z03
    generalize upd (upd (upd H2 D (.lst nv)) t0 (.tup nv)) t (.tup [V.int (1+(i:Int)),V.int (z0J ns (1+(i:Int)) r),V.ref t0])=H4 at s4 et et0
    refine(ex3 lg _ _ ⟨rfl,rfl,s4 _ _ eG3,z0f (by lia),?_⟩)
    have g5:∀b u,H b=some u->upd H4 lg (.lst (zs++[V.ref t])) b=some u:=fun b u e=>by
     rw[z0l (z0q e hlg)]
     exact s4 _ _ (g3 _ _ e)
    have tg:B2 H4 (R6 ns rows r (1+(i:Int))) (.ref t):=by
     unfold R6
     rw[if_neg c0]
     refine z0s et (by show 3≤1000000;decide) (.cons (z0E _) (.cons (z0E _) (.cons (z0s et0 ?_ ?_) .nil)))
     ·rw[bA]
      unfold z0H
      rw[bA]
      lia
     ·rw[<- hN]
      exact z2n _
    refine⟨_,_,_,g5,z03,?_,rfl⟩
    rw[z6t,if_neg hin,bG]
    exact z0a.over (s4 _ _ eG3) (fun _ e=>by cases e) _ _ (z0a.snoc (z0a.keep s4 _ _ tG3) tg)
 ·obtain⟨zs,o1,o2,g,eG,tG,rfl⟩:=hp
  rw[y1i hm' C3 w0t] at tG
  exact(rdI rfl (q lg zs H' hlg g eG tG))
theorem z7S(x:Str)(ns:List Str):inV (.str x) (ns.map V.str)=decide (x∈ns):=by
 unfold inV
 rw[dA,j5,jJ,decide_eq_true_eq]
 constructor
 ·rintro⟨y,hy,e⟩
  have:y=x:=by simpa [eqV] using e
  exact this ▸ hy
 ·intro h
  exact⟨x,h,by simp[eqV]⟩
noncomputable def z2B(ns:List Int)(rows:List Row)(r n:Int):List Str:=if z0J ns n r=0 then [] else z0H (z0D rows n)
theorem y5u(ns:List Int)(rows:List Row)(r n:Int):R6 ns rows r n=.tup [.int n,.int (z0J ns n r),L7 (z2B ns rows r n)]:=by
 unfold R6 z2B
 by_cases h:z0J ns n r=0
 ·rw[if_pos h,if_pos h]
  rfl
 ·rw[if_neg h,if_neg h]
noncomputable def z51(ns:List Int)(rows:List Row)(r num:Int)(z:Str):List Int:=(z1g ns).filter fun n=>decide (num<n) && decide (z∈z2B ns rows r n)
noncomputable def y2r(ns:List Int)(rows:List Row)(r num:Int)(z:Str):DV:=.tup ((z51 ns rows r num z).map fun n=>.tup [.int n,.int (z0J ns n r)])
theorem z9m(ns:List Int)(rows:List Row)(r num:Int)(z:Str):(z51 ns rows r num z).length≤60:=cM (cJ _ _) (z2v ns)
theorem z6i{H:Hp}{ns:List Int}{rows:List Row}{r:Int}{zs:List V}(h:z0a H (z3v ns rows r) zs){i:Nat}{x:V}(e:zs[i]? = some x) :
  ∃(n:Int) (a b:Addr),(z1g ns)[i]? = some n/\x=.ref a/\H a=some (.tup [.int n,.int (z0J ns n r),.ref b])/\H b=some (.tup ((z2B ns rows r n).map V.str)):=by
 obtain⟨d,e1,t⟩:=h.at i x e
 unfold z3v at e1
 rw[bE] at e1
 cases er:(z1g ns)[i]? with
 | none=>rw[er] at e1;cases e1
 | some n=>
  rw[er] at e1
  have e2:R6 ns rows r n=d:=Option.some.inj e1
  rw[y5u] at e2
  subst e2
  obtain⟨a,ys,rfl,h1,_,h2⟩:=z0d t
  obtain⟨y1,r1,rfl,t1,h3⟩:=z0e h2
  obtain⟨y2,r2,rfl,t2,h4⟩:=z0e h3
  obtain⟨y3,r3,rfl,t3,h5⟩:=z0e h4
  have:=z0G h5
  subst this
  obtain⟨b,ws,rfl,hb,_,tb⟩:=z0d t3
  rw[z14 t1,z14 t2] at h1
  rw[z11 tb] at hb
  exact(ex3 n a b ⟨rfl,rfl,h1,hb⟩)
theorem z8u{H:Hp}{ns:List Int}{rows:List Row}{r:Int}{zs:List V}(h:z0a H (z3v ns rows r) zs):zs.length=(z1g ns).length:=by
 rw[h.length]
 unfold z3v
 rw[bA]
noncomputable def y1z(K:PySem.W.Frag):Sp:=fun vs H Q _=>∃(lg:Addr) (zs:List V) (ns:List Int) (rows:List Row) (r num:Int) (z:Str),vs=[.ref lg,.int num,.str z]/\SqL K H lg zs/\z0a H (z3v ns rows r) zs/\
 ∀(v:V) (H':Hp),B0 H H'->B2 H' (y2r ns rows r num z) v->Q v H'
theorem y6m(M:Bl mg)(F:Fun K "_law_again" "_law_again" z5A f fd):B4 P w K mg base CX0 1 f fd z4n (y1z K):=by
 have nd:=z7G.nd
 refine F.ok z7G (fun vs H Q E h=>?_) (fun cdv A outer s H vs Q E hr h=>?_)
 ·obtain⟨lg,zs,ns,rows,r,num,z,rfl,_⟩:=h
  rfl
 obtain⟨lg,zs,ns,rows,r,num,z,rfl,hG,tG,q⟩:=h
 refine⟨_,(z05 (z0i (z0t z0p rfl M.tuple bH (z00 (z1c ["_law_gap"] ["_law_number","_law_name"] [1,2] rfl (z0v rfl (by decide +kernel) rfl (by decide +kernel) rfl rfl) (z1k (pv 0)) (fun _ _ _ _ _=>(z0j (i:=0) (show((["_law_gap"]:List PySem.Str)++(["_law_number","_law_name"]:List PySem.Str)).Nodup from by decide +kernel) rfl (Or.inl rfl))) (z0x (by decide)) z0h (fun _ _ _ _ _=>(z2i (PW.pt (z37 (z0c z2o (z0A (r:=Q6 K) z0w (pv 0) z06 (fun _ _=>rfl)) (pv 1) (z0m _)) (z2m (z0c (r:=rIn K false) z3Q (pv 2) (z0A (r:=Q6 K) z0w (pv 0) z06 (fun _ _=>rfl)) (by with_unfolding_all rfl))))))) (fun _ _ _ _ _=>(z0U (z00 (z0A (r:=Q6 K) z0w (pv 0) z06 (fun _ _=>rfl)) (z00 (z0A (r:=Q6 K) z0w (pv 0) z06 (fun _ _=>rfl)) z02))))) z02)))),?_⟩
 have lz:=z8u tG
 have l60:=z2v ns
 refine(rdI rfl ⟨lg,rfl,⟨_,hG⟩,?_⟩)
 refine z3k (xs:=zs) (fun i ys H'=>B0 H H'/\z0a H' ((((z1g ns).take i).filter fun n=>decide (num<n) && decide (z∈z2B ns rows r n)).map fun n=>.tup [.int n,.int (z0J ns n r)]) ys) ⟨B0.refl _,by rw[cZ];exact .nil⟩
  (fun i ys H' hi hp=>?_) (fun i x ys H' hx hp=>?_) (fun ys H' hp=>?_)
 ·obtain⟨g,t⟩:=hp
  refine⟨g.seq hG,z0f ?_⟩
  have:=cJ (fun n=>decide (num<n) && decide (z∈z2B ns rows r n)) ((z1g ns).take i)
  rw[bI] at this
  rw[t.length,bA]
  lia
 ·obtain⟨g,t⟩:=hp
  obtain⟨n,a,b,en,rfl,ha,hb⟩:=z6i tG hx
  have sa:SqT K H' a [V.int n,V.int (z0J ns n r),V.ref b]:=SqT.of (g _ _ ha)
  have tks:=z0n en
  refine(rdI rfl (ex4 a _ 0 _ ⟨rfl,rfl,sa,rfl,(rdI rfl (ex2 _ _ ⟨rfl,rfl,(rdI rfl ?_)⟩))⟩))
  rw[tks,dM,dP]
  refine B9 (fun c=>?_) (fun c=>?_)
  ·refine(rdI rfl (rdI rfl (ex4 a _ 2 _ ⟨rfl,rfl,sa,rfl,(ex2 b _ ⟨rfl,.inr (SqT.of (g _ _ hb)),rfl,z18 _,(rdI rfl ?_)⟩)⟩)))
   rw[if_neg bM,z7S,c,gN]
   refine B9 (fun c2=>?_) (fun c2=>?_)
   ·rw[if_pos c2,bG]
    refine(rdI rfl (ex4 a _ 0 _ ⟨rfl,rfl,sa,rfl,(rdI rfl (ex4 a _ 1 _ ⟨rfl,rfl,sa,rfl,(by show 2≤sizeLine;decide),fun u hu=>⟨g.trans (z01 hu _),?_⟩⟩))⟩))
    exact z0a.snoc (z0a.keep (z01 hu _) _ _ t) (z0s z03 (by show 2≤1000000;decide) (.cons (z0E _) (.cons (z0E _) .nil)))
   ·rw[if_neg c2,fL,cX]
    exact⟨g,t⟩
  ·rw[fA.mpr c,gX]
   refine B7 ?_
   rw[if_neg bM,fL,cX]
   exact⟨g,t⟩
 ·obtain⟨g,t⟩:=hp
  rw[lz,bR] at t
  intro D hD
  refine(ex2 D _ ⟨rfl,.inl ⟨SqL.of z03,fun l hl=>?_⟩⟩)
  have s2:=(z01 hD (.lst ys)).trans (z01 hl (.tup ys))
  refine q _ _ (g.trans s2) (z0s z03 ?_ (z0a.keep s2 _ _ t))
  have:=z9m ns rows r num z
  rw[bA]
  lia
noncomputable def z43(ns:List Int)(r num:Int):List Int:=(z1g ns).filter fun n=>decide (num<n) && decide (z0J ns n r=0)
noncomputable def z0P(ns:List Int)(rows:List Row)(r num:Int)(z:Str):Str:=if 0<(z51 ns rows r num z).length then "stale" else if z43 ns r num=[] then "sure" else "open"
noncomputable def z8q(K:PySem.W.Frag):Sp:=fun vs H Q _=>∃(lg:Addr) (zs:List V) (ns:List Int) (rows:List Row) (r num:Int) (z:Str),vs=[.ref lg,.int num,.str z]/\SqL K H lg zs/\z0a H (z3v ns rows r) zs/\
 ∀H',B0 H H'->Q (.str (z0P ns rows r num z)) H'
theorem y3Q(M:Bl mg)(F:Fun K "_law_state" "_law_state" z5U f fd)(F9:Cal P w K mg base 1 "_law_again" z4n (y1z K)):B4 P w K mg base CX0 2 f fd z2L (z8q K):=by
 have nd:=z7K.nd
 refine F.ok z7K (fun vs H Q E h=>?_) (fun cdv A outer s H vs Q E hr h=>?_)
 ·obtain⟨lg,zs,ns,rows,r,num,z,rfl,_⟩:=h
  rfl
 obtain⟨lg,zs,ns,rows,r,num,z,rfl,hG,tG,q⟩:=h
 refine⟨_,(z04 (z0C (z0c z2o (z0b z09 rfl M.len bN (z00 (z0g F9 (rm hr) rfl (z00 (pv 0) (z00 (pv 1) (z00 (pv 2) z02)))) z02)) z06 (z0m _)) (z05 (z0i z2A)) z0k) (z04 (z0C (z0c (y8x hr.N9) (z1c ["_law_gap"] ["_law_number"] [1] rfl (z0v rfl (by decide +kernel) rfl (by decide +kernel) rfl rfl) (z1k (pv 0)) (fun _ _ _ _ _=>(z0j (i:=0) (show((["_law_gap"]:List PySem.Str)++(["_law_number"]:List PySem.Str)).Nodup from by decide +kernel) rfl (Or.inl rfl))) (z0x (by decide)) z0h (fun _ _ _ _ _=>(z2i (PW.pt (z37 (z0c z2o (z0A (r:=Q6 K) z0w (pv 0) z06 (fun _ _=>rfl)) (pv 1) (z0m _)) (z2m (z0c z28 (z0A (r:=Q6 K) z0w (pv 0) z06 (fun _ _=>rfl)) z06 (z0m _))))))) (fun _ _ _ _ _=>(z0A (r:=Q6 K) z0w (pv 0) z06 (fun _ _=>rfl)))) (z1m z02) (z0m _)) (z05 (z0i z2A)) z0k) (z05 (z0i z2A)))),?_⟩
 have lz:=z8u tG
 have l60:=z2v ns
 refine(rdI rfl (rdI rfl (rdI rfl (ex7 lg zs ns rows r num z ⟨rfl,hG,tG,fun v H1 s1 t1=>?_⟩))))
 obtain⟨a,xs,rfl,ha,_,ta⟩:=z0d t1
 have lx:xs.length=(z51 ns rows r num z).length:=by rw[ta.length,bA]
 refine(ex2 a xs ⟨rfl,.inr (SqT.of ha),(ex2 _ _ ⟨rfl,rfl,(rdI rfl ?_)⟩)⟩)
 rw[lx]
 refine B9 (fun c=>?_) (fun c=>?_)
 ·have c':(0:Int)<((z51 ns rows r num z).length:Int):=z0K c
  have e:z0P ns rows r num z="stale":=by
   unfold z0P
   rw[if_pos (by lia)]
  exact(by rw[<- e];exact q _ s1)
 have c':¬(0:Int)<((z51 ns rows r num z).length:Int):=z3Z c
 have nx:¬0<(z51 ns rows r num z).length:=by lia
 refine(rdI rfl ⟨lg,rfl,⟨_,s1.seq hG⟩,?_⟩)
 refine z3k (xs:=zs) (fun i ys H'=>H'=H1/\ys=(((z1g ns).take i).filter fun n=>decide (num<n) && decide (z0J ns n r=0)).map V.int) ⟨rfl,rfl⟩ (fun i ys H' hi hp=>?_) (fun i x ys H' hx hp=>?_) (fun ys H' hp=>?_)
 ·obtain⟨rfl,rfl⟩:=hp
  refine⟨s1.seq hG,z0f ?_⟩
  have:=cJ (fun n=>decide (num<n) && decide (z0J ns n r=0)) ((z1g ns).take i)
  rw[bI] at this
  rw[bA]
  lia
 ·obtain⟨rfl,rfl⟩:=hp
  obtain⟨n,a2,b2,en,rfl,ha2,hb2⟩:=z6i (z0a.keep s1 _ _ tG) hx
  have sa:SqT K H' a2 [V.int n,V.int (z0J ns n r),V.ref b2]:=SqT.of ha2
  have tks:=z0n en
  refine(rdI rfl (ex4 a2 _ 0 _ ⟨rfl,rfl,sa,rfl,(rdI rfl (ex2 _ _ ⟨rfl,rfl,(rdI rfl ?_)⟩))⟩))
  rw[tks,dM,dP]
  refine B9 (fun c=>?_) (fun c=>?_)
  ·refine(rdI rfl (ex4 a2 _ 1 _ ⟨rfl,rfl,sa,rfl,rfl,(rdI rfl ?_)⟩))
   rw[c,gN]
   refine B9 (fun c2=>?_) (fun c2=>?_)
   ·have c3:z0J ns n r=0:=by
     have:=z0K c2
     injection this
    rw[decide_eq_true c3,if_pos rfl,bG]
    exact(rdI rfl (ex4 a2 _ 0 _ ⟨rfl,rfl,sa,rfl,rfl,rfl⟩))
   ·have c3:¬z0J ns n r=0:=fun e=>z3Z c2 (by rw[e])
    rw[decide_eq_false c3,if_neg bM,fL,cX]
    exact⟨rfl,rfl⟩
  ·rw[fA.mpr c,gX]
   refine B7 ?_
   rw[if_neg bM,fL,cX]
   exact⟨rfl,rfl⟩
 ·obtain⟨rfl,rfl⟩:=hp
  rw[lz,bR]
  have ed:((z1g ns).filter fun n=>decide (num<n) && decide (z0J ns n r=0))=z43 ns r num:=rfl
  rw[ed]
  intro D hD
  refine⟨(by show 0≤sizeLine;decide),fun e0 he0=>(ex3 D e0 _ ⟨rfl,rfl,SqL.of (z01 he0 _ _ _ z03),SqL.of z03,(rdI rfl ?_)⟩)⟩
  have s2:=s1.trans ((z01 hD (.lst ((z43 ns r num).map V.int))).trans (z01 he0 (.lst [])))
  cases e:z43 ns r num with
  | nil=>
   rw[e] at s2
   refine B7 ?_
   have es:z0P ns rows r num z="sure":=by
    unfold z0P
    rw[if_neg nx,if_pos e]
   exact(by rw[<- es];exact q _ s2)
  | cons y ys=>
   rw[e] at s2
   refine E8 ?_
   have es:z0P ns rows r num z="open":=by
    unfold z0P
    rw[if_neg nx,if_neg (by rw[e];simp)]
   exact(by rw[<- es];exact q _ s2)
noncomputable def X4(ns:List Int)(rows:List Row)(r:Int)(z:Str):DV:=.tup [.str z,.str (z0P ns rows r (z0N (z0y (z08 ns) rows z)) z),.int (z0N (z0y (z08 ns) rows z)),z9f (z0y (z08 ns) rows z)]
noncomputable def z6u(nm:List Str)(ns:List Int)(rows:List Row)(r:Int):DV:=.tup (nm.map (X4 ns rows r))
noncomputable def y1N(K:PySem.W.Frag):Sp:=fun vs H Q _=>∃(ln p lr:Addr) (nm:List Str) (ns:List Int) (us:List V) (rows:List Row) (r:Int),vs=[.ref ln,.ref p,.ref lr,.int r]/\SqL K H ln (nm.map V.str)/\nm.length≤12/\H p=some (.lst (ns.map V.int))/\ns.length<64/\ns.Nodup/\(∀x∈ns,1≤x/\x≤60)/\(∀x∈ns,x≤rows.length)/\
 SqL K H lr us/\z0a H (rows.map O9) us/\(∀w∈rows,w.length≤12)/\0≤r/\∀(v:V) (H':Hp),B0 H H'->B2 H' (z6u nm ns rows r) v->Q v H'
theorem y6h(M:Bl mg)(F:Fun K "_law_table" "_law_table" z5Z f fd)(E5:Cal P w K mg base 2 "_law_gaps" z41 (y2h K))(E4:Cal P w K mg base 1 "_law_held" z3T (y0t K))
  (C9:Cal P w K mg base 2 "_law_state" z2L (z8q K)):B4 P w K mg base CX0 3 f fd z4k (y1N K):=by
 have nd:=z7C.nd
 refine F.ok z7C (fun vs H Q E h=>?_) (fun cdv A outer s H vs Q E hr h=>?_)
 ·obtain⟨ln,p,lr,nm,ns,us,rows,r,rfl,_⟩:=h
  rfl
 obtain⟨ln,p,lr,nm,ns,us,rows,r,rfl,hN,n12,hP,h64,nds,C3,hup,hR,tl,h12,r0,q⟩:=h
 refine⟨_,(z04 (z0o (i:=4) nd rfl (Or.inl rfl) (z0g E5 (rm hr) rfl (z00 (pv 1) (z00 (pv 2) (z00 (pv 3) z02))))) (z04 (z0o (i:=5) nd rfl (Or.inl rfl) (z1m z02)) (z04 (z0W bT rfl (z1k (pv 0)) (z0j (i:=6) nd rfl (Or.inl rfl)) (z04 (z0o (i:=7) nd rfl (Or.inl rfl) (z0g E4 (rm hr) rfl (z00 (pv 1) (z00 (pv 2) (z00 (pv 6) z02))))) (z05 (z0F (z2Z bV bU bW z0L (pv 5) (z00 (z0U (z00 (pv 6) (z00 (z0g C9 (rm hr) rfl (z00 (pv 4) (z00 (z0A z0w (pv 7) z06 (fun _ _=>rfl)) (z00 (pv 6) z02)))) (z00 (z0A z0w (pv 7) z06 (fun _ _=>rfl)) (z00 (z0A z0w (pv 7) z06 (fun _ _=>rfl)) z02))))) z02)))))) (z05 (z0i (z0t z0p rfl M.tuple bH (z00 (pv 5) z02))))))),?_⟩
 refine(rdI rfl (rdI rfl (rdI rfl (ex6 p lr ns us rows r ⟨rfl,hP,C3,by lia,hup,hR,tl,h12,r0,fun lg gz H1 nlg s1 eG tG=>?_⟩))))
 refine⟨(by show 0≤sizeLine;decide),fun lt hlt=>?_⟩
 refine⟨_,rfl,ln,rfl,⟨_,(s1.trans (z01 hlt _)).seq hN⟩,z1R (K:=K) (a:=ln) (xs:=nm.map V.str) (fun i σ H'=>∃(ts:List V) (o1 o2:Option V),(∀b u,H1 b=some u->H' b=some u)/\H' lt=some (.lst ts)/\z0a H' ((nm.take i).map (X4 ns rows r)) ts/\
   σ=[some (.ref ln),some (.ref p),some (.ref lr),some (.int r),some (.ref lg),some (.ref lt),o1,o2])
  ⟨[],none,none,z01 hlt _,z03,by rw[cZ];exact .nil,rfl⟩ (fun i σ H' _ ⟨_,_,_,g,_⟩=>(s1.trans g).seq hN) ?_ ?_⟩
 ·rintro i x σ H' hi ⟨ts,o1,o2,g,eT,tT,rfl⟩
  have g':B0 H1 H':=g
  obtain⟨z,hz,rfl⟩:∃z,nm[i]? = some z/\x=V.str z:=by
   rw[bE] at hi
   cases e:nm[i]? with
   | none=>rw[e] at hi;cases hi
   | some z=>rw[e] at hi;exact⟨z,rfl,(Option.some.inj hi).symm⟩
  have lts:ts.length≤12:=by
   rw[tT.length,bA,bI]
   lia
  have sg:=s1.trans g'
  refine(rdI rfl (rdI rfl (rdI rfl (ex6 p lr ns us rows z ⟨rfl,SqL.of (sg _ _ hP),h64,nds,C3,hup,sg.seq hR,z0a.keep sg _ _ tl,fun hv H3 s3 th=>?_⟩))))
  obtain⟨ah,y,rfl,eh,ty⟩:=z3a th
  have sah:SqT K H3 ah [V.int (z0N (z0y (z08 ns) rows z)),y]:=SqT.of eh
  refine(rdI rfl ⟨.inl ⟨rfl,_,SqL.of (s3 _ _ eT)⟩,(rdI rfl (rdI rfl (rdI rfl (ex4 ah _ 0 _ ⟨rfl,rfl,sah,rfl,(rdI rfl (ex7 lg gz ns rows r _ z ⟨rfl,SqL.of (s3 _ _ (g _ _ eG)),z0a.keep (g'.trans s3) _ _ tG,fun H4 s4=>?_⟩))⟩))))⟩)
  have sah4:SqT K H4 ah [V.int (z0N (z0y (z08 ns) rows z)),y]:=SqT.of (s4 _ _ eh)
  refine(rdI rfl (ex4 ah _ 0 _ ⟨rfl,rfl,sah4,rfl,(rdI rfl (ex4 ah _ 1 _ ⟨rfl,rfl,sah4,rfl,(by show 4≤sizeLine;decide),fun t ht=>?_⟩))⟩))
  have s34:=s3.trans (s4.trans (z01 ht (.tup [V.str z,V.str (z0P ns rows r (z0N (z0y (z08 ns) rows z)) z),V.int (z0N (z0y (z08 ns) rows z)),y])))
  refine(ex3 lt _ _ ⟨rfl,rfl,s34 _ _ eT,z0f (by lia),?_⟩)
  refine⟨_,_,_,fun b u e=>?_,z03,?_,rfl⟩
  ·rw[z0l (z0q e hlt)]
   exact s34 _ _ (g b u e)
  ·rw[z0n hz,bG]
   refine z0a.over (s34 _ _ eT) (fun _ e=>by cases e) _ _ (z0a.snoc (z0a.keep s34 _ _ tT) (z0s z03 (by show 4≤1000000;decide) (.cons (z2h _) (.cons (z2h _) (.cons (z0E _) (.cons ?_ .nil))))))
   exact B2.keep (s4.trans (z01 ht _)) _ _ ty
 ·rintro σ H' ⟨ts,o1,o2,g,eT,tT,rfl⟩
  rw[bA,bR] at tT
  refine(rdI rfl (ex2 lt ts ⟨rfl,.inl ⟨SqL.of eT,fun l hl=>?_⟩⟩))
  refine q _ _ (s1.trans (B0.trans g (z01 hl _))) (z0s z03 ?_ (z0a.keep (z01 hl _) _ _ tT))
  rw[bA]
  lia
theorem y6r{ds:List DV}{n:Nat}(h:∀d∈ds,d.deep≤n):DV.R5 ds≤n:=by
 induction ds with
 | nil=>unfold DV.R5;exact cW _
 | cons d r ih=>
  unfold DV.R5
  exact Nat.max_le.mpr ⟨h d cI,ih fun x hx=>h x (cG _ hx)⟩
theorem z1T{ds:List DV}{n:Nat}(h:∀d∈ds,d.deep≤n):(DV.tup ds).deep≤n+1:=by
 unfold DV.deep
 exact kN (y6r h)
theorem z21(i:Int)(n:Nat):(DV.int i).deep≤n:=by unfold DV.deep;exact cW _
theorem z7R(i:Str)(n:Nat):(DV.str i).deep≤n:=by unfold DV.deep;exact cW _
theorem y5I(s:List Str):(L7 s).deep≤1:=z1T fun d hd=>by
 obtain⟨x,_,rfl⟩:=cS.mp hd
 exact z7R _ _
theorem z58{rows:List Row}{j:Nat}{k:Int}(h0:1≤k)(h:k≤j):z0D (rows.take j) k=z0D rows k:=by
 unfold z0D
 have hk:(k-1).toNat<j:=by lia
 rw[bP,bP,List.getElem?_take,if_pos hk]
theorem y1t{rows:List Row}{j:Nat}{n r:Int}(h0:1≤n)(h:n≤j):z10 (rows.take j) n r=z10 rows n r:=by
 unfold z10 y6n
 rw[z58 h0 h]
 have e:(z6P n r).map (y3k (rows.take j))=(z6P n r).map (y3k rows):=fE fun k hk=>by
  unfold z6P at hk
  rw[cO,y0b] at hk
  unfold y3k
  rw[z58 (by lia) (by lia)]
 rw[e]
abbrev OfP:=Hp->Addr->List Addr->List Str->Int->List Row->Prop
structure Y4(C:Addr)(ms:List Str)(Of:OfP):Prop where
 ins:∀{H p fp zs r rows},Of H p fp zs r rows->∃dx fs,H p=some (.ins C dx fs)/\∀m∈ms,fs.lookup m=none
 own:∀{H p fp zs r rows},Of H p fp zs r rows->∀b∈fp,∃o,H b=some o/\∀xs,o≠.tup xs
 keep:∀{H H' p fp gp zs r rows},Of H p fp zs r rows->z0B gp H H'->(∀b∈gp,b∉fp)->z5w H gp->Of H' p fp zs r rows
theorem Y4.same{C:Addr}{ms:List Str}{Of:OfP}(O:Y4 C ms Of){H H':Hp}{p:Addr}{fp:List Addr}{zs:List Str}{r:Int}{rows:List Row}(h:Of H p fp zs r rows)(s:B0 H H'):Of H' p fp zs r rows:=
 O.keep (gp:=[]) h (.of s) (fun _ q=>by cases q) fun _ q=>by cases q
theorem Y4.Q4{C:Addr}{ms:List Str}{Of:OfP}(O:Y4 C ms Of){H:Hp}{p:Addr}{fp:List Addr}{zs:List Str}{r:Int}{rows:List Row}(h:Of H p fp zs r rows):z5w H fp:=fun b m xs e=>by
 obtain⟨o,e1,n⟩:=O.own h b m
 rw[e1] at e
 exact n xs (Option.some.inj e)
noncomputable def y0k(K:PySem.W.Frag)(H:Hp)(fp:List Addr)(u:V)(p:Str×Int):Prop:=∃a,u=.ref a/\(SqL K H a [.str p.1,.int p.2]\/SqT K H a [.str p.1,.int p.2])/\a∉fp
noncomputable def y4A(K:PySem.W.Frag)(H:Hp)(fp:List Addr)(v:V)(pr:Row):Prop:=∃a us,v=.ref a/\SqP K H a us/\a∉fp/\Paired (y0k K H fp) us pr
noncomputable def z1v(zs:List Str)(pr:Row):Row:=zs.filterMap fun z=>pr.find? fun p=>decide (p.1=z)
structure GoodR(zs:List Str)(pr:Row):Prop where
 nd:(pr.map Prod.fst).Nodup
 sub:∀p∈pr,p.1∈zs
 val:∀p∈pr,0≤p.2/\p.2≤1000000
noncomputable def y26(K:PySem.W.Frag)(C:Addr)(Of:OfP):Sp:=fun vs H Q _=>∃(x dx pn:Addr) (zs:List Str) (r:Int),vs=[.ref x,.ref pn,.int r]/\H x=some (.ins C dx [])/\dx≠x/\H dx=some (.own x)/\HdN K H pn zs/\E2 zs/\0≤r/\r≤10/\
 ∀(fp:List Addr) (H':Hp),(∀b∈fp,b=x\/b=dx\/H b=none)->z0B [x] H H'->Of H' x fp zs r []->Q .non H'
noncomputable def y0V(K:PySem.W.Frag)(Of:OfP):Sp:=fun vs H Q _=>∃(p:Addr) (v:V) (fp:List Addr) (zs:List Str) (r:Int) (rows:List Row) (pr:Row),vs=[.ref p,v]/\Of H p fp zs r rows/\y4A K H fp v pr/\GoodR zs pr/\pr.length≤12/\rows.length<60/\
 ∀(fp':List Addr) (H':Hp),(∀b∈fp',b∈fp\/H b=none)->z0B fp H H'->Of H' p fp' zs r (rows++[z1v zs pr])->Q (.int (rows.length+1)) H'
noncomputable def z9K(Of:OfP):Sp:=fun vs H Q _=>∃(p:Addr) (fp:List Addr) (zs:List Str) (r:Int) (rows:List Row),vs=[.ref p]/\Of H p fp zs r rows/\∀H',B0 H H'->Q (.int rows.length) H'
noncomputable def z6m(Of:OfP):Sp:=fun vs H Q _=>∃(p:Addr) (fp:List Addr) (zs:List Str) (r:Int) (rows:List Row) (n:Int),vs=[.ref p,.int n]/\Of H p fp zs r rows/\1≤n/\n≤rows.length/\
 ∀(v:V) (H':Hp),B0 H H'->B2 H' (z10 rows n r) v->Q v H'
theorem z3x{z:Str}{zs:List Str}{pr:Row}:z1v (z::zs) pr=(match pr.find? fun p=>decide (p.1=z) with|some p=>p::z1v zs pr|none=>z1v zs pr):=by
 unfold z1v
 rw[fX]
 cases pr.find? fun p=>decide (p.1=z)<;>rfl
theorem z7M{p:Str×Int}{w:Row}:∀{zs:List Str},p.1∉zs->z1v zs (p::w)=z1v zs w
 | [],_=>rfl
 | y::ys,h=>by
  rw[bF,not_or] at h
  rw[z3x,z3x,dW,decide_eq_false h.1,z7M h.2]
theorem z5B:∀{zs:List Str}{w:Row},zs.Nodup->(w.map Prod.fst).Sublist zs->z1v zs w=w
 | [],w,_,h=>by
  have:w.map Prod.fst=[]:=List.sublist_nil.mp h
  rw[List.map_eq_nil_iff] at this
  rw[this]
  rfl
 | z::zs,w,nd,h=>by
  rw[dU] at nd
  generalize e:w.map Prod.fst=l at h
  cases h with
  | cons _ h=>
   subst e
   have no:w.find? (fun p=>decide (p.1=z))=none:=kC.mpr fun p hp=>by
    have:p.1∈zs:=h.subset (jZ hp)
    intro e
    exact nd.1 (of_decide_eq_true e ▸ this)
   rw[z3x,no]
   exact z5B nd.2 h
  | cons_cons _ h=>
   cases w with
   | nil=>cases e
   | cons p w=>
    rw[cV] at e
    injection e with e1 e2
    subst e2
    rw[z3x,dW,decide_eq_true e1,z7M (by rw[e1];exact nd.1),z5B nd.2 h]
noncomputable def tsN(n:Int)(j:Nat):List Int:=(dnI n j).filter fun k=>decide (1≤k)
noncomputable def tsP(ss:List (List Str))(k:Int):DV:=.tup [.int k,L7 (ss.getD (k-1).toNat [])]
noncomputable def tsD(ss:List (List Str))(r:Int):DV:=.tup ((tsN ss.length r.toNat).map (tsP ss))
theorem y7I(n:Int)(j:Nat):(tsN n j).length≤j:=by
 have h:=cJ (fun k=>decide (1≤k)) (dnI n j)
 rw[y1x] at h
 exact h
noncomputable def y6U(K:PySem.W.Frag):Sp:=fun vs H Q _=>∃(p:Addr) (xs:List V) (ss:List (List Str)) (r:Int),vs=[.ref p,.int r]/\(SqL K H p xs\/SqT K H p xs)/\z0a H (ss.map L7) xs/\ss.length≤59/\(∀s∈ss,s.length≤12)/\0≤r/\r≤10/\
 ∀(v:V) (H':Hp),B0 H H'->B2 H' (tsD ss r) v->Q v H'
noncomputable def y17:Sp:=fun vs H Q _=>∃n r:Int,vs=[.int n,.int r]/\1≤n/\n≤60/\0≤r/\r≤10/\
 ∀(l:Addr) (H':Hp),B0 H H'->H' l=some (.tup (((upI 1 60).filter fun x=>decide (x≤n) && decide (n-x≤r)).map V.int))->Q (.ref l) H'
theorem y30{n r:Int}(h1:1≤n)(h2:n≤60)(h3:0≤r)(h4:r≤10) :
  T6 (if n-r > 1 then n-r else 1) (n+1-(if n-r > 1 then n-r else 1)).toNat=((upI 1 60).filter fun x=>decide (x≤n) && decide (n-x≤r)).map V.int:=by
 rw[y84]
 refine congrArg (List.map V.int) (z1P (z1Q _ _) ((z1Q _ _).filter _) fun x=>?_)
 rw[cO,z1i,z1i,bZ,decide_eq_true_eq,decide_eq_true_eq]
 split<;>lia
theorem y3t(M:Bl mg)(F:Fun K "reached_by" "reached_by" z5X f fd):B4 P w K mg base CX0 1 f fd z5D y17:=by
 have nd:=z7l.nd
 refine F.ok z7l (fun vs H Q E h=>?_) (fun cdv A outer s H vs Q E hr h=>?_)
 ·obtain⟨n,r,rfl,_⟩:=h
  rfl
 obtain⟨n,r,rfl,h1,h2,h3,h4,q⟩:=h
 refine⟨_,(z05 (z0i (z0t (z9k rfl) rfl M.tuple bH (z00 (z0t y4H rfl M.range PyProof.Rows.boot_range (z00 (z0b (y0E rfl) rfl M.max dB (z00 z06 (z00 (z0r z25 (pv 0) (pv 1)) z02))) (z00 (z0r z1o (pv 0) z06) z02))) z02)))),?_⟩
 refine(rdI rfl (rdI rfl (ex2 _ _ ⟨rfl,rfl,(ex2 _ _ ⟨rfl,(rdI rfl (ex2 _ _ ⟨rfl,rfl,(ex2 _ _ ⟨rfl,fun p hp=>?_⟩)⟩))⟩)⟩)))
 refine(ex3 p _ _ ⟨rfl,z03,⟨?_,?_,?_,?_⟩,?_,fun l hl=>?_⟩)
 ·split<;>lia
 ·split<;>lia
 ·lia
 ·lia
 ·split<;>lia
 ·refine q l _ ((z01 hp _).trans (z01 hl _)) ?_
  rw[z03,y30 h1 h2 h3 h4]
theorem z8D(hi:Int)(j:Nat):(dnI hi j).Pairwise (· > ·):=by
 unfold dnI
 rw[eJ]
 exact List.pairwise_lt_range.imp fun h=>by lia
theorem z83{n:Int}{j:Nat}{x:Int}:x∈tsN n j↔1≤x/\n-j<x/\x≤n:=by
 unfold tsN
 rw[cO,y0b,decide_eq_true_eq]
 lia
theorem y7e(n:Int)(j:Nat):(tsN n j).reverse.Pairwise (· < ·):=by
 rw[jR]
 exact((z8D n j).filter _).imp fun h=>h
theorem y4M{n r:Int}(h0:0≤n)(h1:n≤59)(r0:0≤r)(r1:r≤10):((upI 1 60).filter fun x=>decide (x≤n+1) && decide (n+1-x≤r))=(tsN n r.toNat).reverse++[n+1]:=by
 refine z1P ((z1Q _ _).filter _) (d8.mpr ⟨y7e _ _,fB _ _,fun x hx y hy=>?_⟩) fun x=>?_
 ·rw[jK,z83] at hx
  rw[bC] at hy
  lia
 ·rw[cO,z1i,bZ,decide_eq_true_eq,decide_eq_true_eq,cH,jK,z83,bC]
  lia
theorem y7E(M:Bl mg)(F:Fun K "tail_for" "tail_for" z8e f fd)(O3:Cal P w K mg base 1 "reached_by" z5D y17):B4 P w K mg base CX0 2 f fd z8n (y6U K):=by
 have nd:=z9D.nd
 refine F.ok z9D (fun vs H Q E h=>?_) (fun cdv A outer s H vs Q E hr h=>?_)
 ·obtain⟨p,xs,ss,r,rfl,_⟩:=h
  rfl
 obtain⟨p,xs,ss,r,rfl,hS,tS,l60,l12,r0,r1,k⟩:=h
 refine⟨_,(z04 (z0o (i:=2) nd rfl (Or.inl rfl) (z0r z1o (z0b z09 rfl M.len bN (z00 (pv 0) z02)) z06)) (z04 (z0o (i:=3) nd rfl (Or.inl rfl) (z1O y1m (z0g O3 (rm hr) rfl (z00 (pv 2) (z00 (pv 1) z02))) z2r (z2s (y1D z89 z06)))) (z05 (z0i (z0t z0p rfl M.tuple bH (z00 (z1c ["earlier"] ["sets"] [0] rfl (z0v rfl (by decide +kernel) rfl (by decide +kernel) rfl rfl) (y7a rfl M.reversed (z00 (pv 3) z02)) (fun _ _ _ _ _=>(z0j (i:=0) (show((["earlier"]:List PySem.Str)++(["sets"]:List PySem.Str)).Nodup from by decide +kernel) rfl (Or.inl rfl))) (z0x (by decide)) z0h (fun _ _ _ _ _=>z1W) (fun _ _ _ _ _=>(z0U (z00 (pv 0) (z00 (z0t (z5i (K:=K) rfl) rfl M.tuple bH (z00 (z0A (r:=rIx K) y8H (pv 1) (z0r z25 (pv 0) z06) (fun _ _=>rfl)) z02)) z02))))) z02)))))),?_⟩
 have lx:xs.length=ss.length:=by rw[tS.length,bA]
 have lx':(xs.length:Int)=ss.length:=by lia
 refine(rdI rfl (ex2 p xs ⟨rfl,hS,(ex2 _ _ ⟨rfl,rfl,?_⟩)⟩))
 refine(rdI rfl (rdI rfl (ex2 ((xs.length:Int)+1) r ⟨rfl,by lia,by lia,r0,r1,fun l H1 s1 e1=>?_⟩)))
 rw[lx',y4M (by lia) (by lia) r0 r1] at e1
 have eL:(((tsN ss.length r.toNat).reverse++[(ss.length:Int)+1]).map V.int).length=(tsN ss.length r.toNat).length+1:=by
  rw[bA,bL,gJ]
  rfl
 have sx:HT.sIx (((tsN ss.length r.toNat).reverse++[(ss.length:Int)+1]).map V.int).length (((tsN ss.length r.toNat).reverse++[(ss.length:Int)+1]).map V.int).length (some (-1))=(tsN ss.length r.toNat).length:=by
  rw[eL]
  show(if (-1:Int)<0 then (-1+(((tsN ss.length r.toNat).length+1:Nat):Int)).toNat else min (-1:Int).toNat ((tsN ss.length r.toNat).length+1))=_
  rw[if_pos (by decide)]
  lia
 have cut:K6 (((tsN ss.length r.toNat).reverse++[(ss.length:Int)+1]).map V.int) none (some (-1))=(tsN ss.length r.toNat).reverse.map V.int:=by
  unfold K6
  rw[sx]
  show List.take ((tsN ss.length r.toNat).length-0) (List.drop 0 _)=_
  rw[fH,gY,bG,List.take_left' (by rw[bA,gJ])]
 refine(rdI rfl ⟨-1,rfl,(ex2 l _ ⟨rfl,SqT.of e1,?_,fun a ha=>?_⟩)⟩)
 ·rintro⟨_,z⟩
  rw[sx,eL] at z
  lia
 rw[cut]
 have s2:=s1.trans (z01 ha (.tup ((tsN ss.length r.toNat).reverse.map V.int)))
 have e2:upd H1 a (.tup ((tsN ss.length r.toNat).reverse.map V.int)) a=some (.tup ((tsN ss.length r.toNat).reverse.map V.int)):=z03
 generalize upd H1 a (.tup ((tsN ss.length r.toNat).reverse.map V.int))=H2 at s2 e2
 have le:=y7I ss.length r.toNat
 have lr:((tsN ss.length r.toNat).reverse.map V.int).length=(tsN ss.length r.toNat).length:=by rw[bA,gJ]
 refine(rdI rfl (ex2 a _ ⟨rfl,SqT.of e2,?_⟩))
 refine y67 (fun i ys H'=>B0 H2 H'/\z0a H' (((tsN ss.length r.toNat).take i).map (tsP ss)) ys) ⟨B0.refl _,by rw[cZ];exact .nil⟩ (fun i ys H' hi hp=>?_) (fun i x ys H' hx hp=>?_) (fun ys H' hp=>?_)
 ·obtain⟨g,t⟩:=hp
  refine⟨SqT.of (g _ _ e2),z0f ?_⟩
  rw[t.length,bA,bI]
  lia
 ·obtain⟨g,t⟩:=hp
  rw[<- List.map_reverse,h9,bE] at hx
  obtain⟨m,hm,rfl⟩:=bY.mp hx
  have hb:=z83.mp (bS hm)
  have hk:(m-1).toNat<ss.length:=by lia
  have t2:=z0a.keep (s2.trans g) _ _ tS
  obtain⟨v,ev,tv⟩:=t2.get (m-1).toNat (L7 (ss.getD (m-1).toNat [])) (by
   rw[bE,bP,bD hk]
   rfl)
  have av:atI xs (m-1)=some v:=by
   have e:m-1=(((m-1).toNat:Nat):Int):=by lia
   rw[e]
   exact z0V ev
  obtain⟨b,us,rfl,eb,_,_⟩:=z0d tv
  refine(rdI rfl (rdI rfl (rdI rfl (ex2 _ _ ⟨rfl,rfl,?_⟩))))
  have go:∀(z:B2 H' (L7 (ss.getD (m-1).toNat [])) (.ref b)),y75 K [.ref b] H' fun x H3=>[V.int m,x].length≤sizeLine/\∀q,H3 q=none->B0 H2 (upd H3 q (.tup [.int m,x]))/\z0a (upd H3 q (.tup [.int m,x])) (((tsN ss.length r.toNat).take (i+1)).map (tsP ss)) (ys++[.ref q]):=fun z=>
   ⟨b,us,rfl,.inr ⟨SqT.of eb,by show 2≤sizeLine;decide,fun q hq=>⟨g.trans (z01 hq _),by
    rw[eZ,hm,bG]
    exact z0a.snoc (z0a.keep (z01 hq _) _ _ t) (z0s z03 (by show 2≤1000000;decide) (.cons (z0E _) (.cons (B2.keep (z01 hq _) _ _ z) .nil)))⟩⟩⟩
  rcases hS with hS|hS
  ·exact .inl (ex4 p xs _ (.ref b) ⟨rfl,rfl,(s2.trans g).seq hS,av,go tv⟩)
  ·exact .inr (.inl (ex4 p xs _ (.ref b) ⟨rfl,rfl,z6d (s2.trans g) hS,av,go tv⟩))
 ·obtain⟨g,t⟩:=hp
  rw[lr,bR] at t
  intro D hD
  refine(ex2 D ys ⟨rfl,.inl ⟨SqL.of z03,fun q hq=>k _ _ (s2.trans (g.trans ((z01 hD _).trans (z01 hq _)))) (z0s z03 ?_ (z0a.keep ((z01 hD _).trans (z01 hq _)) _ _ t))⟩⟩)
  rw[bA]
  lia
noncomputable def kvR(p:Str×Int):Key×V:=(Sum.inr p.1,.int p.2)
noncomputable def y82(K:PySem.W.Frag):Sp:=fun vs H Q _=>∃(p:Addr) (zs:List Str) (z:Str),vs=[.ref p,.str z]/\SqN K H p zs/\z∈zs/\Q .non H
theorem y0U(x:Str)(ns:List Str):inV (.str x) (ns.map V.str)=decide (x∈ns):=by
 unfold inV
 rw[dA,j5,jJ,decide_eq_true_eq]
 constructor
 ·rintro⟨y,hy,e⟩
  have:y=x:=by simpa [eqV] using e
  exact this ▸ hy
 ·intro h
  exact⟨x,h,by simp[eqV]⟩
theorem y8D(M:Bl mg)(F:Fun K "refuse_unknown_name" "refuse_unknown_name" z2b f fd):B4 P w K mg base CX0 1 f fd z1w (y82 K):=by
 have nd:=z2U.nd
 refine F.ok z2U (fun vs H Q E h=>?_) (fun cdv A outer s H vs Q E hr h=>?_)
 ·obtain⟨p,zs,z,rfl,_⟩:=h
  rfl
 obtain⟨p,zs,z,rfl,hp,hz,k⟩:=h
 refine⟨_,(z05 (z0C (z0c z1z (pv 1) (pv 0) (by with_unfolding_all rfl)) (z05 z1S) z0k)),?_⟩
 refine(rdI rfl (rdI rfl (ex2 p _ ⟨rfl,hp,rfl,z18 zs,(rdI rfl ?_)⟩)))
 rw[if_pos rfl,y0U,decide_eq_true hz]
 exact B9 (fun c=>absurd c (by decide)) fun _=>k
noncomputable def y23:Sp:=fun vs H Q _=>∃v:Int,vs=[.int v]/\0≤v/\v≤1000000/\Q .non H
theorem y4F(M:Bl mg)(F:Fun K "refuse_bad_value" "refuse_bad_value" z2I f fd):B4 P w K mg base CX0 1 f fd z2H y23:=by
 have nd:=z3A.nd
 refine F.ok z3A (fun vs H Q E h=>?_) (fun cdv A outer s H vs Q E hr h=>?_)
 ·obtain⟨r,rfl,_⟩:=h
  rfl
 obtain⟨r,rfl,r0,r1,k⟩:=h
 refine⟨_,(z05 (z0C (PW.pt (z38 (z0c z8l (pv 0) z06 (z0m _)) (z24 (z0c z2o (pv 0) (z3b rfl M.MOST_VALUE) (z0m _))))) (z05 z1S) z0k)),?_⟩
 refine(rdI rfl (ex2 _ _ ⟨rfl,rfl,(rdI rfl (B9 (fun q=>absurd (z0K q) (by lia)) fun _=>?_))⟩))
 exact(rdI rfl (ex2 _ _ ⟨rfl,rfl,(rdI rfl (B9 (fun q=>absurd (z0K q) (by lia)) fun _=>k))⟩))
noncomputable def z2Y(K:PySem.W.Frag)(H:Hp)(u:V)(p:Str×Int):Prop:=∃a,u=.ref a/\(SqL K H a [.str p.1,.int p.2]\/SqT K H a [.str p.1,.int p.2])
theorem z2Y.keep{K:PySem.W.Frag}{H H':Hp}(s:B0 H H'):∀{us:List V}{pr:Row},Paired (z2Y K H) us pr->Paired (z2Y K H') us pr
 | _,_,.nil=>.nil
 | _,_,.cons ⟨a,e,h⟩ t=>.cons ⟨a,e,h.imp (fun q=>s.seq q) fun q=>z6d s q⟩ (z2Y.keep s t)
theorem z2Y.at{K:PySem.W.Frag}{H:Hp}:∀{us:List V}{pr:Row},Paired (z2Y K H) us pr->∀(i:Nat) (x:V),us[i]? = some x->∃p,pr[i]? = some p/\z2Y K H x p
 | _,_,.nil,i,x,e=>by simp at e
 | _,_,.cons r t,0,x,e=>by
  simp at e
  subst e
  exact(rdI rfl r)
 | _,_,.cons r t,i+1,x,e=>by
  obtain⟨y,h1,h2⟩:=z2Y.at t i x (by simpa using e)
  exact⟨y,by simpa using h1,h2⟩
theorem z2Y.pairs{K:PySem.W.Frag}{H:Hp}:∀{us:List V}{pr:Row},Paired (z2Y K H) us pr->Paired (y4I K H) us (pr.map kvR)
 | _,_,.nil=>.nil
 | _,_,.cons ⟨a,e,h⟩ t=>.cons ⟨a,e,h⟩ (z2Y.pairs t)
theorem z2Y.of{K:PySem.W.Frag}{H:Hp}{fp:List Addr}:∀{us:List V}{pr:Row},Paired (y0k K H fp) us pr->Paired (z2Y K H) us pr
 | _,_,.nil=>.nil
 | _,_,.cons ⟨a,e,h,_⟩ t=>.cons ⟨a,e,h⟩ (z2Y.of t)
theorem SqP.or{K:PySem.W.Frag}{H:Hp}{a:Addr}{us:List V}(h:SqP K H a us):SqL K H a us\/SqT K H a us:=h.imp id SqT.of
theorem SqP.keep{K:PySem.W.Frag}{H H':Hp}{a:Addr}{us:List V}(s:B0 H H')(h:SqP K H a us):SqP K H' a us:=h.imp (fun q=>s.seq q) fun q=>s _ _ q
noncomputable def y0L(K:PySem.W.Frag):Sp:=fun vs H Q _=>∃(pn a:Addr) (zs:List Str) (us:List V) (pr:Row),vs=[.ref pn,.ref a]/\SqN K H pn zs/\SqP K H a us/\Paired (z2Y K H) us pr/\GoodR zs pr/\pr.length≤12/\∀H',B0 H H'->Q .non H'
theorem y2R(M:Bl mg)(F:Fun K "refuse_bad_rows" "refuse_bad_rows" z35 f fd)(C5:Cal P w K mg base 1 "refuse_unknown_name" z1w (y82 K))
  (J3:Cal P w K mg base 1 "refuse_bad_value" z2H y23):B4 P w K mg base CX0 2 f fd z34 (y0L K):=by
 have nd:=z3Y.nd
 refine F.ok z3Y (fun vs H Q E h=>?_) (fun cdv A outer s H vs Q E hr h=>?_)
 ·obtain⟨pn,a,zs,us,pr,rfl,_⟩:=h
  rfl
 obtain⟨pn,a,zs,us,pr,rfl,hn,ha,hp,g,l12,k⟩:=h
 refine⟨_,(z04 (z4g (i:=2) ["name","value"] [] [] rfl nd rfl (Or.inl rfl) (z0v rfl (by decide +kernel) rfl (by decide +kernel) rfl rfl) (y5t (pv 1)) (fun _ _ _ _ _=>(y4c (K:=K) (n:=2) rfl rfl (z1e (z0j (i:=0) (show((["name","value"]:List PySem.Str)++([]:List PySem.Str)).Nodup from by decide +kernel) rfl (Or.inl rfl)) (z1e (z0j (i:=1) (show((["name","value"]:List PySem.Str)++([]:List PySem.Str)).Nodup from by decide +kernel) rfl (Or.inl rfl)) z4Z)))) (y88 (z23 (z0x (by decide)) z0h (z23 (z0x (by decide)) z0h z6N z1a) (z0T z0h z1a))) (y5C (z0T z0h (z0T z0h z1a))) (fun _ _ _ _ _=>z1W) (fun _ _ _ _ _=>(pv 0))) (z04 (z0W bT rfl (z1k (pv 2)) (z0j (i:=3) nd rfl (Or.inl rfl)) (z05 (z0F (z0g C5 (rm hr) rfl (z00 (pv 0) (z00 (pv 3) z02)))))) (z04 (z0C (z0c z79 (z0b z6n rfl M.len bN (z00 (z0t (z5h rfl) rfl M.set PyProof.Rows.boot_set (z00 (pv 2) z02)) z02)) (z0b z09 rfl M.len bN (z00 (pv 2) z02)) (z0m _)) (z05 z1S) z0k) (z05 (z0W bT rfl (y5t (pv 1)) (y4c (K:=K) (n:=2) rfl rfl (z1e (z0j (i:=3) nd rfl (Or.inl rfl)) (z1e (z0j (i:=4) nd rfl (Or.inl rfl)) z4Z))) (z05 (z0F (z0g J3 (rm hr) rfl (z00 (pv 4) z02))))))))),?_⟩
 obtain⟨t,ht⟩:=SqS.of (SqP.or ha)
 have lu:us.length=pr.length:=hp.length
 refine(rdI rfl (ex2 a t ⟨rfl,⟨_,ht⟩,?_⟩))
 refine y2E (xs:=us) (fun i ys H'=>H'=H/\ys=((pr.take i).map Prod.fst).map V.str) ⟨rfl,rfl⟩ (fun i ys H' hi hq=>?_) (fun i x ys H' hx hq=>?_) (fun ys H' hq=>?_)
 ·obtain⟨rfl,rfl⟩:=hq
  refine⟨ht,z0f ?_⟩
  rw[bA,bA,bI]
  lia
 ·obtain⟨rfl,rfl⟩:=hq
  obtain⟨p,ep,b,rfl,hb⟩:=z2Y.at hp i x hx
  refine(ex2 b _ ⟨rfl,hb,rfl,(ex2 _ _ ⟨rfl,(ex2 _ _ ⟨rfl,rfl,?_⟩)⟩)⟩)
  refine(rdI rfl ⟨rfl,?_⟩)
  rw[z0n ep,bG,bG]
  rfl
 obtain⟨rfl,rfl⟩:=hq
 rw[lu,bR]
 intro D hD
 have s1:=z01 hD (.lst ((pr.map Prod.fst).map V.str))
 have e1:upd H' D (.lst ((pr.map Prod.fst).map V.str)) D=some (.lst ((pr.map Prod.fst).map V.str)):=z03
 generalize upd H' D (.lst ((pr.map Prod.fst).map V.str))=H1 at s1 e1
 have hn1:=SqN.keep s1 hn
 have ht1:=SqS.keep s1 ht
 have hp1:=z2Y.keep s1 hp
 refine(rdI rfl ⟨D,rfl,⟨_,SqL.of e1⟩,z1R (K:=K) (a:=D) (xs:=(pr.map Prod.fst).map V.str) (fun i σ H2=>∃o:Option V,H2=H1/\σ=[some (.ref pn),some (.ref a),some (.ref D),o,none]) ⟨none,rfl,rfl⟩ (fun i σ H2 _ ⟨_,e,_⟩=>e ▸ SqL.of e1) (fun i x σ H2 hx hq=>?_) (fun σ H2 hq=>?_)⟩)
 ·obtain⟨o,rfl,rfl⟩:=hq
  rw[bE] at hx
  obtain⟨z,ez,rfl⟩:=bY.mp hx
  have hz:z∈zs:=by
   obtain⟨p,hpm,rfl⟩:=cS.mp (bS ez)
   exact g.sub p hpm
  exact(rdI rfl (rdI rfl (ex3 pn zs z ⟨rfl,hn1,hz,(rdI rfl rfl)⟩)))
 obtain⟨o,rfl,rfl⟩:=hq
 have lf:(pr.map Prod.fst).length=pr.length:=bA _
 refine(rdI rfl (ex2 D (pr.map Prod.fst) ⟨rfl,.inl (SqL.of e1),by lia,fun l hl=>(ex2 l (pr.map Prod.fst) ⟨rfl,z03,by lia,(rdI rfl (ex2 D _ ⟨rfl,.inl (SqL.of (z01 hl _ _ _ e1)),rfl,(rdI rfl ?_)⟩))⟩)⟩))
 refine y8p (by rw[y5x g.nd,bA (f:=V.str)]) ?_
 have s2:=s1.trans (z01 hl (S0 P w l (pr.map Prod.fst)))
 have ht2:=SqS.keep (z01 hl (S0 P w l (pr.map Prod.fst))) ht1
 have hp2:=z2Y.keep (z01 hl (S0 P w l (pr.map Prod.fst))) hp1
 refine(rdI rfl (ex2 a t ⟨rfl,⟨_,ht2⟩,?_⟩))
 refine y7Q (xs:=us) (fun i σ H3=>∃o1 o2:Option V,H3=upd H2 l (S0 P w l (pr.map Prod.fst))/\σ=[some (.ref pn),some (.ref a),some (.ref D),o1,o2]) ⟨_,_,rfl,rfl⟩ (fun i σ H3 _ ⟨_,_,e,_⟩=>e ▸ ht2) (fun i x σ H3 hx hq=>?_) (fun σ H3 hq=>?_)
 ·obtain⟨o1,o2,rfl,rfl⟩:=hq
  obtain⟨p,ep,b,rfl,hb⟩:=z2Y.at hp2 i x hx
  have hv:=g.val p (bS ep)
  refine(ex2 b _ ⟨rfl,hb,rfl,(ex2 _ _ ⟨rfl,(ex2 _ _ ⟨rfl,rfl,?_⟩)⟩)⟩)
  exact(rdI rfl ⟨p.2,rfl,hv.1,hv.2,(ex2 _ _ ⟨rfl,rfl⟩)⟩)
 ·obtain⟨o1,o2,rfl,rfl⟩:=hq
  exact k _ s2
noncomputable def y1l(K:PySem.W.Frag):Sp:=fun vs H Q _=>∃(pn a:Addr) (zs:List Str) (us:List V) (pr:Row),vs=[.ref pn,.ref a]/\SqN K H pn zs/\zs.length≤12/\SqP K H a us/\Paired (z2Y K H) us pr/\(pr.map Prod.fst).Nodup/\pr.length≤12/\∀(v:V) (H':Hp),B0 H H'->B2 H' (O9 (z1v zs pr)) v->Q v H'
theorem y0c{z:Str}:∀{pr:Row},L5 (pr.map kvR) (Sum.inr z:Key)=(pr.find? fun p=>decide (p.1=z)).map fun p=>V.int p.2
 | []=>rfl
 | p::w=>by
  rw[cV,dW]
  by_cases e:p.1=z
  ·rw[z6v (show(kvR p).1=Sum.inr z by unfold kvR;rw[e]),decide_eq_true e]
   rfl
  ·rw[z6x (show ¬(kvR p).1=Sum.inr z from fun q=>e (Sum.inr.inj q)),decide_eq_false e]
   exact y0c
theorem y1g(zs:List Str)(z:Str)(pr:Row):z1v (zs++[z]) pr=z1v zs pr++(match pr.find? fun p=>decide (p.1=z) with|some p=>[p]|none=>[]):=by
 unfold z1v
 rw[List.filterMap_append,fX]
 cases pr.find? fun p=>decide (p.1=z)<;>rfl
theorem z5F(zs:List Str)(pr:Row):(z1v zs pr).length≤zs.length:=List.length_filterMap_le _ _
theorem y3b(M:Bl mg)(F:Fun K "rows_in_order" "rows_in_order" z3L f fd):B4 P w K mg base CX0 1 f fd z3G (y1l K):=by
 have nd:=z4W.nd
 refine F.ok z4W (fun vs H Q E h=>?_) (fun cdv A outer s H vs Q E hr h=>?_)
 ·obtain⟨pn,a,zs,us,pr,rfl,_⟩:=h
  rfl
 obtain⟨pn,a,zs,us,pr,rfl,hn,z12,ha,hp,ndr,l12,k⟩:=h
 have hu:=y0M hr
 refine⟨_,(z04 (z0o (i:=2) nd rfl (Or.inr rfl) (z0t (z4N (K:=K) rfl rfl) rfl M.dict jG (z00 (pv 1) z02))) (z05 (z0i (z0t z0p rfl M.tuple bH (z00 (z1c ["name"] ["values"] [2] rfl (z0v rfl (by decide +kernel) rfl (by decide +kernel) rfl rfl) (y5t (pv 0)) (fun _ _ _ _ _=>(z0j (i:=0) (show((["name"]:List PySem.Str)++(["values"]:List PySem.Str)).Nodup from by decide +kernel) rfl (Or.inl rfl))) (z0x (by decide)) z0h (fun _ _ _ _ _=>(z2i (z7J (y4d hu (pv 0) (pv 1))))) (fun _ _ _ _ _=>(z0U (z00 (pv 0) (z00 (z6L hu (pv 1) (pv 0) (fun _ _=>rfl)) z02))))) z02))))),?_⟩
 have lu:us.length=pr.length:=hp.length
 refine(rdI rfl (ex3 a us (pr.map kvR) ⟨rfl,ha,z2Y.pairs hp,by lia,?_,fun d hd=>?_⟩))
 ·have e:(pr.map kvR).map (·.1)=(pr.map Prod.fst).map Sum.inr:=by rw[eF,eF];rfl
  rw[e,dL,eJ]
  exact(dL.mp ndr).imp fun h e=>h (Sum.inr.inj e)
 have s1:=z01 hd (.dK (pr.map kvR))
 have e1:upd H d (.dK (pr.map kvR)) d=some (.dK (pr.map kvR)):=z03
 generalize upd H d (.dK (pr.map kvR))=H1 at s1 e1
 obtain⟨t,ht⟩:=SqS.of (SqN.keep s1 hn)
 refine(rdI rfl (ex2 pn t ⟨rfl,⟨_,ht⟩,?_⟩))
 refine y2E (xs:=zs.map V.str) (fun i ys H'=>B0 H1 H'/\z0a H' ((z1v (zs.take i) pr).map z9U) ys) ⟨B0.refl _,by rw[cZ];exact .nil⟩ (fun i ys H' hi hq=>?_) (fun i x ys H' hx hq=>?_) (fun ys H' hq=>?_)
 ·obtain⟨g,t'⟩:=hq
  refine⟨SqS.keep g ht,z0f ?_⟩
  have:=z5F (zs.take i) pr
  rw[bI] at this
  rw[t'.length,bA]
  lia
 ·obtain⟨g,t'⟩:=hq
  rw[bE] at hx
  obtain⟨z,ez,rfl⟩:=bY.mp hx
  refine(rdI rfl (rdI rfl (ex2 d _ ⟨rfl,N5.k (k:=Sum.inr z) (g _ _ e1),(rdI rfl ?_)⟩)))
  rw[y0c,z0n ez,y1g]
  cases ev:pr.find? fun p=>decide (p.1=z) with
  | none=>
   refine B7 ⟨g,?_⟩
   rw[cX]
   exact t'
  | some p=>
   have ep:p.1=z:=by
    have:=List.find?_some ev
    exact of_decide_eq_true this
   refine E8 (rdI rfl (rdI rfl (rdI rfl (ex2 d _ ⟨rfl,(show N5 _ d (kV (Sum.inr z)) (some (V.int p.2)) by rw[<- show L5 (pr.map kvR) (Sum.inr z:Key)=some (V.int p.2) by rw[y0c,ev];rfl];exact N5.k (g _ _ e1)),(by show 2≤sizeLine;decide),fun q hq=>⟨g.trans (z01 hq _),?_⟩⟩))))
   rw[bG]
   refine z0a.snoc (z0a.keep (z01 hq _) _ _ t') ?_
   rw[<- ep]
   exact z0s z03 (by show 2≤1000000;decide) (.cons (z2h _) (.cons (z0E _) .nil))
 ·obtain⟨g,t'⟩:=hq
  rw[bA,bR] at t'
  intro D hD
  refine(ex2 D ys ⟨rfl,.inl ⟨SqL.of z03,fun q hq=>k _ _ (s1.trans (g.trans ((z01 hD _).trans (z01 hq _)))) (z0s z03 ?_ (z0a.keep ((z01 hD _).trans (z01 hq _)) _ _ t'))⟩⟩)
  have:=z5F zs pr
  rw[bA]
  lia
noncomputable def y1F:Sp:=fun vs H Q _=>∃(a:Addr) (xs:List V) (w:Row),vs=[.ref a]/\H a=some (.tup xs)/\z0a H (w.map z9U) xs/\w.length≤12/\∀(l:Addr) (H':Hp),B0 H H'->H' l=some (.tup ((z0H w).map V.str))->Q (.ref l) H'
theorem y6a(M:Bl mg)(F:Fun K "names_of_rows" "names_of_rows" z3H f fd):B4 P w K mg base CX0 1 f fd z2O y1F:=by
 have nd:=z4z.nd
 refine F.ok z4z (fun vs H Q E h=>?_) (fun cdv A outer s H vs Q E hr h=>?_)
 ·obtain⟨a,xs,w,rfl,_⟩:=h
  rfl
 obtain⟨a,xs,w,rfl,ha,tw,l12,k⟩:=h
 refine⟨_,(z05 (z0i (z0t z0p rfl M.tuple bH (z00 (z1c ["name","value"] [] [] rfl (z0v rfl (by decide +kernel) rfl (by decide +kernel) rfl rfl) (z26 (pv 0)) (fun _ _ _ _ _=>(z8U (K:=K) (n:=2) rfl rfl (z1e (z0j (i:=0) (show((["name","value"]:List PySem.Str)++([]:List PySem.Str)).Nodup from by decide +kernel) rfl (Or.inl rfl)) (z1e (z0j (i:=1) (show((["name","value"]:List PySem.Str)++([]:List PySem.Str)).Nodup from by decide +kernel) rfl (Or.inl rfl)) z4Z)))) (z86 (z23 (z0x (by decide)) z0h (z23 (z0x (by decide)) z0h z6N z1a) (z0T z0h z1a))) (z65 (z0T z0h (z0T z0h z1a))) (fun _ _ _ _ _=>z1W) (fun _ _ _ _ _=>(pv 0))) z02)))),?_⟩
 have lx:xs.length=w.length:=by rw[tw.length,bA]
 refine(rdI rfl ⟨a,rfl,⟨_,SqT.of ha⟩,?_⟩)
 refine z1A (xs:=xs) (fun i ys H'=>H'=H/\ys=(z0H (w.take i)).map V.str) ⟨rfl,rfl⟩ (fun i ys H' hi hq=>?_) (fun i x ys H' hx hq=>?_) (fun ys H' hq=>?_)
 ·obtain⟨rfl,rfl⟩:=hq
  refine⟨SqT.of ha,z0f ?_⟩
  unfold z0H
  rw[bA,bA,bI]
  lia
 ·obtain⟨rfl,rfl⟩:=hq
  obtain⟨p,b,ep,rfl,hb⟩:=z2J tw i x hx
  refine(ex2 b _ ⟨rfl,SqT.of hb,rfl,(ex2 _ _ ⟨rfl,(ex2 _ _ ⟨rfl,rfl,?_⟩)⟩)⟩)
  refine(rdI rfl ⟨rfl,?_⟩)
  unfold z0H
  rw[z0n ep,bG,bG]
  rfl
 ·obtain⟨rfl,rfl⟩:=hq
  rw[lx,bR]
  intro D hD
  exact(ex2 D _ ⟨rfl,.inl ⟨SqL.of z03,fun q hq=>k q _ ((z01 hD _).trans (z01 hq _)) z03⟩⟩)
noncomputable def OfD(K:PySem.W.Frag)(C:Addr):OfP:=fun H p fp zs r rows=>∃(dx pn pl:Addr) (fs:List (Str×V)) (xs:List V),fp=[p,dx,pl]/\H p=some (.ins C dx fs)/\H dx=some (.own p)/\H pn=some (.tup (zs.map V.str))/\H pl=some (.lst xs)/\
 fs.lookup ("names":Str)=some (V.ref pn)/\fs.lookup ("reach":Str)=some (V.int r)/\fs.lookup ("written":Str)=some (V.ref pl)/\(∀m∈(["refuse_writing","write","latest","issue"]:List Str),fs.lookup m=none)/\
 z0a H ((upI 1 rows.length).map fun n=>z10 rows n r) xs/\rows.length≤60/\(∀w∈rows,w.length≤12)/\E2 zs/\0≤r/\r≤10
theorem R1{K:PySem.W.Frag}{C:Addr}:Y4 C ["write","latest","issue"] (OfD K C):=by
 refine⟨fun h=>?_,fun h b hb=>?_,fun h s out nt=>?_⟩
 ·obtain⟨dx,pn,pl,fs,xs,e,h1,h2,h3,h4,l1,l2,l3,lm,_⟩:=h
  refine⟨dx,fs,h1,fun m hm=>lm m ?_⟩
  simp only[bF,dD,or_false] at hm ⊢
  rcases hm with h|h|h<;>simp[h]
 ·obtain⟨dx,pn,pl,fs,xs,rfl,h1,h2,h3,h4,_⟩:=h
  rcases bF.mp hb with rfl|hb
  ·exact⟨_,h1,fun xs z=>by cases z⟩
  rcases bF.mp hb with rfl|hb
  ·exact⟨_,h2,fun xs z=>by cases z⟩
  rw[bC.mp hb]
  exact⟨_,h4,fun xs z=>by cases z⟩
 ·obtain⟨dx,pn,pl,fs,xs,rfl,h1,h2,h3,h4,l1,l2,l3,lm,tl,g⟩:=h
  exact(ex5 dx pn pl fs xs ⟨rfl,s _ _ h1 (fun m=>out _ m (by simp)),s _ _ h2 (fun m=>out _ m (by simp)),s _ _ h3 (fun m=>nt _ m _ h3),s _ _ h4 (fun m=>out _ m (by simp)),l1,l2,l3,lm,z0a.but s nt _ _ tl,g⟩)
theorem y4b{A6:Addr}(M:Bl mg)(T:L4 K mg A6)(F:Fun K "__init__" "Office.__init__" z30 f fd)(D8:Cal P w K mg base 2 "bulletin_names" z2q (z6S K)) :
  B4 P w K mg base CX0 3 f fd z33 (y26 K A6 (OfD K A6)):=by
 have nd:=z3U.nd
 refine F.ok z3U (fun vs H Q E h=>?_) (fun cdv A outer s H vs Q E hr h=>?_)
 ·obtain⟨x,dx,pn,zs,r,rfl,_⟩:=h
  rfl
 obtain⟨x,dx,pn,zs,r,rfl,hx,ne,hdx,hn,g,r0,r1,k⟩:=h
 refine⟨_,(z04 (z6b (pv 0) (z0g D8 (rm hr) rfl (z00 (pv 1) (z00 (pv 2) z02))) rfl) (z04 (z6b (pv 0) (pv 2) rfl) (z05 (z6b (pv 0) (z1m z02) rfl)))),?_⟩
 refine(rdI rfl (rdI rfl (ex3 pn zs r ⟨rfl,hn,g,r0,r1,fun l H1 s1 e1=>?_⟩)))
 refine(rdI rfl (ex4 x A6 dx ([]) ⟨rfl,s1 _ _ hx,T.cl,T.n_names,by decide,?_⟩))
 have z1:=z20 "names" (.ref l) []
 have z2:=z20 "reach" (.int r) (K7 "names" (.ref l) [])
 have z0:([]:List (Str×V)).length=0:=rfl
 refine(rdI rfl (rdI rfl (ex4 x A6 dx _ ⟨rfl,z03,T.cl,T.n_reach,(by lia),?_⟩)))
 rw[z8V]
 refine⟨(by show 0≤sizeLine;decide),fun pd hd=>?_⟩
 have nx:x≠pd:=z0q z03 hd
 have ndd:dx≠pd:=z0q (show upd H1 x _ dx=some _ by rw[z0l ne];exact s1 _ _ hdx) hd
 have nl:l≠x:=z4x e1 (s1 _ _ hx) (fun z=>by cases z)
 have nlp:l≠pd:=z0q (show upd H1 x _ l=some _ by rw[z0l nl];exact e1) hd
 have dfr:H1 pd=none:=by rw[z0l (dG nx)] at hd;exact hd
 refine(rdI rfl (ex4 x A6 dx _ ⟨rfl,(by rw[z0l nx,z03]),T.cl,T.n_written,(by lia),?_⟩))
 refine k [x,dx,pd] _ (fun b hb=>?_) (fun b o e nb=>?_) (ex5 dx l pd _ ([]) ⟨rfl,z03,?_,?_,?_,?_,?_,?_,?_,.nil,by decide,fun _ q=>(nomatch q),g,r0,r1⟩)
 ·simp only[bF,dD,or_false] at hb
  rcases hb with rfl|rfl|rfl
  ·exact .inl rfl
  ·exact .inr (.inl rfl)
  ·exact .inr (.inr (s1.free dfr))
 ·rw[bC] at nb
  rw[z0l nb,z0l (z0q e (s1.free dfr)),z0l nb]
  exact s1 _ _ e
 ·rw[z0l ne,z0l ndd,z0l ne]
  exact s1 _ _ hdx
 ·rw[z0l nl,z0l nlp,z0l nl]
  exact e1
 ·rw[z0l (dG nx),z03]
 ·rw[z0u,if_neg (by decide +kernel),z0u,if_neg (by decide +kernel),z0u,if_pos rfl]
 ·rw[z0u,if_neg (by decide +kernel),z0u,if_pos rfl]
 ·rw[z0u,if_pos rfl]
 ·intro m hm
  simp only[bF,dD,or_false] at hm
  rcases hm with rfl|rfl|rfl|rfl<;>rw[z0u,if_neg (by decide +kernel),z0u,if_neg (by decide +kernel),z0u,if_neg (by decide +kernel)]<;>rfl
theorem y1V{A6:Addr}(M:Bl mg)(T:L4 K mg A6)(F:Fun K "latest" "Office.latest" z3E f fd):B4 P w K mg base CX0 1 f fd z3I (z9K (OfD K A6)):=by
 have nd:=z4L.nd
 refine F.ok z4L (fun vs H Q E h=>?_) (fun cdv A outer s H vs Q E hr h=>?_)
 ·obtain⟨p,fp,zs,r,rows,rfl,_⟩:=h
  rfl
 obtain⟨p,fp,zs,r,rows,rfl,of,k⟩:=h
 refine⟨_,(z05 (z0i (z0b z09 rfl M.len bN (z00 (z0M (pv 0) rfl) z02)))),?_⟩
 obtain⟨dx,pn,pl,fs,xs,rfl,h1,h2,h3,h4,l1,l2,l3,lm,tl,r60,w12,g,r0,r1⟩:=of
 have lx:xs.length=rows.length:=by rw[tl.length,bA,z0S]
 refine(rdI rfl (ex5 p A6 dx fs _ ⟨rfl,h1,T.cl,T.n_written,l3,(ex2 pl xs ⟨rfl,.inl (SqL.of h4),?_⟩)⟩))
 rw[lx]
 exact k H (B0.refl _)
theorem y2P{A6:Addr}(M:Bl mg)(T:L4 K mg A6)(F:Fun K "issue" "Office.issue" z42 f fd):B4 P w K mg base CX0 1 f fd z2u (z6m (OfD K A6)):=by
 have nd:=z5p.nd
 refine F.ok z5p (fun vs H Q E h=>?_) (fun cdv A outer s H vs Q E hr h=>?_)
 ·obtain⟨p,fp,zs,r,rows,n,rfl,_⟩:=h
  rfl
 obtain⟨p,fp,zs,r,rows,n,rfl,of,n1,n2,k⟩:=h
 refine⟨_,(z04 (z0C (PW.pt (z38 (z0c z8l (pv 1) z06 (z0m _)) (z24 (z0c z2o (pv 1) (z0b z09 rfl M.len bN (z00 (z0M (pv 0) rfl) z02)) (z0m _))))) (z05 z1S) z0k) (z05 (z0i (z0A z1j (z0M (pv 0) rfl) (z0r z25 (pv 1) z06) (fun _ _=>rfl))))),?_⟩
 obtain⟨dx,pn,pl,fs,xs,rfl,h1,h2,h3,h4,l1,l2,l3,lm,tl,r60,w12,g,r0,r1⟩:=of
 have lx:xs.length=rows.length:=by rw[tl.length,bA,z0S]
 refine(rdI rfl (ex2 _ _ ⟨rfl,rfl,(rdI rfl (B9 (fun q=>absurd (z0K q) (by lia)) fun _=>?_))⟩))
 refine(rdI rfl (rdI rfl (ex5 p A6 dx fs _ ⟨rfl,h1,T.cl,T.n_written,l3,(ex2 pl xs ⟨rfl,.inl (SqL.of h4),(ex2 _ _ ⟨rfl,rfl,(rdI rfl (B9 (fun q=>absurd (z0K q) (by lia)) fun _=>?_))⟩)⟩)⟩)))
 have hk:(n-1).toNat<rows.length:=by lia
 obtain⟨v,ev,tv⟩:=tl.get (n-1).toNat (z10 rows n r) (by
  unfold upI
  rw[bE,bE,fF hk]
  show some (z10 rows (1+((n-1).toNat:Int)) r)=_
  rw[show(1:Int)+((n-1).toNat:Int)=n by lia])
 have av:atI xs (n-1)=some v:=by
  rw[show n-1=(((n-1).toNat:Nat):Int) by lia]
  exact z0V ev
 exact(rdI rfl (ex5 p A6 dx fs _ ⟨rfl,h1,T.cl,T.n_written,l3,(rdI rfl (ex2 _ _ ⟨rfl,rfl,(ex4 pl xs _ v ⟨rfl,rfl,SqL.of h4,av,k v H (B0.refl _) tv⟩)⟩))⟩))
noncomputable def z8Y(K:PySem.W.Frag)(Of:OfP):Sp:=fun vs H Q _=>∃(p a:Addr) (fp:List Addr) (zs:List Str) (r:Int) (rows:List Row) (us:List V) (pr:Row),vs=[.ref p,.ref a]/\Of H p fp zs r rows/\SqP K H a us/\Paired (z2Y K H) us pr/\GoodR zs pr/\pr.length≤12/\rows.length<60/\∀H',B0 H H'->Q .non H'
theorem y3s{A6:Addr}(M:Bl mg)(T:L4 K mg A6)(F:Fun K "refuse_writing" "Office.refuse_writing" z1K f fd)(K0:Cal P w K mg base 2 "refuse_bad_rows" z34 (y0L K)) :
  B4 P w K mg base CX0 3 f fd z1f (z8Y K (OfD K A6)):=by
 have nd:=z2w.nd
 refine F.ok z2w (fun vs H Q E h=>?_) (fun cdv A outer s H vs Q E hr h=>?_)
 ·obtain⟨p,a,fp,zs,r,rows,us,pr,rfl,_⟩:=h
  rfl
 obtain⟨p,a,fp,zs,r,rows,us,pr,rfl,of,ha,hp,g',l12,l60,k⟩:=h
 refine⟨_,(z04 (z0C (z0c y6q (z0b z09 rfl M.len bN (z00 (z0M (pv 0) rfl) z02)) (z3b rfl M.MOST_NUMBERS) (z0m _)) (z05 z1S) z0k) (z05 (z0F (z0g K0 (rm hr) rfl (z00 (z0M (pv 0) rfl) (z00 (pv 1) z02)))))),?_⟩
 obtain⟨dx,pn,pl,fs,xs,rfl,h1,h2,h3,h4,l1,l2,l3,lm,tl,r60,w12,g,r0,r1⟩:=of
 have lx:xs.length=rows.length:=by rw[tl.length,bA,z0S]
 refine(rdI rfl (ex5 p A6 dx fs _ ⟨rfl,h1,T.cl,T.n_written,l3,(ex2 pl xs ⟨rfl,.inl (SqL.of h4),(ex2 _ _ ⟨rfl,rfl,(rdI rfl (B9 (fun q=>absurd (z0K q) (by lia)) fun _=>?_))⟩)⟩)⟩))
 exact(rdI rfl (ex5 p A6 dx fs _ ⟨rfl,h1,T.cl,T.n_names,l1,(rdI rfl (ex5 pn a zs us pr ⟨rfl,.inr (SqT.of h3),ha,hp,g',l12,fun H' s=>k H' s⟩))⟩))
theorem y1G(rows:List Row)(x:Row){n r:Int}(n1:1≤n)(n2:n≤rows.length):z10 (rows++[x]) n r=z10 rows n r:=by
 have e:=y1t (rows:=rows++[x]) (j:=rows.length) (r:=r) n1 n2
 rw[List.take_left] at e
 exact e.symm
theorem y3K(m:Nat)(r:Int)(r0:0≤r):z6P ((m:Int)+1) r=tsN m r.toNat:=by
 have w0G:∀{l1 l2:List Int},l1.Pairwise (· > ·)->l2.Pairwise (· > ·)->(∀x,x∈l1↔x∈l2)->l1=l2:=fun {l1 l2} p1 p2 h=>by
  have e:=z1P (l1:=l1.reverse) (l2:=l2.reverse) (jR.mpr p1) (jR.mpr p2) fun x=>by rw[jK,jK];exact h x
  have e2:=congrArg List.reverse e
  rw[h9,h9] at e2
  exact e2
 refine w0G ((z8D _ _).filter _) ((z8D _ _).filter _) fun x=>?_
 rw[z83]
 unfold z6P
 rw[cO,y0b,decide_eq_true_eq]
 lia
theorem y4i(rows:List Row)(x:Row)(r:Int)(r0:0≤r):y6n (rows++[x]) ((rows.length:Int)+1) r=tsD (rows.map z0H) r:=by
 unfold y6n tsD
 rw[y3K _ _ r0,bA]
 congr 1
 refine fE fun k hk=>?_
 have hk:=z83.mp hk
 unfold y3k tsP z0D
 have h1:(k-1).toNat<rows.length:=by lia
 rw[bP,bP,dE h1,bE,bD h1]
 rfl
theorem y3z{A6:Addr}(M:Bl mg)(T:L4 K mg A6)(F:Fun K "write" "Office.write" z45 f fd)(C1:D9 P w K mg base 3 A6 "refuse_writing" z1f (z8Y K (OfD K A6)))
  (E3:Cal P w K mg base 1 "names_of_rows" z2O y1F) (M3:Cal P w K mg base 1 "rows_in_order" z3G (y1l K)) (R4:Cal P w K mg base 2 "tail_for" z8n (y6U K)) :
  B4 P w K mg base CX0 4 f fd z4f (y0V K (OfD K A6)):=by
 have nd:=z5n.nd
 refine F.ok z5n (fun vs H Q E h=>?_) (fun cdv A outer s H vs Q E hr h=>?_)
 ·obtain⟨p,v,fp,zs,r,rows,pr,rfl,_⟩:=h
  rfl
 obtain⟨p,v,fp,zs,r,rows,pr,rfl,of,⟨a,us,rfl,ha,na,hp⟩,gr,l12,l60,k⟩:=h
 refine⟨_,(z04 (z0F (z1J C1 (rm hr) (pv 0) (z00 (pv 1) z02))) (z04 (z0o (i:=2) nd rfl (Or.inl rfl) (z0r z1o (z0b z09 rfl M.len bN (z00 (z0M (pv 0) rfl) z02)) z06)) (z04 (z4g (i:=3) ["issue"] [] [] rfl nd rfl (Or.inl rfl) (z0v rfl (by decide +kernel) rfl (by decide +kernel) rfl rfl) (z1k (z0M (pv 0) rfl)) (fun _ _ _ _ _=>(z0j (i:=0) (show((["issue"]:List PySem.Str)++([]:List PySem.Str)).Nodup from by decide +kernel) rfl (Or.inl rfl))) (z0x (by decide)) z0h (fun _ _ _ _ _=>z1W) (fun _ _ _ _ _=>(z0g E3 (rm hr) rfl (z00 (z0A (r:=Q6 K) z0w (pv 0) z06 (fun _ _=>rfl)) z02)))) (z04 (z0F (z2Z bV bU bW z0L (z0M (pv 0) rfl) (z00 (z0U (z00 (pv 2) (z00 (z0g M3 (rm hr) rfl (z00 (z0M (pv 0) rfl) (z00 (pv 1) z02))) (z00 (z0g R4 (rm hr) rfl (z00 (pv 3) (z00 (z0M (pv 0) rfl) z02))) z02)))) z02))) (z05 (z0i (pv 2))))))),?_⟩
 have hp':=z2Y.of hp
 obtain⟨dx,pn,pl,fs,xs,rfl,h1,h2,h3,h4,l1,l2,l3,lm,tl,r60,w12,g,r0,r1⟩:=id of
 have lx:xs.length=rows.length:=by rw[tl.length,bA,z0S]
 refine(rdI rfl (ex3 p dx fs ⟨rfl,h1,lm _ (by simp),(rdI rfl (ex8 p a _ zs r rows us pr ⟨rfl,of,ha,hp',gr,l12,l60,fun H1 s1=>?_⟩))⟩))
 refine(rdI rfl (ex5 p A6 dx fs _ ⟨rfl,s1 _ _ h1,T.cl,T.n_written,l3,(ex2 pl xs ⟨rfl,.inl (SqL.of (s1 _ _ h4)),(ex2 _ _ ⟨rfl,rfl,?_⟩)⟩)⟩))
 refine(rdI rfl (ex5 p A6 dx fs _ ⟨rfl,s1 _ _ h1,T.cl,T.n_written,l3,pl,rfl,⟨_,SqL.of (s1 _ _ h4)⟩,?_⟩))
 refine z3k (xs:=xs) (fun i ys H'=>B0 H1 H'/\z0a H' (((rows.take i).map z0H).map L7) ys) ⟨B0.refl _,by rw[cZ];exact .nil⟩ (fun i ys H' hi hq=>?_) (fun i x ys H' hx hq=>?_) (fun ys H' hq=>?_)
 ·obtain⟨gg,t⟩:=hq
  refine⟨SqL.of (gg _ _ (s1 _ _ h4)),z0f ?_⟩
  rw[t.length,bA,bA,bI]
  lia
 ·obtain⟨gg,t⟩:=hq
  have hi:i<rows.length:=by
   have:=(bX.mp hx).1
   lia
  obtain⟨d,ed,td⟩:=tl.at i x hx
  unfold upI at ed
  rw[bE,bE,fF hi] at ed
  have ed':z10 rows (1+(i:Int)) r=d:=Option.some.inj ed
  subst ed'
  have ew:z0D rows (1+(i:Int))=rows[i]:=by
   unfold z0D
   rw[show(1+(i:Int)-1).toNat=i by lia,bP,bD hi]
   rfl
  obtain⟨b,bs,rfl,eb,_,tb⟩:=z0d td
  obtain⟨x0,ur,rfl,t0,tb⟩:=z0e tb
  obtain⟨x1,ur,rfl,t1,tb⟩:=z0e tb
  rw[ew] at t1
  obtain⟨c,cs,rfl,ec,_,tc⟩:=z0d t1
  refine(rdI rfl (ex4 b _ _ _ ⟨rfl,rfl,SqT.of (gg _ _ (s1 _ _ eb)),z0V rfl,(ex3 c cs (rows[i]) ⟨rfl,gg _ _ (s1 _ _ ec),z0a.keep (s1.trans gg) _ _ tc,w12 _ (fG hi),fun l H2 s2 e2=>⟨gg.trans s2,?_⟩⟩)⟩))
  rw[z0n (bD hi),bG,bG]
  refine z0a.snoc (z0a.keep s2 _ _ t) (z0s e2 ?_ (z2n _))
  have:=w12 _ (fG hi)
  unfold z0H
  rw[bA,bA]
  lia
 obtain⟨gg,t⟩:=hq
 rw[lx,bR] at t
 intro D hD
 have s2:=s1.trans (gg.trans (z01 hD (.lst ys)))
 have eD:upd H' D (.lst ys) D=some (.lst ys):=z03
 have t2:=z0a.keep (z01 hD (.lst ys)) _ _ t
 generalize upd H' D (.lst ys)=H2 at s2 eD t2
 have l60':((rows.map z0H)).length≤59:=by rw[bA];lia
 refine(rdI rfl (ex5 p A6 dx fs _ ⟨rfl,s2 _ _ h1,T.cl,T.n_written,l3,.inl ⟨rfl,_,SqL.of (s2 _ _ h4)⟩,?_⟩))
 refine(rdI rfl (rdI rfl (ex5 p A6 dx fs _ ⟨rfl,s2 _ _ h1,T.cl,T.n_names,l1,(rdI rfl (ex5 pn a zs us pr ⟨rfl,.inr (SqT.of (s2 _ _ h3)),g.hi,SqP.keep s2 ha,z2Y.keep s2 hp',gr.nd,l12,fun v1 H3 s3 tv1=>?_⟩))⟩)))
 have s23:=s2.trans s3
 refine(rdI rfl (rdI rfl (ex5 p A6 dx fs _ ⟨rfl,s23 _ _ h1,T.cl,T.n_reach,l2,(ex4 D ys (rows.map z0H) r ⟨rfl,.inl (SqL.of (s3 _ _ eD)),z0a.keep s3 _ _ t2,l60',?_,r0,r1,fun v2 H4 s4 tv2=>?_⟩)⟩)))
 ·intro w' hw'
  obtain⟨w0,hw0,rfl⟩:=cS.mp hw'
  have:=w12 w0 hw0
  unfold z0H
  rw[bA]
  exact this
 refine⟨(by show 3≤sizeLine;decide),fun q hq=>?_⟩
 have s24:=s23.trans (s4.trans (z01 hq (.tup [V.int ((xs.length:Int)+1),v1,v2])))
 have eq':upd H4 q (.tup [V.int ((xs.length:Int)+1),v1,v2]) q=some (.tup [V.int ((xs.length:Int)+1),v1,v2]):=z03
 have tv1':=B2.keep (s4.trans (z01 hq (.tup [V.int ((xs.length:Int)+1),v1,v2]))) _ _ tv1
 have tv2':=B2.keep (z01 hq (.tup [V.int ((xs.length:Int)+1),v1,v2])) _ _ tv2
 generalize upd H4 q (.tup [V.int ((xs.length:Int)+1),v1,v2])=H5 at s24 eq' tv1' tv2'
 refine(ex3 pl xs (.ref q) ⟨rfl,rfl,s24 _ _ h4,z0f (by lia),?_⟩)
 refine(rdI rfl ?_)
 have np:p≠pl:=z4x h1 h4 (fun z=>by cases z)
 have nx:dx≠pl:=z4x h2 h4 (fun z=>by cases z)
 have nn:pn≠pl:=z4x h3 h4 (fun z=>by cases z)
 have h5:=s24 _ _ h4
 have e:=k [p,dx,pl] (upd H5 pl (.lst (xs++[.ref q]))) (fun b hb=>.inl hb) (fun b o e nb=>by rw[z0l (fun z=>nb (by rw[z];simp))];exact s24 _ _ e)
  ⟨dx,pn,pl,fs,_,rfl,by rw[z0l np];exact s24 _ _ h1,by rw[z0l nx];exact s24 _ _ h2,by rw[z0l nn];exact s24 _ _ h3,z03,l1,l2,l3,lm,?_,?_,?_,g,r0,r1⟩
 ·rw[<- lx] at e
  exact e
 ·refine z0a.over h5 (fun _ z=>by cases z) _ _ ?_
  rw[bL,dH,z6f,bG]
  have e1:(upI 1 rows.length).map (fun n=>z10 (rows++[z1v zs pr]) n r)=(upI 1 rows.length).map fun n=>z10 rows n r:=fE fun n hn=>by
   have:=z1i.mp hn
   exact y1G rows _ (by lia) (by lia)
  rw[e1]
  refine z0a.snoc (z0a.keep s24 _ _ tl) ?_
  have en:(1:Int)+(rows.length:Int)=(rows.length:Int)+1:=by lia
  have er:z0D (rows++[z1v zs pr]) ((rows.length:Int)+1)=z1v zs pr:=by
   unfold z0D
   rw[show((rows.length:Int)+1-1).toNat=rows.length by lia,bP,List.getElem?_concat_length]
   rfl
  show B2 H5 (z10 (rows++[z1v zs pr]) (1+(rows.length:Int)) r) (.ref q)
  unfold z10
  rw[en,er,y4i rows _ r r0]
  rw[lx] at eq'
  exact z0s eq' (by show 3≤1000000;decide) (.cons (z0E _) (.cons tv1' (.cons tv2' .nil)))
 ·rw[bL,dH]
  lia
 ·intro w' hw'
  rcases cH.mp hw' with hw'|hw'
  ·exact w12 w' hw'
  ·rw[bC] at hw'
   rw[hw']
   exact cM (z5F zs pr) g.hi
abbrev C0:=Option Int×Int
noncomputable def z2t:C0->List V
 | (none,n)=>[.str "write",.int n]
 | (some r,n)=>[.str "deliver",.int r,.int n]
noncomputable def z1y(H:Hp)(u:V)(d:C0):Prop:=∃b,u=.ref b/\H b=some (.tup (z2t d))
theorem z1q{H:Hp}{us:List V}{log:List C0}(h:Paired (z1y H) us log):us.length=log.length:=by
 induction h with
 | nil=>rfl
 | cons _ _ ih=>rw[cN,cN,ih]
noncomputable def D0(log:List C0)(rd:Int):List Int:=log.foldl (fun acc d=>if d.1=some rd then P2 acc d.2 else acc) []
theorem y0P(log:List C0)(d:C0)(rd:Int):D0 (log++[d]) rd=if d.1=some rd then P2 (D0 log rd) d.2 else D0 log rd:=by
 unfold D0
 rw[gU]
 rfl
theorem z7X{log:List C0}{rd n:Int}:n∈D0 log rd↔((some rd,n):C0)∈log:=by
 have go:∀(log:List C0) (acc:List Int),n∈log.foldl (fun acc d=>if d.1=some rd then P2 acc d.2 else acc) acc↔n∈acc\/((some rd,n):C0)∈log:=by
  intro log
  induction log with
  | nil=>intro acc;exact⟨.inl,fun h=>h.elim id fun q=>(nomatch q)⟩
  | cons d log ih=>
   intro acc
   rw[dF,ih,bF]
   obtain⟨a,m⟩:=d
   by_cases c:a=some rd
   ·subst c
    rw[if_pos rfl,y2f,or_assoc]
    exact or_congr kI (or_congr ⟨fun e=>by rw[e],fun e=>congrArg Prod.snd e⟩ kI)
   ·rw[if_neg c]
    exact or_congr kI ⟨.inr,fun h=>h.elim (fun e=>absurd (congrArg Prod.fst e).symm c) id⟩
 unfold D0
 rw[go]
 exact⟨fun h=>h.elim (fun q=>(nomatch q)) id,.inr⟩
abbrev BkP:=Hp->Addr->List Addr->List Str->Int->Int->List Row->List C0->Prop
structure V8(C:Addr)(ms:List Str)(Bk:BkP):Prop where
 ins:∀{H p fp zs r k rows log},Bk H p fp zs r k rows log->∃dx fs,H p=some (.ins C dx fs)/\∀m∈ms,fs.lookup m=none
 own:∀{H p fp zs r k rows log},Bk H p fp zs r k rows log->∀b∈fp,∃o,H b=some o/\∀xs,o≠.tup xs
 keep:∀{H H' p fp gp zs r k rows log},Bk H p fp zs r k rows log->z0B gp H H'->(∀b∈gp,b∉fp)->z5w H gp->Bk H' p fp zs r k rows log
theorem V8.same{C:Addr}{ms:List Str}{Bk:BkP}(O:V8 C ms Bk){H H':Hp}{p:Addr}{fp:List Addr}{zs:List Str}{r k:Int}{rows:List Row}{log:List C0}(h:Bk H p fp zs r k rows log)(s:B0 H H'):Bk H' p fp zs r k rows log:=
 O.keep (gp:=[]) h (.of s) (fun _ q=>by cases q) fun _ q=>by cases q
theorem V8.Q4{C:Addr}{ms:List Str}{Bk:BkP}(O:V8 C ms Bk){H:Hp}{p:Addr}{fp:List Addr}{zs:List Str}{r k:Int}{rows:List Row}{log:List C0}(h:Bk H p fp zs r k rows log):z5w H fp:=fun b m xs e=>by
 obtain⟨o,e1,n⟩:=O.own h b m
 rw[e1] at e
 exact n xs (Option.some.inj e)
noncomputable def y2s(K:PySem.W.Frag)(C:Addr)(Bk:BkP):Sp:=fun vs H Q _=>∃(x dx pn:Addr) (zs:List Str) (r k:Int),vs=[.ref x,.ref pn,.int r,.int k]/\H x=some (.ins C dx [])/\dx≠x/\H dx=some (.own x)/\HdN K H pn zs/\E2 zs/\0≤r/\r≤10/\1≤k/\k≤10/\
 ∀(fp:List Addr) (H':Hp),(∀b∈fp,b=x\/b=dx\/H b=none)->z0B [x] H H'->Bk H' x fp zs r k [] []->Q .non H'
noncomputable def y1b(K:PySem.W.Frag)(Bk:BkP):Sp:=fun vs H Q _=>∃(p:Addr) (v:V) (fp:List Addr) (zs:List Str) (r k:Int) (rows:List Row) (log:List C0) (pr:Row),vs=[.ref p,v]/\Bk H p fp zs r k rows log/\y4A K H fp v pr/\GoodR zs pr/\pr.length≤12/\rows.length<60/\log.length<400/\
 ∀(fp':List Addr) (H':Hp),(∀b∈fp',b∈fp\/H b=none)->z0B fp H H'->Bk H' p fp' zs r k (rows++[z1v zs pr]) (log++[(none,(rows.length:Int)+1)])->Q (.int (rows.length+1)) H'
noncomputable def z8O(Bk:BkP):Sp:=fun vs H Q _=>∃(p:Addr) (fp:List Addr) (zs:List Str) (r k:Int) (rows:List Row) (log:List C0) (rd n:Int),vs=[.ref p,.int rd,.int n]/\Bk H p fp zs r k rows log/\1≤rd/\rd≤k/\1≤n/\n≤rows.length/\log.length<400/\
 ∀(H':Hp),z0B fp H H'->Bk H' p fp zs r k rows (log++[(some rd,n)])->Q (.bl (decide (((some rd,n):C0)∉log))) H'
noncomputable def y0J(Bk:BkP):Sp:=fun vs H Q _=>∃(p:Addr) (fp:List Addr) (zs:List Str) (r k:Int) (rows:List Row) (log:List C0),vs=[.ref p]/\Bk H p fp zs r k rows log/\Q (.int log.length) H
noncomputable def w0c:Option Nat->V
 | none=>.non
 | some d=>.int d
noncomputable def z50(Bk:BkP)(Sh:ShP):Sp:=fun vs H Q _=>∃(p:Addr) (fp:List Addr) (zs:List Str) (r k:Int) (rows:List Row) (log:List C0) (rd:Int) (o:Option Nat),vs=[.ref p,.int rd,w0c o]/\Bk H p fp zs r k rows log/\1≤rd/\rd≤k/\(∀d,o=some d->d≤log.length)/\
 ∀(x:Addr) (fq:List Addr) (H':Hp),(∀b∈fq,H b=none)->B0 H H'->Sh H' x fq zs r (fun n=>z10 rows n r) (D0 (log.take (o.getD log.length)) rd)->Q (.ref x) H'
theorem K3.but{fp:List Addr}{H H':Hp}{us:List V}{log:List C0}(s:z0B fp H H')(n:z5w H fp)(h:Paired (z1y H) us log):Paired (z1y H') us log:=
 L2.Paired.T8 h fun u d ⟨b,e,q⟩=>⟨b,e,s _ _ q fun m=>n b m _ q⟩
structure BkIn(K:PySem.W.Frag)(CB CO:Addr)(H:Hp)(p dx po pd:Addr)(fs:List (Str×V))(fo:List Addr)(us:List V)(zs:List Str)(r k:Int)(rows:List Row)(log:List C0):Prop where
 hp:H p=some (.ins CB dx fs)
 hdx:H dx=some (.own p)
 of:OfD K CO H po fo zs r rows
 hd:H pd=some (.lst us)
 ds:Paired (z1y H) us log
 npo:p∉fo
 ndo:dx∉fo
 ndn:pd∉fo
 lo:fs.lookup ("office":Str)=some (V.ref po)
 lr:fs.lookup ("readers":Str)=some (V.int k)
 ld:fs.lookup ("done":Str)=some (V.ref pd)
 lm:∀m∈(["refuse_unknown_reader","refuse_further_deed","write","deliver","latest","issue","deeds","deed","shelf"]:List Str),fs.lookup m=none
 l4:log.length≤400
 in1:∀d∈log,1≤d.2/\d.2≤rows.length
 k1:1≤k
 k10:k≤10
noncomputable def BkD(K:PySem.W.Frag)(CB CO:Addr):BkP:=fun H p fp zs r k rows log=>∃(dx po pd:Addr) (fs:List (Str×V)) (fo:List Addr) (us:List V),fp=p::dx::pd::fo/\BkIn K CB CO H p dx po pd fs fo us zs r k rows log
theorem S7{K:PySem.W.Frag}{CB CO:Addr}:V8 CB ["write","deliver","latest","issue","deeds","deed","shelf"] (BkD K CB CO):=by
 refine⟨fun h=>?_,fun h b hb=>?_,fun h s out nt=>?_⟩
 ·obtain⟨dx,po,pd,fs,fo,us,rfl,B⟩:=h
  refine⟨dx,fs,B.hp,fun m hm=>B.lm m ?_⟩
  exact cG _ (cG _ hm)
 ·obtain⟨dx,po,pd,fs,fo,us,rfl,B⟩:=h
  rcases bF.mp hb with rfl|hb
  ·exact⟨_,B.hp,fun xs z=>by cases z⟩
  rcases bF.mp hb with rfl|hb
  ·exact⟨_,B.hdx,fun xs z=>by cases z⟩
  rcases bF.mp hb with rfl|hb
  ·exact⟨_,B.hd,fun xs z=>by cases z⟩
  exact R1.own B.of b hb
 ·obtain⟨dx,po,pd,fs,fo,us,rfl,B⟩:=h
  exact⟨dx,po,pd,fs,fo,us,rfl,{ B with
   hp:=s _ _ B.hp fun m=>out _ m (by simp)
   hdx:=s _ _ B.hdx fun m=>out _ m (by simp)
   of:=R1.keep B.of s (fun b m z=>out b m (by simp[z])) nt
   hd:=s _ _ B.hd fun m=>out _ m (by simp)
   ds:=K3.but s nt B.ds }⟩
noncomputable def z7E:Sp:=fun vs H Q _=>∃k:Int,vs=[.int k]/\1≤k/\k≤10/\Q .non H
theorem y00(M:Bl mg)(F:Fun K "refuse_bad_readers" "refuse_bad_readers" z2j f fd):B4 P w K mg base CX0 1 f fd z2l z7E:=by
 have nd:=z36.nd
 refine F.ok z36 (fun vs H Q E h=>?_) (fun cdv A outer s H vs Q E hr h=>?_)
 ·obtain⟨r,rfl,_⟩:=h
  rfl
 ·obtain⟨r,rfl,r0,r1,k⟩:=h
  refine⟨_,(z05 (z0C (PW.pt (z38 (z0c z8l (pv 0) z06 (z0m _)) (z24 (z0c z2o (pv 0) (z3b rfl M.MOST_READERS) (z0m _))))) (z05 z1S) z0k)),?_⟩
  refine(rdI rfl (ex2 _ _ ⟨rfl,rfl,(rdI rfl (B9 (fun q=>absurd (z0K q) (by lia)) fun _=>?_))⟩))
  exact(rdI rfl (ex2 _ _ ⟨rfl,rfl,(rdI rfl (B9 (fun q=>absurd (z0K q) (by lia)) fun _=>k))⟩))
noncomputable def z5V(Bk:BkP):Sp:=fun vs H Q _=>∃(p:Addr) (fp:List Addr) (zs:List Str) (r k:Int) (rows:List Row) (log:List C0) (rd:Int),vs=[.ref p,.int rd]/\Bk H p fp zs r k rows log/\1≤rd/\rd≤k/\Q .non H
theorem y0S{B1 A6:Addr}(M:Bl mg)(T:L9 K mg B1)(F:Fun K "refuse_unknown_reader" "Book.refuse_unknown_reader" z1b f fd):B4 P w K mg base CX0 1 f fd z0Y (z5V (BkD K B1 A6)):=by
 have nd:=z1M.nd
 refine F.ok z1M (fun vs H Q E h=>?_) (fun cdv A outer s H vs Q E hr h=>?_)
 ·obtain⟨p,fp,zs,r,k,rows,log,rd,rfl,_⟩:=h
  rfl
 obtain⟨p,fp,zs,r,k,rows,log,rd,rfl,⟨dx,po,pd,fs,fo,us,rfl,B⟩,r1,r2,q⟩:=h
 refine⟨_,(z05 (z0C (PW.pt (z38 (z0c z8l (pv 1) z06 (z0m _)) (z24 (z0c z2o (pv 1) (z0M (pv 0) rfl) (z0m _))))) (z05 z1S) z0k)),?_⟩
 refine(rdI rfl (ex2 _ _ ⟨rfl,rfl,(rdI rfl (B9 (fun q=>absurd (z0K q) (by lia)) fun _=>?_))⟩))
 exact(rdI rfl (rdI rfl (ex5 p B1 dx fs _ ⟨rfl,B.hp,T.cl,T.n_readers,B.lr,(ex2 _ _ ⟨rfl,rfl,(rdI rfl (B9 (fun q=>absurd (z0K q) (by lia)) fun _=>q))⟩)⟩)))
noncomputable def z8k(Bk:BkP):Sp:=fun vs H Q _=>∃(p:Addr) (fp:List Addr) (zs:List Str) (r k:Int) (rows:List Row) (log:List C0),vs=[.ref p]/\Bk H p fp zs r k rows log/\log.length<400/\Q .non H
theorem y2V{B1 A6:Addr}(M:Bl mg)(T:L9 K mg B1)(F:Fun K "refuse_further_deed" "Book.refuse_further_deed" z1r f fd):B4 P w K mg base CX0 1 f fd z13 (z8k (BkD K B1 A6)):=by
 have nd:=z27.nd
 refine F.ok z27 (fun vs H Q E h=>?_) (fun cdv A outer s H vs Q E hr h=>?_)
 ·obtain⟨p,fp,zs,r,k,rows,log,rfl,_⟩:=h
  rfl
 obtain⟨p,fp,zs,r,k,rows,log,rfl,⟨dx,po,pd,fs,fo,us,rfl,B⟩,l4,q⟩:=h
 refine⟨_,(z05 (z0C (z0c y6q (z0b z09 rfl M.len bN (z00 (z0M (pv 0) rfl) z02)) (z3b rfl M.MOST_DEEDS) (z0m _)) (z05 z1S) z0k)),?_⟩
 have lu:=z1q B.ds
 exact(rdI rfl (ex5 p B1 dx fs _ ⟨rfl,B.hp,T.cl,T.n_done,B.ld,(ex2 pd us ⟨rfl,.inl (SqL.of B.hd),(ex2 _ _ ⟨rfl,rfl,(rdI rfl (B9 (fun q=>absurd (z0K q) (by lia)) fun _=>q))⟩)⟩)⟩))
theorem y3x{B1 A6:Addr}(M:Bl mg)(T:L9 K mg B1)(F:Fun K "deeds" "Book.deeds" z5K f fd):B4 P w K mg base CX0 1 f fd z5E (y0J (BkD K B1 A6)):=by
 have nd:=z7j.nd
 refine F.ok z7j (fun vs H Q E h=>?_) (fun cdv A outer s H vs Q E hr h=>?_)
 ·obtain⟨p,fp,zs,r,k,rows,log,rfl,_⟩:=h
  rfl
 obtain⟨p,fp,zs,r,k,rows,log,rfl,⟨dx,po,pd,fs,fo,us,rfl,B⟩,q⟩:=h
 refine⟨_,(z05 (z0i (z0b z09 rfl M.len bN (z00 (z0M (pv 0) rfl) z02)))),?_⟩
 have lu:=z1q B.ds
 refine(rdI rfl (ex5 p B1 dx fs _ ⟨rfl,B.hp,T.cl,T.n_done,B.ld,(ex2 pd us ⟨rfl,.inl (SqL.of B.hd),?_⟩)⟩))
 rw[lu]
 exact q
theorem y51{B1 A6:Addr}(M:Bl mg)(T:L9 K mg B1)(F:Fun K "__init__" "Book.__init__" z3N f fd)(U0:Mkr P w K mg base 3 A6 "Office" z33 (y26 K A6 (OfD K A6)))
  (F3:Cal P w K mg base 1 "refuse_bad_readers" z2l z7E):B4 P w K mg base CX0 6 f fd z3K (y2s K B1 (BkD K B1 A6)):=by
 have nd:=z4V.nd
 refine F.ok z4V (fun vs H Q E h=>?_) (fun cdv A outer s H vs Q E hr h=>?_)
 ·obtain⟨x,dx,pn,zs,r,k,rfl,_⟩:=h
  rfl
 obtain⟨x,dx,pn,zs,r,k,rfl,hx,ne,hdx,hn,g,r0,r1,k1,k10,q⟩:=h
 refine⟨_,(z04 (z6b (pv 0) (y5h U0 (rm hr) rfl (z00 (pv 1) (z00 (pv 2) z02))) rfl) (z04 (z0F (z0g F3 (rm hr) rfl (z00 (pv 3) z02))) (z04 (z6b (pv 0) (pv 3) rfl) (z05 (z6b (pv 0) (z1m z02) rfl))))),?_⟩
 refine(rdI rfl (rdI rfl (fun po dxo nx ndx neo=>?_)))
 have m1:=z9d (C:=A6) (B0.refl H) nx ndx
 refine(ex5 po dxo pn zs r ⟨rfl,z03,neo,by rw[z0l neo,z03],HdN.keep m1 hn,g,r0,r1,fun fo H1 ff sb of=>⟨rfl,?_⟩⟩)
 have s1:B0 H H1:=z84 sb m1 nx
 have f1:∀b∈fo,H b=none:=fun b hb=>z6X m1 nx ndx (ff b hb)
 refine(rdI rfl (ex4 x B1 dx ([]) ⟨rfl,s1 _ _ hx,T.cl,T.n_office,by decide,?_⟩))
 have z1:=z20 "office" (.ref po) []
 have z2:=z20 "readers" (.int k) (K7 "office" (.ref po) [])
 have z0:([]:List (Str×V)).length=0:=rfl
 refine(rdI rfl ⟨k,rfl,k1,k10,?_⟩)
 refine(rdI rfl (rdI rfl (ex4 x B1 dx _ ⟨rfl,z03,T.cl,T.n_readers,(by lia),?_⟩)))
 rw[z8V]
 refine⟨(by show 0≤sizeLine;decide),fun pd hd=>?_⟩
 have nxp:x≠pd:=z0q z03 hd
 have dfr:H1 pd=none:=by rw[z0l (dG nxp)] at hd;exact hd
 have ndd:dx≠pd:=z0q (s1 _ _ hdx) dfr
 have out:∀{b:Addr}{o:HO},H b=some o->b∉fo:=fun e m=>by rw[f1 _ m] at e;cases e
 refine(rdI rfl (ex4 x B1 dx _ ⟨rfl,(by rw[z0l nxp,z03]),T.cl,T.n_done,(by lia),?_⟩))
 have sx:z0B [x] H1 (upd (upd (upd H1 x (.ins B1 dx (K7 "readers" (.int k) (K7 "office" (.ref po) [])))) pd (.lst [])) x (.ins B1 dx (K7 "done" (.ref pd) (K7 "readers" (.int k) (K7 "office" (.ref po) []))))):=fun b o e nb=>by
  rw[bC] at nb
  rw[z0l nb,z0l (z0q e dfr),z0l nb]
  exact e
 refine q (x::dx::pd::fo) _ (fun b hb=>?_) (fun b o e nb=>sx b o (s1 _ _ e) nb) (ex6 dx po pd _ fo ([]) ⟨rfl,⟨z03,?_,?_,?_,.nil,out hx,out hdx,?_,?_,?_,?_,?_,by decide,fun _ q=>(nomatch q),k1,k10⟩⟩)
 ·rcases bF.mp hb with rfl|hb
  ·exact .inl rfl
  rcases bF.mp hb with rfl|hb
  ·exact .inr (.inl rfl)
  rcases bF.mp hb with rfl|hb
  ·exact .inr (.inr (s1.free dfr))
  ·exact .inr (.inr (f1 b hb))
 ·exact sx _ _ (s1 _ _ hdx) (by rw[bC];exact ne)
 ·refine R1.keep of sx (fun b m=>?_) fun b m xs e=>?_
  ·rw[bC.mp m]
   exact out hx
  ·rw[bC.mp m,s1 _ _ hx] at e
   cases e
 ·rw[z0l (dG nxp),z03]
 ·intro m
  obtain⟨o,e,_⟩:=R1.own of pd m
  rw[dfr] at e
  cases e
 ·rw[z0u,if_neg (by decide +kernel),z0u,if_neg (by decide +kernel),z0u,if_pos rfl]
 ·rw[z0u,if_neg (by decide +kernel),z0u,if_pos rfl]
 ·rw[z0u,if_pos rfl]
 ·intro m hm
  simp only[bF,dD,or_false] at hm
  rcases hm with rfl|rfl|rfl|rfl|rfl|rfl|rfl|rfl|rfl<;>rw[z0u,if_neg (by decide +kernel),z0u,if_neg (by decide +kernel),z0u,if_neg (by decide +kernel)]<;>rfl
theorem y6Z{K:PySem.W.Frag}{CB CO:Addr}{H H1:Hp}{p dx po pd t:Addr}{fs:List (Str×V)}{fo fo':List Addr}{us:List V}{zs:List Str}{r k:Int}{rows W8:List Row}{log:List C0}{d:C0}(B:BkIn K CB CO H p dx po pd fs fo us zs r k rows log)
  (sb:z0B fo H H1) (of:OfD K CO H1 po fo' zs r W8) (ff:∀b∈fo',b∈fo\/H b=none) (ht:H1 t=some (.tup (z2t d))) (hl:rows.length≤W8.length) (hd1:1≤d.2/\d.2≤W8.length) (l4:log.length<400) :
  z0B (p::dx::pd::fo) H (upd H1 pd (.lst (us++[.ref t])))/\BkD K CB CO (upd H1 pd (.lst (us++[.ref t]))) p (p::dx::pd::fo') zs r k W8 (log++[d]):=by
 have ntf:z5w H fo:=R1.Q4 B.of
 have hd':=sb _ _ B.hd B.ndn
 have out:∀{b:Addr}{o:HO},H b=some o->b∉fo->b∉fo':=fun e n m=>(ff _ m).elim n fun z=>by rw[z] at e;cases e
 have s2:z0B [pd] H1 (upd H1 pd (.lst (us++[.ref t]))):=fun b o e nb=>by
  rw[bC] at nb
  rw[z0l nb]
  exact e
 have nt2:z5w H1 [pd]:=fun b m xs e=>by
  rw[bC.mp m,hd'] at e
  cases e
 have npd:p≠pd:=z4x B.hp B.hd (fun z=>by cases z)
 have ndd:dx≠pd:=z4x B.hdx B.hd (fun z=>by cases z)
 refine⟨fun b o e nb=>?_,dx,po,pd,fs,fo',us++[.ref t],rfl,{ B with
  hp:=by rw[z0l npd];exact sb _ _ B.hp B.npo
  hdx:=by rw[z0l ndd];exact sb _ _ B.hdx B.ndo
  of:=R1.keep of s2 (fun b m=>by rw[bC.mp m];exact out B.hd B.ndn) nt2
  hd:=z03
  ds:=?_
  npo:=out B.hp B.npo
  ndo:=out B.hdx B.ndo
  ndn:=out B.hd B.ndn
  l4:=by rw[bL];exact l4
  in1:=fun x hx=>?_ }⟩
 ·rw[bF,bF,bF,not_or,not_or,not_or] at nb
  rw[z0l nb.2.2.1]
  exact sb _ _ e nb.2.2.2
 ·exact hU (K3.but s2 nt2 (K3.but sb ntf B.ds)) ⟨t,rfl,s2 _ _ ht fun m=>nt2 t m _ ht⟩
 ·rcases cH.mp hx with hx|hx
  ·have:=B.in1 x hx
   lia
  ·rw[bC.mp hx]
   exact hd1
theorem y2Y{B1 A6:Addr}(M:Bl mg)(T:L9 K mg B1)(F:Fun K "write" "Book.write" z5T f fd)(C1:D9 P w K mg base 3 A6 "refuse_writing" z1f (z8Y K (OfD K A6)))
  (M8:D9 P w K mg base 4 A6 "write" z4f (y0V K (OfD K A6))) (B8:D9 P w K mg base 1 B1 "refuse_further_deed" z13 (z8k (BkD K B1 A6))) :
  B4 P w K mg base CX0 5 f fd z5R (y1b K (BkD K B1 A6)):=by
 have nd:=z7m.nd
 refine F.ok z7m (fun vs H Q E h=>?_) (fun cdv A outer s H vs Q E hr h=>?_)
 ·obtain⟨p,v,fp,zs,r,k,rows,log,pr,rfl,_⟩:=h
  rfl
 obtain⟨p,v,fp,zs,r,k,rows,log,pr,rfl,bk,⟨a,vs,rfl,ha,na,hpr⟩,gr,l12,l60,l4,q⟩:=h
 refine⟨_,(z04 (z0F (z1J C1 (rm hr) (z0M (pv 0) rfl) (z00 (pv 1) z02))) (z04 (z0F (z1C B8 (rm hr) (pv 0))) (z04 (z0o (i:=2) nd rfl (Or.inl rfl) (z1J M8 (rm hr) (z0M (pv 0) rfl) (z00 (pv 1) z02))) (z04 (z0F (z2Z bV bU bW z0L (z0M (pv 0) rfl) (z00 (z0U (z00 (z22 rfl M.WRITE) (z00 (pv 2) z02))) z02))) (z05 (z0i (pv 2))))))),?_⟩
 obtain⟨dx,po,pd,fs,fo,us,rfl,B⟩:=id bk
 have no:∀{b:Addr},b∉p::dx::pd::fo->b∉fo:=fun n m=>n (by simp[m])
 have hand:Paired (y0k K H fo) vs pr:=L2.Paired.T8 hpr fun u x ⟨b,e,q,n⟩=>⟨b,e,q,no n⟩
 obtain⟨dxo,pno,plo,fso,xso,efo,h1,h2,h3,h4,l1,l2,l3,lmo,_⟩:=id B.of
 refine(rdI rfl (ex5 p B1 dx fs _ ⟨rfl,B.hp,T.cl,T.n_office,B.lo,(ex3 po dxo fso ⟨rfl,h1,lmo _ (by simp),(rdI rfl (ex8 po a fo zs r rows vs pr ⟨rfl,B.of,ha,z2Y.of hand,gr,l12,l60,fun H1 s1=>?_⟩))⟩)⟩))
 refine(rdI rfl (ex3 p dx fs ⟨rfl,s1 _ _ B.hp,B.lm _ (by simp),(ex7 p _ zs r k rows log ⟨rfl,S7.same bk s1,l4,?_⟩)⟩))
 have ha1:y4A K H1 fo (.ref a) pr:=⟨a,vs,rfl,SqP.keep s1 ha,no na,L2.Paired.T8 hand fun u x ⟨b,e,q,n⟩=>⟨b,e,q.imp (fun z=>s1.seq z) fun z=>z6d s1 z,n⟩⟩
 refine(rdI rfl (ex5 p B1 dx fs _ ⟨rfl,s1 _ _ B.hp,T.cl,T.n_office,B.lo,(ex3 po dxo fso ⟨rfl,s1 _ _ h1,lmo _ (by simp),(rdI rfl (ex7 po (.ref a) fo zs r rows pr ⟨rfl,R1.same B.of s1,ha1,gr,l12,l60,fun fo' H2 ff sb of2=>?_⟩))⟩)⟩))
 have sb2:z0B fo H H2:=fun b o e n=>sb _ _ (s1 _ _ e) n
 have lu:=z1q B.ds
 refine(rdI rfl (ex5 p B1 dx fs _ ⟨rfl,sb2 _ _ B.hp B.npo,T.cl,T.n_done,B.ld,.inl ⟨rfl,_,SqL.of (sb2 _ _ B.hd B.ndn)⟩,?_⟩))
 refine(rdI rfl ⟨(by show 2≤sizeLine;decide),fun t ht=>(ex3 pd us _ ⟨rfl,rfl,z01 ht _ _ _ (sb2 _ _ B.hd B.ndn),z0f (by lia),?_⟩)⟩)
 have s3:=z01 ht (.tup [V.str "write",V.int ((rows.length:Int)+1)])
 have et:upd H2 t (.tup [V.str "write",V.int ((rows.length:Int)+1)]) t=some (.tup (z2t (none,(rows.length:Int)+1))):=z03
 have sb3:z0B fo H (upd H2 t (.tup [V.str "write",V.int ((rows.length:Int)+1)])):=fun b o e n=>s3 _ _ (sb2 _ _ e n)
 have of3:=R1.same of2 s3
 obtain⟨g1,g2⟩:=y6Z B sb3 of3 (fun b m=>(ff b m).imp id fun z=>s1.free z) et (by rw[bL];lia) ⟨by show(1:Int)≤rows.length+1;lia,by show((rows.length:Int)+1)≤_;rw[bL];exact eX _⟩ l4
 refine(rdI rfl (q (p::dx::pd::fo') _ (fun b hb=>?_) g1 g2))
 rcases bF.mp hb with rfl|hb
 ·exact .inl (by simp)
 rcases bF.mp hb with rfl|hb
 ·exact .inl (by simp)
 rcases bF.mp hb with rfl|hb
 ·exact .inl (by simp)
 exact(ff b hb).imp (fun z=>by simp[z]) fun z=>s1.free z
theorem y4L(d:C0)(rd n:Int):z2p (z2t d) (z2t (some rd,n))=decide (d=(some rd,n)):=by
 obtain⟨a,m⟩:=d
 cases a with
 | none=>
  rw[decide_eq_false (fun e=>by cases e)]
  rfl
 | some r=>
  show(eqV (.str "deliver") (.str "deliver") && (eqV (.int r) (.int rd) && (eqV (.int m) (.int n) && true)))=_
  rw[y0s rfl,gN,Bool.and_true,dA,bZ,decide_eq_true_eq]
  show(r == rd)=true/\(m == n)=true↔_
  rw[beq_iff_eq,beq_iff_eq]
  exact⟨fun h=>by rw[h.1,h.2],fun h=>by cases h;exact⟨rfl,rfl⟩⟩
theorem y6i(log:List C0)(rd n:Int):(!(log.map z2t).any fun ys=>z2p ys (z2t (some rd,n)))=decide (((some rd,n):C0)∉log):=by
 rw[j5,dA,kG,decide_eq_true_eq,kE]
 refine⟨fun h m=>h _ m ?_,fun h d hd e=>h ?_⟩
 ·show z2p _ _=true
  rw[y4L]
  exact decide_eq_true rfl
 ·have e':z2p (z2t d) (z2t (some rd,n))=true:=e
  rw[y4L] at e'
  rw[<- of_decide_eq_true e']
  exact hd
theorem y0K(d:C0):(z2t d).all z2k=true:=by
 obtain⟨a,m⟩:=d
 cases a<;>rfl
theorem y13{B1 A6:Addr}(M:Bl mg)(T:L9 K mg B1)(F:Fun K "deliver" "Book.deliver" z4d f fd)(C6:D9 P w K mg base 1 A6 "issue" z2u (z6m (OfD K A6)))
  (B5:D9 P w K mg base 1 B1 "refuse_unknown_reader" z0Y (z5V (BkD K B1 A6))) (B8:D9 P w K mg base 1 B1 "refuse_further_deed" z13 (z8k (BkD K B1 A6))) :
  B4 P w K mg base CX0 5 f fd z4l (z8O (BkD K B1 A6)):=by
 have nd:=z5o.nd
 refine F.ok z5o (fun vs H Q E h=>?_) (fun cdv A outer s H vs Q E hr h=>?_)
 ·obtain⟨p,fp,zs,r,k,rows,log,rd,n,rfl,_⟩:=h
  rfl
 obtain⟨p,fp,zs,r,k,rows,log,rd,n,rfl,bk,r1,r2,n1,n2,l4,q⟩:=h
 have hu:=y0M hr
 refine⟨_,(z04 (z0F (z1J C6 (rm hr) (z0M (pv 0) rfl) (z00 (pv 2) z02))) (z04 (z0F (z1J B5 (rm hr) (pv 0) (z00 (pv 1) z02))) (z04 (z0F (z1C B8 (rm hr) (pv 0))) (z04 (z0o (i:=3) nd rfl (Or.inl rfl) (z0U (z00 (z22 rfl M.DELIVER) (z00 (pv 1) (z00 (pv 2) z02))))) (z04 (z0o (i:=4) nd rfl (Or.inl rfl) (z8T (y4X hu) (pv 3) (z0M (pv 0) rfl) (by with_unfolding_all rfl))) (z04 (z0F (z2Z bV bU bW z0L (z0M (pv 0) rfl) (z00 (pv 3) z02))) (z05 (z0i (pv 4))))))))),?_⟩
 obtain⟨dx,po,pd,fs,fo,us,rfl,B⟩:=id bk
 obtain⟨dxo,pno,plo,fso,xso,efo,h1,h2,h3,h4,l1,l2,l3,lmo,_⟩:=id B.of
 refine(rdI rfl (ex5 p B1 dx fs _ ⟨rfl,B.hp,T.cl,T.n_office,B.lo,(ex3 po dxo fso ⟨rfl,h1,lmo _ (by simp),(rdI rfl (ex6 po fo zs r rows n ⟨rfl,B.of,n1,n2,fun v H1 s1 _=>?_⟩))⟩)⟩))
 have bk1:=S7.same bk s1
 refine(rdI rfl (ex3 p dx fs ⟨rfl,s1 _ _ B.hp,B.lm _ (by simp),(rdI rfl (ex8 p _ zs r k rows log rd ⟨rfl,bk1,r1,r2,?_⟩))⟩))
 refine(rdI rfl (ex3 p dx fs ⟨rfl,s1 _ _ B.hp,B.lm _ (by simp),(ex7 p _ zs r k rows log ⟨rfl,bk1,l4,?_⟩)⟩))
 refine(rdI rfl (rdI rfl ⟨(by show 3≤sizeLine;decide),fun t ht=>?_⟩))
 have s2:=s1.trans (z01 ht (.tup [V.str "deliver",V.int rd,V.int n]))
 have et:upd H1 t (.tup [V.str "deliver",V.int rd,V.int n]) t=some (.tup (z2t (some rd,n))):=z03
 generalize upd H1 t (.tup [V.str "deliver",V.int rd,V.int n])=H2 at s2 et
 have lu:=z1q B.ds
 have prs:Paired (fun u ys=>∃b,u=.ref b/\SqT K H2 b ys/\ys.all z2k=true) us (log.map z2t):=by
  have go:∀{us:List V}{log:List C0},Paired (z1y H) us log->Paired (fun u ys=>∃b,u=.ref b/\SqT K H2 b ys/\ys.all z2k=true) us (log.map z2t):=by
   intro us log h
   induction h with
   | nil=>exact .nil
   | cons h t ih=>
    obtain⟨b,e,q⟩:=h
    exact .cons ⟨b,e,SqT.of (s2 _ _ q),y0K _⟩ ih
  exact go B.ds
 refine(rdI rfl (rdI rfl (ex5 p B1 dx fs _ ⟨rfl,s2 _ _ B.hp,T.cl,T.n_done,B.ld,(ex5 t pd _ us _ ⟨rfl,rfl,SqT.of et,y0K _,SqL.of (s2 _ _ B.hd),prs,?_⟩)⟩)))
 rw[y6i]
 refine(rdI rfl (ex5 p B1 dx fs _ ⟨rfl,s2 _ _ B.hp,T.cl,T.n_done,B.ld,.inl ⟨rfl,_,SqL.of (s2 _ _ B.hd)⟩,(rdI rfl (ex3 pd us _ ⟨rfl,rfl,s2 _ _ B.hd,z0f (by lia),?_⟩))⟩))
 obtain⟨g1,g2⟩:=y6Z B (.of s2) (R1.same B.of s2) (fun b m=>.inl m) et (bJ _) ⟨n1,n2⟩ l4
 exact(rdI rfl (q _ g1 g2))
theorem y5j{xs:List V}{k:Nat}(h:k≤xs.length):K6 xs none (some (k:Int))=xs.take k:=by
 unfold K6
 have e1:HT.sIx xs.length 0 none=0:=rfl
 have e2:HT.sIx xs.length xs.length (some (k:Int))=k:=by
  rw[HT.z6K,hW h]
 rw[e1,e2,fH,gY]
theorem y0r{H:Hp}:∀{us:List V}{log:List C0},Paired (z1y H) us log->∀(c i:Nat) (u:V),(us.take c)[i]? = some u->∃d,(log.take c)[i]? = some d/\z1y H u d:=by
 intro us log h
 induction h with
 | nil=>intro c i u e;rw[List.take_nil] at e;simp at e
 | cons h t ih=>
  intro c i u e
  cases c with
  | zero=>simp at e
  | succ c=>
   rw[List.take_succ_cons] at e ⊢
   cases i with
   | zero=>
    simp at e
    subst e
    exact(rdI rfl h)
   | succ i=>
    obtain⟨d,q1,q2⟩:=ih c i u (by simpa using e)
    exact⟨d,by simpa using q1,q2⟩
theorem y5J(d:C0)(rd:Int):z2p ((z2t d).take 2) [.str "deliver",.int rd]=decide (d.1=some rd):=by
 obtain⟨a,m⟩:=d
 cases a with
 | none=>
  rw[decide_eq_false (fun e=>by cases e)]
  rfl
 | some r=>
  show(eqV (.str "deliver") (.str "deliver") && (eqV (.int r) (.int rd) && true))=_
  rw[y0s rfl,gN,Bool.and_true,dA,decide_eq_true_eq]
  show(r == rd)=true↔_
  rw[beq_iff_eq]
  exact⟨fun h=>by rw[h],fun h=>Option.some.inj h⟩
theorem z9R{B1 A6 A0 T0:Addr}{items:Array Value}(M:Bl mg)(T:L9 K mg B1)(TO:L4 K mg A6)(F:S9 K "shelf" "Book.shelf" z5I f fd T0 items)(C6:D9 P w K mg base 1 A6 "issue" z2u (z6m (OfD K A6)))
  (B5:D9 P w K mg base 1 B1 "refuse_unknown_reader" z0Y (z5V (BkD K B1 A6))) (U1:Mkr P w K mg base 3 A0 "Shelf" z3u (y2O K A0 (ShD K A0)))
  (N1:D9 P w K mg base 1 A0 "put" z6V (y8C (ShD K A0))):B4 P w K mg base CX0 6 f fd z2G (z50 (BkD K B1 A6) (ShD K A0)):=by
 have nd:=z7n.nd
 refine F.ok z7n (fun vs H Q E h=>?_) (fun cdv A outer s H vs Q E hr h=>?_)
 ·obtain⟨p,fp,zs,r,k,rows,log,rd,o,rfl,_⟩:=h
  rfl
 obtain⟨p,fp,zs,r,k,rows,log,rd,o,rfl,bk,r1,r2,od,q⟩:=h
 refine⟨_,(z04 (z0o (i:=3) nd rfl (Or.inl rfl) (z5e (z7J (z8p (pv 2))) (z0b z09 rfl M.len bN (z00 (z0M (pv 0) rfl) z02)) (pv 2))) (z04 (z0C (PW.pt (z38 (z0c z8l (pv 3) z06 (z0m _)) (z24 (z0c z2o (pv 3) (z0b z09 rfl M.len bN (z00 (z0M (pv 0) rfl) z02)) (z0m _))))) (z05 z1S) z0k) (z04 (z0F (z1J B5 (rm hr) (pv 0) (z00 (pv 1) z02))) (z04 (z0o (i:=4) nd rfl (Or.inl rfl) (y5h U1 (rm hr) rfl (z00 (z0M (z0M (pv 0) rfl) rfl) (z00 (z0M (z0M (pv 0) rfl) rfl) z02)))) (z04 (z0W bT rfl (z1k (z1O z9a (z0M (pv 0) rfl) z2r (z2s (pv 3)))) (z0j (i:=5) nd rfl (Or.inl rfl)) (z05 (z0C (z0c (y5n hr.N9) (z1O y4j (pv 5) z2r (z2s z06)) (z0U (z00 (z22 rfl M.DELIVER) (z00 (pv 1) z02))) (z0m _)) (z05 (z0F (z1J N1 (rm hr) (pv 4) (z00 (z1J C6 (rm hr) (z0M (pv 0) rfl) (z00 (z0A z0w (pv 5) z06 (fun _ _=>rfl)) z02)) z02)))) z0k))) (z05 (z0i (pv 4)))))))),?_⟩
 obtain⟨dx,po,pd,fs,fo,us,rfl,B⟩:=id bk
 obtain⟨dxo,pno,plo,fso,xso,efo,h1,h2,h3,h4,l1,l2,l3,lmo,_,_,_,g,r0,r10⟩:=id B.of
 have lu:=z1q B.ds
 have cle:o.getD log.length≤log.length:=by
  cases o with
  | none=>exact bJ _
  | some d=>exact od d rfl
 have beh:∀(Qk:VK),Qk (.int (o.getD log.length:Nat)) H->tIf (tB (w0m (U4 2))) (tCB (fun xs H_1 Q=>∃p ys,xs=[V.ref p]/\(SqL K H_1 p ys\/SqT K H_1 p ys)/\Q (V.int ys.length) H_1) (y5W (Z7 K (U4 0) "done") X3)) (U4 2) (z6g ["self","reader","deed","behind","told","past"] [.ref p,.int rd,w0c o]) H Qk:=fun Qk hq=>by
  cases o with
  | none=>
   refine(rdI rfl (rdI rfl (E8 (rdI rfl (ex5 p B1 dx fs _ ⟨rfl,B.hp,T.cl,T.n_done,B.ld,(ex2 pd us ⟨rfl,.inl (SqL.of B.hd),?_⟩)⟩)))))
   rw[lu]
   exact hq
  | some d=>exact⟨_,rfl,_,rfl,B7 ⟨_,rfl,hq⟩⟩
 refine beh _ ?_
 generalize o.getD log.length=c at cle q
 clear beh
 refine(rdI rfl (ex2 _ _ ⟨rfl,rfl,(rdI rfl (B9 (fun q=>absurd (z0K q) (by lia)) fun _=>(rdI rfl (rdI rfl (ex5 p B1 dx fs _ ⟨rfl,B.hp,T.cl,T.n_done,B.ld,(ex2 pd us ⟨rfl,.inl (SqL.of B.hd),(ex2 _ _ ⟨rfl,rfl,(rdI rfl (B9 (fun q=>absurd (z0K q) (by lia)) fun _=>?_))⟩)⟩)⟩)))))⟩))
 refine(rdI rfl (ex3 p dx fs ⟨rfl,B.hp,B.lm _ (by simp),(rdI rfl (ex8 p _ zs r k rows log rd ⟨rfl,bk,r1,r2,?_⟩))⟩))
 refine(rdI rfl (ex5 p B1 dx fs _ ⟨rfl,B.hp,T.cl,T.n_office,B.lo,(ex5 po A6 dxo fso _ ⟨rfl,h1,TO.cl,TO.n_names,l1,(rdI rfl (ex5 p B1 dx fs _ ⟨rfl,B.hp,T.cl,T.n_office,B.lo,(ex5 po A6 dxo fso _ ⟨rfl,h1,TO.cl,TO.n_reach,l2,fun x dxs nx ndx ne=>?_⟩)⟩))⟩)⟩))
 have m1:=z9d (C:=A0) (B0.refl H) nx ndx
 refine(ex5 x dxs pno zs r ⟨rfl,z03,ne,by rw[z0l ne,z03],.inr (m1 _ _ h3),g,r0,r10,fun fq H1 ff sb sh=>⟨rfl,?_⟩⟩)
 have s1:B0 H H1:=z84 sb m1 nx
 have f1:∀b∈fq,H b=none:=fun b hb=>z6X m1 nx ndx (ff b hb)
 have sh1:ShD K A0 H1 x fq zs r (fun n=>z10 rows n r) []:=sh _
 refine(rdI rfl (ex5 p B1 dx fs _ ⟨rfl,s1 _ _ B.hp,T.cl,T.n_done,B.ld,(rdI rfl (rdI rfl (ex2 pd _ ⟨rfl,SqL.of (s1 _ _ B.hd),fun lq hlq=>?_⟩)))⟩))
 rw[y5j (by lia)]
 have s2:=s1.trans (z01 hlq (.lst (us.take c)))
 have e2:upd H1 lq (.lst (us.take c)) lq=some (.lst (us.take c)):=z03
 have sh2:=F2.same sh1 (z01 hlq (.lst (us.take c)))
 have f2:lq∉fq:=fun m=>by
  obtain⟨o,e,_⟩:=F2.own sh1 lq m
  rw[hlq] at e
  cases e
 generalize upd H1 lq (.lst (us.take c))=H2 at s2 e2 sh2
 have nt2:z5w H2 fq:=F2.Q4 sh2
 have out:∀{b:Addr}{o:HO},H b=some o->b∉fq:=fun e m=>by rw[f1 _ m] at e;cases e
 have lt:(us.take c).length=c:=by rw[bI];lia
 refine⟨lq,rfl,⟨_,SqL.of e2⟩,z1R (K:=K) (a:=lq) (xs:=us.take c) (fun i σ H'=>∃(fq':List Addr) (o5:Option V),z0B fq H2 H'/\ShD K A0 H' x fq' zs r (fun n=>z10 rows n r) (D0 ((log.take c).take i) rd)/\(∀b∈fq',b∈fq\/H2 b=none)/\
   σ=[some (.ref p),some (.int rd),some (w0c o),some (.int c),some (.ref x),o5]) ⟨fq,none,.of (B0.refl _),sh2,fun b m=>.inl m,rfl⟩ (fun i σ H' _ ⟨_,_,bt,_⟩=>SqL.of (bt _ _ e2 f2)) ?_ ?_⟩
 ·rintro i u σ H' hi ⟨fq',o5,bt,shx,ffx,rfl⟩
  obtain⟨d,ed,b,rfl,hb⟩:=y0r B.ds c i u hi
  have sk:∀{b:Addr}{o:HO},H b=some o->H' b=some o:=fun e=>bt _ _ (s2 _ _ e) (out e)
  have hin:=B.in1 d (dZ (bS ed))
  have l2d:2≤(z2t d).length:=by
   obtain⟨a,m⟩:=d
   cases a
   ·show 2≤2;decide
   ·show 2≤3;decide
  have cut:∀(Qk:VK),(∀(t1:Addr) (G:Hp),B0 H' G->G t1=some (.tup ((z2t d).take 2))->Qk (.ref t1) G)->rSlA K (.ref b) none (some 2) H' Qk:=fun Qk hq=>by
   refine(ex2 b _ ⟨rfl,SqT.of (sk hb),fun hw=>hq b H' (B0.refl _) ?_,fun _ t1 ht1=>hq t1 _ (z01 ht1 _) ?_⟩)
   ·rw[sk hb,cP]
    have:=hw.2
    have e:HT.sIx (z2t d).length (z2t d).length (some (2:Int))=min 2 (z2t d).length:=HT.z6K _ _ 2
    lia
   ·rw[z03]
    exact congrArg (fun z=>some (HO.tup z)) (y5j (k:=2) l2d)
  refine(rdI rfl (rdI rfl (cut _ fun t1 G sG e1'=>(rdI rfl ⟨(by show 2≤sizeLine;decide),fun t2 ht2=>?_⟩))))
  have s3:=sG.trans (z01 ht2 (.tup [V.str "deliver",V.int rd]))
  have e3:upd G t2 (.tup [V.str "deliver",V.int rd]) t1=some (.tup ((z2t d).take 2)):=z01 ht2 _ _ _ e1'
  have e4:upd G t2 (.tup [V.str "deliver",V.int rd]) t2=some (.tup [V.str "deliver",V.int rd]):=z03
  generalize upd G t2 (.tup [V.str "deliver",V.int rd])=H3 at s3 e3 e4
  have fl:((z2t d).take 2).all z2k=true:=by
   obtain⟨a,m⟩:=d
   cases a<;>rfl
  refine(ex4 t1 t2 _ _ ⟨rfl,rfl,SqT.of e3,SqT.of e4,fl,rfl,(rdI rfl ?_)⟩)
  rw[y5J,z0n ed,y0P]
  have sh3:=F2.same shx s3
  refine B9 (fun cc=>?_) (fun cc=>?_)
  ·have c':=z0K cc
   rw[if_pos c']
   obtain⟨a,n⟩:=d
   have ea:a=some rd:=c'
   subst ea
   obtain⟨d1,g1,z1,w1⟩:=F2.ins sh3
   refine(rdI rfl (ex3 x d1 g1 ⟨rfl,z1,w1 _ (by simp),(rdI rfl (ex5 p B1 dx fs _ ⟨rfl,s3 _ _ (sk B.hp),T.cl,T.n_office,B.lo,(ex3 po dxo fso ⟨rfl,s3 _ _ (sk h1),lmo _ (by simp),(rdI rfl (ex4 b _ 2 _ ⟨rfl,rfl,SqT.of (s3 _ _ (sk hb)),rfl,(ex6 po fo zs r rows n ⟨rfl,?_,hin.1,hin.2,fun v H4 s4 tv=>?_⟩)⟩))⟩)⟩))⟩))
   ·exact R1.same (R1.keep (R1.same B.of s2) bt (fun b m z=>by
     obtain⟨o,e,_⟩:=R1.own B.of b z
     exact out e m) nt2) s3
   have n60:rows.length≤60:=by
    obtain⟨_,_,_,_,_,_,_,_,_,_,_,_,_,_,_,n60,_⟩:=B.of
    exact n60
   refine(ex9 x v fq' zs r _ _ n _ ⟨rfl,F2.same sh3 s4,tv,rfl,hin.1,by have:=hin.2;have:n≤rows.length:=this;lia,fun fq2 H5 ff5 sb5 sh5=>?_⟩)
   have g4:=s3.trans s4
   exact⟨fq2,_,(fun b o e nb=>sb5 b o (g4 _ _ (bt b o e nb)) fun m=>(ffx b m).elim nb fun z=>by rw[e] at z;cases z),sh5,y4T bt ffx g4 ff5,rfl⟩
  ·have c':=z3Z cc
   rw[if_neg c']
   exact⟨fq',_,fun b o e nb=>s3 _ _ (bt b o e nb),sh3,ffx,rfl⟩
 ·rintro σ H' ⟨fq',o5,bt,shx,ffx,rfl⟩
  rw[lt,List.take_take,Nat.min_self] at shx
  exact(rdI rfl (q x fq' H' (fun b m=>(ffx b m).elim (f1 b) fun z=>s2.free z) (fun b o e=>bt _ _ (s2 _ _ e) (out e)) shx))
noncomputable def HT(H:Hp)(u:V)(p:Str×Int):Prop:=∃b,u=.ref b/\H b=some (.tup [.str p.1,.int p.2])
theorem HT.keep{H H':Hp}(g:B0 H H'):∀{us:List V}{pr:Row},Paired (HT H) us pr->Paired (HT H') us pr
 | _,_,.nil=>.nil
 | _,_,.cons ⟨b,e,h⟩ t=>.cons ⟨b,e,g _ _ h⟩ (HT.keep g t)
theorem HT.hand{K:PySem.W.Frag}{H:Hp}{fp:List Addr}(no:z5w H fp):∀{us:List V}{pr:Row},Paired (HT H) us pr->Paired (y0k K H fp) us pr
 | _,_,.nil=>.nil
 | _,_,.cons ⟨b,e,h⟩ t=>.cons ⟨b,e,.inr (SqT.of h),fun m=>no b m _ h⟩ (HT.hand no t)
theorem z8P{ns ms:List Int}(h:∀x,x∈ns↔x∈ms)(C3:∀x∈ms,1≤x/\x≤60)(x:Int):x∈z08 ns↔x∈ms:=by
 rw[z0Q,h]
 exact⟨fun q=>q.2,fun q=>⟨by have:=C3 x q;lia,q⟩⟩
theorem y05{H:Hp}:∀{w:Row}{xs:List V},z0a H (w.map z9U) xs->Paired (HT H) xs w
 | [],xs,h=>by
  rw[z0G h]
  exact .nil
 | p::w,xs,h=>by
  obtain⟨x,r,rfl,t,h'⟩:=z0e h
  obtain⟨a,us,rfl,ea,_,tu⟩:=z0d (show B2 H (.tup [.str p.1,.int p.2]) x from t)
  obtain⟨y1,r1,rfl,t1,h3⟩:=z0e tu
  obtain⟨y2,r2,rfl,t2,h4⟩:=z0e h3
  have:=z0G h4
  subst this
  rw[z2S t1,z14 t2] at ea
  exact .cons ⟨a,rfl,ea⟩ (y05 h')
noncomputable def y6I(Sh:ShP):Sp:=fun vs H Q _=>∃(x:Addr) (fp:List Addr) (nm:List Str) (r:Int) (rows:List Row) (had:List Int),vs=[.ref x]/\Sh H x fp nm r (fun n=>z10 rows n r) had/\E2 nm/\Rws nm rows/\rows.length≤60/\(∀n∈had,1≤n/\n≤rows.length)/\0≤r/\r≤10/\
 ∀(v:V) (H':Hp),B0 H H'->B2 H' (z6u nm (z08 had) rows r) v->Q v H'
theorem y3y(nm:List Str)(ns:List Int)(rows:List Row)(r:Int):(z6u nm ns rows r).deep≤2:=z1T fun d hd=>by
 obtain⟨z,_,rfl⟩:=cS.mp hd
 unfold X4
 refine z1T fun d hd=>?_
 rcases bF.mp hd with rfl|hd
 ·exact z7R _ _
 rcases bF.mp hd with rfl|hd
 ·exact z7R _ _
 rcases bF.mp hd with rfl|hd
 ·exact z21 _ _
 rw[bC.mp hd]
 cases z0y (z08 ns) rows z with
 | none=>unfold z9f DV.deep;exact cW _
 | some p=>exact z21 _ _
noncomputable def z7Q(Sh:ShP):Sp:=fun vs H Q _=>∃(x:Addr) (fp:List Addr) (nm:List Str) (r:Int) (rows:List Row) (had:List Int),vs=[.ref x]/\Sh H x fp nm r (fun n=>z10 rows n r) had/\E2 nm/\Rws nm rows/\rows.length≤60/\(∀n∈had,1≤n/\n≤rows.length)/\0≤r/\r≤10/\
 ∀(v:V) (H':Hp),B0 H H'->B2 H' (.tup (z3v (z08 had) rows r)) v->Q v H'
noncomputable def y6Q(K:PySem.W.Frag):Sp:=fun vs H Q _=>∃(p:Addr) (ns:List Int),vs=[.ref p]/\SqI K H p ns/\(∀x∈ns,1≤x/\x≤60)/\
 ∀(l:Addr) (H':Hp),H l=none->B0 H H'->H' l=some (.tup ((z1g ns).map V.int))->Q (.ref l) H'
theorem y7T(M:Bl mg)(F:Fun K "lacking_numbers" "lacking_numbers" z31 f fd):B4 P w K mg base CX0 1 f fd z32 (y6Q K):=by
 have nd:=z3W.nd
 refine F.ok z3W (fun vs H Q E h=>?_) (fun cdv A outer s H vs Q E hr h=>?_)
 ·obtain⟨p,ns,rfl,_⟩:=h
  rfl
 obtain⟨p,ns,rfl,hS,C3,q⟩:=h
 refine⟨_,(z04 (z0o (i:=1) nd rfl (Or.inl rfl) (y4Z rfl rfl M.max (z00 (pv 0) z02) (y0p z06 y2z))) (z05 (z0i (z0t z0p rfl M.tuple bH (z00 (z1c ["number"] ["had"] [0] rfl (z0v rfl (by decide +kernel) rfl (by decide +kernel) rfl rfl) (z3i rfl M.range (z00 z06 (z00 (z0r z1o (pv 1) z06) z02))) (fun _ _ _ _ _=>(z0j (i:=0) (show((["number"]:List PySem.Str)++(["had"]:List PySem.Str)).Nodup from by decide +kernel) rfl (Or.inl rfl))) (z0x (by decide)) z0h (fun _ _ _ _ _=>(z2i (z0c (r:=rIn K true) z1z (pv 0) (pv 1) (by with_unfolding_all rfl)))) (fun _ _ _ _ _=>(pv 0))) z02))))),?_⟩
 refine(rdI rfl ⟨p,ns,.int 0,rfl,rfl,hS,fun hnil=>?_,fun m hm top=>?_⟩)
 ·subst hnil
  refine(rdI rfl (ex2 _ _ ⟨rfl,rfl,(ex2 _ _ ⟨rfl,⟨by decide,by decide,by decide,by decide⟩,?_⟩)⟩))
  refine y07 (lo:=1) (n:=0) (fun _=>true) (fun k=>.int k) (by decide) (fun k ys N k0 k1 hN=>by lia) ?_
  intro D hD
  refine(ex2 D _ ⟨rfl,.inl ⟨SqL.of z03,fun l hl=>?_⟩⟩)
  have h1:H l=none:=(z01 hD _).free hl
  refine q l _ h1 ((z01 hD _).trans (z01 hl _)) ?_
  rw[z03,y15]
  rfl
 ·have hm':=C3 m hm
  refine(rdI rfl (ex2 _ _ ⟨rfl,rfl,(ex2 _ _ ⟨rfl,⟨by decide,by decide,by lia,by lia⟩,?_⟩)⟩))
  refine y07 (lo:=1) (n:=(m+1-1).toNat) (fun k=>!decide (k∈ns)) (fun k=>.int k) (by lia) (fun k ys N k0 k1 hN=>?_) ?_
  ·refine(rdI rfl (rdI rfl (ex2 p _ ⟨rfl,hS,rfl,z2c ns,(rdI rfl ?_)⟩)))
   rw[if_pos rfl,z2P]
   refine B9 (fun c=>?_) (fun c=>?_)
   ·rw[if_pos c] at hN
    exact(rdI rfl hN)
   ·rw[if_neg c] at hN
    exact hN
  ·intro D hD
   refine(ex2 D _ ⟨rfl,.inl ⟨SqL.of z03,fun l hl=>?_⟩⟩)
   have h1:H l=none:=(z01 hD _).free hl
   refine q l _ h1 ((z01 hD _).trans (z01 hl _)) ?_
   rw[z03]
   have e:z2a (fun k=>!decide (k∈ns)) (fun k=>V.int k) (upI 1 (m+1-1).toNat)=(z1g ns).map V.int:=by
    unfold z2a
    rw[y3U hm C3 top]
   rw[e]
noncomputable def y2M(K:PySem.W.Frag):Sp:=fun vs H Q _=>∃(p:Addr) (ns:List Int) (n r:Int),vs=[.ref p,.int n,.int r]/\SqI K H p ns/\(∀x∈ns,1≤x/\x≤60)/\ns.length≤900/\
 ∀H',B0 H H'->Q (.int (z0J ns n r)) H'
theorem y4g(M:Bl mg)(F:Fun K "teller_of" "teller_of" z6H f fd):B4 P w K mg base CX0 1 f fd z7d (y2M K):=by
 have nd:=z88.nd
 refine F.ok z88 (fun vs H Q E h=>?_) (fun cdv A outer s H vs Q E hr h=>?_)
 ·obtain⟨p,ns,n,r,rfl,_⟩:=h
  rfl
 obtain⟨p,ns,n,r,rfl,hS,C3,hlen,q⟩:=h
 have fin:∀D,H D=none->(z2a (fun y=>decide (n<y) && decide (y-r≤n)) (fun y=>V.int y) ns=(ns.filter fun y=>decide (n<y) && decide (y-r≤n)).map V.int):=fun _ _=>rfl
 have w05:(ns.filter fun y=>decide (n<y) && decide (y-r≤n))=[]->z0J ns n r=0:=fun e=>z56 fun y hy h1 h2=>by
  have:y∈ns.filter fun y=>decide (n<y) && decide (y-r≤n):=cO.mpr ⟨hy,by rw[decide_eq_true h1,decide_eq_true h2];rfl⟩
  rw[e] at this
  cases this
 have w03:∀m,m∈(ns.filter fun y=>decide (n<y) && decide (y-r≤n))->(∀y∈(ns.filter fun y=>decide (n<y) && decide (y-r≤n)),m≤y)->z0J ns n r=m:=fun m hm hl=>by
  rw[cO,bZ,decide_eq_true_eq,decide_eq_true_eq] at hm
  exact y2D C3 hm.1 hm.2.1 hm.2.2 fun y hy h1 h2=>hl y (cO.mpr ⟨hy,by rw[decide_eq_true h1,decide_eq_true h2];rfl⟩)
 rcases hS with hS|hS
 ·refine⟨_,(z04 (z4g (i:=3) ["above"] ["number","reach"] [1,2] rfl nd rfl (Or.inl rfl) (z0v rfl (by decide +kernel) rfl (by decide +kernel) rfl rfl) (z1k (pv 0)) (fun _ _ _ _ _=>(z0j (i:=0) (show((["above"]:List PySem.Str)++(["number","reach"]:List PySem.Str)).Nodup from by decide +kernel) rfl (Or.inl rfl))) (z0x (by decide)) z0h (fun _ _ _ _ _=>(z2i (PW.pt (z37 (z0c z2o (pv 0) (pv 1) (z0m _)) (z2m (z0c y4s (z0r z25 (pv 0) (pv 2)) (pv 1) (z0m _))))))) (fun _ _ _ _ _=>(pv 0))) (z05 (z0i (y5o rfl rfl M.min (z00 (pv 3) z02) (y0p z06 y2z))))),?_⟩
  refine(rdI rfl ⟨p,rfl,⟨_,hS⟩,?_⟩)
  refine z68 (ns:=ns) (fun y=>decide (n<y) && decide (y-r≤n)) (fun y=>.int y) hS (by lia) (fun y ys N hy hN=>?_) (fun D hD=>?_)
  ·refine(rdI rfl (rdI rfl (ex2 _ _ ⟨rfl,rfl,(rdI rfl ?_)⟩)))
   refine B9 (fun c=>?_) (fun c=>?_)
   ·refine(rdI rfl (rdI rfl (ex2 _ _ ⟨rfl,rfl,(rdI rfl (ex2 _ _ ⟨rfl,rfl,(rdI rfl ?_)⟩))⟩)))
    rw[c,gN] at hN
    refine B9 (fun c2=>?_) (fun c2=>?_)
    ·rw[if_pos c2] at hN
     exact(rdI rfl hN)
    ·rw[if_neg c2] at hN
     exact hN
   ·rw[fA.mpr c,gX] at hN
    exact B7 hN
  ·refine(rdI rfl ⟨D,_,.int 0,rfl,rfl,.inl (SqL.of z03),fun e=>?_,fun m hm hl=>?_⟩)
   ·have:=q _ (z01 hD (.lst (z2a (fun y=>decide (n<y) && decide (y-r≤n)) (fun y=>V.int y) ns)))
    rw[w05 e] at this
    exact this
   ·have:=q _ (z01 hD (.lst (z2a (fun y=>decide (n<y) && decide (y-r≤n)) (fun y=>V.int y) ns)))
    rw[w03 m hm hl] at this
    exact this
 ·refine⟨_,(z04 (z4g (i:=3) ["above"] ["number","reach"] [1,2] rfl nd rfl (Or.inl rfl) (z0v rfl (by decide +kernel) rfl (by decide +kernel) rfl rfl) (z26 (pv 0)) (fun _ _ _ _ _=>(z0j (i:=0) (show((["above"]:List PySem.Str)++(["number","reach"]:List PySem.Str)).Nodup from by decide +kernel) rfl (Or.inl rfl))) (z0x (by decide)) z0h (fun _ _ _ _ _=>(z2i (PW.pt (z37 (z0c z2o (pv 0) (pv 1) (z0m _)) (z2m (z0c y4s (z0r z25 (pv 0) (pv 2)) (pv 1) (z0m _))))))) (fun _ _ _ _ _=>(pv 0))) (z05 (z0i (y5o rfl rfl M.min (z00 (pv 3) z02) (y0p z06 y2z))))),?_⟩
  refine(rdI rfl ⟨p,rfl,⟨_,hS⟩,?_⟩)
  refine z7a (ns:=ns) (fun y=>decide (n<y) && decide (y-r≤n)) (fun y=>.int y) hS (by lia) (fun y ys N hy hN=>?_) (fun D hD=>?_)
  ·refine(rdI rfl (rdI rfl (ex2 _ _ ⟨rfl,rfl,(rdI rfl ?_)⟩)))
   refine B9 (fun c=>?_) (fun c=>?_)
   ·refine(rdI rfl (rdI rfl (ex2 _ _ ⟨rfl,rfl,(rdI rfl (ex2 _ _ ⟨rfl,rfl,(rdI rfl ?_)⟩))⟩)))
    rw[c,gN] at hN
    refine B9 (fun c2=>?_) (fun c2=>?_)
    ·rw[if_pos c2] at hN
     exact(rdI rfl hN)
    ·rw[if_neg c2] at hN
     exact hN
   ·rw[fA.mpr c,gX] at hN
    exact B7 hN
  ·refine(rdI rfl ⟨D,_,.int 0,rfl,rfl,.inl (SqL.of z03),fun e=>?_,fun m hm hl=>?_⟩)
   ·have:=q _ (z01 hD (.lst (z2a (fun y=>decide (n<y) && decide (y-r≤n)) (fun y=>V.int y) ns)))
    rw[w05 e] at this
    exact this
   ·have:=q _ (z01 hD (.lst (z2a (fun y=>decide (n<y) && decide (y-r≤n)) (fun y=>V.int y) ns)))
    rw[w03 m hm hl] at this
    exact this
def Pr(H:Hp)(u:V)(p:Int×Int):Prop:=∃a,u=.ref a/\H a=some (.tup [.int p.1,.int p.2])
theorem Pr.keep{H H':Hp}(s:B0 H H'){u:V}{p:Int×Int}(h:Pr H u p):Pr H' u p:=let ⟨a,e,q⟩:=h;⟨a,e,s _ _ q⟩
abbrev Prs(H:Hp):List V->List (Int×Int)->Prop:=Paired (Pr H)
theorem Prs.keep{H H':Hp}(s:B0 H H'):∀{xs:List V}{ps:List (Int×Int)},Prs H xs ps->Prs H' xs ps
 | _,_,.nil=>.nil
 | _,_,.cons r t=>.cons (r.keep s) (Prs.keep s t)
theorem Prs.get{H:Hp}:∀{xs:List V}{ps:List (Int×Int)},Prs H xs ps->∀(i:Nat) (u:V),xs[i]? = some u->∃p,ps[i]? = some p/\Pr H u p
 | _,_,.nil,i,u,e=>by simp at e
 | _,_,.cons r t,0,u,e=>by
  simp at e
  subst e
  exact(rdI rfl r)
 | _,_,.cons r t,i+1,u,e=>by
  obtain⟨p,h1,h2⟩:=Prs.get t i u (by simpa using e)
  exact⟨p,by simpa using h1,h2⟩
theorem Prs.snoc{H:Hp}{xs:List V}{ps:List (Int×Int)}{u:V}{p:Int×Int}(h:Prs H xs ps)(q:Pr H u p):Prs H (xs++[u]) (ps++[p]):=hU h q
theorem Prs.len{H:Hp}:∀{xs:List V}{ps:List (Int×Int)},Prs H xs ps->xs.length=ps.length
 | _,_,.nil=>rfl
 | _,_,.cons _ t=>by rw[cN,cN,Prs.len t]
noncomputable def R8(ns:List Int)(r:Int):List (Int×Int):=(z1g ns).map fun n=>(n,z0J ns n r)
noncomputable def z1d(ns:List Int)(r:Int):List Int:=((R8 ns r).filter fun q=>decide (q.2=0)).map Prod.fst
noncomputable def y8a(K:PySem.W.Frag):Sp:=fun vs H Q _=>∃(p:Addr) (ns:List Int) (r:Int),vs=[.ref p,.int r]/\SqI K H p ns/\(∀x∈ns,1≤x/\x≤60)/\ns.length≤900/\
 ∀(l:Addr) (xs:List V) (H':Hp),B0 H H'->H' l=some (.tup xs)->Prs H' xs (R8 ns r)->Q (.ref l) H'
theorem y8h(M:Bl mg)(F:Fun K "lacking_with_tellers" "lacking_with_tellers" z1Y f fd)(K1:Cal P w K mg base 1 "lacking_numbers" z32 (y6Q K))
  (P5:Cal P w K mg base 1 "teller_of" z7d (y2M K)):B4 P w K mg base CX0 2 f fd z1n (y8a K):=by
 have nd:=z2D.nd
 refine F.ok z2D (fun vs H Q E h=>?_) (fun cdv A outer s H vs Q E hr h=>?_)
 ·obtain⟨p,ns,r,rfl,_⟩:=h
  rfl
 obtain⟨p,ns,r,rfl,hS,C3,hlen,q⟩:=h
 refine⟨_,(z05 (z0i (z0t z0p rfl M.tuple bH (z00 (z1c ["number"] ["had","reach"] [0,1] rfl (z0v rfl (by decide +kernel) rfl (by decide +kernel) rfl rfl) (z26 (z0g K1 (rm hr) rfl (z00 (pv 0) z02))) (fun _ _ _ _ _=>(z0j (i:=0) (show((["number"]:List PySem.Str)++(["had","reach"]:List PySem.Str)).Nodup from by decide +kernel) rfl (Or.inl rfl))) (z0x (by decide)) z0h (fun _ _ _ _ _=>z1W) (fun _ _ _ _ _=>(z0U (z00 (pv 0) (z00 (z0g P5 (rm hr) rfl (z00 (pv 1) (z00 (pv 0) (z00 (pv 2) z02)))) z02))))) z02)))),?_⟩
 refine(rdI rfl (ex2 p ns ⟨rfl,hS,C3,fun lt H1 nlt s1 e1=>⟨lt,rfl,⟨_,SqT.of e1⟩,?_⟩⟩))
 have ll:=z2v ns
 refine z1A (xs:=(z1g ns).map V.int) (fun i ys H'=>B0 H1 H'/\Prs H' ys (((z1g ns).take i).map fun n=>(n,z0J ns n r))) ⟨B0.refl _,.nil⟩ (fun i ys H' hi hp=>?_) (fun i x ys H' hx hp=>?_) (fun ys H' hp=>?_)
 ·obtain⟨g,pr⟩:=hp
  refine⟨SqT.of (g _ _ e1),z0f ?_⟩
  rw[pr.len,bA,bI]
  lia
 ·obtain⟨g,pr⟩:=hp
  rw[bE] at hx
  cases e:(z1g ns)[i]? with
  | none=>rw[e] at hx;cases hx
  | some n=>
   rw[e] at hx
   cases hx
   refine(rdI rfl (rdI rfl (rdI rfl (rdI rfl (ex4 p ns n r ⟨rfl,SqI.keep (s1.trans g) hS,C3,hlen,fun H2 g2=>⟨(by show 2≤sizeLine;decide),fun t ht=>?_⟩⟩)))))
   refine⟨g.trans (g2.trans (z01 ht _)),?_⟩
   rw[z0n e,bG]
   exact Prs.snoc (pr.keep (g2.trans (z01 ht _))) ⟨t,rfl,z03⟩
 ·obtain⟨g,pr⟩:=hp
  rw[bA,bR] at pr
  intro D hD
  refine(ex2 D _ ⟨rfl,.inl ⟨SqL.of z03,fun l hl=>?_⟩⟩)
  exact q l ys _ (s1.trans (g.trans ((z01 hD _).trans (z01 hl _)))) z03 (pr.keep ((z01 hD _).trans (z01 hl _)))
noncomputable def y2I(K:PySem.W.Frag):Sp:=fun vs H Q _=>∃(p:Addr) (ns:List Int) (r:Int),vs=[.ref p,.int r]/\SqI K H p ns/\(∀x∈ns,1≤x/\x≤60)/\ns.length≤900/\
 ∀(l:Addr) (H':Hp),B0 H H'->H' l=some (.tup ((z1d ns r).map V.int))->Q (.ref l) H'
theorem y4f(ns:List Int)(r:Int):(R8 ns r).length≤60:=by
 unfold R8
 rw[bA]
 exact z2v ns
theorem y7h(M:Bl mg)(F:Fun K "dark_numbers" "dark_numbers" z4a f fd)(C4:Cal P w K mg base 2 "lacking_with_tellers" z1n (y8a K)):B4 P w K mg base CX0 3 f fd z2y (y2I K):=by
 have nd:=z5m.nd
 refine F.ok z5m (fun vs H Q E h=>?_) (fun cdv A outer s H vs Q E hr h=>?_)
 ·obtain⟨p,ns,r,rfl,_⟩:=h
  rfl
 obtain⟨p,ns,r,rfl,hS,C3,hlen,q⟩:=h
 refine⟨_,(z05 (z0i (z0t z0p rfl M.tuple bH (z00 (z1c ["number","teller"] [] [] rfl (z0v rfl (by decide +kernel) rfl (by decide +kernel) rfl rfl) (z26 (z0g C4 (rm hr) rfl (z00 (pv 0) (z00 (pv 1) z02)))) (fun _ _ _ _ _=>(z8U (K:=K) (n:=2) rfl rfl (z1e (z0j (i:=0) (show((["number","teller"]:List PySem.Str)++([]:List PySem.Str)).Nodup from by decide +kernel) rfl (Or.inl rfl)) (z1e (z0j (i:=1) (show((["number","teller"]:List PySem.Str)++([]:List PySem.Str)).Nodup from by decide +kernel) rfl (Or.inl rfl)) z4Z)))) (z86 (z23 (z0x (by decide)) z0h (z23 (z0x (by decide)) z0h z6N z1a) (z0T z0h z1a))) (z65 (z0T z0h (z0T z0h z1a))) (fun _ _ _ _ _=>(z2i (z0c z28 (pv 1) z06 (z0m _)))) (fun _ _ _ _ _=>(pv 0))) z02)))),?_⟩
 refine(rdI rfl (rdI rfl (ex3 p ns r ⟨rfl,hS,C3,hlen,fun lt xs H1 s1 e1 pr1=>⟨lt,rfl,⟨_,SqT.of e1⟩,?_⟩⟩)))
 have ll:=y4f ns r
 have lx:=pr1.len
 refine z1A (xs:=xs) (fun i ys H'=>H'=H1/\ys=(((R8 ns r).take i).filter fun q=>decide (q.2=0)).map fun q=>V.int q.1) ⟨rfl,rfl⟩ (fun i ys H' hi hp=>?_) (fun i x ys H' hx hp=>?_) (fun ys H' hp=>?_)
 ·obtain⟨rfl,rfl⟩:=hp
  refine⟨SqT.of e1,z0f ?_⟩
  have h1:=cJ (fun q:Int×Int=>decide (q.2=0)) ((R8 ns r).take i)
  rw[bA]
  rw[bI] at h1
  lia
 ·obtain⟨rfl,rfl⟩:=hp
  obtain⟨⟨n,t⟩,e,a,rfl,ha⟩:=pr1.get i x hx
  refine(ex2 a _ ⟨rfl,SqT.of ha,rfl,(ex2 _ _ ⟨rfl,(ex2 _ _ ⟨rfl,rfl,?_⟩)⟩)⟩)
  refine(rdI rfl ⟨rfl,(rdI rfl ?_)⟩)
  rw[z0n e,dM,dP,bG]
  refine B9 (fun c=>?_) (fun c=>?_)
  ·have c':decide (t=0)=true:=decide_eq_true (V.int.inj (z0K c))
   refine(rdI rfl ⟨rfl,?_⟩)
   rw[if_pos c']
   rfl
  ·have c':¬decide (t=0)=true:=fun z=>c (decide_eq_true (congrArg V.int (z0K z)))
   refine⟨rfl,?_⟩
   rw[if_neg c']
   simp
 ·obtain⟨rfl,rfl⟩:=hp
  rw[lx,bR]
  intro D hD
  refine(ex2 D _ ⟨rfl,.inl ⟨SqL.of z03,fun l hl=>?_⟩⟩)
  refine q l _ (s1.trans ((z01 hD _).trans (z01 hl _))) ?_
  rw[z03]
  unfold z1d
  rw[eF]
  rfl
theorem z3h(ns:List Int)(r:Int):(z1d ns r).length≤60:=by
 have h:=cJ (fun q:Int×Int=>decide (q.2=0)) (R8 ns r)
 have:=y4f ns r
 unfold z1d
 rw[bA]
 lia
noncomputable def z0R(ns:List Int)(r b:Int):List Int:=(z1d ns r).filter fun y=>decide (b<y)
noncomputable def z7P(K:PySem.W.Frag):Sp:=fun vs H Q _=>∃(p:Addr) (ns:List Int) (r b:Int),vs=[.ref p,.int r,.int b]/\SqI K H p ns/\(∀x∈ns,1≤x/\x≤60)/\ns.length≤900/\
 ∀(l:Addr) (H':Hp),B0 H H'->H' l=some (.tup ((z0R ns r b).map V.int))->Q (.ref l) H'
theorem y5e(M:Bl mg)(F:Fun K "dark_numbers_behind" "dark_numbers_behind" z29 f fd)(D2:Cal P w K mg base 3 "dark_numbers" z2y (y2I K)):B4 P w K mg base CX0 4 f fd z17 (z7P K):=by
 have nd:=z2V.nd
 refine F.ok z2V (fun vs H Q E h=>?_) (fun cdv A outer s H vs Q E hr h=>?_)
 ·obtain⟨p,ns,r,b,rfl,_⟩:=h
  rfl
 obtain⟨p,ns,r,b,rfl,hS,C3,hlen,q⟩:=h
 refine⟨_,(z05 (z0i (z0t z0p rfl M.tuple bH (z00 (z1c ["number"] ["behind"] [2] rfl (z0v rfl (by decide +kernel) rfl (by decide +kernel) rfl rfl) (z26 (z0g D2 (rm hr) rfl (z00 (pv 0) (z00 (pv 1) z02)))) (fun _ _ _ _ _=>(z0j (i:=0) (show((["number"]:List PySem.Str)++(["behind"]:List PySem.Str)).Nodup from by decide +kernel) rfl (Or.inl rfl))) (z0x (by decide)) z0h (fun _ _ _ _ _=>(z2i (z0c z2o (pv 0) (pv 1) (z0m _)))) (fun _ _ _ _ _=>(pv 0))) z02)))),?_⟩
 refine(rdI rfl (rdI rfl (ex3 p ns r ⟨rfl,hS,C3,hlen,fun lt H1 s1 e1=>⟨lt,rfl,⟨_,SqT.of e1⟩,?_⟩⟩)))
 have ll:=z3h ns r
 refine z7a (ns:=z1d ns r) (fun y=>decide (b<y)) (fun y=>.int y) (SqT.of e1) (by lia) (fun y ys N hy hN=>?_) (fun D hD=>?_)
 ·refine(rdI rfl (rdI rfl (ex2 _ _ ⟨rfl,rfl,(rdI rfl ?_)⟩)))
  refine B9 (fun c=>?_) (fun c=>?_)
  ·rw[if_pos c] at hN
   exact(rdI rfl hN)
  ·rw[if_neg c] at hN
   exact hN
 ·exact(ex2 D _ ⟨rfl,.inl ⟨SqL.of z03,fun l hl=>q l _ (s1.trans ((z01 hD _).trans (z01 hl _))) z03⟩⟩)
noncomputable def y2N(Sh:ShP):Sp:=fun vs H Q _=>∃(p:Addr) (fp:List Addr) (zs:List Str) (r:Int) (iss:Int->DV) (had:List Int) (n:Int) (d0 d1 d2:DV),vs=[.ref p,.int n]/\Sh H p fp zs r iss had/\n∈had/\iss n=.tup [d0,d1,d2]/\∀v,B2 H d2 v->Q v H
theorem z82{kvs:List (Key×V)}{had:List Int}(kk:kvs.map (·.1)=had.map Sum.inl){n:Int}(h:n∈had):∃v,L5 kvs (Sum.inl n:Key)=some v/\((Sum.inl n:Key),v)∈kvs:=by
 have e:=y08 kk n
 rw[decide_eq_true h] at e
 cases ev:L5 kvs (Sum.inl n:Key) with
 | none=>rw[ev] at e;cases e
 | some v=>
  refine⟨v,rfl,?_⟩
  unfold L5 at ev
  obtain⟨⟨k,u⟩,hf,rfl⟩:=bY.mp ev
  have h1:=hZ hf
  have h2:=List.find?_some hf
  simp only[decide_eq_true_eq] at h2
  rw[h2] at h1
  exact h1
theorem y3Z{A0:Addr}(M:Bl mg)(T:D7 K mg A0)(F:Fun K "tail_of" "Shelf.tail_of" z3D f fd):B4 P w K mg base CX0 1 f fd z3J (y2N (ShD K A0)):=by
 have nd:=z54.nd
 refine F.ok z54 (fun vs H Q E h=>?_) (fun cdv A outer s H vs Q E hr h=>?_)
 ·obtain⟨p,fp,zs,r,iss,had,n,d0,d1,d2,rfl,_⟩:=h
  rfl
 obtain⟨p,fp,zs,r,iss,had,n,d0,d1,d2,rfl,sh,hn,en,k⟩:=h
 have hu:=y0M hr
 refine⟨_,(z05 (z0i (z0A z0w (z6L hu (z0M (pv 0) rfl) (pv 1) (fun _ _=>rfl)) z06 (fun _ _=>rfl)))),?_⟩
 obtain⟨dx,pn,pd,fs,kvs,rfl,h1,h2,h3,h4,l1,l2,l3,lm,kk,ndh,all,tl,g,r0,r1⟩:=sh
 obtain⟨v,ev,mv⟩:=z82 kk hn
 have tv:=tl n v mv
 rw[en] at tv
 obtain⟨a,us,rfl,ea,_,tu⟩:=z0d tv
 obtain⟨x0,ur,rfl,t0,tu⟩:=z0e tu
 obtain⟨x1,ur,rfl,t1,tu⟩:=z0e tu
 obtain⟨x2,ur,rfl,t2,tu⟩:=z0e tu
 refine(rdI rfl (ex5 p A0 dx fs _ ⟨rfl,h1,T.cl,T.n_issues,l3,(rdI rfl (ex2 pd _ ⟨rfl,(by rw[<- ev];exact N5.k (k:=Sum.inl n) h4),?_⟩))⟩))
 exact(ex4 a _ _ x2 ⟨rfl,rfl,SqT.of ea,z0V rfl,k x2 t2⟩)
theorem y6s(n r:Int):(z6P n r).Nodup:=by
 have h:(dnI (n-1) (n-1).toNat).Nodup:=by
  unfold dnI
  rw[dL,eJ]
  exact List.pairwise_lt_range.imp fun h=>by lia
 exact h.filter _
theorem y50{n r k:Int}:k∈z6P n r↔1≤k/\k<n/\n-k≤r:=by
 unfold z6P
 rw[cO,y0b,decide_eq_true_eq]
 lia
theorem z9B{K:PySem.W.Frag}{H:Hp}{rows:List Row}:∀{ks:List Int}{xs:List V},z0a H (ks.map (y3k rows)) xs->∃kvs:List (Key×V),Paired (y4I K H) xs kvs/\kvs.map (·.1)=ks.map Sum.inl/\∀k v,((Sum.inl k:Key),v)∈kvs->B2 H (L7 (z0H (z0D rows k))) v
 | [],xs,h=>by
  rw[z0G h]
  exact⟨[],.nil,rfl,fun _ _ q=>(nomatch q)⟩
 | k::ks,xs,h=>by
  obtain⟨x,r,rfl,t,h⟩:=z0e h
  obtain⟨kvs,p1,p2,p3⟩:=z9B h
  obtain⟨a,us,rfl,ea,_,tu⟩:=z0d t
  obtain⟨x0,ur,rfl,t0,tu⟩:=z0e tu
  obtain⟨x1,ur,rfl,t1,tu⟩:=z0e tu
  have:=z0G tu
  subst this
  cases z14 t0
  refine⟨(Sum.inl k,x1)::kvs,.cons ⟨a,rfl,.inr (SqT.of ea)⟩ p1,by rw[cV,cV,p2],fun m v hv=>?_⟩
  rcases bF.mp hv with e|hv
  ·cases e
   exact t1
  ·exact p3 m v hv
noncomputable def y7S(rows:List Row)(n t:Int):DV:=if t=0 then .tup [] else L7 (z0H (z0D rows n))
noncomputable def y71(Sh:ShP):Sp:=fun vs H Q _=>∃(x:Addr) (n t:Int) (fp:List Addr) (nm:List Str) (r:Int) (rows:List Row) (had:List Int),vs=[.ref x,.int n,.int t]/\Sh H x fp nm r (fun n=>z10 rows n r) had/\(t≠0->t∈had/\t≤60/\n∈z6P t r)/\
 ∀(v:V) (H':Hp),B0 H H'->B2 H' (y7S rows n t) v->Q v H'
theorem y83{A0:Addr}(M:Bl mg)(T:D7 K mg A0)(F:Fun K "names_told_of" "names_told_of" z3B f fd)(L6:D9 P w K mg base 1 A0 "tail_of" z3J (y2N (ShD K A0))) :
  B4 P w K mg base CX0 2 f fd z3F (y71 (ShD K A0)):=by
 have nd:=z4C.nd
 refine F.ok z4C (fun vs H Q E h=>?_) (fun cdv A outer s H vs Q E hr h=>?_)
 ·obtain⟨x,n,t,fp,nm,r,rows,had,rfl,_⟩:=h
  rfl
 obtain⟨x,n,t,fp,nm,r,rows,had,rfl,sh,ht,k⟩:=h
 have hu:=y0M hr
 refine⟨_,(z04 (z0C (z0c z28 (pv 2) z06 (z0m _)) (z05 (z0i (z0U z02))) z0k) (z05 (z0i (z6L hu (z0t (z4N (K:=K) rfl rfl) rfl M.dict jG (z00 (z1J L6 (rm hr) (pv 0) (z00 (pv 2) z02)) z02)) (pv 1) (fun _ _=>rfl))))),?_⟩
 refine(rdI rfl ⟨rfl,(rdI rfl (B9 (fun c=>?_) (fun c=>?_)))⟩)
 ·have c':t=0:=V.int.inj (z0K c)
  refine⟨(by show 0≤sizeLine;decide),fun l hl=>k _ _ (z01 hl _) ?_⟩
  unfold y7S
  rw[if_pos c']
  exact z0s z03 (by show 0≤1000000;decide) .nil
 ·have c':t≠0:=fun z=>c (decide_eq_true (congrArg V.int z))
  obtain⟨th,t60,tn⟩:=ht c'
  obtain⟨dx,fs,h1,lm⟩:∃dx fs,H x=some (.ins A0 dx fs)/\fs.lookup ("tail_of":Str)=none:=by
   obtain⟨dx,pn,pd,fs,kvs,_,h1,_,_,_,_,_,_,lm,_⟩:=sh
   exact⟨dx,fs,h1,lm _ (by simp)⟩
  refine(rdI rfl (ex3 x dx fs ⟨rfl,h1,lm,(rdI rfl (w0q x fp nm r _ had t _ _ _ ⟨rfl,sh,th,rfl,fun v tv=>?_⟩))⟩))
  obtain⟨a,us,rfl,ea,_,tu⟩:=z0d tv
  obtain⟨kvs,p1,p2,p3⟩:=z9B (K:=K) tu
  have lu:us.length≤1000:=by
   rw[tu.length,bA]
   unfold z6P
   have:=cJ (fun k=>decide (t-k≤r)) (dnI (t-1) (t-1).toNat)
   rw[y1x] at this
   lia
  refine(ex3 a us kvs ⟨rfl,.inr ea,p1,lu,?_,fun l hl=>?_⟩)
  ·rw[p2]
   rw[dL,eJ]
   exact(dL.mp (y6s t r)).imp fun h e=>h (Sum.inl.inj e)
  ·obtain⟨v,ev,mv⟩:=z82 p2 tn
   refine(rdI rfl (ex2 l _ ⟨rfl,(by rw[<- ev];exact N5.k (k:=Sum.inl n) z03),?_⟩))
   refine k v _ (z01 hl _) ?_
   unfold y7S
   rw[if_neg c']
   exact B2.keep (z01 hl _) _ _ (p3 n v mv)
theorem y5O{had:List Int}{r n:Int}(h60:∀n∈had,1≤n/\n≤60)(hn:n∈z1g (z08 had))(h:z0J (z08 had) n r≠0):z0J (z08 had) n r∈had/\z0J (z08 had) n r≤60/\n∈z6P (z0J (z08 had) n r) r:=by
 unfold z0J at h ⊢
 cases e:(upI 1 60).find? (y1O (z08 had) n r) with
 | none=>rw[e] at h;exact absurd rfl h
 | some y=>
  obtain⟨_,hc,_⟩:=y5l (z1Q 1 60) e
  obtain⟨a,b,c⟩:=z4Y.mp hc
  have hy:=(z0Q.mp c).2
  have:=h60 y hy
  have:=(z0X.mp hn).1
  show y∈had/\y≤60/\n∈z6P y r
  exact⟨hy,by lia,y50.mpr (by lia)⟩
theorem y3D{A0:Addr}(M:Bl mg)(T:D7 K mg A0)(F:Fun K "gaps_of" "gaps_of" y0a f fd)(B3:D9 P w K mg base 1 A0 "had" z1l (z3c (ShD K A0)))
  (C4:Cal P w K mg base 2 "lacking_with_tellers" z1n (y8a K)) (M0:Cal P w K mg base 2 "names_told_of" z3F (y71 (ShD K A0))) :
  B4 P w K mg base CX0 3 f fd z61 (z7Q (ShD K A0)):=by
 have nd:=y10.nd
 refine F.ok y10 (fun vs H Q E h=>?_) (fun cdv A outer s H vs Q E hr h=>?_)
 ·obtain⟨x,fp,nm,r,rows,had,rfl,_⟩:=h
  rfl
 obtain⟨x,fp,nm,r,rows,had,rfl,sh,gn,rw',l60,hh,r0,r1,k⟩:=h
 refine⟨_,(z04 (z0o (i:=1) nd rfl (Or.inl rfl) (z0g C4 (rm hr) rfl (z00 (z1C B3 (rm hr) (pv 0)) (z00 (z0M (pv 0) rfl) z02)))) (z05 (z0i (z0t z0p rfl M.tuple bH (z00 (z1c ["number","teller"] ["shelf"] [0] rfl (z0v rfl (by decide +kernel) rfl (by decide +kernel) rfl rfl) (z26 (pv 1)) (fun _ _ _ _ _=>(z8U (K:=K) (n:=2) rfl rfl (z1e (z0j (i:=0) (show((["number","teller"]:List PySem.Str)++(["shelf"]:List PySem.Str)).Nodup from by decide +kernel) rfl (Or.inl rfl)) (z1e (z0j (i:=1) (show((["number","teller"]:List PySem.Str)++(["shelf"]:List PySem.Str)).Nodup from by decide +kernel) rfl (Or.inl rfl)) z4Z)))) (z86 (z23 (z0x (by decide)) z0h (z23 (z0x (by decide)) z0h z6N z1a) (z0T z0h z1a))) (z65 (z0T z0h (z0T z0h z1a))) (fun _ _ _ _ _=>z1W) (fun _ _ _ _ _=>(z0U (z00 (pv 0) (z00 (pv 1) (z00 (z0g M0 (rm hr) rfl (z00 (pv 2) (z00 (pv 0) (z00 (pv 1) z02)))) z02)))))) z02))))),?_⟩
 have h60:∀n∈had,1≤n/\n≤60:=fun n hn=>by have:=hh n hn;lia
 obtain⟨dx,fs,h1,lm,lr⟩:∃dx fs,H x=some (.ins A0 dx fs)/\fs.lookup ("had":Str)=none/\fs.lookup ("reach":Str)=some (V.int r):=by
  obtain⟨dx,pn,pd,fs,kvs,_,h1,_,_,_,_,lr,_,lm,_⟩:=sh
  exact⟨dx,fs,h1,lm _ (by simp),lr⟩
 refine(rdI rfl (ex3 x dx fs ⟨rfl,h1,lm,(ex6 x fp nm r _ had ⟨rfl,sh,fun l H1 s1 e1=>?_⟩)⟩))
 refine(rdI rfl (ex5 x A0 dx fs _ ⟨rfl,s1 _ _ h1,T.cl,T.n_reach,lr,(ex3 l (z08 had) r ⟨rfl,.inr (SqT.of e1),fun n hn=>h60 n (z0Q.mp hn).2,cM (z2e had) (by decide),fun lt xs H2 s2 e2 pr2=>?_⟩)⟩))
 have sh2:ShD K A0 H2 x fp nm r (fun n=>z10 rows n r) had:=F2.same sh (s1.trans s2)
 have lx:xs.length=(z1g (z08 had)).length:=by rw[pr2.len];unfold R8;rw[bA]
 have ll:=z2v (z08 had)
 refine(rdI rfl ⟨lt,rfl,⟨_,SqT.of e2⟩,?_⟩)
 refine z1A (xs:=xs) (fun i ys H'=>B0 H2 H'/\z0a H' (((z1g (z08 had)).take i).map (R6 (z08 had) rows r)) ys) ⟨B0.refl _,by rw[cZ];exact .nil⟩ (fun i ys H' hi hp=>?_) (fun i y ys H' hy hp=>?_) (fun ys H' hp=>?_)
 ·obtain⟨g,t⟩:=hp
  refine⟨SqT.of (g _ _ e2),z0f ?_⟩
  rw[t.length,bA,bI]
  lia
 ·obtain⟨g,t⟩:=hp
  obtain⟨⟨n,tl⟩,e,a,rfl,ha⟩:=pr2.get i y hy
  unfold R8 at e
  rw[bE] at e
  obtain⟨m,em,e3⟩:=bY.mp e
  cases e3
  refine(ex2 a _ ⟨rfl,SqT.of (g _ _ ha),rfl,(ex2 _ _ ⟨rfl,(ex2 _ _ ⟨rfl,rfl,?_⟩)⟩)⟩)
  refine(rdI rfl (rdI rfl (rdI rfl (rdI rfl (rdI rfl (ex8 x n _ fp nm r rows had ⟨rfl,F2.same sh2 g,y5O h60 (bS em),fun v H3 s3 tv=>?_⟩))))))
  refine⟨(by show 3≤sizeLine;decide),fun q hq=>⟨g.trans (s3.trans (z01 hq _)),?_⟩⟩
  rw[eZ,em,bG]
  exact z0a.snoc (z0a.keep (s3.trans (z01 hq _)) _ _ t) (z0s z03 (by show 3≤1000000;decide) (.cons (z0E _) (.cons (z0E _) (.cons (B2.keep (z01 hq _) _ _ tv) .nil))))
 ·obtain⟨g,t⟩:=hp
  rw[lx,bR] at t
  intro D hD
  refine(ex2 D ys ⟨rfl,.inl ⟨SqL.of z03,fun q hq=>k _ _ (s1.trans (s2.trans (g.trans ((z01 hD _).trans (z01 hq _))))) (z0s z03 ?_ (z0a.keep ((z01 hD _).trans (z01 hq _)) _ _ t))⟩⟩)
  unfold z3v
  rw[bA]
  lia
noncomputable def y0l(Sh:ShP):Sp:=fun vs H Q _=>∃(p:Addr) (fp:List Addr) (zs:List Str) (r:Int) (iss:Int->DV) (had:List Int) (n:Int) (d0 d1 d2:DV),vs=[.ref p,.int n]/\Sh H p fp zs r iss had/\n∈had/\iss n=.tup [d0,d1,d2]/\∀v,B2 H d1 v->Q v H
theorem y53{A0:Addr}(M:Bl mg)(T:D7 K mg A0)(F:Fun K "rows_of" "Shelf.rows_of" z3M f fd):B4 P w K mg base CX0 1 f fd z2Q (y0l (ShD K A0)):=by
 have nd:=z52.nd
 refine F.ok z52 (fun vs H Q E h=>?_) (fun cdv A outer s H vs Q E hr h=>?_)
 ·obtain⟨p,fp,zs,r,iss,had,n,d0,d1,d2,rfl,_⟩:=h
  rfl
 obtain⟨p,fp,zs,r,iss,had,n,d0,d1,d2,rfl,sh,hn,en,k⟩:=h
 have hu:=y0M hr
 refine⟨_,(z05 (z0i (z0A z0w (z6L hu (z0M (pv 0) rfl) (pv 1) (fun _ _=>rfl)) z06 (fun _ _=>rfl)))),?_⟩
 obtain⟨dx,pn,pd,fs,kvs,rfl,h1,h2,h3,h4,l1,l2,l3,lm,kk,ndh,all,tl,g,r0,r1⟩:=sh
 obtain⟨v,ev,mv⟩:=z82 kk hn
 have tv:=tl n v mv
 rw[en] at tv
 obtain⟨a,us,rfl,ea,_,tu⟩:=z0d tv
 obtain⟨x0,ur,rfl,t0,tu⟩:=z0e tu
 obtain⟨x1,ur,rfl,t1,tu⟩:=z0e tu
 refine(rdI rfl (ex5 p A0 dx fs _ ⟨rfl,h1,T.cl,T.n_issues,l3,(rdI rfl (ex2 pd _ ⟨rfl,(by rw[<- ev];exact N5.k (k:=Sum.inl n) h4),?_⟩))⟩))
 exact(ex4 a _ _ x1 ⟨rfl,rfl,SqT.of ea,z0V rfl,k x1 t1⟩)
theorem y1c{K:PySem.W.Frag}{H:Hp}:∀{w:Row}{xs:List V},z0a H (w.map z9U) xs->Paired (y4I K H) xs (w.map kvR)
 | [],xs,h=>by
  rw[z0G h]
  exact .nil
 | p::w,xs,h=>by
  obtain⟨x,r,rfl,t,h'⟩:=z0e h
  obtain⟨a,us,rfl,ea,_,tu⟩:=z0d t
  obtain⟨x0,ur,rfl,t0,tu⟩:=z0e tu
  obtain⟨x1,ur,rfl,t1,tu⟩:=z0e tu
  have:=z0G tu
  subst this
  rw[z2S t0,z14 t1] at ea
  exact .cons ⟨a,rfl,.inr (SqT.of ea)⟩ (y1c h')
theorem w1N(w:Row)(z:Str):∀acc:Option Int,w.foldl (fun acc p=>if p.1=z then some p.2 else acc) acc=match J2 w z with|some v=>some v|none=>acc:=by
 unfold J2
 induction w with
 | nil=>intro acc;rfl
 | cons p w ih=>
  intro acc
  rw[dF,dF,ih,ih (if p.1=z then some p.2 else none)]
  cases w.foldl (fun acc p=>if p.1=z then some p.2 else acc) none with
  | some v=>rfl
  | none=>
   by_cases h:p.1=z
   ·rw[if_pos h,if_pos h]
   ·rw[if_neg h,if_neg h]
theorem z8W(p:Str×Int)(w:Row)(z:Str):J2 (p::w) z=match J2 w z with|some v=>some v|none=>if p.1=z then some p.2 else none:=by
 conv=>lhs;unfold J2
 rw[dF,w1N]
theorem y4k{w:Row}{z:Str}(h:z∉w.map Prod.fst):J2 w z=none:=by
 induction w with
 | nil=>rfl
 | cons p w ih=>
  rw[cV,bF,not_or] at h
  rw[z8W,ih h.2,if_neg (fun e=>h.1 e.symm)]
theorem y1S{z:Str}:∀{w:Row},(w.map Prod.fst).Nodup->L5 (w.map kvR) (Sum.inr z:Key)=(J2 w z).map V.int
 | [],_=>rfl
 | p::w,h=>by
  rw[cV,dU] at h
  rw[cV,z8W]
  by_cases e:p.1=z
  ·rw[z6v (show(kvR p).1=Sum.inr z by unfold kvR;rw[e]),y4k (e ▸ h.1),if_pos e]
   rfl
  ·rw[z6x (show ¬(kvR p).1=Sum.inr z from fun q=>e (Sum.inr.inj q)),y1S h.2,if_neg e]
   cases J2 w z<;>rfl
theorem y8T{nm:List Str}{rows:List Row}(g:E2 nm)(R:Rws nm rows)(n:Int):((z0D rows n).map Prod.fst).Nodup:=by
 unfold z0D
 rw[bP]
 cases e:rows[(n-1).toNat]? with
 | none=>exact .nil
 | some w=>exact(R.sub w (bS e)).nodup g.nd
theorem y1W{nm:List Str}{rows:List Row}(g:E2 nm)(R:Rws nm rows)(n:Int):(z0D rows n).length≤12:=by
 unfold z0D
 rw[bP]
 cases e:rows[(n-1).toNat]? with
 | none=>exact cW _
 | some w=>
  have h:=(R.sub w (bS e)).length_le
  rw[bA] at h
  exact cM h g.hi
noncomputable def z3d(Sh:ShP):Sp:=fun vs H Q _=>∃(x:Addr) (z:Str) (fp:List Addr) (nm:List Str) (r:Int) (rows:List Row) (had:List Int),vs=[.ref x,.str z]/\Sh H x fp nm r (fun n=>z10 rows n r) had/\z∈nm/\E2 nm/\Rws nm rows/\
 ∀(v:V) (H':Hp),B0 H H'->B2 H' (z9Z (z0y (z08 had) rows z)) v->Q v H'
theorem y3j{A0:Addr}(M:Bl mg)(T:D7 K mg A0)(F:Fun K "held_for" "held_for" z8E f fd)(C5:Cal P w K mg base 1 "refuse_unknown_name" z1w (y82 K))
  (B3:D9 P w K mg base 1 A0 "had" z1l (z3c (ShD K A0))) (E1:D9 P w K mg base 1 A0 "rows_of" z2Q (y0l (ShD K A0))) :
  B4 P w K mg base CX0 2 f fd z2T (z3d (ShD K A0)):=by
 have nd:=z9s.nd
 refine F.ok z9s (fun vs H Q E h=>?_) (fun cdv A outer s H vs Q E hr h=>?_)
 ·obtain⟨x,z,fp,nm,r,rows,had,rfl,_⟩:=h
  rfl
 obtain⟨x,z,fp,nm,r,rows,had,rfl,sh,hz,gn,R,k⟩:=h
 have hu:=y0M hr
 refine⟨_,(z04 (z0F (z0g C5 (rm hr) rfl (z00 (z0M (pv 0) rfl) (z00 (pv 1) z02)))) (z04 (z0W bT rfl (y7a rfl M.reversed (z00 (z1C B3 (rm hr) (pv 0)) z02)) (z0j (i:=2) nd rfl (Or.inl rfl)) (z04 (z0o (i:=3) nd rfl (Or.inl rfl) (z0t (z4N (K:=K) rfl rfl) rfl M.dict jG (z00 (z1J E1 (rm hr) (pv 0) (z00 (pv 2) z02)) z02))) (z05 (z0C (z7J (y4d hu (pv 1) (pv 3))) (z05 (z0i (z0U (z00 (pv 2) (z00 (z6L hu (pv 3) (pv 1) (fun _ _=>rfl)) z02))))) z0k)))) (z05 (z0i (z0U (z00 z06 (z00 z9F z02))))))),?_⟩
 obtain⟨dx,pn,fs,h1,h3,ln,lh,lo⟩:∃dx pn fs,H x=some (.ins A0 dx fs)/\H pn=some (.tup (nm.map V.str))/\fs.lookup ("names":Str)=some (V.ref pn)/\fs.lookup ("had":Str)=none/\fs.lookup ("rows_of":Str)=none:=by
  obtain⟨dx,pn,pd,fs,kvs,_,h1,_,h3,_,l1,_,_,lm,_⟩:=sh
  exact⟨dx,pn,fs,h1,h3,l1,lm _ (by simp),lm _ (by simp)⟩
 refine(rdI rfl (ex5 x A0 dx fs _ ⟨rfl,h1,T.cl,T.n_names,ln,(rdI rfl (ex3 pn nm z ⟨rfl,.inr (SqT.of h3),hz,?_⟩))⟩))
 refine(rdI rfl (ex3 x dx fs ⟨rfl,h1,lh,(ex6 x fp nm r _ had ⟨rfl,sh,fun l H1 s1 e1=>?_⟩)⟩))
 refine(ex2 l _ ⟨rfl,SqT.of e1,?_⟩)
 have sh1:ShD K A0 H1 x fp nm r (fun n=>z10 rows n r) had:=F2.same sh s1
 have L1:((z08 had).map V.int).length=(z08 had).length:=bA _
 refine y80 (fun i σ H'=>∃(o1 o2:Option V),B0 H1 H'/\z0y (z08 had) rows z=z0y ((z08 had).take ((z08 had).length-i)) rows z/\σ=[some (.ref x),some (.str z),o1,o2])
  ⟨none,none,B0.refl _,by rw[gY,bR],rfl⟩ (fun i σ H' _ ⟨_,_,g,_⟩=>SqT.of (g _ _ e1)) (fun i y σ H' hy hp=>?_) (fun σ H' hp=>?_)
 ·obtain⟨o1,o2,g,eh,rfl⟩:=hp
  rw[<- List.map_reverse,bE] at hy
  obtain⟨n,hn,rfl⟩:=bY.mp hy
  have hi:i<(z08 had).length:=by
   have:=(bX.mp hn).1
   rw[gJ] at this
   exact this
  rw[jN hi] at hn
  have et:(z08 had).take ((z08 had).length-i)=(z08 had).take ((z08 had).length-(i+1))++[n]:=by
   have e:(z08 had).length-i=((z08 had).length-(i+1))+1:=by lia
   rw[e]
   refine z0n ?_
   rw[show(z08 had).length-(i+1)=(z08 had).length-1-i by lia]
   exact hn
  have nh:n∈had:=(z0Q.mp (bS hn)).2
  refine(rdI rfl (ex3 x dx fs ⟨rfl,g _ _ (s1 _ _ h1),lo,(rdI rfl (w0q x fp nm r _ had n _ _ _ ⟨rfl,F2.same sh1 g,nh,rfl,fun v tv=>?_⟩))⟩))
  obtain⟨a,us,rfl,ea,_,tu⟩:=z0d tv
  have ndw:=y8T gn R n
  refine(ex3 a us ((z0D rows n).map kvR) ⟨rfl,.inr ea,y1c tu,?_,?_,fun d hd=>?_⟩)
  ·rw[tu.length,bA]
   have:=y1W gn R n
   lia
  ·have e:((z0D rows n).map kvR).map (·.1)=((z0D rows n).map Prod.fst).map Sum.inr:=by rw[eF,eF];rfl
   rw[e,dL,eJ]
   exact(dL.mp ndw).imp fun h e=>h (Sum.inr.inj e)
  refine(rdI rfl (rdI rfl (ex2 d _ ⟨rfl,N5.k (k:=Sum.inr z) z03,(rdI rfl ?_)⟩)))
  rw[y1S ndw]
  rw[et,z6Z] at eh
  cases ev:J2 (z0D rows n) z with
  | none=>
   rw[ev] at eh
   exact B7 ⟨_,_,g.trans (z01 hd _),eh,rfl⟩
  | some v=>
   rw[ev] at eh
   refine E8 (rdI rfl (rdI rfl (rdI rfl (ex2 d _ ⟨rfl,(show N5 _ d (kV (Sum.inr z)) (some (V.int v)) by rw[<- show L5 ((z0D rows n).map kvR) (Sum.inr z:Key)=some (V.int v) by rw[y1S ndw,ev];rfl];exact N5.k z03),(by show 2≤sizeLine;decide),fun q hq=>k _ _ (s1.trans (g.trans ((z01 hd _).trans (z01 hq _)))) ?_⟩))))
   rw[eh]
   exact z0s z03 (by show 2≤1000000;decide) (.cons (z0E _) (.cons (z0E _) .nil))
 ·obtain⟨o1,o2,g,eh,rfl⟩:=hp
  rw[L1,kO,cZ] at eh
  refine⟨(by show 2≤sizeLine;decide),fun q hq=>k _ _ (s1.trans (g.trans (z01 hq _))) ?_⟩
  rw[eh]
  exact z0s z03 (by show 2≤1000000;decide) (.cons (z0E _) (.cons z5a .nil))
noncomputable def z6F(Sh:ShP):Sp:=fun vs H Q _=>∃(x:Addr) (z:Str) (fp:List Addr) (nm:List Str) (r:Int) (rows:List Row) (had:List Int),vs=[.ref x,.str z]/\Sh H x fp nm r (fun n=>z10 rows n r) had/\z∈nm/\E2 nm/\Rws nm rows/\rows.length≤60/\(∀n∈had,1≤n/\n≤rows.length)/\0≤r/\r≤10/\
 ∀(v:V) (H':Hp),B0 H H'->B2 H' (y2r (z08 had) rows r (z0N (z0y (z08 had) rows z)) z) v->Q v H'
theorem y1P{A0:Addr}(M:Bl mg)(T:D7 K mg A0)(F:Fun K "set_again" "set_again" z6B f fd)(C2:Cal P w K mg base 2 "held_for" z2T (z3d (ShD K A0)))
  (J4:Cal P w K mg base 3 "gaps_of" z61 (z7Q (ShD K A0))):B4 P w K mg base CX0 4 f fd z5c (z6F (ShD K A0)):=by
 have nd:=z8H.nd
 refine F.ok z8H (fun vs H Q E h=>?_) (fun cdv A outer s H vs Q E hr h=>?_)
 ·obtain⟨x,z,fp,nm,r,rows,had,rfl,_⟩:=h
  rfl
 obtain⟨x,z,fp,nm,r,rows,had,rfl,sh,hz,gn,R,l60,hh,r0,r1,k⟩:=h
 refine⟨_,(z04 (z0o (i:=2) nd rfl (Or.inr rfl) (z0A z0w (z0g C2 (rm hr) rfl (z00 (pv 0) (z00 (pv 1) z02))) z06 (fun _ _=>rfl))) (z05 (z0i (z0t z0p rfl M.tuple bH (z00 (z1c ["number","teller","names"] ["held_from","name"] [2,1] rfl (z0v rfl (by decide +kernel) rfl (by decide +kernel) rfl rfl) (z26 (z0g J4 (rm hr) rfl (z00 (pv 0) z02))) (fun _ _ _ _ _=>(z8U (K:=K) (n:=3) rfl rfl (z1e (z0j (i:=0) (show((["number","teller","names"]:List PySem.Str)++(["held_from","name"]:List PySem.Str)).Nodup from by decide +kernel) rfl (Or.inl rfl)) (z1e (z0j (i:=1) (show((["number","teller","names"]:List PySem.Str)++(["held_from","name"]:List PySem.Str)).Nodup from by decide +kernel) rfl (Or.inl rfl)) (z1e (z0j (i:=2) (show((["number","teller","names"]:List PySem.Str)++(["held_from","name"]:List PySem.Str)).Nodup from by decide +kernel) rfl (Or.inl rfl)) z4Z))))) (z86 (z23 (z0x (by decide)) z0h (z23 (z0x (by decide)) z0h (z23 (z0x (by decide)) z0h z6N z1a) (z0T z0h z1a)) (z0T z0h (z0T z0h z1a)))) (z65 (z0T z0h (z0T z0h (z0T z0h z1a)))) (fun _ _ _ _ _=>(z2i (PW.pt (z37 (z0c z2o (pv 0) (pv 3) (z0m _)) (z2m (z0c (r:=rIn K false) z3Q (pv 4) (pv 2) (by with_unfolding_all rfl))))))) (fun _ _ _ _ _=>(z0U (z00 (pv 0) (z00 (pv 1) z02))))) z02))))),?_⟩
 refine(rdI rfl (rdI rfl (ex7 x z fp nm r rows had ⟨rfl,sh,hz,gn,R,fun v H1 s1 tv=>?_⟩)))
 obtain⟨a,y,rfl,ea,_⟩:=z3a tv
 refine(ex4 a _ _ _ ⟨rfl,rfl,SqT.of ea,z0V rfl,?_⟩)
 have sh1:=F2.same sh s1
 refine(rdI rfl (ex6 x fp nm r rows had ⟨rfl,sh1,gn,R,l60,hh,r0,r1,fun u H2 s2 tu=>?_⟩))
 obtain⟨b,xs,rfl,eb,_,tb⟩:=z0d tu
 have lx:=z8u tb
 have ll:=z2v (z08 had)
 generalize z0N (z0y (z08 had) rows z)=num at *
 refine⟨b,rfl,⟨_,SqT.of eb⟩,?_⟩
 refine z1A (xs:=xs) (fun i ys H'=>B0 H2 H'/\z0a H' ((((z1g (z08 had)).take i).filter fun n=>decide (num<n) && decide (z∈z2B (z08 had) rows r n)).map fun n=>.tup [.int n,.int (z0J (z08 had) n r)]) ys) ⟨B0.refl _,.nil⟩ (fun i ys H' hi hp=>?_) (fun i y ys H' hy hp=>?_) (fun ys H' hp=>?_)
 ·obtain⟨g,t⟩:=hp
  refine⟨SqT.of (g _ _ eb),z0f ?_⟩
  rw[t.length,bA]
  have:=cJ (fun n=>decide (num<n) && decide (z∈z2B (z08 had) rows r n)) ((z1g (z08 had)).take i)
  rw[bI] at this
  lia
 ·obtain⟨g,t⟩:=hp
  obtain⟨n,c,d,en,rfl,ec,ed⟩:=z6i tb hy
  refine(ex2 c _ ⟨rfl,SqT.of (g _ _ ec),rfl,(ex2 _ _ ⟨rfl,(ex2 _ _ ⟨rfl,(ex2 _ _ ⟨rfl,rfl,?_⟩)⟩)⟩)⟩)
  rw[z0n en,dM,dP]
  refine(rdI rfl (rdI rfl (ex2 _ _ ⟨rfl,rfl,(rdI rfl ?_)⟩)))
  have skip:¬(decide (num<n) && decide (z∈z2B (z08 had) rows r n))=true->B0 H2 H'/\z0a H' (((((z1g (z08 had)).take i).filter fun n=>decide (num<n) && decide (z∈z2B (z08 had) rows r n))++(if (decide (num<n) && decide (z∈z2B (z08 had) rows r n))=true then n::List.filter (fun n=>decide (num<n) && decide (z∈z2B (z08 had) rows r n)) [] else List.filter (fun n=>decide (num<n) && decide (z∈z2B (z08 had) rows r n)) [])).map fun n=>.tup [.int n,.int (z0J (z08 had) n r)]) ys:=fun c=>by
   rw[if_neg c,fL,cX]
   exact⟨g,t⟩
  refine B9 (fun c=>?_) (fun c=>?_)
  ·refine(rdI rfl (rdI rfl (ex2 d _ ⟨rfl,.inr (SqT.of (g _ _ ed)),rfl,z18 _,(rdI rfl ?_)⟩)))
   rw[if_neg bM,y0U]
   refine B9 (fun c2=>?_) (fun c2=>?_)
   ·refine(rdI rfl (rdI rfl ⟨(by show 2≤sizeLine;decide),fun q hq=>⟨g.trans (z01 hq _),?_⟩⟩))
    rw[if_pos (by rw[bZ];exact⟨c,c2⟩),fL,bG]
    exact z0a.snoc (z0a.keep (z01 hq _) _ _ t) (z0s z03 (by show 2≤1000000;decide) (.cons (z0E _) (.cons (z0E _) .nil)))
   ·exact skip (by rw[bZ];exact fun z=>c2 z.2)
  ·exact skip (by rw[bZ];exact fun z=>c z.1)
 ·obtain⟨g,t⟩:=hp
  rw[lx,bR] at t
  intro D hD
  refine(ex2 D ys ⟨rfl,.inl ⟨SqL.of z03,fun q hq=>k _ _ (s1.trans (s2.trans (g.trans ((z01 hD _).trans (z01 hq _))))) (z0s z03 ?_ (z0a.keep ((z01 hD _).trans (z01 hq _)) _ _ t))⟩⟩)
  rw[bA]
  exact cM (z9m (z08 had) rows r num z) (by decide)
theorem z4Q{ns:List Int}{r n:Int}:n∈z1d ns r↔n∈z1g ns/\z0J ns n r=0:=by
 unfold z1d R8
 rw[cS]
 constructor
 ·rintro⟨⟨a,b⟩,h,rfl⟩
  rw[cO,cS,decide_eq_true_eq] at h
  obtain⟨⟨m,hm,e⟩,h2⟩:=h
  cases e
  exact⟨hm,h2⟩
 ·rintro⟨h1,h2⟩
  refine⟨(n,z0J ns n r),?_,rfl⟩
  rw[cO,cS,decide_eq_true_eq]
  exact⟨⟨n,h1,rfl⟩,h2⟩
theorem z7u{ns:List Int}{r num:Int}:z43 ns r num=[]↔∀n∈z1d ns r,n≤num:=by
 unfold z43
 rw[List.filter_eq_nil_iff]
 constructor
 ·intro h n hn
  obtain⟨h1,h2⟩:=z4Q.mp hn
  have:=h n h1
  rw[bZ,decide_eq_true_eq,decide_eq_true_eq] at this
  rcases Int.lt_or_le num n with q|q
  ·exact absurd ⟨q,h2⟩ this
  ·exact q
 ·intro h n hn
  rw[bZ,decide_eq_true_eq,decide_eq_true_eq]
  rintro⟨h1,h2⟩
  have:=h n (z4Q.mpr ⟨hn,h2⟩)
  lia
theorem z93{ns:List Int}{r num:Int}:z0R ns r num=[]↔z43 ns r num=[]:=by
 rw[z7u]
 unfold z0R
 rw[List.filter_eq_nil_iff]
 exact⟨fun h n hn=>Int.not_lt.mp fun z=>h n hn (decide_eq_true z),fun h n hn z=>by have:=h n hn;have:=of_decide_eq_true z;lia⟩
noncomputable def z40(Sh:ShP):Sp:=fun vs H Q _=>∃(x:Addr) (z:Str) (fp:List Addr) (nm:List Str) (r:Int) (rows:List Row) (had:List Int),vs=[.ref x,.str z]/\Sh H x fp nm r (fun n=>z10 rows n r) had/\z∈nm/\E2 nm/\Rws nm rows/\rows.length≤60/\(∀n∈had,1≤n/\n≤rows.length)/\0≤r/\r≤10/\
 ∀(H':Hp),B0 H H'->Q (.str (z0P (z08 had) rows r (z0N (z0y (z08 had) rows z)) z)) H'
theorem y3r{A0:Addr}(M:Bl mg)(T:D7 K mg A0)(F:Fun K "state_of" "state_of" z8g f fd)(C2:Cal P w K mg base 2 "held_for" z2T (z3d (ShD K A0)))
  (J9:Cal P w K mg base 4 "set_again" z5c (z6F (ShD K A0))) (B3:D9 P w K mg base 1 A0 "had" z1l (z3c (ShD K A0)))
  (B6:Cal P w K mg base 4 "dark_numbers_behind" z17 (z7P K)):B4 P w K mg base CX0 5 f fd z3q (z40 (ShD K A0)):=by
 have nd:=z9I.nd
 refine F.ok z9I (fun vs H Q E h=>?_) (fun cdv A outer s H vs Q E hr h=>?_)
 ·obtain⟨x,z,fp,nm,r,rows,had,rfl,_⟩:=h
  rfl
 obtain⟨x,z,fp,nm,r,rows,had,rfl,sh,hz,gn,R,l60,hh,r0,r1,k⟩:=h
 refine⟨_,(z04 (z0C (z0c z2o (z0b z09 rfl M.len bN (z00 (z0g J9 (rm hr) rfl (z00 (pv 0) (z00 (pv 1) z02))) z02)) z06 (z0m _)) (z05 (z0i (z22 rfl M.STALE))) z0k) (z04 (z0o (i:=2) nd rfl (Or.inl rfl) (z0A z0w (z0g C2 (rm hr) rfl (z00 (pv 0) (z00 (pv 1) z02))) z06 (fun _ _=>rfl))) (z04 (z0o (i:=3) nd rfl (Or.inl rfl) (z0g B6 (rm hr) rfl (z00 (z1C B3 (rm hr) (pv 0)) (z00 (z0M (pv 0) rfl) (z00 (pv 2) z02))))) (z05 (z0i (z5e (z0c z2o (z0b z09 rfl M.len bN (z00 (pv 3) z02)) z06 (z0m _)) (z22 rfl M.OPEN) (z22 rfl M.SURE))))))),?_⟩
 refine(rdI rfl (rdI rfl (ex7 x z fp nm r rows had ⟨rfl,sh,hz,gn,R,l60,hh,r0,r1,fun v H1 s1 tv=>?_⟩)))
 obtain⟨a,xs,rfl,ea,_,ta⟩:=z0d tv
 have lx:=ta.length
 rw[bA] at lx
 refine(ex2 a xs ⟨rfl,.inr (SqT.of ea),(ex2 _ _ ⟨rfl,rfl,(rdI rfl (B9 (fun c=>?_) (fun c=>?_)))⟩)⟩)
 ·have c':=z0K c
  have e:=k H1 s1
  unfold z0P at e
  rw[if_pos (by lia)] at e
  exact e
 ·have c':=z3Z c
  have sh1:=F2.same sh s1
  refine(rdI rfl (rdI rfl (ex7 x z fp nm r rows had ⟨rfl,sh1,hz,gn,R,fun v H2 s2 tv=>?_⟩)))
  obtain⟨b,y,rfl,eb,_⟩:=z3a tv
  refine(ex4 b _ _ _ ⟨rfl,rfl,SqT.of eb,z0V rfl,?_⟩)
  have sh2:=F2.same sh1 s2
  obtain⟨dx,fs,h1,lm,lr⟩:∃dx fs,H2 x=some (.ins A0 dx fs)/\fs.lookup ("had":Str)=none/\fs.lookup ("reach":Str)=some (V.int r):=by
   obtain⟨dx,pn,pd,fs,kvs,_,h1,_,_,_,_,lr,_,lm,_⟩:=sh2
   exact⟨dx,fs,h1,lm _ (by simp),lr⟩
  have h60:∀n∈z08 had,1≤n/\n≤60:=fun n hn=>by have:=hh n (z0Q.mp hn).2;lia
  refine(rdI rfl (ex3 x dx fs ⟨rfl,h1,lm,(ex6 x fp nm r _ had ⟨rfl,sh2,fun l H3 s3 e3=>?_⟩)⟩))
  refine(rdI rfl (ex5 x A0 dx fs _ ⟨rfl,s3 _ _ h1,T.cl,T.n_reach,lr,(rdI rfl (ex4 l (z08 had) r _ ⟨rfl,.inr (SqT.of e3),h60,cM (z2e had) (by decide),fun d H4 s4 e4=>?_⟩))⟩))
  have e:=k H4 (s1.trans (s2.trans (s3.trans s4)))
  unfold z0P at e
  rw[if_neg (by lia)] at e
  refine(rdI rfl (ex2 d _ ⟨rfl,.inr (SqT.of e4),(ex2 _ _ ⟨rfl,rfl,(rdI rfl ?_)⟩)⟩))
  rw[bA]
  refine B9 (fun c=>?_) (fun c=>?_)
  ·have c2:=z0K c
   rw[if_neg (fun z=>by rw[z93.mpr z] at c2;exact absurd c2 (by decide))] at e
   exact e
  ·have c2:=z3Z c
   rw[if_pos (z93.mp (j9.mp (by lia)))] at e
   exact e
theorem y3l(had:List Int):z08 (z08 had)=z08 had:=z1P (z16 _) (z16 _) fun x=>by
 rw[z0Q,z0Q]
 exact⟨fun h=>h.2,fun h=>⟨h.1,h⟩⟩
noncomputable def z5C(Sh:ShP):Sp:=fun vs H Q _=>∃(x:Addr) (z:Str) (fp:List Addr) (nm:List Str) (r:Int) (rows:List Row) (had:List Int),vs=[.ref x,.str z]/\Sh H x fp nm r (fun n=>z10 rows n r) had/\z∈nm/\E2 nm/\Rws nm rows/\rows.length≤60/\(∀n∈had,1≤n/\n≤rows.length)/\0≤r/\r≤10/\
 ∀(q:Addr) (y:V) (H':Hp),B0 H H'->H' q=some (.tup [.str (z0P (z08 had) rows r (z0N (z0y (z08 had) rows z)) z),.int (z0N (z0y (z08 had) rows z)),y])->B2 H' (z9f (z0y (z08 had) rows z)) y->Q (.ref q) H'
theorem y1a{A0:Addr}(M:Bl mg)(F:Fun K "state_and_held" "state_and_held" z3m f fd)(C2:Cal P w K mg base 2 "held_for" z2T (z3d (ShD K A0)))
  (C8:Cal P w K mg base 5 "state_of" z3q (z40 (ShD K A0))):B4 P w K mg base CX0 6 f fd z2x (z5C (ShD K A0)):=by
 have nd:=z4v.nd
 refine F.ok z4v (fun vs H Q E h=>?_) (fun cdv A outer s H vs Q E hr h=>?_)
 ·obtain⟨x,z,fp,nm,r,rows,had,rfl,_⟩:=h
  rfl
 obtain⟨x,z,fp,nm,r,rows,had,rfl,sh,hz,gn,R,l60,hh,r0,r1,k⟩:=h
 refine⟨_,(z05 (z0i (z0r (z7T (K:=K) rfl) (z0U (z00 (z0g C8 (rm hr) rfl (z00 (pv 0) (z00 (pv 1) z02))) z02)) (z0g C2 (rm hr) rfl (z00 (pv 0) (z00 (pv 1) z02)))))),?_⟩
 refine(rdI rfl (rdI rfl (ex7 x z fp nm r rows had ⟨rfl,sh,hz,gn,R,l60,hh,r0,r1,fun H1 s1=>?_⟩)))
 refine⟨(by show 1≤sizeLine;decide),fun a ha=>?_⟩
 have g2:=s1.trans (z01 ha (.tup [.str (z0P (z08 had) rows r (z0N (z0y (z08 had) rows z)) z)]))
 have e2:upd H1 a (.tup [.str (z0P (z08 had) rows r (z0N (z0y (z08 had) rows z)) z)]) a=some (.tup [.str (z0P (z08 had) rows r (z0N (z0y (z08 had) rows z)) z)]):=z03
 generalize upd H1 a (.tup [.str (z0P (z08 had) rows r (z0N (z0y (z08 had) rows z)) z)])=H2 at g2 e2
 refine(rdI rfl (rdI rfl (ex7 x z fp nm r rows had ⟨rfl,F2.same sh g2,hz,gn,R,fun v H3 s3 tv=>?_⟩)))
 obtain⟨b,y,rfl,eb,tb⟩:=z3a tv
 exact(ex4 a b _ _ ⟨rfl,rfl,SqT.of (s3 _ _ e2),SqT.of eb,by simp,(by show 3≤sizeLine;decide),fun z=>(nomatch z),fun _ q hq=>k q y _ (g2.trans (s3.trans (z01 hq _))) z03 (B2.keep (z01 hq _) _ _ tb)⟩)
theorem y1e{A0:Addr}(M:Bl mg)(T:D7 K mg A0)(F:Fun K "knowledge" "knowledge" z6T f fd)(D3:Cal P w K mg base 6 "state_and_held" z2x (z5C (ShD K A0))):B4 P w K mg base CX0 7 f fd z6U (y6I (ShD K A0)):=by
 have nd:=z8c.nd
 refine F.ok z8c (fun vs H Q E h=>?_) (fun cdv A outer s H vs Q E hr h=>?_)
 ·obtain⟨x,fp,nm,r,rows,had,rfl,_⟩:=h
  rfl
 obtain⟨x,fp,nm,r,rows,had,rfl,sh,gn,R,l60,hh,r0,r1,k⟩:=h
 refine⟨_,(z05 (z0i (z0t z0p rfl M.tuple bH (z00 (z1c ["name"] ["shelf"] [0] rfl (z0v rfl (by decide +kernel) rfl (by decide +kernel) rfl rfl) (z26 (z0M (pv 0) rfl)) (fun _ _ _ _ _=>(z0j (i:=0) (show((["name"]:List PySem.Str)++(["shelf"]:List PySem.Str)).Nodup from by decide +kernel) rfl (Or.inl rfl))) (z0x (by decide)) z0h (fun _ _ _ _ _=>z1W) (fun _ _ _ _ _=>(z0r (z7T (K:=K) rfl) (z0U (z00 (pv 0) z02)) (z0g D3 (rm hr) rfl (z00 (pv 1) (z00 (pv 0) z02)))))) z02)))),?_⟩
 obtain⟨dx,pn,fs,h1,h3,ln⟩:∃dx pn fs,H x=some (.ins A0 dx fs)/\H pn=some (.tup (nm.map V.str))/\fs.lookup ("names":Str)=some (V.ref pn):=by
  obtain⟨dx,pn,pd,fs,kvs,_,h1,_,h3,_,l1,_⟩:=sh
  exact⟨dx,pn,fs,h1,h3,l1⟩
 have n12:=gn.hi
 refine(rdI rfl (ex5 x A0 dx fs _ ⟨rfl,h1,T.cl,T.n_names,ln,pn,rfl,⟨_,SqT.of h3⟩,?_⟩))
 refine z1A (xs:=nm.map V.str) (fun i ys H'=>B0 H H'/\z0a H' ((nm.take i).map (X4 (z08 had) rows r)) ys) ⟨B0.refl _,by rw[cZ];exact .nil⟩ (fun i ys H' hi hp=>?_) (fun i y ys H' hy hp=>?_) (fun ys H' hp=>?_)
 ·obtain⟨g,t⟩:=hp
  refine⟨SqT.of (g _ _ h3),z0f ?_⟩
  rw[t.length,bA,bI]
  lia
 ·obtain⟨g,t⟩:=hp
  rw[bE] at hy
  obtain⟨z,ez,rfl⟩:=bY.mp hy
  have hz:=bS ez
  have sh1:=F2.same sh g
  refine(rdI rfl ⟨(by show 1≤sizeLine;decide),fun a ha=>?_⟩)
  have g2:=z01 ha (.tup [.str z])
  have e2:upd H' a (.tup [.str z]) a=some (.tup [.str z]):=z03
  generalize upd H' a (.tup [.str z])=H2 at g2 e2
  refine(rdI rfl (rdI rfl (ex7 x z fp nm r rows had ⟨rfl,F2.same sh1 g2,hz,gn,R,l60,hh,r0,r1,fun b y H3 s3 eb tb=>?_⟩)))
  refine(ex4 a b _ _ ⟨rfl,rfl,SqT.of (s3 _ _ e2),SqT.of eb,by simp,(by show 4≤sizeLine;decide),fun z=>(nomatch z),fun _ q hq=>⟨g.trans (g2.trans (s3.trans (z01 hq _))),?_⟩⟩)
  rw[eZ,ez,bG]
  refine z0a.snoc (z0a.keep (g2.trans (s3.trans (z01 hq _))) _ _ t) ?_
  unfold X4
  rw[y3l]
  exact z0s z03 (by show 4≤1000000;decide) (.cons (z2h _) (.cons (z2h _) (.cons (z0E _) (.cons (B2.keep (z01 hq _) _ _ tb) .nil))))
 ·obtain⟨g,t⟩:=hp
  rw[bA,bR] at t
  intro D hD
  refine(ex2 D ys ⟨rfl,.inl ⟨SqL.of z03,fun q hq=>k _ _ (g.trans ((z01 hD _).trans (z01 hq _))) (z0s z03 ?_ (z0a.keep ((z01 hD _).trans (z01 hq _)) _ _ t))⟩⟩)
  rw[bA]
  lia
theorem w1P(m:Nat):(dnI (m:Int) m).reverse=upI 1 m:=by
 refine List.ext_getElem? fun i=>?_
 have ld:(dnI (m:Int) m).length=m:=y1x _ _
 by_cases h:i<m
 ·rw[jN (by rw[ld];exact h),ld]
  unfold dnI upI
  rw[bE,bE,fF (by lia),fF h]
  show some ((m:Int)-((m-1-i:Nat):Int))=some (1+(i:Int))
  exact congrArg some (by lia)
 ·rw[jO (by rw[gJ,ld];lia),jO (by rw[z0S];lia)]
noncomputable def wrN(log:List C0):Nat:=(log.filter fun d=>d.1.isNone).length
theorem z2R(log:List C0)(d:C0):wrN (log++[d])=wrN log+(if d.1.isNone then 1 else 0):=by
 unfold wrN
 rw[dM,bL,dP]
 split<;>rfl
theorem y6X(log:List C0):wrN log≤log.length:=cJ _ _
noncomputable def y6T(k:Int)(log:List C0)(d:C0):Prop:=match d with
 | (none,n)=>n=(wrN log:Int)+1/\wrN log<60
 | (some rd,n)=>1≤rd/\rd≤k/\1≤n/\n≤(wrN log:Int)
noncomputable def z4E(k:Int)(log:List C0):Prop:=∀i d,log[i]? = some d->y6T k (log.take i) d
theorem z4E.nil(k:Int):z4E k []:=fun i d e=>by simp at e
theorem z4E.snoc{k:Int}{log:List C0}{d:C0}(h:z4E k log)(n:y6T k log d):z4E k (log++[d]):=fun i e he=>by
 rcases Nat.lt_or_ge i log.length with q|q
 ·rw[dE q] at he
  rw[List.take_append_of_le_length (dR q)]
  exact h i e he
 ·rw[dC q] at he
  have hi:i-log.length=0:=by
   have:=(bX.mp he).1
   rw[dH] at this
   lia
  rw[hi] at he
  cases he
  have:i=log.length:=by lia
  rw[this,List.take_left]
  exact n
theorem z60{H H':Hp}{l t:Addr}{us:List V}{log:List C0}(d:C0)(s:B0 H H')(nl:H l=none)(el:H' l=some (.lst us))(pr:Paired (z1y H') us log)(ht:H' t=none) :
  B0 H (upd (upd H' t (.tup (z2t d))) l (.lst (us++[.ref t])))/\upd (upd H' t (.tup (z2t d))) l (.lst (us++[.ref t])) l=some (.lst (us++[.ref t]))/\Paired (z1y (upd (upd H' t (.tup (z2t d))) l (.lst (us++[.ref t])))) (us++[.ref t]) (log++[d]):=by
 have s1:=z01 ht (.tup (z2t d))
 have e1:=s1 _ _ el
 have k1:∀{b:Addr}{xs:List V},upd H' t (.tup (z2t d)) b=some (.tup xs)->upd (upd H' t (.tup (z2t d))) l (.lst (us++[.ref t])) b=some (.tup xs):=fun q=>by
  rw[z0l (z4x q e1 (fun z=>by cases z))]
  exact q
 refine⟨z2g (s.trans s1) nl,z03,hU (L2.Paired.T8 pr fun u d' ⟨b,e,q⟩=>⟨b,e,k1 (s1 _ _ q)⟩) ⟨t,rfl,k1 z03⟩⟩
theorem K3.keep{H H':Hp}{us:List V}{log:List C0}(s:B0 H H')(h:Paired (z1y H) us log):Paired (z1y H') us log:=
 L2.Paired.T8 h fun u d ⟨b,e,q⟩=>⟨b,e,s _ _ q⟩
theorem w0r{k:Int}{log:List C0}(h:z4E k log):∀i,wrN (log.take i)≤60
 | 0=>cW _
 | i+1=>by
  have ih:=w0r h i
  cases e:log[i]? with
  | none=>
   rw[eZ,e]
   simpa using ih
  | some d=>
   have ok:=h i d e
   rw[z0n e,z2R]
   obtain⟨a,n⟩:=d
   cases a with
   | none=>
    have:wrN (log.take i)<60:=ok.2
    show wrN (log.take i)+1≤60
    lia
   | some rd=>exact ih
noncomputable def y8L:C0->DV
 | (none,n)=>.tup [.str "write",.int n]
 | (some r,n)=>.tup [.str "deliver",.int r,.int n]
theorem y4x{H:Hp}{u:V}{d:C0}(h:z1y H u d):B2 H (y8L d) u:=by
 obtain⟨b,rfl,e⟩:=h
 obtain⟨a,n⟩:=d
 cases a with
 | none=>exact z0s e (by show 2≤1000000;decide) (.cons (z2h _) (.cons (z0E _) .nil))
 | some r=>exact z0s e (by show 3≤1000000;decide) (.cons (z2h _) (.cons (z0E _) (.cons (z0E _) .nil)))
theorem y4a{H:Hp}:∀{us:List V}{log:List C0},Paired (z1y H) us log->∀(i:Nat) (d:C0),log[i]? = some d->∃u,us[i]? = some u/\z1y H u d:=by
 intro us log h
 induction h with
 | nil=>intro i d e;simp at e
 | cons h t ih=>
  intro i d e
  cases i with
  | zero=>
   simp at e
   subst e
   exact(rdI rfl h)
  | succ i=>
   obtain⟨u,q1,q2⟩:=ih i d (by simpa using e)
   exact⟨u,by simpa using q1,q2⟩
noncomputable def y37(Bk:BkP):Sp:=fun vs H Q _=>∃(p:Addr) (fp:List Addr) (zs:List Str) (r k:Int) (rows:List Row) (log:List C0),vs=[.ref p]/\Bk H p fp zs r k rows log/\∀H',B0 H H'->Q (.int rows.length) H'
noncomputable def y46(Bk:BkP):Sp:=fun vs H Q _=>∃(p:Addr) (fp:List Addr) (zs:List Str) (r k:Int) (rows:List Row) (log:List C0) (n:Int),vs=[.ref p,.int n]/\Bk H p fp zs r k rows log/\1≤n/\n≤rows.length/\
 ∀(v:V) (H':Hp),B0 H H'->B2 H' (z10 rows n r) v->Q v H'
noncomputable def y5T(Bk:BkP):Sp:=fun vs H Q _=>∃(p:Addr) (fp:List Addr) (zs:List Str) (r k:Int) (rows:List Row) (log:List C0) (i:Nat) (d:C0),vs=[.ref p,.int ((i:Int)+1)]/\Bk H p fp zs r k rows log/\log[i]? = some d/\
 ∀v,B2 H (y8L d) v->Q v H
theorem y1s{B1 A6:Addr}(M:Bl mg)(T:L9 K mg B1)(F:Fun K "latest" "Book.latest" z4A f fd)(L3:D9 P w K mg base 1 A6 "latest" z3I (z9K (OfD K A6))):B4 P w K mg base CX0 2 f fd z7H (y37 (BkD K B1 A6)):=by
 have nd:=z63.nd
 refine F.ok z63 (fun vs H Q E h=>?_) (fun cdv A outer s H vs Q E hr h=>?_)
 ·obtain⟨p,fp,zs,r,k,rows,log,rfl,_⟩:=h
  rfl
 obtain⟨p,fp,zs,r,k,rows,log,rfl,⟨dx,po,pd,fs,fo,us,rfl,B⟩,q⟩:=h
 refine⟨_,(z05 (z0i (z1C L3 (rm hr) (z0M (pv 0) rfl)))),?_⟩
 obtain⟨dxo,pno,plo,fso,xso,efo,h1,h2,h3,h4,l1,l2,l3,lmo,_⟩:=id B.of
 exact(rdI rfl (ex5 p B1 dx fs _ ⟨rfl,B.hp,T.cl,T.n_office,B.lo,(ex3 po dxo fso ⟨rfl,h1,lmo _ (by simp),(ex5 po fo zs r rows ⟨rfl,B.of,q⟩)⟩)⟩))
theorem y3d{B1 A6:Addr}(M:Bl mg)(T:L9 K mg B1)(F:Fun K "issue" "Book.issue" z5Q f fd)(C6:D9 P w K mg base 1 A6 "issue" z2u (z6m (OfD K A6))):B4 P w K mg base CX0 2 f fd z8b (y46 (BkD K B1 A6)):=by
 have nd:=z7L.nd
 refine F.ok z7L (fun vs H Q E h=>?_) (fun cdv A outer s H vs Q E hr h=>?_)
 ·obtain⟨p,fp,zs,r,k,rows,log,n,rfl,_⟩:=h
  rfl
 obtain⟨p,fp,zs,r,k,rows,log,n,rfl,⟨dx,po,pd,fs,fo,us,rfl,B⟩,n1,n2,q⟩:=h
 refine⟨_,(z05 (z0i (z1J C6 (rm hr) (z0M (pv 0) rfl) (z00 (pv 1) z02)))),?_⟩
 obtain⟨dxo,pno,plo,fso,xso,efo,h1,h2,h3,h4,l1,l2,l3,lmo,_⟩:=id B.of
 exact(rdI rfl (ex5 p B1 dx fs _ ⟨rfl,B.hp,T.cl,T.n_office,B.lo,(ex3 po dxo fso ⟨rfl,h1,lmo _ (by simp),(rdI rfl (ex6 po fo zs r rows n ⟨rfl,B.of,n1,n2,q⟩))⟩)⟩))
theorem y3X{B1 A6:Addr}(M:Bl mg)(T:L9 K mg B1)(F:Fun K "deed" "Book.deed" z77 f fd):B4 P w K mg base CX0 1 f fd z9J (y5T (BkD K B1 A6)):=by
 have nd:=z8J.nd
 refine F.ok z8J (fun vs H Q E h=>?_) (fun cdv A outer s H vs Q E hr h=>?_)
 ·obtain⟨p,fp,zs,r,k,rows,log,i,d,rfl,_⟩:=h
  rfl
 obtain⟨p,fp,zs,r,k,rows,log,i,d,rfl,⟨dx,po,pd,fs,fo,us,rfl,B⟩,ed,q⟩:=h
 refine⟨_,(z04 (z0C (PW.pt (z38 (z0c z8l (pv 1) z06 (z0m _)) (z24 (z0c z2o (pv 1) (z0b z09 rfl M.len bN (z00 (z0M (pv 0) rfl) z02)) (z0m _))))) (z05 z1S) z0k) (z05 (z0i (z0A z1j (z0M (pv 0) rfl) (z0r z25 (pv 1) z06) (fun _ _=>rfl))))),?_⟩
 have lu:=z1q B.ds
 have hi:=(bX.mp ed).1
 obtain⟨u,eu,du⟩:=y4a B.ds i d ed
 have av:atI us ((i:Int)+1-1)=some u:=by
  rw[Int.add_sub_cancel]
  exact z0V eu
 refine(rdI rfl (ex2 _ _ ⟨rfl,rfl,(rdI rfl (B9 (fun q=>absurd (z0K q) (by lia)) fun _=>?_))⟩))
 refine(rdI rfl (rdI rfl (ex5 p B1 dx fs _ ⟨rfl,B.hp,T.cl,T.n_done,B.ld,(ex2 pd us ⟨rfl,.inl (SqL.of B.hd),(ex2 _ _ ⟨rfl,rfl,(rdI rfl (B9 (fun q=>absurd (z0K q) (by lia)) fun _=>?_))⟩)⟩)⟩)))
 exact(rdI rfl (ex5 p B1 dx fs _ ⟨rfl,B.hp,T.cl,T.n_done,B.ld,(rdI rfl (ex2 _ _ ⟨rfl,rfl,(ex4 pd us _ u ⟨rfl,rfl,SqL.of B.hd,av,q u (y4x du)⟩)⟩))⟩))
noncomputable def y64(K:PySem.W.Frag):Sp:=fun vs H Q _=>∃(a:Addr) (ns:List Int),vs=[.ref a]/\SqL K H a (ns.map V.int)/\ns.length≤63/\∀H',Q (.bl true) H'
theorem y6G{nm:List Str}{rows:List Row}(R:Rws nm rows)(h:nm.length≤12):∀w∈rows,w.length≤12:=fun w hw=>by
 have:=(R.sub w hw).length_le
 rw[bA] at this
 lia
theorem y02{xs:List V}{k:Nat}(h:k≤xs.length):K6 xs none (some (k:Int))=xs.take k:=by
 unfold K6
 have e1:HT.sIx xs.length 0 none=0:=rfl
 have e2:HT.sIx xs.length xs.length (some (k:Int))=k:=by
  rw[HT.z6K,hW h]
 rw[e1,e2,fH,gY]
theorem y0j{xs:List V}{k:Nat}(h:k≤xs.length):K6 xs (some (k:Int)) none=xs.drop k:=by
 unfold K6
 have e1:HT.sIx xs.length xs.length none=xs.length:=rfl
 have e2:HT.sIx xs.length 0 (some (k:Int))=k:=by
  rw[HT.z6K,hW h]
 rw[e1,e2,cP]
 rw[dY]
 exact bJ _
theorem y2X{rows:List Row}{z:Str}:∀(ns:List Int),ns.Pairwise (· < ·)->(z0y ns rows z=none/\∀n∈ns,J2 (z0D rows n) z=none)\/∃n v,z0y ns rows z=some (n,v)/\n∈ns/\J2 (z0D rows n) z=some v/\∀m∈ns,n<m->J2 (z0D rows m) z=none:=by
 intro ns
 have rev:∀(l:List Int),l.reverse.Pairwise (· < ·)->(z0y l.reverse rows z=none/\∀n∈l.reverse,J2 (z0D rows n) z=none)\/∃n v,z0y l.reverse rows z=some (n,v)/\n∈l.reverse/\J2 (z0D rows n) z=some v/\∀m∈l.reverse,n<m->J2 (z0D rows m) z=none:=by
  intro l
  induction l with
  | nil=>intro _;exact .inl ⟨rfl,fun _ h=>(nomatch h)⟩
  | cons x l ih=>
   intro p
   rw[List.reverse_cons] at p ⊢
   obtain⟨p1,_,p2⟩:=d8.mp p
   rw[z6Z]
   cases ev:J2 (z0D rows x) z with
   | some v=>
    refine .inr (ex2 x v ⟨rfl,cK _ (bC.mpr rfl),ev,fun m hm h=>?_⟩)
    rcases cH.mp hm with hm|hm
    ·have:=p2 m hm x (bC.mpr rfl)
     lia
    ·have:=bC.mp hm
     lia
   | none=>
    rcases ih p1 with ⟨h1,h2⟩|⟨n,v,h1,h2,h3,h4⟩
    ·refine .inl ⟨h1,fun n hn=>?_⟩
     rcases cH.mp hn with hn|hn
     ·exact h2 n hn
     ·rw[bC.mp hn]
      exact ev
    ·refine .inr ⟨n,v,h1,d7 _ h2,h3,fun m hm h=>?_⟩
     rcases cH.mp hm with hm|hm
     ·exact h4 m hm h
     ·rw[bC.mp hm]
      exact ev
 intro h
 have:=rev ns.reverse
 rw[h9] at this
 exact this h
theorem y6d{w:Row}{z:Str}(h:z∈z0H w):∃v,J2 w z=some v:=by
 cases e:J2 w z with
 | some v=>exact⟨v,rfl⟩
 | none=>
  refine absurd h ?_
  have go:∀(w:Row),J2 w z=none->z∉z0H w:=by
   intro w
   induction w with
   | nil=>intro _ h;exact(nomatch h)
   | cons p w ih=>
    intro hz
    rw[z8W] at hz
    unfold z0H
    rw[cV,bF,not_or]
    cases e2:J2 w z with
    | some v=>rw[e2] at hz;cases hz
    | none=>
     rw[e2] at hz
     refine⟨fun e3=>?_,ih e2⟩
     have hz':(if p.1=z then some p.2 else none)=none:=hz
     rw[if_pos e3.symm] at hz'
     cases hz'
  exact go w e
noncomputable def O2:Option (List Str)->DV
 | none=>.non
 | some zs=>L7 zs
noncomputable def z1U(hs:List Int)(rows:List Row)(r n:Int):Option (List Str):=if n∈hs\/z0J hs n r≠0 then some (z0H (z0D rows n)) else none
noncomputable def z0O(m:Nat)(hs:List Int)(rows:List Row)(r:Int):List (Option (List Str)):=(upI 1 m).map (z1U hs rows r)
noncomputable def z3X(had:List Int)(m:Nat):Prop:=((m:Int)∈had\/(had=[]/\m=0))/\∀y∈had,y≤(m:Int)
theorem z0Z(m:Nat)(hs:List Int)(rows:List Row)(r:Int):(z0O m hs rows r).length=m:=by
 unfold z0O
 rw[bA,z0S]
theorem z3X.same{a b:List Int}{m:Nat}(h:z3X a m)(e:∀x,x∈b↔x∈a):z3X b m:=by
 refine⟨?_,fun y hy=>h.2 y ((e y).mp hy)⟩
 rcases h.1 with q|⟨q,q0⟩
 ·exact .inl ((e _).mpr q)
 ·refine .inr ⟨List.eq_nil_iff_forall_not_mem.mpr fun x hx=>?_,q0⟩
  have:=(e x).mp hx
  rw[q] at this
  cases this
theorem z3X.le{a:List Int}{m:Nat}{k:Int}(h:z3X a m)(hk:0≤k)(ha:∀x∈a,x≤k):(m:Int)≤k:=by
 rcases h.1 with q|⟨_,q⟩
 ·exact ha _ q
 ·lia
theorem y8M{nm:List Str}{rows:List Row}(R:Rws nm rows)(gn:E2 nm)(n:Int):(z0H (z0D rows n)).length≤12:=by
 have:=y1W gn R n
 unfold z0H
 rw[bA]
 exact this
theorem y79(hs:List Int)(h:∀x∈hs,1≤x/\x≤60):∃m:Nat,z3X hs m:=by
 induction hs with
 | nil=>exact⟨0,.inr ⟨rfl,rfl⟩,fun _ q=>(nomatch q)⟩
 | cons x xs ih=>
  obtain⟨m,t⟩:=ih fun y hy=>h y (cG _ hy)
  have hx:=h x cI
  by_cases c:(m:Int)≤x
  ·refine⟨x.toNat,.inl ?_,fun y hy=>?_⟩
   ·rw[show((x.toNat:Nat):Int)=x by lia]
    exact cI
   ·rcases bF.mp hy with rfl|hy
    ·lia
    ·have:=t.2 y hy
     lia
  ·refine⟨m,.inl ?_,fun y hy=>?_⟩
   ·rcases t.1 with q|⟨_,q⟩
    ·exact cG _ q
    ·lia
   ·rcases bF.mp hy with rfl|hy
    ·lia
    ·exact t.2 y hy
noncomputable def y1U(Sh:ShP):Sp:=fun vs H Q _=>∃(x:Addr) (fp:List Addr) (nm:List Str) (r:Int) (iss:Int->DV) (had:List Int),vs=[.ref x]/\Sh H x fp nm r iss had/\(∀n∈had,1≤n/\n≤60)/\
 ∀(H':Hp),B0 H H'->Q (.int (2^((z1d (z08 had) r).length*nm.length))) H'
theorem y8q(M:Bl mg)(F:Fun K "two_to_the" "two_to_the" z5W f fd):B4 P w K mg base CX0 1 f fd z46 z3o:=by
 have nd:=z7v.nd
 refine F.ok z7v (fun vs H Q E h=>?_) (fun cdv A outer s H vs Q E hr h=>?_)
 ·obtain⟨t,rfl,_⟩:=h
  rfl
 obtain⟨t,rfl,t0,t1,q⟩:=h
 refine⟨_,(z04 (z0o (i:=1) nd rfl (Or.inl rfl) z06) (z04 (z0W bT rfl (z1p rfl M.range (z00 (pv 0) z02)) (z0j (i:=2) nd rfl (Or.inl rfl)) (z05 (z0o (i:=1) nd rfl (Or.inl rfl) (z0r z3P (pv 1) z06)))) (z05 (z0i (pv 1))))),?_⟩
 refine(rdI rfl (rdI rfl ⟨by lia,by lia,?_⟩))
 refine z15 (lo:=0) (n:=t.toNat) (fun i σ H'=>H'=H/\∃o,σ=[some (.int t),some (.int (2^i)),o]) ⟨rfl,_,rfl⟩ (fun i σ H' hi hp=>?_) (fun σ H' hp=>?_)
 ·obtain⟨rfl,o,rfl⟩:=hp
  refine(rdI rfl (ex2 _ _ ⟨rfl,rfl,.inr ⟨by decide,by decide⟩,rfl,some (.int (0+(i:Int))),?_⟩))
  rw[Int.pow_succ]
  rfl
 ·obtain⟨rfl,o,rfl⟩:=hp
  exact(rdI rfl q)
theorem y5H{A0:Addr}(M:Bl mg)(T:D7 K mg A0)(F:Fun K "course_count" "course_count" z4e f fd)(B3:D9 P w K mg base 1 A0 "had" z1l (z3c (ShD K A0)))
  (D2:Cal P w K mg base 3 "dark_numbers" z2y (y2I K)) (J1:Cal P w K mg base 1 "two_to_the" z46 z3o):B4 P w K mg base CX0 4 f fd z39 (y1U (ShD K A0)):=by
 have nd:=z5j.nd
 refine F.ok z5j (fun vs H Q E h=>?_) (fun cdv A outer s H vs Q E hr h=>?_)
 ·obtain⟨x,fp,nm,r,iss,had,rfl,_⟩:=h
  rfl
 obtain⟨x,fp,nm,r,iss,had,rfl,sh,hh,k⟩:=h
 refine⟨_,(z04 (z0o (i:=1) nd rfl (Or.inl rfl) (z0g D2 (rm hr) rfl (z00 (z1C B3 (rm hr) (pv 0)) (z00 (z0M (pv 0) rfl) z02)))) (z05 (z0i (z0g J1 (rm hr) rfl (z00 (z0r z3P (z0b z09 rfl M.len bN (z00 (pv 1) z02)) (z0b z09 rfl M.len bN (z00 (z0M (pv 0) rfl) z02))) z02))))),?_⟩
 obtain⟨dx,pn,fs,h1,h3,ln,lr,lm,gn⟩:∃dx pn fs,H x=some (.ins A0 dx fs)/\H pn=some (.tup (nm.map V.str))/\fs.lookup ("names":Str)=some (V.ref pn)/\fs.lookup ("reach":Str)=some (V.int r)/\fs.lookup ("had":Str)=none/\E2 nm:=by
  obtain⟨dx,pn,pd,fs,kvs,_,h1,_,h3,_,l1,l2,_,lm,_,_,_,_,gn,_⟩:=sh
  exact⟨dx,pn,fs,h1,h3,l1,l2,lm _ (by simp),gn⟩
 have h60:∀n∈z08 had,1≤n/\n≤60:=fun n hn=>hh n (z0Q.mp hn).2
 refine(rdI rfl (ex3 x dx fs ⟨rfl,h1,lm,(ex6 x fp nm r _ had ⟨rfl,sh,fun l H1 s1 e1=>?_⟩)⟩))
 refine(rdI rfl (ex5 x A0 dx fs _ ⟨rfl,s1 _ _ h1,T.cl,T.n_reach,lr,(ex3 l (z08 had) r ⟨rfl,.inr (SqT.of e1),h60,cM (z2e had) (by decide),fun d H2 s2 e2=>?_⟩)⟩))
 have s12:=s1.trans s2
 have ld:((z1d (z08 had) r).map V.int).length=(z1d (z08 had) r).length:=bA _
 have lm':(nm.map V.str).length=nm.length:=bA _
 have l60:=z3h (z08 had) r
 have n12:=gn.hi
 have lt:(z1d (z08 had) r).length*nm.length≤60*12:=k8 l60 n12
 refine(rdI rfl (ex2 d _ ⟨rfl,.inr (SqT.of e2),(rdI rfl (ex5 x A0 dx fs _ ⟨rfl,s12 _ _ h1,T.cl,T.n_names,ln,(ex2 pn _ ⟨rfl,.inr (SqT.of (s12 _ _ h3)),(ex2 _ _ ⟨rfl,rfl,?_,(rdI rfl ⟨?_,?_,?_⟩)⟩)⟩)⟩))⟩))
 ·rw[ld]
  exact .inl ⟨by lia,by lia⟩
 ·exact k9 (eV _) (eV _)
 ·rw[ld,lm',<- gQ]
  lia
 ·rw[ld,lm',<- gQ,eU]
  exact k H2 s12
theorem z7Z(ns:List Int)(r:Int):z1d ns r=(z1g ns).filter fun n=>decide (z0J ns n r=0):=by
 unfold z1d R8
 rw[List.filter_map,eF]
 exact List.map_id _
theorem y5i{ns:List Int}{r:Int}(i:Nat):(((upI 1 (i+1)).filter fun x=>!decide (x∈ns)).filter fun n=>decide (z0J ns n r=0))=(((upI 1 i).filter fun x=>!decide (x∈ns)).filter fun n=>decide (z0J ns n r=0))++(if (1:Int)+(i:Int)∈ns then [] else if z0J ns (1+(i:Int)) r=0 then [1+(i:Int)] else []):=by
 rw[z6t,dM]
 by_cases h:(1:Int)+(i:Int)∈ns
 ·rw[if_pos h,if_pos h]
  rfl
 ·rw[if_neg h,if_neg h,dP]
  by_cases c:z0J ns (1+(i:Int)) r=0
  ·rw[if_pos c,decide_eq_true c]
   rfl
  ·rw[if_neg c,decide_eq_false c]
   rfl
noncomputable def y1L(K:PySem.W.Frag):Sp:=fun vs H Q _=>∃(p:Addr) (ns:List Int) (r:Int),vs=[.ref p,.int r]/\H p=some (.lst (ns.map V.int))/\(∀x∈ns,1≤x/\x≤60)/\ns.length≤900/\0≤r/\
 ∀(l:Addr) (H':Hp),H l=none->B0 H H'->H' l=some (.lst ((z1d ns r).map V.int))->Q (.ref l) H'
theorem y61(M:Bl mg)(F:Fun K "_law_dark" "_law_dark" z75 f fd)(D6:Cal P w K mg base 1 "_law_teller" z2W (z66 K)):B4 P w K mg base CX0 2 f fd z59 (y1L K):=by
 have nd:=z8o.nd
 refine F.ok z8o (fun vs H Q E h=>?_) (fun cdv A outer s H vs Q E hr h=>?_)
 ·obtain⟨p,ns,r,rfl,_⟩:=h
  rfl
 obtain⟨p,ns,r,rfl,hP,C3,hlen,r0,q⟩:=h
 refine⟨_,(z04 (z0o (i:=2) nd rfl (Or.inl rfl) (z1m z02)) (z04 (z0W bT rfl (z3i rfl M.range (z00 z06 (z00 (z0b (z3t rfl) rfl M.max dB (z00 (z0r z9p (pv 0) (z1m (z00 z06 z02))) z02)) z02))) (z0j (i:=3) nd rfl (Or.inl rfl)) (z05 (z0C (PW.pt (z37 (z0c z1z (pv 3) (pv 0) (by with_unfolding_all rfl)) (z2m (z0c z28 (z0g D6 (rm hr) rfl (z00 (pv 0) (z00 (pv 3) (z00 (pv 1) z02)))) z06 (z0m _))))) (z05 (z0F (z2Z bV bU bW z0L (pv 2) (z00 (pv 3) z02)))) z0k))) (z05 (z0i (pv 2))))),?_⟩
 refine⟨(by show 0≤sizeLine;decide),fun lg hlg=>?_⟩
 have s1:=z01 hlg (.lst [])
 refine(rdI rfl ⟨(by show 1≤sizeLine;decide),fun l0 hl0=>(ex4 p l0 _ _ ⟨rfl,rfl,z01 hl0 _ _ _ (s1 _ _ hP),z03,?_,fun lc hlc=>?_⟩)⟩)
 ·rw[bA]
  exact dR (z0f (by show ns.length+1≤1000;lia))
 have s2:=s1.trans ((z01 hl0 (.lst [V.int 0])).trans (z01 hlc (.lst (ns.map V.int++[V.int 0]))))
 have eg:upd (upd (upd H lg (.lst [])) l0 (.lst [V.int 0])) lc (.lst (ns.map V.int++[V.int 0])) lg=some (.lst []):=(z01 hl0 _).trans (z01 hlc _) _ _ z03
 have ec:upd (upd (upd H lg (.lst [])) l0 (.lst [V.int 0])) lc (.lst (ns.map V.int++[V.int 0])) lc=some (.lst ((ns++[0]).map V.int)):=by
  rw[z03,bG]
  rfl
 generalize upd (upd (upd H lg (.lst [])) l0 (.lst [V.int 0])) lc (.lst (ns.map V.int++[V.int 0]))=H2 at s2 eg ec
 refine(ex2 lc (ns++[0]) ⟨rfl,.inl (SqL.of ec),by simp,fun m hm top=>?_⟩)
 have hm':m∈ns\/(ns=[]/\m=0):=by
  rcases cH.mp hm with h|h
  ·exact .inl h
  ·rw[bC] at h
   subst h
   cases ns with
   | nil=>exact .inr ⟨rfl,rfl⟩
   | cons x xs=>
    have h1:=top x (by simp)
    have h2:=C3 x cI
    lia
 have m60:0≤m/\m≤60:=by
  rcases hm' with h|⟨_,h⟩
  ·have:=C3 m h
   lia
  ·lia
 have w0t:∀y∈ns,y≤m:=fun y hy=>top y (d7 _ hy)
 refine(ex2 1 m ⟨rfl,⟨by decide,by decide,by lia,by lia⟩,?_⟩)
 refine z15 (lo:=1) (n:=(m-1).toNat) (fun i σ H'=>∃(o1:Option V),B0 H H'/\H' lg=some (.lst ((((upI 1 i).filter fun x=>!decide (x∈ns)).filter fun n=>decide (z0J ns n r=0)).map V.int))/\
   σ=[some (.ref p),some (.int r),some (.ref lg),o1]) ⟨none,s2,eg,rfl⟩ (fun i σ H' hi hp=>?_) (fun σ H' hp=>?_)
 ·obtain⟨o1,g,eG,rfl⟩:=hp
  have lz:((((upI 1 i).filter fun x=>!decide (x∈ns)).filter fun n=>decide (z0J ns n r=0)).map V.int).length≤i:=by
   rw[bA]
   have h1:=cJ (fun x=>!decide (x∈ns)) (upI 1 i)
   have h2:=cJ (fun n=>decide (z0J ns n r=0)) ((upI 1 i).filter fun x=>!decide (x∈ns))
   rw[z0S] at h1
   lia
  refine(rdI rfl (rdI rfl (ex2 p _ ⟨rfl,.inl (SqL.of (g _ _ hP)),rfl,z2c ns,(rdI rfl ?_)⟩)))
  rw[if_pos rfl,z2P,y5i]
  by_cases hin:(1:Int)+(i:Int)∈ns
  ·rw[decide_eq_true hin,if_pos hin,cX]
   exact B7 (B7 ⟨_,g,eG,rfl⟩)
  ·rw[decide_eq_false hin,if_neg hin]
   refine E8 (rdI rfl (rdI rfl (rdI rfl (ex4 p ns (1+(i:Int)) r ⟨rfl,SqL.of (g _ _ hP),C3,hlen,r0,fun H3 s3=>⟨rfl,(rdI rfl ?_)⟩⟩))))
   refine B9 (fun c=>?_) (fun c=>?_)
   ·have c0:z0J ns (1+(i:Int)) r=0:=by
     have:=z0K c
     injection this
    rw[if_pos c0,bG]
    refine(rdI rfl ⟨.inl ⟨rfl,_,SqL.of (s3 _ _ eG)⟩,(rdI rfl (ex3 lg _ _ ⟨rfl,rfl,s3 _ _ eG,z0f (by lia),?_⟩))⟩)
    exact⟨_,z2g (g.trans s3) hlg,z03,rfl⟩
   ·have c0:z0J ns (1+(i:Int)) r≠0:=fun e=>z3Z c (by rw[e])
    rw[if_neg c0,cX]
    exact⟨_,g.trans s3,s3 _ _ eG,rfl⟩
 ·obtain⟨o1,g,eG,rfl⟩:=hp
  rw[y1i hm' C3 w0t,<- z7Z] at eG
  exact(rdI rfl (q lg H' hlg g eG))
structure W3(ns:List Int)(r b:Int)(fs as:List Int):Prop where
 len:fs.length=as.length
 fr:fs.Pairwise (· < ·)
 ar:as.Pairwise fun x y=>x+r<y
 lack:∀x∈fs,x∈z1g ns
 cov:∀d∈z0R ns r b,∃x∈fs,d≤x/\x≤d+r
 mem:∀a∈as,a∈z0R ns r b
noncomputable def y4r(H:Hp)(v:V)(ns:List Int)(r b:Int):Prop:=∃(l lf la:Addr) (fs as:List Int),v=.ref l/\H l=some (.tup [.ref lf,.ref la])/\H lf=some (.tup (fs.map V.int))/\H la=some (.tup (as.map V.int))/\W3 ns r b fs as
noncomputable def y2x(K:PySem.W.Frag):Sp:=fun vs H Q _=>∃(p:Addr) (ns:List Int) (r b:Int),vs=[.ref p,.int r,.int b]/\SqI K H p ns/\(∀x∈ns,1≤x/\x≤60)/\ns.length≤900/\0≤r/\
 ∀(v:V) (H':Hp),B0 H H'->y4r H' v ns r b->Q v H'
theorem y3m{ns:List Int}{n r:Int}(C3:∀x∈ns,1≤x/\x≤60)(h:z0J ns n r=0):∀y∈ns,n<y->¬y-r≤n:=fun y hy h1 h2=>by
 unfold z0J at h
 cases e:(upI 1 60).find? (y1O ns n r) with
 | none=>exact kC.mp e y (z1i.mpr (by have:=C3 y hy;lia)) (z4Y.mpr ⟨h1,h2,hy⟩)
 | some t=>
  rw[e] at h
  have:=z1i.mp (hZ e)
  have h':t=0:=h
  lia
theorem y35{ns:List Int}{r n:Int}:n∈z1d ns r↔n∈z1g ns/\z0J ns n r=0:=by
 rw[z7Z,cO,decide_eq_true_eq]
theorem y4h{ns:List Int}{r n:Int}(C3:∀x∈ns,1≤x/\x≤60)(r0:0≤r)(h:n∈z1d ns r):n+r∈z1g ns:=by
 obtain⟨h1,h2⟩:=y35.mp h
 have z:=y3m C3 h2
 obtain⟨a,b,y,hy,c⟩:=z0X.mp h1
 have:=C3 y hy
 have:=z y hy c
 refine z0X.mpr ⟨by lia,fun hn=>?_,y,hy,by lia⟩
 rcases Int.lt_or_le n (n+r) with q|q
 ·exact z _ hn q (by lia)
 ·have e:n+r=n:=by lia
  rw[e] at hn
  exact b hn
structure Gr(ds:List Int)(r:Int)(as:List Int):Prop where
 ar:as.Pairwise fun x y=>x+r<y
 mem:∀a∈as,a∈ds
 cov:∀d∈ds,∃a∈as,a≤d/\d≤a+r
theorem Gr.add{ds:List Int}{r d:Int}{as:List Int}(g:Gr ds r as)(h:∀a∈as,a+r<d)(r0:0≤r):Gr (ds++[d]) r (as++[d]) where
 ar:=d8.mpr ⟨g.ar,fB _ _,fun x hx y hy=>by rw[bC.mp hy];exact h x hx⟩
 mem a ha:=by
  rcases cH.mp ha with ha|ha
  ·exact d7 _ (g.mem a ha)
  ·exact cK _ ha
 cov x hx:=by
  rcases cH.mp hx with hx|hx
  ·obtain⟨a,ha,q⟩:=g.cov x hx
   exact⟨a,d7 _ ha,q⟩
  ·rw[bC.mp hx]
   exact⟨d,cK _ (bC.mpr rfl),eX _,by lia⟩
theorem Gr.skip{ds:List Int}{r d a:Int}{as:List Int}(g:Gr ds r as)(ha:a∈as)(h1:a≤d)(h2:d≤a+r):Gr (ds++[d]) r as where
 ar:=g.ar
 mem a ha:=d7 _ (g.mem a ha)
 cov x hx:=by
  rcases cH.mp hx with hx|hx
  ·exact g.cov x hx
  ·rw[bC.mp hx]
   exact⟨a,ha,h1,h2⟩
theorem Gr.plan{ns:List Int}{r b:Int}{as:List Int}(g:Gr (z0R ns r b) r as)(C3:∀x∈ns,1≤x/\x≤60)(r0:0≤r):W3 ns r b (as.map (·+r)) as where
 len:=bA _
 fr:=by
  rw[eJ]
  exact g.ar.imp fun h=>by lia
 ar:=g.ar
 lack x hx:=by
  obtain⟨a,ha,rfl⟩:=cS.mp hx
  exact y4h C3 r0 (cO.mp (g.mem a ha)).1
 cov d hd:=by
  obtain⟨a,ha,h1,h2⟩:=g.cov d hd
  exact⟨a+r,cS.mpr ⟨a,ha,rfl⟩,h2,by lia⟩
 mem:=g.mem
theorem y32{as:List Int}(h:as≠[]):∃(init:List Int) (z:Int),as=init++[z]:=⟨as.dropLast,as.getLast h,(fI h).symm⟩
theorem y3M(M:Bl mg)(F:Fun K "fewest_numbers" "fewest_numbers" z3r f fd)(B6:Cal P w K mg base 4 "dark_numbers_behind" z17 (z7P K)):B4 P w K mg base CX0 5 f fd z3j (y2x K):=by
 have nd:=z4r.nd
 refine F.ok z4r (fun vs H Q E h=>?_) (fun cdv A outer s H vs Q E hr h=>?_)
 ·obtain⟨p,ns,r,b,rfl,_⟩:=h
  rfl
 obtain⟨p,ns,r,b,rfl,hS,C3,hlen,r0,q⟩:=h
 refine⟨_,(z04 (z0o (i:=3) nd rfl (Or.inl rfl) (z1m z02)) (z04 (z0o (i:=4) nd rfl (Or.inl rfl) (z1m z02)) (z04 (z0W bT rfl (z26 (z0g B6 (rm hr) rfl (z00 (pv 0) (z00 (pv 1) (z00 (pv 2) z02))))) (z0j (i:=5) nd rfl (Or.inl rfl)) (z05 (z0C (PW.pt (z38 (z0c z28 (z0b z09 rfl M.len bN (z00 (pv 3) z02)) z06 (z0m _)) (z24 (z0c z2o (pv 5) (z0A z1j (pv 3) (y1D z89 z06) (fun _ _=>rfl)) (z0m _))))) (z04 (z0F (z2Z bV bU bW z0L (pv 3) (z00 (z0r z1o (pv 5) (pv 1)) z02))) (z05 (z0F (z2Z bV bU bW z0L (pv 4) (z00 (pv 5) z02))))) z0k))) (z05 (z0i (z0U (z00 (z0t z0p rfl M.tuple bH (z00 (pv 3) z02)) (z00 (z0t z0p rfl M.tuple bH (z00 (pv 4) z02)) z02)))))))),?_⟩
 refine⟨(by show 0≤sizeLine;decide),fun lf hlf=>⟨(by show 0≤sizeLine;decide),fun la hla=>?_⟩⟩
 have s1:=(z01 hlf (.lst [])).trans (z01 hla (.lst []))
 have ef:upd (upd H lf (.lst [])) la (.lst []) lf=some (.lst []):=z01 hla _ _ _ z03
 have ea:upd (upd H lf (.lst [])) la (.lst []) la=some (.lst []):=z03
 have nfa:lf≠la:=z0q z03 hla
 have hla':H la=none:=(z01 hlf _).free hla
 generalize upd (upd H lf (.lst [])) la (.lst [])=H1 at s1 ef ea
 refine(rdI rfl (rdI rfl (rdI rfl (ex4 p ns r b ⟨rfl,SqI.keep s1 hS,C3,hlen,fun lt H2 s2 e2=>?_⟩))))
 have ld:(z0R ns r b).length≤60:=cM (cJ _ _) (z3h ns r)
 have rise:(z0R ns r b).Pairwise (· < ·):=by
  unfold z0R
  rw[z7Z]
  exact((z2N ns).filter _).filter _
 refine⟨lt,rfl,⟨_,SqT.of e2⟩,z4G (K:=K) (a:=lt) (xs:=(z0R ns r b).map V.int) (fun i σ H'=>∃(as:List Int) (o:Option V),B0 H H'/\H' lt=some (.tup ((z0R ns r b).map V.int))/\H' lf=some (.lst ((as.map (·+r)).map V.int))/\H' la=some (.lst (as.map V.int))/\as.length≤i/\Gr ((z0R ns r b).take i) r as/\
  σ=[some (.ref p),some (.int r),some (.int b),some (.ref lf),some (.ref la),o]) ⟨[],none,s1.trans s2,e2,s2 _ _ ef,s2 _ _ ea,bJ 0,⟨.nil,fun _ h=>(nomatch h),fun _ h=>(nomatch h)⟩,rfl⟩ (fun i σ H' _ hp=>?_) (fun i x σ H' hx hp=>?_) (fun σ H' hp=>?_)⟩
 ·obtain⟨as,o,g,e,_⟩:=hp
  exact SqT.of e
 ·obtain⟨as,o,g,e,e3,e4,li,G,rfl⟩:=hp
  rw[bE] at hx
  obtain⟨d,ed,rfl⟩:=bY.mp hx
  have hi:i<(z0R ns r b).length:=(bX.mp ed).1
  have lm1:((as.map (·+r)).map V.int).length=as.length:=by rw[bA,bA]
  have lm2:(as.map V.int).length=as.length:=bA _
  have up:(∀a∈as,a+r<d)->∃(as':List Int) (o:Option V),B0 H (upd (upd H' lf (.lst ((as.map (·+r)).map V.int++[V.int (d+r)]))) la (.lst (as.map V.int++[V.int d])))/\upd (upd H' lf (.lst ((as.map (·+r)).map V.int++[V.int (d+r)]))) la (.lst (as.map V.int++[V.int d])) lt=some (.tup ((z0R ns r b).map V.int))/\
    upd (upd H' lf (.lst ((as.map (·+r)).map V.int++[V.int (d+r)]))) la (.lst (as.map V.int++[V.int d])) lf=some (.lst ((as'.map (·+r)).map V.int))/\upd (upd H' lf (.lst ((as.map (·+r)).map V.int++[V.int (d+r)]))) la (.lst (as.map V.int++[V.int d])) la=some (.lst (as'.map V.int))/\as'.length≤i+1/\Gr ((z0R ns r b).take (i+1)) r as'/\
    [some (V.ref p),some (V.int r),some (V.int b),some (V.ref lf),some (V.ref la),some (V.int d)]=[some (V.ref p),some (V.int r),some (V.int b),some (V.ref lf),some (V.ref la),o]:=fun h=>by
   refine⟨as++[d],_,z2g (z2g g hlf) hla',?_,?_,?_,?_,?_,rfl⟩
   ·rw[z0l (z4x e e4 (by intro z;cases z)),z0l (z4x e e3 (by intro z;cases z))]
    exact e
   ·rw[z0l nfa,z03,bG,bG]
    rfl
   ·rw[z03,bG]
    rfl
   ·rw[bL]
    exact kN li
   ·rw[z0n ed]
    exact G.add h r0
  refine(rdI rfl (ex2 lf _ ⟨rfl,.inl (SqL.of e3),rfl,(rdI rfl ?_)⟩))
  rw[lm1]
  refine B9 (fun c=>?_) (fun c=>?_)
  ·have c0:as=[]:=j9.mp (by have:=z0K c;injection this with this;lia)
   refine(rdI rfl ⟨.inl ⟨rfl,_,SqL.of e3⟩,(rdI rfl (rdI rfl (ex2 _ _ ⟨rfl,rfl,(ex3 lf _ _ ⟨rfl,rfl,e3,z0f (by lia),?_⟩)⟩)))⟩)
   refine(rdI rfl ⟨.inl ⟨rfl,_,SqL.of (by rw[z0l (dG nfa)];exact e4)⟩,(rdI rfl (ex3 la _ _ ⟨rfl,rfl,(by rw[z0l (dG nfa)];exact e4),z0f (by lia),?_⟩))⟩)
   exact up fun a ha=>by rw[c0] at ha;cases ha
  ·have c0:as≠[]:=fun z=>c (by rw[z];rfl)
   obtain⟨init,z,ez⟩:=y32 c0
   refine(rdI rfl (rdI rfl (rdI rfl (ex4 lf _ _ (V.int (z+r)) ⟨rfl,rfl,SqL.of e3,(by rw[ez,bG,bG];exact z5d _ _),(ex2 _ _ ⟨rfl,rfl,(rdI rfl ?_)⟩)⟩))))
   have hz:z∈as:=by rw[ez];exact cK _ (bC.mpr rfl)
   refine B9 (fun c=>?_) (fun c=>?_)
   ·have c1:=z0K c
    refine(rdI rfl ⟨.inl ⟨rfl,_,SqL.of e3⟩,(rdI rfl (rdI rfl (ex2 _ _ ⟨rfl,rfl,(ex3 lf _ _ ⟨rfl,rfl,e3,z0f (by lia),?_⟩)⟩)))⟩)
    refine(rdI rfl ⟨.inl ⟨rfl,_,SqL.of (by rw[z0l (dG nfa)];exact e4)⟩,(rdI rfl (ex3 la _ _ ⟨rfl,rfl,(by rw[z0l (dG nfa)];exact e4),z0f (by lia),?_⟩))⟩)
    refine up fun a ha=>?_
    have hp:=G.ar
    rw[ez] at ha hp
    rcases cH.mp ha with h|h
    ·have:=(d8.mp hp).2.2 a h z (bC.mpr rfl)
     lia
    ·rw[bC.mp h]
     exact c1
   ·have c1:=z3Z c
    refine⟨as,_,g,e,e3,e4,by lia,?_,rfl⟩
    rw[z0n ed]
    refine G.skip hz ?_ (by lia)
    have h1:=G.mem z hz
    have h2:((z0R ns r b).take i++[d]).Pairwise (· < ·):=by
     rw[<- z0n ed]
     exact rise.sublist (kF _ _)
    exact Int.le_of_lt ((d8.mp h2).2.2 z h1 d (bC.mpr rfl))
 ·obtain⟨as,o,g,e,e3,e4,li,G,rfl⟩:=hp
  rw[bA,bR] at G
  refine(rdI rfl (ex2 lf _ ⟨rfl,.inl ⟨SqL.of e3,fun t1 ht1=>(rdI rfl (ex2 la _ ⟨rfl,.inl ⟨SqL.of (z01 ht1 _ _ _ e4),fun t2 ht2=>⟨(by show 2≤sizeLine;decide),fun t ht=>?_⟩⟩⟩))⟩⟩))
  exact q _ _ (g.trans ((z01 ht1 _).trans ((z01 ht2 _).trans (z01 ht _)))) (ex5 t t1 t2 _ _ ⟨rfl,z03,z01 ht _ _ _ (z01 ht2 _ _ _ z03),z01 ht _ _ _ z03,G.plan C3 r0⟩)
noncomputable def y6V(K:PySem.W.Frag):Sp:=fun vs H Q _=>∃(v:V) (p:Addr) (ns:List Int) (r b:Int),vs=[v,.ref p,.int r,.int b]/\y4r H v ns r b/\H p=some (.lst (ns.map V.int))/\(∀x∈ns,1≤x/\x≤60)/\ns.length≤900/\0≤r/\∀H',B0 H H'->Q (.bl true) H'
theorem y43{l:List Int}{R:Int->Int->Prop}(h:l.Pairwise R){i:Nat}{x y:Int}(h1:l[i]? = some x)(h2:l[i+1]? = some y):R x y:=by
 obtain⟨a1,e1⟩:=bX.mp h1
 obtain⟨a2,e2⟩:=bX.mp h2
 rw[<- e1,<- e2]
 exact fP.mp h i (i+1) a1 a2 (by lia)
theorem y7G(M:Bl mg)(F:Fun K "_law_plan" "_law_plan" z6Q f fd)(O1:Cal P w K mg base 1 "_law_whole" z5H y4C)(F7:Cal P w K mg base 2 "_law_dark" z59 (y1L K)):B4 P w K mg base CX0 3 f fd z6C (y6V K):=by
 have nd:=z8C.nd
 refine F.ok z8C (fun vs H Q E h=>?_) (fun cdv A outer s H vs Q E hr h=>?_)
 ·obtain⟨v,p,ns,r,b,rfl,_⟩:=h
  rfl
 obtain⟨v,p,ns,r,b,rfl,⟨l,lf,la,fs,as,rfl,hl,hf,ha,B⟩,hP,C3,hlen,r0,q⟩:=h
 refine⟨_,(z04 (z0C (PW.pt (z38 (z1V (z1N (z0b z0I rfl M.isinstance cC (z00 (pv 0) (z00 (z1F (v:=.ty "tuple") rfl M.tuple bH rfl) z02))))) (z24 (z0c z79 (z0b z09 rfl M.len bN (z00 (pv 0) z02)) z06 (z0m _))))) (z05 (z0i z1I)) z0k) (z04 (z0W bT rfl (z26 (pv 0)) (z0j (i:=4) nd rfl (Or.inl rfl)) (z04 (z0C (z1V (z1N (z0b z0I rfl M.isinstance cC (z00 (pv 4) (z00 (z1F (v:=.ty "tuple") rfl M.tuple bH rfl) z02))))) (z05 (z0i z1I)) z0k) (z05 (z0W bT rfl (z1p rfl M.range (z00 (z0b z09 rfl M.len bN (z00 (pv 4) z02)) z02)) (z0j (i:=5) nd rfl (Or.inl rfl)) (z05 (z0C (PW.pt (z38 (z1V (z1N (z0g O1 (rm hr) rfl (z00 (z0A z0w (pv 4) (pv 5) (fun _ _=>rfl)) z02)))) (z24 (PW.pt (z37 (z0c z2o (pv 5) z06 (z0m _)) (z2m (z0c y6q (z0A z0w (pv 4) (z0r z25 (pv 5) z06) (fun _ _=>rfl)) (z0A z0w (pv 4) (pv 5) (fun _ _=>rfl)) (z0m _)))))))) (z05 (z0i z1I)) z0k)))))) (z04 (z4g (i:=6) ["_law_number"] ["_law_behind"] [3] rfl nd rfl (Or.inl rfl) (z0v rfl (by decide +kernel) rfl (by decide +kernel) rfl rfl) (z1k (z0g F7 (rm hr) rfl (z00 (pv 1) (z00 (pv 2) z02)))) (fun _ _ _ _ _=>(z0j (i:=0) (show((["_law_number"]:List PySem.Str)++(["_law_behind"]:List PySem.Str)).Nodup from by decide +kernel) rfl (Or.inl rfl))) (z0x (by decide)) z0h (fun _ _ _ _ _=>(z2i (z0c z2o (pv 0) (pv 1) (z0m _)))) (fun _ _ _ _ _=>(pv 0))) (z04 (z0W bT rfl (z26 (z0A z0w (pv 0) z06 (fun _ _=>rfl))) (z0j (i:=7) nd rfl (Or.inl rfl)) (z05 (z0C (PW.pt (z38 (z0c z8l (pv 7) z06 (z0m _)) (z38 (z0c z2o (pv 7) (z0b (z3t rfl) rfl M.max dB (z00 (z0r z9p (pv 1) (z1m (z00 z06 z02))) z02)) (z0m _)) (z24 (z0c z3Q (pv 7) (pv 1) (by with_unfolding_all rfl)))))) (z05 (z0i z1I)) z0k))) (z04 (z0W bT rfl (z1k (pv 6)) (z0j (i:=8) nd rfl (Or.inr rfl)) (z05 (z0C (z0c (y6J hr.N9) (z1c ["_law_number"] ["_law_dark_here","_law_reach"] [8,2] rfl (z0v rfl (by decide +kernel) rfl (by decide +kernel) rfl rfl) (z26 (z0A z0w (pv 0) z06 (fun _ _=>rfl))) (fun _ _ _ _ _=>(z0j (i:=0) (show((["_law_number"]:List PySem.Str)++(["_law_dark_here","_law_reach"]:List PySem.Str)).Nodup from by decide +kernel) rfl (Or.inl rfl))) (z0x (by decide)) z0h (fun _ _ _ _ _=>(z2i (PW.pt (z37 (z0c y4s (pv 1) (pv 0) (z0m _)) (z2m (z0c y4s (pv 0) (z0r z1o (pv 1) (pv 2)) (z0m _))))))) (fun _ _ _ _ _=>(pv 0))) (z1m z02) (z0m _)) (z05 (z0i z1I)) z0k))) (z04 (z0W bT rfl (z1p rfl M.range (z00 (z0b z09 rfl M.len bN (z00 (z0A z0w (pv 0) z06 (fun _ _=>rfl)) z02)) z02)) (z0j (i:=5) nd rfl (Or.inl rfl)) (z05 (z0C (PW.pt (z38 (z0c z1z (z0A z0w (z0A z0w (pv 0) z06 (fun _ _=>rfl)) (pv 5) (fun _ _=>rfl)) (pv 6) (by with_unfolding_all rfl)) (z24 (PW.pt (z37 (z0c z2o (pv 5) z06 (z0m _)) (z2m (z0c y4s (z0r z25 (z0A z0w (z0A z0w (pv 0) z06 (fun _ _=>rfl)) (pv 5) (fun _ _=>rfl)) (z0A z0w (z0A z0w (pv 0) z06 (fun _ _=>rfl)) (z0r z25 (pv 5) z06) (fun _ _=>rfl))) (pv 2) (z0m _)))))))) (z05 (z0i z1I)) z0k))) (z05 (z0i (z8T z28 (z0b z09 rfl M.len bN (z00 (z0A z0w (pv 0) z06 (fun _ _=>rfl)) z02)) (z0b z09 rfl M.len bN (z00 (z0A z0w (pv 0) z06 (fun _ _=>rfl)) z02)) (z0m _)))))))))),?_⟩
 have w18:∀{l:List Int}{c:Int},l.Pairwise (· < ·)->(∀x∈l,1≤x/\x≤60)->l.length≤60:=fun {l c} h1 h2=>by
  have e:l=(upI 1 60).filter fun x=>decide (x∈l):=z1P h1 ((z1Q 1 60).filter _) fun x=>by
   rw[cO,z1i,decide_eq_true_eq]
   exact⟨fun h=>⟨by have:=h2 x h;lia,h⟩,fun h=>h.2⟩
  rw[e]
  have:=cJ (fun x=>decide (x∈l)) (upI 1 60)
  rw[z0S] at this
  exact this
 have f60:fs.length≤60:=w18 (c:=0) B.fr fun x hx=>by
  obtain⟨⟨a,c⟩,_,y,hy,d⟩:=z0X.mp (B.lack x hx)
  lia
 have a60:as.length≤60:=by rw[<- B.len];exact f60
 have ar:as.Pairwise (· < ·):=B.ar.imp fun h=>by lia
 refine(rdI rfl (ex4 _ _ _ _ ⟨rfl,.tup hl,z48,(rdI rfl (B7 ?_))⟩))
 refine(rdI rfl (ex2 l _ ⟨rfl,.inr (SqT.of hl),rfl,(rdI rfl (B7 ?_))⟩))
 refine(rdI rfl ⟨l,rfl,⟨_,SqT.of hl⟩,z4G (K:=K) (a:=l) (xs:=[.ref lf,.ref la]) (fun _ σ H'=>H'=H/\∃o1 o2:Option V,σ=[some (.ref l),some (.ref p),some (.int r),some (.int b),o1,o2,none,none,none]) ⟨rfl,none,none,rfl⟩ (fun i σ H' _ hp=>?_) (fun i x σ H' hx hp=>?_) (fun σ H' hp=>?_)⟩)
 ·rw[hp.1]
  exact SqT.of hl
 ·obtain⟨rfl,o1,o2,rfl⟩:=hp
  obtain⟨t,zs,rfl,ht,hz,lz⟩:∃(t:Addr) (zs:List Int),x=.ref t/\H' t=some (.tup (zs.map V.int))/\zs.Pairwise (· < ·)/\zs.length≤60:=by
   match i,hx with
   | 0,hx=>cases hx;exact⟨lf,fs,rfl,hf,B.fr,f60⟩
   | 1,hx=>cases hx;exact⟨la,as,rfl,ha,ar,a60⟩
  refine(rdI rfl (ex4 _ _ _ _ ⟨rfl,.tup ht,z48,(rdI rfl (B7 ?_))⟩))
  have lz':(zs.map V.int).length=zs.length:=bA _
  refine(rdI rfl (ex2 t _ ⟨rfl,.inr (SqT.of ht),(rdI rfl ⟨by lia,by lia,?_⟩)⟩))
  refine z15 (lo:=0) (n:=(((zs.map V.int).length:Nat):Int).toNat) (fun _ σ H2=>H2=H'/\∃o2:Option V,σ=[some (.ref l),some (.ref p),some (.int r),some (.int b),some (.ref t),o2,none,none,none]) ⟨rfl,_,rfl⟩ (fun k σ H2 hk hp=>?_) (fun σ H2 hp=>?_)
  ·obtain⟨rfl,o,rfl⟩:=hp
   have hk':k<zs.length:=by rw[lz'] at hk;exact hk
   have ek:(0:Int)+(k:Int)=(k:Int):=fV _
   have ak:atI (zs.map V.int) (0+(k:Int))=some (.int (zs.getD k 0)):=by
    rw[ek]
    exact z6Y (ns:=zs) (k:=(k:Int)) (by lia) (by lia)
   refine(rdI rfl (rdI rfl (ex4 t _ _ _ ⟨rfl,rfl,SqT.of ht,ak,(rdI rfl (rdI rfl (B7 ?_)))⟩)))
   refine(rdI rfl (ex2 _ _ ⟨rfl,rfl,(rdI rfl (B9 (fun c=>?_) (fun c=>?_)))⟩))
   ·have c0:(0:Int)<0+(k:Int):=z0K c
    obtain⟨j,rfl⟩:∃j,k=j+1:=⟨k-1,by lia⟩
    have aj:atI (zs.map V.int) (0+((j+1:Nat):Int)-1)=some (.int (zs.getD j 0)):=by
     have e:(0:Int)+((j+1:Nat):Int)-1=(j:Int):=by lia
     rw[e]
     exact z6Y (ns:=zs) (k:=(j:Int)) (by lia) (by lia)
    have lt:zs.getD j 0<zs.getD (j+1) 0:=y43 hz (i:=j) (by rw[bP,bD (by lia)];rfl) (by rw[bP,bD hk'];rfl)
    refine(rdI rfl (rdI rfl (ex2 _ _ ⟨rfl,rfl,(ex4 t _ _ _ ⟨rfl,rfl,SqT.of ht,aj,(rdI rfl (rdI rfl (ex4 t _ _ _ ⟨rfl,rfl,SqT.of ht,ak,(ex2 _ _ ⟨rfl,rfl,(rdI rfl ?_)⟩)⟩)))⟩)⟩)))
    rw[decide_eq_false (show ¬zs.getD (j+1) 0≤zs.getD j 0 by lia)]
    exact B7 ⟨rfl,_,rfl⟩
   ·exact⟨rfl,_,rfl⟩
  ·obtain⟨rfl,o,rfl⟩:=hp
   exact⟨rfl,_,_,rfl⟩
 ·obtain⟨rfl,o1,o2,rfl⟩:=hp
  refine(rdI rfl (rdI rfl (ex3 p ns r ⟨rfl,hP,C3,hlen,r0,fun ld H1 nld s1 e1=>⟨ld,rfl,⟨_,SqL.of e1⟩,?_⟩⟩)))
  have ll:=z3h ns r
  refine z68 (ns:=z1d ns r) (fun y=>decide (b<y)) (fun y=>.int y) (SqL.of e1) (by lia) (fun y ys N hy hN=>?_) (fun D hD=>?_)
  ·refine(rdI rfl (rdI rfl (ex2 _ _ ⟨rfl,rfl,(rdI rfl ?_)⟩)))
   refine B9 (fun c=>?_) (fun c=>?_)
   ·rw[if_pos c] at hN
    exact(rdI rfl hN)
   ·rw[if_neg c] at hN
    exact hN
  have eD:upd H1 D (.lst (z2a (fun y=>decide (b<y)) (fun y=>V.int y) (z1d ns r))) D=some (.lst ((z0R ns r b).map V.int)):=z03
  have sD:=s1.trans (z01 hD (.lst (z2a (fun y=>decide (b<y)) (fun y=>V.int y) (z1d ns r))))
  generalize upd H1 D (.lst (z2a (fun y=>decide (b<y)) (fun y=>V.int y) (z1d ns r)))=H2 at eD sD
  have lb:(z0R ns r b).length≤60:=cM (cJ _ _) ll
  refine(rdI rfl (ex4 l _ _ _ ⟨rfl,rfl,SqT.of (sD _ _ hl),z0V rfl,lf,rfl,⟨_,SqT.of (sD _ _ hf)⟩,z4G (K:=K) (a:=lf) (xs:=fs.map V.int) (fun _ σ H'=>B0 H2 H'/\∃o3:Option V,σ=[some (.ref l),some (.ref p),some (.int r),some (.int b),o1,o2,some (.ref D),o3,none]) ⟨B0.refl _,none,rfl⟩ (fun i σ H' _ hp=>?_) (fun i x σ H' hx hp=>?_) (fun σ H' hp=>?_)⟩))
  ·exact SqT.of (hp.1 _ _ (sD _ _ hf))
  ·obtain⟨g,o3,rfl⟩:=hp
   rw[bE] at hx
   obtain⟨n,en,rfl⟩:=bY.mp hx
   obtain⟨⟨n1,n2⟩,n3,y,hy,n4⟩:=z0X.mp (B.lack n (bS en))
   have hP':H' p=some (.lst (ns.map V.int)):=g _ _ (sD _ _ hP)
   refine(rdI rfl (ex2 _ _ ⟨rfl,rfl,(rdI rfl ?_)⟩))
   rw[decide_eq_false (show ¬n<1 by lia)]
   refine B7 (rdI rfl (rdI rfl ⟨(by show 1≤sizeLine;decide),fun l0 hl0=>(ex4 p l0 _ _ ⟨rfl,rfl,z01 hl0 _ _ _ hP',z03,?_,fun lc hlc=>?_⟩)⟩))
   ·rw[bA]
    exact dR (z0f (by show ns.length+1≤1000;lia))
   have s3:=(z01 hl0 (.lst [V.int 0])).trans (z01 hlc (.lst (ns.map V.int++[V.int 0])))
   have ec:upd (upd H' l0 (.lst [V.int 0])) lc (.lst (ns.map V.int++[V.int 0])) lc=some (.lst ((ns++[0]).map V.int)):=by
    rw[z03,bG]
    rfl
   generalize upd (upd H' l0 (.lst [V.int 0])) lc (.lst (ns.map V.int++[V.int 0]))=H3 at s3 ec
   refine(ex2 lc (ns++[0]) ⟨rfl,.inl (SqL.of ec),by simp,fun m hm top=>(ex2 _ _ ⟨rfl,rfl,(rdI rfl ?_)⟩)⟩)
   have:=top y (d7 _ hy)
   rw[decide_eq_false (show ¬m<n by lia)]
   refine B7 (rdI rfl (rdI rfl (ex2 p _ ⟨rfl,.inl (SqL.of (s3 _ _ hP')),rfl,z2c ns,(rdI rfl ?_)⟩)))
   rw[if_neg bM,z2P,decide_eq_false n3]
   exact B7 ⟨g.trans s3,_,rfl⟩
  ·obtain⟨g,o3,rfl⟩:=hp
   have sG:=sD.trans g
   have eG:=g _ _ eD
   clear g
   generalize hHx:H'=H3 at sG eG
   clear hHx
   refine(rdI rfl ⟨D,rfl,⟨_,SqL.of eG⟩,z1R (K:=K) (a:=D) (xs:=(z0R ns r b).map V.int) (fun _ σ H'=>B0 H3 H'/\∃o4:Option V,σ=[some (.ref l),some (.ref p),some (.int r),some (.int b),o1,o2,some (.ref D),o3,o4]) ⟨B0.refl _,none,rfl⟩ (fun i σ H' _ hp=>?_) (fun i x σ H' hx hp=>?_) (fun σ H' hp=>?_)⟩)
   ·exact SqL.of (hp.1 _ _ eG)
   ·obtain⟨g,o4,rfl⟩:=hp
    rw[bE] at hx
    obtain⟨d,ed,rfl⟩:=bY.mp hx
    obtain⟨z,hz,z1,z2⟩:=B.cov d (bS ed)
    refine(rdI rfl (ex4 l _ _ _ ⟨rfl,rfl,SqT.of (g _ _ (sG _ _ hl)),z0V rfl,lf,rfl,⟨_,SqT.of (g _ _ (sG _ _ hf))⟩,?_⟩))
    refine z7a (ns:=fs) (fun y=>decide (d≤y) && decide (y≤d+r)) (fun y=>.int y) (SqT.of (g _ _ (sG _ _ hf))) (by lia) (fun y ys N hy hN=>?_) (fun E0 hE0=>?_)
    ·refine(rdI rfl (rdI rfl (ex2 _ _ ⟨rfl,rfl,(rdI rfl ?_)⟩)))
     refine B9 (fun c=>?_) (fun c=>?_)
     ·refine(rdI rfl (rdI rfl (rdI rfl (ex2 _ _ ⟨rfl,rfl,(ex2 _ _ ⟨rfl,rfl,(rdI rfl ?_)⟩)⟩))))
      rw[c,gN] at hN
      refine B9 (fun c2=>?_) (fun c2=>?_)
      ·rw[if_pos c2] at hN
       exact(rdI rfl hN)
      ·rw[if_neg c2] at hN
       exact hN
     ·rw[fA.mpr c,gX] at hN
      exact B7 hN
    ·have mz:z∈fs.filter (fun y=>decide (d≤y) && decide (y≤d+r)):=cO.mpr ⟨hz,by rw[decide_eq_true z1,decide_eq_true z2];rfl⟩
     have eE:upd H' E0 (.lst (z2a (fun y=>decide (d≤y) && decide (y≤d+r)) (fun y=>V.int y) fs)) E0=some (.lst ((fs.filter fun y=>decide (d≤y) && decide (y≤d+r)).map V.int)):=z03
     have sE:=z01 hE0 (.lst (z2a (fun y=>decide (d≤y) && decide (y≤d+r)) (fun y=>V.int y) fs))
     generalize upd H' E0 (.lst (z2a (fun y=>decide (d≤y) && decide (y≤d+r)) (fun y=>V.int y) fs))=H4 at eE sE
     generalize fs.filter (fun y=>decide (d≤y) && decide (y≤d+r))=ab at eE mz
     refine⟨(by show 0≤sizeLine;decide),fun e0 he0=>(ex3 E0 e0 _ ⟨rfl,rfl,SqL.of (z01 he0 _ _ _ eE),SqL.of z03,(rdI rfl ?_)⟩)⟩
     cases ab with
     | nil=>cases mz
     | cons y0 yr=>exact B7 ⟨g.trans (sE.trans (z01 he0 _)),_,rfl⟩
   ·obtain⟨g,o4,rfl⟩:=hp
    have sG:=sG.trans g
    have eG:=g _ _ eG
    clear g
    generalize hHx:H'=H4 at sG eG
    clear hHx
    have la':(as.map V.int).length=as.length:=bA _
    refine(rdI rfl (ex4 l _ _ _ ⟨rfl,rfl,SqT.of (sG _ _ hl),z0V rfl,(ex2 la _ ⟨rfl,.inr (SqT.of (sG _ _ ha)),(rdI rfl ⟨by lia,by lia,?_⟩)⟩)⟩))
    refine z15 (lo:=0) (n:=(((as.map V.int).length:Nat):Int).toNat) (fun _ σ H2=>H2=H4/\∃o2:Option V,σ=[some (.ref l),some (.ref p),some (.int r),some (.int b),o1,o2,some (.ref D),o3,o4]) ⟨rfl,_,rfl⟩ (fun k σ H2 hk hp=>?_) (fun σ H2 hp=>?_)
    ·obtain⟨rfl,o,rfl⟩:=hp
     have hk':k<as.length:=by rw[la'] at hk;exact hk
     have ek:(0:Int)+(k:Int)=(k:Int):=fV _
     have ak:atI (as.map V.int) (0+(k:Int))=some (.int (as.getD k 0)):=by
      rw[ek]
      exact z6Y (ns:=as) (k:=(k:Int)) (by lia) (by lia)
     have gk:as[k]? = some (as.getD k 0):=by rw[bP,bD hk'];rfl
     refine(rdI rfl (ex4 l _ _ _ ⟨rfl,rfl,SqT.of (sG _ _ hl),z0V rfl,(rdI rfl (ex4 la _ _ _ ⟨rfl,rfl,SqT.of (sG _ _ ha),ak,(rdI rfl (ex2 D _ ⟨rfl,.inl (SqL.of eG),rfl,z2c _,(rdI rfl ?_)⟩))⟩))⟩))
     rw[if_pos rfl,z2P,decide_eq_true (B.mem _ (bS gk))]
     refine B7 (rdI rfl (ex2 _ _ ⟨rfl,rfl,(rdI rfl (B9 (fun c=>?_) (fun c=>?_)))⟩))
     ·have c0:(0:Int)<0+(k:Int):=z0K c
      obtain⟨j,rfl⟩:∃j,k=j+1:=⟨k-1,by lia⟩
      have aj:atI (as.map V.int) (0+((j+1:Nat):Int)-1)=some (.int (as.getD j 0)):=by
       have e:(0:Int)+((j+1:Nat):Int)-1=(j:Int):=by lia
       rw[e]
       exact z6Y (ns:=as) (k:=(j:Int)) (by lia) (by lia)
      have lt:as.getD j 0+r<as.getD (j+1) 0:=y43 B.ar (i:=j) (by rw[bP,bD (by lia)];rfl) gk
      refine(rdI rfl (ex4 l _ _ _ ⟨rfl,rfl,SqT.of (sG _ _ hl),z0V rfl,(rdI rfl (ex4 la _ _ _ ⟨rfl,rfl,SqT.of (sG _ _ ha),ak,(rdI rfl (ex4 l _ _ _ ⟨rfl,rfl,SqT.of (sG _ _ hl),z0V rfl,(rdI rfl (ex2 _ _ ⟨rfl,rfl,(ex4 la _ _ _ ⟨rfl,rfl,SqT.of (sG _ _ ha),aj,(ex2 _ _ ⟨rfl,rfl,(rdI rfl (ex2 _ _ ⟨rfl,rfl,(rdI rfl ?_)⟩))⟩)⟩)⟩))⟩))⟩))⟩))
      rw[decide_eq_false (show ¬as.getD (j+1) 0-as.getD j 0≤r by lia)]
      exact B7 ⟨rfl,_,rfl⟩
     ·exact⟨rfl,_,rfl⟩
    ·obtain⟨rfl,o,rfl⟩:=hp
     refine(rdI rfl (ex4 l _ _ _ ⟨rfl,rfl,SqT.of (sG _ _ hl),z0V rfl,(ex2 lf _ ⟨rfl,.inr (SqT.of (sG _ _ hf)),(rdI rfl (ex4 l _ _ _ ⟨rfl,rfl,SqT.of (sG _ _ hl),z0V rfl,(ex2 la _ ⟨rfl,.inr (SqT.of (sG _ _ ha)),rfl,?_⟩)⟩))⟩)⟩))
     rw[bA,bA,B.len,decide_eq_true rfl]
     exact q _ sG
theorem y6u{ms:List Int}{rows:List Row}{z:Str}(h:∀n∈ms,n≤60):z0N (z0y ms rows z)≤60:=by
 have go:∀(ms:List Int) (acc:Option (Int×Int)),(∀n∈ms,n≤60)->z0N acc≤60->z0N (ms.foldl (fun acc n=>match J2 (z0D rows n) z with|some v=>some (n,v)|none=>acc) acc)≤60:=by
  intro ms
  induction ms with
  | nil=>intro acc _ h;exact h
  | cons n r ih=>
   intro acc hn h0
   rw[dF]
   refine ih _ (fun x hx=>hn x (cG _ hx)) ?_
   cases J2 (z0D rows n) z with
   | none=>exact h0
   | some v=>exact hn n cI
 exact go ms none h (by decide)
noncomputable def z5G(ns:List Int)(rows:List Row)(r:Int)(as:List Str):List Int:=(as.filter fun z=>decide (z0P ns rows r (z0N (z0y ns rows z)) z="open")).map fun z=>z0N (z0y ns rows z)
noncomputable def z94(l:List Int):Int:=l.foldl min 61
theorem y1o(l:List Int)(n:Int):z94 (l++[n])=if n<z94 l then n else z94 l:=by
 unfold z94
 rw[gU]
 show min (l.foldl min 61) n=_
 split<;>lia
theorem y2n{m:Int}:∀{l:List Int}{a:Int},(m=a\/m∈l)->m≤a->(∀y∈l,m≤y)->l.foldl min a=m
 | [],a,h,_,_=>by
  rcases h with h|h
  ·exact h.symm
  ·cases h
 | y::l,a,h,ha,hl=>by
  have hy:=hl y cI
  rw[dF]
  refine y2n ?_ (by lia) fun x hx=>hl x (cG _ hx)
  rcases h with h|h
  ·exact .inl (by lia)
  ·rcases bF.mp h with h|h
   ·exact .inl (by lia)
   ·exact .inr h
theorem z9P(ns:List Int)(rows:List Row)(r:Int)(as:List Str)(z:Str):z5G ns rows r (as++[z])=z5G ns rows r as++(if z0P ns rows r (z0N (z0y ns rows z)) z="open" then [z0N (z0y ns rows z)] else []):=by
 unfold z5G
 rw[dM,bG,dP]
 by_cases c:z0P ns rows r (z0N (z0y ns rows z)) z="open"
 ·rw[decide_eq_true c,if_pos rfl,if_pos c]
  rfl
 ·rw[decide_eq_false c,if_neg bM,if_neg c]
  rfl
noncomputable def askV:Option Str->V
 | none=>.non
 | some z=>.str z
noncomputable def Y7(nm:List Str):Option Str->List Str
 | none=>nm
 | some z=>[z]
noncomputable def z6y(Sh:ShP):Sp:=fun vs H Q _=>∃(x:Addr) (o:Option Str) (fp:List Addr) (nm:List Str) (r:Int) (rows:List Row) (had:List Int),vs=[.ref x,askV o]/\Sh H x fp nm r (fun n=>z10 rows n r) had/\(∀z∈Y7 nm o,z∈nm)/\E2 nm/\Rws nm rows/\rows.length≤60/\(∀n∈had,1≤n/\n≤rows.length)/\0≤r/\r≤10/\
 ∀(v:V) (H':Hp),B0 H H'->y4r H' v (z08 had) r (z94 (z5G (z08 had) rows r (Y7 nm o)))->Q v H'
theorem y5m(ns:List Int)(r:Int):W3 ns r 61 [] [] where
 len:=rfl
 fr:=.nil
 ar:=.nil
 lack:=fun _ h=>(nomatch h)
 cov:=fun d hd=>by
  unfold z0R at hd
  rw[cO,decide_eq_true_eq,z7Z,cO] at hd
  have:=(z0X.mp hd.1.1).1
  lia
 mem:=fun _ h=>(nomatch h)
theorem z9n{A0 T0:Addr}{items:Array Value}(M:Bl mg)(T:D7 K mg A0)(F:S9 K "send_for" "send_for" z8R f fd T0 items)(C2:Cal P w K mg base 2 "held_for" z2T (z3d (ShD K A0)))
  (C8:Cal P w K mg base 5 "state_of" z3q (z40 (ShD K A0))) (B3:D9 P w K mg base 1 A0 "had" z1l (z3c (ShD K A0)))
  (F5:Cal P w K mg base 5 "fewest_numbers" z3j (y2x K)):B4 P w K mg base CX0 6 f fd z55 (z6y (ShD K A0)):=by
 have nd:=z9o.nd
 refine F.ok z9o (fun vs H Q E h=>?_) (fun cdv A outer s H vs Q E hr h=>?_)
 ·obtain⟨x,o,fp,nm,r,rows,had,rfl,_⟩:=h
  rfl
 obtain⟨x,o,fp,nm,r,rows,had,rfl,sh,ho,gn,R,l60,hh,r0,r1,k⟩:=h
 refine⟨_,(z04 (z0o (i:=2) nd rfl (Or.inl rfl) (z5e (z7J (z8p (pv 1))) (z0M (pv 0) rfl) (z0U (z00 (pv 1) z02)))) (z04 (z4g (i:=3) ["one"] ["shelf"] [0] rfl nd rfl (Or.inl rfl) (z0v rfl (by decide +kernel) rfl (by decide +kernel) rfl rfl) (z26 (pv 2)) (fun _ _ _ _ _=>(z0j (i:=0) (show((["one"]:List PySem.Str)++(["shelf"]:List PySem.Str)).Nodup from by decide +kernel) rfl (Or.inl rfl))) (z0x (by decide)) z0h (fun _ _ _ _ _=>(z2i (z0c z28 (z0g C8 (rm hr) rfl (z00 (pv 1) (z00 (pv 0) z02))) (z22 rfl M.OPEN) (z0m _)))) (fun _ _ _ _ _=>(z0A (r:=Q6 K) z0w (z0g C2 (rm hr) rfl (z00 (pv 1) (z00 (pv 0) z02))) z06 (fun _ _=>rfl)))) (z04 (z0C (z0c z28 (z0b z09 rfl M.len bN (z00 (pv 3) z02)) z06 (z0m _)) (z05 (z0i (z0U (z00 (z0U z02) (z00 (z0U z02) z02))))) z0k) (z05 (z0i (z0g F5 (rm hr) rfl (z00 (z1C B3 (rm hr) (pv 0)) (z00 (z0M (pv 0) rfl) (z00 (z0b (z91 rfl) rfl M.min fK (z00 (pv 3) z02)) z02))))))))),?_⟩
 obtain⟨dx,pn,fs,h1,h3,ln,lr,lm⟩:∃dx pn fs,H x=some (.ins A0 dx fs)/\H pn=some (.tup (nm.map V.str))/\fs.lookup ("names":Str)=some (V.ref pn)/\fs.lookup ("reach":Str)=some (V.int r)/\fs.lookup ("had":Str)=none:=by
  obtain⟨dx,pn,pd,fs,kvs,_,h1,_,h3,_,l1,l2,_,lm,_⟩:=sh
  exact⟨dx,pn,fs,h1,h3,l1,l2,lm _ (by simp)⟩
 have h60:∀n∈z08 had,1≤n/\n≤60:=fun n hn=>by have:=hh n (z0Q.mp hn).2;lia
 have n12:=gn.hi
 have la:(Y7 nm o).length≤12:=by
  cases o with
  | none=>exact n12
  | some z=>show 1≤12;decide
 have asked:∀(Qk:VK),(∀(ta:Addr) (H1:Hp),B0 H H1->H1 ta=some (.tup ((Y7 nm o).map V.str))->Qk (.ref ta) H1)->tIf (tB (w0m (U4 1))) (Z7 K (U4 0) "names") (tTup (y5W (U4 1) X3)) (z6g ["shelf","name","asked","held_from"] [.ref x,askV o]) H Qk:=fun Qk hq=>by
  cases o with
  | none=>exact⟨_,rfl,_,rfl,E8 ⟨_,rfl,x,A0,dx,fs,_,rfl,h1,T.cl,T.n_names,ln,hq pn H (B0.refl _) h3⟩⟩
  | some z=>exact⟨_,rfl,_,rfl,B7 ⟨_,rfl,(by show 1≤sizeLine;decide),fun t ht=>hq t _ (z01 ht _) z03⟩⟩
 refine asked _ fun ta H1 s1 e1=>?_
 generalize hAs:Y7 nm o=as at *
 clear asked
 have sh1:=F2.same sh s1
 refine(rdI rfl ⟨ta,rfl,⟨_,SqT.of e1⟩,?_⟩)
 refine z1A (xs:=as.map V.str) (fun i ys H'=>B0 H1 H'/\ys=(z5G (z08 had) rows r (as.take i)).map V.int) ⟨B0.refl _,rfl⟩ (fun i ys H' hi hp=>?_) (fun i y ys H' hy hp=>?_) (fun ys H' hp=>?_)
 ·obtain⟨g,rfl⟩:=hp
  refine⟨SqT.of (g _ _ e1),z0f ?_⟩
  unfold z5G
  rw[bA,bA]
  have h1:=cJ (fun z=>decide (z0P (z08 had) rows r (z0N (z0y (z08 had) rows z)) z="open")) (as.take i)
  rw[bI] at h1
  lia
 ·obtain⟨g,rfl⟩:=hp
  rw[bE] at hy
  obtain⟨z,ez,rfl⟩:=bY.mp hy
  have hz:=ho z (bS ez)
  have sh2:=F2.same sh1 g
  refine(rdI rfl (rdI rfl (ex7 x z fp nm r rows had ⟨rfl,sh2,hz,gn,R,l60,hh,r0,r1,fun H2 s2=>⟨rfl,(rdI rfl ?_)⟩⟩)))
  rw[z0n ez,z9P]
  refine B9 (fun c=>?_) (fun c=>?_)
  ·have c':z0P (z08 had) rows r (z0N (z0y (z08 had) rows z)) z="open":=V.str.inj (z0K c)
   rw[if_pos c',bG]
   refine(rdI rfl (rdI rfl (ex7 x z fp nm r rows had ⟨rfl,F2.same sh2 s2,hz,gn,R,fun v H3 s3 tv=>?_⟩)))
   obtain⟨b,y,rfl,eb,_⟩:=z3a tv
   exact(ex4 b _ _ _ ⟨rfl,rfl,SqT.of eb,z0V rfl,g.trans (s2.trans s3),rfl⟩)
  ·have c':¬z0P (z08 had) rows r (z0N (z0y (z08 had) rows z)) z="open":=fun e=>c (decide_eq_true (congrArg V.str e))
   rw[if_neg c',cX]
   exact⟨g.trans s2,rfl⟩
 ·obtain⟨g,rfl⟩:=hp
  rw[bA,bR]
  intro D hD
  have eD:upd H' D (.lst ((z5G (z08 had) rows r as).map V.int)) D=some (.lst ((z5G (z08 had) rows r as).map V.int)):=z03
  have s2:=s1.trans (g.trans (z01 hD (.lst ((z5G (z08 had) rows r as).map V.int))))
  generalize upd H' D (.lst ((z5G (z08 had) rows r as).map V.int))=H2 at eD s2
  refine(rdI rfl (ex2 D _ ⟨rfl,.inl (SqL.of eD),rfl,(rdI rfl ?_)⟩))
  rw[bA]
  refine B9 (fun c=>?_) (fun c=>?_)
  ·have c0:z5G (z08 had) rows r as=[]:=j9.mp (by have:=z0K c;injection this with this;lia)
   refine⟨(by show 0≤sizeLine;decide),fun t1 ht1=>⟨(by show 0≤sizeLine;decide),fun t2 ht2=>⟨(by show 2≤sizeLine;decide),fun t ht=>?_⟩⟩⟩
   refine k _ _ (s2.trans ((z01 ht1 _).trans ((z01 ht2 _).trans (z01 ht _)))) (ex5 t t1 t2 ([]) ([]) ⟨rfl,z03,z01 ht _ _ _ (z01 ht2 _ _ _ z03),z01 ht _ _ _ z03,?_⟩)
   rw[c0]
   exact y5m _ _
  ·have c0:z5G (z08 had) rows r as≠[]:=fun e=>c (by rw[e];rfl)
   have sh2:=F2.same sh s2
   refine(rdI rfl (ex3 x dx fs ⟨rfl,s2 _ _ h1,lm,(ex6 x fp nm r _ had ⟨rfl,sh2,fun l H3 s3 e3=>?_⟩)⟩))
   refine(rdI rfl (ex5 x A0 dx fs _ ⟨rfl,s3 _ _ (s2 _ _ h1),T.cl,T.n_reach,lr,(rdI rfl (ex2 D _ ⟨rfl,.inl (SqL.of (s3 _ _ eD)),c0,fun m hm hl=>?_⟩))⟩))
   have em:z94 (z5G (z08 had) rows r as)=m:=by
    refine y2n (.inr hm) ?_ hl
    unfold z5G at hm
    obtain⟨z,_,rfl⟩:=cS.mp hm
    have:=y6u (rows:=rows) (z:=z) fun n hn=>(h60 n hn).2
    lia
   refine(ex4 l (z08 had) r m ⟨rfl,.inr (SqT.of e3),h60,cM (z2e had) (by decide),r0,fun v H4 s4 p4=>?_⟩)
   exact k v H4 (s2.trans (s3.trans s4)) (by rw[em];exact p4)
noncomputable def agC(k:Nat)(ns:List Int)(rows:List Row)(r:Int)(z:Str):Int:=
 if z0P ns rows r (z0N (z0y ns rows z)) z="stale" then 2^((z1d ns r).length*k) else 2^((z1d ns r).length*k)-2^((z1d ns r).length*k-(z0R ns r (z0N (z0y ns rows z))).length)
noncomputable def y2w(Sh:ShP):Sp:=fun vs H Q _=>∃(x:Addr) (z:Str) (fp:List Addr) (nm:List Str) (r:Int) (rows:List Row) (had:List Int),vs=[.ref x,.str z]/\Sh H x fp nm r (fun n=>z10 rows n r) had/\z∈nm/\E2 nm/\Rws nm rows/\rows.length≤60/\(∀n∈had,1≤n/\n≤rows.length)/\0≤r/\r≤10/\
 ∀(H':Hp),B0 H H'->Q (.int (agC nm.length (z08 had) rows r z)) H'
theorem y3Y(a b:Nat)(h:b≤a):(2:Int)^a / 2^b=2^(a-b):=by
 have e:(2:Int)^a=2^(a-b)*2^b:=by rw[<- Int.pow_add,Nat.sub_add_cancel h]
 rw[e]
 exact Int.mul_ediv_cancel _ (by have:=Int.pow_pos (n:=2) (m:=b) (by decide);lia)
theorem y5k{a b:Nat}(h:a≤b):(2:Int)^a≤2^b:=by
 have:=Nat.pow_le_pow_right (n:=2) (by decide) h
 exact_mod_cast this
theorem y4V{A0:Addr}(M:Bl mg)(T:D7 K mg A0)(F:Fun K "again_count" "again_count" z4J f fd)(C2:Cal P w K mg base 2 "held_for" z2T (z3d (ShD K A0)))
  (C8:Cal P w K mg base 5 "state_of" z3q (z40 (ShD K A0))) (B3:D9 P w K mg base 1 A0 "had" z1l (z3c (ShD K A0)))
  (E7:Cal P w K mg base 4 "course_count" z39 (y1U (ShD K A0))) (J1:Cal P w K mg base 1 "two_to_the" z46 z3o)
  (B6:Cal P w K mg base 4 "dark_numbers_behind" z17 (z7P K)):B4 P w K mg base CX0 6 f fd z4O (y2w (ShD K A0)):=by
 have nd:=z6q.nd
 refine F.ok z6q (fun vs H Q E h=>?_) (fun cdv A outer s H vs Q E hr h=>?_)
 ·obtain⟨x,z,fp,nm,r,rows,had,rfl,_⟩:=h
  rfl
 obtain⟨x,z,fp,nm,r,rows,had,rfl,sh,hz,gn,R,l60,hh,r0,r1,k⟩:=h
 refine⟨_,(z04 (z0o (i:=2) nd rfl (Or.inl rfl) (z0g C8 (rm hr) rfl (z00 (pv 0) (z00 (pv 1) z02)))) (z04 (z0o (i:=3) nd rfl (Or.inl rfl) (z0g E7 (rm hr) rfl (z00 (pv 0) z02))) (z04 (z0C (z0c z28 (pv 2) (z22 rfl M.STALE) (z0m _)) (z05 (z0i (pv 3))) z0k) (z04 (z0o (i:=4) nd rfl (Or.inl rfl) (z0A z0w (z0g C2 (rm hr) rfl (z00 (pv 0) (z00 (pv 1) z02))) z06 (fun _ _=>rfl))) (z04 (z0o (i:=5) nd rfl (Or.inl rfl) (z0g B6 (rm hr) rfl (z00 (z1C B3 (rm hr) (pv 0)) (z00 (z0M (pv 0) rfl) (z00 (pv 4) z02))))) (z04 (z0o (i:=6) nd rfl (Or.inl rfl) (z0r y2y (pv 3) (z0g J1 (rm hr) rfl (z00 (z0b z09 rfl M.len bN (z00 (pv 5) z02)) z02)))) (z05 (z0i (z0r z25 (pv 3) (pv 6)))))))))),?_⟩
 have hh60:∀n∈had,1≤n/\n≤60:=fun n hn=>by have:=hh n hn;lia
 have h60:∀n∈z08 had,1≤n/\n≤60:=fun n hn=>hh60 n (z0Q.mp hn).2
 refine(rdI rfl (rdI rfl (ex7 x z fp nm r rows had ⟨rfl,sh,hz,gn,R,l60,hh,r0,r1,fun H1 s1=>?_⟩)))
 have sh1:=F2.same sh s1
 refine(rdI rfl (ex6 x fp nm r _ had ⟨rfl,sh1,hh60,fun H2 s2=>?_⟩))
 have sh2:=F2.same sh1 s2
 refine(rdI rfl ⟨rfl,(rdI rfl (B9 (fun c=>?_) (fun c=>?_)))⟩)
 ·have c':z0P (z08 had) rows r (z0N (z0y (z08 had) rows z)) z="stale":=V.str.inj (z0K c)
  have e:=k H2 (s1.trans s2)
  unfold agC at e
  rw[if_pos c'] at e
  exact(rdI rfl e)
 ·have c':¬z0P (z08 had) rows r (z0N (z0y (z08 had) rows z)) z="stale":=fun e=>c (decide_eq_true (congrArg V.str e))
  refine(rdI rfl (rdI rfl (ex7 x z fp nm r rows had ⟨rfl,sh2,hz,gn,R,fun v H3 s3 tv=>?_⟩)))
  obtain⟨b,y,rfl,eb,_⟩:=z3a tv
  refine(ex4 b _ _ _ ⟨rfl,rfl,SqT.of eb,z0V rfl,?_⟩)
  have sh3:=F2.same sh2 s3
  obtain⟨dx,fs,h1,lm,lr⟩:∃dx fs,H3 x=some (.ins A0 dx fs)/\fs.lookup ("had":Str)=none/\fs.lookup ("reach":Str)=some (V.int r):=by
   obtain⟨dx,pn,pd,fs,kvs,_,h1,_,_,_,_,lr,_,lm,_⟩:=sh3
   exact⟨dx,fs,h1,lm _ (by simp),lr⟩
  refine(rdI rfl (ex3 x dx fs ⟨rfl,h1,lm,(ex6 x fp nm r _ had ⟨rfl,sh3,fun l H4 s4 e4=>?_⟩)⟩))
  refine(rdI rfl (ex5 x A0 dx fs _ ⟨rfl,s4 _ _ h1,T.cl,T.n_reach,lr,(rdI rfl (ex4 l (z08 had) r _ ⟨rfl,.inr (SqT.of e4),h60,cM (z2e had) (by decide),fun d H5 s5 e5=>?_⟩))⟩))
  have e:=k H5 (s1.trans (s2.trans (s3.trans (s4.trans s5))))
  unfold agC at e
  rw[if_neg c'] at e
  have ld:((z0R (z08 had) r (z0N (z0y (z08 had) rows z))).map V.int).length=(z0R (z08 had) r (z0N (z0y (z08 had) rows z))).length:=bA _
  have bd:(z0R (z08 had) r (z0N (z0y (z08 had) rows z))).length≤(z1d (z08 had) r).length:=cJ _ _
  have d60:=z3h (z08 had) r
  have lb:(z0R (z08 had) r (z0N (z0y (z08 had) rows z))).length≤(z1d (z08 had) r).length*nm.length:=cM bd (Nat.le_mul_of_pos_right _ gn.lo)
  have p64:(2:Int)^(z0R (z08 had) r (z0N (z0y (z08 had) rows z))).length<18446744073709551616:=Int.lt_of_le_of_lt (y5k (cM bd d60)) (by decide)
  refine(rdI rfl (rdI rfl (ex2 d _ ⟨rfl,.inr (SqT.of e5),(rdI rfl ⟨by lia,by lia,?_⟩)⟩)))
  rw[ld,eU]
  refine(ex2 _ _ ⟨rfl,rfl,⟨Int.pow_pos (by decide),p64⟩,(rdI rfl (rdI rfl (ex2 _ _ ⟨rfl,rfl,?_⟩)))⟩)
  rw[y3Y _ _ lb]
  exact e
noncomputable def y1I(Sh:ShP):Sp:=fun vs H Q _=>∃(x:Addr) (fp:List Addr) (nm:List Str) (r:Int) (rows:List Row) (had:List Int) (m:Nat),vs=[.ref x]/\Sh H x fp nm r (fun n=>z10 rows n r) had/\E2 nm/\Rws nm rows/\rows.length≤60/\(∀n∈had,1≤n/\n≤rows.length)/\0≤r/\r≤10/\z3X had m/\
 ∀(v:V) (H':Hp),B0 H H'->B2 H' (.tup ((z0O m (z08 had) rows r).map O2)) v->Q v H'
theorem y2q{had:List Int}{m:Nat}(h60:∀n∈had,1≤n/\n≤60)(t:z3X had m):z08 (z08 had++z1g (z08 had))=upI 1 m:=z1P (z16 _) (z1Q _ _) fun x=>by
 have inr:∀y,y∈z08 had↔y∈had:=fun y=>by
  rw[z0Q]
  exact⟨fun h=>h.2,fun h=>⟨by have:=h60 y h;lia,h⟩⟩
 rw[z0Q,cH,z1i,z0X]
 constructor
 ·rintro⟨h1,h|⟨_,_,y,hy,h⟩⟩
  ·have:=t.2 x ((inr x).mp h)
   lia
  ·have:=t.2 y ((inr y).mp hy)
   lia
 ·rintro⟨h1,h2⟩
  rcases t.1 with q|⟨_,q⟩
  ·have:=h60 _ q
   refine⟨by lia,?_⟩
   by_cases c:x∈z08 had
   ·exact .inl c
   ·refine .inr ⟨by lia,c,m,(inr _).mpr q,?_⟩
    have:x≠(m:Int):=fun e=>c (by rw[e];exact(inr _).mpr q)
    lia
  ·lia
theorem y2t{kvs:List (Key×V)}{ks:List Int}(kk:kvs.map (·.1)=ks.map Sum.inl){n:Int}(hn:n∉ks)(v:V):putK kvs (Sum.inl n) v=kvs++[(Sum.inl n,v)]:=by
 refine y2G _ ?_
 have:=y08 kk n
 rw[decide_eq_false hn] at this
 cases e:L5 kvs (Sum.inl n:Key) with
 | none=>rfl
 | some v=>rw[e] at this;cases this
theorem y6D{A0:Addr}(M:Bl mg)(F:Fun K "known_sets" "known_sets" z5Y f fd)(B3:D9 P w K mg base 1 A0 "had" z1l (z3c (ShD K A0)))(E1:D9 P w K mg base 1 A0 "rows_of" z2Q (y0l (ShD K A0)))
  (E3:Cal P w K mg base 1 "names_of_rows" z2O y1F) (J4:Cal P w K mg base 3 "gaps_of" z61 (z7Q (ShD K A0))):B4 P w K mg base CX0 4 f fd z4b (y1I (ShD K A0)):=by
 have nd:=z7w.nd
 refine F.ok z7w (fun vs H Q E h=>?_) (fun cdv A outer s H vs Q E hr h=>?_)
 ·obtain⟨x,fp,nm,r,rows,had,m,rfl,_⟩:=h
  rfl
 obtain⟨x,fp,nm,r,rows,had,m,rfl,sh,gn,R,l60,hh,r0,r10,it,k⟩:=h
 have hu:=y0M hr
 refine⟨_,(z04 (z0o (i:=1) nd rfl (Or.inr rfl) y2j) (z04 (z0W bT rfl (z26 (z1C B3 (rm hr) (pv 0))) (z0j (i:=2) nd rfl (Or.inl rfl)) (z05 (y1u hu (pv 1) (pv 2) (z0g E3 (rm hr) rfl (z00 (z1J E1 (rm hr) (pv 0) (z00 (pv 2) z02)) z02)) rfl))) (z04 (z0W bT rfl (z26 (z0g J4 (rm hr) rfl (z00 (pv 0) z02))) (y6P rfl (z1e (z0j (i:=2) nd rfl (Or.inl rfl)) (z1e (z0j (i:=3) nd rfl (Or.inl rfl)) (z1e (z0j (i:=4) nd rfl (Or.inl rfl)) z4Z)))) (z05 (y1u hu (pv 1) (pv 2) (z5e (z0c z28 (pv 3) z06 (z0m _)) z9F (pv 4)) rfl))) (z05 (z0i (z0t z0p rfl M.tuple bH (z00 (z1c ["number"] ["sets"] [1] rfl (z0v rfl (by decide +kernel) rfl (by decide +kernel) rfl rfl) (z1k (z0b (z4o rfl) rfl M.sorted fW (z00 (pv 1) z02))) (fun _ _ _ _ _=>(z0j (i:=0) (show((["number"]:List PySem.Str)++(["sets"]:List PySem.Str)).Nodup from by decide +kernel) rfl (Or.inl rfl))) (z0x (by decide)) z0h (fun _ _ _ _ _=>z1W) (fun _ _ _ _ _=>(z6L hu (pv 1) (pv 0) (fun _ _=>rfl)))) z02))))))),?_⟩
 have h60:∀n∈had,1≤n/\n≤60:=fun n hn=>by have:=hh n hn;lia
 have rl:=z2e had
 have ll:=z2v (z08 had)
 obtain⟨dx,fs,h1,lm,lo⟩:∃dx fs,H x=some (.ins A0 dx fs)/\fs.lookup ("had":Str)=none/\fs.lookup ("rows_of":Str)=none:=by
  obtain⟨dx,pn,pd,fs,kvs,_,h1,_,_,_,_,lr,_,lm,_⟩:=sh
  exact⟨dx,fs,h1,lm _ (by simp),lm _ (by simp)⟩
 intro d hd
 have s0:=z01 hd (.dK [])
 have e0:upd H d (.dK []) d=some (.dK []):=z03
 generalize upd H d (.dK [])=H0 at s0 e0
 refine(rdI rfl (ex3 x dx fs ⟨rfl,s0 _ _ h1,lm,(ex6 x fp nm r _ had ⟨rfl,F2.same sh s0,fun l H1 s1 e1=>?_⟩)⟩))
 have s01:=s0.trans s1
 refine⟨l,rfl,⟨_,SqT.of e1⟩,z4G (K:=K) (a:=l) (xs:=(z08 had).map V.int) (fun i σ G=>∃(kvs:List (Key×V)) (o2:Option V),B0 H G/\G l=some (.tup ((z08 had).map V.int))/\G d=some (.dK kvs)/\kvs.map (·.1)=((z08 had).take i).map Sum.inl/\(∀n v,(Sum.inl n,v)∈kvs->B2 G (L7 (z0H (z0D rows n))) v)/\
   σ=[some (.ref x),some (.ref d),o2,none,none]) ⟨[],none,s01,e1,s1 _ _ e0,by rw[cZ];rfl,fun _ _ q=>(nomatch q),rfl⟩ (fun i σ G _ ⟨_,_,_,e,_⟩=>SqT.of e) ?_ ?_⟩
 ·rintro i y σ G hy ⟨kvs,o2,sG,elG,edG,kk,tk,rfl⟩
  rw[bE] at hy
  obtain⟨n,en,rfl⟩:=bY.mp hy
  have nh:n∈had:=(z0Q.mp (bS en)).2
  have lk:kvs.length≤60:=by
   have:=congrArg List.length kk
   rw[bA,bA,bI] at this
   lia
  refine(rdI rfl (ex3 x dx fs ⟨rfl,sG _ _ h1,lo,(rdI rfl (w0q x fp nm r _ had n _ _ _ ⟨rfl,F2.same sh sG,nh,rfl,fun v tv=>?_⟩))⟩))
  obtain⟨a,us,rfl,ea,_,tu⟩:=z0d tv
  refine(ex3 a us (z0D rows n) ⟨rfl,ea,tu,y1W gn R n,fun q G1 s1' eq=>?_⟩)
  refine(rdI rfl (rdI rfl (ex2 d _ ⟨rfl,V0.k (k:=Sum.inl n) (s1' _ _ edG) (z0f (by lia)),?_⟩)))
  have nin:n∉(z08 had).take i:=fun h=>by
   have:=(z16 had)
   rw[<- List.take_append_drop (i+1) (z08 had),z0n en] at this
   have:=(d8.mp (d8.mp this).1).2.2 n h n (bC.mpr rfl)
   lia
  rw[y2t kk nin]
  have nl:l≠d:=z4x elG edG (by intro z;cases z)
  refine⟨_,_,z2g (sG.trans s1') hd,by rw[z0l nl];exact s1' _ _ elG,z03,?_,fun n' v' hv=>?_,rfl⟩
  ·rw[bG,kk,z0n en,bG]
   rfl
  ·refine B2.over (s1' _ _ edG) (fun _ z=>by cases z) _ _ ?_
   rcases cH.mp hv with h|h
   ·exact B2.keep s1' _ _ (tk n' v' h)
   ·rw[bC] at h
    cases h
    exact z0s eq (by rw[bA];have:=y8M R gn n;lia) (z2n _)
 rintro σ H2 ⟨kvs,o2,s2,_,ed2,kk2,tk2,rfl⟩
 rw[bA,bR] at kk2
 have sh2:=F2.same sh s2
 refine(rdI rfl (ex6 x fp nm r rows had ⟨rfl,sh2,gn,R,l60,hh,r0,r10,fun gv H3 s3 tg=>?_⟩))
 obtain⟨ag,gz,rfl,eag,_,tgz⟩:=z0d tg
 have lgz:gz.length=(z1g (z08 had)).length:=by
  rw[tgz.length]
  unfold z3v
  rw[bA]
 have s23:=s2.trans s3
 refine⟨ag,rfl,⟨_,SqT.of eag⟩,z4G (K:=K) (a:=ag) (xs:=gz) (fun i σ G=>∃(kvs:List (Key×V)) (o2 o3 o4:Option V),B0 H G/\G ag=some (.tup gz)/\z0a G (z3v (z08 had) rows r) gz/\G d=some (.dK kvs)/\kvs.map (·.1)=(z08 had++(z1g (z08 had)).take i).map Sum.inl/\(∀n v,(Sum.inl n,v)∈kvs->B2 G (O2 (z1U (z08 had) rows r n)) v)/\
   σ=[some (.ref x),some (.ref d),o2,o3,o4]) ⟨kvs,_,_,_,s23,eag,tgz,s3 _ _ ed2,by rw[cZ,cX];exact kk2,fun n v hv=>?_,rfl⟩ (fun i σ G _ ⟨_,_,_,_,_,e,_⟩=>SqT.of e) ?_ ?_⟩
 ·have hm:n∈z08 had:=by
   have:(Sum.inl n:Key)∈kvs.map (·.1):=cS.mpr ⟨_,hv,rfl⟩
   rw[kk2] at this
   obtain⟨n',h,e⟩:=cS.mp this
   cases e
   exact h
  unfold z1U
  rw[if_pos (.inl hm)]
  exact B2.keep s3 _ _ (tk2 n v hv)
 ·rintro i y σ G hy ⟨kvs,o2,o3,o4,sG,eaG,tG,edG,kk,tk,rfl⟩
  obtain⟨n,a,b,en,rfl,ha,hb⟩:=z6i tG hy
  have hlk:=bS en
  have hin:n∉z08 had:=(z0X.mp hlk).2.1
  have lk:kvs.length≤120:=by
   have:=congrArg List.length kk
   rw[bA,bA,bL,bI] at this
   lia
  have nin:n∉z08 had++(z1g (z08 had)).take i:=fun h=>by
   rcases cH.mp h with h|h
   ·exact hin h
   ·have:=z2N (z08 had)
    rw[<- List.take_append_drop (i+1) (z1g (z08 had)),z0n en] at this
    have:=(d8.mp (d8.mp this).1).2.2 n h n (bC.mpr rfl)
    lia
  have nag:ag≠d:=z4x eaG edG (by intro z;cases z)
  refine(ex2 a _ ⟨rfl,SqT.of ha,rfl,(ex2 _ _ ⟨rfl,(ex2 _ _ ⟨rfl,(ex2 _ _ ⟨rfl,rfl,?_⟩)⟩)⟩)⟩)
  have fin:∀v,B2 G (O2 (z1U (z08 had) rows r n)) v->∃(w0v:List (Key×V)) (o2 o3 o4:Option V),B0 H (upd G d (.dK (putK kvs (Sum.inl n) v)))/\upd G d (.dK (putK kvs (Sum.inl n) v)) ag=some (.tup gz)/\z0a (upd G d (.dK (putK kvs (Sum.inl n) v))) (z3v (z08 had) rows r) gz/\upd G d (.dK (putK kvs (Sum.inl n) v)) d=some (.dK w0v)/\w0v.map (·.1)=(z08 had++(z1g (z08 had)).take (i+1)).map Sum.inl/\(∀n' v',(Sum.inl n',v')∈w0v->B2 (upd G d (.dK (putK kvs (Sum.inl n) v))) (O2 (z1U (z08 had) rows r n')) v')/\
    [some (V.ref x),some (.ref d),some (.int n),some (.int (z0J (z08 had) n r)),some (.ref b)]=[some (V.ref x),some (.ref d),o2,o3,o4]:=fun v tv=>by
   rw[y2t kk nin]
   refine⟨_,_,_,_,z2g sG hd,by rw[z0l nag];exact eaG,z0a.over edG (fun _ z=>by cases z) _ _ tG,z03,?_,fun n' v' hv=>?_,rfl⟩
   ·rw[bG,kk,z0n en,<- jC,bG (l₁:=z08 had++_)]
    rfl
   ·refine B2.over edG (fun _ z=>by cases z) _ _ ?_
    rcases cH.mp hv with h|h
    ·exact tk n' v' h
    ·rw[bC] at h
     cases h
     exact tv
  refine(rdI rfl ⟨rfl,(rdI rfl ?_)⟩)
  by_cases c:z0J (z08 had) n r=0
  ·rw[decide_eq_true (congrArg V.int c)]
   refine E8 (rdI rfl (rdI rfl (ex2 d _ ⟨rfl,V0.k (k:=Sum.inl n) edG (z0f (by lia)),fin .non ?_⟩)))
   unfold z1U
   rw[if_neg (fun h=>h.elim hin fun h=>h c)]
   exact z5a
  ·rw[decide_eq_false (fun e=>c (V.int.inj e))]
   refine B7 (rdI rfl (rdI rfl (rdI rfl (ex2 d _ ⟨rfl,V0.k (k:=Sum.inl n) edG (z0f (by lia)),fin (.ref b) ?_⟩))))
   unfold z1U
   rw[if_pos (.inr c)]
   unfold z2B at hb
   rw[if_neg c] at hb
   exact z0s hb (by rw[bA];have:=y8M R gn n;lia) (z2n _)
 rintro σ H4 ⟨kvs,p2,p3,p4,s4,_,_,ed4,kk4,tk4,rfl⟩
 rw[lgz,bR] at kk4
 have hm60:m≤60:=by have:=it.le (k:=60) (by decide) fun x hx=>(h60 x hx).2;lia
 have knd:(z08 had++z1g (z08 had)).Nodup:=jB.mpr ⟨(z16 had).imp fun h=>jW h,(z2N _).imp fun h=>jW h,fun a ha b hb e=>(z0X.mp hb).2.1 (e ▸ ha)⟩
 have kall:∀n∈z08 had++z1g (z08 had),1≤n/\n≤60:=fun n hn=>by
  rcases cH.mp hn with h|h
  ·exact h60 n (z0Q.mp h).2
  ·have:=(z0X.mp h).1
   lia
 refine(rdI rfl (ex3 d kvs (z08 had++z1g (z08 had)) ⟨rfl,ed4,kk4,eS (z8r knd kall) (by decide),fun ls ms hls hp hs=>?_⟩))
 have ems:ms=upI 1 m:=by
  rw[y0q knd kall hp hs]
  exact y2q h60 it
 subst ems
 have s5:=z01 hls (.lst ((upI 1 m).map V.int))
 have e5:upd H4 ls (.lst ((upI 1 m).map V.int)) ls=some (.lst ((upI 1 m).map V.int)):=z03
 have ed5:=s5 _ _ ed4
 generalize upd H4 ls (.lst ((upI 1 m).map V.int))=H5 at s5 e5 ed5
 refine⟨ls,rfl,⟨_,SqL.of e5⟩,?_⟩
 refine z3k (xs:=(upI 1 m).map V.int) (fun i ys G=>G=H5/\z0a H5 (((upI 1 m).take i).map fun n=>O2 (z1U (z08 had) rows r n)) ys) ⟨rfl,by rw[cZ];exact .nil⟩ (fun i ys G hi hp=>?_) (fun i y ys G hy hp=>?_) (fun ys G hp=>?_)
 ·obtain⟨rfl,t⟩:=hp
  refine⟨SqL.of e5,z0f ?_⟩
  rw[t.length,bA,bI,z0S]
  lia
 ·obtain⟨rfl,t⟩:=hp
  rw[bE] at hy
  obtain⟨n,en,rfl⟩:=bY.mp hy
  have hn:n∈z08 had++z1g (z08 had):=by
   have:=bS en
   rw[<- y2q h60 it] at this
   exact(z0Q.mp this).2
  obtain⟨v,ev,mv⟩:=z82 kk4 hn
  refine(rdI rfl (rdI rfl (ex2 d v ⟨rfl,(by rw[<- ev];exact N5.k (k:=Sum.inl n) ed5),rfl,?_⟩)))
  rw[z0n en,bG]
  exact z0a.snoc t (B2.keep s5 _ _ (tk4 n v mv))
 ·obtain⟨rfl,t⟩:=hp
  rw[bA,bR] at t
  intro D hD
  refine(ex2 D ys ⟨rfl,.inl ⟨SqL.of z03,fun q hq=>k _ _ (s4.trans (s5.trans ((z01 hD _).trans (z01 hq _)))) (z0s z03 ?_ (z0a.keep ((z01 hD _).trans (z01 hq _)) _ _ ?_))⟩⟩)
  ·rw[bA,z0Z]
   lia
  ·unfold z0O
   rw[eF]
   exact t
noncomputable def z97(c:List (List Str)):DV:=.tup (c.map L7)
noncomputable def z5g(ks:List (Option (List Str))):List (List Str):=ks.map fun o=>o.getD []
noncomputable def z6p(c:List (List Str))(d:Nat)(z:Str):List (List Str):=c.take (d-1)++[[z]]++c.drop d
theorem z0a.drop{H:Hp}:∀{ds:List DV}{xs:List V} (n:Nat),z0a H ds xs->z0a H (ds.drop n) (xs.drop n)
 | _,_,0,h=>h
 | [],_,n+1,h=>by
  have:=z0G h
  subst this
  exact .nil
 | d0::ds,_,n+1,h=>by
  obtain⟨x0,r,rfl,h1,h2⟩:=z0e h
  exact z0a.drop n h2
theorem y2k{had:List Int}{r:Int}{m:Nat}(h60:∀n∈had,1≤n/\n≤60)(t:z3X had m){d:Int}(hd:d∈z1d (z08 had) r):1≤d/\d<(m:Int):=by
 obtain⟨h1,_⟩:=z4Q.mp hd
 obtain⟨h2,_,y,hy,h3⟩:=z0X.mp h1
 have:=t.2 y (z0Q.mp hy).2
 lia
theorem y1n{ns:List Int}{rows:List Row}{r num:Int}{z:Str}(h:z0P ns rows r num z="open"):∃n∈z1d ns r,num<n:=by
 unfold z0P at h
 split at h
 ·exact absurd h (by decide)
 ·split at h
  ·exact absurd h (by decide)
  ·rename_i c
   refine j0 fun q=>c (z7u.mpr fun n hn=>?_)
   exact Int.not_lt.mp fun z=>q ⟨n,hn,z⟩
noncomputable def y8G(Sh:ShP):Sp:=fun vs H Q _=>∃(x:Addr) (z:Str) (fp:List Addr) (nm:List Str) (r:Int) (rows:List Row) (had:List Int) (m:Nat),vs=[.ref x,.str z]/\Sh H x fp nm r (fun n=>z10 rows n r) had/\z∈nm/\E2 nm/\Rws nm rows/\rows.length≤60/\(∀n∈had,1≤n/\n≤rows.length)/\0≤r/\r≤10/\z3X had m/\
 (z0P (z08 had) rows r (z0N (z0y (z08 had) rows z)) z≠"open"->∀H',B0 H H'->Q .non H')/\
 (z0P (z08 had) rows r (z0N (z0y (z08 had) rows z)) z="open"->∀(d:Nat),(d:Int)∈z1d (z08 had) r->(∀y∈z1d (z08 had) r,y≤(d:Int))->∀(v:V) (H':Hp),B0 H H'->B2 H' (.tup [z97 (z5g (z0O m (z08 had) rows r)),z97 (z6p (z5g (z0O m (z08 had) rows r)) d z)]) v->Q v H')
theorem z9h{A0:Addr}(M:Bl mg)(T:D7 K mg A0)(F:Fun K "two_courses" "two_courses" z4D f fd)(C8:Cal P w K mg base 5 "state_of" z3q (z40 (ShD K A0)))(I0:Cal P w K mg base 4 "known_sets" z4b (y1I (ShD K A0)))
  (B3:D9 P w K mg base 1 A0 "had" z1l (z3c (ShD K A0))) (D2:Cal P w K mg base 3 "dark_numbers" z2y (y2I K)):B4 P w K mg base CX0 6 f fd z53 (y8G (ShD K A0)):=by
 have nd:=z6o.nd
 refine F.ok z6o (fun vs H Q E h=>?_) (fun cdv A outer s H vs Q E hr h=>?_)
 ·obtain⟨x,z,fp,nm,r,rows,had,m,rfl,_⟩:=h
  rfl
 obtain⟨x,z,fp,nm,r,rows,had,m,rfl,sh,hz,gn,R,l60,hh,r0,r10,it,k1,k2⟩:=h
 refine⟨_,(z04 (z0C (z0c z79 (z0g C8 (rm hr) rfl (z00 (pv 0) (z00 (pv 1) z02))) (z22 rfl M.OPEN) (z0m _)) (z05 (z0i z9F)) z0k) (z04 (z0o (i:=2) nd rfl (Or.inl rfl) (z0t z0p rfl M.tuple bH (z00 (z1c ["known"] [] [] rfl (z0v rfl (by decide +kernel) rfl (by decide +kernel) rfl rfl) (z26 (z0g I0 (rm hr) rfl (z00 (pv 0) z02))) (fun _ _ _ _ _=>(z0j (i:=0) (show((["known"]:List PySem.Str)++([]:List PySem.Str)).Nodup from by decide +kernel) rfl (Or.inl rfl))) (z0x (by decide)) z0h (fun _ _ _ _ _=>z1W) (fun _ _ _ _ _=>(z5e (z7J (z8p (pv 0))) (z0U z02) (pv 0)))) z02))) (z04 (z0o (i:=3) nd rfl (Or.inl rfl) (z0b (z3t rfl) rfl M.max dB (z00 (z0g D2 (rm hr) rfl (z00 (z1C B3 (rm hr) (pv 0)) (z00 (z0M (pv 0) rfl) z02))) z02))) (z04 (z0o (i:=4) nd rfl (Or.inl rfl) (z0r y3L (z0r y3L (z1O y48 (pv 2) z2r (z2s (z0r z25 (pv 3) z06))) (z0U (z00 (z0U (z00 (pv 1) z02)) z02))) (z1O y48 (pv 2) (z2s (pv 3)) z2r))) (z05 (z0i (z0U (z00 (pv 2) (z00 (pv 4) z02))))))))),?_⟩
 have h60:∀n∈had,1≤n/\n≤60:=fun n hn=>by have:=hh n hn;lia
 have w0l:∀n∈z08 had,1≤n/\n≤60:=fun n hn=>h60 n (z0Q.mp hn).2
 have hm60:m≤60:=by have:=it.le (k:=60) (by decide) fun x hx=>(h60 x hx).2;lia
 obtain⟨dx,fs,h1,lm,lr⟩:∃dx fs,H x=some (.ins A0 dx fs)/\fs.lookup ("had":Str)=none/\fs.lookup ("reach":Str)=some (V.int r):=by
  obtain⟨dx,pn,pd,fs,kvs,_,h1,_,_,_,_,lr,_,lm,_⟩:=sh
  exact⟨dx,fs,h1,lm _ (by simp),lr⟩
 refine(rdI rfl (rdI rfl (ex7 x z fp nm r rows had ⟨rfl,sh,hz,gn,R,l60,hh,r0,r10,fun H1 s1=>⟨rfl,(rdI rfl ?_)⟩⟩)))
 by_cases c:z0P (z08 had) rows r (z0N (z0y (z08 had) rows z)) z="open"
 case neg=>
  rw[decide_eq_false (fun e=>c (V.str.inj e))]
  exact E8 (k1 c H1 s1)
 rw[decide_eq_true (congrArg V.str c)]
 refine B7 ?_
 have sh1:=F2.same sh s1
 refine(rdI rfl (ex7 x fp nm r rows had m ⟨rfl,sh1,gn,R,l60,hh,r0,r10,it,fun kv H2 s2 tk=>?_⟩))
 obtain⟨ak,us,rfl,eak,_,tus⟩:=z0d tk
 have lus:us.length=m:=by rw[tus.length,bA,z0Z]
 refine⟨ak,rfl,⟨_,SqT.of eak⟩,?_⟩
 refine z1A (xs:=us) (fun i ys G=>B0 H2 G/\z0a G ((z5g ((z0O m (z08 had) rows r).take i)).map L7) ys) ⟨B0.refl _,by rw[cZ];exact .nil⟩ (fun i ys G hi hp=>?_) (fun i y ys G hy hp=>?_) (fun ys G hp=>?_)
 ·obtain⟨g,t⟩:=hp
  refine⟨SqT.of (g _ _ eak),z0f ?_⟩
  rw[t.length,bA]
  unfold z5g
  rw[bA,bI,z0Z]
  lia
 ·obtain⟨g,t⟩:=hp
  obtain⟨d,ed,td⟩:=tus.at i y hy
  rw[bE] at ed
  obtain⟨o,eo,rfl⟩:=bY.mp ed
  have eb:z5g ((z0O m (z08 had) rows r).take (i+1))=z5g ((z0O m (z08 had) rows r).take i)++[o.getD []]:=by
   unfold z5g
   rw[z0n eo,bG]
   rfl
  rw[eb,bG]
  cases o with
  | none=>
   have ey:y=.non:=by
    unfold O2 B2 at td
    exact td
   subst ey
   refine(rdI rfl (rdI rfl (E8 ⟨(by show 0≤sizeLine;decide),fun t0 ht0=>⟨g.trans (z01 ht0 _),?_⟩⟩)))
   exact z0a.snoc (z0a.keep (z01 ht0 _) _ _ t) (z0s z03 (by decide) .nil)
  | some zs=>
   obtain⟨b,ws,rfl,eb',lb,tb⟩:=z0d (show B2 H2 (L7 zs) y from td)
   refine(rdI rfl (rdI rfl (B7 (rdI rfl ⟨g,?_⟩))))
   exact z0a.snoc t (B2.keep g _ _ td)
 obtain⟨g,t⟩:=hp
 rw[lus,cP (by rw[z0Z];exact bJ _)] at t
 intro D hD
 refine(ex2 D ys ⟨rfl,.inl ⟨SqL.of z03,fun an han=>?_⟩⟩)
 have s3:=g.trans ((z01 hD (.lst ys)).trans (z01 han (.tup ys)))
 have t3:=z0a.keep ((z01 hD (.lst ys)).trans (z01 han (.tup ys))) _ _ t
 have en:upd (upd G D (.lst ys)) an (.tup ys) an=some (.tup ys):=z03
 generalize upd (upd G D (.lst ys)) an (.tup ys)=H3 at s3 t3 en
 have lys:ys.length=m:=by
  rw[t3.length,bA]
  unfold z5g
  rw[bA,z0Z]
 have c13:=s2.trans s3
 have sh3:=F2.same sh1 c13
 have h13:=(s1.trans c13) _ _ h1
 refine(rdI rfl (ex3 x dx fs ⟨rfl,h13,lm,(ex6 x fp nm r _ had ⟨rfl,sh3,fun lh H4 s4 e4=>?_⟩)⟩))
 refine(rdI rfl (ex5 x A0 dx fs _ ⟨rfl,s4 _ _ h13,T.cl,T.n_reach,lr,(ex3 lh (z08 had) r ⟨rfl,.inr (SqT.of e4),w0l,cM (z2e had) (by decide),fun ld H5 s5 e5=>?_⟩)⟩))
 obtain⟨n0,hn0,_⟩:=y1n c
 refine(ex2 ld (z1d (z08 had) r) ⟨rfl,.inr (SqT.of e5),List.ne_nil_of_mem hn0,fun dm hdm topd=>?_⟩)
 have hdr:=y2k h60 it hdm
 obtain⟨d,rfl⟩:∃d:Nat,dm=(d:Int):=⟨dm.toNat,by lia⟩
 have s35:=s4.trans s5
 have en5:=s35 _ _ en
 have t5:=z0a.keep s35 _ _ t3
 have ed1:(d:Int)-1=((d-1:Nat):Int):=by lia
 have ltm:∀l:List V,l.length≤60->l.length<sizeLine:=fun l h=>z0f (by lia)
 refine(rdI rfl (rdI rfl (ex2 _ _ ⟨rfl,rfl,(rdI rfl (ex2 an ys ⟨rfl,en5,fun p1 H6 s6 e6=>?_⟩))⟩)))
 rw[ed1,y02 (by rw[lys];lia)] at e6
 refine(rdI rfl ⟨(by show 1≤sizeLine;decide),fun t1 ht1=>⟨(by show 1≤sizeLine;decide),fun t2 ht2=>?_⟩⟩)
 have s7:=(z01 ht1 (.tup [V.str z])).trans (z01 ht2 (.tup [V.ref t1]))
 have e7:upd (upd H6 t1 (.tup [V.str z])) t2 (.tup [V.ref t1]) t2=some (.tup [V.ref t1]):=z03
 have et1:=z01 ht2 (.tup [V.ref t1]) _ _ (show upd H6 t1 (.tup [V.str z]) t1=_ from z03)
 generalize upd (upd H6 t1 (.tup [V.str z])) t2 (.tup [V.ref t1])=H7 at s7 e7 et1
 refine(ex4 p1 t2 _ _ ⟨rfl,rfl,s7 _ _ e6,e7,?_,fun p3 H8 s8 e8=>?_⟩)
 ·rw[bI]
  exact dR (z0f (by show min (d-1) ys.length+1≤1000;lia))
 have s58:=s6.trans (s7.trans s8)
 refine(rdI rfl (rdI rfl (rdI rfl (ex2 an ys ⟨rfl,s58 _ _ en5,fun p4 H9 s9 e9=>?_⟩))))
 rw[y0j (by rw[lys];lia)] at e9
 refine(ex4 p3 p4 _ _ ⟨rfl,rfl,s9 _ _ e8,e9,?_,fun p5 HA sA eA=>?_⟩)
 ·rw[bL,bI,dY]
  exact dR (z0f (by show min (d-1) ys.length+1+(ys.length-d)≤1000;lia))
 have s5A:=s58.trans (s9.trans sA)
 refine(rdI rfl (rdI rfl ⟨(by show 2≤sizeLine;decide),fun tz htz=>?_⟩))
 have sz:=s5A.trans (z01 htz (.tup [V.ref an,V.ref p5]))
 have tyz:=z0a.keep sz _ _ t5
 refine k2 c d hdm topd (.ref tz) _ (s1.trans (c13.trans (s35.trans sz))) (z0s z03 (by show 2≤1000000;decide) (.cons (z0s (sz _ _ en5) ?_ tyz) (.cons (z0s (z01 htz _ _ _ eA) ?_ ?_) .nil)))
 ·rw[bA,<- bA (f:=L7),<- tyz.length]
  lia
 ·rw[bA]
  unfold z6p z5g
  rw[bL,bL,bI,dY,bA,z0Z]
  show min (d-1) m+1+(m-d)≤1000000
  lia
 ·unfold z6p
  rw[bG,bG,List.map_take,List.map_drop]
  refine z0a.append (z0a.append (z0a.take _ tyz) (.cons ?_ .nil)) (z0a.drop _ tyz)
  exact z0s ((s8.trans (s9.trans (sA.trans (z01 htz _)))) _ _ et1) (by show 1≤1000000;decide) (.cons (z2h z) .nil)
theorem y78{hs:List Int}{mx:Int}{m:Nat}(t:z3X hs m)(h60:∀x∈hs,1≤x/\x≤60)(hm:mx∈hs++[0])(top:∀y∈hs++[0],y≤mx):mx=(m:Int):=by
 have h0:=top 0 (cK _ (bC.mpr rfl))
 rcases t.1 with q|⟨q,q0⟩
 ·have h1:=top _ (d7 _ q)
  rcases cH.mp hm with h|h
  ·have:=t.2 mx h
   lia
  ·have:=h60 _ q
   rw[bC] at h
   lia
 ·subst q
  rw[List.nil_append,bC] at hm
  lia
noncomputable def y2L(K:PySem.W.Frag):Sp:=fun vs H Q _=>∃(p lr:Addr) (hs:List Int) (us:List V) (rows:List Row) (r:Int) (m:Nat),vs=[.ref p,.ref lr,.int r]/\H p=some (.lst (hs.map V.int))/\(∀x∈hs,1≤x/\x≤60)/\hs.length≤900/\(∀x∈hs,x≤rows.length)/\
 SqL K H lr us/\z0a H (rows.map O9) us/\(∀w∈rows,w.length≤12)/\0≤r/\z3X hs m/\∀(l:Addr) (zs:List V) (H':Hp),H l=none->B0 H H'->H' l=some (.lst zs)->z0a H' ((z0O m hs rows r).map O2) zs->Q (.ref l) H'
theorem y5v(M:Bl mg)(F:Fun K "_law_known" "_law_known" z5y f fd)(D6:Cal P w K mg base 1 "_law_teller" z2W (z66 K)):B4 P w K mg base CX0 2 f fd z5M (y2L K):=by
 have nd:=z7r.nd
 refine F.ok z7r (fun vs H Q E h=>?_) (fun cdv A outer s H vs Q E hr h=>?_)
 ·obtain⟨p,lr,hs,us,rows,r,m,rfl,_⟩:=h
  rfl
 obtain⟨p,lr,hs,us,rows,r,m,rfl,hP,C3,hlen,hup,hR,tl,h12,r0,it,q⟩:=h
 refine⟨_,(z04 (z0o (i:=3) nd rfl (Or.inl rfl) (z1m z02)) (z04 (z0W bT rfl (z3i rfl M.range (z00 z06 (z00 (z0r z1o (z0b (z3t rfl) rfl M.max dB (z00 (z0r z9p (pv 0) (z1m (z00 z06 z02))) z02)) z06) z02))) (z0j (i:=4) nd rfl (Or.inl rfl)) (z05 (z0C (PW.pt (z38 (z0c z3Q (pv 4) (pv 0) (by with_unfolding_all rfl)) (z24 (z0c z2o (z0g D6 (rm hr) rfl (z00 (pv 0) (z00 (pv 4) (z00 (pv 2) z02)))) z06 (z0m _))))) (z05 (z0F (z2Z bV bU bW z0L (pv 3) (z00 (z0t z0p rfl M.tuple bH (z00 (z1c ["_law_row_here"] [] [] rfl (z0v rfl (by decide +kernel) rfl (by decide +kernel) rfl rfl) (z26 (z0A z1j (pv 1) (z0r z25 (pv 4) z06) (fun _ _=>rfl))) (fun _ _ _ _ _=>(z0j (i:=0) (show((["_law_row_here"]:List PySem.Str)++([]:List PySem.Str)).Nodup from by decide +kernel) rfl (Or.inl rfl))) (z0x (by decide)) z0h (fun _ _ _ _ _=>z1W) (fun _ _ _ _ _=>(z0A (r:=Q6 K) z0w (pv 0) z06 (fun _ _=>rfl)))) z02)) z02)))) (z05 (z0F (z2Z bV bU bW z0L (pv 3) (z00 z9F z02))))))) (z05 (z0i (pv 3))))),?_⟩
 refine⟨(by show 0≤sizeLine;decide),fun l hl=>?_⟩
 have s1:=z01 hl (.lst [])
 refine(rdI rfl ⟨(by show 1≤sizeLine;decide),fun l0 hl0=>(ex4 p l0 _ _ ⟨rfl,rfl,z01 hl0 _ _ _ (s1 _ _ hP),z03,?_,fun lc hlc=>?_⟩)⟩)
 ·rw[bA]
  exact dR (z0f (by show hs.length+1≤1000;lia))
 have s2:=s1.trans ((z01 hl0 (.lst [V.int 0])).trans (z01 hlc (.lst (hs.map V.int++[V.int 0]))))
 have eg:upd (upd (upd H l (.lst [])) l0 (.lst [V.int 0])) lc (.lst (hs.map V.int++[V.int 0])) l=some (.lst []):=(z01 hl0 _).trans (z01 hlc _) _ _ z03
 have ec:upd (upd (upd H l (.lst [])) l0 (.lst [V.int 0])) lc (.lst (hs.map V.int++[V.int 0])) lc=some (.lst ((hs++[0]).map V.int)):=by
  rw[z03,bG]
  rfl
 generalize upd (upd (upd H l (.lst [])) l0 (.lst [V.int 0])) lc (.lst (hs.map V.int++[V.int 0]))=H2 at s2 eg ec
 refine(ex2 lc (hs++[0]) ⟨rfl,.inl (SqL.of ec),by simp,fun mx hmx top=>?_⟩)
 have emx:=y78 it C3 hmx top
 subst emx
 have mr:(m:Int)≤rows.length:=it.le (by lia) hup
 have m60:m≤60:=by have:=it.le (k:=60) (by decide) fun x hx=>(C3 x hx).2;lia
 refine(ex2 _ _ ⟨rfl,rfl,(ex2 1 ((m:Int)+1) ⟨rfl,⟨by decide,by decide,by lia,by lia⟩,?_⟩)⟩)
 have kat:∀i:Nat,i<m->(z0O m hs rows r)[i]? = some (z1U hs rows r (1+(i:Int))):=fun i hi=>by
  unfold z0O
  rw[bE,show(upI 1 m)[i]? = some (1+(i:Int)) by unfold upI;rw[bE,fF hi];rfl]
  rfl
 refine z15 (lo:=1) (n:=((m:Int)+1-1).toNat) (fun i σ G=>∃(zs:List V) (o4:Option V),B0 H G/\G l=some (.lst zs)/\z0a G (((z0O m hs rows r).take i).map O2) zs/\σ=[some (.ref p),some (.ref lr),some (.int r),some (.ref l),o4]) ⟨[],none,s2,eg,by rw[cZ];exact .nil,rfl⟩ (fun i σ G hi hp=>?_) (fun σ G hp=>?_)
 ·obtain⟨zs,o4,g,eG,tG,rfl⟩:=hp
  have him:i<m:=by lia
  have lz:zs.length≤i:=by
   rw[tG.length,bA,bI]
   lia
  refine(rdI rfl (rdI rfl (ex2 p _ ⟨rfl,.inl (SqL.of (g _ _ hP)),rfl,z2c hs,(rdI rfl ?_)⟩)))
  rw[if_neg bM,z2P]
  have fin:∀{G1:Hp} (v:V),B0 G G1->B2 G1 (O2 (z1U hs rows r (1+(i:Int)))) v->B0 H (upd G1 l (.lst (zs++[v])))/\upd G1 l (.lst (zs++[v])) l=some (.lst (zs++[v]))/\z0a (upd G1 l (.lst (zs++[v]))) (((z0O m hs rows r).take (i+1)).map O2) (zs++[v]):=fun {G1} v s3 tv=>by
   refine⟨z2g (g.trans s3) hl,z03,?_⟩
   rw[z0n (kat i him),bG]
   exact z0a.over (s3 _ _ eG) y2c _ _ (z0a.snoc (z0a.keep s3 _ _ tG) tv)
  have sz:zs.length<sizeLine:=z0f (by lia)
  by_cases c:(1:Int)+(i:Int)∈hs
  ·rw[decide_eq_true c]
   have ek:z1U hs rows r (1+(i:Int))=some (z0H (z0D rows (1+(i:Int)))):=by
    unfold z1U
    rw[if_pos (.inl c)]
   rw[ek] at fin
   refine E8 ?_
   have s3:B0 G G:=B0.refl _
   obtain⟨v,_,av,tv⟩:=z69 (z0a.keep (g.trans s3) _ _ tl) (k:=1+(i:Int)) (by lia) (by lia)
   obtain⟨ar,xs,rfl,er,_,tp⟩:=z0d tv
   have lw:xs.length=(z0D rows (1+(i:Int))).length:=by rw[tp.length,bA]
   have w12:=z92 h12 (1+(i:Int))
   refine(rdI rfl ⟨.inl ⟨rfl,_,SqL.of (s3 _ _ eG)⟩,(rdI rfl (rdI rfl (ex2 _ _ ⟨rfl,rfl,(ex4 lr us _ _ ⟨rfl,rfl,(g.trans s3).seq hR,av,ar,rfl,⟨_,SqT.of er⟩,?_⟩)⟩)))⟩)
   refine z1A (xs:=xs) (fun j ys H2=>H2=G/\ys=((z0H (z0D rows (1+(i:Int)))).take j).map V.str) ⟨rfl,rfl⟩ (fun j ys H2 hj hp=>?_) (fun j y ys H2 hy hp=>?_) (fun ys H2 hp=>?_)
   ·obtain⟨rfl,rfl⟩:=hp
    refine⟨SqT.of er,z0f ?_⟩
    rw[bA,bI]
    lia
   ·obtain⟨rfl,rfl⟩:=hp
    obtain⟨pq,b,e1,rfl,e2⟩:=z2J tp j y hy
    refine(rdI rfl (ex4 b _ 0 _ ⟨rfl,rfl,SqT.of e2,rfl,rfl,?_⟩))
    have e3:(z0H (z0D rows (1+(i:Int))))[j]? = some pq.1:=by
     unfold z0H
     rw[bE,e1]
     rfl
    rw[z0n e3,bG]
    rfl
   obtain⟨rfl,rfl⟩:=hp
   have ll:(z0H (z0D rows (1+(i:Int)))).take xs.length=z0H (z0D rows (1+(i:Int))):=cP (by unfold z0H;rw[bA];lia)
   rw[ll]
   intro D hD
   refine(ex2 D _ ⟨rfl,.inl ⟨SqL.of z03,fun t ht=>?_⟩⟩)
   have s4:=s3.trans ((z01 hD (.lst ((z0H (z0D rows (1+(i:Int)))).map V.str))).trans (z01 ht (.tup ((z0H (z0D rows (1+(i:Int)))).map V.str))))
   obtain⟨f1,f2,f3⟩:=fin (.ref t) s4 (z0s z03 (by unfold z0H;rw[bA,bA];lia) (z2n _))
   exact(ex3 l zs _ ⟨rfl,rfl,s4 _ _ eG,sz,_,_,f1,f2,f3,rfl⟩)
  ·rw[decide_eq_false c]
   refine B7 (rdI rfl (rdI rfl (rdI rfl (ex4 p hs (1+(i:Int)) r ⟨rfl,SqL.of (g _ _ hP),C3,hlen,r0,fun G3 s3=>(ex2 _ _ ⟨rfl,rfl,(rdI rfl ?_)⟩)⟩))))
   have t0:=z7q (ns:=hs) (n:=1+(i:Int)) (r:=r)
   by_cases c2:0<z0J hs (1+(i:Int)) r
   ·rw[decide_eq_true c2]
    have ek:z1U hs rows r (1+(i:Int))=some (z0H (z0D rows (1+(i:Int)))):=by
     unfold z1U
     rw[if_pos (.inr (by lia))]
    rw[ek] at fin
    refine E8 ?_
    obtain⟨v,_,av,tv⟩:=z69 (z0a.keep (g.trans s3) _ _ tl) (k:=1+(i:Int)) (by lia) (by lia)
    obtain⟨ar,xs,rfl,er,_,tp⟩:=z0d tv
    have lw:xs.length=(z0D rows (1+(i:Int))).length:=by rw[tp.length,bA]
    have w12:=z92 h12 (1+(i:Int))
    refine(rdI rfl ⟨.inl ⟨rfl,_,SqL.of (s3 _ _ eG)⟩,(rdI rfl (rdI rfl (ex2 _ _ ⟨rfl,rfl,(ex4 lr us _ _ ⟨rfl,rfl,(g.trans s3).seq hR,av,ar,rfl,⟨_,SqT.of er⟩,?_⟩)⟩)))⟩)
    refine z1A (xs:=xs) (fun j ys H2=>H2=G3/\ys=((z0H (z0D rows (1+(i:Int)))).take j).map V.str) ⟨rfl,rfl⟩ (fun j ys H2 hj hp=>?_) (fun j y ys H2 hy hp=>?_) (fun ys H2 hp=>?_)
    ·obtain⟨rfl,rfl⟩:=hp
     refine⟨SqT.of er,z0f ?_⟩
     rw[bA,bI]
     lia
    ·obtain⟨rfl,rfl⟩:=hp
     obtain⟨pq,b,e1,rfl,e2⟩:=z2J tp j y hy
     refine(rdI rfl (ex4 b _ 0 _ ⟨rfl,rfl,SqT.of e2,rfl,rfl,?_⟩))
     have e3:(z0H (z0D rows (1+(i:Int))))[j]? = some pq.1:=by
      unfold z0H
      rw[bE,e1]
      rfl
     rw[z0n e3,bG]
     rfl
    obtain⟨rfl,rfl⟩:=hp
    have ll:(z0H (z0D rows (1+(i:Int)))).take xs.length=z0H (z0D rows (1+(i:Int))):=cP (by unfold z0H;rw[bA];lia)
    rw[ll]
    intro D hD
    refine(ex2 D _ ⟨rfl,.inl ⟨SqL.of z03,fun t ht=>?_⟩⟩)
    have s4:=s3.trans ((z01 hD (.lst ((z0H (z0D rows (1+(i:Int)))).map V.str))).trans (z01 ht (.tup ((z0H (z0D rows (1+(i:Int)))).map V.str))))
    obtain⟨f1,f2,f3⟩:=fin (.ref t) s4 (z0s z03 (by unfold z0H;rw[bA,bA];lia) (z2n _))
    exact(ex3 l zs _ ⟨rfl,rfl,s4 _ _ eG,sz,_,_,f1,f2,f3,rfl⟩)
   ·rw[decide_eq_false c2]
    have ek:z1U hs rows r (1+(i:Int))=none:=by
     unfold z1U
     rw[if_neg (fun h=>h.elim c fun h=>h (by lia))]
    rw[ek] at fin
    obtain⟨f1,f2,f3⟩:=fin .non s3 z5a
    exact B7 (rdI rfl ⟨.inl ⟨rfl,_,SqL.of (s3 _ _ eG)⟩,(ex3 l zs _ ⟨rfl,rfl,s3 _ _ eG,sz,_,_,f1,f2,f3,rfl⟩)⟩)
 ·obtain⟨zs,o4,g,eG,tG,rfl⟩:=hp
  rw[cP (by rw[z0Z];lia)] at tG
  exact(rdI rfl (q l zs _ hl g eG tG))
noncomputable def OkO(nm:List Str)(o:Option (List Str))(zs:List Str):Prop:=zs.Sublist nm/\∀ws,o=some ws->zs=ws
noncomputable def z9c(nm:List Str)(ks:List (Option (List Str)))(c:List (List Str)):Prop:=c.length=ks.length/\∀(i:Nat) (o:Option (List Str)) (zs:List Str),ks[i]? = some o->c[i]? = some zs->OkO nm o zs
theorem y0T{nm:List Str}(nd:nm.Nodup){i:Nat}(h:i<nm.length):nm.idxOf nm[i]=i:=by
 have h1:nm.idxOf nm[i]<nm.length:=gZ (fG h)
 have h2:nm[nm.idxOf nm[i]]=nm[i]:=kD h1
 have pw:=fP.mp nd
 rcases Nat.lt_trichotomy (nm.idxOf nm[i]) i with c|c|c
 ·exact absurd h2 (pw _ _ h1 h c)
 ·exact c
 ·exact absurd h2.symm (pw _ _ h h1 c)
theorem y3P{nm zs:List Str}(nd:nm.Nodup)(hin:∀z∈zs,z∈nm):(zs.map fun z=>nm.idxOf z).Pairwise (· < ·)↔zs.Sublist nm:=by
 constructor
 ·intro h
  have e:zs=(zs.attach.map fun z=>(⟨nm.idxOf z.1,gZ (hin z.1 z.2)⟩:Fin nm.length)).map fun i=>nm[i]:=by
   rw[eF]
   refine(List.ext_getElem (by rw[bA,List.length_attach]) fun i h1 h2=>?_)
   rw[List.getElem_map,k7]
   exact(kD _).symm
  rw[e]
  refine List.map_getElem_sublist ?_
  rw[eJ] at h ⊢
  rw[fP] at h ⊢
  intro i j hi hj hij
  rw[List.length_attach] at hi hj
  have:=h i j hi hj hij
  rw[k7,k7]
  exact this
 ·intro h
  obtain⟨is,rfl,hp⟩:=List.sublist_eq_map_getElem h
  rw[eF,eJ]
  refine hp.imp fun {a b} hab=>?_
  show nm.idxOf nm[a]<nm.idxOf nm[b]
  have ha:nm.idxOf nm[a]=a.1:=y0T nd a.2
  have hb:nm.idxOf nm[b]=b.1:=y0T nd b.2
  rw[ha,hb]
  exact hab
theorem y4B{nm:List Str}{z:Str}(h:z∈nm):nm[nm.idxOf z]? = some z/\∀m,m<nm.idxOf z->nm[m]? ≠ some z:=by
 have h1:=gZ h
 refine⟨by rw[bD h1,kD h1],fun m hm e=>?_⟩
 have hm':m<nm.length:=by lia
 rw[bD hm'] at e
 have e':=Option.some.inj e
 have hf:(nm[m] == z)=false:=List.not_of_lt_findIdx (p:=(· == z)) (xs:=nm) hm
 rw[e',beq_self_eq_true] at hf
 cases hf
theorem y4G{ps:List Nat}{j:Nat}(h:(ps.take (j+1)).Pairwise (· < ·)){a b:Nat}(ha:ps[j]? = some a)(hb:ps[j+1]? = some b)(hab:a<b):(ps.take (j+1+1)).Pairwise (· < ·):=by
 rw[z0n hb]
 refine d8.mpr ⟨h,fB _ _,fun x hx y hy=>?_⟩
 rw[bC.mp hy]
 rw[z0n ha] at h hx
 rcases cH.mp hx with hx|hx
 ·have:=(d8.mp h).2.2 x hx a (bC.mpr rfl)
  lia
 ·rw[bC.mp hx]
  exact hab
theorem z6G(a b:List Str):z2p (a.map V.str) (b.map V.str)=decide (a=b):=by
 induction a generalizing b with
 | nil=>
  cases b with
  | nil=>rfl
  | cons y b=>exact(decide_eq_false (fun e=>nomatch e)).symm
 | cons x a ih=>
  cases b with
  | nil=>exact(decide_eq_false (fun e=>nomatch e)).symm
  | cons y b=>
   show(x == y && z2p (a.map V.str) (b.map V.str))=decide (x::a=y::b)
   rw[ih,dA,bZ,decide_eq_true_eq,decide_eq_true_eq,beq_iff_eq,List.cons.injEq]
noncomputable def y2F(K:PySem.W.Frag):Sp:=fun vs H Q _=>∃(v:V) (ln lk:Addr) (c:List (List Str)) (nm:List Str) (ks:List (Option (List Str))) (xs:List V),vs=[v,.ref ln,.ref lk]/\B2 H (z97 c) v/\(∀zs∈c,zs.length≤100)/\SqL K H ln (nm.map V.str)/\nm.Nodup/\nm.length≤12/\SqL K H lk xs/\z0a H (ks.map O2) xs/\ks.length≤100/\
 (z9c nm ks c->∀H',B0 H H'->Q (.bl true) H')/\(¬z9c nm ks c->∀H',B0 H H'->Q (.bl false) H')
theorem z11{H:Hp}:∀{l:List Str}{xs:List V},z0a H (l.map DV.str) xs->xs=l.map V.str
 | [],_,h=>z0G h
 | i::r,_,h=>by
  obtain⟨x,t,rfl,h1,h2⟩:=z0e h
  rw[z2S h1,z11 h2]
  rfl
theorem y3c(M:Bl mg)(F:Fun K "_law_course" "_law_course" z4M f fd):B4 P w K mg base CX0 1 f fd z4R (y2F K):=by
 have nd:=z6j.nd
 refine F.ok z6j (fun vs H Q E h=>?_) (fun cdv A outer s H vs Q E hr h=>?_)
 ·obtain⟨v,ln,lk,c,nm,ks,xs,rfl,_⟩:=h
  rfl
 obtain⟨v,ln,lk,c,nm,ks,xs,rfl,tc,c100,hN,ndn,n12,hK,tk,k100,qt,qf⟩:=h
 refine⟨_,(z04 (z0C (PW.pt (z38 (z1V (z1N (z0b z0I rfl M.isinstance cC (z00 (pv 0) (z00 (z1F (v:=.ty "tuple") rfl M.tuple bH rfl) z02))))) (z24 (z0c z79 (z0b z09 rfl M.len bN (z00 (pv 0) z02)) (z0b z09 rfl M.len bN (z00 (pv 2) z02)) (z0m _))))) (z05 (z0i z1I)) z0k) (z04 (z0W bT rfl (z1p rfl M.range (z00 (z0b z09 rfl M.len bN (z00 (pv 2) z02)) z02)) (z0j (i:=3) nd rfl (Or.inl rfl)) (z04 (z0C (z1V (z1N (z0b z0I rfl M.isinstance cC (z00 (z0A z0w (pv 0) (pv 3) (fun _ _=>rfl)) (z00 (z1F (v:=.ty "tuple") rfl M.tuple bH rfl) z02))))) (z05 (z0i z1I)) z0k) (z04 (z0o (i:=4) nd rfl (Or.inl rfl) (z1m z02)) (z04 (z0W bT rfl (z26 (z0A z0w (pv 0) (pv 3) (fun _ _=>rfl))) (z0j (i:=5) nd rfl (Or.inl rfl)) (z04 (z0C (PW.pt (z38 (z1V (z1N (z0b z0I rfl M.isinstance cC (z00 (pv 5) (z00 (z1F (v:=.ty "str") rfl M.str jQ rfl) z02))))) (z24 (z0c z1z (pv 5) (pv 1) (by with_unfolding_all rfl))))) (z05 (z0i z1I)) z0k) (z05 (z0F (z2Z bV bU bW z0L (pv 4) (z00 (z2Z bV PySem.F.slot_list_index PySem.F.type_list_index y4u (pv 1) (z00 (pv 5) z02)) z02)))))) (z04 (z0W bT rfl (z3i rfl M.range (z00 z06 (z00 (z0b z09 rfl M.len bN (z00 (pv 4) z02)) z02))) (z0j (i:=6) nd rfl (Or.inl rfl)) (z05 (z0C (z0c y6q (z0A z1j (pv 4) (z0r z25 (pv 6) z06) (fun _ _=>rfl)) (z0A z1j (pv 4) (pv 6) (fun _ _=>rfl)) (z0m _)) (z05 (z0i z1I)) z0k))) (z05 (z0C (PW.pt (z37 (z7J (y7q (z0A z1j (pv 2) (pv 3) (fun _ _=>rfl)))) (z2m (z0c (y7c hr.N9) (z0A z0w (pv 0) (pv 3) (fun _ _=>rfl)) (z0A z1j (pv 2) (pv 3) (fun _ _=>rfl)) (z0m _))))) (z05 (z0i z1I)) z0k))))))) (z05 (z0i z1I)))),?_⟩
 obtain⟨a,us,rfl,ea,_,tu⟩:=z0d (show B2 H (.tup (c.map L7)) v from tc)
 have lus:us.length=c.length:=by rw[tu.length,bA]
 have lxs:xs.length=ks.length:=by rw[tk.length,bA]
 refine(rdI rfl (ex4 _ _ _ _ ⟨rfl,.tup ea,z48,(rdI rfl (B7 (rdI rfl (ex2 a _ ⟨rfl,.inr (SqT.of ea),(rdI rfl (ex2 lk _ ⟨rfl,.inl hK,rfl,(rdI rfl ?_)⟩))⟩))))⟩))
 by_cases cl:c.length=ks.length
 case neg=>
  rw[decide_eq_false (fun e=>cl (by injection e with e;lia))]
  exact E8 (qf (fun h=>cl h.1) H (B0.refl _))
 rw[decide_eq_true (by rw[lus,lxs,cl])]
 refine B7 ?_
 refine(rdI rfl (ex2 lk xs ⟨rfl,.inl hK,(rdI rfl ⟨by lia,by lia,?_⟩)⟩))
 refine z15 (lo:=0) (n:=((xs.length:Nat):Int).toNat) (fun i σ G=>∃(o3 o4 o5 o6:Option V),B0 H G/\(∀(j:Nat) (o:Option (List Str)) (zs:List Str),j<i->ks[j]? = some o->c[j]? = some zs->OkO nm o zs)/\σ=[some (.ref a),some (.ref ln),some (.ref lk),o3,o4,o5,o6]) ⟨_,_,_,_,B0.refl _,fun _ _ _ h=>absurd h (gP _),rfl⟩ (fun i σ G hi hp=>?_) (fun σ G hp=>?_)
 ·obtain⟨o3,o4,o5,o6,g,done,rfl⟩:=hp
  have hic:i<c.length:=by lia
  have hik:i<ks.length:=by lia
  have ei:(0:Int)+(i:Int)=(i:Int):=fV _
  have eci:c[i]? = some c[i]:=bD hic
  have eki:ks[i]? = some ks[i]:=bD hik
  have w1H:=c100 c[i] (fG hic)
  generalize c[i]=zs at eci w1H
  generalize ks[i]=o at eki
  obtain⟨u,eu,tu1⟩:=tu.get i (L7 zs) (by rw[bE,eci];rfl)
  obtain⟨b,ws,rfl,eb,_,tb⟩:=z0d (show B2 H (.tup (zs.map DV.str)) u from tu1)
  have ews:=z11 tb
  subst ews
  obtain⟨x,ex,tx⟩:=tk.get i (O2 o) (by rw[bE,eki];rfl)
  have atu:atI us ((0:Int)+(i:Int))=some (.ref b):=by rw[ei];exact z0V eu
  have atx:atI xs ((0:Int)+(i:Int))=some x:=by rw[ei];exact z0V ex
  have bad:¬OkO nm o zs->¬z9c nm ks c:=fun h q=>h (q.2 i o zs eki eci)
  refine(rdI rfl (rdI rfl (ex4 a _ _ _ ⟨rfl,rfl,SqT.of (g _ _ ea),atu,(ex4 _ _ _ _ ⟨rfl,.tup (g _ _ eb),z48,(rdI rfl (B7 ?_))⟩)⟩)))
  refine⟨(by show 0≤sizeLine;decide),fun lp hlp=>?_⟩
  have s1:=g.trans (z01 hlp (.lst []))
  have e1:upd G lp (.lst []) lp=some (.lst []):=z03
  have nlp:H lp=none:=g.free hlp
  generalize upd G lp (.lst [])=G1 at s1 e1
  refine(rdI rfl (rdI rfl (ex4 a _ _ _ ⟨rfl,rfl,SqT.of (s1 _ _ ea),atu,b,rfl,⟨_,SqT.of (s1 _ _ eb)⟩,z4G (K:=K) (a:=b) (xs:=zs.map V.str) (fun j σ G2=>∃(o5:Option V),B0 H G2/\(∀z∈zs.take j,z∈nm)/\G2 lp=some (.lst ((zs.take j).map fun z=>V.int (nm.idxOf z:Nat)))/\σ=[some (.ref a),some (.ref ln),some (.ref lk),some (.int (0+(i:Int))),some (.ref lp),o5,o6]) ⟨_,s1,(fun z hz=>by rw[cZ] at hz;cases hz),by rw[cZ];exact e1,rfl⟩ (fun j σ G2 _ ⟨_,g2,_⟩=>SqT.of (g2 _ _ eb)) ?_ ?_⟩)))
  ·rintro j y σ G2 hy ⟨o5,g2,hin,ep,rfl⟩
   rw[bE] at hy
   obtain⟨z,ez,rfl⟩:=bY.mp hy
   refine(rdI rfl (ex4 _ _ _ _ ⟨rfl,z4H rfl,z47 "str" (.inr (.inr (.inr rfl))) rfl,(rdI rfl (B7 (rdI rfl (rdI rfl ⟨ln,(rdI rfl ⟨.inl (g2.seq hN),rfl,z18 nm,(rdI rfl ?_)⟩)⟩))))⟩))
   rw[if_pos rfl,z7S]
   by_cases hz:z∈nm
   ·rw[decide_eq_true hz]
    obtain⟨f1,f2⟩:=y4B hz
    refine B7 (rdI rfl ⟨.inl ⟨rfl,_,SqL.of ep⟩,(rdI rfl ⟨.inl ⟨rfl,_,g2.seq hN⟩,(rdI rfl (ex4 ln nm z (nm.idxOf z) ⟨rfl,rfl,g2.seq hN,f1,f2,(ex3 lp _ _ ⟨rfl,rfl,ep,z0f (by rw[bA,bI];lia),?_⟩)⟩))⟩)⟩)
    refine⟨_,z2g g2 nlp,fun z' hz'=>?_,?_,rfl⟩
    ·rw[z0n ez] at hz'
     rcases cH.mp hz' with h|h
     ·exact hin z' h
     ·rw[bC.mp h]
      exact hz
    ·rw[z03,z0n ez,bG]
     rfl
   ·rw[decide_eq_false hz]
    exact E8 (qf (bad fun h=>hz (h.1.subset (bS ez))) _ g2)
  rintro σ G2 ⟨o5,g2,hin,ep,rfl⟩
  rw[bA,bR] at hin ep
  have lps:(zs.map fun z=>V.int (nm.idxOf z:Nat)).length=zs.length:=bA _
  have pat:∀(j:Nat) (hj:j<zs.length),atI (zs.map fun z=>V.int (nm.idxOf z:Nat)) (j:Int)=some (V.int (nm.idxOf zs[j]:Nat)):=fun j hj=>z0V (by rw[bE,bD hj];rfl)
  have ipt:∀(j:Nat) (hj:j<zs.length),(zs.map fun z=>nm.idxOf z)[j]? = some (nm.idxOf zs[j]):=fun j hj=>by rw[bE,bD hj];rfl
  refine(rdI rfl (ex2 lp _ ⟨rfl,.inl (SqL.of ep),(ex2 1 _ ⟨rfl,⟨by decide,by decide,by lia,by lia⟩,?_⟩)⟩))
  refine z15 (lo:=1) (n:=((((zs.map fun z=>V.int (nm.idxOf z:Nat)).length:Nat):Int)-1).toNat) (fun j σ G3=>∃(o6:Option V),G3=G2/\((zs.map fun z=>nm.idxOf z).take (j+1)).Pairwise (· < ·)/\σ=[some (.ref a),some (.ref ln),some (.ref lk),some (.int (0+(i:Int))),some (.ref lp),o5,o6]) ⟨_,rfl,?_,rfl⟩ (fun j σ G3 hj hp=>?_) (fun σ G3 hp=>?_)
  ·cases zs with
   | nil=>exact .nil
   | cons z r=>exact fB _ _
  ·obtain⟨o6',rfl,pw,rfl⟩:=hp
   have hj1:j+1<zs.length:=by rw[lps] at hj;lia
   have e1:(1:Int)+(j:Int)-1=((j:Nat):Int):=by lia
   have e2:(1:Int)+(j:Int)=((j+1:Nat):Int):=by lia
   refine(rdI rfl (rdI rfl (ex2 _ _ ⟨rfl,rfl,(ex4 lp _ _ _ ⟨rfl,rfl,SqL.of ep,(by rw[e1];exact pat j (by lia)),(rdI rfl (rdI rfl (ex4 lp _ _ _ ⟨rfl,rfl,SqL.of ep,(by rw[e2];exact pat (j+1) hj1),(ex2 _ _ ⟨rfl,rfl,(rdI rfl ?_)⟩)⟩)))⟩)⟩)))
   by_cases hlt:nm.idxOf zs[j]<nm.idxOf zs[j+1]
   ·rw[decide_eq_false (by lia)]
    exact B7 (rdI rfl ⟨y4G pw (ipt j (by lia)) (ipt (j+1) hj1) hlt,rfl⟩)
   ·rw[decide_eq_true (by lia)]
    refine E8 (qf (bad fun h=>hlt ?_) _ g2)
    have:=(y3P ndn hin).mpr h.1
    rw[eJ,fP] at this
    exact this j (j+1) (by lia) hj1 (by lia)
  obtain⟨o6',rfl,pw,rfl⟩:=hp
  have sub:zs.Sublist nm:=by
   refine(y3P ndn hin).mp ?_
   rw[cP (by rw[bA];rw[lps];lia)] at pw
   exact pw
  have more:OkO nm o zs->∀(j:Nat) (o:Option (List Str)) (zs:List Str),j<i+1->ks[j]? = some o->c[j]? = some zs->OkO nm o zs:=fun h j o' zs' hj h1 h2=>by
   by_cases e:j=i
   ·subst e
    rw[eki] at h1
    rw[eci] at h2
    cases h1
    cases h2
    exact h
   ·exact done j o' zs' (by lia) h1 h2
  refine(rdI rfl (rdI rfl (ex4 lk _ _ _ ⟨rfl,rfl,g2.seq hK,atx,?_⟩)))
  cases o with
  | none=>
   have ex':x=.non:=by
    unfold O2 B2 at tx
    exact tx
   subst ex'
   exact(rdI rfl (B7 (B7 ⟨_,_,_,_,g2,more ⟨sub,fun _ h=>by cases h⟩,rfl⟩)))
  | some ws=>
   obtain⟨b2,vs2,rfl,eb2,_,tb2⟩:=z0d (show B2 H (.tup (ws.map DV.str)) x from tx)
   have ews:=z11 tb2
   subst ews
   refine(rdI rfl (E8 (rdI rfl (rdI rfl (ex4 a _ _ _ ⟨rfl,rfl,SqT.of (g2 _ _ ea),atu,(rdI rfl (rdI rfl (ex4 lk _ _ _ ⟨rfl,rfl,g2.seq hK,atx,(ex4 b b2 _ _ ⟨rfl,rfl,SqT.of (g2 _ _ eb),SqT.of (g2 _ _ eb2),z18 zs,z18 ws,(rdI rfl ?_)⟩)⟩)))⟩)))))
   by_cases e:zs=ws
   ·subst e
    rw[z6R (z18 zs)]
    exact B7 ⟨_,_,_,_,g2,more ⟨sub,fun _ h=>by cases h;rfl⟩,rfl⟩
   ·rw[z6G,decide_eq_false e]
    exact E8 (qf (bad fun h=>e (h.2 ws rfl)) _ g2)
 ·obtain⟨o3,o4,o5,o6,g,done,rfl⟩:=hp
  refine qt ⟨cl,fun i o zs h1 h2=>done i o zs ?_ h1 h2⟩ _ g
  have:=(bX.mp h1).1
  lia
theorem y1p{nm:List Str}{rows:List Row}(R:Rws nm rows)(n:Int):(z0H (z0D rows n)).Sublist nm:=by
 unfold z0D z0H
 rw[bP]
 cases e:rows[(n-1).toNat]? with
 | none=>exact kM _
 | some w=>exact R.sub w (bS e)
theorem z6A{m:Nat}{hs:List Int}{rows:List Row}{r:Int}{i:Nat}{o:Option (List Str)}(h:(z0O m hs rows r)[i]? = some o):i<m/\o=z1U hs rows r (1+(i:Int)):=by
 have hi:=(bX.mp h).1
 rw[z0Z] at hi
 refine⟨hi,?_⟩
 unfold z0O at h
 rw[bE,show(upI 1 m)[i]? = some (1+(i:Int)) by unfold upI;rw[bE,fF hi];rfl] at h
 exact(Option.some.inj h).symm
theorem z4c{hs:List Int}{rows:List Row}{r n:Int}{ws:List Str}(h:z1U hs rows r n=some ws):ws=z0H (z0D rows n)/\(n∈hs\/z0J hs n r≠0):=by
 unfold z1U at h
 split at h
 ·rename_i c
  exact⟨(Option.some.inj h).symm,c⟩
 ·cases h
theorem y0h(m:Nat)(hs:List Int)(rows:List Row)(r:Int):(z5g (z0O m hs rows r)).length=m:=by
 unfold z5g
 rw[bA,z0Z]
theorem y5q{ks:List (Option (List Str))}{i:Nat}{zs:List Str}(h:(z5g ks)[i]? = some zs):∃o,ks[i]? = some o/\zs=o.getD []:=by
 unfold z5g at h
 rw[bE] at h
 obtain⟨o,e,h⟩:=bY.mp h
 exact⟨o,e,h.symm⟩
theorem y0O{nm:List Str}{rows:List Row}(R:Rws nm rows)(m:Nat)(hs:List Int)(r:Int):z9c nm (z0O m hs rows r) (z5g (z0O m hs rows r)):=by
 refine⟨by rw[y0h,z0Z],fun i o zs h1 h2=>?_⟩
 obtain⟨o',e,rfl⟩:=y5q h2
 rw[h1] at e
 cases e
 obtain⟨_,eo⟩:=z6A h1
 cases o with
 | none=>exact⟨kM _,fun _ h=>by cases h⟩
 | some ws=>
  refine⟨?_,fun _ h=>by cases h;rfl⟩
  rw[show(some ws).getD []=ws from rfl,(z4c eo.symm).1]
  exact y1p R _
theorem y2e{c:List (List Str)}{d:Nat}{z:Str}(h1:1≤d)(h2:d≤c.length)(i:Nat):(z6p c d z)[i]? = if i=d-1 then some [z] else c[i]? := by
 have hl:(c.take (d-1)).length=d-1:=by rw[bI];lia
 unfold z6p
 by_cases hi:i<d-1
 ·rw[if_neg (by lia),dE (by rw[bL,hl];show i<d-1+1;lia),dE (by lia),eQ hi]
 ·by_cases he:i=d-1
  ·rw[if_pos he,dE (by rw[bL,hl];show i<d-1+1;lia),dC (by lia),hl,he,kO]
   rfl
  ·rw[if_neg he,dC (by rw[bL,hl];show d-1+1≤i;lia),bL,hl,List.getElem?_drop]
   congr 1
   show d+(i-(d-1+1))=i
   lia
theorem y19{c:List (List Str)}{d:Nat}{z:Str}(h1:1≤d)(h2:d≤c.length):(z6p c d z).length=c.length:=by
 unfold z6p
 rw[bL,bL,bI,dY]
 show min (d-1) c.length+1+(c.length-d)=c.length
 lia
theorem y3i{nm:List Str}{rows:List Row}(R:Rws nm rows){m:Nat}{hs:List Int}{r:Int}{d:Nat}{z:Str}(hz:z∈nm)(d1:1≤d)(dm:d≤m)(hd:(d:Int)∈z1d hs r):z9c nm (z0O m hs rows r) (z6p (z5g (z0O m hs rows r)) d z):=by
 have hb:=y0h m hs rows r
 refine⟨by rw[y19 d1 (by lia),hb,z0Z],fun i o zs h1 h2=>?_⟩
 rw[y2e d1 (by lia)] at h2
 split at h2
 ·rename_i e
  cases h2
  obtain⟨_,eo⟩:=z6A h1
  have en:(1:Int)+(i:Int)=(d:Int):=by lia
  rw[en] at eo
  obtain⟨q1,q2⟩:=z4Q.mp hd
  have:z1U hs rows r d=none:=by
   unfold z1U
   rw[if_neg (fun h=>h.elim (z0X.mp q1).2.1 fun h=>h q2)]
  rw[this] at eo
  subst eo
  exact⟨List.singleton_sublist.mpr hz,fun _ h=>by cases h⟩
 ·exact(y0O R m hs r).2 i o zs h1 h2
noncomputable def InC(c:List (List Str))(num:Int)(z:Str):Prop:=∃(i:Nat) (zs:List Str),c[i]? = some zs/\num<(i:Int)+1/\z∈zs
theorem y6k{c:List (List Str)}{d:Nat}{z:Str}{num:Int}(h1:1≤d)(h2:d≤c.length)(h:num<(d:Int)):InC (z6p c d z) num z:=⟨d-1,[z],by rw[y2e h1 h2,if_pos rfl],by lia,bC.mpr rfl⟩
theorem y6o{hs:List Int}{rows:List Row}{r:Int}{m:Nat}{z:Str}(rise:hs.Pairwise (· < ·))(h60:∀x∈hs,1≤x/\x≤60)(it:z3X hs m)(ns:z0P hs rows r (z0N (z0y hs rows z)) z≠"stale"):¬InC (z5g (z0O m hs rows r)) (z0N (z0y hs rows z)) z:=by
 rintro⟨i,zs,h1,h2,h3⟩
 obtain⟨o,e,rfl⟩:=y5q h1
 obtain⟨hi,eo⟩:=z6A e
 cases o with
 | none=>cases h3
 | some ws=>
  obtain⟨rfl,c⟩:=z4c eo.symm
  have h3':z∈z0H (z0D rows (1+(i:Int))):=h3
  obtain⟨v,ev⟩:=y6d h3'
  by_cases hin:(1:Int)+(i:Int)∈hs
  ·rcases y2X (rows:=rows) (z:=z) hs rise with ⟨_,q⟩|⟨n,u,q1,q2,q3,q4⟩
   ·rw[q _ hin] at ev
    cases ev
   ·rw[q1] at h2
    have h2':n<(i:Int)+1:=h2
    rw[q4 _ hin (by lia)] at ev
    cases ev
  ·have ct:=c.resolve_left hin
   refine ns ?_
   unfold z0P
   rw[if_pos]
   refine jY.mpr (List.ne_nil_of_mem (a:=1+(i:Int)) ?_)
   unfold z51
   rw[cO,bZ,decide_eq_true_eq,decide_eq_true_eq]
   refine⟨z0X.mpr ?_,by lia,?_⟩
   ·rcases it.1 with q|⟨q,q0⟩
    ·have:=h60 _ q
     refine⟨by lia,hin,m,q,?_⟩
     have:(1:Int)+(i:Int)≠m:=fun e=>hin (e ▸ q)
     lia
    ·lia
   ·unfold z2B
    rw[if_neg ct]
    exact h3'
noncomputable def y8A(K:PySem.W.Frag):Sp:=fun vs H Q _=>∃(v:V) (c:List (List Str)) (num:Int) (z:Str),vs=[v,.int num,.str z]/\B2 H (z97 c) v/\c.length≤1000/\(InC c num z->Q (.bl true) H)/\(¬InC c num z->Q (.bl false) H)
theorem y0x(M:Bl mg)(F:Fun K "_law_in_course" "_law_in_course" z3n f fd):B4 P w K mg base CX0 1 f fd z3l (y8A K):=by
 have nd:=z4t.nd
 refine F.ok z4t (fun vs H Q E h=>?_) (fun cdv A outer s H vs Q E hr h=>?_)
 ·obtain⟨v,c,num,z,rfl,_⟩:=h
  rfl
 obtain⟨v,c,num,z,rfl,tc,c1000,qt,qf⟩:=h
 refine⟨_,(z04 (z0W bT rfl (z1p rfl M.range (z00 (z0b z09 rfl M.len bN (z00 (pv 0) z02)) z02)) (z0j (i:=3) nd rfl (Or.inl rfl)) (z05 (z0C (PW.pt (z37 (z0c z2o (z0r z1o (pv 3) z06) (pv 1) (z0m _)) (z2m (z0c z3Q (pv 2) (z0A z0w (pv 0) (pv 3) (fun _ _=>rfl)) (by with_unfolding_all rfl))))) (z05 (z0i z1I)) z0k))) (z05 (z0i z1I))),?_⟩
 obtain⟨a,us,rfl,ea,_,tu⟩:=z0d (show B2 H (.tup (c.map L7)) v from tc)
 have lus:us.length=c.length:=by rw[tu.length,bA]
 refine(rdI rfl (ex2 a us ⟨rfl,.inr (SqT.of ea),(rdI rfl ⟨by lia,by lia,?_⟩)⟩))
 refine z15 (lo:=0) (n:=((us.length:Nat):Int).toNat) (fun i σ G=>∃(o3:Option V),G=H/\(∀(j:Nat) (zs:List Str),j<i->c[j]? = some zs->num<(j:Int)+1->z∉zs)/\σ=[some (.ref a),some (.int num),some (.str z),o3]) ⟨_,rfl,fun _ _ h=>absurd h (gP _),rfl⟩ (fun i σ G hi hp=>?_) (fun σ G hp=>?_)
 ·obtain⟨o3,rfl,done,rfl⟩:=hp
  have hic:i<c.length:=by lia
  have ei:(0:Int)+(i:Int)=(i:Int):=fV _
  have eci:c[i]? = some c[i]:=bD hic
  generalize c[i]=zs at eci
  obtain⟨u,eu,tu1⟩:=tu.get i (L7 zs) (by rw[bE,eci];rfl)
  obtain⟨b,ws,rfl,eb,_,tb⟩:=z0d (show B2 G (.tup (zs.map DV.str)) u from tu1)
  have ews:=z11 tb
  subst ews
  have atu:atI us ((0:Int)+(i:Int))=some (.ref b):=by rw[ei];exact z0V eu
  have more:(num<(i:Int)+1->z∉zs)->∀(j:Nat) (zs:List Str),j<i+1->c[j]? = some zs->num<(j:Int)+1->z∉zs:=fun h j zs' hj h1 h2=>by
   by_cases e:j=i
   ·subst e
    rw[eci] at h1
    cases h1
    exact h h2
   ·exact done j zs' (by lia) h1 h2
  refine(rdI rfl (ex2 _ _ ⟨rfl,rfl,(rdI rfl (ex2 _ _ ⟨rfl,rfl,(rdI rfl ?_)⟩))⟩))
  by_cases c1:num<(i:Int)+1
  ·rw[decide_eq_true (show num<0+(i:Int)+1 by lia)]
   refine E8 (rdI rfl (rdI rfl (rdI rfl (ex4 a _ _ _ ⟨rfl,rfl,SqT.of ea,atu,(ex2 b _ ⟨rfl,.inr (SqT.of eb),rfl,z18 zs,(rdI rfl ?_)⟩)⟩))))
   rw[if_neg bM,z7S]
   by_cases c2:z∈zs
   ·rw[decide_eq_true c2]
    exact E8 (qt ⟨i,zs,eci,c1,c2⟩)
   ·rw[decide_eq_false c2]
    exact B7 (rdI rfl ⟨more fun _=>c2,rfl⟩)
  ·rw[decide_eq_false (show ¬num<0+(i:Int)+1 by lia)]
   exact B7 (B7 (rdI rfl ⟨more fun h=>absurd h c1,rfl⟩))
 ·obtain⟨o3,rfl,done,rfl⟩:=hp
  refine qf fun⟨i,zs,h1,h2,h3⟩=>done i zs ?_ h1 h2 h3
  have:=(bX.mp h1).1
  lia
theorem y3a{nm zs:List Str}(nd:nm.Nodup):zs.Sublist nm↔zs=nm.filter fun z=>decide (z∈zs):=by
 constructor
 ·intro h
  induction h with
  | slnil=>rfl
  | cons a h ih=>
   rw[dU] at nd
   rw[dP,if_neg (fun z=>nd.1 (h.subset (of_decide_eq_true z)))]
   exact ih nd.2
  | cons_cons a h ih=>
   rename_i l1 l2
   rw[dU] at nd
   rw[dP,if_pos (decide_eq_true cI)]
   congr 1
   refine(ih nd.2).trans (List.filter_congr fun z hz=>?_)
   rw[decide_eq_decide,bF]
   exact⟨.inr,fun h=>h.elim (fun e=>absurd (e ▸ hz) nd.1) id⟩
 ·intro h
  rw[h]
  exact List.filter_sublist
noncomputable def y2K(K:PySem.W.Frag):Sp:=fun vs H Q _=>∃(pn pc:Addr) (nm zs:List Str),vs=[.ref pn,.ref pc]/\SqT K H pn (nm.map V.str)/\nm.Nodup/\nm.length≤12/\SqT K H pc (zs.map V.str)/\∀H',B0 H H'->Q (.bl (decide (zs.Sublist nm))) H'
theorem y5y(M:Bl mg)(F:Fun K "is_choice" "is_choice" z7c f fd):B4 P w K mg base CX0 1 f fd z78 (y2K K):=by
 have nd:=z8i.nd
 refine F.ok z8i (fun vs H Q E h=>?_) (fun cdv A outer s H vs Q E hr h=>?_)
 ·obtain⟨pn,pc,nm,zs,rfl,_⟩:=h
  rfl
 obtain⟨pn,pc,nm,zs,rfl,hN,ndn,n12,hC,q⟩:=h
 refine⟨_,(z05 (z0i (z8T (y5n hr.N9) (pv 1) (z0t z0p rfl M.tuple bH (z00 (z1c ["name"] ["chosen"] [1] rfl (z0v rfl (by decide +kernel) rfl (by decide +kernel) rfl rfl) (z26 (pv 0)) (fun _ _ _ _ _=>(z0j (i:=0) (show((["name"]:List PySem.Str)++(["chosen"]:List PySem.Str)).Nodup from by decide +kernel) rfl (Or.inl rfl))) (z0x (by decide)) z0h (fun _ _ _ _ _=>(z2i (z0c (r:=rIn K false) z3Q (pv 0) (pv 1) (by with_unfolding_all rfl)))) (fun _ _ _ _ _=>(pv 0))) z02)) (z0m _)))),?_⟩
 refine(rdI rfl (rdI rfl ⟨pn,rfl,⟨_,hN⟩,?_⟩))
 refine z1A (xs:=nm.map V.str) (fun i ys G=>G=H/\ys=((nm.take i).filter fun z=>decide (z∈zs)).map V.str) ⟨rfl,rfl⟩ (fun i ys G hi hp=>?_) (fun i y ys G hy hp=>?_) (fun ys G hp=>?_)
 ·obtain⟨rfl,rfl⟩:=hp
  refine⟨hN,z0f ?_⟩
  rw[bA]
  have:=cJ (fun z=>decide (z∈zs)) (nm.take i)
  rw[bI] at this
  lia
 ·obtain⟨rfl,rfl⟩:=hp
  rw[bE] at hy
  obtain⟨z,ez,rfl⟩:=bY.mp hy
  refine(rdI rfl (rdI rfl (ex2 pc _ ⟨rfl,.inr hC,rfl,z18 zs,(rdI rfl ?_)⟩)))
  rw[if_neg bM,z7S,z0n ez,dM,dP]
  by_cases c:z∈zs
  ·rw[decide_eq_true c,if_pos rfl,bG]
   exact E8 (rdI rfl ⟨rfl,rfl⟩)
  ·rw[decide_eq_false c,if_neg bM,fL,cX]
   exact B7 ⟨rfl,rfl⟩
 ·obtain⟨rfl,rfl⟩:=hp
  rw[bA,bR]
  intro D hD
  refine(ex2 D _ ⟨rfl,.inl ⟨SqL.of z03,fun t ht=>?_⟩⟩)
  have s1:=(z01 hD (.lst ((nm.filter fun z=>decide (z∈zs)).map V.str))).trans (z01 ht (.tup ((nm.filter fun z=>decide (z∈zs)).map V.str)))
  refine(ex4 pc t _ _ ⟨rfl,rfl,z6d s1 hC,SqT.of z03,z18 zs,z18 _,?_⟩)
  rw[z6G]
  have:=q _ s1
  rw[decide_eq_decide.mpr (y3a ndn)] at this
  exact this
noncomputable def StO(nm:List Str)(o:Option (List Str))(zs:List Str):Bool:=match o with
 | none=>decide (zs.Sublist nm)
 | some ws=>decide (zs=ws)
noncomputable def y5a(K:PySem.W.Frag):Sp:=fun vs H Q _=>∃(pn pc:Addr) (v:V) (nm zs:List Str) (o:Option (List Str)),vs=[.ref pn,v,.ref pc]/\SqT K H pn (nm.map V.str)/\nm.Nodup/\nm.length≤12/\SqT K H pc (zs.map V.str)/\B2 H (O2 o) v/\∀H',B0 H H'->Q (.bl (StO nm o zs)) H'
theorem y6c(M:Bl mg)(F:Fun K "may_stand" "may_stand" z73 f fd)(P8:Cal P w K mg base 1 "is_choice" z78 (y2K K)):B4 P w K mg base CX0 2 f fd z7f (y5a K):=by
 have nd:=z8z.nd
 refine F.ok z8z (fun vs H Q E h=>?_) (fun cdv A outer s H vs Q E hr h=>?_)
 ·obtain⟨pn,pc,v,nm,zs,o,rfl,_⟩:=h
  rfl
 obtain⟨pn,pc,v,nm,zs,o,rfl,hN,ndn,n12,hC,tv,q⟩:=h
 refine⟨_,(z05 (z0i (z5e (z7J (z8p (pv 1))) (z0g P8 (rm hr) rfl (z00 (pv 0) (z00 (pv 2) z02))) (z8T (y5n hr.N9) (pv 2) (pv 1) (z0m _))))),?_⟩
 cases o with
 | none=>
  have ev:v=.non:=by
   unfold O2 B2 at tv
   exact tv
  subst ev
  exact(rdI rfl (rdI rfl (E8 (rdI rfl (rdI rfl (ex4 pn pc nm zs ⟨rfl,hN,ndn,n12,hC,fun H' s'=>q H' s'⟩))))))
 | some ws=>
  obtain⟨b,us,rfl,eb,_,tb⟩:=z0d (show B2 H (.tup (ws.map DV.str)) v from tv)
  have e:=z11 tb
  subst e
  refine(rdI rfl (rdI rfl (B7 (rdI rfl (rdI rfl (ex4 pc b _ _ ⟨rfl,rfl,hC,SqT.of eb,z18 zs,z18 ws,?_⟩))))))
  rw[z6G]
  exact q H (B0.refl _)
noncomputable def y7b(Sh:ShP):Sp:=fun vs H Q _=>∃(x:Addr) (v:V) (fp:List Addr) (nm:List Str) (r:Int) (rows:List Row) (had:List Int) (m:Nat) (c:List (List Str)),vs=[.ref x,v]/\Sh H x fp nm r (fun n=>z10 rows n r) had/\E2 nm/\Rws nm rows/\rows.length≤60/\(∀n∈had,1≤n/\n≤rows.length)/\0≤r/\r≤10/\z3X had m/\B2 H (z97 c) v/\
 (z9c nm (z0O m (z08 had) rows r) c->∀H',B0 H H'->Q (.bl true) H')/\(¬z9c nm (z0O m (z08 had) rows r) c->∀H',B0 H H'->Q (.bl false) H')
theorem y22{nm:List Str}{rows:List Row}(R:Rws nm rows){m:Nat}{hs:List Int}{r:Int}{c:List (List Str)}(hl:c.length=(z0O m hs rows r).length) :
  z9c nm (z0O m hs rows r) c↔(((z0O m hs rows r).zip c).map fun p=>StO nm p.1 p.2).all id=true:=by
 rw[fT]
 constructor
 ·intro h b hb
  obtain⟨⟨o,zs⟩,hp,rfl⟩:=cS.mp hb
  obtain⟨i,hi,e⟩:=gH hp
  rw[List.getElem_zip] at e
  rw[List.length_zip] at hi
  have h1:(z0O m hs rows r)[i]? = some o:=by rw[bD (by lia)];exact congrArg some (congrArg Prod.fst e)
  have h2:c[i]? = some zs:=by rw[bD (by lia)];exact congrArg some (congrArg Prod.snd e)
  obtain⟨q1,q2⟩:=h.2 i o zs h1 h2
  show StO nm o zs=true
  cases o with
  | none=>exact decide_eq_true q1
  | some ws=>exact decide_eq_true (q2 ws rfl)
 ·intro h
  refine⟨hl,fun i o zs h1 h2=>?_⟩
  have hi1:=(bX.mp h1).1
  have hi2:=(bX.mp h2).1
  have hz:i<((z0O m hs rows r).zip c).length:=by rw[List.length_zip];lia
  have e:((z0O m hs rows r).zip c)[i]=(o,zs):=by
   rw[List.getElem_zip]
   rw[bD hi1] at h1
   rw[bD hi2] at h2
   rw[Option.some.inj h1,Option.some.inj h2]
  have hb:StO nm o zs=true:=h (StO nm o zs) (cS.mpr ⟨(o,zs),by rw[<- e];exact fG hz,rfl⟩)
  cases o with
  | none=>exact⟨of_decide_eq_true hb,fun _ h=>by cases h⟩
  | some ws=>
   have ew:zs=ws:=of_decide_eq_true hb
   refine⟨?_,fun _ h=>by cases h;exact ew⟩
   rw[ew,(z4c (z6A h1).2.symm).1]
   exact y1p R _
theorem y7g{A0:Addr}(M:Bl mg)(T:D7 K mg A0)(F:Fun K "fits" "fits" y7z f fd)(I0:Cal P w K mg base 4 "known_sets" z4b (y1I (ShD K A0)))(P6:Cal P w K mg base 2 "may_stand" z7f (y5a K)):B4 P w K mg base CX0 5 f fd y7Z (y7b (ShD K A0)):=by
 have nd:=y6N.nd
 refine F.ok y6N (fun vs H Q E h=>?_) (fun cdv A outer s H vs Q E hr h=>?_)
 ·obtain⟨x,v,fp,nm,r,rows,had,m,c,rfl,_⟩:=h
  rfl
 obtain⟨x,v,fp,nm,r,rows,had,m,c,rfl,sh,gn,R,l60,hh,r0,r10,it,tc,qt,qf⟩:=h
 refine⟨_,(z04 (z0o (i:=2) nd rfl (Or.inl rfl) (z0g I0 (rm hr) rfl (z00 (pv 0) z02))) (z04 (z0C (z0c z79 (z0b z09 rfl M.len bN (z00 (pv 1) z02)) (z0b z09 rfl M.len bN (z00 (pv 2) z02)) (z0m _)) (z05 (z0i z1I)) z0k) (z05 (z0i (z0b (y6z rfl) rfl M.all PyProof.Rows.boot_all (z00 (z1c ["known","chosen"] ["shelf"] [0] rfl (z0v rfl (by decide +kernel) rfl (by decide +kernel) rfl rfl) (y8S rfl M.zip (z00 (pv 2) (z00 (pv 1) z02))) (fun _ _ _ _ _=>(z8U (K:=K) (n:=2) rfl rfl (z1e (z0j (i:=0) (show((["known","chosen"]:List PySem.Str)++(["shelf"]:List PySem.Str)).Nodup from by decide +kernel) rfl (Or.inl rfl)) (z1e (z0j (i:=1) (show((["known","chosen"]:List PySem.Str)++(["shelf"]:List PySem.Str)).Nodup from by decide +kernel) rfl (Or.inl rfl)) z4Z)))) (z86 (z23 (z0x (by decide)) z0h (z23 (z0x (by decide)) z0h z6N z1a) (z0T z0h z1a))) (z65 (z0T z0h (z0T z0h z1a))) (fun _ _ _ _ _=>z1W) (fun _ _ _ _ _=>(z0g P6 (rm hr) rfl (z00 (y7B (K:=K) rfl (pv 2) rfl) (z00 (pv 0) (z00 (pv 1) z02)))))) z02)))))),?_⟩
 have h60:∀n∈had,1≤n/\n≤60:=fun n hn=>by have:=hh n hn;lia
 have hm60:m≤60:=by have:=it.le (k:=60) (by decide) fun x hx=>(h60 x hx).2;lia
 obtain⟨dx,pn,fs,h1,h3,ln⟩:∃dx pn fs,H x=some (.ins A0 dx fs)/\H pn=some (.tup (nm.map V.str))/\fs.lookup ("names":Str)=some (V.ref pn):=by
  obtain⟨dx,pn,pd,fs,kvs,_,h1,_,h3,_,l1,_⟩:=sh
  exact⟨dx,pn,fs,h1,h3,l1⟩
 refine(rdI rfl (ex7 x fp nm r rows had m ⟨rfl,sh,gn,R,l60,hh,r0,r10,it,fun kv H1 s1 tk=>?_⟩))
 obtain⟨ak,us,rfl,eak,_,tus⟩:=z0d tk
 obtain⟨ac,ws,rfl,eac,_,tws⟩:=z0d (show B2 H (.tup (c.map L7)) v from tc)
 have lus:us.length=(z0O m (z08 had) rows r).length:=by rw[tus.length,bA]
 have lws:ws.length=c.length:=by rw[tws.length,bA]
 have lk:=z0Z m (z08 had) rows r
 have w0e:=s1 _ _ eac
 refine(rdI rfl (ex2 ac _ ⟨rfl,.inr (SqT.of w0e),(rdI rfl ⟨ak,(rdI rfl ⟨.inr (SqT.of eak),rfl,(rdI rfl ?_)⟩)⟩)⟩))
 by_cases cl:c.length=(z0O m (z08 had) rows r).length
 case neg=>
  rw[decide_eq_false (fun e=>cl (by injection e with e;lia))]
  exact E8 (qf (fun h=>cl h.1) H1 s1)
 rw[decide_eq_true (by rw[lus,lws,cl])]
 refine B7 ?_
 refine(rdI rfl (rdI rfl (ex4 ak ac us ws ⟨rfl,SqT.of eak,SqT.of w0e,by lia,?_⟩)))
 refine y6b (xs:=us) (ys:=ws) (by lia) (fun i zs G=>B0 H1 G/\zs=((((z0O m (z08 had) rows r).zip c).take i).map fun p=>StO nm p.1 p.2).map V.bl) ⟨B0.refl _,rfl⟩ (fun i zs G hi hp=>?_) (fun i y1 y2 zs G T' e1 e2 hT hp=>?_) (fun zs G hp=>?_)
 ·obtain⟨g,rfl⟩:=hp
  refine⟨SqT.of (g _ _ eak),SqT.of (g _ _ w0e),z0f ?_⟩
  rw[bA,bA,bI]
  lia
 ·obtain⟨g,rfl⟩:=hp
  have gT:=g.trans (z01 hT (.tup [y1,y2]))
  obtain⟨d,ed,td⟩:=tus.at i y1 e1
  rw[bE] at ed
  obtain⟨o,eo,rfl⟩:=bY.mp ed
  obtain⟨d2,ed2,td2⟩:=tws.at i y2 e2
  rw[bE] at ed2
  obtain⟨zs2,ez2,rfl⟩:=bY.mp ed2
  obtain⟨b,vs2,rfl,eb,_,tb⟩:=z0d (show B2 H (.tup (zs2.map DV.str)) y2 from td2)
  have e:=z11 tb
  subst e
  have sG:=s1.trans gT
  have ez:((z0O m (z08 had) rows r).zip c)[i]? = some (o,zs2):=by
   rw[List.getElem?_zip_eq_some]
   exact⟨eo,ez2⟩
  refine(ex2 T' _ ⟨rfl,SqT.of z03,rfl,(ex2 _ _ ⟨rfl,(ex2 _ _ ⟨rfl,rfl,?_⟩)⟩)⟩)
  refine(rdI rfl (ex5 x A0 dx fs _ ⟨rfl,sG _ _ h1,T.cl,T.n_names,ln,(rdI rfl (rdI rfl (ex6 pn b y1 nm zs2 o ⟨rfl,SqT.of (sG _ _ h3),gn.nd,gn.hi,SqT.of (sG _ _ eb),B2.keep gT _ _ td,fun G2 g2=>⟨gT.trans g2,?_⟩⟩)))⟩))
  rw[z0n ez,bG,bG]
  rfl
 ·obtain⟨g,rfl⟩:=hp
  rw[cP (by rw[List.length_zip];lia)]
  intro D hD
  refine(ex2 D _ ⟨rfl,SqL.of z03,?_⟩)
  have sF:=s1.trans (g.trans (z01 hD (.lst ((((z0O m (z08 had) rows r).zip c).map fun p=>StO nm p.1 p.2).map V.bl))))
  by_cases cf:z9c nm (z0O m (z08 had) rows r) c
  ·rw[(y22 R cl).mp cf]
   exact qt cf _ sF
  ·rw[fA.mpr fun h=>cf ((y22 R cl).mpr h)]
   exact qf cf _ sF
theorem y6t{k:Int}{log:List C0}(h:z4E k log):∀x∈log,1≤x.2/\x.2≤(wrN log:Int):=by
 intro x hx
 obtain⟨i,hi,e⟩:=gH hx
 have ok:=h i x (by rw[bD hi,e])
 have mono:∀j,wrN (log.take j)≤wrN log:=fun j=>by
  unfold wrN
  exact((kF j log).filter _).length_le
 obtain⟨a,n⟩:=x
 cases a with
 | none=>
  have e1:n=(wrN (log.take i):Int)+1:=ok.1
  have:=mono (i+1)
  rw[z0n (show log[i]? = some ((none,n):C0) by rw[bD hi,e]),z2R] at this
  have t:wrN (log.take i)+1≤wrN log:=this
  show 1≤n/\n≤_
  lia
 | some rd=>
  obtain⟨_,_,h3,h4⟩:=ok
  have:=mono i
  show 1≤n/\n≤_
  have h4':n≤(wrN (log.take i):Int):=h4
  lia
theorem y3p{H:Hp}{us:List V}{log:List C0}(h:Paired (z1y H) us log)(i:Nat):Paired (z1y H) (us.take i) (log.take i):=by
 induction h generalizing i with
 | nil=>rw[List.take_nil,List.take_nil];exact .nil
 | cons h t ih=>
  cases i with
  | zero=>exact .nil
  | succ i=>exact .cons h (ih i)
noncomputable def z8S(n:Nat):List C0:=(upI 1 n).map fun k=>(none,k)
theorem z9q(i:Nat):z8S (i+1)=z8S i++[(none,1+(i:Int))]:=by
 unfold z8S
 rw[z6f,bG]
 rfl
theorem y2i(k:Int):∀i,i≤60->z4E k (z8S i)/\wrN (z8S i)=i
 | 0,_=>⟨z4E.nil k,rfl⟩
 | i+1,h=>by
  obtain⟨h1,h2⟩:=y2i k i (by lia)
  rw[z9q]
  refine⟨h1.snoc ⟨by rw[h2];exact Int.add_comm _ _,by rw[h2];lia⟩,?_⟩
  rw[z2R,h2]
  rfl
theorem z9E{num jp mx:Int}(hj:1≤jp)(hm:num-5*jp≤mx):K4 (num-jp) mx (0-jp)≤4:=by
 refine j0 fun h=>?_
 have:=y1v (a:=num-jp) (b:=mx) (c:=0-jp) (i:=4) (by lia) (by lia)
 have e:((4:Nat):Int)*(0-jp)=-(4*jp):=by lia
 rw[e] at this
 lia
noncomputable def y4v(K:PySem.W.Frag):Sp:=fun vs H Q _=>∃(lc:Addr) (cs:List Int) (first rds:Int),vs=[.ref lc,.int 60,.int first,.int rds]/\SqL K H lc (cs.map V.int)/\0≤first/\first≤30/\1≤rds/\rds≤10/\
 ∀(l:Addr) (us:List V) (log:List C0) (H':Hp),H l=none->B0 H H'->H' l=some (.lst us)->Paired (z1y H') us log->z4E rds log->log.length≤246->Q (.ref l) H'
theorem y4z(M:Bl mg)(F:Fun K "_law_deeds" "_law_deeds" z5z f fd)(D4:Cal P w K mg base 1 "_law_pick" z3S y2v):B4 P w K mg base CX0 2 f fd z5x (y4v K):=by
 have nd:=z7x.nd
 refine F.ok z7x (fun vs H Q E h=>?_) (fun cdv A outer s H vs Q E hr h=>?_)
 ·obtain⟨lc,cs,first,rds,rfl,_⟩:=h
  rfl
 obtain⟨lc,cs,first,rds,rfl,hC,f0,f30,d1,d10,q⟩:=h
 refine⟨_,(z04 (z4g (i:=4) ["_law_k"] [] [] rfl nd rfl (Or.inl rfl) (z0v rfl (by decide +kernel) rfl (by decide +kernel) rfl rfl) (z1p rfl M.range (z00 (pv 2) z02)) (fun _ _ _ _ _=>(z0j (i:=0) (show((["_law_k"]:List PySem.Str)++([]:List PySem.Str)).Nodup from by decide +kernel) rfl (Or.inl rfl))) (z0x (by decide)) z0h (fun _ _ _ _ _=>z1W) (fun _ _ _ _ _=>(z0U (z00 z2A (z00 (z0r z1o (pv 0) z06) z02))))) (z04 (z0o (i:=5) nd rfl (Or.inl rfl) (pv 2)) (z04 (z0W bT rfl (z1k (pv 0)) (z0j (i:=6) nd rfl (Or.inl rfl)) (z04 (z0o (i:=7) nd rfl (Or.inl rfl) (z0g D4 (rm hr) rfl (z00 (z0r z1B (pv 6) z06) (z00 (z0r y8e z06 z06) z02)))) (z04 (z0C (z0c z2o (z0b z09 rfl M.len bN (z00 (pv 4) z02)) z06 (z0m _)) (z05 y65) z0k) (z05 (z0C (z0c z28 (z0r z19 (pv 6) z06) z06 (z0m _)) (z05 (z0W bT rfl (z1p rfl M.range (z00 (z0r z1o z06 (z0r z19 (pv 7) z06)) z02)) (z0j (i:=8) nd rfl (Or.inl rfl)) (z05 (z0C (z0c z8l (pv 5) (pv 1) (z0m _)) (z04 (z0o (i:=5) nd rfl (Or.inl rfl) (z0r z1o (pv 5) z06)) (z05 (z0F (z2Z bV bU bW z0L (pv 4) (z00 (z0U (z00 z2A (z00 (pv 5) z02))) z02))))) z0k)))) (z05 (z0C (z0c z2o (pv 5) z06 (z0m _)) (z04 (z0o (i:=9) nd rfl (Or.inl rfl) (z0r z1o z06 (z0r z19 (pv 7) (pv 3)))) (z04 (z0o (i:=10) nd rfl (Or.inl rfl) (z0r z1o z06 (z0r z19 (z0r z1B (pv 7) (pv 3)) (pv 5)))) (z04 (z0C (z0c z28 (z0r z19 (pv 6) z06) z06 (z0m _)) (z05 (z0o (i:=10) nd rfl (Or.inl rfl) (pv 5))) z0k) (z04 (z0F (z2Z bV bU bW z0L (pv 4) (z00 (z0U (z00 z2A (z00 (pv 9) (z00 (pv 10) z02)))) z02))) (z05 (z0C (z0c z28 (z0r z19 (pv 6) z06) z06 (z0m _)) (z04 (z0o (i:=11) nd rfl (Or.inl rfl) (z0r z1o z06 (z0r z19 (z0r z1B (z0r z1B (pv 7) (pv 3)) (pv 5)) z06))) (z05 (z0W bT rfl (y4l rfl M.range (z00 (z0r z25 (pv 10) (pv 11)) (z00 (z0b (y0E rfl) rfl M.max dB (z00 z06 (z00 (z0r z25 (pv 10) (z0r z3P z06 (pv 11))) z02))) (z00 (z0r z25 z06 (pv 11)) z02)))) (z0j (i:=12) nd rfl (Or.inl rfl)) (z05 (z0F (z2Z bV bU bW z0L (pv 4) (z00 (z0U (z00 z2A (z00 (pv 9) (z00 (pv 12) z02)))) z02))))))) z0k)))))) z0k))))))) (z05 (z0i (pv 4)))))),?_⟩
 refine(rdI rfl (rdI rfl ⟨by lia,by lia,?_⟩))
 refine z9l (lo:=0) (n:=first.toNat) (fun i ys H'=>B0 H H'/\Paired (z1y H') ys (z8S i)) ⟨B0.refl _,.nil⟩ (fun i ys H' hi hp=>?_) (fun i ys H' hi hp=>?_) (fun ys H' hp=>?_)
 ·obtain⟨g,p⟩:=hp
  have:=z1q p
  unfold z8S at this
  rw[bA,z0S] at this
  exact z0f (by lia)
 ·obtain⟨g,p⟩:=hp
  refine(rdI rfl (ex2 _ _ ⟨rfl,rfl,(by show 2≤sizeLine;decide),fun t ht=>⟨g.trans (z01 ht _),?_⟩⟩))
  rw[z9q]
  refine hU (K3.keep (z01 ht _) p) ⟨t,rfl,?_⟩
  rw[z03]
  show some (HO.tup [V.str "write",V.int (0+(i:Int)+1)])=some (HO.tup [V.str "write",V.int (1+(i:Int))])
  rw[fV,Int.add_comm]
 obtain⟨g,p⟩:=hp
 intro l hl
 have nl:H l=none:=g.free hl
 have s1:=g.trans (z01 hl (.lst ys))
 have e1:upd H' l (.lst ys) l=some (.lst ys):=z03
 have p1:=K3.keep (z01 hl (.lst ys)) p
 generalize upd H' l (.lst ys)=H1 at s1 e1 p1
 obtain⟨lk0,wn0⟩:=y2i rds first.toNat (by lia)
 have ln0:(z8S first.toNat).length=first.toNat:=by
  unfold z8S
  rw[bA,z0S]
 have wf:((wrN (z8S first.toNat):Nat):Int)=first:=by rw[wn0];lia
 refine⟨_,rfl,_,rfl,lc,rfl,⟨_,s1.seq hC⟩,z1R (K:=K) (a:=lc) (xs:=cs.map V.int) (fun _ σ G=>∃(us:List V) (log:List C0) (o6 o7 o8 o9 o10 o11 o12:Option V),B0 H G/\G l=some (.lst us)/\Paired (z1y G) us log/\z4E rds log/\log.length≤246/\
   σ=[some (.ref lc),some (.int 60),some (.int first),some (.int rds),some (.ref l),some (.int (wrN log)),o6,o7,o8,o9,o10,o11,o12]) ⟨ys,z8S first.toNat,none,none,none,none,none,none,none,s1,e1,p1,lk0,by lia,by rw[wf];rfl⟩ (fun i σ G _ ⟨_,_,_,_,_,_,_,_,_,g,_⟩=>g.seq hC) ?_ ?_⟩
 ·rintro i u σ G hi ⟨us,log,o6,o7,o8,o9,o10,o11,o12,sG,eG,pG,lk,l246,rfl⟩
  rw[bE] at hi
  obtain⟨c,_,rfl⟩:=bY.mp hi
  have lu:=z1q pG
  refine(rdI rfl (ex2 _ _ ⟨rfl,rfl,⟨by decide,by decide⟩,(ex2 _ _ ⟨rfl,rfl,⟨by decide,by decide,by decide⟩,(ex2 _ _ ⟨rfl,(by decide),fun rest x0 x1=>?_⟩)⟩)⟩))
  refine(rdI rfl (ex2 l us ⟨rfl,.inl (SqL.of eG),(ex2 _ _ ⟨rfl,rfl,(rdI rfl (B9 (fun c1=>?_) (fun c1=>?_)))⟩)⟩))
  ·exact(rdI rfl (q l us log G nl sG eG pG lk l246))
  have c1':=z3Z c1
  have l240:log.length≤240:=by lia
  refine(rdI rfl (ex2 _ _ ⟨rfl,rfl,(by show(0:Int)<5;decide),rfl,(rdI rfl (B9 (fun c2=>?_) (fun c2=>?_)))⟩))
  ·refine(rdI rfl (ex2 _ _ ⟨rfl,rfl,(by show(0:Int)<6;decide),(ex2 _ _ ⟨rfl,rfl,(rdI rfl ⟨by have:=cY rest (show(6:Int)≠0 by decide);lia,by have:=cQ rest (show(0:Int)<6 by decide);lia,?_⟩)⟩)⟩))
   have r6:(1+rest%6).toNat≤6:=by have:=cQ rest (show(0:Int)<6 by decide);lia
   refine z15 (lo:=0) (n:=(1+rest%6).toNat) (fun j σ G2=>∃(us2:List V) (log2:List C0) (o8:Option V),B0 H G2/\G2 l=some (.lst us2)/\Paired (z1y G2) us2 log2/\z4E rds log2/\log2.length≤240+j/\
    σ=[some (.ref lc),some (.int 60),some (.int first),some (.int rds),some (.ref l),some (.int (wrN log2)),some (.int c),some (.int rest),o8,o9,o10,o11,o12]) ⟨us,log,_,sG,eG,pG,lk,l240,rfl⟩ (fun j σ G2 hj hp=>?_) (fun σ G2 hp=>?_)
   ·obtain⟨us2,log2,o8',sG2,eG2,pG2,lk2,l2,rfl⟩:=hp
    have lu2:=z1q pG2
    refine(rdI rfl (rdI rfl (ex2 _ _ ⟨rfl,rfl,(rdI rfl (B9 (fun c3=>?_) (fun c3=>?_)))⟩)))
    ·have c3':=z0K c3
     have eN:((wrN (log2++[(none,(wrN log2:Int)+1)]):Nat):Int)=(wrN log2:Int)+1:=by
      rw[z2R]
      rfl
     refine(rdI rfl (ex2 _ _ ⟨rfl,rfl,(rdI rfl ⟨.inl ⟨rfl,_,SqL.of eG2⟩,(rdI rfl ⟨(by show 2≤sizeLine;decide),fun t ht=>(ex3 l us2 _ ⟨rfl,rfl,z01 ht _ _ _ eG2,z0f (by lia),?_⟩)⟩)⟩)⟩))
     obtain⟨a1,a2,a3⟩:=z60 (none,(wrN log2:Int)+1) sG2 nl eG2 pG2 ht
     exact⟨_,log2++[(none,(wrN log2:Int)+1)],_,a1,a2,a3,lk2.snoc ⟨rfl,by lia⟩,by rw[bL];exact kN l2,by rw[eN];rfl⟩
    ·exact⟨us2,log2,_,sG2,eG2,pG2,lk2,by lia,rfl⟩
   ·obtain⟨us2,log2,o8',sG2,eG2,pG2,lk2,l2,rfl⟩:=hp
    exact⟨us2,log2,_,_,_,_,_,_,_,sG2,eG2,pG2,lk2,by lia,rfl⟩
  ·refine(rdI rfl (ex2 _ _ ⟨rfl,rfl,(rdI rfl (B9 (fun c3=>?_) (fun c3=>?_)))⟩))
   ·have c3':(0:Int)<(wrN log:Int):=z0K c3
    have w60:wrN log≤246:=cM (y6X log) l246
    have hrd:1≤1+rest%rds/\1+rest%rds≤rds:=by
     have:=cY rest (show rds≠0 by lia)
     have:=cQ rest (show(0:Int)<rds by lia)
     lia
    have hnm:1≤1+rest / rds%(wrN log:Int)/\1+rest / rds%(wrN log:Int)≤(wrN log:Int):=by
     have:=cY (rest / rds) (show(wrN log:Int)≠0 by lia)
     have:=cQ (rest / rds) c3'
     lia
    refine(rdI rfl (rdI rfl (ex2 _ _ ⟨rfl,rfl,by lia,(ex2 _ _ ⟨rfl,rfl,?_⟩)⟩)))
    refine(rdI rfl (rdI rfl (ex2 _ _ ⟨rfl,rfl,⟨by lia,by lia⟩,(rdI rfl (ex2 _ _ ⟨rfl,rfl,c3',(ex2 _ _ ⟨rfl,rfl,?_⟩)⟩))⟩)))
    refine(rdI rfl (ex2 _ _ ⟨rfl,rfl,(by show(0:Int)<5;decide),rfl,(rdI rfl (B9 (fun c4=>(rdI rfl ?_)) (fun c4=>?_)))⟩))
    ·have hN:1≤(wrN log:Int)/\(wrN log:Int)≤(wrN log:Int):=⟨by lia,eX _⟩
     refine(rdI rfl ⟨.inl ⟨rfl,_,SqL.of eG⟩,(rdI rfl (rdI rfl ⟨(by show 3≤sizeLine;decide),fun t ht=>(ex3 l us _ ⟨rfl,rfl,z01 ht _ _ _ eG,z0f (by lia),?_⟩)⟩))⟩)
     obtain⟨a1,a2,a3⟩:=z60 (some (1+rest%rds),(wrN log:Int)) sG nl eG pG ht
     have lk1:=lk.snoc (d:=(some (1+rest%rds),(wrN log:Int))) ⟨hrd.1,hrd.2,hN.1,hN.2⟩
     have wn1:wrN (log++[((some (1+rest%rds),(wrN log:Int)):C0)])=wrN log:=by rw[z2R];rfl
     have ln1:(log++[((some (1+rest%rds),(wrN log:Int)):C0)]).length=log.length+1:=by rw[bL];rfl
     generalize hG1:upd (upd G t (.tup (z2t (some (1+rest%rds),(wrN log:Int))))) l (.lst (us++[.ref t]))=G1 at a1 a2 a3
     have Y9:upd (upd G t (.tup [V.str "deliver",V.int (1+rest%rds),V.int (wrN log:Int)])) l (.lst (us++[.ref t]))=G1:=hG1
     rw[Y9]
     clear hG1 Y9
     refine(rdI rfl (ex2 _ _ ⟨rfl,rfl,(by show(0:Int)<5;decide),rfl,(rdI rfl (B9 (fun c5=>?_) (fun c5=>?_)))⟩))
     ·have hj:1≤1+rest / rds / (wrN log:Int)%9/\1+rest / rds / (wrN log:Int)%9≤9:=by
       have:=cY (rest / rds / (wrN log:Int)) (show(9:Int)≠0 by decide)
       have:=cQ (rest / rds / (wrN log:Int)) (show(0:Int)<9 by decide)
       lia
      refine(rdI rfl (rdI rfl (ex2 _ _ ⟨rfl,rfl,⟨by lia,by lia⟩,(rdI rfl (ex2 _ _ ⟨rfl,rfl,⟨c3',by lia⟩,(ex2 _ _ ⟨rfl,rfl,(by show(0:Int)<9;decide),(ex2 _ _ ⟨rfl,rfl,?_⟩)⟩)⟩))⟩)))
      refine(rdI rfl (rdI rfl (ex2 _ _ ⟨rfl,rfl,(rdI rfl (rdI rfl (ex2 _ _ ⟨rfl,rfl,.inl ⟨by decide,by decide⟩,(ex2 _ _ ⟨rfl,rfl,(ex2 _ _ ⟨rfl,(rdI rfl (ex2 _ _ ⟨rfl,rfl,(ex3 _ _ _ ⟨rfl,?_,?_⟩)⟩))⟩)⟩)⟩)))⟩)))
      ·refine⟨by lia,by lia,by split<;>lia,by split<;>lia,by lia,by lia⟩
      ·have mx0:0≤(if (wrN log:Int)-5*(1+rest / rds / (wrN log:Int)%9) > 0 then (wrN log:Int)-5*(1+rest / rds / (wrN log:Int)%9) else 0):=by split<;>lia
       have mx5:(wrN log:Int)-5*(1+rest / rds / (wrN log:Int)%9)≤(if (wrN log:Int)-5*(1+rest / rds / (wrN log:Int)%9) > 0 then (wrN log:Int)-5*(1+rest / rds / (wrN log:Int)%9) else 0):=by split<;>lia
       have n4:=z9E hj.1 mx5
       refine y2m (hi:=(wrN log:Int)-(1+rest / rds / (wrN log:Int)%9)) (c:=0-(1+rest / rds / (wrN log:Int)%9)) (n:=K4 ((wrN log:Int)-(1+rest / rds / (wrN log:Int)%9)) (if (wrN log:Int)-5*(1+rest / rds / (wrN log:Int)%9) > 0 then (wrN log:Int)-5*(1+rest / rds / (wrN log:Int)%9) else 0) (0-(1+rest / rds / (wrN log:Int)%9))) (fun j σ G2=>∃(us2:List V) (log2:List C0) (p12:Option V),B0 H G2/\G2 l=some (.lst us2)/\Paired (z1y G2) us2 log2/\z4E rds log2/\wrN log2=wrN log/\log2.length=log.length+1+j/\
        σ=[some (.ref lc),some (.int 60),some (.int first),some (.int rds),some (.ref l),some (.int (wrN log)),some (.int c),some (.int rest),o8,some (.int (1+rest%rds)),some (.int (wrN log:Int)),some (.int (1+rest / rds / (wrN log:Int)%9)),p12]) ⟨_,_,_,a1,a2,a3,lk1,wn1,ln1,rfl⟩ (fun j σ G2 hj2 hp=>?_) (fun σ G2 hp=>?_)
       ·obtain⟨us2,log2,p12,sG2,eG2,pG2,lk2,w2,l2,rfl⟩:=hp
        have lu2:=z1q pG2
        have st:=y1v (by lia) hj2
        refine(rdI rfl ⟨.inl ⟨rfl,_,SqL.of eG2⟩,(rdI rfl (rdI rfl ⟨(by show 3≤sizeLine;decide),fun t2 ht2=>(ex3 l us2 _ ⟨rfl,rfl,z01 ht2 _ _ _ eG2,z0f (by lia),?_⟩)⟩))⟩)
        obtain⟨b1,b2,b3⟩:=z60 (some (1+rest%rds),(wrN log:Int)-(1+rest / rds / (wrN log:Int)%9)+j*(0-(1+rest / rds / (wrN log:Int)%9))) sG2 nl eG2 pG2 ht2
        exact⟨_,_,_,b1,b2,b3,lk2.snoc ⟨hrd.1,hrd.2,by lia,by rw[w2];lia⟩,by rw[z2R,w2]<;>rfl,by rw[bL,l2]<;>rfl,rfl⟩
       ·obtain⟨us2,log2,p12,sG2,eG2,pG2,lk2,w2,l2,rfl⟩:=hp
        exact⟨us2,log2,_,_,_,_,_,_,_,sG2,eG2,pG2,lk2,by lia,by rw[w2]<;>rfl⟩
     ·exact⟨_,_,_,_,_,_,_,_,_,a1,a2,a3,lk1,by lia,by rw[wn1];rfl⟩
    ·have hN:1≤(1+rest / rds%(wrN log:Int))/\(1+rest / rds%(wrN log:Int))≤(wrN log:Int):=hnm
     refine(rdI rfl ⟨.inl ⟨rfl,_,SqL.of eG⟩,(rdI rfl (rdI rfl ⟨(by show 3≤sizeLine;decide),fun t ht=>(ex3 l us _ ⟨rfl,rfl,z01 ht _ _ _ eG,z0f (by lia),?_⟩)⟩))⟩)
     obtain⟨a1,a2,a3⟩:=z60 (some (1+rest%rds),(1+rest / rds%(wrN log:Int))) sG nl eG pG ht
     have lk1:=lk.snoc (d:=(some (1+rest%rds),(1+rest / rds%(wrN log:Int)))) ⟨hrd.1,hrd.2,hN.1,hN.2⟩
     have wn1:wrN (log++[((some (1+rest%rds),(1+rest / rds%(wrN log:Int))):C0)])=wrN log:=by rw[z2R];rfl
     have ln1:(log++[((some (1+rest%rds),(1+rest / rds%(wrN log:Int))):C0)]).length=log.length+1:=by rw[bL];rfl
     generalize hG1:upd (upd G t (.tup (z2t (some (1+rest%rds),(1+rest / rds%(wrN log:Int)))))) l (.lst (us++[.ref t]))=G1 at a1 a2 a3
     have Y9:upd (upd G t (.tup [V.str "deliver",V.int (1+rest%rds),V.int (1+rest / rds%(wrN log:Int))])) l (.lst (us++[.ref t]))=G1:=hG1
     rw[Y9]
     clear hG1 Y9
     refine(rdI rfl (ex2 _ _ ⟨rfl,rfl,(by show(0:Int)<5;decide),rfl,(rdI rfl (B9 (fun c5=>?_) (fun c5=>?_)))⟩))
     ·have hj:1≤1+rest / rds / (wrN log:Int)%9/\1+rest / rds / (wrN log:Int)%9≤9:=by
       have:=cY (rest / rds / (wrN log:Int)) (show(9:Int)≠0 by decide)
       have:=cQ (rest / rds / (wrN log:Int)) (show(0:Int)<9 by decide)
       lia
      refine(rdI rfl (rdI rfl (ex2 _ _ ⟨rfl,rfl,⟨by lia,by lia⟩,(rdI rfl (ex2 _ _ ⟨rfl,rfl,⟨c3',by lia⟩,(ex2 _ _ ⟨rfl,rfl,(by show(0:Int)<9;decide),(ex2 _ _ ⟨rfl,rfl,?_⟩)⟩)⟩))⟩)))
      refine(rdI rfl (rdI rfl (ex2 _ _ ⟨rfl,rfl,(rdI rfl (rdI rfl (ex2 _ _ ⟨rfl,rfl,.inl ⟨by decide,by decide⟩,(ex2 _ _ ⟨rfl,rfl,(ex2 _ _ ⟨rfl,(rdI rfl (ex2 _ _ ⟨rfl,rfl,(ex3 _ _ _ ⟨rfl,?_,?_⟩)⟩))⟩)⟩)⟩)))⟩)))
      ·refine⟨by lia,by lia,by split<;>lia,by split<;>lia,by lia,by lia⟩
      ·have mx0:0≤(if (1+rest / rds%(wrN log:Int))-5*(1+rest / rds / (wrN log:Int)%9) > 0 then (1+rest / rds%(wrN log:Int))-5*(1+rest / rds / (wrN log:Int)%9) else 0):=by split<;>lia
       have mx5:(1+rest / rds%(wrN log:Int))-5*(1+rest / rds / (wrN log:Int)%9)≤(if (1+rest / rds%(wrN log:Int))-5*(1+rest / rds / (wrN log:Int)%9) > 0 then (1+rest / rds%(wrN log:Int))-5*(1+rest / rds / (wrN log:Int)%9) else 0):=by split<;>lia
       have n4:=z9E hj.1 mx5
       refine y2m (hi:=(1+rest / rds%(wrN log:Int))-(1+rest / rds / (wrN log:Int)%9)) (c:=0-(1+rest / rds / (wrN log:Int)%9)) (n:=K4 ((1+rest / rds%(wrN log:Int))-(1+rest / rds / (wrN log:Int)%9)) (if (1+rest / rds%(wrN log:Int))-5*(1+rest / rds / (wrN log:Int)%9) > 0 then (1+rest / rds%(wrN log:Int))-5*(1+rest / rds / (wrN log:Int)%9) else 0) (0-(1+rest / rds / (wrN log:Int)%9))) (fun j σ G2=>∃(us2:List V) (log2:List C0) (p12:Option V),B0 H G2/\G2 l=some (.lst us2)/\Paired (z1y G2) us2 log2/\z4E rds log2/\wrN log2=wrN log/\log2.length=log.length+1+j/\
        σ=[some (.ref lc),some (.int 60),some (.int first),some (.int rds),some (.ref l),some (.int (wrN log)),some (.int c),some (.int rest),o8,some (.int (1+rest%rds)),some (.int (1+rest / rds%(wrN log:Int))),some (.int (1+rest / rds / (wrN log:Int)%9)),p12]) ⟨_,_,_,a1,a2,a3,lk1,wn1,ln1,rfl⟩ (fun j σ G2 hj2 hp=>?_) (fun σ G2 hp=>?_)
       ·obtain⟨us2,log2,p12,sG2,eG2,pG2,lk2,w2,l2,rfl⟩:=hp
        have lu2:=z1q pG2
        have st:=y1v (by lia) hj2
        refine(rdI rfl ⟨.inl ⟨rfl,_,SqL.of eG2⟩,(rdI rfl (rdI rfl ⟨(by show 3≤sizeLine;decide),fun t2 ht2=>(ex3 l us2 _ ⟨rfl,rfl,z01 ht2 _ _ _ eG2,z0f (by lia),?_⟩)⟩))⟩)
        obtain⟨b1,b2,b3⟩:=z60 (some (1+rest%rds),(1+rest / rds%(wrN log:Int))-(1+rest / rds / (wrN log:Int)%9)+j*(0-(1+rest / rds / (wrN log:Int)%9))) sG2 nl eG2 pG2 ht2
        exact⟨_,_,_,b1,b2,b3,lk2.snoc ⟨hrd.1,hrd.2,by lia,by rw[w2];lia⟩,by rw[z2R,w2]<;>rfl,by rw[bL,l2]<;>rfl,rfl⟩
       ·obtain⟨us2,log2,p12,sG2,eG2,pG2,lk2,w2,l2,rfl⟩:=hp
        exact⟨us2,log2,_,_,_,_,_,_,_,sG2,eG2,pG2,lk2,by lia,by rw[w2]<;>rfl⟩
     ·exact⟨_,_,_,_,_,_,_,_,_,a1,a2,a3,lk1,by lia,by rw[wn1];rfl⟩
   ·exact⟨us,log,_,_,_,_,_,_,_,sG,eG,pG,lk,l246,rfl⟩
 ·rintro σ G ⟨us,log,o6,o7,o8,o9,o10,o11,o12,sG,eG,pG,lk,l246,rfl⟩
  exact(rdI rfl (q l us log G nl sG eG pG lk l246))
noncomputable def y74(K:PySem.W.Frag)(Bk:BkP):Sp:=fun vs H Q _=>∃(x l lr:Addr) (fp:List Addr) (nm:List Str) (r k:Int) (us ws:List V) (log:List C0) (rows:List Row),vs=[.ref x,.ref l,.ref lr]/\Bk H x fp nm r k [] []/\H l=some (.lst us)/\l∉fp/\Paired (z1y H) us log/\z4E k log/\log.length≤400/\
 H lr=some (.lst ws)/\lr∉fp/\z0a H (rows.map O9) ws/\rows.length=60/\Rws nm rows/\nm.Nodup/\nm.length≤12/\
 ∀(fp':List Addr) (H':Hp),(∀b∈fp',b∈fp\/H b=none)->z0B fp H H'->Bk H' x fp' nm r k (rows.take (wrN log)) log->Q (.ref x) H'
theorem y5N(M:Bl mg)(F:Fun K "_law_play" "_law_play" z6I f fd){B1:Addr}{Bk:BkP}(O:V8 B1 ["write","deliver","latest","issue","deeds","deed","shelf"] Bk)(M4:D9 P w K mg base 8 B1 "write" z5R (y1b K Bk))(M5:D9 P w K mg base 8 B1 "deliver" z4l (z8O Bk)) :
  B4 P w K mg base CX0 9 f fd z7g (y74 K Bk):=by
 have nd:=z8B.nd
 refine F.ok z8B (fun vs H Q E h=>?_) (fun cdv A outer s H vs Q E hr h=>?_)
 ·obtain⟨x,l,lr,fp,nm,r,k,us,ws,log,rows,rfl,_⟩:=h
  rfl
 obtain⟨x,l,lr,fp,nm,r,k,us,ws,log,rows,rfl,bk0,el,nl,pr,lk,l400,er,nr,tl,r60,R,ndn,n12,q⟩:=h
 refine⟨_,(z04 (z0W bT rfl (z1k (pv 1)) (z0j (i:=3) nd rfl (Or.inl rfl)) (z05 (z0C (PW.pt (z37 (z0c z28 (z0A z0w (pv 3) z06 (fun _ _=>rfl)) z2A (z0m _)) (z2m (z0c z28 (z0r z19 (z0A z0w (pv 3) z06 (fun _ _=>rfl)) z06) z06 (z0m _))))) (z05 (z0F (z1J M4 (rm hr) (pv 0) (z00 (z0t z4K rfl M.list jF (z00 (z0A z1j (pv 2) (z0r z25 (z0A z0w (pv 3) z06 (fun _ _=>rfl)) z06) (fun _ _=>rfl)) z02)) z02)))) (z05 (z0C (z0c z28 (z0A z0w (pv 3) z06 (fun _ _=>rfl)) z2A (z0m _)) (z05 (z0F (z1J M4 (rm hr) (pv 0) (z00 (z0t z0p rfl M.tuple bH (z00 (z0A z1j (pv 2) (z0r z25 (z0A z0w (pv 3) z06 (fun _ _=>rfl)) z06) (fun _ _=>rfl)) z02)) z02)))) (z05 (z0F (z1J M5 (rm hr) (pv 0) (z00 (z0A z0w (pv 3) z06 (fun _ _=>rfl)) (z00 (z0A z0w (pv 3) z06 (fun _ _=>rfl)) z02)))))))))) (z05 (z0i (pv 0)))),?_⟩
 have ntp:z5w H fp:=O.Q4 bk0
 have lw:ws.length=60:=by rw[tl.length,bA,r60]
 have lu:=z1q pr
 refine⟨_,rfl,l,rfl,⟨_,SqL.of el⟩,z1R (K:=K) (a:=l) (xs:=us) (fun i σ H'=>∃(fp':List Addr) (o:Option V),z0B fp H H'/\Bk H' x fp' nm r k (rows.take (wrN (log.take i))) (log.take i)/\(∀b∈fp',b∈fp\/H b=none)/\σ=[some (.ref x),some (.ref l),some (.ref lr),o])
  ⟨fp,none,.of (B0.refl _),bk0,fun b m=>.inl m,rfl⟩ (fun i σ H' _ ⟨_,_,bt,_⟩=>SqL.of (bt _ _ el nl)) ?_ ?_⟩
 ·rintro i u σ H' hi ⟨fp',o,bt,bk,ff,rfl⟩
  have hi':us.take us.length=us:=bR
  obtain⟨d,ed,b,rfl,hb⟩:∃d,log[i]? = some d/\z1y H u d:=by
   obtain⟨d,e1,e2⟩:=y0r pr us.length i u (by rw[bR];exact hi)
   rw[lu,bR] at e1
   exact⟨d,e1,e2⟩
  have ok:=lk i d ed
  have hb':=bt _ _ hb (fun m=>ntp b m _ hb)
  have ltk:(log.take i).length<400:=by
   have:=(bX.mp ed).1
   rw[bI]
   lia
  obtain⟨d2,g2,z2,w2⟩:=O.ins bk
  have wle:wrN (log.take i)≤(log.take i).length:=y6X _
  obtain⟨a,n⟩:=d
  cases a with
  | some rd=>
   obtain⟨o1,o2,o3,o4⟩:=ok
   have hbd:H' b=some (.tup [V.str "deliver",V.int rd,V.int n]):=hb'
   refine(rdI rfl (ex4 b _ 0 _ ⟨rfl,rfl,SqT.of hbd,rfl,rfl,(rdI rfl (B7 (B7 ?_)))⟩))
   refine(rdI rfl (ex4 b _ 0 _ ⟨rfl,rfl,SqT.of hbd,rfl,rfl,(rdI rfl (B7 ?_))⟩))
   have l60:wrN (log.take i)≤60\/60<wrN (log.take i):=by lia
   have rl:((rows.take (wrN (log.take i))).length:Int)=min (wrN (log.take i)) 60:=by rw[bI,r60]<;>lia
   have n60:n≤((rows.take (wrN (log.take i))).length:Int):=by
    rw[rl]
    have:wrN (log.take i)≤60:=w0r lk i
    lia
   refine(rdI rfl (ex3 x d2 g2 ⟨rfl,z2,w2 _ (by simp),(rdI rfl (ex4 b _ 1 _ ⟨rfl,rfl,SqT.of hbd,rfl,(rdI rfl (ex4 b _ 2 _ ⟨rfl,rfl,SqT.of hbd,rfl,(ex9 x fp' nm r k _ _ rd n ⟨rfl,bk,o1,o2,o3,n60,ltk,fun H7 b7 bk7=>?_⟩)⟩))⟩))⟩))
   have ew:wrN (log.take (i+1))=wrN (log.take i):=by rw[z0n ed,z2R]<;>rfl
   exact⟨fp',_,(fun b o e nb=>b7 b o (bt b o e nb) fun m=>(ff b m).elim nb fun z=>by rw[e] at z;cases z),by rw[ew,z0n ed];exact bk7,ff,rfl⟩
  | none=>
   obtain⟨en,n60⟩:=ok
   have en':n=(wrN (log.take i):Int)+1:=en
   have n60':wrN (log.take i)<60:=n60
   have hbd:H' b=some (.tup [V.str "write",V.int n]):=hb'
   have ew:wrN (log.take (i+1))=wrN (log.take i)+1:=by rw[z0n ed,z2R]<;>rfl
   have hlt:wrN (log.take i)<rows.length:=by lia
   obtain⟨v,ev,tv⟩:=(z0a.but bt ntp _ _ tl).get (wrN (log.take i)) (O9 rows[wrN (log.take i)]) (by rw[bE,bD hlt]<;>rfl)
   have av:atI ws (n-1)=some v:=by
    rw[en',Int.add_sub_cancel]
    exact z0V ev
   have w0u:rows[wrN (log.take i)]? = some rows[wrN (log.take i)]:=bD hlt
   generalize rows[wrN (log.take i)]=wr at tv w0u
   have hw:=bS w0u
   obtain⟨ar,xs,rfl,era,_,tp⟩:=z0d tv
   have sb:=R.sub wr hw
   have good:GoodR nm wr:=⟨sb.nodup ndn,fun p hp=>sb.subset (jZ hp),fun p hp=>R.val wr hw p hp⟩
   have ino:z1v nm wr=wr:=z5B ndn sb
   have w12:wr.length≤12:=by
    have:=sb.length_le
    rw[bA] at this
    lia
   have lti:(rows.take (wrN (log.take i))).length=wrN (log.take i):=by rw[bI];lia
   have er':=bt _ _ er nr
   have fin:∀{G:Hp} (fp2:List Addr) (H6:Hp),B0 H' G->(∀b∈fp2,b∈fp'\/G b=none)->z0B fp' G H6->Bk H6 x fp2 nm r k (rows.take (wrN (log.take i))++[z1v nm wr]) (log.take i++[(none,((rows.take (wrN (log.take i))).length:Int)+1)])->
     ∃(fp':List Addr) (o:Option V),z0B fp H H6/\Bk H6 x fp' nm r k (rows.take (wrN (log.take (i+1)))) (log.take (i+1))/\(∀b∈fp',b∈fp\/H b=none)/\[some (V.ref x),some (V.ref l),some (V.ref lr),some (V.ref b)]=[some (V.ref x),some (V.ref l),some (V.ref lr),o]:=fun {G} fp2 H6 sl hf2 b6 bk6=>by
    rw[ino,lti,<- z0n w0u,<- en',<- z0n ed,<- ew] at bk6
    exact⟨fp2,_,(fun b o e nb=>b6 b o (sl _ _ (bt b o e nb)) fun m=>(ff b m).elim nb fun z=>by rw[e] at z;cases z),bk6,y4T bt ff sl hf2,rfl⟩
   refine(rdI rfl (ex4 b _ 0 _ ⟨rfl,rfl,SqT.of hbd,rfl,rfl,(rdI rfl (E8 ?_))⟩))
   refine(rdI rfl (ex4 b _ 1 _ ⟨rfl,rfl,SqT.of hbd,rfl,(ex2 _ _ ⟨rfl,rfl,(by show(0:Int)<2;decide),rfl,(rdI rfl (B9 (fun c=>?_) (fun c=>?_)))⟩)⟩))
   ·refine(rdI rfl (ex3 x d2 g2 ⟨rfl,z2,w2 _ (by simp),(rdI rfl (rdI rfl (ex4 b _ 1 _ ⟨rfl,rfl,SqT.of hbd,rfl,(ex2 _ _ ⟨rfl,rfl,(ex4 lr ws _ _ ⟨rfl,rfl,SqL.of er',av,(ex2 ar xs ⟨rfl,.inr (SqT.of era),fun l2 hl2=>?_⟩)⟩)⟩)⟩)))⟩))
    have sl:=z01 hl2 (.lst xs)
    have el2:upd H' l2 (.lst xs) l2=some (.lst xs):=z03
    have nl2:l2∉fp':=fun m=>by
     obtain⟨o,e,_⟩:=O.own bk l2 m
     rw[hl2] at e
     cases e
    have bk':=O.same bk sl
    have hts:=y05 (z0a.keep sl _ _ tp)
    generalize upd H' l2 (.lst xs)=G at sl el2 bk' hts
    exact(ex9 x (.ref l2) fp' nm r k _ _ wr ⟨rfl,bk',(ex2 l2 xs ⟨rfl,.inl (SqL.of el2),nl2,HT.hand (O.Q4 bk') hts⟩),good,w12,by lia,ltk,fun fp2 H6 hf2 b6 bk6=>fin fp2 H6 sl hf2 b6 bk6⟩)
   ·refine(rdI rfl (ex4 b _ 0 _ ⟨rfl,rfl,SqT.of hbd,rfl,rfl,(rdI rfl (E8 ?_))⟩))
    refine(rdI rfl (ex3 x d2 g2 ⟨rfl,z2,w2 _ (by simp),(rdI rfl (rdI rfl (ex4 b _ 1 _ ⟨rfl,rfl,SqT.of hbd,rfl,(ex2 _ _ ⟨rfl,rfl,(ex4 lr ws _ _ ⟨rfl,rfl,SqL.of er',av,(ex2 ar xs ⟨rfl,.inr ⟨SqT.of era,?_⟩⟩)⟩)⟩)⟩)))⟩))
    exact(ex9 x (.ref ar) fp' nm r k _ _ wr ⟨rfl,bk,(ex2 ar xs ⟨rfl,.inr era,fun m=>O.Q4 bk ar m _ era,HT.hand (O.Q4 bk) (y05 tp)⟩),good,w12,by lia,ltk,fun fp2 H6 hf2 b6 bk6=>fin fp2 H6 (B0.refl _) hf2 b6 bk6⟩)
 ·rintro σ H' ⟨fp',o,bt,bk,ff,rfl⟩
  rw[lu,bR] at bk
  exact(rdI rfl (q fp' H' ff bt bk))
theorem z9O(rd:Int):∀log:List C0,(D0 log rd).Nodup:=by
 intro log
 have go:∀(log:List C0) (acc:List Int),acc.Nodup->(log.foldl (fun acc d=>if d.1=some rd then P2 acc d.2 else acc) acc).Nodup:=by
  intro log
  induction log with
  | nil=>intro acc h;exact h
  | cons d log ih=>
   intro acc h
   rw[dF]
   refine ih _ ?_
   split
   ·unfold P2
    split
    ·exact h
    ·rename_i hn
     exact jB.mpr ⟨h,by simp,fun a ha b hb e=>hn (by rw[<- bC.mp hb,<- e];exact ha)⟩
   ·exact h
 exact go log [] .nil
noncomputable def y3J(K:PySem.W.Frag):Sp:=fun vs H Q _=>∃(l:Addr) (us:List V) (log:List C0) (rd:Int) (d:Nat),vs=[.ref l,.int rd,.int d]/\H l=some (.lst us)/\Paired (z1y H) us log/\d≤log.length/\(∀x∈log,1≤x.2/\x.2≤60)/\
 ∀(lo:Addr) (H':Hp),H lo=none->B0 H H'->H' lo=some (.lst ((z08 (D0 (log.take d) rd)).map V.int))->Q (.ref lo) H'
theorem y5z(M:Bl mg)(F:Fun K "_law_had_at" "_law_had_at" z4T f fd):B4 P w K mg base CX0 1 f fd z4S (y3J K):=by
 have nd:=z6a.nd
 refine F.ok z6a (fun vs H Q E h=>?_) (fun cdv A outer s H vs Q E hr h=>?_)
 ·obtain⟨l,us,log,rd,d,rfl,_⟩:=h
  rfl
 obtain⟨l,us,log,rd,d,rfl,el,pr,dl,hin,q⟩:=h
 refine⟨_,(z04 (z0o (i:=3) nd rfl (Or.inl rfl) (z1m z02)) (z04 (z0W bT rfl (z1k (z1O z9a (pv 0) z2r (z2s (pv 2)))) (z0j (i:=4) nd rfl (Or.inl rfl)) (z05 (z0C (PW.pt (z37 (z0c z28 (z0A z0w (pv 4) z06 (fun _ _=>rfl)) z2A (z0m _)) (z37 (z0c z28 (z0A z0w (pv 4) z06 (fun _ _=>rfl)) (pv 1) (z0m _)) (z2m (z0c z1z (z0A z0w (pv 4) z06 (fun _ _=>rfl)) (pv 3) (by with_unfolding_all rfl)))))) (z05 (z0F (z2Z bV bU bW z0L (pv 3) (z00 (z0A z0w (pv 4) z06 (fun _ _=>rfl)) z02)))) z0k))) (z05 (z0i (z0b z8s rfl M.sorted fW (z00 (pv 3) z02)))))),?_⟩
 have lu:=z1q pr
 refine⟨(by show 0≤sizeLine;decide),fun lh hlh=>?_⟩
 have s1:=z01 hlh (.lst [])
 have e1:upd H lh (.lst []) lh=some (.lst []):=z03
 generalize upd H lh (.lst [])=H1 at s1 e1
 refine(rdI rfl (rdI rfl (rdI rfl (ex2 l _ ⟨rfl,SqL.of (s1 _ _ el),fun lq hlq=>?_⟩))))
 rw[y5j (by lia)]
 have s2:=s1.trans (z01 hlq (.lst (us.take d)))
 have e2:upd H1 lq (.lst (us.take d)) lq=some (.lst (us.take d)):=z03
 have e3:=z01 hlq (.lst (us.take d)) _ _ e1
 have nq:lh≠lq:=z0q e1 hlq
 generalize upd H1 lq (.lst (us.take d))=H2 at s2 e2 e3
 have lt:(us.take d).length=d:=by rw[bI];lia
 have w06:∀(lg:List C0),(∀x∈lg,x∈log)->∀n∈D0 lg rd,1≤n/\n≤60:=fun lg sub n hn=>hin _ (sub _ (z7X.mp hn))
 refine⟨lq,rfl,⟨_,SqL.of e2⟩,z1R (K:=K) (a:=lq) (xs:=us.take d) (fun i σ G=>∃o4:Option V,z0B [lh] H2 G/\G lh=some (.lst ((D0 ((log.take d).take i) rd).map V.int))/\σ=[some (.ref l),some (.int rd),some (.int d),some (.ref lh),o4]) ⟨none,.of (B0.refl _),e3,rfl⟩ (fun i σ G _ ⟨_,bt,_⟩=>SqL.of (bt _ _ e2 (by rw[bC];exact dG nq))) ?_ ?_⟩
 ·rintro i u σ G hi ⟨o4,bt,eh,rfl⟩
  obtain⟨x,ex,b,rfl,hb⟩:=y0r pr d i u hi
  have nb:b∉[lh]:=fun m=>by
   rw[bC.mp m,hlh] at hb
   cases hb
  have hb':=bt _ _ (s2 _ _ hb) nb
  have g60:=w06 ((log.take d).take i) fun x hx=>dZ (dZ hx)
  have gl:=z8r (z9O rd ((log.take d).take i)) g60
  have eg:D0 ((log.take d).take (i+1)) rd=if x.1=some rd then P2 (D0 ((log.take d).take i) rd) x.2 else D0 ((log.take d).take i) rd:=by rw[z0n ex,y0P]
  obtain⟨a,n⟩:=x
  cases a with
  | none=>
   have hbd:G b=some (.tup [V.str "write",V.int n]):=hb'
   rw[if_neg (fun e=>by cases e)] at eg
   refine(rdI rfl (ex4 b _ 0 _ ⟨rfl,rfl,SqT.of hbd,rfl,rfl,(rdI rfl (B7 ?_))⟩))
   exact B7 ⟨_,bt,by rw[eg];exact eh,rfl⟩
  | some rd'=>
   have hbd:G b=some (.tup [V.str "deliver",V.int rd',V.int n]):=hb'
   refine(rdI rfl (ex4 b _ 0 _ ⟨rfl,rfl,SqT.of hbd,rfl,rfl,(rdI rfl (E8 ?_))⟩))
   refine(rdI rfl (ex4 b _ 1 _ ⟨rfl,rfl,SqT.of hbd,rfl,(rdI rfl ⟨rfl,(rdI rfl ?_)⟩)⟩))
   by_cases c:rd'=rd
   ·rw[if_pos (show(some rd',n).1=some rd by rw[c])] at eg
    rw[decide_eq_true (congrArg V.int c)]
    refine E8 (rdI rfl (ex4 b _ 2 _ ⟨rfl,rfl,SqT.of hbd,rfl,(rdI rfl (ex2 lh _ ⟨rfl,.inl (SqL.of eh),rfl,z2c _,(rdI rfl ?_)⟩))⟩))
    rw[if_pos rfl,z2P]
    unfold P2 at eg
    by_cases c2:n∈D0 ((log.take d).take i) rd
    ·rw[if_pos c2] at eg
     rw[decide_eq_true c2]
     exact B7 ⟨_,bt,by rw[eg];exact eh,rfl⟩
    ·rw[if_neg c2] at eg
     rw[decide_eq_false c2]
     refine E8 (rdI rfl ⟨.inl ⟨rfl,_,SqL.of eh⟩,(rdI rfl (ex4 b _ 2 _ ⟨rfl,rfl,SqT.of hbd,rfl,(ex3 lh _ _ ⟨rfl,rfl,eh,z0f (by rw[bA];lia),?_⟩)⟩))⟩)
     refine⟨_,fun b o e nb=>?_,by rw[z03,eg,bG];rfl,rfl⟩
     rw[z0l (fun e=>nb (by rw[e];exact bC.mpr rfl))]
     exact bt b o e nb
   ·rw[if_neg (fun e=>c (Option.some.inj e))] at eg
    rw[decide_eq_false (fun e=>c (V.int.inj e))]
    exact B7 (B7 ⟨_,bt,by rw[eg];exact eh,rfl⟩)
 ·rintro σ G ⟨o4,bt,eh,rfl⟩
  rw[lt,List.take_take,Nat.min_self] at eh
  have g60:=w06 (log.take d) fun x hx=>dZ hx
  have gnd:=z9O rd (log.take d)
  refine(rdI rfl (ex2 lh _ ⟨rfl,SqL.of eh,by have:=z8r gnd g60;lia,fun lo ms hlo hp hs=>?_⟩))
  have em:=y0q gnd g60 hp hs
  have nh:∀{b:Addr}{o:HO},H b=some o->b∉[lh]:=fun e m=>by
   rw[bC.mp m,hlh] at e
   cases e
  have sG:B0 H G:=fun b o e=>bt _ _ (s2 _ _ e) (nh e)
  exact q lo _ (sG.free hlo) (sG.trans (z01 hlo _)) (by rw[z03,em])
noncomputable def hvV:Option (Int×Int)->V
 | none=>.non
 | some p=>.int p.2
noncomputable def z1t(had:List Int)(rows:List Row)(r:Int)(z:Str):List V:=[.str (z0P (z08 had) rows r (z0N (z0y (z08 had) rows z)) z),.int (z0N (z0y (z08 had) rows z)),hvV (z0y (z08 had) rows z)]
noncomputable def y5Q(j:Nat)(had:List Int)(rows:List Row)(r:Int)(z:Str):DV:=.tup [.int j,.str (z0P (z08 had) rows r (z0N (z0y (z08 had) rows z)) z),.int (z0N (z0y (z08 had) rows z)),z9f (z0y (z08 had) rows z)]
noncomputable def z62(t:Nat->List Int)(rows:List Row)(r:Int)(z:Str):Nat->List DV
 | 0=>[y5Q 0 (t 0) rows r z]
 | j+1=>z62 t rows r z j++(if z2p (z1t (t (j+1)) rows r z) (z1t (t j) rows r z) then [] else [y5Q (j+1) (t (j+1)) rows r z])
theorem z7i(t:Nat->List Int)(rows:List Row)(r:Int)(z:Str):∀j,(z62 t rows r z j).length≤j+1
 | 0=>bJ _
 | j+1=>by
  have:=z7i t rows r z j
  unfold z62
  rw[bL]
  split
  ·rw[jU]
   lia
  ·rw[dH]
   lia
theorem z9v(had:List Int)(rows:List Row)(r:Int)(z:Str):(z1t had rows r z).all z2k=true:=by
 unfold z1t
 cases z0y (z08 had) rows z<;>rfl
theorem y4Q{a b:List Int}{rows:List Row}{r:Int}{z:Str}(h:z2p (z1t a rows r z) (z1t b rows r z)=true):z1t a rows r z=z1t b rows r z:=by
 unfold z1t at h ⊢
 unfold z2p at h
 rw[bZ] at h
 obtain⟨h1,h2⟩:=h
 unfold z2p at h2
 rw[bZ] at h2
 obtain⟨h2,h3⟩:=h2
 unfold z2p at h3
 rw[bZ] at h3
 have e1:=eq_of_beq (show(z0P (z08 a) rows r (z0N (z0y (z08 a) rows z)) z == z0P (z08 b) rows r (z0N (z0y (z08 b) rows z)) z)=true from h1)
 have e2:=eq_of_beq (show(z0N (z0y (z08 a) rows z) == z0N (z0y (z08 b) rows z))=true from h2)
 have e3:hvV (z0y (z08 a) rows z)=hvV (z0y (z08 b) rows z):=by
  have h4:=h3.1
  cases c1:z0y (z08 a) rows z<;>cases c2:z0y (z08 b) rows z<;>rw[c1,c2] at h4
  ·exact absurd (show false=true from h4) bM
  ·exact absurd (show false=true from h4) bM
  ·rename_i p q
   exact congrArg V.int (eq_of_beq (show(p.2 == q.2)=true from h4))
 rw[e1,e2,e3]
theorem y0Z{H:Hp}{b:Addr}{j:Nat}{had:List Int}{rows:List Row}{r:Int}{z:Str}(h:H b=some (.tup (.int j::z1t had rows r z))):B2 H (y5Q j had rows r z) (.ref b):=by
 refine z0s h (by show 4≤1000000;decide) (.cons (z0E _) (.cons (z2h _) (.cons (z0E _) (.cons ?_ .nil))))
 cases z0y (z08 had) rows z with
 | none=>exact z5a
 | some p=>exact z0E _
noncomputable def y6K(Bk:BkP):Sp:=fun vs H Q _=>∃(x:Addr) (z:Str) (rd:Int) (fp:List Addr) (nm:List Str) (r k:Int) (rows:List Row) (log:List C0),vs=[.ref x,.int rd,.str z]/\Bk H x fp nm r k rows log/\1≤rd/\rd≤k/\z∈nm/\E2 nm/\Rws nm rows/\rows.length≤60/\(∀y∈log,1≤y.2/\y.2≤(rows.length:Int))/\log.length≤400/\0≤r/\r≤10/\
 ∀(v:V) (H':Hp),B0 H H'->B2 H' (.tup (z62 (fun j=>D0 (log.take j) rd) rows r z log.length)) v->Q v H'
theorem y1E{H:Hp}{o:Option (Int×Int)}{y:V}(h:B2 H (z9f o) y):y=hvV o:=by
 cases o with
 | none=>
  unfold z9f B2 at h
  exact h
 | some p=>exact z14 h
theorem y2W{B1 A6 A0:Addr}(M:Bl mg)(F:Fun K "history" "history" z9S f fd)(D3:Cal P w K mg base 6 "state_and_held" z2x (z5C (ShD K A0)))
  (F0:D9 P w K mg base 7 B1 "shelf" z2G (z50 (BkD K B1 A6) (ShD K A0))) (N8:D9 P w K mg base 7 B1 "deeds" z5E (y0J (BkD K B1 A6))):B4 P w K mg base CX0 8 f fd y03 (y6K (BkD K B1 A6)):=by
 have nd:=y0z.nd
 refine F.ok y0z (fun vs H Q E h=>?_) (fun cdv A outer s H vs Q E hr h=>?_)
 ·obtain⟨x,z,rd,fp,nm,r,k,rows,log,rfl,_⟩:=h
  rfl
 obtain⟨x,z,rd,fp,nm,r,k,rows,log,rfl,bk,d1,d2,hz,gn,R,l60,hin,l400,r0,r10,q⟩:=h
 refine⟨_,(z04 (z0o (i:=3) nd rfl (Or.inl rfl) (z1m (z00 (z0r (z7T (K:=K) rfl) (z0U (z00 z06 z02)) (z0g D3 (rm hr) rfl (z00 (z1J F0 (rm hr) (pv 0) (z00 (pv 1) (z00 z06 z02))) (z00 (pv 2) z02)))) z02))) (z04 (z0W bT rfl (z3i rfl M.range (z00 z06 (z00 (z0r z1o (z1C N8 (rm hr) (pv 0)) z06) z02))) (z0j (i:=4) nd rfl (Or.inl rfl)) (z04 (z0o (i:=5) nd rfl (Or.inl rfl) (z0g D3 (rm hr) rfl (z00 (z1J F0 (rm hr) (pv 0) (z00 (pv 1) (z00 (pv 4) z02))) (z00 (pv 2) z02)))) (z05 (z0C (z0c (y7c hr.N9) (pv 5) (z1O y1m (z0A z1j (pv 3) (y1D z89 z06) (fun _ _=>rfl)) (z2s z06) z2r) (z0m _)) (z05 (z0F (z2Z bV bU bW z0L (pv 3) (z00 (z0r (z7T (K:=K) rfl) (z0U (z00 (pv 4) z02)) (pv 5)) z02)))) z0k)))) (z05 (z0i (z0t z0p rfl M.tuple bH (z00 (pv 3) z02)))))),?_⟩
 have hgot:∀j,∀n∈D0 (log.take j) rd,1≤n/\n≤(rows.length:Int):=fun j n hn=>hin _ (dZ (z7X.mp hn))
 refine⟨(by show 1≤sizeLine;decide),fun t0 ht0=>?_⟩
 have s0:=z01 ht0 (.tup [V.int 0])
 have e0:upd H t0 (.tup [V.int 0]) t0=some (.tup [V.int 0]):=z03
 generalize upd H t0 (.tup [V.int 0])=H0 at s0 e0
 have bk0:=S7.same bk s0
 obtain⟨dx,g,zz,ww⟩:=S7.ins bk0
 refine(rdI rfl (ex3 x dx g ⟨rfl,zz,ww _ (by simp),(rdI rfl (ex9 x fp nm r k rows log rd (some 0) ⟨rfl,bk0,d1,d2,(fun d h=>by cases h;exact cW _),fun x1 f1 H1 fn1 s1 sh1=>?_⟩))⟩))
 refine(rdI rfl (ex7 x1 z f1 nm r rows _ ⟨rfl,sh1,hz,gn,R,l60,hgot 0,r0,r10,fun b y H2 s2 eb ty=>?_⟩))
 have ey:=y1E ty
 subst ey
 have eb':H2 b=some (.tup (z1t (D0 (log.take 0) rd) rows r z)):=eb
 refine(ex4 t0 b _ _ ⟨rfl,rfl,SqT.of ((s1.trans s2) _ _ e0),SqT.of eb',by simp,(by show 4≤sizeLine;decide),fun z=>(nomatch z),fun _ c hc=>?_⟩)
 have s3:=z01 hc (.tup ([V.int 0]++z1t (D0 (log.take 0) rd) rows r z))
 have e3:upd H2 c (.tup ([V.int 0]++z1t (D0 (log.take 0) rd) rows r z)) c=some (.tup (.int (0:Nat)::z1t (D0 (log.take 0) rd) rows r z)):=z03
 refine⟨(by show 1≤sizeLine;decide),fun l hl=>?_⟩
 have s4:=s3.trans (z01 hl (.lst [V.ref c]))
 have e4:=z01 hl (.lst [V.ref c]) _ _ e3
 have el:upd (upd H2 c (.tup ([V.int 0]++z1t (D0 (log.take 0) rd) rows r z))) l (.lst [V.ref c]) l=some (.lst [V.ref c]):=z03
 have nl:H l=none:=(s0.trans (s1.trans (s2.trans s3))).free hl
 generalize upd (upd H2 c (.tup ([V.int 0]++z1t (D0 (log.take 0) rd) rows r z))) l (.lst [V.ref c])=H4 at s4 e4 el
 have c4:B0 H H4:=s0.trans (s1.trans (s2.trans s4))
 clear sh1 bk0 zz ww eb eb' s3 e3 ty s4
 have bk4:=S7.same bk c4
 obtain⟨dx4,g4,zz4,ww4⟩:=S7.ins bk4
 refine(rdI rfl (ex3 x dx4 g4 ⟨rfl,zz4,ww4 _ (by simp),(ex7 x fp nm r k rows log ⟨rfl,bk4,(ex2 _ _ ⟨rfl,rfl,(ex2 1 _ ⟨rfl,⟨by decide,by decide,by lia,by lia⟩,?_⟩)⟩)⟩)⟩))
 refine z15 (lo:=1) (n:=((log.length:Int)+1-1).toNat) (fun i σ G=>∃(us:List V) (b:Addr) (m:Int) (o4 o5:Option V),B0 H G/\G l=some (.lst (us++[V.ref b]))/\G b=some (.tup (.int m::z1t (D0 (log.take i) rd) rows r z))/\z0a G (z62 (fun j=>D0 (log.take j) rd) rows r z i) (us++[V.ref b])/\
   σ=[some (.ref x),some (.int rd),some (.str z),some (.ref l),o4,o5]) ⟨[],c,0,_,_,c4,el,e4,.cons (y0Z e4) .nil,rfl⟩ (fun i σ G hi hp=>?_) (fun σ G hp=>?_)
 ·obtain⟨us,b,m,o4,o5,sG,elG,ebG,tG,rfl⟩:=hp
  have hil:i<log.length:=by lia
  have ei:1+(i:Int)=((i+1:Nat):Int):=by lia
  have lus:=tG.length
  have lst:=z7i (fun j=>D0 (log.take j) rd) rows r z i
  have bkG:=S7.same bk sG
  obtain⟨dxG,gG,zG,wG⟩:=S7.ins bkG
  refine(rdI rfl (ex3 x dxG gG ⟨rfl,zG,wG _ (by simp),(rdI rfl (rdI rfl ⟨x,fp,nm,r,k,rows,log,rd,some (i+1),by rw[ei];rfl,bkG,d1,d2,(fun d h=>by cases h;exact hil),fun x1 f1 G1 fn1 s1 sh1=>?_⟩))⟩))
  refine(rdI rfl (ex7 x1 z f1 nm r rows _ ⟨rfl,sh1,hz,gn,R,l60,hgot (i+1),r0,r10,fun b2 y G2 s2 eb2 ty=>?_⟩))
  have ey:=y1E ty
  subst ey
  have eb':G2 b2=some (.tup (z1t (D0 (log.take (i+1)) rd) rows r z)):=eb2
  have s12:=s1.trans s2
  refine(rdI rfl (rdI rfl (rdI rfl (ex4 l _ _ _ ⟨rfl,rfl,SqL.of (s12 _ _ elG),z5d _ _,(rdI rfl (ex2 b _ ⟨rfl,SqT.of (s12 _ _ ebG),?_,fun c2 hc2=>?_⟩))⟩))))
  ·intro h
   exact absurd (show HT.sIx 4 0 (some 1)=0 from h.1) (by decide)
  have w0k:K6 (V.int m::z1t (D0 (log.take i) rd) rows r z) (some 1) none=z1t (D0 (log.take i) rd) rows r z:=y0j (k:=1) (by show 1≤4;decide)
  rw[w0k]
  have s3:=s12.trans (z01 hc2 (.tup (z1t (D0 (log.take i) rd) rows r z)))
  refine(ex4 b2 c2 _ _ ⟨rfl,rfl,SqT.of (z01 hc2 _ _ _ eb'),SqT.of z03,z9v _ _ _ _,z9v _ _ _ _,(rdI rfl ?_)⟩)
  have eb3:=z01 hc2 (.tup (z1t (D0 (log.take i) rd) rows r z)) _ _ eb'
  generalize upd G2 c2 (.tup (z1t (D0 (log.take i) rd) rows r z))=G3 at s3 eb3
  by_cases c:z2p (z1t (D0 (log.take (i+1)) rd) rows r z) (z1t (D0 (log.take i) rd) rows r z)=true
  ·rw[c]
   refine B7 ⟨us,b,m,_,_,sG.trans s3,s3 _ _ elG,?_,?_,rfl⟩
   ·rw[y4Q c]
    exact s3 _ _ ebG
   ·unfold z62
    rw[if_pos c,cX]
    exact z0a.keep s3 _ _ tG
  ·rw[fA.mpr c]
   refine E8 (rdI rfl ⟨.inl ⟨rfl,_,SqL.of (s3 _ _ elG)⟩,(rdI rfl ⟨(by show 1≤sizeLine;decide),fun t5 ht5=>?_⟩)⟩)
   have s5:=z01 ht5 (.tup [V.int (1+(i:Int))])
   refine(rdI rfl (ex4 t5 b2 _ _ ⟨rfl,rfl,SqT.of z03,SqT.of (s5 _ _ eb3),by simp,(by show 4≤sizeLine;decide),fun z=>(nomatch z),fun _ c6 hc6=>?_⟩))
   have s6:=s3.trans (s5.trans (z01 hc6 (.tup ([V.int (1+(i:Int))]++z1t (D0 (log.take (i+1)) rd) rows r z))))
   have e6:upd (upd G3 t5 (.tup [V.int (1+(i:Int))])) c6 (.tup ([V.int (1+(i:Int))]++z1t (D0 (log.take (i+1)) rd) rows r z)) c6=some (.tup (.int (i+1:Nat)::z1t (D0 (log.take (i+1)) rd) rows r z)):=by
    rw[z03,<- ei]
    rfl
   generalize upd (upd G3 t5 (.tup [V.int (1+(i:Int))])) c6 (.tup ([V.int (1+(i:Int))]++z1t (D0 (log.take (i+1)) rd) rows r z))=G6 at s6 e6
   refine(ex3 l _ _ ⟨rfl,rfl,s6 _ _ elG,z0f (by lia),?_⟩)
   have ne6:c6≠l:=z4x e6 (s6 _ _ elG) (by intro z;cases z)
   refine⟨us++[V.ref b],c6,_,_,_,z2g (sG.trans s6) nl,z03,by rw[z0l ne6];exact e6,?_,rfl⟩
   unfold z62
   rw[if_neg c]
   exact z0a.over (s6 _ _ elG) y2c _ _ (z0a.snoc (z0a.keep s6 _ _ tG) (y0Z e6))
 ·obtain⟨us,b,m,o4,o5,sG,elG,ebG,tG,rfl⟩:=hp
  have en:((log.length:Int)+1-1).toNat=log.length:=by lia
  rw[en] at tG
  have lst:=z7i (fun j=>D0 (log.take j) rd) rows r z log.length
  refine(rdI rfl (ex2 l _ ⟨rfl,.inl ⟨SqL.of elG,fun t ht=>q _ _ (sG.trans (z01 ht _)) (z0s z03 (by lia) (z0a.keep (z01 ht _) _ _ tG))⟩⟩))
theorem y5U(o:Option (Int×Int)):(z9Z o).deep≤1:=by
 cases o with
 | none=>
  refine z1T fun d hd=>?_
  rcases bF.mp hd with rfl|hd
  ·exact z21 _ _
  ·rw[bC.mp hd]
   unfold DV.deep
   exact cW _
 | some p=>
  refine z1T fun d hd=>?_
  rcases bF.mp hd with rfl|hd
  ·exact z21 _ _
  ·rw[bC.mp hd]
   exact z21 _ _
noncomputable def z9Q(K:PySem.W.Frag)(Sh:ShP):Sp:=fun vs H Q _=>∃(x ln lk lg:Addr) (z:Str) (vh:V) (fp:List Addr) (nm:List Str) (r:Int) (rows:List Row) (had:List Int) (m:Nat) (kz gz:List V),vs=[.ref x,.ref ln,.str z,.ref lk,.ref lg,vh]/\
 Sh H x fp nm r (fun n=>z10 rows n r) had/\z∈nm/\E2 nm/\Rws nm rows/\rows.length≤60/\(∀n∈had,1≤n/\n≤rows.length)/\0≤r/\r≤10/\z3X had m/\
 SqL K H ln (nm.map V.str)/\H lk=some (.lst kz)/\z0a H ((z0O m (z08 had) rows r).map O2) kz/\H lg=some (.lst gz)/\z0a H (z3v (z08 had) rows r) gz/\B2 H (z9Z (z0y (z08 had) rows z)) vh/\∀H',B0 H H'->Q (.bl true) H'
theorem y1K(M:Bl mg)(F:Fun K "_law_name_told" "_law_name_told" z3p f fd){Sh:ShP}(O:∀{H H' p fp zs r iss had},Sh H p fp zs r iss had->B0 H H'->Sh H' p fp zs r iss had)(D1:Cal P w K mg base 5 "_law_same" z1E (z7D 5))
  (C9:Cal P w K mg base 2 "_law_state" z2L (z8q K)) (F9:Cal P w K mg base 1 "_law_again" z4n (y1z K)) (K9:Cal P w K mg base 1 "_law_course" z4R (y2F K)) (F4:Cal P w K mg base 1 "_law_in_course" z3l (y8A K))
  (C2:Cal P w K mg base 8 "held_for" z2T (z3d Sh)) (J9:Cal P w K mg base 8 "set_again" z5c (z6F Sh)) (C8:Cal P w K mg base 8 "state_of" z3q (z40 Sh)) (N4:Cal P w K mg base 8 "two_courses" z53 (y8G Sh)):B4 P w K mg base CX0 11 f fd z3g (z9Q K Sh):=by
 have nd:=z4u.nd
 refine F.ok z4u (fun vs H Q E h=>?_) (fun cdv A outer s H vs Q E hr h=>?_)
 ·obtain⟨x,ln,lk,lg,z,vh,fp,nm,r,rows,had,m,kz,gz,rfl,_⟩:=h
  rfl
 obtain⟨x,ln,lk,lg,z,vh,fp,nm,r,rows,had,m,kz,gz,rfl,sh,hz,gn,R,r60,N6,r0,r10,it,hN,eK,tK,eG,tG,tH,q⟩:=h
 refine⟨_,(z04 (z0o (i:=6) nd rfl (Or.inl rfl) (z0g C9 (rm hr) rfl (z00 (pv 4) (z00 (z0A z0w (pv 5) z06 (fun _ _=>rfl)) (z00 (pv 2) z02))))) (z04 (z0o (i:=7) nd rfl (Or.inl rfl) (z0g F9 (rm hr) rfl (z00 (pv 4) (z00 (z0A z0w (pv 5) z06 (fun _ _=>rfl)) (z00 (pv 2) z02))))) (z04 (z0C (z1V (z1N (z0g D1 (rm hr) rfl (z00 (z0U (z00 (z0g C2 (rm hr) rfl (z00 (pv 0) (z00 (pv 2) z02))) (z00 (z0g J9 (rm hr) rfl (z00 (pv 0) (z00 (pv 2) z02))) z02))) (z00 (z0U (z00 (pv 5) (z00 (pv 7) z02))) z02))))) (z05 (z0i z1I)) z0k) (z04 (z0C (z1V (z1N (z0g D1 (rm hr) rfl (z00 (z0g C8 (rm hr) rfl (z00 (pv 0) (z00 (pv 2) z02))) (z00 (pv 6) z02))))) (z05 (z0i z1I)) z0k) (z04 (z0o (i:=8) nd rfl (Or.inl rfl) (z0g N4 (rm hr) rfl (z00 (pv 0) (z00 (pv 2) z02)))) (z04 (z0C (z0c z79 (pv 6) z2A (z0m _)) (z05 (z0i (y4Y (z8p (pv 8))))) z0k) (z04 (z0C (PW.pt (z38 (z1V (z1N (z0b z0I rfl M.isinstance cC (z00 (pv 8) (z00 (z1F (v:=.ty "tuple") rfl M.tuple bH rfl) z02))))) (z24 (z0c z79 (z0b z09 rfl M.len bN (z00 (pv 8) z02)) z06 (z0m _))))) (z05 (z0i z1I)) z0k) (z04 (z0C (PW.pt (z38 (z1V (z1N (z0g K9 (rm hr) rfl (z00 (z0A z0w (pv 8) z06 (fun _ _=>rfl)) (z00 (pv 1) (z00 (pv 3) z02)))))) (z24 (z1V (z1N (z0g K9 (rm hr) rfl (z00 (z0A z0w (pv 8) z06 (fun _ _=>rfl)) (z00 (pv 1) (z00 (pv 3) z02))))))))) (z05 (z0i z1I)) z0k) (z05 (z0i (y6R (y6Y (z0g F4 (rm hr) rfl (z00 (z0A z0w (pv 8) z06 (fun _ _=>rfl)) (z00 (z0A z0w (pv 5) z06 (fun _ _=>rfl)) (z00 (pv 2) z02))))) (y6W (z0g F4 (rm hr) rfl (z00 (z0A z0w (pv 8) z06 (fun _ _=>rfl)) (z00 (z0A z0w (pv 5) z06 (fun _ _=>rfl)) (z00 (pv 2) z02)))))))))))))))),?_⟩
 obtain⟨ah,yh,rfl,eah,_⟩:=z3a tH
 refine(rdI rfl (rdI rfl (ex4 ah _ 0 _ ⟨rfl,rfl,SqT.of eah,rfl,(rdI rfl (ex7 lg gz (z08 had) rows r _ z ⟨rfl,SqL.of eG,tG,fun G1 g1=>?_⟩))⟩)))
 refine(rdI rfl (rdI rfl (ex4 ah _ 0 _ ⟨rfl,rfl,SqT.of (g1 _ _ eah),rfl,(rdI rfl (ex7 lg gz (z08 had) rows r _ z ⟨rfl,SqL.of (g1 _ _ eG),z0a.keep g1 _ _ tG,fun va G2 g2 ta=>?_⟩))⟩)))
 have c2:=g1.trans g2
 refine(rdI rfl (rdI rfl (ex7 x z fp nm r rows had ⟨rfl,O sh c2,hz,gn,R,fun v1 G3 g3 t1=>?_⟩)))
 have c3:=c2.trans g3
 refine(rdI rfl (rdI rfl (ex7 x z fp nm r rows had ⟨rfl,O sh c3,hz,gn,R,r60,N6,r0,r10,fun v2 G4 g4 t2=>?_⟩)))
 refine⟨le2,fun p1 hp1=>(rdI rfl (rdI rfl ⟨le2,fun p2 hp2=>?_⟩))⟩
 have sp1:=z01 hp1 (.tup [v1,v2])
 have sp2:=z01 hp2 (.tup [V.ref ah,va])
 have sp:=sp1.trans sp2
 have dst:∀d∈[z9Z (z0y (z08 had) rows z),y2r (z08 had) rows r (z0N (z0y (z08 had) rows z)) z],d.deep≤2:=fun d hd=>by
  rcases bF.mp hd with rfl|hd
  ·exact cM (y5U _) (by decide)
  ·rw[bC.mp hd]
   refine z1T fun d hd=>?_
   obtain⟨n,_,rfl⟩:=cS.mp hd
   refine z1T fun d hd=>?_
   rcases bF.mp hd with rfl|hd
   ·exact z21 _ _
   ·rw[bC.mp hd]
    exact z21 _ _
 refine(ex2 (.ref p1) (.ref p2) ⟨rfl,(z3V (.tup [z9Z (z0y (z08 had) rows z),y2r (z08 had) rows r (z0N (z0y (z08 had) rows z)) z]) _ _ (z0s (sp2 _ _ z03) (by show 2≤1000000;decide) (.cons (B2.keep (g4.trans sp) _ _ t1) (.cons (B2.keep sp _ _ t2) .nil))) (z0s z03 (by show 2≤1000000;decide) (.cons (B2.keep (c3.trans (g4.trans sp)) _ _ tH) (.cons (B2.keep (g3.trans (g4.trans sp)) _ _ ta) .nil)))).mono (cM (z1T dst) (by decide)),fun G5 g5=>(rdI rfl (B7 ?_))⟩)
 have c5:=c3.trans (g4.trans (sp.trans g5))
 refine(rdI rfl (rdI rfl (ex7 x z fp nm r rows had ⟨rfl,O sh c5,hz,gn,R,r60,N6,r0,r10,fun G6 g6=>?_⟩)))
 refine(rdI rfl (ex2 _ _ ⟨rfl,.inl ⟨rfl,rfl⟩,fun G7 g7=>(rdI rfl (B7 ?_))⟩))
 have c7:=c5.trans (g6.trans g7)
 refine(rdI rfl (rdI rfl (ex8 x z fp nm r rows had m ⟨rfl,O sh c7,hz,gn,R,r60,N6,r0,r10,it,fun hno G8 g8=>?_,fun hop d hd hdt v G8 g8 tv2=>?_⟩)))
 ·refine(rdI rfl ⟨rfl,(rdI rfl ?_)⟩)
  rw[decide_eq_false (fun e=>hno (V.str.inj e))]
  refine E8 (rdI rfl ?_)
  exact q _ (c7.trans g8)
 ·refine(rdI rfl ⟨rfl,(rdI rfl ?_)⟩)
  rw[decide_eq_true (congrArg V.str hop)]
  have c8:=c7.trans g8
  obtain⟨af,fs2,rfl,eaf,_,tf⟩:=z0d tv2
  obtain⟨y1,q1,rfl,t1',tf⟩:=z0e tf
  obtain⟨y2,q2,rfl,t2',tf⟩:=z0e tf
  have:=z0G tf
  subst this
  refine B7 (rdI rfl (ex4 _ _ _ _ ⟨rfl,.tup eaf,z48,(rdI rfl (B7 (rdI rfl (ex2 af _ ⟨rfl,.inr (SqT.of eaf),rfl,(rdI rfl (B7 ?_))⟩))))⟩))
  have h60:∀n∈had,1≤n/\n≤60:=fun n hn=>by have:=N6 n hn;lia
  have memr:∀n,n∈z08 had↔n∈had:=fun n=>z8P (fun _=>kI) h60 n
  have w0l:∀n∈z08 had,1≤n/\n≤60:=fun n hn=>h60 n ((memr n).mp hn)
  have itr:z3X (z08 had) m:=it.same memr
  have m60:m≤60:=by have:=it.le (k:=60) (by decide) fun x hx=>(h60 x hx).2;lia
  have hdr:=y2k h60 it hd
  have hb:=y0h m (z08 had) rows r
  have lim:∀{c:List (List Str)},z9c nm (z0O m (z08 had) rows r) c->∀zs∈c,zs.length≤100:=fun {c} h zs hz=>by
   obtain⟨j,hj,e⟩:=gH hz
   have hk:j<(z0O m (z08 had) rows r).length:=by rw[<- h.1];exact hj
   have:=(h.2 j _ zs (bD hk) (by rw[bD hj,e])).1.length_le
   have:=gn.hi
   lia
  have fb:=y0O R m (z08 had) r
  have fa:=y3i R (m:=m) (hs:=z08 had) (r:=r) hz (by lia) (by lia) hd
  obtain⟨n0,hn0,hn1⟩:=y1n hop
  have hdn:=hdt n0 hn0
  refine(rdI rfl (ex4 af _ 0 _ ⟨rfl,rfl,SqT.of eaf,rfl,(rdI rfl (rdI rfl (ex7 y1 ln lk _ nm _ kz ⟨rfl,t1',lim fb,c8.seq hN,gn.nd,gn.hi,SqL.of (c8 _ _ eK),z0a.keep c8 _ _ tK,by rw[z0Z];lia,fun _ G9 g9=>?_,fun hn=>absurd fb hn⟩)))⟩))
  have c9:=c8.trans g9
  refine(rdI rfl (B7 (rdI rfl (ex4 af _ 1 _ ⟨rfl,rfl,SqT.of (g9 _ _ eaf),rfl,(rdI rfl (rdI rfl (ex7 y2 ln lk _ nm _ kz ⟨rfl,B2.keep g9 _ _ t2',lim fa,c9.seq hN,gn.nd,gn.hi,SqL.of (c9 _ _ eK),z0a.keep c9 _ _ tK,by rw[z0Z];lia,fun _ GA gA=>?_,fun hn=>absurd fa hn⟩)))⟩))))
  have cA:=c9.trans gA
  have gAA:=g9.trans gA
  refine(rdI rfl (B7 ?_))
  have eafA:=gAA _ _ eaf
  have eahA:=cA _ _ eah
  refine(rdI rfl (ex4 af _ 0 _ ⟨rfl,rfl,SqT.of eafA,rfl,(rdI rfl (ex4 ah _ 0 _ ⟨rfl,rfl,SqT.of eahA,rfl,(rdI rfl (ex4 y1 _ _ z ⟨rfl,B2.keep gAA _ _ t1',by lia,fun hin=>absurd hin (y6o (z16 had) w0l itr (by rw[hop];decide)),fun _=>(rdI rfl (rdI rfl (E8 ?_)))⟩))⟩))⟩))
  refine(rdI rfl (ex4 af _ 1 _ ⟨rfl,rfl,SqT.of eafA,rfl,(rdI rfl (ex4 ah _ 0 _ ⟨rfl,rfl,SqT.of eahA,rfl,(rdI rfl (ex4 y2 _ _ z ⟨rfl,B2.keep gAA _ _ t2',by rw[y19 (by lia) (by lia)];lia,fun _=>q _ cA,fun hn=>absurd (y6k (by lia) (by lia) (by lia)) hn⟩))⟩))⟩))
theorem y31{m:Nat}{hs:List Int}{rows:List Row}{r:Int}(it:z3X hs m)(h60:∀x∈hs,1≤x/\x≤60):(z0O m hs rows r).countP (fun o=>o.isNone)=(z1d hs r).length:=by
 unfold z0O
 rw[List.countP_map,List.countP_eq_length_filter]
 congr 1
 refine z1P ((z1Q _ _).filter _) ?_ fun x=>?_
 ·have:z1d hs r=(z1g hs).filter fun n=>decide (z0J hs n r=0):=by
   unfold z1d R8
   rw[List.filter_map,eF]
   exact List.map_id _
  rw[this]
  exact(z2N _).filter _
 ·rw[cO,z4Q,z1i,z0X]
  show _/\(z1U hs rows r x).isNone=true↔_
  unfold z1U
  by_cases c:x∈hs\/z0J hs x r≠0
  ·rw[if_pos c]
   refine⟨fun h=>absurd h.2 bM,fun h=>?_⟩
   rcases c with c|c
   ·exact absurd c h.1.2.1
   ·exact absurd h.2 c
  ·rw[if_neg c]
   rw[not_or] at c
   refine⟨fun h=>⟨?_,Classical.not_not.mp c.2⟩,fun h=>⟨?_,rfl⟩⟩
   ·rcases it.1 with q|⟨_,q⟩
    ·have:=h60 _ q
     have:x≠(m:Int):=fun e=>c.1 (e ▸ q)
     exact⟨by lia,c.1,m,q,by lia⟩
    ·lia
   ·obtain⟨⟨h1,_,y,hy,h3⟩,_⟩:=h
    have:=it.2 y hy
    lia
theorem z8h{H:Hp}:∀{ks:List (Option (List Str))}{xs:List V},z0a H (ks.map O2) xs->xs.countP y0Y=ks.countP fun o=>o.isNone
 | [],xs,h=>by
  rw[z0G h]
  rfl
 | o::ks,xs,h=>by
  obtain⟨x,t,rfl,h1,h2⟩:=z0e h
  rw[fU,fU,z8h h2]
  cases o with
  | none=>
   have h1':B2 H .non x:=h1
   unfold B2 at h1'
   subst h1'
   rfl
  | some ws=>
   obtain⟨a,ys,rfl,_⟩:=z0d (show B2 H (.tup (ws.map DV.str)) x from h1)
   rfl
theorem z7U{l ms:List Int}(h1:l.Pairwise (· < ·))(h2:∀x∈l,1≤x/\x≤60)(e:∀x,x∈ms↔x∈l):z08 ms=l:=z1P (z16 _) h1 fun x=>z8P e h2 x
theorem y16{H:Hp}:∀(l:List Int),z0a H (l.map DV.int) (l.map V.int)
 | []=>.nil
 | i::l=>.cons (z0E i) (y16 l)
theorem y66(ns:List Int)(rows:List Row)(r:Int):(DV.tup (z3v ns rows r)).deep≤3:=z1T fun d hd=>by
 unfold z3v at hd
 obtain⟨n,_,rfl⟩:=cS.mp hd
 rw[y5u]
 refine z1T fun d hd=>?_
 rcases bF.mp hd with rfl|hd
 ·exact z21 _ _
 rcases bF.mp hd with rfl|hd
 ·exact z21 _ _
 rw[bC.mp hd]
 exact y5I _
noncomputable def z5u(hs:List Int)(r:Int)(rl rows:List Row):Prop:=(∀n∈hs,z0D rl n=z0D rows n)/\∀n,1≤n->(∃y∈hs,n<y)->z0J hs n r≠0->z0H (z0D rl n)=z0H (z0D rows n)
theorem y7U{hs:List Int}{n r:Int}(h:z0J hs n r≠0):∃y∈hs,n<y:=j0 fun c=>h (z56 fun y hy hl _=>c ⟨y,hy,hl⟩)
theorem z5u.gaps{hs:List Int}{r:Int}{rl rows:List Row}(h:z5u hs r rl rows):z3v hs rl r=z3v hs rows r:=by
 unfold z3v
 refine fE fun n hn=>?_
 obtain⟨⟨a,_⟩,_,y,hy,b⟩:=z0X.mp hn
 unfold R6
 by_cases c:z0J hs n r=0
 ·rw[if_pos c,if_pos c]
 ·rw[if_neg c,if_neg c,h.2 n a ⟨y,hy,b⟩ c]
theorem z7W{rl rows:List Row}{z:Str}:∀(ms:List Int),(∀n∈ms,z0D rl n=z0D rows n)->z0y ms rl z=z0y ms rows z:=by
 have go:∀(ms:List Int) (acc:Option (Int×Int)),(∀n∈ms,z0D rl n=z0D rows n)->ms.foldl (fun acc n=>match J2 (z0D rl n) z with|some v=>some (n,v)|none=>acc) acc=ms.foldl (fun acc n=>match J2 (z0D rows n) z with|some v=>some (n,v)|none=>acc) acc:=by
  intro ms
  induction ms with
  | nil=>intro acc _;rfl
  | cons n t ih=>
   intro acc h
   rw[dF,dF,h n cI]
   exact ih _ fun k hk=>h k (cG _ hk)
 exact fun ms h=>go ms none h
theorem z5u.known{hs:List Int}{r:Int}{rl rows:List Row}(h:z5u hs r rl rows)(m:Nat):z0O m hs rl r=z0O m hs rows r:=by
 unfold z0O
 refine fE fun n hn=>?_
 have hn:=z1i.mp hn
 unfold z1U
 by_cases c:n∈hs\/z0J hs n r≠0
 ·rw[if_pos c,if_pos c]
  rcases c with c|c
  ·rw[h.1 n c]
  ·rw[h.2 n hn.1 (y7U c) c]
 ·rw[if_neg c,if_neg c]
theorem z5u.again{hs:List Int}{r:Int}{rl rows:List Row}(h:z5u hs r rl rows)(num:Int)(z:Str):z51 hs rl r num z=z51 hs rows r num z:=by
 unfold z51
 refine List.filter_congr fun n hn=>?_
 obtain⟨⟨a,_⟩,_,y,hy,b⟩:=z0X.mp hn
 have:z2B hs rl r n=z2B hs rows r n:=by
  unfold z2B
  by_cases c:z0J hs n r=0
  ·rw[if_pos c,if_pos c]
  ·rw[if_neg c,if_neg c,h.2 n a ⟨y,hy,b⟩ c]
 rw[this]
theorem z5u.state{hs:List Int}{r:Int}{rl rows:List Row}(h:z5u hs r rl rows)(num:Int)(z:Str):z0P hs rl r num z=z0P hs rows r num z:=by
 unfold z0P
 rw[h.again]
theorem z5u.table{hs:List Int}{r:Int}{rl rows:List Row}(h:z5u hs r rl rows)(e:z08 hs=hs)(nm:List Str):z6u nm hs rl r=z6u nm hs rows r:=by
 unfold z6u
 congr 1
 refine fE fun z _=>?_
 unfold X4
 rw[e,z7W hs h.1,h.state]
noncomputable def y1f(K:PySem.W.Frag)(Sh:ShP):Sp:=fun vs H Q _=>∃(x ln lh lr:Addr) (fp:List Addr) (nm:List Str) (r:Int) (us:List V) (rl rows:List Row) (had hs:List Int),vs=[.ref x,.ref ln,.ref lh,.ref lr,.int r]/\
 Sh H x fp nm r (fun n=>z10 rows n r) had/\E2 nm/\Rws nm rows/\rows.length≤60/\(∀n∈had,1≤n/\n≤rows.length)/\0≤r/\r≤10/\H ln=some (.lst (nm.map V.str))/\H lh=some (.lst (hs.map V.int))/\hs.Pairwise (· < ·)/\(∀n,n∈had↔n∈hs)/\
 H lr=some (.lst us)/\z0a H (rl.map O9) us/\(∀n∈hs,n≤(rl.length:Int))/\(∀w∈rl,w.length≤12)/\z5u hs r rl rows/\∀H',B0 H H'->Q (.bl true) H'
theorem y2U(M:Bl mg)(F:Fun K "_law_all_told" "_law_all_told" z3C f fd){A0:Addr}{Sh:ShP}(OS:V2 A0 ["put","had","latest"] Sh)(D1:Cal P w K mg base 5 "_law_same" z1E (z7D 5))
  (E5:Cal P w K mg base 2 "_law_gaps" z41 (y2h K)) (O6:Cal P w K mg base 2 "_law_known" z5M (y2L K)) (J0:Cal P w K mg base 3 "_law_table" z4k (y1N K)) (C7:Cal P w K mg base 1 "_law_doubled" z2z z3o)
  (E4:Cal P w K mg base 1 "_law_held" z3T (y0t K)) (C9:Cal P w K mg base 2 "_law_state" z2L (z8q K)) (K5:Cal P w K mg base 11 "_law_name_told" z3g (z9Q K Sh)) (P9:Cal P w K mg base 3 "_law_plan" z6C (y6V K))
  (B3:D9 P w K mg base 7 A0 "had" z1l (z3c Sh)) (M9:D9 P w K mg base 7 A0 "latest" z4i (z9z Sh)) (J4:Cal P w K mg base 8 "gaps_of" z61 (z7Q Sh)) (P4:Cal P w K mg base 8 "knowledge" z6U (y6I Sh))
  (E7:Cal P w K mg base 8 "course_count" z39 (y1U Sh)) (P1:S3 P w K mg base 8 "send_for" z55 (z6y Sh) [V.non]):B4 P w K mg base CX0 12 f fd z3O (y1f K Sh):=by
 have nd:=z4I.nd
 refine F.ok z4I (fun vs H Q E h=>?_) (fun cdv A outer s H vs Q E hr h=>?_)
 ·obtain⟨x,ln,lh,lr,fp,nm,r,us,rl,rows,had,hs,rfl,_⟩:=h
  rfl
 obtain⟨x,ln,lh,lr,fp,nm,r,us,rl,rows,had,hs,rfl,sh,gn,R,r60,N6,r0,r10,eN,eH,rise,mem,eR,tR,hup,r12,ag,q⟩:=h
 refine⟨_,(z04 (z0o (i:=5) nd rfl (Or.inl rfl) (z0g E5 (rm hr) rfl (z00 (pv 2) (z00 (pv 3) (z00 (pv 4) z02))))) (z04 (z0o (i:=6) nd rfl (Or.inl rfl) (z0g O6 (rm hr) rfl (z00 (pv 2) (z00 (pv 3) (z00 (pv 4) z02))))) (z04 (z0C (z1V (z1N (z0g D1 (rm hr) rfl (z00 (z0U (z00 (z1C B3 (rm hr) (pv 0)) (z00 (z1C M9 (rm hr) (pv 0)) z02))) (z00 (z0U (z00 (z0t z0p rfl M.tuple bH (z00 (pv 2) z02)) (z00 (z0b (z3t rfl) rfl M.max dB (z00 (z0r z9p (pv 2) (z1m (z00 z06 z02))) z02)) z02))) z02))))) (z05 (z0i z1I)) z0k) (z04 (z0C (z1V (z1N (z0g D1 (rm hr) rfl (z00 (z0U (z00 (z0g J4 (rm hr) rfl (z00 (pv 0) z02)) (z00 (z0g P4 (rm hr) rfl (z00 (pv 0) z02)) z02))) (z00 (z0U (z00 (z0t z0p rfl M.tuple bH (z00 (pv 5) z02)) (z00 (z0g J0 (rm hr) rfl (z00 (pv 1) (z00 (pv 2) (z00 (pv 3) (z00 (pv 4) z02))))) z02))) z02))))) (z05 (z0i z1I)) z0k) (z04 (z0C (z1V (z1N (z0g D1 (rm hr) rfl (z00 (z0g E7 (rm hr) rfl (z00 (pv 0) z02)) (z00 (z0g C7 (rm hr) rfl (z00 (z0r z3P (z2Z bV PySem.F.slot_list_count PySem.F.type_list_count (y3W (eS (Nat.add_le_add_left (by decide:1≤64) _) hr.units)) (pv 6) (z00 z9F z02)) (z0b z09 rfl M.len bN (z00 (pv 1) z02))) z02)) z02))))) (z05 (z0i z1I)) z0k) (z04 (z0o (i:=7) nd rfl (Or.inl rfl) z06) (z04 (z0W bT rfl (z1k (pv 1)) (z0j (i:=8) nd rfl (Or.inl rfl)) (z04 (z0o (i:=9) nd rfl (Or.inl rfl) (z0g E4 (rm hr) rfl (z00 (pv 2) (z00 (pv 3) (z00 (pv 8) z02))))) (z04 (z0C (z1V (z1N (z0g K5 (rm hr) rfl (z00 (pv 0) (z00 (pv 1) (z00 (pv 8) (z00 (pv 6) (z00 (pv 5) (z00 (pv 9) z02))))))))) (z05 (z0i z1I)) z0k) (z05 (z0C (z0c z28 (z0g C9 (rm hr) rfl (z00 (pv 5) (z00 (z0A z0w (pv 9) z06 (fun _ _=>rfl)) (z00 (pv 8) z02)))) z2A (z0m _)) (z05 (z0o (i:=7) nd rfl (Or.inl rfl) (z0b (y4K rfl) rfl M.min fK (z00 (pv 7) (z00 (z0A z0w (pv 9) z06 (fun _ _=>rfl)) z02))))) z0k))))) (z05 (z0i (z0g P9 (rm hr) rfl (z00 (y7p P1 (rm hr) rfl (z00 (pv 0) z02)) (z00 (pv 2) (z00 (pv 4) (z00 (pv 7) z02)))))))))))))),?_⟩
 have n12:=gn.hi
 have Z6:∀n∈had,1≤n/\n≤60:=fun n hn=>by have:=N6 n hn;lia
 have h60:∀n∈hs,1≤n/\n≤60:=fun n hn=>Z6 n ((mem n).mpr hn)
 have e1:z08 had=hs:=z7U rise h60 mem
 have e2:z08 hs=hs:=z7U rise h60 fun _=>kI
 have hl60:hs.length≤60:=by rw[<- e2];exact z2e _
 have hnd:hs.Nodup:=rise.imp fun h=>jW h
 obtain⟨m,it⟩:=y79 hs h60
 have it':z3X had m:=it.same mem
 have m60:(m:Int)≤60:=it.le (by decide) fun x hx=>(h60 x hx).2
 refine(rdI rfl (rdI rfl (rdI rfl (ex6 lh lr hs us rl r ⟨rfl,eH,h60,by lia,hup,SqL.of eR,tR,r12,r0,fun lg gz H1 nlg s1 eG tG=>?_⟩))))
 rw[ag.gaps] at tG
 refine(rdI rfl (rdI rfl (rdI rfl (ex7 lh lr hs us rl r m ⟨rfl,s1 _ _ eH,h60,by lia,hup,SqL.of (s1 _ _ eR),z0a.keep s1 _ _ tR,r12,r0,it,fun lk kz H2 nlk s2 eK tK=>?_⟩))))
 rw[ag.known] at tK
 have s12:=s1.trans s2
 have eG2:=s2 _ _ eG
 have tG2:=z0a.keep s2 _ _ tG
 have sh2:=OS.same sh s12
 have eH2:=s12 _ _ eH
 have eN2:=s12 _ _ eN
 have eR2:=s12 _ _ eR
 have tR2:=z0a.keep s12 _ _ tR
 clear tR eR eN eH sh tG eG
 obtain⟨d3,g3,z3,w3⟩:=OS.ins sh2
 refine(rdI rfl (ex3 x d3 g3 ⟨rfl,z3,w3 _ (by simp),(ex6 x fp nm r _ _ ⟨rfl,sh2,fun lt G3 s3 e3=>?_⟩)⟩))
 rw[e1] at e3
 have sh3:=OS.same sh2 s3
 obtain⟨d4,g4,z4,w4⟩:=OS.ins sh3
 refine(rdI rfl (ex3 x d4 g4 ⟨rfl,z4,w4 _ (by simp),(ex6 x fp nm r _ _ ⟨rfl,sh3,fun G4 s4=>⟨(by show 2≤sizeLine;decide),fun t1 ht1=>?_⟩⟩)⟩))
 have s5:=z01 ht1 (.tup [V.ref lt,V.int (Q2 had)])
 have e5:upd G4 t1 (.tup [V.ref lt,V.int (Q2 had)]) t1=some (.tup [V.ref lt,V.int (Q2 had)]):=z03
 generalize upd G4 t1 (.tup [V.ref lt,V.int (Q2 had)])=G5 at s5 e5
 have c25:=s3.trans (s4.trans s5)
 have eo5:=c25 _ _ eH2
 refine(rdI rfl (ex2 lh _ ⟨rfl,.inl ⟨SqL.of eo5,fun t2 ht2=>(rdI rfl ⟨(by show 1≤sizeLine;decide),fun l0 hl0=>(ex4 lh l0 _ _ ⟨rfl,rfl,z01 hl0 _ _ _ (z01 ht2 _ _ _ eo5),z03,?_,fun lc hlc=>?_⟩)⟩)⟩⟩))
 ·rw[bA]
  exact dR (z0f (by show hs.length+1≤1000;lia))
 have s6:=(z01 ht2 (.tup (hs.map V.int))).trans ((z01 hl0 (.lst [V.int 0])).trans (z01 hlc (.lst (hs.map V.int++[V.int 0]))))
 have e6:upd (upd (upd G5 t2 (.tup (hs.map V.int))) l0 (.lst [V.int 0])) lc (.lst (hs.map V.int++[V.int 0])) t2=some (.tup (hs.map V.int)):=z01 hlc _ _ _ (z01 hl0 _ _ _ z03)
 have ec:upd (upd (upd G5 t2 (.tup (hs.map V.int))) l0 (.lst [V.int 0])) lc (.lst (hs.map V.int++[V.int 0])) lc=some (.lst ((hs++[0]).map V.int)):=by
  rw[z03,bG]
  rfl
 generalize upd (upd (upd G5 t2 (.tup (hs.map V.int))) l0 (.lst [V.int 0])) lc (.lst (hs.map V.int++[V.int 0]))=G6 at s6 e6 ec
 refine(ex2 lc (hs++[0]) ⟨rfl,.inl (SqL.of ec),by simp,fun mx hm top=>⟨(by show 2≤sizeLine;decide),fun t3 ht3=>?_⟩⟩)
 have em:mx=Q2 had:=by
  rcases cH.mp hm with h|h
  ·rw[<- e1] at h
   exact y2p h fun y hy=>top y (d7 _ (by rw[<- e1];exact hy))
  ·have h0:mx=0:=bC.mp h
   have none:hs=[]:=by
    cases e:hs with
    | nil=>rfl
    | cons y ys=>
     have hy:y∈hs:=by rw[e];exact cI
     have t1:=top y (d7 _ hy)
     have t2:=h60 y hy
     lia
   unfold Q2
   rw[e1,none,h0]
   rfl
 have tin:∀{X:Hp}{t:Addr},X t=some (.tup (hs.map V.int))->B2 X (.tup (hs.map DV.int)) (.ref t):=fun {X t} e=>z0s e (by rw[bA];lia) (y16 _)
 have s7:=z01 ht3 (.tup [V.ref t2,V.int mx])
 have T1:B2 (upd G6 t3 (.tup [V.ref t2,V.int mx])) (.tup [.tup (hs.map DV.int),.int (Q2 had)]) (.ref t1):=
  z0s (s7 _ _ (s6 _ _ e5)) (by show 2≤1000000;decide) (.cons (tin (s7 _ _ (s6 _ _ (s5 _ _ (s4 _ _ e3))))) (.cons (z0E _) .nil))
 have T2:B2 (upd G6 t3 (.tup [V.ref t2,V.int mx])) (.tup [.tup (hs.map DV.int),.int (Q2 had)]) (.ref t3):=
  z0s z03 (by show 2≤1000000;decide) (.cons (tin (s7 _ _ e6)) (.cons (by rw[em];exact z0E _) .nil))
 have dp:(DV.tup [.tup (hs.map DV.int),.int (Q2 had)]).deep≤2:=z1T fun d' hd'=>by
  rcases bF.mp hd' with rfl|hd'
  ·exact z1T fun d'' hd''=>by
    obtain⟨i,_,rfl⟩:=cS.mp hd''
    exact z21 _ _
  ·rw[bC.mp hd']
   exact z21 _ _
 refine(ex2 (.ref t1) (.ref t3) ⟨rfl,(z3V _ _ _ T1 T2).mono (cM dp (by decide)),fun G7 s8=>(rdI rfl (B7 ?_))⟩)
 have c7:=c25.trans (s6.trans (s7.trans s8))
 clear T1 T2 dp tin sh3 e6 ec e5 e3 s3 s4 s5 s6 s7 s8 c25 eo5 hm top em
 refine(rdI rfl (ex6 x fp nm r rows had ⟨rfl,OS.same sh2 c7,gn,R,r60,N6,r0,r10,fun v1 G8 g8 tv1=>?_⟩))
 have c8:=c7.trans g8
 refine(rdI rfl (ex6 x fp nm r rows had ⟨rfl,OS.same sh2 c8,gn,R,r60,N6,r0,r10,fun v2 G9 g9 tv2=>⟨le2,fun p1 hp1=>?_⟩⟩))
 rw[e1] at tv1 tv2
 have c9:=c8.trans g9
 have sp1:=z01 hp1 (.tup [v1,v2])
 have cA:=c9.trans sp1
 refine(rdI rfl (ex2 lg gz ⟨rfl,.inl ⟨SqL.of (cA _ _ eG2),fun p2 hp2=>?_⟩⟩))
 have sp2:=z01 hp2 (.tup gz)
 have cB:=cA.trans sp2
 refine(rdI rfl (rdI rfl (rdI rfl (rdI rfl (ex8 ln lh lr nm hs us rl r ⟨rfl,SqL.of (cB _ _ eN2),n12,cB _ _ eH2,by lia,hnd,h60,hup,SqL.of (cB _ _ eR2),z0a.keep cB _ _ tR2,r12,r0,fun v3 GC gC tv3=>⟨le2,fun p3 hp3=>?_⟩⟩)))))
 rw[ag.table e2] at tv3
 have sp3:=z01 hp3 (.tup [V.ref p2,v3])
 have lgz:(z3v hs rows r).length≤1000000:=by
  unfold z3v
  rw[bA]
  exact cM (z2v hs) (by decide)
 have dst:∀d∈[DV.tup (z3v hs rows r),z6u nm hs rows r],d.deep≤3:=fun d hd=>by
  rcases bF.mp hd with rfl|hd
  ·exact y66 _ _ _
  ·rw[bC.mp hd]
   exact cM (y3y _ _ _ _) (by decide)
 refine⟨.ref p1,.ref p3,rfl,(z3V (.tup [.tup (z3v hs rows r),z6u nm hs rows r]) _ _ (z0s (sp3 _ _ (gC _ _ (sp2 _ _ z03))) (by show 2≤1000000;decide) (.cons (B2.keep (g9.trans (sp1.trans (sp2.trans (gC.trans sp3)))) _ _ tv1) (.cons (B2.keep (sp1.trans (sp2.trans (gC.trans sp3))) _ _ tv2) .nil)))
  (z0s z03 (by show 2≤1000000;decide) (.cons (z0s (sp3 _ _ (gC _ _ z03)) lgz (z0a.keep (cB.trans (gC.trans sp3)) _ _ tG2)) (.cons (B2.keep sp3 _ _ tv3) .nil)))).mono (cM (z1T dst) (by decide)),fun GD gD=>⟨_,rfl,B7 ?_⟩⟩
 have cD:=cB.trans (gC.trans (sp3.trans gD))
 clear tv1 tv2 tv3 sp1 sp2 sp3 gC gD cB cA c9 c8 g8 g9 c7 hp1 hp2 hp3 dst
 refine(rdI rfl (ex6 x fp nm r _ had ⟨rfl,OS.same sh2 cD,Z6,fun GE gE=>?_⟩))
 have cE:=cD.trans gE
 rw[e1]
 have ck:kz.countP y0Y=(z1d hs r).length:=(z8h tK).trans (y31 it h60)
 have lm':(nm.map V.str).length=nm.length:=bA _
 have l60:=z3h hs r
 have lt:(z1d hs r).length*nm.length≤60*12:=k8 l60 n12
 have kin:∀y∈kz,y=.non\/∃a ys,y=.ref a/\SqT K GE a ys:=fun y hy=>by
  obtain⟨j,hj,e⟩:=gH hy
  obtain⟨d,ed,td⟩:=(z0a.keep cE _ _ tK).at j y (by rw[bD hj,e])
  rw[bE] at ed
  obtain⟨o,_,rfl⟩:=bY.mp ed
  cases o with
  | none=>
   have td':B2 GE .non y:=td
   unfold B2 at td'
   exact .inl td'
  | some ws=>
   obtain⟨a,ys,rfl,ea,_⟩:=z0d (show B2 GE (.tup (ws.map DV.str)) y from td)
   exact .inr (ex2 a ys ⟨rfl,SqT.of ea⟩)
 refine(rdI rfl ⟨.inl ⟨rfl,_,SqL.of (cE _ _ eK)⟩,(ex2 lk kz ⟨rfl,rfl,SqL.of (cE _ _ eK),kin,(rdI rfl ⟨ln,(rdI rfl ⟨.inl (SqL.of (cE _ _ eN2)),(ex2 _ _ ⟨rfl,rfl,?_,(rdI rfl ⟨?_,?_,?_⟩)⟩)⟩)⟩)⟩)⟩)
 ·rw[ck]
  exact .inl ⟨by lia,by lia⟩
 ·exact k9 (eV _) (eV _)
 ·rw[ck,lm',<- gQ]
  lia
 rw[ck,lm',<- gQ,eU]
 refine(ex2 _ _ ⟨rfl,.inl ⟨rfl,rfl⟩,fun GF gF=>(rdI rfl (B7 ?_))⟩)
 have cF:=cE.trans gF
 clear kin ck
 refine⟨_,rfl,ln,rfl,⟨_,SqL.of (cF _ _ eN2)⟩,z1R (K:=K) (a:=ln) (xs:=nm.map V.str) (fun i σ G=>∃o1 o2:Option V,B0 H2 G/\σ=[some (.ref x),some (.ref ln),some (.ref lh),some (.ref lr),some (.int r),some (.ref lg),some (.ref lk),some (.int (z94 (z5G hs rows r (nm.take i)))),o1,o2])
  ⟨none,none,cF,rfl⟩ (fun i σ G _ ⟨_,_,g,_⟩=>SqL.of (g _ _ eN2)) ?_ ?_⟩
 ·rintro i y σ G hi ⟨o1,o2,g,rfl⟩
  rw[bE] at hi
  obtain⟨z,hz,rfl⟩:=bY.mp hi
  have hzm:=bS hz
  refine(rdI rfl (rdI rfl (rdI rfl (ex6 lh lr hs us rl z ⟨rfl,SqL.of (g _ _ eH2),by lia,hnd,h60,hup,SqL.of (g _ _ eR2),z0a.keep g _ _ tR2,fun hv G1 g1 th=>?_⟩))))
  rw[e2,z7W hs ag.1] at th
  have c1:=g.trans g1
  refine(rdI rfl (rdI rfl (rdI rfl (rdI rfl (rdI rfl (rdI rfl (ex14 x ln lk lg z hv fp nm r rows had m kz gz ⟨rfl,OS.same sh2 c1,hzm,gn,R,r60,N6,r0,r10,it',SqL.of (c1 _ _ eN2),c1 _ _ eK,by rw[e1];exact z0a.keep c1 _ _ tK,c1 _ _ eG2,by rw[e1];exact z0a.keep c1 _ _ tG2,by rw[e1];exact th,fun G2 g2=>(rdI rfl (B7 ?_))⟩)))))))
  have c2:=c1.trans g2
  obtain⟨ah,yv,rfl,eh,_⟩:=z3a th
  refine(rdI rfl (rdI rfl (ex4 ah _ 0 _ ⟨rfl,rfl,SqT.of (g2 _ _ eh),rfl,(rdI rfl (ex7 lg gz hs rows r _ z ⟨rfl,SqL.of (c2 _ _ eG2),z0a.keep c2 _ _ tG2,fun G3 g3=>⟨rfl,(rdI rfl ?_)⟩⟩))⟩)))
  have c3:=c2.trans g3
  rw[z0n hz,z9P]
  refine B9 (fun c=>?_) (fun c=>?_)
  ·have c':z0P hs rows r (z0N (z0y hs rows z)) z="open":=V.str.inj (z0K c)
   rw[if_pos c',y1o]
   exact(rdI rfl (rdI rfl (ex4 ah _ 0 _ ⟨rfl,rfl,SqT.of (g3 _ _ (g2 _ _ eh)),rfl,(ex2 _ _ ⟨rfl,_,_,c3,rfl⟩)⟩)))
  ·have c':¬z0P hs rows r (z0N (z0y hs rows z)) z="open":=fun e=>c (decide_eq_true (congrArg V.str e))
   rw[if_neg c',cX]
   exact⟨_,_,c3,rfl⟩
 ·rintro σ G ⟨o1,o2,g,rfl⟩
  rw[bA,bR]
  refine(rdI rfl (ex7 x none fp nm r rows had ⟨rfl,OS.same sh2 g,fun y hy=>hy,gn,R,r60,N6,r0,r10,fun v G5 g5 p5=>?_⟩))
  rw[e1] at p5
  exact(rdI rfl (rdI rfl (rdI rfl (ex5 v lh hs r _ ⟨rfl,p5,g5 _ _ (g _ _ eH2),h60,by lia,r0,fun G6 g6=>q _ (s12.trans (g.trans (g5.trans g6)))⟩))))
theorem w13{hs:List Int}{m:Nat}(it:z3X hs m)(h60:∀x∈hs,1≤x/\x≤60){mx:Int}(hmx:mx∈hs++[0])(top:∀y∈hs++[0],y≤mx):mx=(m:Int):=y78 it h60 hmx top
theorem y5D{nm:List Str}{rows:List Row}(R:Rws nm rows){m:Nat}{hs:List Int}{r:Int}(hm:m≤rows.length):z9c nm (z0O m hs rows r) ((rows.take m).map z0H):=by
 refine⟨by rw[z0Z,bA,bI];lia,fun i o zs h1 h2=>?_⟩
 obtain⟨hi,eo⟩:=z6A h1
 rw[bE,eQ hi] at h2
 have e:rows[i]? = some (z0D rows (1+(i:Int))):=by
  have:i<rows.length:=by lia
  unfold z0D
  rw[show(1+(i:Int)-1).toNat=i by lia,bP,bD this]
  rfl
 rw[e] at h2
 cases h2
 refine⟨y1p R _,fun ws h=>?_⟩
 rw[h] at eo
 exact(z4c eo.symm).1.symm
noncomputable def y14(K:PySem.W.Frag)(Sh:ShP):Sp:=fun vs H Q _=>∃(x ln lh lr:Addr) (fp:List Addr) (nm:List Str) (r:Int) (us:List V) (rl rows:List Row) (had hs:List Int),vs=[.ref x,.ref ln,.ref lh,.ref lr,.int r]/\
 Sh H x fp nm r (fun n=>z10 rows n r) had/\E2 nm/\Rws nm rows/\rows.length≤60/\(∀n∈had,1≤n/\n≤rows.length)/\0≤r/\r≤10/\H ln=some (.lst (nm.map V.str))/\H lh=some (.lst (hs.map V.int))/\hs.Pairwise (· < ·)/\(∀n,n∈had↔n∈hs)/\
 H lr=some (.lst us)/\z0a H (rl.map O9) us/\(∀n∈hs,n≤(rl.length:Int))/\Rws nm rl/\z5u hs r rl rows/\∀H',B0 H H'->Q (.bl true) H'
theorem y2Z(M:Bl mg)(F:Fun K "_law_counted" "_law_counted" z4m f fd){A0:Addr}{Sh:ShP}(OS:V2 A0 ["put","had","latest"] Sh)(D1:Cal P w K mg base 5 "_law_same" z1E (z7D 5))
  (E5:Cal P w K mg base 2 "_law_gaps" z41 (y2h K)) (F7:Cal P w K mg base 2 "_law_dark" z59 (y1L K)) (C7:Cal P w K mg base 1 "_law_doubled" z2z z3o)
  (E4:Cal P w K mg base 1 "_law_held" z3T (y0t K)) (C9:Cal P w K mg base 2 "_law_state" z2L (z8q K))
  (N3:Cal P w K mg base 8 "again_count" z4O (y2w Sh)) (Y2:Cal P w K mg base 8 "fits" y7Z (y7b Sh)):B4 P w K mg base CX0 12 f fd z4j (y14 K Sh):=by
 have nd:=z5q.nd
 refine F.ok z5q (fun vs H Q E h=>?_) (fun cdv A outer s H vs Q E hr h=>?_)
 ·obtain⟨x,ln,lh,lr,fp,nm,r,us,rl,rows,had,hs,rfl,_⟩:=h
  rfl
 obtain⟨x,ln,lh,lr,fp,nm,r,us,rl,rows,had,hs,rfl,sh,gn,R,r60,N6,r0,r10,eN,eH,rise,mem,eR,tR,hup,RL,ag,q⟩:=h
 refine⟨_,(z04 (z0o (i:=5) nd rfl (Or.inl rfl) (z0g E5 (rm hr) rfl (z00 (pv 2) (z00 (pv 3) (z00 (pv 4) z02))))) (z04 (z0W bT rfl (z1k (pv 1)) (z0j (i:=6) nd rfl (Or.inl rfl)) (z04 (z0o (i:=7) nd rfl (Or.inr rfl) (z0A z0w (z0g E4 (rm hr) rfl (z00 (pv 2) (z00 (pv 3) (z00 (pv 6) z02)))) z06 (fun _ _=>rfl))) (z04 (z0o (i:=8) nd rfl (Or.inl rfl) (z0g C7 (rm hr) rfl (z00 (z0r z3P (z0b z09 rfl M.len bN (z00 (z0g F7 (rm hr) rfl (z00 (pv 2) (z00 (pv 4) z02))) z02)) (z0b z09 rfl M.len bN (z00 (pv 1) z02))) z02))) (z04 (z4g (i:=9) ["_law_dark_here"] ["_law_number"] [7] rfl nd rfl (Or.inl rfl) (z0v rfl (by decide +kernel) rfl (by decide +kernel) rfl rfl) (z1k (z0g F7 (rm hr) rfl (z00 (pv 2) (z00 (pv 4) z02)))) (fun _ _ _ _ _=>(z0j (i:=0) (show((["_law_dark_here"]:List PySem.Str)++(["_law_number"]:List PySem.Str)).Nodup from by decide +kernel) rfl (Or.inl rfl))) (z0x (by decide)) z0h (fun _ _ _ _ _=>(z2i (z0c z2o (pv 0) (pv 1) (z0m _)))) (fun _ _ _ _ _=>(pv 0))) (z04 (z0o (i:=10) nd rfl (Or.inl rfl) (z0r z25 (pv 8) (z0r y2y (pv 8) (z0g C7 (rm hr) rfl (z00 (z0b z09 rfl M.len bN (z00 (pv 9) z02)) z02))))) (z04 (z0C (z0c z28 (z0g C9 (rm hr) rfl (z00 (pv 5) (z00 (pv 7) (z00 (pv 6) z02)))) z2A (z0m _)) (z05 (z0o (i:=10) nd rfl (Or.inl rfl) (pv 8))) z0k) (z05 (z0C (z1V (z1N (z0g D1 (rm hr) rfl (z00 (z0g N3 (rm hr) rfl (z00 (pv 0) (z00 (pv 6) z02))) (z00 (pv 10) z02))))) (z05 (z0i z1I)) z0k)))))))) (z04 (z0o (i:=11) nd rfl (Or.inl rfl) (z0t z0p rfl M.tuple bH (z00 (z1c ["_law_one"] [] [] rfl (z0v rfl (by decide +kernel) rfl (by decide +kernel) rfl rfl) (z1k (z1O z9a (pv 3) z2r (z2s (z0b (z3t rfl) rfl M.max dB (z00 (z0r z9p (pv 2) (z1m (z00 z06 z02))) z02))))) (fun _ _ _ _ _=>(z0j (i:=0) (show((["_law_one"]:List PySem.Str)++([]:List PySem.Str)).Nodup from by decide +kernel) rfl (Or.inl rfl))) (z0x (by decide)) z0h (fun _ _ _ _ _=>z1W) (fun _ _ _ _ _=>(z0t (z5i (K:=K) rfl) rfl M.tuple bH (z00 (z1c ["_law_row_here"] [] [] rfl (z0v rfl (by decide +kernel) rfl (by decide +kernel) rfl rfl) (y7i (K:=K) rfl (pv 0)) (fun _ _ _ _ _=>(z0j (i:=0) (show((["_law_row_here"]:List PySem.Str)++([]:List PySem.Str)).Nodup from by decide +kernel) rfl (Or.inl rfl))) (z0x (by decide)) z0h (fun _ _ _ _ _=>z1W) (fun _ _ _ _ _=>(z0A (r:=Q6 K) z0w (pv 0) z06 (fun _ _=>rfl)))) z02)))) z02))) (z05 (z0i (z0g D1 (rm hr) rfl (z00 (z0g Y2 (rm hr) rfl (z00 (pv 0) (z00 (pv 11) z02))) (z00 z1I z02)))))))),?_⟩
 have n12:=gn.hi
 have n1:=gn.lo
 have r12:=y6G RL n12
 have Z6:∀n∈had,1≤n/\n≤60:=fun n hn=>by have:=N6 n hn;lia
 have h60:∀n∈hs,1≤n/\n≤60:=fun n hn=>Z6 n ((mem n).mpr hn)
 have e1:z08 had=hs:=z7U rise h60 mem
 have e2:z08 hs=hs:=z7U rise h60 fun _=>kI
 have hl60:hs.length≤60:=by rw[<- e2];exact z2e _
 have hnd:hs.Nodup:=rise.imp fun h=>jW h
 obtain⟨m,it⟩:=y79 hs h60
 have it':z3X had m:=it.same mem
 have m60:(m:Int)≤60:=it.le (by decide) fun x hx=>(h60 x hx).2
 have mle:m≤rl.length:=by have:=it.le (k:=(rl.length:Int)) (by lia) hup;lia
 have lus:us.length=rl.length:=by rw[tR.length,bA]
 refine(rdI rfl (rdI rfl (rdI rfl (ex6 lh lr hs us rl r ⟨rfl,eH,h60,by lia,hup,SqL.of eR,tR,r12,r0,fun lg gz H1 nlg s1 eG tG=>?_⟩))))
 rw[ag.gaps] at tG
 have lm':(nm.map V.str).length=nm.length:=bA _
 have l60:=z3h hs r
 have lt:(z1d hs r).length*nm.length≤60*12:=k8 l60 n12
 have ld':((z1d hs r).map V.int).length=(z1d hs r).length:=bA _
 refine⟨_,rfl,ln,rfl,⟨_,SqL.of (s1 _ _ eN)⟩,z1R (K:=K) (a:=ln) (xs:=nm.map V.str) (fun i σ G=>∃o6 o7 o8 o9 o10:Option V,B0 H1 G/\σ=[some (.ref x),some (.ref ln),some (.ref lh),some (.ref lr),some (.int r),some (.ref lg),o6,o7,o8,o9,o10,none])
  ⟨none,none,none,none,none,B0.refl _,rfl⟩ (fun i σ G _ ⟨_,_,_,_,_,g,_⟩=>SqL.of (g _ _ (s1 _ _ eN))) ?_ ?_⟩
 ·rintro i y σ G hi ⟨o6,o7,o8,o9,o10,g,rfl⟩
  rw[bE] at hi
  obtain⟨z,hz,rfl⟩:=bY.mp hi
  have hzm:=bS hz
  have g0:=s1.trans g
  refine(rdI rfl (rdI rfl (rdI rfl (ex6 lh lr hs us rl z ⟨rfl,SqL.of (g0 _ _ eH),by lia,hnd,h60,hup,SqL.of (g0 _ _ eR),z0a.keep g0 _ _ tR,fun hv G1 g1 th=>?_⟩))))
  rw[e2,z7W hs ag.1] at th
  obtain⟨ah,yv,rfl,eh,_⟩:=z3a th
  refine(ex4 ah _ 0 _ ⟨rfl,rfl,SqT.of eh,rfl,?_⟩)
  have c1:=g0.trans g1
  refine(rdI rfl (rdI rfl (ex3 lh hs r ⟨rfl,c1 _ _ eH,h60,by lia,r0,fun ld G2 nld g2 eD=>?_⟩)))
  have c2:=c1.trans g2
  refine(ex2 ld _ ⟨rfl,.inl (SqL.of eD),(rdI rfl ⟨ln,(rdI rfl ⟨.inl (SqL.of (c2 _ _ eN)),(ex2 _ _ ⟨rfl,rfl,.inl ⟨by lia,by lia⟩,(rdI rfl ⟨?_,?_,?_⟩)⟩)⟩)⟩)⟩)
  ·exact k9 (eV _) (eV _)
  ·rw[ld',lm',<- gQ]
   lia
  rw[ld',lm',<- gQ,eU]
  refine(rdI rfl (rdI rfl (ex3 lh hs r ⟨rfl,c2 _ _ eH,h60,by lia,r0,fun le G3 nle g3 eE=>⟨le,rfl,⟨_,SqL.of eE⟩,?_⟩⟩)))
  refine z68 (ns:=z1d hs r) (fun y=>decide (z0N (z0y hs rows z)<y)) (fun y=>.int y) (SqL.of eE) (by lia) (fun y ys N hy hN=>?_) (fun D hD=>?_)
  ·refine(rdI rfl (rdI rfl (ex2 _ _ ⟨rfl,rfl,(rdI rfl ?_)⟩)))
   refine B9 (fun c=>?_) (fun c=>?_)
   ·rw[if_pos c] at hN
    exact(rdI rfl hN)
   ·rw[if_neg c] at hN
    exact hN
  have eB:upd G3 D (.lst (z2a (fun y=>decide (z0N (z0y hs rows z)<y)) (fun y=>V.int y) (z1d hs r))) D=some (.lst ((z0R hs r (z0N (z0y hs rows z))).map V.int)):=z03
  have sB:=z01 hD (.lst (z2a (fun y=>decide (z0N (z0y hs rows z)<y)) (fun y=>V.int y) (z1d hs r)))
  generalize upd G3 D (.lst (z2a (fun y=>decide (z0N (z0y hs rows z)<y)) (fun y=>V.int y) (z1d hs r)))=G4 at eB sB
  have c4:=c2.trans (g3.trans sB)
  have lb:(z0R hs r (z0N (z0y hs rows z))).length≤(z1d hs r).length:=cJ _ _
  have lb':((z0R hs r (z0N (z0y hs rows z))).map V.int).length=(z0R hs r (z0N (z0y hs rows z))).length:=bA _
  have le:(z0R hs r (z0N (z0y hs rows z))).length≤(z1d hs r).length*nm.length:=cM lb (Nat.le_mul_of_pos_right _ n1)
  refine(rdI rfl (rdI rfl (rdI rfl (ex2 D _ ⟨rfl,.inl (SqL.of eB),(rdI rfl ⟨by lia,by lia,?_⟩)⟩))))
  rw[lb',eU]
  have p0:(0:Int)<2^(z0R hs r (z0N (z0y hs rows z))).length:=Int.pow_pos (by decide)
  have p1:(2:Int)^(z0R hs r (z0N (z0y hs rows z))).length≤2^60:=y5k (by lia)
  refine(ex2 _ _ ⟨rfl,rfl,⟨p0,by lia⟩,(ex2 _ _ ⟨rfl,rfl,?_⟩)⟩)
  rw[y3Y _ _ le]
  have gg:=g.trans (g1.trans (g2.trans (g3.trans sB)))
  refine(rdI rfl (rdI rfl (rdI rfl (ex7 lg gz hs rows r _ z ⟨rfl,SqL.of (gg _ _ eG),z0a.keep gg _ _ tG,fun G5 g5=>⟨rfl,(rdI rfl ?_)⟩⟩))))
  have c5:=c4.trans g5
  refine B9 (fun c=>?_) (fun c=>?_)
  ·have c':z0P hs rows r (z0N (z0y hs rows z)) z="stale":=V.str.inj (z0K c)
   refine(rdI rfl (rdI rfl (rdI rfl (ex7 x z fp nm r rows had ⟨rfl,OS.same sh c5,hzm,gn,R,r60,N6,r0,r10,fun G6 g6=>?_⟩))))
   unfold agC
   rw[e1,if_pos c']
   exact(rdI rfl (ex2 _ _ ⟨rfl,.inl ⟨rfl,rfl⟩,fun G7 g7=>(rdI rfl (B7 ⟨_,_,_,_,_,gg.trans (g5.trans (g6.trans g7)),rfl⟩))⟩))
  ·have c':¬z0P hs rows r (z0N (z0y hs rows z)) z="stale":=fun e=>c (decide_eq_true (congrArg V.str e))
   refine(rdI rfl (rdI rfl (ex7 x z fp nm r rows had ⟨rfl,OS.same sh c5,hzm,gn,R,r60,N6,r0,r10,fun G6 g6=>?_⟩)))
   unfold agC
   rw[e1,if_neg c']
   exact(rdI rfl (ex2 _ _ ⟨rfl,.inl ⟨rfl,rfl⟩,fun G7 g7=>(rdI rfl (B7 ⟨_,_,_,_,_,gg.trans (g5.trans (g6.trans g7)),rfl⟩))⟩))
 ·rintro σ G ⟨o6,o7,o8,o9,o10,g,rfl⟩
  have c0:=s1.trans g
  refine(rdI rfl (rdI rfl ⟨(by show 1≤sizeLine;decide),fun l0 hl0=>(ex4 lh l0 _ _ ⟨rfl,rfl,z01 hl0 _ _ _ (c0 _ _ eH),z03,?_,fun lc hlc=>?_⟩)⟩))
  ·rw[bA]
   exact dR (z0f (by show hs.length+1≤1000;lia))
  have sX:=(z01 hl0 (.lst [V.int 0])).trans (z01 hlc (.lst (hs.map V.int++[V.int 0])))
  have ex:upd (upd G l0 (.lst [V.int 0])) lc (.lst (hs.map V.int++[V.int 0])) lc=some (.lst ((hs++[0]).map V.int)):=by
   rw[z03,bG]
   rfl
  generalize upd (upd G l0 (.lst [V.int 0])) lc (.lst (hs.map V.int++[V.int 0]))=G1 at sX ex
  refine(ex2 lc (hs++[0]) ⟨rfl,.inl (SqL.of ex),by simp,fun mx hmx top=>?_⟩)
  have:=w13 it h60 hmx top
  subst this
  have c1:=c0.trans sX
  refine(rdI rfl (ex2 lr us ⟨rfl,SqL.of (c1 _ _ eR),fun lq hlq=>?_⟩))
  rw[y02 (by lia)]
  have sq:=z01 hlq (.lst (us.take m))
  have eq:upd G1 lq (.lst (us.take m)) lq=some (.lst (us.take m)):=z03
  generalize upd G1 lq (.lst (us.take m))=G3 at sq eq
  have c3:=c1.trans sq
  have tC3:=z0a.keep c3 _ _ tR
  have lt:(us.take m).length=m:=by rw[bI];lia
  refine⟨lq,rfl,⟨_,SqL.of eq⟩,?_⟩
  refine z3k (xs:=us.take m) (fun i ys G=>B0 G3 G/\z0a G ((((rl.take m).map z0H).take i).map L7) ys) ⟨B0.refl _,.nil⟩ (fun i ys G hi hp=>?_) (fun i u ys G hu hp=>?_) (fun ys G4 hp=>?_)
  ·obtain⟨gG,th⟩:=hp
   have:=th.length
   rw[bA,bI] at this
   exact⟨SqL.of (gG _ _ eq),z0f (by lia)⟩
  ·obtain⟨gG,th⟩:=hp
   have hi:i<m:=by
    have:=(bX.mp hu).1
    lia
   rw[eQ hi] at hu
   obtain⟨d,ed,td⟩:=(z0a.keep gG _ _ tC3).at i u hu
   rw[bE] at ed
   obtain⟨wr,ew,rfl⟩:=bY.mp ed
   have hw:=bS ew
   obtain⟨ar,xs,rfl,er,_,tp⟩:=z0d td
   have lx:xs.length=wr.length:=by rw[tp.length,bA]
   have w12:=r12 wr hw
   refine(rdI rfl ⟨ar,rfl,⟨_,SqT.of er⟩,?_⟩)
   refine z1A (xs:=xs) (fun j ys2 H2=>H2=G/\ys2=((z0H wr).take j).map V.str) ⟨rfl,rfl⟩ (fun j ys2 H2 hj hp=>?_) (fun j y2 ys2 H2 hy hp=>?_) (fun ys2 H2 hp=>?_)
   ·obtain⟨rfl,rfl⟩:=hp
    refine⟨SqT.of er,z0f ?_⟩
    rw[bA,bI]
    lia
   ·obtain⟨rfl,rfl⟩:=hp
    obtain⟨pq,b,e1',rfl,e2'⟩:=z2J tp j y2 hy
    refine(rdI rfl (ex4 b _ 0 _ ⟨rfl,rfl,SqT.of e2',rfl,rfl,?_⟩))
    have e3:(z0H wr)[j]? = some pq.1:=by
     unfold z0H
     rw[bE,e1']
     rfl
    rw[z0n e3,bG]
    rfl
   obtain⟨rfl,rfl⟩:=hp
   have ll:(z0H wr).take xs.length=z0H wr:=cP (by unfold z0H;rw[bA];lia)
   rw[ll]
   intro D hD
   refine(ex2 D _ ⟨rfl,.inl ⟨SqL.of z03,fun t ht=>?_⟩⟩)
   have sT:=(z01 hD (.lst ((z0H wr).map V.str))).trans (z01 ht (.tup ((z0H wr).map V.str)))
   have lw:(z0H wr).length≤12:=by
    unfold z0H
    rw[bA]
    exact w12
   have eT:upd (upd H2 D (.lst ((z0H wr).map V.str))) t (.tup ((z0H wr).map V.str)) t=some (.tup ((z0H wr).map V.str)):=z03
   generalize upd (upd H2 D (.lst ((z0H wr).map V.str))) t (.tup ((z0H wr).map V.str))=H5 at sT eT
   refine⟨gG.trans sT,?_⟩
   have e4:((rl.take m).map z0H)[i]? = some (z0H wr):=by
    rw[bE,eQ hi,ew]
    rfl
   rw[z0n e4,bG]
   exact(z0a.keep sT _ _ th).snoc (z0s eT (by rw[bA];lia) (z2n _))
  obtain⟨gG,th⟩:=hp
  rw[lt,cP (by rw[bA,bI];lia)] at th
  intro D hD
  refine(ex2 D _ ⟨rfl,.inl ⟨SqL.of z03,fun t ht=>?_⟩⟩)
  have sT:=(z01 hD (.lst ys)).trans (z01 ht (.tup ys))
  have eT:upd (upd G4 D (.lst ys)) t (.tup ys) t=some (.tup ys):=z03
  generalize upd (upd G4 D (.lst ys)) t (.tup ys)=G5 at sT eT
  have c5:=c3.trans (gG.trans sT)
  refine(rdI rfl (rdI rfl (ex9 x (.ref t) fp nm r rows had m ((rl.take m).map z0H) ⟨rfl,OS.same sh c5,gn,R,r60,N6,r0,r10,it',z0s eT (by rw[bA,bA,bI];lia) (z0a.keep sT _ _ th),fun _ G6 g6=>?_,fun hn=>?_⟩)))
  ·exact(ex2 _ _ ⟨rfl,.inl ⟨rfl,rfl⟩,fun G7 g7=>q _ (c5.trans (g6.trans g7))⟩)
  ·rw[e1,<- ag.known] at hn
   exact absurd (y5D RL mle) hn
theorem y2Q{k:Int}{log:List C0}(lk:z4E k log)(m:Nat):z4E k (log.take m):=fun i d e=>by
 by_cases c:i<m
 ·rw[eQ c] at e
  rw[List.take_take,hW (by lia)]
  exact lk i d e
 ·rw[List.getElem?_take_eq_none (by lia)] at e
  cases e
theorem y7X(xs:List V)(k:Nat):K6 xs none (some (k:Int))=xs.take k:=by
 by_cases h:k≤xs.length
 ·exact y02 h
 ·unfold K6
  have e1:HT.sIx xs.length 0 none=0:=rfl
  have e2:HT.sIx xs.length xs.length (some (k:Int))=xs.length:=by rw[HT.z6K,Nat.min_eq_right (by lia)]
  rw[e1,e2,fH,gY,bR,cP (by lia)]
theorem z9t{hs:List Int}{r:Int}{rows:List Row}{w:Nat}(h:∀n∈hs,1≤n/\n≤(w:Int)):z5u hs r rows (rows.take w):=
 ⟨fun n hn=>(z58 (h n hn).1 (h n hn).2).symm,fun n h1 ⟨y,hy,h2⟩ _=>by rw[z58 h1 (by have:=(h y hy).2;lia)]⟩
theorem y33{had:List Int}{r:Int}{rl rows:List Row}(h:z5u (z08 had) r rl rows)(z:Str):z1t had rl r z=z1t had rows r z:=by
 unfold z1t
 rw[z7W _ h.1,h.state]
theorem z9C{t:Nat->List Int}{rows:List Row}{r:Int}{z:Str}:∀n,∃(ds:List DV) (j:Nat) (hd:List Int),z62 t rows r z n=ds++[y5Q j hd rows r z]/\z1t hd rows r z=z1t (t n) rows r z
 | 0=>⟨[],0,t 0,rfl,rfl⟩
 | n+1=>by
  unfold z62
  by_cases c:z2p (z1t (t (n+1)) rows r z) (z1t (t n) rows r z)=true
  ·rw[if_pos c,cX]
   obtain⟨ds,j,hd,h1,h2⟩:=z9C n
   exact⟨ds,j,hd,h1,h2.trans (y4Q c).symm⟩
  ·rw[if_neg c]
   exact(ex3 _ (n+1) _ ⟨rfl,rfl⟩)
theorem z5s{H:Hp}{ds:List DV}{d:DV}{xs:List V}(h:z0a H (ds++[d]) xs):∃ys y,xs=ys++[y]/\B2 H d y:=by
 have l:=h.length
 rw[bL,dH] at l
 have hne:xs≠[]:=fun e=>by rw[e] at l;simp at l
 obtain⟨ys,y,rfl⟩:∃ys y,xs=ys++[y]:=⟨_,_,(fI hne).symm⟩
 rw[bL,dH] at l
 obtain⟨v,ev,tv⟩:=h.get ds.length d (by rw[dC (bJ _),kO];rfl)
 rw[show ds.length=ys.length by lia,dC (bJ _),kO] at ev
 cases ev
 exact(ex2 ys y ⟨rfl,tv⟩)
theorem y0C{H:Hp}{d:DV}{s:Str}{n:Int}{o:Option (Int×Int)}{v:V}(h:B2 H (.tup [d,.str s,.int n,z9f o]) v):∃a u,v=.ref a/\H a=some (.tup (u::[.str s,.int n,hvV o])):=by
 obtain⟨a,ys,rfl,e,_,t⟩:=z0d h
 obtain⟨u,q,rfl,_,t⟩:=z0e t
 obtain⟨y1,q,rfl,t1,t⟩:=z0e t
 obtain⟨y2,q,rfl,t2,t⟩:=z0e t
 obtain⟨y3,q,rfl,t3,t⟩:=z0e t
 have:=z0G t
 subst this
 rw[z2S t1,z14 t2,y1E t3] at e
 exact(ex2 a u ⟨rfl,e⟩)
theorem y4E(u:V)(xs:List V):K6 (u::xs) (some (1:Int)) none=xs:=by
 have:=y0j (xs:=u::xs) (k:=1) (by rw[cN];lia)
 exact this
theorem y3o{H:Hp}{a b:Addr}{had:List Int}{rows:List Row}{r:Int}{z:Str}(h1:H a=some (.tup (z1t had rows r z)))(h2:H b=some (.tup (z1t had rows r z))):z4P H 1 (.ref a) (.ref b):=by
 have t:∀{c:Addr},H c=some (.tup (z1t had rows r z))->B2 H (.tup [.str (z0P (z08 had) rows r (z0N (z0y (z08 had) rows z)) z),.int (z0N (z0y (z08 had) rows z)),z9f (z0y (z08 had) rows z)]) (.ref c):=fun {c} h=>by
  refine z0s h (by show 3≤1000000;decide) (.cons (z2h _) (.cons (z0E _) (.cons ?_ .nil)))
  cases z0y (z08 had) rows z with
  | none=>exact z5a
  | some p=>exact z0E _
 refine(z3V _ _ _ (t h1) (t h2)).mono (z1T fun d hd=>?_)
 rcases bF.mp hd with rfl|hd
 ·exact z7R _ _
 rcases bF.mp hd with rfl|hd
 ·exact z21 _ _
 rw[bC.mp hd]
 cases z0y (z08 had) rows z with
 | none=>unfold z9f DV.deep;exact cW _
 | some p=>exact z21 _ _
theorem y8B(M:Bl mg)(F:Fun K "law" "law" w0o f fd){B1 A0:Addr}{Bk:BkP}{Sh:ShP}(O:V8 B1 ["write","deliver","latest","issue","deeds","deed","shelf"] Bk)(OS:V2 A0 ["put","had","latest"] Sh)
  (E6:Cal P w K mg base 1 "_law_at" z7V (w0z K)) (D4:Cal P w K mg base 1 "_law_pick" z3S y2v)
  (O5:Cal P w K mg base 2 "_law_names" z5v (y3S K)) (P7:Cal P w K mg base 2 "_law_sets" z7b (y70 K)) (N2:Cal P w K mg base 2 "_law_valued" z4B y2u)
  (D1:Cal P w K mg base 5 "_law_same" z1E (z7D 5)) (J0:Cal P w K mg base 3 "_law_table" z4k (y1N K)) (L8:Cal P w K mg base 12 "_law_all_told" z3O (y1f K Sh)) (M6:Cal P w K mg base 12 "_law_counted" z4j (y14 K Sh))
  (N7:Cal P w K mg base 2 "_law_deeds" z5x (y4v K)) (K8:Cal P w K mg base 1 "_law_had_at" z4S (y3J K)) (Q0:Cal P w K mg base 9 "_law_play" z7g (y74 K Bk)) (S2:Cal P w K mg base 8 "history" y03 (y6K Bk))
  (X6:Mkr P w K mg base 8 B1 "Book" z3K (y2s K B1 Bk)) (F0:D9 P w K mg base 8 B1 "shelf" z2G (z50 Bk Sh)):B4 P w K mg base CX0 14 f fd plaw (y64 K):=by
 have nd:=y8m.nd
 refine F.ok y8m (fun vs H Q E h=>?_) (fun cdv A outer s H vs Q E hr h=>?_)
 ·obtain⟨a,ns,rfl,_⟩:=h
  rfl
 obtain⟨a,ns,rfl,hS,h63,q⟩:=h
 refine⟨_,(z04 (z0o (i:=1) nd rfl (Or.inl rfl) (z0g O5 (rm hr) rfl (z00 (pv 0) z02))) (z04 (z0o (i:=2) nd rfl (Or.inl rfl) (z0g N2 (rm hr) rfl (z00 (z0g P7 (rm hr) rfl (z00 (pv 1) (z00 (z0g E6 (rm hr) rfl (z00 (pv 0) (z00 z06 z02))) (z00 z06 z02)))) (z00 (z0g E6 (rm hr) rfl (z00 (pv 0) (z00 z06 z02))) z02)))) (z04 (z0o (i:=3) nd rfl (Or.inl rfl) (z0g D4 (rm hr) rfl (z00 (z0g E6 (rm hr) rfl (z00 (pv 0) (z00 z06 z02))) (z00 z06 z02)))) (z04 (z0o (i:=4) nd rfl (Or.inl rfl) (z0r z1o z06 (z0g D4 (rm hr) rfl (z00 (z0g E6 (rm hr) rfl (z00 (pv 0) (z00 z06 z02))) (z00 z06 z02))))) (z04 (z0o (i:=5) nd rfl (Or.inl rfl) (z0g N7 (rm hr) rfl (z00 (z1O z9a (pv 0) (z2s z06) z2r) (z00 z06 (z00 (z0g D4 (rm hr) rfl (z00 (z0g E6 (rm hr) rfl (z00 (pv 0) (z00 z06 z02))) (z00 z06 z02))) (z00 (pv 4) z02)))))) (z04 (z0o (i:=5) nd rfl (Or.inl rfl) (z1O z9a (pv 5) z2r (z2s z06))) (z04 (z0o (i:=6) nd rfl (Or.inl rfl) (z0g Q0 (rm hr) rfl (z00 (y5h X6 (rm hr) rfl (z00 (z0t z4K rfl M.list jF (z00 (pv 1) z02)) (z00 (pv 3) (z00 (pv 4) z02)))) (z00 (pv 5) (z00 (pv 2) z02))))) (z04 (z0W bT rfl (z3i rfl M.range (z00 z06 (z00 (z0r z1o (pv 4) z06) z02))) (z0j (i:=7) nd rfl (Or.inl rfl)) (z04 (z0W bT rfl (z1k (z1m (z00 (z0b z09 rfl M.len bN (z00 (pv 5) z02)) (z00 (z0r z19 (z0g D4 (rm hr) rfl (z00 (z0g E6 (rm hr) rfl (z00 (pv 0) (z00 z06 z02))) (z00 z06 z02))) (z0r z1o (z0b z09 rfl M.len bN (z00 (pv 5) z02)) z06)) z02)))) (z0j (i:=8) nd rfl (Or.inl rfl)) (z04 (z0o (i:=9) nd rfl (Or.inl rfl) (z0g K8 (rm hr) rfl (z00 (pv 5) (z00 (pv 7) (z00 (pv 8) z02))))) (z04 (z0o (i:=10) nd rfl (Or.inl rfl) (z1J F0 (rm hr) (pv 6) (z00 (pv 7) (z00 (pv 8) z02)))) (z04 (z0C (z1V (z1N (z0g L8 (rm hr) rfl (z00 (pv 10) (z00 (pv 1) (z00 (pv 9) (z00 (pv 2) (z00 (pv 3) z02)))))))) (z05 (z0i z1I)) z0k) (z05 (z0C (z1V (z1N (z0g M6 (rm hr) rfl (z00 (pv 10) (z00 (pv 1) (z00 (pv 9) (z00 (pv 2) (z00 (pv 3) z02)))))))) (z05 (z0i z1I)) z0k)))))) (z04 (z0o (i:=11) nd rfl (Or.inl rfl) (z0g S2 (rm hr) rfl (z00 (pv 6) (z00 (pv 7) (z00 (z0A z1j (pv 1) (y1D z89 z06) (fun _ _=>rfl)) z02))))) (z04 (z0o (i:=12) nd rfl (Or.inl rfl) (z0A z0w (z0g J0 (rm hr) rfl (z00 (pv 1) (z00 (z0g K8 (rm hr) rfl (z00 (pv 5) (z00 (pv 7) (z00 (z0b z09 rfl M.len bN (z00 (pv 5) z02)) z02)))) (z00 (pv 2) (z00 (pv 3) z02))))) (y1D z89 z06) (fun _ _=>rfl))) (z04 (z0C (PW.pt (z38 (z1V (z1N (z0b z0I rfl M.isinstance cC (z00 (pv 11) (z00 (z1F (v:=.ty "tuple") rfl M.tuple bH rfl) z02))))) (z38 (z0c z28 (z0b z09 rfl M.len bN (z00 (pv 11) z02)) z06 (z0m _)) (z24 (z1V (z1N (z0b z0I rfl M.isinstance cC (z00 (z0A z0w (pv 11) (y1D z89 z06) (fun _ _=>rfl)) (z00 (z1F (v:=.ty "tuple") rfl M.tuple bH rfl) z02))))))))) (z05 (z0i z1I)) z0k) (z05 (z0C (z1V (z1N (z0g D1 (rm hr) rfl (z00 (z1O y1m (z0A z0w (pv 11) (y1D z89 z06) (fun _ _=>rfl)) (z2s z06) z2r) (z00 (z1O y1m (pv 12) (z2s z06) z2r) z02))))) (z05 (z0i z1I)) z0k))))))) (z05 (z0i z1I)))))))))),?_⟩
 refine(rdI rfl (ex2 a ns ⟨rfl,hS,fun ln nm H1 nln s1 eN n1 n12 N=>?_⟩))
 refine(rdI rfl (rdI rfl (ex3 a ns 2 ⟨rfl,s1.seq hS,by decide,(ex4 ln nm _ 60 ⟨rfl,SqL.of eN,n1,n12,by decide,by decide,fun l0 xs0 ss H2 nl0 s2 e2 st len0 sub0=>?_⟩)⟩)))
 have s12:=s1.trans s2
 refine(rdI rfl (ex3 a ns 3 ⟨rfl,s12.seq hS,by decide,(ex4 l0 xs0 ss _ ⟨rfl,e2,st,by rw[len0];decide,fun s hs=>cM (sub0 s hs).length_le n12,fun lr us rows H3 nlr s3 eR tl hm hv=>?_⟩)⟩))
 have r60:rows.length=60:=by
  have:=congrArg List.length hm
  rw[bA,len0] at this
  exact this
 have R:Rws nm rows:=⟨fun r hr'=>sub0 _ (by rw[<- hm];exact jZ hr'),hv⟩
 have s13:=s12.trans s3
 have eN3:=s3 _ _ (s2 _ _ eN)
 clear st hm hv e2
 refine(rdI rfl (ex3 a ns 4 ⟨rfl,s13.seq hS,by decide,(ex2 _ _ ⟨rfl,(by decide),fun r r0 r1=>?_⟩)⟩))
 refine(rdI rfl (ex3 a ns 5 ⟨rfl,s13.seq hS,by decide,(ex2 _ _ ⟨rfl,(by decide),fun rd0 rd1 rd2=>(ex2 _ _ ⟨rfl,rfl,?_⟩)⟩)⟩))
 refine(rdI rfl (rdI rfl (ex2 a _ ⟨rfl,s13.seq hS,fun lsl hlsl=>?_⟩)))
 have w0k:K6 (ns.map V.int) (some (6:Int)) none=((ns.drop (HT.sIx (ns.map V.int).length 0 (some 6))).take (HT.sIx (ns.map V.int).length (ns.map V.int).length none-HT.sIx (ns.map V.int).length 0 (some 6))).map V.int:=by
  unfold K6
  rw[List.map_take,List.map_drop]
 rw[w0k]
 generalize (ns.drop (HT.sIx (ns.map V.int).length 0 (some 6))).take (HT.sIx (ns.map V.int).length (ns.map V.int).length none-HT.sIx (ns.map V.int).length 0 (some 6))=cs
 have s34:=z01 hlsl (.lst (cs.map V.int))
 have eC:upd H3 lsl (.lst (cs.map V.int)) lsl=some (.lst (cs.map V.int)):=z03
 generalize upd H3 lsl (.lst (cs.map V.int))=H4 at s34 eC
 have s4:=s13.trans s34
 refine(rdI rfl (ex3 a ns 1 ⟨rfl,s4.seq hS,by decide,(ex2 _ _ ⟨rfl,(by decide),fun fst f0 f1=>(rdI rfl (ex4 lsl cs fst (1+rd0) ⟨rfl,SqL.of eC,f0,by lia,by lia,by lia,fun l2 us2 log2 H6 nl s5 e6 p6 lk6 l246=>?_⟩))⟩)⟩))
 refine(rdI rfl (rdI rfl (ex2 l2 _ ⟨rfl,SqL.of e6,fun l hl=>?_⟩)))
 rw[show K6 us2 none (some (90:Int))=us2.take 90 from y7X us2 90]
 have s7:=z01 hl (.lst (us2.take 90))
 have el:upd H6 l (.lst (us2.take 90)) l=some (.lst (us2.take 90)):=z03
 generalize upd H6 l (.lst (us2.take 90))=H7 at s7 el
 have pl:Paired (z1y H7) (us2.take 90) (log2.take 90):=K3.keep s7 (y3p p6 90)
 have lk:=y2Q lk6 90
 have l90:(log2.take 90).length≤90:=by rw[bI];lia
 generalize us2.take 90=us' at el pl
 generalize log2.take 90=log at pl lk l90
 have s57:=s34.trans (s5.trans s7)
 have eN7:=s57 _ _ eN3
 have eR7:=s57 _ _ eR
 have tl7:=z0a.keep s57 _ _ tl
 have hS7:=(s13.trans s57).seq hS
 have lu7:=z1q pl
 have gn:E2 nm:=⟨n1,n12,N.nd⟩
 clear e6 p6 lk6 l246 nl
 refine(rdI rfl (ex2 ln (nm.map V.str) ⟨rfl,.inl (SqL.of eN7),fun l1 hl1=>(rdI rfl (rdI rfl (fun x dx nx ndx ne=>?_)))⟩))
 have mm1:=z9d (C:=B1) (z01 hl1 (.lst (nm.map V.str))) nx ndx
 refine(ex6 x dx l1 nm r (1+rd0) ⟨rfl,z03,ne,by rw[z0l ne,z03],.inl (SqL.of (y0R nx ndx z03)),gn,r0,by lia,by lia,by lia,fun fp H8 hfp b8 bk8=>⟨rfl,?_⟩⟩)
 have s8:B0 H7 H8:=z84 b8 mm1 ((z01 hl1 _).free nx)
 have f8:∀b∈fp,H7 b=none:=fun b hb=>z6X mm1 ((z01 hl1 _).free nx) ((z01 hl1 _).free ndx) (hfp b hb)
 have out:∀{b:Addr}{o:HO},H7 b=some o->b∉fp:=fun e m=>by rw[f8 _ m] at e;cases e
 have nt8:z5w H8 fp:=O.Q4 bk8
 refine(rdI rfl (rdI rfl (ex11 x l lr fp nm r (1+rd0) us' us log rows ⟨rfl,bk8,s8 _ _ el,out el,K3.keep s8 pl,lk,by lia,s8 _ _ eR7,out eR7,z0a.keep s8 _ _ tl7,r60,R,N.nd,n12,fun fp9 H9 ff9 b9 bk9=>?_⟩)))
 have sk:∀{b:Addr}{o:HO},H7 b=some o->H9 b=some o:=fun e=>b9 _ _ (s8 _ _ e) (out e)
 have eN9:=sk eN7
 have eR9:=sk eR7
 have el9:=sk el
 have pl9:Paired (z1y H9) us' log:=L2.Paired.T8 pl fun u d ⟨b,e,q⟩=>⟨b,e,sk q⟩
 have tl9:z0a H9 (rows.map O9) us:=z0a.but b9 nt8 _ _ (z0a.keep s8 _ _ tl7)
 have hS9:SqL K H9 a (ns.map V.int):=by
  rcases hS7 with (h|⟨o,h⟩)|h
  ·exact .inl (.inl (sk h))
  ·exact .inl (.inr ⟨o,sk h⟩)
  ·exact .inr h
 have Z9:∀y∈log,1≤y.2/\y.2≤(wrN log:Int):=y6t lk
 have w2:wrN log≤60:=by
  have:=w0r lk log.length
  rw[bR] at this
  exact this
 have w07:∀y∈log,1≤y.2/\y.2≤60:=fun y hy=>by have:=Z9 y hy;lia
 have R2:Rws nm (rows.take (wrN log)):=⟨fun w hw=>R.sub w (dZ hw),fun w hw=>R.val w (dZ hw)⟩
 have tlen:(rows.take (wrN log)).length=wrN log:=by rw[bI];lia
 have r12:=y6G R n12
 obtain⟨ni,z,rfl⟩:∃ni z,nm=ni++[z]:=⟨_,_,(fI (fun e=>by rw[e] at n1;simp at n1)).symm⟩
 have hz0:atI ((ni++[z]).map V.str) (-1)=some (.str z):=by rw[bG];exact z5d _ _
 have hzm:z∈ni++[z]:=cK _ (bC.mpr rfl)
 generalize hnm:ni++[z]=nm at *
 clear mm1 b8 hfp bk8 b9 sk s8 nt8 out f8 pl el eN7 eR7 tl7 hS7 s34 s5 s7 s57 tl eR eN3 eN eC
 have g60:∀(rd:Int) (d:Nat),∀n∈D0 (log.take d) rd,1≤n/\n≤(wrN log:Int):=fun rd d n hn=>Z9 _ (dZ (z7X.mp hn))
 have gr:∀(rd:Int) (d:Nat),∀n∈z08 (D0 (log.take d) rd),1≤n/\n≤(wrN log:Int):=fun rd d n hn=>g60 rd d n (z0Q.mp hn).2
 have grm:∀(rd:Int) (d:Nat) (n:Int),n∈D0 (log.take d) rd↔n∈z08 (D0 (log.take d) rd):=fun rd d n=>(z8P (fun _=>kI) (fun n hn=>by have:=g60 rd d n hn;lia) n).symm
 refine(rdI rfl (ex2 _ _ ⟨rfl,rfl,(ex2 1 (1+rd0+1) ⟨rfl,⟨by decide,by decide,by lia,by lia⟩,?_⟩)⟩))
 refine z15 (lo:=1) (n:=(1+rd0+1-1).toNat) (fun _ σ G=>∃(p7 p8 p9 p10 p11 p12:Option V),B0 H9 G/\σ=[some (.ref a),some (.ref ln),some (.ref lr),some (.int r),some (.int (1+rd0)),some (.ref l),some (.ref x),p7,p8,p9,p10,p11,p12]) ⟨_,_,_,_,_,_,B0.refl _,rfl⟩ (fun i σ G hi hp=>?_) (fun σ G hp=>q _)
 obtain⟨p7,p8,p9,p10,p11,p12,g,rfl⟩:=hp
 have rdr:1≤1+(i:Int)/\1+(i:Int)≤1+rd0:=by lia
 generalize 1+(i:Int)=rd at rdr
 refine(rdI rfl (ex2 l us' ⟨rfl,.inl (SqL.of (g _ _ el9)),(rdI rfl (ex3 a ns 1 ⟨rfl,g.seq hS9,by decide,(ex2 _ _ ⟨rfl,(by decide),fun pk k0 k1=>?_⟩)⟩))⟩))
 refine(rdI rfl (ex2 l us' ⟨rfl,.inl (SqL.of (g _ _ el9)),(ex2 _ _ ⟨rfl,rfl,(ex2 _ _ ⟨rfl,rfl,by lia,(by show 2≤sizeLine;decide),fun lL hlL=>?_⟩)⟩)⟩))
 have md0:=cY pk (show((us'.length:Nat):Int)+1≠0 by lia)
 have md1:=cQ pk (show(0:Int)<((us'.length:Nat):Int)+1 by lia)
 have sL:=z01 hlL (.lst [V.int (us'.length:Int),V.int (pk%((us'.length:Int)+1))])
 have eL:upd G lL (.lst [V.int (us'.length:Int),V.int (pk%((us'.length:Int)+1))]) lL=some (.lst [V.int (us'.length:Int),V.int (pk%((us'.length:Int)+1))]):=z03
 have two:∀(j:Nat) (v:V),[V.int (us'.length:Int),V.int (pk%((us'.length:Int)+1))][j]? = some v->∃d:Nat,v=.int (d:Int)/\d≤log.length:=fun j v e=>by
  match j,e with
  | 0,e=>cases e;exact⟨us'.length,rfl,by lia⟩
  | 1,e=>cases e;exact⟨(pk%((us'.length:Int)+1)).toNat,by rw[Int.toNat_of_nonneg md0],by lia⟩
 generalize [V.int (us'.length:Int),V.int (pk%((us'.length:Int)+1))]=dv at sL eL two
 generalize upd G lL (.lst dv)=GA at sL eL
 have gA:=g.trans sL
 refine⟨lL,rfl,⟨_,SqL.of eL⟩,z1R (K:=K) (a:=lL) (xs:=dv) (fun _ σ G=>∃(p8 p9 p10:Option V),B0 GA G/\σ=[some (.ref a),some (.ref ln),some (.ref lr),some (.int r),some (.int (1+rd0)),some (.ref l),some (.ref x),some (.int rd),p8,p9,p10,p11,p12]) ⟨_,_,_,B0.refl _,rfl⟩ (fun i σ G _ ⟨_,_,_,g,_⟩=>SqL.of (g _ _ eL)) ?_ ?_⟩
 ·rintro j v σ G0 hj ⟨q8,q9,q10,h0,rfl⟩
  obtain⟨d,rfl,hd⟩:=two j v hj
  have c0:=gA.trans h0
  refine(rdI rfl (rdI rfl (rdI rfl (ex5 l us' log rd d ⟨rfl,c0 _ _ el9,K3.keep c0 pl9,hd,w07,fun lo G1 nlo h1 e1=>?_⟩))))
  have c1:=c0.trans h1
  have bk1:=O.same bk9 c1
  obtain⟨d2,g2,z2,w2'⟩:=O.ins bk1
  refine(rdI rfl (ex3 x d2 g2 ⟨rfl,z2,w2' _ (by simp),(rdI rfl (rdI rfl (ex9 x fp9 nm r (1+rd0) _ log rd (some d) ⟨rfl,bk1,rdr.1,rdr.2,(fun d' h=>by cases h;exact hd),fun x1 fq G2 fn h2 sh=>?_⟩)))⟩))
  have sh2:Sh G2 x1 fq nm r (fun n=>z10 (rows.take (wrN log)) n r) (D0 (log.take d) rd):=sh
  have c2:=c1.trans h2
  have ag:=z9t (r:=r) (rows:=rows) (gr rd d)
  have N6:∀n∈D0 (log.take d) rd,1≤n/\n≤((rows.take (wrN log)).length:Int):=fun n hn=>by rw[tlen];exact g60 rd d n hn
  have hup:∀n∈z08 (D0 (log.take d) rd),n≤(rows.length:Int):=fun n hn=>by have:=gr rd d n hn;lia
  refine(rdI rfl (rdI rfl (rdI rfl (rdI rfl (rdI rfl (ex12 x1 ln lo lr fq nm r us rows (rows.take (wrN log)) _ _ ⟨rfl,sh2,gn,R2,by lia,N6,r0,by lia,c2 _ _ eN9,h2 _ _ e1,z16 _,grm rd d,c2 _ _ eR9,z0a.keep c2 _ _ tl9,hup,r12,ag,fun G3 h3=>(rdI rfl (B7 ?_))⟩))))))
  have c3:=c2.trans h3
  refine(rdI rfl (rdI rfl (rdI rfl (rdI rfl (rdI rfl (ex12 x1 ln lo lr fq nm r us rows (rows.take (wrN log)) _ _ ⟨rfl,OS.same sh2 h3,gn,R2,by lia,N6,r0,by lia,c3 _ _ eN9,h3 _ _ (h2 _ _ e1),z16 _,grm rd d,c3 _ _ eR9,z0a.keep c3 _ _ tl9,hup,R,ag,fun G4 h4=>(rdI rfl (B7 ?_))⟩))))))
  exact⟨_,_,_,h0.trans (h1.trans (h2.trans (h3.trans h4))),rfl⟩
 rintro σ G0 ⟨q8,q9,q10,h0,rfl⟩
 have c0:=gA.trans h0
 have ag:z5u (z08 (D0 log rd)) r rows (rows.take (wrN log)):=by
  have:=z9t (r:=r) (rows:=rows) (gr rd log.length)
  rw[bR] at this
  exact this
 refine(rdI rfl (rdI rfl (rdI rfl (rdI rfl (ex4 ln _ _ _ ⟨rfl,rfl,SqL.of (c0 _ _ eN9),hz0,(ex9 x z rd fp9 nm r (1+rd0) _ log ⟨rfl,O.same bk9 c0,rdr.1,rdr.2,hzm,gn,R2,by lia,fun y hy=>by rw[tlen];exact Z9 y hy,by lia,r0,by lia,fun fv G1 h1 tf=>?_⟩)⟩)))))
 have c1:=c0.trans h1
 obtain⟨fa,fs,rfl,efa,_,tfs⟩:=z0d tf
 obtain⟨ds,jj,hd,es,et⟩:=z9C (t:=fun j=>D0 (log.take j) rd) (rows:=rows.take (wrN log)) (r:=r) (z:=z) log.length
 rw[es] at tfs
 obtain⟨fi,fl,rfl,tfl⟩:=z5s tfs
 obtain⟨fb,fu,rfl,efb⟩:=y0C tfl
 have efb':G1 fb=some (.tup (fu::z1t hd (rows.take (wrN log)) r z)):=efb
 rw[et,bR,<- y33 ag] at efb'
 refine(rdI rfl (rdI rfl (rdI rfl (rdI rfl (ex2 l us' ⟨rfl,.inl (SqL.of (c1 _ _ el9)),(ex5 l us' log rd us'.length ⟨rfl,c1 _ _ el9,K3.keep c1 pl9,by lia,w07,fun lo G2 nlo h2 e2=>?_⟩)⟩)))))
 rw[lu7,bR] at e2
 have c2:=c1.trans h2
 have gl:∀n∈z08 (D0 log rd),1≤n/\n≤(wrN log:Int):=fun n hn=>Z9 _ (z7X.mp (z0Q.mp hn).2)
 refine(rdI rfl (rdI rfl (ex8 ln lo lr nm (z08 (D0 log rd)) us rows r ⟨rfl,SqL.of (c2 _ _ eN9),n12,e2,eS (z2e _) (by decide),(z16 _).imp (fun h=>jW h),fun n hn=>by have:=gl n hn;lia,fun n hn=>by have:=gl n hn;lia,SqL.of (c2 _ _ eR9),z0a.keep c2 _ _ tl9,r12,r0,fun tv G3 h3 tt=>?_⟩)))
 unfold z6u at tt
 rw[<- hnm,bG] at tt
 obtain⟨ta,ts,rfl,eta,_,tts⟩:=z0d tt
 obtain⟨ti,tl',rfl,ttl⟩:=z5s tts
 obtain⟨tb,tu,rfl,etb⟩:=y0C ttl
 have rr:z08 (z08 (D0 log rd))=z08 (D0 log rd):=z1P (z16 _) (z16 _) fun n=>by
  rw[z0Q]
  exact⟨fun h=>h.2,fun h=>⟨(z0Q.mp h).1,h⟩⟩
 rw[rr] at etb
 have etb':G3 tb=some (.tup (tu::z1t (D0 log rd) rows r z)):=etb
 refine(rdI rfl (ex4 ta _ _ _ ⟨rfl,rfl,SqT.of eta,z5d _ _,?_⟩))
 have h23:=h2.trans h3
 have w00:=h23 _ _ efa
 have efb3:=h23 _ _ efb'
 refine(rdI rfl (ex4 _ _ _ _ ⟨rfl,.tup w00,z48,(rdI rfl (B7 ?_))⟩))
 refine(rdI rfl (ex2 fa _ ⟨rfl,.inr (SqT.of w00),rfl,(rdI rfl ?_)⟩))
 rw[decide_eq_false (fun e=>by injection e with e;rw[bL,dH] at e;lia)]
 refine B7 (rdI rfl (rdI rfl (ex4 fa _ _ _ ⟨rfl,rfl,SqT.of w00,z5d _ _,(ex4 _ _ _ _ ⟨rfl,.tup efb3,z48,(rdI rfl (B7 ?_))⟩)⟩)))
 have no1:∀(u:V) (xs:List V),¬(HT.sIx (u::xs).length 0 (some (1:Int))=0/\HT.sIx (u::xs).length (u::xs).length none=(u::xs).length):=fun u xs h=>by
  have e:=h.1
  rw[show HT.sIx (u::xs).length 0 (some (1:Int))=min 1 (u::xs).length from HT.z6K _ _ 1] at e
  rw[cN] at e
  lia
 refine(rdI rfl (rdI rfl (ex4 fa _ _ _ ⟨rfl,rfl,SqT.of w00,z5d _ _,(rdI rfl (ex2 fb _ ⟨rfl,SqT.of efb3,no1 _ _,fun y1 hy1=>?_⟩))⟩)))
 rw[y4E]
 have sy1:=z01 hy1 (.tup (z1t (D0 log rd) rows r z))
 refine(rdI rfl (rdI rfl (ex2 tb _ ⟨rfl,SqT.of (sy1 _ _ etb'),no1 _ _,fun y2 hy2=>?_⟩)))
 rw[y4E]
 have sy2:=z01 hy2 (.tup (z1t (D0 log rd) rows r z))
 refine(ex2 (.ref y1) (.ref y2) ⟨rfl,(y3o (sy2 _ _ z03) z03).mono (by decide),fun G6 h6=>(rdI rfl (B7 ?_))⟩)
 exact⟨_,_,_,_,_,_,c1.trans (h23.trans (sy1.trans (sy2.trans h6))),rfl⟩
end
theorem y8O{l:PySem.W.OpenLaw}{w:World}{K:PySem.W.Frag}{h:Heap}{mg:Str->Option Value}{fa:Addr}(X:K.In h)(G:h.Ns mainGlobals mg)(hfa:mg "law"=some (.ref fa))
  {f0 f1 f2 f3 f4 f5 f6 f7 f8 f9 f10 f11 f12 f13 f14 f15 f16 f17 f18 f19 f20 f21 f22 f23 f24 f25 f26 f27 f28 f29 f30 f31 f32 f33 f34 f35 f36 f37 f38 f39 f40 f41 f42 f43 f44 f45 f46 f47 f48 f49 f50 f51 f52 f53 f54 f55 f56 f57 f58 f59 f60 f61 f62 f63 f64 f65 f66 f67 f68 f69 f70 f71 f72 f73 f74 f75 f76 f77 f78 f79 f80 f81 f82 f83 A6 A0 B1 T36 T54:Addr}{U8 V3 S6 U3 T3 V5 w0b Z0 w1t w0i w1J:Tok}
  (cOffice:DfC K "Office" A6)
  (cShelf:DfC K "Shelf" A0)
  (cBook:DfC K "Book" B1)
  (nOffice_names:PySem.W.findIn K (.ref A6) "names"=some none)
  (nOffice_reach:PySem.W.findIn K (.ref A6) "reach"=some none)
  (nOffice_written:PySem.W.findIn K (.ref A6) "written"=some none)
  (nShelf_names:PySem.W.findIn K (.ref A0) "names"=some none)
  (nShelf_reach:PySem.W.findIn K (.ref A0) "reach"=some none)
  (nShelf_issues:PySem.W.findIn K (.ref A0) "issues"=some none)
  (nBook_office:PySem.W.findIn K (.ref B1) "office"=some none)
  (nBook_readers:PySem.W.findIn K (.ref B1) "readers"=some none)
  (nBook_done:PySem.W.findIn K (.ref B1) "done"=some none)
  (a0:DfT K "refuse_bad_names" z2F .none f0)
  (a1:DfT K "refuse_bad_reach" z2K .none f1)
  (a2:DfT K "bulletin_names" z3e .none f2)
  (a3:DfT K "refuse_unknown_name" z2b .none f3)
  (a4:DfT K "lacking_numbers" z31 .none f4)
  (a5:DfT K "reached_by" z5X .none f5)
  (a6:DfT K "teller_of" z6H .none f6)
  (a7:DfT K "lacking_with_tellers" z1Y .none f7)
  (a8:DfT K "dark_numbers" z4a .none f8)
  (a9:DfT K "dark_numbers_behind" z29 .none f9)
  (a10:DfT K "tail_for" z8e .none f10)
  (a11:DfT K "refuse_bad_value" z2I .none f11)
  (a12:DfT K "refuse_bad_rows" z35 .none f12)
  (a13:DfT K "rows_in_order" z3L .none f13)
  (a14:DfT K "names_of_rows" z3H .none f14)
  (a15:DfM K A6 "__init__" "Office.__init__" z30 .none f15)
  (a16:DfM K A6 "refuse_writing" "Office.refuse_writing" z1K .none f16)
  (a17:DfM K A6 "write" "Office.write" z45 .none f17)
  (a18:DfM K A6 "latest" "Office.latest" z3E .none f18)
  (a19:DfM K A6 "issue" "Office.issue" z42 .none f19)
  (a20:DfM K A0 "__init__" "Shelf.__init__" z3f .none f20)
  (a21:DfM K A0 "put" "Shelf.put" z6O .none f21)
  (a22:DfM K A0 "had" "Shelf.had" z7e .none f22)
  (a23:DfM K A0 "latest" "Shelf.latest" z49 .none f23)
  (a24:DfM K A0 "rows_of" "Shelf.rows_of" z3M .none f24)
  (a25:DfM K A0 "tail_of" "Shelf.tail_of" z3D .none f25)
  (a26:DfT K "refuse_bad_readers" z2j .none f26)
  (a27:DfM K B1 "__init__" "Book.__init__" z3N .none f27)
  (a28:DfM K B1 "refuse_unknown_reader" "Book.refuse_unknown_reader" z1b .none f28)
  (a29:DfM K B1 "refuse_further_deed" "Book.refuse_further_deed" z1r .none f29)
  (a30:DfM K B1 "write" "Book.write" z5T .none f30)
  (a31:DfM K B1 "deliver" "Book.deliver" z4d .none f31)
  (a32:DfM K B1 "latest" "Book.latest" z4A .none f32)
  (a33:DfM K B1 "issue" "Book.issue" z5Q .none f33)
  (a34:DfM K B1 "deeds" "Book.deeds" z5K .none f34)
  (a35:DfM K B1 "deed" "Book.deed" z77 .none f35)
  (a36:DfM K B1 "shelf" "Book.shelf" z5I (.ref T36) f36)
  (a37:DfT K "held_for" z8E .none f37)
  (a38:DfT K "names_told_of" z3B .none f38)
  (a39:DfT K "gaps_of" y0a .none f39)
  (a40:DfT K "set_again" z6B .none f40)
  (a41:DfT K "state_of" z8g .none f41)
  (a42:DfT K "state_and_held" z3m .none f42)
  (a43:DfT K "knowledge" z6T .none f43)
  (a44:DfT K "known_sets" z5Y .none f44)
  (a45:DfT K "is_choice" z7c .none f45)
  (a46:DfT K "may_stand" z73 .none f46)
  (a47:DfT K "fits" y7z .none f47)
  (a48:DfT K "two_to_the" z5W .none f48)
  (a49:DfT K "course_count" z4e .none f49)
  (a50:DfT K "again_count" z4J .none f50)
  (a51:DfT K "two_courses" z4D .none f51)
  (a52:DfT K "history" z9S .none f52)
  (a53:DfT K "fewest_numbers" z3r .none f53)
  (a54:DfT K "send_for" z8R (.ref T54) f54)
  (a55:DfT K "_law_at" y0d .none f55)
  (a56:DfT K "_law_pick" z6W .none f56)
  (a57:DfT K "_law_row" z9e .none f57)
  (a58:DfT K "_law_whole" z5L .none f58)
  (a59:DfT K "_law_same" z57 .none f59)
  (a60:DfT K "_law_named" z5O .none f60)
  (a61:DfT K "_law_doubled" z44 .none f61)
  (a62:DfT K "_law_sets" z72 .none f62)
  (a63:DfT K "_law_value" z5S .none f63)
  (a64:DfT K "_law_valued" z4U .none f64)
  (a65:DfT K "_law_teller" z4F .none f65)
  (a66:DfT K "_law_gaps" z6D .none f66)
  (a67:DfT K "_law_held" z6J .none f67)
  (a68:DfT K "_law_again" z5A .none f68)
  (a69:DfT K "_law_state" z5U .none f69)
  (a70:DfT K "_law_table" z5Z .none f70)
  (a71:DfT K "_law_dark" z75 .none f71)
  (a72:DfT K "_law_known" z5y .none f72)
  (a73:DfT K "_law_course" z4M .none f73)
  (a74:DfT K "_law_in_course" z3n .none f74)
  (a75:DfT K "_law_plan" z6Q .none f75)
  (a76:DfT K "_law_names" z5N .none f76)
  (a77:DfT K "_law_deeds" z5z .none f77)
  (a78:DfT K "_law_had_at" z4T .none f78)
  (a79:DfT K "_law_play" z6I .none f79)
  (a80:DfT K "_law_name_told" z3p .none f80)
  (a81:DfT K "_law_all_told" z3C .none f81)
  (a82:DfT K "_law_counted" z4m .none f82)
  (a83:DfT K "law" w0o .none f83)
  (d36:DfD K T36 #[Value.none])
  (d54:DfD K T54 #[Value.none])
  (zlen:PySem.W.nsIn K mainGlobals "len"=some none) (zrange:PySem.W.nsIn K mainGlobals "range"=some none) (ztuple:PySem.W.nsIn K mainGlobals "tuple"=some none) (zlist:PySem.W.nsIn K mainGlobals "list"=some none) (zmax:PySem.W.nsIn K mainGlobals "max"=some none) (zmin:PySem.W.nsIn K mainGlobals "min"=some none) (zsorted:PySem.W.nsIn K mainGlobals "sorted"=some none) (zisinstance:PySem.W.nsIn K mainGlobals "isinstance"=some none) (zbool:PySem.W.nsIn K mainGlobals "bool"=some none) (zint:PySem.W.nsIn K mainGlobals "int"=some none) (zstr:PySem.W.nsIn K mainGlobals "str"=some none) (zset:PySem.W.nsIn K mainGlobals "set"=some none) (zreversed:PySem.W.nsIn K mainGlobals "reversed"=some none) (zdict:PySem.W.nsIn K mainGlobals "dict"=some none) (zzip:PySem.W.nsIn K mainGlobals "zip"=some none) (zall:PySem.W.nsIn K mainGlobals "all"=some none) (vMOST_NAMES:PySem.W.nsIn K mainGlobals "MOST_NAMES"=some (some (.int 12 U8))) (vMOST_REACH:PySem.W.nsIn K mainGlobals "MOST_REACH"=some (some (.int 10 V3))) (vMOST_NUMBERS:PySem.W.nsIn K mainGlobals "MOST_NUMBERS"=some (some (.int 60 S6))) (vMOST_VALUE:PySem.W.nsIn K mainGlobals "MOST_VALUE"=some (some (.int 1000000 U3))) (vMOST_READERS:PySem.W.nsIn K mainGlobals "MOST_READERS"=some (some (.int 10 T3))) (vMOST_DEEDS:PySem.W.nsIn K mainGlobals "MOST_DEEDS"=some (some (.int 400 V5))) (vWRITE:PySem.W.nsIn K mainGlobals "WRITE"=some (some (.str "write" w0b))) (vDELIVER:PySem.W.nsIn K mainGlobals "DELIVER"=some (some (.str "deliver" Z0))) (vSURE:PySem.W.nsIn K mainGlobals "SURE"=some (some (.str "sure" w1t))) (vSTALE:PySem.W.nsIn K mainGlobals "STALE"=some (some (.str "stale" w0i))) (vOPEN:PySem.W.nsIn K mainGlobals "OPEN"=some (some (.str "open" w1J))) :
  ∃fd:FuncData,(∀(s:Shared) (v:Value),BindsTo s fd ⟨[v],[]⟩ [("_law_script",v)])/\∀base:Heap,K.In base->base.Ns mainGlobals mg->B4 l.prog w K mg base CX0 14 fa fd ["_law_script"] (y64 K):=by
 have M:Bl mg:=⟨cU X G zlen,cU X G zrange,cU X G ztuple,cU X G zlist,cU X G zmax,cU X G zmin,cU X G zsorted,cU X G zisinstance,cU X G zbool,cU X G zint,cU X G zstr,cU X G zset,cU X G zreversed,cU X G zdict,cU X G zzip,cU X G zall,⟨_,dJ X G vMOST_NAMES⟩,⟨_,dJ X G vMOST_REACH⟩,⟨_,dJ X G vMOST_NUMBERS⟩,⟨_,dJ X G vMOST_VALUE⟩,⟨_,dJ X G vMOST_READERS⟩,⟨_,dJ X G vMOST_DEEDS⟩,⟨_,dJ X G vWRITE⟩,⟨_,dJ X G vDELIVER⟩,⟨_,dJ X G vSURE⟩,⟨_,dJ X G vSTALE⟩,⟨_,dJ X G vOPEN⟩⟩
 have F6:L4 K mg A6:=⟨cOffice.cls,cOffice.nm X G,nOffice_names,nOffice_reach,nOffice_written⟩
 have D5:D7 K mg A0:=⟨cShelf.cls,cShelf.nm X G,nShelf_names,nShelf_reach,nShelf_issues⟩
 have F1:L9 K mg B1:=⟨cBook.cls,cBook.nm X G,nBook_office,nBook_readers,nBook_done⟩
 obtain⟨_,Frefuse_bad_names⟩:=z0z X G a0
 obtain⟨_,Frefuse_bad_reach⟩:=z0z X G a1
 obtain⟨_,Fbulletin_names⟩:=z0z X G a2
 obtain⟨_,Frefuse_unknown_name⟩:=z0z X G a3
 obtain⟨_,Flacking_numbers⟩:=z0z X G a4
 obtain⟨_,Freached_by⟩:=z0z X G a5
 obtain⟨_,Fteller_of⟩:=z0z X G a6
 obtain⟨_,Flacking_with_tellers⟩:=z0z X G a7
 obtain⟨_,Fdark_numbers⟩:=z0z X G a8
 obtain⟨_,Fdark_numbers_behind⟩:=z0z X G a9
 obtain⟨_,Ftail_for⟩:=z0z X G a10
 obtain⟨_,Frefuse_bad_value⟩:=z0z X G a11
 obtain⟨_,Frefuse_bad_rows⟩:=z0z X G a12
 obtain⟨_,Frows_in_order⟩:=z0z X G a13
 obtain⟨_,Fnames_of_rows⟩:=z0z X G a14
 obtain⟨_,FOffice___init__⟩:=y20 cOffice a15
 obtain⟨_,FOffice_refuse_writing⟩:=z1X a16
 obtain⟨_,FOffice_write⟩:=z1X a17
 obtain⟨_,FOffice_latest⟩:=z1X a18
 obtain⟨_,FOffice_issue⟩:=z1X a19
 obtain⟨_,FShelf___init__⟩:=y20 cShelf a20
 obtain⟨_,FShelf_put⟩:=z1X a21
 obtain⟨_,FShelf_had⟩:=z1X a22
 obtain⟨_,FShelf_latest⟩:=z1X a23
 obtain⟨_,FShelf_rows_of⟩:=z1X a24
 obtain⟨_,FShelf_tail_of⟩:=z1X a25
 obtain⟨_,Frefuse_bad_readers⟩:=z0z X G a26
 obtain⟨_,FBook___init__⟩:=y20 cBook a27
 obtain⟨_,FBook_refuse_unknown_reader⟩:=z1X a28
 obtain⟨_,FBook_refuse_further_deed⟩:=z1X a29
 obtain⟨_,FBook_write⟩:=z1X a30
 obtain⟨_,FBook_deliver⟩:=z1X a31
 obtain⟨_,FBook_latest⟩:=z1X a32
 obtain⟨_,FBook_issue⟩:=z1X a33
 obtain⟨_,FBook_deeds⟩:=z1X a34
 obtain⟨_,FBook_deed⟩:=z1X a35
 obtain⟨_,FBook_shelf⟩:=y5E a36 d36
 have U6:=FBook_shelf.1.binds (ps:=["self","reader","deed"]) (ds:=[]) fun _ _ _ _ _ _ us hl=>w0x (p:=fun us=>∃k,bindArgs _ ⟨us,[]⟩=seqItems? _ >>= k/\k (some _)=pure (List.zip _ (us++[]))) hl fun _ _ _=>⟨_,rfl,rfl⟩
 have T9:=FBook_shelf.1.binds (ps:=["self","reader","deed"]) (ds:=[Value.none]) fun _ _ _ _ _ _ us hl=>Z1 (p:=fun us=>∃k,bindArgs _ ⟨us,[]⟩=seqItems? _ >>= k/\k (some _)=pure (List.zip _ (us++[Value.none]))) (Nat.succ.inj (hl)) fun _ _=>⟨_,rfl,rfl⟩
 obtain⟨_,Fheld_for⟩:=z0z X G a37
 obtain⟨_,Fnames_told_of⟩:=z0z X G a38
 obtain⟨_,Fgaps_of⟩:=z0z X G a39
 obtain⟨_,Fset_again⟩:=z0z X G a40
 obtain⟨_,Fstate_of⟩:=z0z X G a41
 obtain⟨_,Fstate_and_held⟩:=z0z X G a42
 obtain⟨_,Fknowledge⟩:=z0z X G a43
 obtain⟨_,Fknown_sets⟩:=z0z X G a44
 obtain⟨_,Fis_choice⟩:=z0z X G a45
 obtain⟨_,Fmay_stand⟩:=z0z X G a46
 obtain⟨_,Ffits⟩:=z0z X G a47
 obtain⟨_,Ftwo_to_the⟩:=z0z X G a48
 obtain⟨_,Fcourse_count⟩:=z0z X G a49
 obtain⟨_,Fagain_count⟩:=z0z X G a50
 obtain⟨_,Ftwo_courses⟩:=z0z X G a51
 obtain⟨_,Fhistory⟩:=z0z X G a52
 obtain⟨_,Ffewest_numbers⟩:=z0z X G a53
 obtain⟨_,Fsend_for⟩:=y7s X G a54 d54
 have X5:=Fsend_for.1.binds (ps:=["shelf","name"]) (ds:=[]) fun _ _ _ _ _ _ us hl=>Z1 (p:=fun us=>∃k,bindArgs _ ⟨us,[]⟩=seqItems? _ >>= k/\k (some _)=pure (List.zip _ (us++[]))) hl fun _ _=>⟨_,rfl,rfl⟩
 have V9:=Fsend_for.1.binds (ps:=["shelf","name"]) (ds:=[Value.none]) fun _ _ _ _ _ _ us hl=>V6 (p:=fun us=>∃k,bindArgs _ ⟨us,[]⟩=seqItems? _ >>= k/\k (some _)=pure (List.zip _ (us++[Value.none]))) (Nat.succ.inj (hl)) fun _=>⟨_,rfl,rfl⟩
 obtain⟨_,F_law_at⟩:=z0z X G a55
 obtain⟨_,F_law_pick⟩:=z0z X G a56
 obtain⟨_,F_law_row⟩:=z0z X G a57
 obtain⟨_,F_law_whole⟩:=z0z X G a58
 obtain⟨_,F_law_same⟩:=z0z X G a59
 obtain⟨_,F_law_named⟩:=z0z X G a60
 obtain⟨_,F_law_doubled⟩:=z0z X G a61
 obtain⟨_,F_law_sets⟩:=z0z X G a62
 obtain⟨_,F_law_value⟩:=z0z X G a63
 obtain⟨_,F_law_valued⟩:=z0z X G a64
 obtain⟨_,F_law_teller⟩:=z0z X G a65
 obtain⟨_,F_law_gaps⟩:=z0z X G a66
 obtain⟨_,F_law_held⟩:=z0z X G a67
 obtain⟨_,F_law_again⟩:=z0z X G a68
 obtain⟨_,F_law_state⟩:=z0z X G a69
 obtain⟨_,F_law_table⟩:=z0z X G a70
 obtain⟨_,F_law_dark⟩:=z0z X G a71
 obtain⟨_,F_law_known⟩:=z0z X G a72
 obtain⟨_,F_law_course⟩:=z0z X G a73
 obtain⟨_,F_law_in_course⟩:=z0z X G a74
 obtain⟨_,F_law_plan⟩:=z0z X G a75
 obtain⟨_,F_law_names⟩:=z0z X G a76
 obtain⟨_,F_law_deeds⟩:=z0z X G a77
 obtain⟨_,F_law_had_at⟩:=z0z X G a78
 obtain⟨_,F_law_play⟩:=z0z X G a79
 obtain⟨_,F_law_name_told⟩:=z0z X G a80
 obtain⟨_,F_law_all_told⟩:=z0z X G a81
 obtain⟨_,F_law_counted⟩:=z0z X G a82
 obtain⟨_,Flaw⟩:=z0z X G a83
 have e:=hfa.symm.trans Flaw.2
 cases e
 refine⟨_,y49 Flaw.1,fun base _ _=>?_⟩
 have T5:=y28 (P:=l.prog) (w:=w) (base:=base) M F_law_same.1 (b2 F_law_same.1) F_law_same.2
 have cal:=@calF l.prog w K mg base
 have mcl:=@mclF l.prog w K mg base
 have mkr:=@mkrF l.prog w K mg base
 have E6:=cal F_law_at (w0Y M F_law_at.1) (b2 F_law_at.1)
 have D4:=cal F_law_pick (y87 F_law_pick.1) (b2 F_law_pick.1)
 have L0:=cal F_law_row (y8P M F_law_row.1) (b3 F_law_row.1)
 have D6:=cal F_law_teller (y3f M F_law_teller.1) (b3 F_law_teller.1)
 have O1:=cal F_law_whole (y5G M F_law_whole.1) (b1 F_law_whole.1)
 have O0:=cal F_law_named (y6l M F_law_named.1) (b2 F_law_named.1)
 have C7:=cal F_law_doubled (y3w M F_law_doubled.1) (b1 F_law_doubled.1)
 have O4:=cal F_law_value (y60 F_law_value.1) (b2 F_law_value.1)
 have J8:=cal Frefuse_bad_names (y1y M Frefuse_bad_names.1) (b1 Frefuse_bad_names.1)
 have J5:=cal Frefuse_bad_reach (y1Z M Frefuse_bad_reach.1) (b1 Frefuse_bad_reach.1)
 have N1:=mcl D5.cl FShelf_put (y8d (A0:=A0) M D5 FShelf_put.1) (b2 FShelf_put.1)
 have B3:=mcl D5.cl FShelf_had (y6v (A0:=A0) M D5 FShelf_had.1) (b1 FShelf_had.1)
 have E4:=cal F_law_held (y6x M F_law_held.1) (b3 F_law_held.1)
 have F9:=cal F_law_again (y6m M F_law_again.1) (b3 F_law_again.1)
 have O3:=cal Freached_by (y3t M Freached_by.1) (b2 Freached_by.1)
 have C5:=cal Frefuse_unknown_name (y8D M Frefuse_unknown_name.1) (b2 Frefuse_unknown_name.1)
 have J3:=cal Frefuse_bad_value (y4F M Frefuse_bad_value.1) (b1 Frefuse_bad_value.1)
 have M3:=cal Frows_in_order (y3b M Frows_in_order.1) (b2 Frows_in_order.1)
 have E3:=cal Fnames_of_rows (y6a M Fnames_of_rows.1) (b1 Fnames_of_rows.1)
 have L3:=mcl F6.cl FOffice_latest (y1V (A6:=A6) M F6 FOffice_latest.1) (b1 FOffice_latest.1)
 have C6:=mcl F6.cl FOffice_issue (y2P (A6:=A6) M F6 FOffice_issue.1) (b2 FOffice_issue.1)
 have F3:=cal Frefuse_bad_readers (y00 M Frefuse_bad_readers.1) (b1 Frefuse_bad_readers.1)
 have B5:=mcl F1.cl FBook_refuse_unknown_reader (y0S (B1:=B1) (A6:=A6) M F1 FBook_refuse_unknown_reader.1) (b2 FBook_refuse_unknown_reader.1)
 have B8:=mcl F1.cl FBook_refuse_further_deed (y2V (B1:=B1) (A6:=A6) M F1 FBook_refuse_further_deed.1) (b1 FBook_refuse_further_deed.1)
 have N8:=mcl F1.cl FBook_deeds (y3x (B1:=B1) (A6:=A6) M F1 FBook_deeds.1) (b1 FBook_deeds.1)
 have K1:=cal Flacking_numbers (y7T M Flacking_numbers.1) (b1 Flacking_numbers.1)
 have P5:=cal Fteller_of (y4g M Fteller_of.1) (b3 Fteller_of.1)
 have L6:=mcl D5.cl FShelf_tail_of (y3Z (A0:=A0) M D5 FShelf_tail_of.1) (b2 FShelf_tail_of.1)
 have E1:=mcl D5.cl FShelf_rows_of (y53 (A0:=A0) M D5 FShelf_rows_of.1) (b2 FShelf_rows_of.1)
 have w0w:=mcl F1.cl FBook_deed (y3X (B1:=B1) (A6:=A6) M F1 FBook_deed.1) (b2 FBook_deed.1)
 have J1:=cal Ftwo_to_the (y8q M Ftwo_to_the.1) (b1 Ftwo_to_the.1)
 have K9:=cal F_law_course (y3c M F_law_course.1) (b3 F_law_course.1)
 have F4:=cal F_law_in_course (y0x M F_law_in_course.1) (b3 F_law_in_course.1)
 have P8:=cal Fis_choice (y5y M Fis_choice.1) (b2 Fis_choice.1)
 have K8:=cal F_law_had_at (y5z M F_law_had_at.1) (b3 F_law_had_at.1)
 have P7:=cal F_law_sets (y7V M F_law_sets.1 L0.up C7.up) (b3 F_law_sets.1)
 have N2:=cal F_law_valued (y4e M F_law_valued.1 L0.up O4.up) (b2 F_law_valued.1)
 have O5:=cal F_law_names (y5S F_law_names.1 E6.up D4.up O0.up) (b1 F_law_names.1)
 have D8:=cal Fbulletin_names (y1q M Fbulletin_names.1 J8.up J5.up) (b2 Fbulletin_names.1)
 have M9:=mcl D5.cl FShelf_latest (y58 (A0:=A0) M D5 FShelf_latest.1 B3.up) (b1 FShelf_latest.1)
 have E5:=cal F_law_gaps (y7F M F_law_gaps.1 D6.up) (b3 F_law_gaps.1)
 have C9:=cal F_law_state (y3Q M F_law_state.1 F9.up) (b3 F_law_state.1)
 have R4:=cal Ftail_for (y7E M Ftail_for.1 O3.up) (b2 Ftail_for.1)
 have K0:=cal Frefuse_bad_rows (y2R M Frefuse_bad_rows.1 C5.up J3.up) (b2 Frefuse_bad_rows.1)
 have M5:=mcl F1.cl FBook_deliver (y13 (B1:=B1) (A6:=A6) M F1 FBook_deliver.1 C6.up B5.up B8.up) (b3 FBook_deliver.1)
 have C4:=cal Flacking_with_tellers (y8h M Flacking_with_tellers.1 K1.up P5.up) (b2 Flacking_with_tellers.1)
 have M0:=cal Fnames_told_of (y83 (A0:=A0) M D5 Fnames_told_of.1 L6.up) (b3 Fnames_told_of.1)
 have C2:=cal Fheld_for (y3j (A0:=A0) M D5 Fheld_for.1 C5.up B3.up E1.up) (b2 Fheld_for.1)
 have w01:=mcl F1.cl FBook_latest (y1s (B1:=B1) (A6:=A6) M F1 FBook_latest.1 L3.up) (b1 FBook_latest.1)
 have w04:=mcl F1.cl FBook_issue (y3d (B1:=B1) (A6:=A6) M F1 FBook_issue.1 C6.up) (b2 FBook_issue.1)
 have F7:=cal F_law_dark (y61 M F_law_dark.1 D6.up) (b2 F_law_dark.1)
 have O6:=cal F_law_known (y5v M F_law_known.1 D6.up) (b3 F_law_known.1)
 have P6:=cal Fmay_stand (y6c M Fmay_stand.1 P8.up) (b3 Fmay_stand.1)
 have N7:=cal F_law_deeds (y4z M F_law_deeds.1 D4.up) (b4 F_law_deeds.1)
 have U1:=mkr D5.mgC FShelf___init__ (y3C (A0:=A0) M D5 FShelf___init__.1 D8.up) (b3 FShelf___init__.1)
 have J0:=cal F_law_table (y6h M F_law_table.1 E5.up E4.up C9.up) (b4 F_law_table.1)
 have U0:=mkr F6.mgC FOffice___init__ (y4b (A6:=A6) M F6 FOffice___init__.1 D8.up) (b3 FOffice___init__.1)
 have C1:=mcl F6.cl FOffice_refuse_writing (y3s (A6:=A6) M F6 FOffice_refuse_writing.1 K0.up) (b2 FOffice_refuse_writing.1)
 have D2:=cal Fdark_numbers (y7h M Fdark_numbers.1 C4.up) (b2 Fdark_numbers.1)
 have J4:=cal Fgaps_of (y3D (A0:=A0) M D5 Fgaps_of.1 B3.up C4.up M0.up) (b1 Fgaps_of.1)
 have P9:=cal F_law_plan (y7G M F_law_plan.1 O1.up F7.up) (b4 F_law_plan.1)
 have M8:=mcl F6.cl FOffice_write (y3z (A6:=A6) M F6 FOffice_write.1 C1.up E3.up M3.up R4.up) (b2 FOffice_write.1)
 have X6:=mkr F1.mgC FBook___init__ (y51 (B1:=B1) (A6:=A6) M F1 FBook___init__.1 U0.up F3.up) (b4 FBook___init__.1)
 have F0:D9 l.prog w K mg base 6 B1 "shelf" z2G (z50 (BkD K B1 A6) (ShD K A0)):=.mk' F1.cl (z9R (B1:=B1) (A6:=A6) (A0:=A0) M F1 F6 FBook_shelf.1 C6.up B5.up U1.up N1.up) U6 FBook_shelf.2
 have Z5:X8 l.prog w K mg base 6 B1 "shelf" z2G (z50 (BkD K B1 A6) (ShD K A0)) [V.non]:=.mk' (.cons rfl .nil) F1.cl (z9R (B1:=B1) (A6:=A6) (A0:=A0) M F1 F6 FBook_shelf.1 C6.up B5.up U1.up N1.up) T9 FBook_shelf.2
 have B6:=cal Fdark_numbers_behind (y5e M Fdark_numbers_behind.1 D2.up) (b3 Fdark_numbers_behind.1)
 have J9:=cal Fset_again (y1P (A0:=A0) M D5 Fset_again.1 C2.up J4.up) (b2 Fset_again.1)
 have E7:=cal Fcourse_count (y5H (A0:=A0) M D5 Fcourse_count.1 B3.up D2.up J1.up) (b1 Fcourse_count.1)
 have I0:=cal Fknown_sets (y6D (A0:=A0) M Fknown_sets.1 B3.up E1.up E3.up J4.up) (b1 Fknown_sets.1)
 have M4:=mcl F1.cl FBook_write (y2Y (B1:=B1) (A6:=A6) M F1 FBook_write.1 C1.up M8.up B8.up) (b2 FBook_write.1)
 have C8:=cal Fstate_of (y3r (A0:=A0) M D5 Fstate_of.1 C2.up J9.up B3.up B6.up) (b2 Fstate_of.1)
 have F5:=cal Ffewest_numbers (y3M M Ffewest_numbers.1 B6.up) (b3 Ffewest_numbers.1)
 have Y2:=cal Ffits (y7g (A0:=A0) M D5 Ffits.1 I0.up P6.up) (b2 Ffits.1)
 have D3:=cal Fstate_and_held (y1a (A0:=A0) M Fstate_and_held.1 C2.up C8.up) (b2 Fstate_and_held.1)
 have w0A:Cal l.prog w K mg base 6 "send_for" z55 (z6y (ShD K A0)):=.mk' (z9n (A0:=A0) M D5 Fsend_for.1 C2.up C8.up B3.up F5.up) X5 Fsend_for.1.kp Fsend_for.2
 have P1:S3 l.prog w K mg base 6 "send_for" z55 (z6y (ShD K A0)) [V.non]:=.mk' (.cons rfl .nil) (z9n (A0:=A0) M D5 Fsend_for.1 C2.up C8.up B3.up F5.up) V9 Fsend_for.1.kp Fsend_for.2
 have N3:=cal Fagain_count (y4V (A0:=A0) M D5 Fagain_count.1 C2.up C8.up B3.up E7.up J1.up B6.up) (b2 Fagain_count.1)
 have N4:=cal Ftwo_courses (z9h (A0:=A0) M D5 Ftwo_courses.1 C8.up I0.up B3.up D2.up) (b2 Ftwo_courses.1)
 have Q0:=cal F_law_play (y5N (B1:=B1) (Bk:=(BkD K B1 A6)) M F_law_play.1 S7 M4.up M5.up) (b3 F_law_play.1)
 have P4:=cal Fknowledge (y1e (A0:=A0) M D5 Fknowledge.1 D3.up) (b1 Fknowledge.1)
 have S2:=cal Fhistory (y2W (B1:=B1) (A6:=A6) (A0:=A0) M Fhistory.1 D3.up F0.up N8.up) (b3 Fhistory.1)
 have K5:=cal F_law_name_told (y1K (Sh:=(ShD K A0)) M F_law_name_told.1 F2.same (T5 5) C9.up F9.up K9.up F4.up C2.up J9.up C8.up N4.up) (b6 F_law_name_told.1)
 have M6:=cal F_law_counted (y2Z (A0:=A0) (Sh:=(ShD K A0)) M F_law_counted.1 F2 (T5 5) E5.up F7.up C7.up E4.up C9.up N3.up Y2.up) (b5 F_law_counted.1)
 have L8:=cal F_law_all_told (y2U (A0:=A0) (Sh:=(ShD K A0)) M F_law_all_told.1 F2 (T5 5) E5.up O6.up J0.up C7.up E4.up C9.up K5.up P9.up B3.up M9.up J4.up P4.up E7.up P1.up) (b5 F_law_all_told.1)
 exact y8B M Flaw.1 S7 F2 E6.up D4.up O5.up P7.up N2.up (T5 5) J0.up L8.up M6.up N7.up K8.up Q0.up S2.up X6.up F0.up
theorem walk{l:PySem.W.OpenLaw}{q:Program}{loose:List Str}{XP:(Str->Option Value)->Heap->Prop}{YP:World->Heap->Prop}{d:DefRec}{K:Params->PySem.W.Frag}(hn:l.most=some 63)(hdf:d.params.defaults=[])
  (hY:∀(w:World) (h:Heap),YP w h->(K w.params).In h)
  (F:∀(w:World) (mg:Str->Option Value) (fa:Addr) (h:Heap),(K w.params).In h->h.Ns mainGlobals mg->mg d.name=some (.ref fa)->
   ∃fd:FuncData,(∀(s:Shared) (u:Value),BindsTo s fd ⟨[u],[]⟩ [("_law_script",u)])/\∀base:Heap,(K w.params).In base->base.Ns mainGlobals mg->B4 l.prog w (K w.params) mg base CX0 14 fa fd ["_law_script"] (y64 (K w.params))) :
  PySem.W.WalkO q loose XP YP l.row.toRowW d [] (fun f vs=>PySem.call f vs):=
 L2.y7H (n:=63) (k:=14) (x:="_law_script") (CX:=fun _=>CX0) (sp:=fun w=>y64 (K w.params)) hn (by decide) hdf ⟨rfl,by decide,by decide⟩ hY F (fun _ _ a ns hl _ hS=>⟨a,ns,rfl,hS,hl,fun _=>rfl⟩) fun _ _ _ _ _ z=>z
theorem w1y{q:Program}{loose:List Str}{XP:(Str->Option Value)->Heap->Prop}{r:PySem.W.RowW}{d:DefRec}{kwd:List (Str×Expr)}{run:Value->List Value->Sem Value}{K:Params->PySem.W.Frag}{ks:List Addr}{n t:Nat}(e:∀P,ks=(K P).map (·.1))
  (W:PySem.W.WalkO q loose XP (fun w h=>(K w.params).In h) r d kwd run):PySem.W.WalkX q loose XP (PySem.W.X.obsZ ks) (PySem.W.X.valZ K n t) r d kwd run:=
 fun w s₀ s₁ mg mb G y a o pm cd doc dV kV h1 h2 h3 h4 h5 h6 args vals as L g1 g2 g3 g4 g5=>W w s₀ s₁ mg mb G (PySem.W.InK.keeps w s₀.heap s₁.heap (PySem.W.X.z_facts e y).2.1 L.keeps) a o pm cd doc dV kV h1 h2 h3 h4 h5 h6 args vals as g1 g2 g3 g4 g5
end My
namespace PySem.W.Fast
def tw10020975236076121872:=()
def tw10023457499531772011:=()
def tw10056183325042645488:=()
def tw10089091717016019094:=()
def tw10109443031686962076:=()
def tw10130552052362097850:=()
def tw10136638257087745607:=()
def tw10160396758008399344:=()
def tw10274122519230380920:=()
def tw10318448003238176007:=()
def tw10330335348318713472:=()
def tw1033380065681450395:=()
def tw10383126932478276542:=()
def tw10423183638779954134:=()
def tw10436156598455952927:=()
def tw10525594316822810247:=()
def tw10529335592797459079:=()
def tw10586916711767811280:=()
def tw10607619354325856485:=()
def tw10609540596751428826:=()
def tw10664438096515742505:=()
def tw10666683169524220611:=()
def tw10690340967530763011:=()
def tw10694097489106145322:=()
def tw10735394292086170463:=()
def tw1073968804285040720:=()
def tw10842746381109519994:=()
def tw10895850497470226205:=()
def tw10916346521036955777:=()
def tw1092557317703304785:=()
def tw10934166177785346403:=()
def tw10941903958610012213:=()
def tw1096162613871535201:=()
def tw10968296972543879117:=()
def tw10980034996622568455:=()
def tw10982460934771261628:=()
def tw1101923077471890548:=()
def tw11050673071663644987:=()
def tw11056925533809154720:=()
def tw11057334861483924493:=()
def tw11153557669448791836:=()
def tw11163555038995785496:=()
def tw11203926956596037910:=()
def tw1124175590197609203:=()
def tw11258270491210114913:=()
def tw11354206819855781365:=()
def tw11378812338272470928:=()
def tw11399702814150291259:=()
def tw11420979858543986437:=()
def tw11457789276839557718:=()
def tw11556295673762275758:=()
def tw11556566186595234924:=()
def tw11561333702337766096:=()
def tw1159012562559805692:=()
def tw11613221583467525923:=()
def tw11653431835762896776:=()
def tw11695377727471896318:=()
def tw11715232833902348490:=()
def tw11719289759518122000:=()
def tw1175080379778327918:=()
def tw11751731190116801954:=()
def tw11777239793871838975:=()
def tw11782077107730751035:=()
def tw1183669818736125211:=()
def tw1185520912233627441:=()
def tw11867684547075183378:=()
def tw11872449631176207628:=()
def tw11966569733691365025:=()
def tw11988804562823433050:=()
def tw11990105155365116968:=()
def tw11991203025947849854:=()
def tw12159476818296653164:=()
def tw12189926790610243061:=()
def tw12194090182699120829:=()
def tw12232328979354815162:=()
def tw12233773672703049008:=()
def tw12261410344865965380:=()
def tw12269980943963234813:=()
def tw12297110334417715368:=()
def tw12313122387228696139:=()
def tw1239865017344765006:=()
def tw12403908991079496532:=()
def tw12487977950440514476:=()
def tw12638707784069933663:=()
def tw12652243912831138052:=()
def tw12762331029296032133:=()
def tw12775570222094826681:=()
def tw12822212180781910990:=()
def tw12872409768029720457:=()
def tw12875709611851409209:=()
def tw12878592857727328727:=()
def tw12915202746515896099:=()
def tw12931642881547828086:=()
def tw12934531905436019605:=()
def tw12951139464143768449:=()
def tw12959866154992457380:=()
def tw12982039136804539917:=()
def tw13015668090904432701:=()
def tw13049803423558885124:=()
def tw13087585189371237481:=()
def tw13099700948203419547:=()
def tw13105986249741400045:=()
def tw13117648172250405866:=()
def tw13148017440433929024:=()
def tw13157987596786239600:=()
def tw13224314498633392952:=()
def tw13277185926694327156:=()
def tw13323143668157465655:=()
def tw13355732366405023265:=()
def tw13400690418369880278:=()
def tw13401575002901650502:=()
def tw13444109138932990456:=()
def tw1347269171196800585:=()
def tw13480327559352869632:=()
def tw13487790178704930493:=()
def tw13494598823599629474:=()
def tw13536615742443721073:=()
def tw13551823832305470874:=()
def tw13568530613581466094:=()
def tw13590311760005202112:=()
def tw13628053512445051704:=()
def tw13739656431104830168:=()
def tw13783783596061869594:=()
def tw13810620805548917607:=()
def tw13983322401935235216:=()
def tw14006423600503460045:=()
def tw14063058707160216360:=()
def tw14105699750763044445:=()
def tw14127826319312217938:=()
def tw14214872187699476702:=()
def tw14219215198585847752:=()
def tw1423791352235664413:=()
def tw14305634550524609769:=()
def tw14305657612463930273:=()
def tw14306691874409876574:=()
def tw14315569483335975090:=()
def tw14380128610380367840:=()
def tw14407309778716832154:=()
def tw14418617732066523545:=()
def tw14468926007647873621:=()
def tw14515494739535269398:=()
def tw14551037171631640538:=()
def tw14624506451354095284:=()
def tw14651991046533507254:=()
def tw14685411243013863184:=()
def tw14710443220188486881:=()
def tw14746534850391921870:=()
def tw14833176041026738770:=()
def tw1483530635892865199:=()
def tw14886348433471598231:=()
def tw14897421643545288222:=()
def tw14897609843504847464:=()
def tw14910191515954374405:=()
def tw14930855585873816950:=()
def tw1495191949985413505:=()
def tw15026434271213175621:=()
def tw15041417507034639140:=()
def tw15046842787920259645:=()
def tw1504701069298397276:=()
def tw15067674200471714116:=()
def tw15069771367641320971:=()
def tw15076955628619450143:=()
def tw15080619948491555309:=()
def tw15096172919040726222:=()
def tw15189991651995903011:=()
def tw15264093774796789691:=()
def tw15265578953947640984:=()
def tw15302895430189175842:=()
def tw15303311736184441503:=()
def tw15326608275288852333:=()
def tw15367833734208868338:=()
def tw15388921453822364863:=()
def tw1539457961071843738:=()
def tw15400195483276385758:=()
def tw15434488064471626638:=()
def tw15444148366913417098:=()
def tw15461730483671206930:=()
def tw15504299580061471202:=()
def tw1551821880568513425:=()
def tw15651768043678700259:=()
def tw15679942576322180315:=()
def tw15690100655831763787:=()
def tw15715465056774726330:=()
def tw1571768038262970435:=()
def tw158201308487219271:=()
def tw15839830277481064662:=()
def tw15860646819486119039:=()
def tw15876535088445110797:=()
def tw15946494617745183088:=()
def tw15959956282526827317:=()
def tw15985427070723971374:=()
def tw16001634140161987373:=()
def tw16031198762416426609:=()
def tw160318406966674006:=()
def tw1604805285073919288:=()
def tw16065970248918230515:=()
def tw16075562911131736156:=()
def tw16136217066492184225:=()
def tw16143511605305788980:=()
def tw16174020404364463061:=()
def tw16247217365710237768:=()
def tw16268027350341259831:=()
def tw16359043656617914890:=()
def tw16417913882494280359:=()
def tw16452668257687870080:=()
def tw16481164892350127416:=()
def tw16485219474662086343:=()
def tw16514001377382871217:=()
def tw16613994995060273145:=()
def tw16625454467075764444:=()
def tw16692713699052444371:=()
def tw16693256408511528563:=()
def tw16742286613029260643:=()
def tw16751256230487153225:=()
def tw1679071556900823298:=()
def tw1682889120947417100:=()
def tw16834857199782116674:=()
def tw1687806814476222413:=()
def tw16953472631899393569:=()
def tw1696266103686084991:=()
def tw16981089656177574318:=()
def tw16984543446371287300:=()
def tw17057395910697406936:=()
def tw17064881779842305701:=()
def tw17118155292245482062:=()
def tw17126076891896381996:=()
def tw17205226082146250489:=()
def tw17233231470115823155:=()
def tw17242716564750444726:=()
def tw17264017847384871456:=()
def tw17313068720447907298:=()
def tw17358821938859994023:=()
def tw17422738548928110377:=()
def tw17437641356779214541:=()
def tw17465683580312836547:=()
def tw1747415903316381977:=()
def tw17476438192529015259:=()
def tw17573114754990106658:=()
def tw17677113995300682774:=()
def tw17715780786503045217:=()
def tw1773963458870453248:=()
def tw17743995360363137889:=()
def tw17816033101932988800:=()
def tw17822630871220323124:=()
def tw17830064520625780615:=()
def tw17860324008882790008:=()
def tw17892222103724511248:=()
def tw17894260305358882048:=()
def tw17939135110363087185:=()
def tw17988137299404515648:=()
def tw18098846429203732301:=()
def tw18153012830795691928:=()
def tw18196918558463335301:=()
def tw18258665127909916469:=()
def tw18425114869748100506:=()
def tw1893041225732472729:=()
def tw1961268342129735071:=()
def tw1968396218462533348:=()
def tw1969067232738114993:=()
def tw2033466824405437231:=()
def tw2068932856506249075:=()
def tw2096313747036888515:=()
def tw2182810533918234125:=()
def tw220268030462635913:=()
def tw2223144581485341576:=()
def tw2223355171412558353:=()
def tw2278339891017676715:=()
def tw2286264343305711512:=()
def tw231404285921640357:=()
def tw2359119600326910052:=()
def tw2418884337435713584:=()
def tw2423225228482934118:=()
def tw2441377227616141794:=()
def tw2497848557684168707:=()
def tw2505506285799172265:=()
def tw2525838228526581331:=()
def tw2624772196478398365:=()
def tw262964866665542456:=()
def tw2708279607032451827:=()
def tw2739930947344541702:=()
def tw2743492012856867537:=()
def tw2770147807180156290:=()
def tw2770174874677080468:=()
def tw2771729125208980848:=()
def tw2821070955586763583:=()
def tw2845381994574601166:=()
def tw2852359903786297355:=()
def tw2853660790035630255:=()
def tw2910663968911876922:=()
def tw2924655734285799555:=()
def tw2948698301562424321:=()
def tw2962942050112111525:=()
def tw3006391428493592261:=()
def tw3022735848809217583:=()
def tw305922531975379341:=()
def tw3095437864704308691:=()
def tw3121382560099348096:=()
def tw3154199512708178344:=()
def tw3171135676086028875:=()
def tw3192115238486657791:=()
def tw3199369072522907191:=()
def tw3226650215288134959:=()
def tw3238089093728616045:=()
def tw3270288894584049270:=()
def tw3305765976096939996:=()
def tw333456821719661004:=()
def tw3383347464681536038:=()
def tw3401680893789168521:=()
def tw3423518560955595226:=()
def tw3450279587443666089:=()
def tw3478235148782059479:=()
def tw3492508817336939854:=()
def tw3589472338820623449:=()
def tw3620111567794337077:=()
def tw3662005016068847124:=()
def tw3678909262869723986:=()
def tw3723413925606250453:=()
def tw3739517103481742233:=()
def tw3835554164543824277:=()
def tw383953155707561612:=()
def tw3888198911167778993:=()
def tw3933376742382009786:=()
def tw4007333502769543838:=()
def tw4106974877261608325:=()
def tw4116648494508320869:=()
def tw4144902614269738935:=()
def tw4176564055672099155:=()
def tw423231739530781223:=()
def tw4244525580799013254:=()
def tw4371184505184679772:=()
def tw4383834588516119680:=()
def tw4436470139072482038:=()
def tw4457798139236713767:=()
def tw4496454336231202952:=()
def tw4500136617014379800:=()
def tw4570223817393792812:=()
def tw4577254263938598536:=()
def tw4592463530166336597:=()
def tw4611179083250441560:=()
def tw4670520725217292335:=()
def tw4681278036855247215:=()
def tw4710051189159181121:=()
def tw4744905126528670668:=()
def tw474640743729853207:=()
def tw4802054923956528433:=()
def tw4811996838712974420:=()
def tw4851358672109758887:=()
def tw4910439522811964251:=()
def tw495461928649708877:=()
def tw4970922148301125793:=()
def tw4983394177201141087:=()
def tw5008419054524072209:=()
def tw5047746796149658388:=()
def tw5055399192543148427:=()
def tw5128189660593499484:=()
def tw5133321443967792911:=()
def tw5174330573804639378:=()
def tw5205203538897242961:=()
def tw5247268265603280658:=()
def tw5363705269258827594:=()
def tw5425660788146735065:=()
def tw5429252182297057305:=()
def tw5459897513257101119:=()
def tw5461283683232595639:=()
def tw549467749921815477:=()
def tw5521829789239689149:=()
def tw5643575907694391015:=()
def tw5687792748032832410:=()
def tw5692990229423921340:=()
def tw5748632724556211149:=()
def tw5786487121089270527:=()
def tw5788294822349370836:=()
def tw5841111563847434831:=()
def tw5864927838027819027:=()
def tw6009696007607308093:=()
def tw614688368926605814:=()
def tw6175423785463375417:=()
def tw618673233823900740:=()
def tw6194751123434678910:=()
def tw6229023600485192815:=()
def tw636751032915163786:=()
def tw638534489123292759:=()
def tw6399938857580449669:=()
def tw6419930133438285019:=()
def tw6436526116612008914:=()
def tw6486060617340826127:=()
def tw6568657550906293322:=()
def tw6591155879687284168:=()
def tw6603867852454702373:=()
def tw6677025710377844110:=()
def tw6721560534982432968:=()
def tw6737558139064511167:=()
def tw677697590464641547:=()
def tw6836202364568142741:=()
def tw6890825448755361665:=()
def tw689548606146028395:=()
def tw691656876472649681:=()
def tw6937104895579153675:=()
def tw6943948860570050207:=()
def tw6961590300656348319:=()
def tw6964257433458222768:=()
def tw6982751537969711680:=()
def tw6983451106854947383:=()
def tw6987699054544171274:=()
def tw7009283827137146003:=()
def tw7083054380900204498:=()
def tw7083833177258939638:=()
def tw7101046917279011263:=()
def tw7129444974993472889:=()
def tw7185158381192152640:=()
def tw7191943368412593509:=()
def tw7206365556991788716:=()
def tw7259213978691213761:=()
def tw7266398798752588531:=()
def tw7309792154784883561:=()
def tw7329438323469697238:=()
def tw7349302527643252962:=()
def tw7370528419769510686:=()
def tw741305808257306496:=()
def tw7422066549239323540:=()
def tw7435990492663337659:=()
def tw7538219436303650924:=()
def tw7631751985899974587:=()
def tw7718517983583352706:=()
def tw7734973344504890087:=()
def tw7749141088760208766:=()
def tw7817315604482438485:=()
def tw7824315494231478538:=()
def tw7848944559758036037:=()
def tw7849837344913011153:=()
def tw7910692051522063050:=()
def tw7984419314772787474:=()
def tw8037533880469852028:=()
def tw8054430815437250447:=()
def tw8092449709470291964:=()
def tw813927714223901793:=()
def tw8151264581151792:=()
def tw8167770699830680878:=()
def tw8179942290361568781:=()
def tw8219754339382735401:=()
def tw8222122021153041730:=()
def tw8287578827068830664:=()
def tw8363363417225056408:=()
def tw8367628209383152854:=()
def tw8390750175883830367:=()
def tw8531454605983464873:=()
def tw8553606037518156601:=()
def tw8610329425680493922:=()
def tw8631516738127485595:=()
def tw8648600385676490042:=()
def tw8670305802613439448:=()
def tw86856929669278379:=()
def tw8701533673367258704:=()
def tw8753260426735602938:=()
def tw8782362712577205701:=()
def tw8811776341230964103:=()
def tw8820398453955539267:=()
def tw8851400033926275642:=()
def tw8861254320870000147:=()
def tw9030691995151642230:=()
def tw9061687331855938368:=()
def tw908608373465622788:=()
def tw9104412782443188565:=()
def tw9123813241993205108:=()
def tw9194900729505394421:=()
def tw9245145644276719539:=()
def tw925645735712804789:=()
def tw9261327461298440216:=()
def tw9272847459475870439:=()
def tw932874293194396860:=()
def tw9330632815695306776:=()
def tw936138102670812221:=()
def tw9397967788307114652:=()
def tw9410295601175990667:=()
def tw9433428253475385723:=()
def tw9434390125967522096:=()
def tw9474055288073524299:=()
def tw949121861202962253:=()
def tw951781177232848923:=()
def tw9577353994116511330:=()
def tw9615792082237132762:=()
def tw9619511486938407029:=()
def tw9653042340296665554:=()
def tw9669141385676556278:=()
def tw9750575267009450697:=()
def tw9764289065718913462:=()
def tw9783235518988451086:=()
def tw9814398364291516057:=()
def tw9840529177124065333:=()
def tw9854327065689103217:=()
def tw9932563196012173547:=()
def tw9985084876494756523:=()
end PySem.W.Fast
open PySem PySem.W PyProof.Rows
set_option maxRecDepth 100000 in
set_option maxHeartbeats 0 in
theorem PySem.Challenge.cw_backissues_k46_whole_any_deed_holds : PySem.Challenge.rw_backissues_k46_whole_any_deed.Holds := by
 w_on; o_law; z_head; (case hw => w_witness2)
 k_fill
 refine My.w1y (fun _ => by kernel_rfl) ?_
 refine My.walk (l := PySem.Challenge.rw_backissues_k46_whole_any_deed) rfl rfl (fun w h Y => Y) ?F
 case F =>
  intro w mg fa h KX G hmg
  refine' My.y8O KX G hmg ?cOffice ?cShelf ?cBook ?nOffice_names ?nOffice_reach ?nOffice_written ?nShelf_names ?nShelf_reach ?nShelf_issues ?nBook_office ?nBook_readers ?nBook_done ?a0 ?a1 ?a2 ?a3 ?a4 ?a5 ?a6 ?a7 ?a8 ?a9 ?a10 ?a11 ?a12 ?a13 ?a14 ?a15 ?a16 ?a17 ?a18 ?a19 ?a20 ?a21 ?a22 ?a23 ?a24 ?a25 ?a26 ?a27 ?a28 ?a29 ?a30 ?a31 ?a32 ?a33 ?a34 ?a35 ?a36 ?a37 ?a38 ?a39 ?a40 ?a41 ?a42 ?a43 ?a44 ?a45 ?a46 ?a47 ?a48 ?a49 ?a50 ?a51 ?a52 ?a53 ?a54 ?a55 ?a56 ?a57 ?a58 ?a59 ?a60 ?a61 ?a62 ?a63 ?a64 ?a65 ?a66 ?a67 ?a68 ?a69 ?a70 ?a71 ?a72 ?a73 ?a74 ?a75 ?a76 ?a77 ?a78 ?a79 ?a80 ?a81 ?a82 ?a83 ?d36 ?d54 ?zlen ?zrange ?ztuple ?zlist ?zmax ?zmin ?zsorted ?zisinstance ?zbool ?zint ?zstr ?zset ?zreversed ?zdict ?zzip ?zall ?vMOST_NAMES ?vMOST_REACH ?vMOST_NUMBERS ?vMOST_VALUE ?vMOST_READERS ?vMOST_DEEDS ?vWRITE ?vDELIVER ?vSURE ?vSTALE ?vOPEN
  case' cOffice | cShelf | cBook => exact ⟨by k_is, by k_is, by k_is, by k_is, by k_is, by k_is, by k_is⟩
  case' nOffice_names | nOffice_reach | nOffice_written | nShelf_names | nShelf_reach | nShelf_issues | nBook_office | nBook_readers | nBook_done => k_is
  case' a0 | a1 | a2 | a3 | a4 | a5 | a6 | a7 | a8 | a9 | a10 | a11 | a12 | a13 | a14 | a26 | a37 | a38 | a39 | a40 | a41 | a42 | a43 | a44 | a45 | a46 | a47 | a48 | a49 | a50 | a51 | a52 | a53 | a54 | a55 | a56 | a57 | a58 | a59 | a60 | a61 | a62 | a63 | a64 | a65 | a66 | a67 | a68 | a69 | a70 | a71 | a72 | a73 | a74 | a75 | a76 | a77 | a78 | a79 | a80 | a81 | a82 | a83 => exact ⟨by k_is, _, _, _, _, _, _, _, _, _, by k_is, by k_is, by k_is⟩
  case' a15 | a16 | a17 | a18 | a19 | a20 | a21 | a22 | a23 | a24 | a25 | a27 | a28 | a29 | a30 | a31 | a32 | a33 | a34 | a35 | a36 => exact ⟨by k_is, by k_is, _, _, _, _, _, _, _, _, _, by k_is, by k_is, by k_is⟩
  case' d36 | d54 => exact ⟨_, _, _, _, by k_is⟩
  case' zlen | zrange | ztuple | zlist | zmax | zmin | zsorted | zisinstance | zbool | zint | zstr | zset | zreversed | zdict | zzip | zall | vMOST_NAMES | vMOST_REACH | vMOST_NUMBERS | vMOST_VALUE | vMOST_READERS | vMOST_DEEDS | vWRITE | vDELIVER | vSURE | vSTALE | vOPEN => k_is