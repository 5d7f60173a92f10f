import PyProof.Rows.All
import Wide.All
import OpenK.AllK
import Wide.FinOn
import Lean
import PyProof.EqAt
import PyProof.EqKinds
import PyProof.TupleCall
import PyProof.WalksMore
import PyProof.ListRange
import PyProof.NeKinds
import PyProof.SliceStr2
import PyProof.StrOps2
import PyProof.Rows.SetFrom
import PyProof.MinMaxWalk
import KE.KRevIter
import KE.KDictList
import PyProof.AttrMiss
import PyProof.IsiH_list
import PyProof.IsiH_tuple
import KE.KDictOf
import PyProof.ZipIter
import PyProof.TupleIter
import PySem.Challenge.RW_backissues_k44_whole_nothing_else
set_option Elab.async false
set_option linter.all false
set_option maxHeartbeats 4000000
set_option maxRecDepth 100000
abbrev b9:=@List.length_map
abbrev bA:=@PySem.Heap.get?_push_of_some
abbrev bB:=@List.mem_singleton
abbrev bC:=@List.getElem?_map
abbrev bD:=@List.getElem?_eq_getElem
abbrev bE:=@List.mem_cons
abbrev bF:=@List.map_append
abbrev bG:=@List.length_take
abbrev bH:=@PyProof.Rows.boot_tuple
abbrev bI:=@Nat.le_refl
abbrev bJ:=@List.size_toArray
abbrev bK:=@List.getD_eq_getElem?_getD
abbrev bL:=@PySem.Heap.get?_push_size
abbrev bM:=@Bool.false_ne_true
abbrev bN:=@List.length_append
abbrev bO:=@PySem.boot_len
abbrev bP:=@List.mem_of_getElem?
abbrev bQ:=@PySem.Heap.lt_size
abbrev bR:=@PySem.PassesOwn.never
abbrev bS:=@List.mem_append
abbrev bT:=@List.take_length
abbrev bU:=@Option.map_eq_some_iff
abbrev bV:=@List.getElem?_eq_some_iff
abbrev bW:=@PySem.F.plainAttrs_list
abbrev bX:=@PySem.F.slot_list_append
abbrev bY:=@PySem.F.type_list_append
abbrev bZ:=@List.mem_cons_of_mem
abbrev c6:=@List.length_filter_le
abbrev cC:=@List.mem_cons_self
abbrev cG:=@Bool.and_eq_true
abbrev cH:=@PyProof.Rows.boot_isinstance
abbrev cI:=@List.mem_append_right
abbrev cJ:=@Nat.ne_of_lt
abbrev cK:=@List.mem_filter
abbrev cL:=@Nat.le_trans
abbrev cM:=@List.mem_map
abbrev cN:=@List.length_cons
abbrev cO:=@List.take_of_length_le
abbrev cP:=@PySem.Around.under_plainId
abbrev cQ:=@List.mem_append_left
abbrev cR:=@List.append_nil
abbrev cS:=@List.map_cons
abbrev cT:=@List.take_zero
abbrev cU:=@Nat.lt_of_lt_of_le
abbrev cV:=@PySem.W.mg_none_of
abbrev cW:=@PySem.Heap.get?_update_other
abbrev cX:=@List.pairwise_append
abbrev cY:=@Int.emod_lt_of_pos
abbrev cZ:=@Nat.zero_le
abbrev d6:=@List.not_mem_nil
abbrev d7:=@List.exists_cons_of_length_eq_add_one
abbrev d8:=@Bool.eq_iff_iff
abbrev d9:=@Int.emod_nonneg
abbrev dA:=@List.length_drop
abbrev dB:=@List.nodup_cons
abbrev dC:=@Ne.symm
abbrev dD:=@PyProof.Rows.boot_max
abbrev dE:=@PyProof.Rows.slot_tuple_getitem
abbrev dF:=@PySem.W.mg_of
abbrev dG:=@List.nodup_iff_pairwise_ne
abbrev dH:=@List.filter_append
abbrev dI:=@List.foldl_cons
abbrev dJ:=@PySem.F.plain_max_loop
abbrev dL:=@PySem.F.plain_min_loop
abbrev dM:=@List.filter_cons
abbrev dN:=@List.getElem?_append_left
abbrev dO:=@List.pairwise_map
abbrev dP:=@Nat.lt_irrefl
abbrev dQ:=@PySem.Heap.get?_update_self
abbrev dR:=@List.map_map
abbrev dS:=@PySem.W.kia_one
abbrev dU:=@List.find?_cons
abbrev dW:=@PyProof.Rows.callWith_type1
abbrev dX:=@Nat.le_of_lt
abbrev dY:=@PySem.Heap.size_push
abbrev dZ:=@List.eq_nil_of_length_eq_zero
abbrev eB:=@List.getElem?_take_of_lt
abbrev eF:=@List.pairwise_singleton
abbrev eI:=@List.map_congr_left
abbrev eJ:=@List.getElem?_append_right
abbrev eM:=@List.length_singleton
abbrev eQ:=@Nat.lt_of_le_of_lt
abbrev eS:=@Int.le_refl
abbrev eU:=@Nat.ne_of_gt
abbrev eV:=@List.append_assoc
abbrev eX:=@List.getElem_mem
abbrev eY:=@Bool.false_eq_true
abbrev eZ:=@Int.zero_add
abbrev fA:=@PyProof.Rows.boot_min
abbrev fB:=@List.filter_nil
abbrev fE:=@PySem.F.slot_tuple_iterator_next
abbrev fF:=@Int.toNat_natCast
abbrev fG:=@Nat.lt_succ_of_lt
abbrev fH:=@List.take_add_one
abbrev fI:=@Bool.eq_false_iff
abbrev fJ:=@PySem.F.slot_tuple_getattribute
abbrev fK:=@List.pairwise_iff_getElem
abbrev fL:=@List.mem_range
abbrev fM:=@List.drop_zero
abbrev fN:=@PySem.F.called_set
abbrev fO:=@PySem.F.slot_list_getattribute
abbrev fP:=@List.all_eq_true
abbrev fQ:=@List.countP_cons
abbrev fR:=@PyProof.Rows.boot_sorted
abbrev fS:=@List.filterMap_cons
abbrev fT:=@PySem.mem_of_lookup
abbrev fU:=@PySem.Heap.SameBut.update
abbrev fV:=@PySem.F.plain_list_iadd
abbrev fW:=@List.all_cons
abbrev fX:=@List.any_cons
abbrev fZ:=@Bool.true_and
abbrev g0:=@Nat.not_lt_zero
abbrev gB:=@PySem.F.entry_max_loop
abbrev gH:=@PySem.F.entry_min_loop
abbrev gJ:=@List.foldl_append
abbrev gK:=@Bool.false_and
abbrev gL:=@List.idxOf_lt_length_of_mem
abbrev gM:=@Nat.lt_succ_self
abbrev gN:=@List.reverse_reverse
abbrev gP:=@Nat.le_succ
abbrev gQ:=@Array.length_toList
abbrev gR:=@List.getElem_of_mem
abbrev gS:=@List.mem_map_of_mem
abbrev gU:=@List.length_reverse
abbrev gX:=@List.getElem?_range
abbrev gY:=@Nat.min_eq_left
abbrev gZ:=@List.mem_of_find?_eq_some
abbrev h8:=@List.mem_or_eq_of_mem_set
abbrev h9:=@PySem.F.args_tuple_add_2
abbrev hE:=@Nat.pos_of_ne_zero
abbrev hU:=@PySem.F.slot_list_insert
abbrev hV:=@Nat.sub_zero
abbrev hW:=@List.pairwise_cons
abbrev hZ:=@List.any_map
abbrev j0:=@Int.natCast_nonneg
abbrev j3:=@List.getElem?_replicate
abbrev j4:=@PySem.F.entry_tuple_add
abbrev j5:=@PyProof.Rows.F.plain_set_update_loop
abbrev j6:=@List.length_eq_zero_iff
abbrev j7:=@List.length_range
abbrev j8:=@List.nodup_append
abbrev j9:=@PySem.F.slot_tuple_add
abbrev jA:=@PyProof.Rows.boot_bool
abbrev jB:=@PyProof.Rows.boot_list
abbrev jC:=@PyProof.Rows.boot_dict
abbrev jD:=@List.lookup_cons
abbrev jE:=@Nat.le_add_right
abbrev jF:=@List.any_eq_true
abbrev jG:=@List.mem_reverse
abbrev jH:=@PySem.W.methodCall_KW
abbrev jI:=@List.length_replicate
abbrev jJ:=@PyProof.Rows.boot_int
abbrev jK:=@PyProof.Rows.boot_str
abbrev jL:=@List.take_append_drop
abbrev jM:=@List.pairwise_reverse
abbrev jN:=@List.getElem?_set_ne
abbrev jO:=@Bool.or_eq_true
abbrev jP:=@PySem.F.slot_zip_next
abbrev jQ:=@List.mem_of_mem_take
abbrev jR:=@Int.natCast_mul
abbrev jS:=@PySem.W.plainGet_of
abbrev jT:=@List.length_pos_iff
abbrev jU:=@List.getElem_attach
abbrev jV:=@PySem.Paired.snoc
abbrev jW:=@PySem.W.callWith_K
abbrev jX:=@List.find?_eq_none
abbrev jY:=@List.getElem_idxOf
abbrev jZ:=@List.any_eq_false
abbrev k7:=@Bool.not_eq_true'
abbrev k8:=@List.Sublist.refl
abbrev k9:=@Nat.le_of_not_lt
abbrev kA:=@Nat.zero_add
abbrev kB:=@List.all_map
abbrev kC:=@List.nil_sublist
namespace L2
open PySem PySem.Spec PyProof.Rows
abbrev Key:=Sum Int Str
noncomputable def y1l:Key->Value->Bool
 | .inl k,v=>Value.isInt k v
 | .inr x,v=>Value.isStrOf x v
noncomputable def keyH(w:World):Key->Int
 | .inl k=>hashInt k
 | .inr x=>hashStr w x
theorem z1p:∀{k:Key}{v:Value},y1l k v=true->(∃i t,k=Sum.inl i/\v=Value.int i t)\/(∃x t,k=Sum.inr x/\v=Value.str x t)
 | .inl i,v,h=>by
  obtain⟨t,e⟩:=Value.isInt_shape (k:=i) (v:=v) h
  exact .inl ⟨i,t,rfl,e⟩
 | .inr x,v,h=>by
  obtain⟨t,e⟩:=Value.isStrOf_shape (x:=x) (v:=v) h
  exact .inr ⟨x,t,rfl,e⟩
theorem y4h(i:Int)(t:Tok):y1l (.inl i) (.int i t)=true:=by simp[y1l,Value.isInt]
theorem y4w(x:Str)(t:Tok):y1l (.inr x) (.str x t)=true:=by simp[y1l,Value.isStrOf]
theorem y8h(a b:Int):decide ((Sum.inl a:Key)=Sum.inl b)=(a == b):=by
 by_cases e:a=b
 ·subst e;simp
 ·have h:¬(Sum.inl a:Key)=Sum.inl b:=fun q=>e (Sum.inl.inj q)
  rw[decide_eq_false h]
  exact(beq_eq_false_iff_ne.mpr e).symm
theorem y8j(a b:Str):decide ((Sum.inr a:Key)=Sum.inr b)=decide (a=b):=by
 by_cases e:a=b
 ·subst e;simp
 ·have h:¬(Sum.inr a:Key)=Sum.inr b:=fun q=>e (Sum.inr.inj q)
  rw[decide_eq_false h,decide_eq_false e]
theorem y8q(a:Int)(b:Str):decide ((Sum.inl a:Key)=Sum.inr b)=false:=decide_eq_false (fun q=>nomatch q)
theorem y89(a:Str)(b:Int):decide ((Sum.inr a:Key)=Sum.inl b)=false:=decide_eq_false (fun q=>nomatch q)
noncomputable def z1D(prog:Program)(w:World):PySem.KeyKind prog w Key where
 is:=y1l
 hash:=keyH w
 inj:=fun v a b ha hb=>by
  rcases z1p ha with ⟨i,t,rfl,rfl⟩|⟨x,t,rfl,rfl⟩
  ·rcases z1p hb with ⟨j,u,rfl,e⟩|⟨y,u,rfl,e⟩
   ·injection e with e1 _;rw[e1]
   ·exact nomatch e
  ·rcases z1p hb with ⟨j,u,rfl,e⟩|⟨y,u,rfl,e⟩
   ·exact nomatch e
   ·injection e with e1 _;rw[e1]
 byValue:=fun k v h=>by
  rcases z1p h with ⟨i,t,rfl,rfl⟩|⟨x,t,rfl,rfl⟩<;>rfl
 pyHash:=fun hv h=>by
  rcases z1p hv with ⟨i,t,rfl,rfl⟩|⟨x,t,rfl,rfl⟩
  ·exact wpAny_pyHash_int h
  ·exact wpAny_pyHash_str h
 eqBool:=fun hu hv h=>by
  rcases z1p hu with ⟨i,t,rfl,rfl⟩|⟨x,t,rfl,rfl⟩
  ·rcases z1p hv with ⟨j,u,rfl,rfl⟩|⟨y,u,rfl,rfl⟩
   ·rw[y8h] at h;exact wpAny_eqBool_int h
   ·rw[y8q] at h;exact SeqAt.EqAt.int_str i t y u _ _ _ _ h
  ·rcases z1p hv with ⟨j,u,rfl,rfl⟩|⟨y,u,rfl,rfl⟩
   ·rw[y89] at h;exact SeqAt.EqAt.str_int x t j u _ _ _ _ h
   ·rw[y8j] at h;exact wpAny_eqBool_str h
 «strs»:=fun k x t v h=>by
  rcases z1p h with ⟨i,u,rfl,e⟩|⟨y,u,rfl,e⟩
  ·exact nomatch e
  ·injection e with e1 _
   subst e1
   cases v<;>rfl
theorem y1m(prog:Program)(w:World)(i:Int)(t:Tok):(z1D prog w).is (.inl i) (.int i t)=true:=y4h i t
theorem y1D(prog:Program)(w:World)(x:Str)(t:Tok):(z1D prog w).is (.inr x) (.str x t)=true:=y4w x t
inductive V where
 | non|bl (b:Bool)|int (i:Int)|str (x:Str)|byt (b:Array UInt8)|flt (b:UInt64)|ref (a:Addr)|ty (n:String)
 deriving DecidableEq
def RelV:V->Value->Prop
 | .non,u=>u=Value.none
 | .bl b,u=>u=Value.bool b
 | .int i,u=>∃t,u=Value.int i t
 | .str x,u=>∃t,u=Value.str x t
 | .byt b,u=>∃t,u=Value.bytes b t
 | .flt b,u=>∃t,u=Value.float b t
 | .ref a,u=>u=Value.ref a
 | .ty n,u=>u=Value.type n
abbrev Vals:List V->List Value->Prop:=Paired RelV
theorem Vals.length{xs:List V}{us:List Value}(r:Vals xs us):xs.length=us.length:=Paired.length r
theorem Vals.get:∀{xs:List V}{us:List Value}{i:Nat}{x:V},Vals xs us->xs[i]? = some x->∃u,us[i]? = some u/\RelV x u
 | _,_,_,_,.nil,e=>by simp at e
 | _,_,0,_,.cons r _,e=>by simp at e;subst e;exact⟨_,rfl,r⟩
 | _,_,i+1,x,.cons _ t,e=>by
  obtain⟨u,h1,h2⟩:=Vals.get (i:=i) (x:=x) t (by simpa using e)
  exact⟨u,by simpa using h1,h2⟩
theorem Vals.set{x:V}{u:Value}(r:RelV x u):∀{xs:List V}{us:List Value} (i:Nat),Vals xs us->Vals (xs.set i x) (us.set i u)
 | _,_,_,.nil=>.nil
 | _,_,0,.cons _ t=>.cons r t
 | _,_,i+1,.cons q t=>.cons q (Vals.set r i t)
theorem Vals.append:∀{xs ys:List V}{us ws:List Value},Vals xs us->Vals ys ws->Vals (xs++ys) (us++ws)
 | _,_,_,_,.nil,s=>s
 | _,_,_,_,.cons r t,s=>.cons r (Vals.append t s)
theorem Vals.take:∀{xs:List V}{us:List Value} (n:Nat),Vals xs us->Vals (xs.take n) (us.take n)
 | _,_,0,_=>.nil
 | _,_,_+1,.nil=>.nil
 | _,_,n+1,.cons r t=>.cons r (Vals.take n t)
theorem Vals.drop:∀{xs:List V}{us:List Value} (n:Nat),Vals xs us->Vals (xs.drop n) (us.drop n)
 | _,_,0,r=>r
 | _,_,_+1,.nil=>.nil
 | _,_,n+1,.cons _ t=>Vals.drop n t
noncomputable def P1:Option V->Option Value->Prop
 | some v,some u=>RelV v u
 | none,none=>True
 | _,_=>False
noncomputable def KV{κ:Type}:List (κ×V)->List (κ×Value)->Prop:=Paired fun(p:κ×V) (q:κ×Value)=>p.1=q.1/\RelV p.2 q.2
def kV:Key->V
 | .inl i=>.int i
 | .inr x=>.str x
inductive HO where
 /-- a list -/
 | lst (xs:List V)
 /-- a tuple (never changes) -/
 | tup (xs:List V)
 /-- a dict whose keys are ints and texts;one whose keys are tuples of ints and texts (the empty one is both) -/
 | dK (kvs:List (Key×V))|dT (kvs:List (List Key×V))
 /-- a set of ints: its members,its size -/
 | set (S:Int->Bool) (n:Nat)
 /-- an instance of the class at C,its dict at dx,its attributes -/
 | ins (C dx:Addr) (fs:List (Str×V))
 /-- the dict of the instance at x -/
 | own (x:Addr)
 /-- the dict of an exception -/
 | xd (fs:List (Str×V))
 /-- a bound method,f of x -/
 | met (f x:Addr)
 /-- a range object lo,lo+1,.. below hi -/
 | rng (lo hi:Int)
 /-- a thing that is known to the object (the script;a dict while a loop walks it): read,never written while it is so -/
 | frz (o:Obj) (u:HO)
 /-- a code object's table -/
 | tbl (ps:Array Value)
 /-- any other thing,by what is true of its one object (a def of one's own: SetO a S n:=HO.ext fun h=>..) -/
 | ext (φ:Heap->Prop)
abbrev Hp:=Addr->Option HO
noncomputable def upd(H:Hp)(a:Addr)(o:HO):Hp:=fun b=>if b=a then some o else H b
noncomputable def PlT(h:Heap)(a:Addr)(items:Array Value):Prop:=∃o,h.get? a=some o/\o.cls=.type "tuple"/\(∃n,o.data=.seq items n)/\o.dict=none
theorem PlT.tup{h:Heap}{a:Addr}{items:Array Value}(p:PlT h a items):IsTup h a items:=let ⟨o,e,c,d,_⟩:=p;⟨o,e,c,d⟩
theorem PlT.new(h:Heap)(items:Array Value):PlT (h.push { cls:=.type "tuple",data:=.seq items }) h.objs.size items:=⟨_,bL _ rfl,rfl,⟨_,rfl⟩,rfl⟩
theorem z03{H:Hp}{a:Addr}{o:HO}:upd H a o a=some o:=by unfold upd;rw[if_pos rfl]
theorem z0k{H:Hp}{a b:Addr}{o:HO}(h:b≠a):upd H a o b=H b:=by unfold upd;rw[if_neg h]
theorem z5O{H:Hp}{a:Addr}{o u:HO}:upd (upd H a o) a u=upd H a u:=by
 funext b;unfold upd;split<;>rfl
theorem z5l{H:Hp}{a b:Addr}{o u:HO}(h:H a=some o)(h':H b=some u)(d:o≠u):a≠b:=by
 intro e;subst e;rw[h] at h';exact d (Option.some.inj h')
theorem z0r{H:Hp}{a b:Addr}{o:HO}(h:H a=some o)(h':H b=none):a≠b:=by
 intro e;subst e;rw[h] at h';cases h'
section
variable(P:Program)(w:World)
noncomputable def z1C(H:Hp)(h:Heap)(a:Addr):HO->Prop
 | .lst xs=>xs.length≤sizeLine/\∃(its:List Value) (n:Nat),Vals xs its/\h.get? a=some { cls:=.type "list",data:=.seq its.toArray n }
 | .tup xs=>xs.length≤sizeLine/\∃its:List Value,Vals xs its/\PlT h a its.toArray
 | .dK kvs=>kvs.length≤sizeLine/\(a == sysModules)=false/\∃vs,KV kvs vs/\h.DictOf (z1D P w) a vs
 | .dT kvs=>kvs.length≤sizeLine/\(a == sysModules)=false/\∃xs:List (List Key×Addr×Value),
   Paired (fun(p:List Key×V) (q:List Key×Addr×Value)=>p.1=q.1/\H q.2.1=some (.tup (p.1.map kV))/\RelV p.2 q.2.2) kvs xs/\
   ∃o es ep,h.get? a=some o/\o.ExactDict/\o.data=.dict es ep/\es.toList=xs.map (entryOfKey (tupleKind (z1D P w)))/\(xs.map (·.1)).Nodup
 | .set S n=>h.SetOf (intKind P w) a S n
 | .ins C dx fs=>H dx=some (.own a)/\fs.length≤1000/\dx≠a/\h.get? a=some (PySem.W.instObj C dx)/\
   ∃mA,h.Ns1 dx mA/\(∀f,P1 (fs.lookup f) (mA f))/\PySem.Within mA (fs.map (·.1))
 | .own _=>∃o,h.get? a=some o
 | .xd fs=>∃mA,h.Ns1 a mA/\∀f,P1 (fs.lookup f) (mA f)
 | .rng lo hi=>∃t u v,h.get? a=some { cls:=.type "range",data:=.fields #[.int lo t,.int hi u,.int 1 v] }
 | .frz o u=>h.get? a=some o/\z1C H h a u
 | .tbl ps=>h.get? a=some { cls:=.none,data:=.fields ps }
 | .met f x=>h.get? a=some (PySem.W.methodObj (.ref f) (.ref x))
 | .ext φ=>φ h/\(∃o,h.get? a=some o)/\∀h1 h2:Heap,φ h1->(∀o,h1.get? a=some o->h2.get? a=some o)->φ h2
noncomputable def HOk(H:Hp)(h:Heap):Prop:=∀a o,H a=some o->z1C P w H h a o
end
section
variable{P:Program}{w:World}{H H':Hp}{h h':Heap}{a:Addr}{o:HO}
theorem z1C.lt(x:z1C P w H h a o):a<h.objs.size:=by
 cases o with
 | lst xs=>obtain⟨_,_,_,_,e⟩:=x;exact bQ e
 | tup xs=>obtain⟨_,_,_,o,e,_⟩:=x;exact bQ e
 | dK kvs=>obtain⟨_,_,_,_,o,_,_,e,_⟩:=x;exact bQ e
 | dT kvs=>obtain⟨_,_,_,_,o,_,_,e,_⟩:=x;exact bQ e
 | set S n=>obtain⟨o,_,_,_,e,_⟩:=x;exact bQ e
 | ins C dx fs=>obtain⟨_,_,_,e,_⟩:=x;exact bQ e
 | own y=>obtain⟨_,e⟩:=x;exact bQ e
 | xd fs=>obtain⟨_,⟨_,_,_,e,_⟩,_⟩:=x;exact bQ e
 | rng lo hi=>obtain⟨_,_,_,e⟩:=x;exact bQ e
 | frz ob u=>obtain⟨e,_⟩:=x;exact bQ e
 | tbl ps=>exact bQ (show h.get? a=some _ from x)
 | met f y=>exact bQ (show h.get? a=some _ from x)
 | ext φ=>obtain⟨_,⟨_,e⟩,_⟩:=x;exact bQ e
theorem Paired.U3{α β:Type}{F G:α->β->Prop}:∀{l₁:List α}{l₂:List β},Paired F l₁ l₂->(∀a b,F a b->G a b)->Paired G l₁ l₂
 | _,_,.nil,_=>.nil
 | _,_,.cons r t,f=>.cons (f _ _ r) (Paired.U3 t f)
theorem z1C.U8(x:z1C P w H h a o)(k:∀b u,(b=a\/H b=some (.own a))->h.get? b=some u->h'.get? b=some u)
  (ho:∀b,H b=some (.own a)->H' b=some (.own a)) (ht:∀b xs,H b=some (.tup xs)->H' b=some (.tup xs)):z1C P w H' h' a o:=by
 induction o with
 | lst xs=>obtain⟨z,its,n,r,e⟩:=x;exact⟨z,its,n,r,k _ _ (.inl rfl) e⟩
 | tup xs=>obtain⟨z,its,r,ob,e,c⟩:=x;exact⟨z,its,r,ob,k _ _ (.inl rfl) e,c⟩
 | dK kvs=>obtain⟨z,y,vs,r,ob,es,ep,e,c⟩:=x;exact⟨z,y,vs,r,ob,es,ep,k _ _ (.inl rfl) e,c⟩
 | dT kvs=>
  obtain⟨z,y,xs,r,ob,es,ep,e,c⟩:=x
  exact⟨z,y,xs,Paired.U3 r fun p q z=>⟨z.1,ht _ _ z.2.1,z.2.2⟩,ob,es,ep,k _ _ (.inl rfl) e,c⟩
 | set S n=>obtain⟨ob,es,ep,t,e,c⟩:=x;exact⟨ob,es,ep,t,k _ _ (.inl rfl) e,c⟩
 | ins C dx fs=>
  obtain⟨d,z,ne,e,mA,⟨od,es,ep,e2,c⟩,r⟩:=x
  exact⟨ho _ d,z,ne,k _ _ (.inl rfl) e,mA,⟨od,es,ep,k _ _ (.inr d) e2,c⟩,r⟩
 | own y=>obtain⟨ob,e⟩:=x;exact⟨ob,k _ _ (.inl rfl) e⟩
 | xd fs=>obtain⟨mA,⟨od,es,ep,e,c⟩,r⟩:=x;exact⟨mA,⟨od,es,ep,k _ _ (.inl rfl) e,c⟩,r⟩
 | rng lo hi=>obtain⟨t,u,v,e⟩:=x;exact⟨t,u,v,k _ _ (.inl rfl) e⟩
 | frz ob u ih=>obtain⟨e,q⟩:=x;exact⟨k _ _ (.inl rfl) e,ih q⟩
 | tbl ps=>
  have e:h.get? a=some { cls:=.none,data:=.fields ps }:=x
  show h'.get? a=some { cls:=.none,data:=.fields ps }
  exact k a _ (.inl rfl) e
 | met f y=>
  have e:h.get? a=some (PySem.W.methodObj (.ref f) (.ref y)):=x
  show h'.get? a=some (PySem.W.methodObj (.ref f) (.ref y))
  exact k a _ (.inl rfl) e
 | ext φ=>obtain⟨p,⟨o,e⟩,st⟩:=x;exact⟨st _ _ p fun o q=>k _ _ (.inl rfl) q,⟨o,k _ _ (.inl rfl) e⟩,st⟩
theorem HOk.lt(x:HOk P w H h)(e:H a=some o):a<h.objs.size:=(x a o e).lt
theorem HOk.fresh(x:HOk P w H h)(e:h.objs.size≤a):H a=none:=by
 cases q:H a with
 | none=>rfl
 | some u=>exact absurd (cU (x.lt q) e) (dP _)
theorem HOk.kept(x:HOk P w H h)(k:∀b u,h.get? b=some u->h'.get? b=some u):HOk P w H h':=fun a o e=>
 (x a o e).U8 (fun b u _ q=>k b u q) (fun _ q=>q) fun _ _ q=>q
theorem HOk.laid(x:HOk P w H h)(k:∀b u,h.get? b=some u->h'.get? b=some u)(hp:h.objs.size≤a)(new:z1C P w (upd H a o) h' a o):HOk P w (upd H a o) h':=fun b u e=>by
 have hn:=x.fresh hp
 by_cases hb:b=a
 ·subst hb;rw[z03] at e;cases e;exact new
 ·rw[z0k hb] at e
  exact(x b u e).U8 (fun c v _ q=>k c v q) (fun c q=>by rw[z0k (z0r q hn)];exact q) fun c xs q=>by rw[z0k (z0r q hn)];exact q
end
noncomputable def Rd(H:Hp)(a:Addr)(u:HO):Prop:=H a=some u\/∃o,H a=some (.frz o u)
theorem Rd.ok{P:Program}{w:World}{H:Hp}{h:Heap}{a:Addr}{u:HO}(r:Rd H a u)(x:HOk P w H h):z1C P w H h a u:=by
 rcases r with r|⟨o,r⟩
 ·exact x a u r
 ·obtain⟨_,q⟩:=x a _ r
  exact q
noncomputable def Mut:Option HO->Prop
 | some (.lst _)=>True
 | some (.dK _)=>True
 | some (.dT _)=>True
 | some (.set _ _)=>True
 | some (.ins _ _ _)=>True
 | some (.ext _)=>True
 | _=>False
section
variable{P:Program}{w:World}{H:Hp}{h h':Heap}{x e:Addr}{o':HO}
theorem HOk.write(ok:HOk P w H h)(mu:Mut (H x))(he:e=x\/H e=some (.own x))(k:∀b u,b≠e->h.get? b=some u->h'.get? b=some u)(heo:∃u,h'.get? e=some u)
  (new:z1C P w (upd H x o') h' x o'):HOk P w (upd H x o') h':=fun b u q=>by
 have nown:∀c y,H c=some (.own y)->c≠x:=fun c y r z=>by subst z;rw[r] at mu;exact mu
 have ntup:∀c xs,H c=some (.tup xs)->c≠x:=fun c xs r z=>by subst z;rw[r] at mu;exact mu
 by_cases hb:b=x
 ·subst hb;rw[z03] at q;cases q;exact new
 ·rw[z0k hb] at q
  by_cases hbe:b=e
  ·have q':H b=some (.own x):=by
    rcases he with z|z
    ·exact absurd (hbe.trans z) hb
    ·rw[hbe];exact z
   rw[q] at q';cases q'
   obtain⟨v,hv⟩:=heo
   exact⟨v,by rw[hbe];exact hv⟩
  ·refine(ok b u q).U8 (fun c v hc r=>k c v ?_ r) (fun c r=>by rw[z0k (nown c b r)];exact r) fun c xs r=>by rw[z0k (ntup c xs r)];exact r
   rcases hc with rfl|hc
   ·exact hbe
   ·rintro rfl
    rcases he with z|z
    ·exact nown c b hc z
    ·rw[hc] at z;cases z;exact hb rfl
end
structure Un(fs ex:List Addr)(H H':Hp)(h h':Heap):Prop where
 keep:∀b o,h.get? b=some o->H b=none->b∉fs->b∉ex->h'.get? b=some o
 slot:∀b o,h.get? b=some o->H b=none->b∈fs->b∉ex->∃sl,h'.get? b=some { o with slots:=sl }
 free:∀b o,h.get? b=some o->H b=none->b∉ex->H' b=none
 there:∀b o,h.get? b=some o->b∉ex->∃o',h'.get? b=some o'
 V0:∀b xs,H b=some (.tup xs)->H' b=some (.tup xs)
 U1:∀b o u,H b=some (.frz o u)->H' b=some (.frz o u)
 U7:∀b ps,H b=some (.tbl ps)->∃more,H' b=some (.tbl (ps++more))
section
variable{fs fs' ex ex':List Addr}{H H1 H2:Hp}{h h1 h2 h':Heap}{a x e:Addr}{o:HO}
theorem Un.any(u:Un fs ex H H1 h h1){b:Addr}{ob:Obj}(q:h.get? b=some ob)(n:H b=none)(hx:b∉ex):∃sl,h1.get? b=some { ob with slots:=sl }:=by
 by_cases hb:b∈fs
 ·exact u.slot b ob q n hb hx
 ·exact⟨ob.slots,u.keep b ob q n hb hx⟩
theorem Un.kept(k:∀b u,h.get? b=some u->h'.get? b=some u):Un fs ex H H h h':=
 ⟨fun b ob q _ _ _=>k b ob q,fun b ob q _ _ _=>⟨ob.slots,k b ob q⟩,fun _ _ _ n _=>n,fun b ob q _=>⟨ob,k b ob q⟩,fun _ _ q=>q,fun _ _ _ q=>q,fun _ ps q=>⟨#[],by rw[q];simp⟩⟩
theorem Un.refl:Un fs ex H H h h:=Un.kept fun _ _ q=>q
theorem Un.laid(k:∀b u,h.get? b=some u->h'.get? b=some u)(hp:h.objs.size≤a)(hn:H a=none):Un fs ex H (upd H a o) h h' where
 keep:=fun b u q _ _ _=>k b u q
 slot:=fun b u q _ _ _=>⟨u.slots,k b u q⟩
 free:=fun b u q n _=>by rw[z0k (cJ (cU (bQ q) hp))];exact n
 there:=fun b u q _=>⟨u,k b u q⟩
 V0:=fun b xs q=>by rw[z0k (z0r q hn)];exact q
 U1:=fun b u xs q=>by rw[z0k (z0r q hn)];exact q
 U7:=fun b ps q=>⟨#[],by rw[z0k (z0r q hn),q];simp⟩
theorem Un.write(mu:Mut (H x))(he:e=x\/H e=some (.own x))(k:∀b u,b≠e->h.get? b=some u->h'.get? b=some u)(heo:∃u,h'.get? e=some u):Un fs ex H (upd H x o) h h':=by
 have hx:∀b,H b=none->b≠x:=fun b n z=>by subst z;rw[n] at mu;exact mu
 have hb:∀b,H b=none->b≠e:=fun b n z=>by
  subst z
  rcases he with r|r
  ·exact hx b n r
  ·rw[n] at r;cases r
 have hm:∀b u,H b=some u->¬Mut (some u)->b≠x:=fun b u q nm z=>by subst z;rw[q] at mu;exact nm mu
 refine⟨fun b u q n _ _=>k b u (hb b n) q,fun b u q n _ _=>⟨u.slots,k b u (hb b n) q⟩,fun b u q n _=>by rw[z0k (hx b n)];exact n,fun b u q _=>?_,
  fun b xs q=>by rw[z0k (hm b _ q fun z=>z)];exact q,fun b u xs q=>by rw[z0k (hm b _ q fun z=>z)];exact q,fun b ps q=>⟨#[],by rw[z0k (hm b _ q fun z=>z),q];simp⟩⟩
 by_cases hbe:b=e
 ·subst hbe;exact heo
 ·exact⟨u,k b u hbe q⟩
end
noncomputable def trk(h:Heap)(H:Hp):List Addr:=(List.range h.objs.size).filter fun a=>(H a).isSome
noncomputable def T9(h:Heap)(H:Hp):Heap:=PySem.W.hideAll h (trk h H)
theorem y5k(h:Heap)(H:Hp):(T9 h H).objs.size=h.objs.size:=PySem.W.hideAll_size _ _
theorem y62{h:Heap}{H:Hp}{b:Addr}{o:Obj}(e:h.get? b=some o)(n:H b=none):(T9 h H).get? b=some o:=
 PySem.W.hideAll_get _ e fun hm=>by
  have q:(H b).isSome=true:=(cK.mp hm).2
  rw[n] at q;simp at q
theorem y7n{h:Heap}{H:Hp}{b:Addr}{o:Obj}(e:(T9 h H).get? b=some o):h.get? b=some o/\H b=none:=by
 have e':h.get? b=some o:=PySem.W.of_hideAll (trk h H) e
 refine⟨e',?_⟩
 cases q:H b with
 | none=>rfl
 | some x=>
  have hm:b∈trk h H:=cK.mpr ⟨fL.mpr (bQ e'),by simp[q]⟩
  have z:(T9 h H).get? b=none:=PySem.W.hideAll_none (trk h H) hm
  rw[z] at e;cases e
noncomputable def y7a(g h:Heap)(L:Addr):List (Addr×Obj):=(List.range h.objs.size).filterMap fun a=>if a=L\/(g.get? a).isSome=true then none else (h.get? a).map fun o=>(a,o)
noncomputable def rest(g h:Heap)(L d:Addr):List (Addr×Obj):=(y7a g h L).filter fun p=>decide (p.1≠d)
structure Mod(K:PySem.W.Frag)(mg:Str->Option Value)(base:Heap):Prop where
 kin:K.In base
 glob:base.Ns mainGlobals mg
 blt:∃mb,base.Ns builtinsNs mb/\∀x:Str,x≠"__name__"->mb x=bootBuiltins x
 nolimit:base.NoLimit
structure Cx where
 prog:Program
 w:World
 K:PySem.W.Frag
 mg:Str->Option Value
 base:Heap
 A:Around
 N:List Str
 s₀:Shared
 H₀:Hp
 env:Env
 outer:List Env
 stack:List Env
 ex:List Addr
 fn:Str->Bool
 calm:Bool
 pn:List (Addr×Obj)
 xe:Value->Shared->Prop
def frs(l:List Env):List Addr:=l.filterMap (·.frame)
abbrev Cx.fs(X:Cx):List Addr:=frs X.outer
noncomputable def Vis(sc:Scope)(x:Str):Prop:=sc.names.lookup x=some .local\/sc.names.lookup x=some .cell\/sc.names.lookup x=some .free
noncomputable def Loc(sc:Scope)(x:Str):Prop:=sc.names.lookup x=some .local\/sc.names.lookup x=some .cell
noncomputable def Look(env:Env)(h:Heap)(m:Str->Option Value)(x:Str)(u:Value):Prop:=
 (env.kindOf x=some .local/\m x=some u)\/((env.kindOf x=some .cell\/env.kindOf x=some .free)/\∃c,env.cells.lookup x=some c/\h.IsCell c (some u))
structure Cx.Ok(X:Cx):Prop where
 mod:Mod X.K X.mg X.base
 kind:X.env.scope.kind=.function
 glob:X.env.globals=mainGlobals
 blt:X.env.builtins=builtinsNs
 above:X.s₀.heap.objs.size≤X.env.locals
 inj:∀x y c,X.env.cells.lookup x=some c->X.env.cells.lookup y=some c->x=y
 has:∀x,(X.env.kindOf x=some .cell\/X.env.kindOf x=some .free)->∃c,X.env.cells.lookup x=some c
 cab:∀x c,X.fn x=true->X.env.cells.lookup x=some c->X.s₀.heap.objs.size≤c
 hd:X.calm=true->X.A.handled=none
 frames:X.A.frames=some X.stack
 stk:X.stack=X.outer\/(X.stack=X.env::X.outer/\X.env.frame=some X.env.locals)
 exf:∀b∈X.ex,b≠X.env.locals/\∀x c,X.env.cells.lookup x=some c->c≠b
 bs:∀b o,X.base.get? b=some o->X.s₀.heap.get? b=some o/\X.H₀ b=none
 bsz:X.base.objs.size≤X.s₀.heap.objs.size
 noex:∀b o,X.base.get? b=some o->b∉X.ex
 exfs:∀b∈X.ex,b∉X.fs
 S1:X.s₀.heap.FunFrames X.base X.outer
 frf:∀b∈X.fs,X.H₀ b=none
structure Inv(X:Cx)(pins:List (Addr×Obj))(σ:List (Option V))(H:Hp)(s:Shared):Prop where
 ok:X.Ok
 os:s.os=X.s₀.os
 bare:AllBare s.gens
 base:Un X.fs X.ex X.H₀ H X.s₀.heap s.heap
 loc:∃m,s.heap.Ns X.env.locals m/\∀(i:Nat) (x:Str) (v:V),X.N[i]? = some x->σ[i]? = some (some v)->Vis X.env.scope x->∃u,RelV v u/\Look X.env s.heap m x u
 cell:∀x c,X.env.cells.lookup x=some c->∃v,s.heap.IsCell c v
 free:H X.env.locals=none
 freeC:∀x c,X.env.cells.lookup x=some c->H c=none
 pin:∀p∈X.pn++pins,s.heap.get? p.1=some p.2/\H p.1=none/\p.1≠X.env.locals/\p.1∉X.fs/\∀v,p.2.data≠.cell v
 hok:HOk X.prog X.w H s.heap
 len:σ.length=X.N.length
section
variable{X:Cx}{pins:List (Addr×Obj)}{σ:List (Option V)}{H H':Hp}{s:Shared}{h':Heap}
theorem Cx.Ok.nofr(ok:X.Ok){b:Addr}{o:Obj}(e:X.base.get? b=some o):b∉X.fs:=fun hb=>by
 have:=(ok.S1.mem hb).1
 rw[e] at this;cases this
theorem Inv.bs(I:Inv X pins σ H s):∀b o,X.base.get? b=some o->s.heap.get? b=some o/\H b=none:=fun b o e=>
 ⟨I.base.keep b o (I.ok.bs b o e).1 (I.ok.bs b o e).2 (I.ok.nofr e) (I.ok.noex b o e),I.base.free b o (I.ok.bs b o e).1 (I.ok.bs b o e).2 (I.ok.noex b o e)⟩
theorem Inv.bk(I:Inv X pins σ H s):∀b o,X.base.get? b=some o->s.heap.get? b=some o:=fun b o e=>(I.bs b o e).1
theorem Inv.mod(I:Inv X pins σ H s):Mod X.K X.mg X.base:=I.ok.mod
theorem Inv.kIn(I:Inv X pins σ H s):X.K.In s.heap:=I.ok.mod.kin.keeps I.bk
theorem Inv.fr(I:Inv X pins σ H s):∃m,Fr X.base X.env.locals s.heap m:=
 let ⟨m,hn,_⟩:=I.loc
 ⟨m,hn,I.bk,cL I.ok.bsz I.ok.above⟩
theorem Inv.lt(I:Inv X pins σ H s):X.env.locals<s.heap.objs.size:=let ⟨_,hn,_⟩:=I.loc;hn.lt
theorem Inv.sz(I:Inv X pins σ H s):X.s₀.heap.objs.size≤s.heap.objs.size:=cL I.ok.above (dX I.lt)
theorem Inv.nofs(I:Inv X pins σ H s){a:Addr}(h:s.heap.objs.size≤a):a∉X.fs:=fun hb=>by
 obtain⟨_,o,ho,_⟩:=I.ok.S1.mem hb
 exact absurd (cU (bQ ho) (cL I.sz h)) (dP _)
theorem Inv.cne(I:Inv X pins σ H s):∀x c,X.env.cells.lookup x=some c->c≠X.env.locals:=fun x c e z=>by
 obtain⟨v,o,ho,hd⟩:=I.cell x c e
 obtain⟨m,⟨o',es,ep,ho',hd',_⟩,_⟩:=I.loc
 rw[z,ho'] at ho;cases ho;rw[hd'] at hd;cases hd
theorem Inv.S1(I:Inv X pins σ H s):s.heap.FunFrames X.base X.outer:=by
 have all:∀(l:List Env),(∀b∈frs l,b∈X.fs)->X.s₀.heap.FunFrames X.base l->s.heap.FunFrames X.base l:=by
  intro l
  induction l with
  | nil=>intro _ _;trivial
  | cons env r ih=>
   intro hs hl
   obtain⟨hk,⟨L,o,hf,hn,ho,hd⟩,hr⟩:=hl
   have hL:L∈X.fs:=hs L (by unfold frs;rw[fS,hf];exact cC)
   obtain⟨sl,e⟩:=I.base.slot L o ho (I.ok.frf L hL) hL fun z=>I.ok.exfs L z hL
   exact⟨hk,⟨L,_,hf,hn,e,hd⟩,ih (fun b hb=>hs b (by unfold frs;rw[fS,hf];exact bZ _ hb)) hr⟩
 exact all X.outer (fun _ hb=>hb) I.ok.S1
theorem Inv.stack(I:Inv X pins σ H s):s.heap.FunFrames X.base X.stack:=by
 rcases I.ok.stk with e|⟨e,hf⟩
 ·rw[e];exact I.S1
 ·rw[e]
  obtain⟨m,hn,_⟩:=I.loc
  refine .cons (by rw[I.ok.kind];decide) hf hn ?_ I.S1
  exact Heap.get?_none_of_le (cL I.ok.bsz I.ok.above)
theorem Inv.S5(I:Inv X pins σ H s):∀b∈frs X.stack,b∈X.env.locals::X.fs:=fun b hb=>by
 rcases I.ok.stk with e|⟨e,hf⟩
 ·rw[e] at hb;exact bZ _ hb
 ·rw[e] at hb
  unfold frs at hb
  rw[fS,hf] at hb
  exact hb
theorem Inv.X5(I:Inv X pins σ H s):∀b∈frs X.stack,H b=none:=fun b hb=>by
 rcases bE.mp (I.S5 b hb) with e|hb
 ·rw[e];exact I.free
 ·obtain⟨_,o,ho,_⟩:=I.ok.S1.mem hb
  exact I.base.free b o ho (I.ok.frf b hb) fun z=>I.ok.exfs b z hb
theorem Inv.step{g':Array GenState}{t':Nat}{d':Drawn}{ch:List Addr}(I:Inv X pins σ H s)
  (hch:∀b∈ch,(b∈X.ex\/X.s₀.heap.objs.size≤b)/\b≠X.env.locals/\(∀x c,X.env.cells.lookup x=some c->c≠b)/\∀p∈X.pn++pins,p.1≠b)
  (keep:∀b o,b≠X.env.locals->b∉X.fs->b∉ch->s.heap.get? b=some o->H b=none->h'.get? b=some o)
  (slot:∀b o,b≠X.env.locals->b∈X.fs->b∉ch->s.heap.get? b=some o->H b=none->∃sl,h'.get? b=some { o with slots:=sl }) (free:∀b o,b∉ch->s.heap.get? b=some o->H b=none->H' b=none)
  (there:∀b o,b∉ch->s.heap.get? b=some o->∃o',h'.get? b=some o')
  (V0:∀b xs,H b=some (.tup xs)->H' b=some (.tup xs)) (U1:∀b o u,H b=some (.frz o u)->H' b=some (.frz o u)) (U7:∀b ps,H b=some (.tbl ps)->∃more,H' b=some (.tbl (ps++more)))
  (ns:∀m,s.heap.Ns X.env.locals m->h'.Ns X.env.locals m) (hok:HOk X.prog X.w H' h') (hg:AllBare g') :
  Inv X pins σ H' { s with heap:=h',gens:=g',drawn:=d',toks:=t' }:=by
 have neL:∀b o,X.s₀.heap.get? b=some o->b≠X.env.locals:=fun b o e=>cJ (cU (bQ e) I.ok.above)
 have neC:∀b o,X.s₀.heap.get? b=some o->b∉X.ex->b∉ch:=fun b o e hx hb=>by
  rcases(hch b hb).1 with z|z
  ·exact hx z
  ·exact absurd (cU (bQ e) z) (dP _)
 have cellK:∀x c,X.env.cells.lookup x=some c->∀v,s.heap.IsCell c v->h'.IsCell c v:=fun x c e v ⟨o,ho,hd⟩=>by
  have nch:c∉ch:=fun z=>(hch c z).2.2.1 x c e rfl
  by_cases hc:c∈X.fs
  ·obtain⟨sl,q⟩:=slot c o (I.cne x c e) hc nch ho (I.freeC x c e)
   exact⟨_,q,hd⟩
  ·exact⟨o,keep c o (I.cne x c e) hc nch ho (I.freeC x c e),hd⟩
 refine⟨I.ok,I.os,hg,⟨fun b o e n hb hx=>?_,fun b o e n hb hx=>?_,fun b o e n hx=>?_,fun b o e hx=>?_,fun b xs e=>V0 b xs (I.base.V0 b xs e),fun b o xs e=>U1 b o xs (I.base.U1 b o xs e),fun b ps e=>?_⟩,?_,fun x c e=>?_,?_,fun x c e=>?_,fun p hp=>?_,hok,I.len⟩
 ·exact keep b o (neL b o e) hb (neC b o e hx) (I.base.keep b o e n hb hx) (I.base.free b o e n hx)
 ·obtain⟨sl,e1⟩:=I.base.slot b o e n hb hx
  obtain⟨sl',e2⟩:=slot b _ (neL b o e) hb (neC b o e hx) e1 (I.base.free b o e n hx)
  exact⟨sl',e2⟩
 ·obtain⟨o',e1⟩:=I.base.there b o e hx
  exact free b o' (neC b o e hx) e1 (I.base.free b o e n hx)
 ·obtain⟨o',e1⟩:=I.base.there b o e hx
  exact there b o' (neC b o e hx) e1
 ·obtain⟨m1,e1⟩:=I.base.U7 b ps e
  obtain⟨m2,e2⟩:=U7 b _ e1
  exact⟨m1++m2,by rw[e2,Array.append_assoc]⟩
 ·obtain⟨m,hn,hl⟩:=I.loc
  refine⟨m,ns m hn,fun i x v e1 e2 e3=>?_⟩
  obtain⟨u,r,l⟩:=hl i x v e1 e2 e3
  refine⟨u,r,?_⟩
  rcases l with l|⟨k,c,e,z⟩
  ·exact .inl l
  ·exact .inr ⟨k,c,e,cellK x c e _ z⟩
 ·obtain⟨v,z⟩:=I.cell x c e
  exact⟨v,cellK x c e v z⟩
 ·obtain⟨m,⟨o,_,_,ho,_⟩,_⟩:=I.loc
  exact free _ o (fun z=>(hch _ z).2.1 rfl) ho I.free
 ·obtain⟨v,o,ho,hd⟩:=I.cell x c e
  exact free c o (fun z=>(hch c z).2.2.1 x c e rfl) ho (I.freeC x c e)
 ·obtain⟨e,n,ne,nf,d⟩:=I.pin p hp
  have nch:p.1∉ch:=fun z=>(hch p.1 z).2.2.2 p hp rfl
  exact⟨keep p.1 p.2 ne nf nch e n,free p.1 p.2 nch e n,ne,nf,d⟩
theorem Inv.un{t':Nat}(I:Inv X pins σ H s)(u:Un X.fs [] H H' s.heap h')(hok:HOk X.prog X.w H' h'):Inv X pins σ H' { s with heap:=h',toks:=t' }:=by
 obtain⟨m,⟨o,es,ep,ho,r⟩,_⟩:=id I.loc
 obtain⟨sl,hL⟩:=u.any ho I.free (by simp)
 exact I.step (g':=s.gens) (d':=s.drawn) (ch:=[]) (fun _ z=>nomatch z) (fun b o _ hb _ e n=>u.keep b o e n hb (by simp)) (fun b o _ hb _ e n=>u.slot b o e n hb (by simp)) (fun b o _ e n=>u.free b o e n (by simp)) (fun b o _ e=>u.there b o e (by simp)) u.V0 u.U1 u.U7 (fun m' hm=>by
  obtain⟨o',es',ep',ho',r'⟩:=hm
  rw[ho] at ho';cases ho'
  exact⟨_,es',ep',hL,r'⟩) hok I.bare
theorem Inv.call{g':Array GenState}{t':Nat}{d':Drawn}{ch:List Addr}(I:Inv X pins σ H s)(u:Un (frs X.stack) ch H H' s.heap h')(hok:HOk X.prog X.w H' h')(hg:AllBare g')
  (hch:∀b∈ch,(b∈X.ex\/X.s₀.heap.objs.size≤b)/\b≠X.env.locals/\(∀x c,X.env.cells.lookup x=some c->c≠b)/\∀p∈X.pn++pins,p.1≠b) :
  Inv X pins σ H' { s with heap:=h',gens:=g',drawn:=d',toks:=t' }:=by
 obtain⟨m,⟨o,es,ep,ho,r⟩,_⟩:=id I.loc
 obtain⟨sl,hL⟩:=u.any ho I.free fun z=>(hch _ z).2.1 rfl
 exact I.step (ch:=ch) hch (fun b o hL hb hc e n=>u.keep b o e n (fun z=>(bE.mp (I.S5 b z)).elim hL hb) hc) (fun b o _ _ hc e n=>u.any e n hc) (fun b o hc e n=>u.free b o e n hc) (fun b o hc e=>u.there b o e hc) u.V0 u.U1 u.U7 (fun m' hm=>by
  obtain⟨o',es',ep',ho',r'⟩:=hm
  rw[ho] at ho';cases ho'
  exact⟨_,es',ep',hL,r'⟩) hok hg
theorem Inv.turned{t':Nat}{it:Addr}(I:Inv X pins σ H s)(k:∀b o,b≠it->s.heap.get? b=some o->h'.get? b=some o)(hn:H it=none)(hL:it≠X.env.locals)
  (h1:it∈X.ex\/X.s₀.heap.objs.size≤it) (h2:∀x c,X.env.cells.lookup x=some c->c≠it) (h3:∀p∈X.pn++pins,p.1≠it):Inv X pins σ H { s with heap:=h',toks:=t' }:=by
 have nit:∀b u,H b=some u->b≠it:=fun b u e z=>by rw[z,hn] at e;cases e
 refine I.step (g':=s.gens) (d':=s.drawn) (ch:=[it]) (fun b hb=>?_) (fun b o _ _ hc e _=>k b o (fun z=>hc (by simp[z])) e) (fun b o _ _ hc e _=>⟨o.slots,k b o (fun z=>hc (by simp[z])) e⟩) (fun _ _ _ _ n=>n)
  (fun b o hc e=>⟨o,k b o (fun z=>hc (by simp[z])) e⟩) (fun _ _ e=>e) (fun _ _ _ e=>e) (fun b ps e=>⟨#[],by rw[e];simp⟩) (fun m hm=>?_) (fun b u e=>?_) I.bare
 ·have e:b=it:=by simpa using hb
  subst e
  exact⟨h1,hL,h2,h3⟩
 ·obtain⟨o,es,ep,ho,r⟩:=hm
  exact⟨o,es,ep,k _ o (dC hL) ho,r⟩
 ·refine(I.hok b u e).U8 (fun c v hc q=>k c v ?_ q) (fun _ q=>q) fun _ _ q=>q
  rcases hc with z|z
  ·rw[z];exact nit b u e
  ·exact nit c _ z
theorem Inv.tok(I:Inv X pins σ H s)(t:Nat):Inv X pins σ H { s with toks:=t }:=I.un (h':=s.heap) (t':=t) Un.refl I.hok
theorem Inv.kept{t':Nat}(I:Inv X pins σ H s)(k:∀b u,s.heap.get? b=some u->h'.get? b=some u):Inv X pins σ H { s with heap:=h',toks:=t' }:=I.un (Un.kept k) (I.hok.kept k)
theorem Inv.laid{a:Addr}{o:HO}{t':Nat}(I:Inv X pins σ H s)(k:∀b u,s.heap.get? b=some u->h'.get? b=some u)(hp:s.heap.objs.size≤a)(new:z1C X.prog X.w (upd H a o) h' a o) :
  Inv X pins σ (upd H a o) { s with heap:=h',toks:=t' }:=I.un (Un.laid k hp (I.hok.fresh hp)) (I.hok.laid k hp new)
theorem Inv.write{x e:Addr}{o:HO}{t':Nat}(I:Inv X pins σ H s)(mu:Mut (H x))(he:e=x\/H e=some (.own x))(k:∀b u,b≠e->s.heap.get? b=some u->h'.get? b=some u)(heo:∃u,h'.get? e=some u)
  (new:z1C X.prog X.w (upd H x o) h' x o):Inv X pins σ (upd H x o) { s with heap:=h',toks:=t' }:=I.un (Un.write mu he k heo) (I.hok.write mu he k heo new)
theorem Inv.weak{σ':List (Option V)}(I:Inv X pins σ H s)(hl:σ'.length=σ.length)(w:∀(i:Nat) v,σ'[i]? = some (some v)->σ[i]? = some (some v)):Inv X pins σ' H s:=
 ⟨I.ok,I.os,I.bare,I.base,let ⟨m,hn,hl'⟩:=I.loc;⟨m,hn,fun i x v e1 e2 e3=>hl' i x v e1 (w i v e2) e3⟩,I.cell,I.free,I.freeC,I.pin,I.hok,hl.trans I.len⟩
theorem Inv.Q4{pins':List (Addr×Obj)}(I:Inv X pins σ H s)(h:∀p∈pins',s.heap.get? p.1=some p.2/\H p.1=none/\p.1≠X.env.locals/\p.1∉X.fs/\∀v,p.2.data≠.cell v):Inv X pins' σ H s:=
 ⟨I.ok,I.os,I.bare,I.base,I.loc,I.cell,I.free,I.freeC,fun p hp=>(bS.mp hp).elim (fun z=>I.pin p (cQ _ z)) (h p),I.hok,I.len⟩
theorem y2b{N:List Str}(hN:N.Nodup){i j:Nat}{x:Str}(a:N[i]? = some x)(b:N[j]? = some x):i=j:=by
 obtain⟨h1,e1⟩:=bV.mp a
 obtain⟨h2,e2⟩:=bV.mp b
 exact(List.getElem_inj hN).mp (e1.trans e2.symm)
theorem y4V{M:Model}{A:Around}{E:Value->Shared->Prop}{i:Nat}{x:Str}{v:V}{u:Value}{Q:Unit->Shared->Prop}(I:Inv X pins σ H s)(hN:X.N.Nodup)(hi:X.N[i]? = some x)(hx:Loc X.env.scope x)(r:RelV v u)
  (h:∀s',Inv X pins (σ.set i (some v)) H s'->(∃a,Heap.SameBut a s.heap s'.heap/\(a=X.env.locals\/X.env.cells.lookup x=some a))->Q () s') (hf:X.fn x=true\/X.env.scope.names.lookup x=some .local:=by first|exact .inl rfl|exact .inr rfl|assumption):wpAny M A (storeName X.env x u) Q E s:=by
 obtain⟨m,hn,hl⟩:=id I.loc
 have hcls:(X.env.scope.kind == .class || (X.env.scope.kind == .module && X.env.locals != X.env.globals))=false:=by rw[I.ok.kind];rfl
 have hiσ:i<σ.length:=by rw[I.len];exact(bV.mp hi).1
 have cne:=I.cne
 have tracked:∀{a:Addr}{h':Heap},(∃o,s.heap.get? a=some o/\H a=none)->Heap.SameBut a s.heap h'->HOk X.prog X.w H h':=fun {a h'} ha hs b ob e=>by
  obtain⟨_,_,hfree⟩:=ha
  refine(I.hok b ob e).U8 (fun c w' hc q=>(hs.2 c ?_).trans q) (fun _ q=>q) fun _ _ q=>q
  rintro rfl
  rcases hc with rfl|hc
  ·rw[hfree] at e;cases e
  ·rw[hfree] at hc;cases hc
 rcases hx with hk|hk
 ·refine wpAny_storeName_local hk hn (fun h' hn' hs=>?_) hcls
  obtain⟨oL,_,_,hoL,_⟩:=id hn
  refine h _ ⟨I.ok,I.os,I.bare,⟨fun b o e n hb hx=>?_,fun b o e n hb hx=>?_,I.base.free,fun b o e hx=>?_,I.base.V0,I.base.U1,I.base.U7⟩,⟨_,hn',fun j y v' e1 e2 e3=>?_⟩,fun y c e=>?_,I.free,I.freeC,fun p hp=>?_,tracked ⟨oL,hoL,I.free⟩ hs,by simpa using I.len⟩ ⟨_,hs,.inl rfl⟩
  ·exact(hs.2 b (cJ (cU (bQ e) I.ok.above))).trans (I.base.keep b o e n hb hx)
  ·obtain⟨sl,e1⟩:=I.base.slot b o e n hb hx
   exact⟨sl,(hs.2 b (cJ (cU (bQ e) I.ok.above))).trans e1⟩
  ·obtain⟨o',e1⟩:=I.base.there b o e hx
   exact⟨o',(hs.2 b (cJ (cU (bQ e) I.ok.above))).trans e1⟩
  ·by_cases hj:j=i
   ·subst hj
    rw[hi] at e1;cases e1
    rw[List.getElem?_set_self hiσ] at e2
    cases e2
    exact⟨u,r,.inl ⟨hk,by simp⟩⟩
   ·rw[jN (dC hj)] at e2
    obtain⟨u',r',q⟩:=hl j y v' e1 e2 e3
    refine⟨u',r',?_⟩
    rcases q with ⟨k,e⟩|⟨k,c,e,z⟩
    ·refine .inl ⟨k,?_⟩
     have:y≠x:=fun e=>hj (y2b hN e1 (e ▸ hi))
     simp[this,e]
    ·exact .inr ⟨k,c,e,z.sameBut hs (cne y c e)⟩
  ·obtain⟨w',z⟩:=I.cell y c e
   exact⟨w',z.sameBut hs (cne y c e)⟩
  ·obtain⟨e,n,ne,nf,d⟩:=I.pin p hp
   exact⟨(hs.2 p.1 ne).trans e,n,ne,nf,d⟩
 ·have hfn:X.fn x=true:=by
   rcases hf with z|z
   ·exact z
   ·rw[z] at hk;cases hk
  obtain⟨c,hc⟩:=I.ok.has x (.inl hk)
  obtain⟨w',z⟩:=I.cell x c hc
  refine wpAny_storeName_cell I.ok.kind hk hc z (fun h' hc' hs=>?_)
  obtain⟨oc,hoc,hocd⟩:=id z
  refine h { s with heap:=h' } ⟨I.ok,I.os,I.bare,⟨fun b o e n hb hx=>?_,fun b o e n hb hx=>?_,I.base.free,fun b o e hx=>?_,I.base.V0,I.base.U1,I.base.U7⟩,⟨m,hn.sameBut hs (dC (cne x c hc)),fun j y v' e1 e2 e3=>?_⟩,fun y c' e=>?_,I.free,I.freeC,fun p hp=>?_,tracked ⟨oc,hoc,I.freeC x c hc⟩ hs,by simpa using I.len⟩ ⟨c,hs,.inr hc⟩
  ·exact(hs.2 b (cJ (cU (bQ e) (I.ok.cab x c hfn hc)))).trans (I.base.keep b o e n hb hx)
  ·obtain⟨sl,e1⟩:=I.base.slot b o e n hb hx
   exact⟨sl,(hs.2 b (cJ (cU (bQ e) (I.ok.cab x c hfn hc)))).trans e1⟩
  ·obtain⟨o',e1⟩:=I.base.there b o e hx
   exact⟨o',(hs.2 b (cJ (cU (bQ e) (I.ok.cab x c hfn hc)))).trans e1⟩
  ·by_cases hj:j=i
   ·subst hj
    rw[hi] at e1;cases e1
    rw[List.getElem?_set_self hiσ] at e2
    cases e2
    exact⟨u,r,.inr ⟨.inl hk,c,hc,hc'⟩⟩
   ·rw[jN (dC hj)] at e2
    obtain⟨u',r',q⟩:=hl j y v' e1 e2 e3
    refine⟨u',r',?_⟩
    rcases q with q|⟨k,c',e,z'⟩
    ·exact .inl q
    ·refine .inr ⟨k,c',e,z'.sameBut hs ?_⟩
     rintro rfl
     exact hj (y2b hN e1 (I.ok.inj _ _ _ e hc ▸ hi))
  ·by_cases hcc:c'=c
   ·subst hcc;exact⟨_,hc'⟩
   ·obtain⟨w2,z2⟩:=I.cell y c' e
    exact⟨w2,z2.sameBut hs hcc⟩
  ·obtain⟨e,n,ne,nf,d⟩:=I.pin p hp
   refine⟨(hs.2 p.1 ?_).trans e,n,ne,nf,d⟩
   intro q
   rw[q,hoc] at e
   have q':oc=p.2:=Option.some.inj e
   exact d w' (by rw[<- q'];exact hocd)
theorem y1X{M:Model}{A:Around}{E:Value->Shared->Prop}{i:Nat}{x:Str}{v:V}{u:Value}{Q:Unit->Shared->Prop}(I:Inv X pins σ H s)(hN:X.N.Nodup)(hi:X.N[i]? = some x)(hx:Loc X.env.scope x)(r:RelV v u)
  (h:∀s',Inv X pins (σ.set i (some v)) H s'->Q () s') (hf:X.fn x=true\/X.env.scope.names.lookup x=some .local:=by first|exact .inl rfl|exact .inr rfl|assumption):wpAny M A (storeName X.env x u) Q E s:=
 y4V I hN hi hx r (fun s' I' _=>h s' I') hf
theorem Inv.w0V{s':Shared}{ch:List Addr}(I:Inv X pins σ H s)(ho:s'.os=s.os)(u:Un (frs X.stack) ch H H' s.heap s'.heap)(hok:HOk X.prog X.w H' s'.heap)(hg:AllBare s'.gens)
  (hch:∀b∈ch,(b∈X.ex\/X.s₀.heap.objs.size≤b)/\b≠X.env.locals/\(∀x c,X.env.cells.lookup x=some c->c≠b)/\∀p∈X.pn++pins,p.1≠b):Inv X pins σ H' s':=by
 obtain⟨h',g',d',t',o'⟩:=s'
 have e:o'=s.os:=ho
 subst e
 exact I.call (g':=g') (t':=t') (d':=d') u hok hg hch
end
abbrev XK:=Value->Option Addr->Hp->Prop
abbrev St:=List (Option V)
abbrev VK:=V->Hp->Prop
abbrev TE:=St->Hp->VK->Prop
abbrev TT:=St->Hp->(Bool->Hp->Prop)->Prop
abbrev TA:=St->Hp->(List V->Hp->Prop)->Prop
structure Ends where
 nx:St->Hp->Prop
 rt:VK
 bk:St->Hp->Prop:=fun _ _=>False
 ct:St->Hp->Prop:=fun _ _=>False
abbrev TS:=Ends->St->Hp->Prop
noncomputable def EP(X:Cx)(pins:List (Addr×Obj))(σ:St)(Q:VK)(u:Value)(s':Shared):Prop:=∃v H',Inv X pins σ H' s'/\RelV v u/\Q v H'
noncomputable def TP(X:Cx)(pins:List (Addr×Obj))(σ:St)(Q:Bool->Hp->Prop)(b:Bool)(s':Shared):Prop:=∃H',Inv X pins σ H' s'/\Q b H'
noncomputable def AP(X:Cx)(pins:List (Addr×Obj))(σ:St)(Q:List V->Hp->Prop)(us:List Value)(s':Shared):Prop:=∃vs H',Inv X pins σ H' s'/\Vals vs us/\Q vs H'
noncomputable def SP(X:Cx)(pins:List (Addr×Obj))(D:Ends)(f:Flow)(s':Shared):Prop:=
 match f with
 | .next=>∃σ' H',Inv X pins σ' H' s'/\D.nx σ' H'
 | .brk=>∃σ' H',Inv X pins σ' H' s'/\D.bk σ' H'
 | .cont=>∃σ' H',Inv X pins σ' H' s'/\D.ct σ' H'
 | .ret u=>∃v σ' H',Inv X pins σ' H' s'/\RelV v u/\D.rt v H'
noncomputable def PE(X:Cx)(e:Expr)(t:TE):Prop:=
 ∀(pins:List (Addr×Obj)) (s:Shared) (σ:St) (H:Hp) (Q:VK),Inv X pins σ H s->t σ H Q->wpAny (model X.prog X.w) X.A (eval e X.env) (EP X pins σ Q) X.xe s
noncomputable def PT(X:Cx)(e:Expr)(t:TT):Prop:=
 ∀(pins:List (Addr×Obj)) (s:Shared) (σ:St) (H:Hp) (Q:Bool->Hp->Prop),Inv X pins σ H s->t σ H Q->wpAny (model X.prog X.w) X.A (isTrue e X.env (eval e X.env)) (TP X pins σ Q) X.xe s
noncomputable def PW(X:Cx)(e:Expr)(t:TT):Prop:=
 ∀(whole:Sem Value) (pins:List (Addr×Obj)) (s:Shared) (σ:St) (H:Hp) (Q:Bool->Hp->Prop),Inv X pins σ H s->t σ H Q->wpAny (model X.prog X.w) X.A (isTrue e X.env whole) (TP X pins σ Q) X.xe s
theorem PW.pt{X:Cx}{e:Expr}{t:TT}(h:PW X e t):PT X e t:=h _
noncomputable def PA(X:Cx)(es:List Expr)(t:TA):Prop:=
 ∀(pos:Pos) (pins:List (Addr×Obj)) (s:Shared) (σ:St) (H:Hp) (Q:List V->Hp->Prop),Inv X pins σ H s->t σ H Q->wpAny (model X.prog X.w) X.A (spliced (backTo pos (starEach es X.env))) (AP X pins σ Q) X.xe s
noncomputable def PS(X:Cx)(st:Stmt)(t:TS):Prop:=
 ∀(pins:List (Addr×Obj)) (s:Shared) (σ:St) (H:Hp) (D:Ends),Inv X pins σ H s->t D σ H->wpAny (model X.prog X.w) X.A (exec st X.env) (SP X pins D) X.xe s
noncomputable def PSs(X:Cx)(st:List Stmt)(t:TS):Prop:=
 ∀(pins:List (Addr×Obj)) (s:Shared) (σ:St) (H:Hp) (D:Ends),Inv X pins σ H s->t D σ H->wpAny (model X.prog X.w) X.A (execs st X.env) (SP X pins D) X.xe s
theorem thn{α:Type}{t:Sem α}{Q Q':α->Shared->Prop}{M:Model}{A:Around}{E:Value->Shared->Prop}{s:Shared}(h:wpAny M A t Q E s)(hQ:∀a s,Q a s->Q' a s):wpAny M A t Q' E s:=wpAny_mono h hQ fun _ _ x=>x
section
variable{X:Cx}
noncomputable def V8(i:Nat):TE:=fun σ H Q=>∃v,σ[i]? = some (some v)/\Q v H
noncomputable def tC(v:V):TE:=fun _ H Q=>Q v H
theorem y8K{i:Nat}{x:Str}{pos:Pos}(hN:X.N[i]? = some x)(hv:Vis X.env.scope x)(hd:(x == ("__debug__":Str))=false:=by decide)(hcd:(x == ("__classdict__":Str))=false:=by decide):PE X (.Name x pos) (V8 i):=by
 intro pins s σ H Q I h
 obtain⟨v,e,h⟩:=h
 obtain⟨m,hn,hl⟩:=I.loc
 obtain⟨u,r,l⟩:=hl i x v hN e hv
 have fin:EP X pins σ Q u s:=⟨v,H,I,r,h⟩
 rcases l with ⟨hk,hm⟩|⟨hk,c,hc,X4⟩
 ·exact wpAny_Name (wpAny_loadName_local I.ok.kind hk hn hm fin) hd
 ·rcases hk with hk|hk
  ·exact wpAny_Name (wpAny_loadName_cell I.ok.kind hk hc X4 fin) hd
  ·exact wpAny_Name (wpAny_loadName_free I.ok.kind hk hc X4 fin hcd) hd
theorem z06{i j pos}:PE X (.Constant (.int i) j pos) (tC (.int i)):=fun _ _ _ H _ I h=>wpAny_Constant_int ⟨.int i,H,I.tok _,⟨_,rfl⟩,h⟩
theorem z1P{b j pos}:PE X (.Constant (.bool b) j pos) (tC (.bl b)):=fun _ _ _ H _ I h=>Constant_bool ⟨.bl b,H,I,rfl,h⟩
theorem z9A{j pos}:PE X (.Constant .none j pos) (tC .non):=fun _ _ _ H _ I h=>Constant_none ⟨.non,H,I,rfl,h⟩
theorem z5B{x j pos}:PE X (.Constant (.str x) j pos) (tC (.str x)):=fun _ _ _ H _ I h=>Calls.Constant_str ⟨.str x,H,I.tok _,⟨_,rfl⟩,h⟩
noncomputable def Gl(X:Cx)(x:Str):Prop:=X.env.kindOf x=some .globalImplicit
theorem y1f{E:Value->Shared->Prop}{pins:List (Addr×Obj)}{s:Shared}{σ:St}{H:Hp}{x:Str}{u:Value}{pos:Pos}{Q:Value->Shared->Prop}(I:Inv X pins σ H s)(hg:Gl X x)(hm:X.mg x=some u)(h:Q u s)
  (hd:(x == ("__debug__":Str))=false:=by decide):wpAny (model X.prog X.w) X.A (eval (.Name x pos) X.env) Q E s:=
 Calls.Name_function_global I.ok.kind hg (Calls.loadGlobal_global (by rw[I.ok.glob];exact I.mod.glob.keeps I.bk) hm h) hd
theorem z5p{E:Value->Shared->Prop}{pins:List (Addr×Obj)}{s:Shared}{σ:St}{H:Hp}{x:Str}{u:Value}{pos:Pos}{Q:Value->Shared->Prop}(I:Inv X pins σ H s)(hg:Gl X x)(hm:X.mg x=none)(hv:bootBuiltins x=some u)(h:Q u s)
  (hn:x≠"__name__":=by decide) (hd:(x == ("__debug__":Str))=false:=by decide):wpAny (model X.prog X.w) X.A (eval (.Name x pos) X.env) Q E s:=by
 obtain⟨mb,h1,h2⟩:=I.mod.blt
 exact Calls.Name_function_global I.ok.kind hg (Calls.loadGlobal_builtin (by rw[I.ok.glob];exact I.mod.glob.keeps I.bk) hm (by rw[I.ok.blt];exact h1.keeps I.bk) ((h2 x hn).trans hv) h) hd
theorem y5l{x:Str}{v:V}{u:Value}{pos:Pos}(hg:Gl X x)(hm:X.mg x=some u)(r:RelV v u)(hd:(x == ("__debug__":Str))=false:=by decide):PE X (.Name x pos) (tC v):=
 fun _ _ _ H _ I h=>y1f I hg hm ⟨v,H,I,r,h⟩ hd
theorem z28{x:Str}{v:V}{u:Value}{pos:Pos}(hg:Gl X x)(hm:X.mg x=none)(hv:bootBuiltins x=some u)(r:RelV v u)(hn:x≠"__name__":=by decide)(hd:(x == ("__debug__":Str))=false:=by decide):PE X (.Name x pos) (tC v):=
 fun _ _ _ H _ I h=>z5p I hg hm hv ⟨v,H,I,r,h⟩ hn hd
variable{a b:Expr}{ta tb:TE}{pos:Pos}
noncomputable def PC(X:Cx)(op:CmpOp)(a b:Expr)(t:TE):Prop:=
 ∀(pins:List (Addr×Obj)) (s:Shared) (σ:St) (H:Hp) (Q:VK),Inv X pins σ H s->t σ H Q->
  wpAny (model X.prog X.w) X.A (eval a X.env) (fun v s₁=>wpAny (model X.prog X.w) X.A (eval b X.env) (fun u s₂=>wpAny (model X.prog X.w) X.A (compareOp op v u) (EP X pins σ Q) X.xe s₂) X.xe s₁) X.xe s
theorem y1N(b:Expr){op:CmpOp}(h:op≠.In)(h2:op≠.NotIn):behindInMarks op b=false:=by
 have e1:(op == CmpOp.In)=false:=by cases op<;>first|rfl|exact absurd rfl h
 have e2:(op == CmpOp.NotIn)=false:=by cases op<;>first|rfl|exact absurd rfl h2
 cases b<;>simp[behindInMarks,e1,e2]
noncomputable def w0f(ta:TE):TE:=fun σ H Q=>ta σ H fun x H1=>Q (.bl (decide (x=.non))) H1
noncomputable def w1O(ta:TE):TE:=fun σ H Q=>ta σ H fun x H1=>Q (.bl (!decide (x=.non))) H1
theorem RelV.V3{x:V}{v:Value}(r:RelV x v):(v == Value.none)=decide (x=.non):=by
 cases x with
 | non=>cases r;rfl
 | bl _=>cases r;rfl
 | int _=>obtain⟨t,rfl⟩:=r;rfl
 | str _=>obtain⟨t,rfl⟩:=r;rfl
 | byt _=>obtain⟨t,rfl⟩:=r;rfl
 | flt _=>obtain⟨t,rfl⟩:=r;rfl
 | ref _=>cases r;rfl
 | ty _=>cases r;rfl
theorem z8W{j pos'}(ha:PE X a ta):PC X .Is a (.Constant .none j pos') (w0f ta):=by
 intro pins s σ H Q I h
 refine thn (ha pins s σ H _ I h) fun v s1 hz=>?_
 obtain⟨x,H1,I1,r1,q1⟩:=hz
 exact Constant_none (is_none_gen ⟨.bl _,H1,I1,by rw[r1.V3];rfl,q1⟩)
theorem y7F{j pos'}(ha:PE X a ta):PC X .IsNot a (.Constant .none j pos') (w1O ta):=by
 intro pins s σ H Q I h
 refine thn (ha pins s σ H _ I h) fun v s1 hz=>?_
 obtain⟨x,H1,I1,r1,q1⟩:=hz
 exact Constant_none (isnot_none_gen ⟨.bl _,H1,I1,by rw[r1.V3];rfl,q1⟩)
noncomputable def tB(t:TE):TT:=fun σ H Q=>t σ H fun x H1=>∃c,x=.bl c/\Q c H1
theorem y3K{op:CmpOp}{t:TE}(h:PC X op a b t)(h1:behindInMarks op b=false:=by first|exact y1N _ (by decide) (by decide)|rfl):PE X (.Compare a [op] [b] pos) t:=fun pins s σ H Q I hw=>wpAny_Compare1 (h pins s σ H Q I hw) h1
theorem z7u{op:CmpOp}{t:TE}(h:PC X op a b t)(h1:behindInMarks op b=false:=by first|exact y1N _ (by decide) (by decide)|rfl):PT X (.Compare a [op] [b] pos) (tB t):=by
 intro pins s σ H Q I hw
 refine wpAny_isTrue_Compare1 (thn (h pins s σ H _ I hw) fun v s1 h1=>thn h1 fun u s2 h2=>thn h2 fun c s3 hz=>?_) h1
 obtain⟨x,H1,I1,r1,q1⟩:=hz
 obtain⟨d,rfl,q⟩:=q1
 cases r1
 exact wpAny_truthy_bool ⟨H1,I1,q⟩
theorem z1Q{e:Expr}{t:TE}(h:PE X e t)(he:∀whole,isTrue e X.env whole=(do let v <- whole;standAt e.pos;holding [v] (truthy v)):=by intro _;rfl):PT X e (tB t):=by
 intro pins s σ H Q I hw
 refine isTrue_plain (thn (h pins s σ H _ I hw) fun v s1 hz=>?_) (he _)
 obtain⟨x,H1,I1,r1,q1⟩:=hz
 obtain⟨d,rfl,q⟩:=q1
 cases r1
 exact wpAny_truthy_bool ⟨H1,I1,q⟩
variable{tA tB':TT}{rest:List Expr}
noncomputable def tAnd(t u:TT):TT:=fun σ H Q=>t σ H fun c H1=>if c=true then u σ H1 Q else Q false H1
noncomputable def tOr(t u:TT):TT:=fun σ H Q=>t σ H fun c H1=>if c=true then Q true H1 else u σ H1 Q
noncomputable def tNot(t:TT):TT:=fun σ H Q=>t σ H fun c H1=>Q (!c) H1
theorem z2k(ha:PT X a tA):PW X (.BoolOp .And [a] pos) tA:=by
 intro wh pins s σ H Q I h
 refine isTrue_and (thn (ha pins s σ H Q I h) fun c s1 e=>?_)
 cases c with
 | true=>exact isTrue_and_nil e
 | false=>exact e
theorem z25(ha:PT X a tA):PW X (.BoolOp .Or [a] pos) tA:=by
 intro wh pins s σ H Q I h
 refine isTrue_or (thn (ha pins s σ H Q I h) fun c s1 e=>?_)
 cases c with
 | false=>exact isTrue_or_nil e
 | true=>exact e
theorem z3l(ha:PT X a tA)(hb:PW X (.BoolOp .And (b::rest) pos) tB'):PW X (.BoolOp .And (a::b::rest) pos) (tAnd tA tB'):=by
 intro wh pins s σ H Q I h
 refine isTrue_and (thn (ha pins s σ H _ I h) fun c s1 hz=>?_)
 obtain⟨H1,I1,q1⟩:=hz
 cases c with
 | true=>exact hb wh pins s1 σ H1 Q I1 q1
 | false=>exact⟨H1,I1,q1⟩
theorem z37(ha:PT X a tA)(hb:PW X (.BoolOp .Or (b::rest) pos) tB'):PW X (.BoolOp .Or (a::b::rest) pos) (tOr tA tB'):=by
 intro wh pins s σ H Q I h
 refine isTrue_or (thn (ha pins s σ H _ I h) fun c s1 hz=>?_)
 obtain⟨H1,I1,q1⟩:=hz
 cases c with
 | true=>exact⟨H1,I1,q1⟩
 | false=>exact hb wh pins s1 σ H1 Q I1 q1
theorem z22(ha:PT X a tA):PT X (.UnaryOp .Not a pos) (tNot tA):=by
 intro pins s σ H Q I h
 exact isTrue_not (ha pins s σ H (fun c H1=>Q (!c) H1) I h)
noncomputable def w1K(ta tb:TE):TE:=fun σ H Q=>ta σ H fun x H1=>∃c,x=.bl c/\if c=true then tb σ H1 Q else Q (.bl false) H1
noncomputable def w1A(ta:TE):TE:=fun σ H Q=>ta σ H fun x H1=>∃c,x=.bl c/\Q (.bl (!c)) H1
theorem y6Y{op}{t:TE}(h:PE X a t):PE X (.BoolOp op [a] pos) t:=fun pins s σ H Q I hw=>BoolOp_one (h pins s σ H Q I hw)
theorem y74(ha:PE X a ta)(hb:PE X (.BoolOp .And (b::rest) pos) tb):PE X (.BoolOp .And (a::b::rest) pos) (w1K ta tb):=by
 intro pins s σ H Q I h
 refine BoolOp_and (thn (ha pins s σ H _ I h) fun v s1 hz=>?_)
 obtain⟨x,H1,I1,r1,q1⟩:=hz
 obtain⟨c,rfl,q1⟩:=q1
 cases r1
 refine wpAny_truthy_bool ?_
 cases c with
 | true=>exact hb pins s1 σ H1 Q I1 q1
 | false=>exact⟨.bl false,H1,I1,rfl,q1⟩
theorem y6D(ha:PE X a ta):PE X (.UnaryOp .Not a pos) (w1A ta):=by
 intro pins s σ H Q I h
 refine UnaryOp_ (thn (ha pins s σ H _ I h) fun v s1 hz=>?_)
 obtain⟨x,H1,I1,r1,q1⟩:=hz
 obtain⟨c,rfl,q1⟩:=q1
 cases r1
 exact not_of (wpAny_truthy_bool ⟨.bl (!c),H1,I1,rfl,q1⟩)
noncomputable def tIf(t:TT)(ta tb:TE):TE:=fun σ H Q=>t σ H fun c H1=>if c=true then ta σ H1 Q else tb σ H1 Q
theorem z56{c:Expr}(hc:PT X c tA)(ha:PE X a ta)(hb:PE X b tb):PE X (.IfExp c a b pos) (tIf tA ta tb):=by
 intro pins s σ H Q I h
 refine wpAny_IfExp (thn (hc pins s σ H _ I h) fun d s1 hz=>?_)
 obtain⟨H1,I1,q1⟩:=hz
 cases d with
 | true=>exact ha pins s1 σ H1 Q I1 q1
 | false=>exact hb pins s1 σ H1 Q I1 q1
end
noncomputable def SqL(K:PySem.W.Frag)(H:Hp)(a:Addr)(xs:List V):Prop:=
 Rd H a (.lst xs)\/
  ∃(o:Obj) (its:Array Value) (n:Nat),K.lookup a=some o/\o.cls=.type "list"/\o.dict=none/\o.data=.seq its n/\its.size≤sizeLine/\Vals xs its.toList
noncomputable def SqT(K:PySem.W.Frag)(H:Hp)(a:Addr)(xs:List V):Prop:=
 Rd H a (.tup xs)\/
  ∃(o:Obj) (its:Array Value) (n:Nat),K.lookup a=some o/\o.cls=.type "tuple"/\o.data=.seq its n/\its.size≤sizeLine/\Vals xs its.toList
noncomputable def absV:Value->Option V
 | .none=>some .non
 | .bool b=>some (.bl b)
 | .int i _=>some (.int i)
 | .str x _=>some (.str x)
 | .bytes b _=>some (.byt b)
 | .float b _=>some (.flt b)
 | .ref a=>some (.ref a)
 | .type n=>some (.ty n)
 | _=>none
theorem RelV.abs{x:V}{u:Value}(r:RelV x u):absV u=some x:=by
 cases x with
 | non=>cases r;rfl
 | bl _=>cases r;rfl
 | int _=>obtain⟨t,rfl⟩:=r;rfl
 | str _=>obtain⟨t,rfl⟩:=r;rfl
 | byt _=>obtain⟨t,rfl⟩:=r;rfl
 | flt _=>obtain⟨t,rfl⟩:=r;rfl
 | ref _=>cases r;rfl
 | ty _=>cases r;rfl
theorem RelV.inj{x y:V}{u:Value}(r:RelV x u)(q:RelV y u):x=y:=Option.some.inj (r.abs.symm.trans q.abs)
theorem Vals.inj:∀{xs ys:List V}{us:List Value},Vals xs us->Vals ys us->xs=ys
 | _,_,_,.nil,.nil=>rfl
 | _,_,_,.cons r t,.cons r' t'=>by rw[r.inj r',Vals.inj t t']
section
variable{X:Cx}{pins:List (Addr×Obj)}{σ:St}{H:Hp}{s:Shared}{a:Addr}{xs ys:List V}
theorem SqL.of{K:PySem.W.Frag}(h:H a=some (.lst xs)):SqL K H a xs:=.inl (.inl h)
theorem SqT.of{K:PySem.W.Frag}(h:H a=some (.tup xs)):SqT K H a xs:=.inl (.inl h)
theorem Inv.list(I:Inv X pins σ H s)(h:SqL X.K H a xs):∃its:List Value,Vals xs its/\PlainL s.heap a its.toArray/\xs.length≤sizeLine:=by
 rcases h with h|⟨o,its,n,hk,hc,hd,hs,hz,r⟩
 ·obtain⟨z,its,n,r,e⟩:=h.ok I.hok
  exact⟨its,r,⟨_,n,e,rfl,rfl,rfl⟩,z⟩
 ·refine⟨its.toList,r,⟨o,n,I.kIn a o hk,hc,hd,by simpa using hs⟩,?_⟩
  have e:=r.length
  simp only[gQ] at e
  lia
theorem Inv.tuple(I:Inv X pins σ H s)(h:SqT X.K H a xs):∃its:List Value,Vals xs its/\IsTup s.heap a its.toArray/\xs.length≤sizeLine:=by
 rcases h with h|⟨o,its,n,hk,hc,hs,hz,r⟩
 ·obtain⟨z,its,r,p⟩:=h.ok I.hok
  exact⟨its,r,PlT.tup p,z⟩
 ·refine⟨its.toList,r,⟨o,I.kIn a o hk,hc,n,by simpa using hs⟩,?_⟩
  have e:=r.length
  simp only[gQ] at e
  lia
theorem Inv.Z5(I:Inv X pins σ H s)(h:SqL X.K H a xs)(h':SqL X.K H a ys):xs=ys:=by
 obtain⟨its,r,⟨o,n,e,_,_,d⟩,_⟩:=I.list h
 obtain⟨its',r',⟨o',n',e',_,_,d'⟩,_⟩:=I.list h'
 rw[e] at e';cases e'
 rw[d] at d'
 injection d' with d1 _
 have:its=its':=by simpa using congrArg Array.toList d1
 subst this
 exact r.inj r'
theorem Inv.P0(I:Inv X pins σ H s)(h:SqT X.K H a xs)(h':SqT X.K H a ys):xs=ys:=by
 obtain⟨its,r,⟨o,e,_,n,d⟩,_⟩:=I.tuple h
 obtain⟨its',r',⟨o',e',_,n',d'⟩,_⟩:=I.tuple h'
 rw[e] at e';cases e'
 rw[d] at d'
 injection d' with d1 _
 have:its=its':=by simpa using congrArg Array.toList d1
 subst this
 exact r.inj r'
end
abbrev Cx.T3(X:Cx)(E:Value->Shared->Prop):Cx:={ X with xe:=E }
abbrev Cx.nox(X:Cx):Cx:=X.T3 fun _ _=>False
theorem Cx.Ok.T3{X:Cx}(ok:X.Ok)(E:Value->Shared->Prop):(X.T3 E).Ok:=
 ⟨ok.mod,ok.kind,ok.glob,ok.blt,ok.above,ok.inj,ok.has,ok.cab,ok.hd,ok.frames,ok.stk,ok.exf,ok.bs,ok.bsz,ok.noex,ok.exfs,ok.S1,ok.frf⟩
theorem Cx.Ok.O4{X:Cx}{E:Value->Shared->Prop}(ok:(X.T3 E).Ok):X.Ok:=
 ⟨ok.mod,ok.kind,ok.glob,ok.blt,ok.above,ok.inj,ok.has,ok.cab,ok.hd,ok.frames,ok.stk,ok.exf,ok.bs,ok.bsz,ok.noex,ok.exfs,ok.S1,ok.frf⟩
section
variable{X:Cx}{pins:List (Addr×Obj)}{σ:St}{H:Hp}{s:Shared}{E:Value->Shared->Prop}
theorem Inv.T3(I:Inv X pins σ H s)(E:Value->Shared->Prop):Inv (X.T3 E) pins σ H s:=⟨I.ok.T3 E,I.os,I.bare,I.base,I.loc,I.cell,I.free,I.freeC,I.pin,I.hok,I.len⟩
theorem Inv.O4(I:Inv (X.T3 E) pins σ H s):Inv X pins σ H s:=⟨I.ok.O4,I.os,I.bare,I.base,I.loc,I.cell,I.free,I.freeC,I.pin,I.hok,I.len⟩
theorem SP.O4{D:Ends}{f:Flow}{s':Shared}(h:SP (X.T3 E) pins D f s'):SP X pins D f s':=by
 cases f with
 | next=>obtain⟨σ',H',I,q⟩:=h;exact⟨σ',H',I.O4,q⟩
 | brk=>obtain⟨σ',H',I,q⟩:=h;exact⟨σ',H',I.O4,q⟩
 | cont=>obtain⟨σ',H',I,q⟩:=h;exact⟨σ',H',I.O4,q⟩
 | ret u=>obtain⟨v,σ',H',I,r,q⟩:=h;exact⟨v,σ',H',I.O4,r,q⟩
theorem PSs.nox{st:List Stmt}{t:TS}(h:PSs X.nox st t):PSs X st t:=fun pins s σ H D I hw=>
 wpAny_mono (h pins s σ H D (I.T3 _) hw) (fun _ _ q=>q.O4) fun _ _ z=>False.elim z
end
section
variable{X:Cx}{st:Stmt}{rest:List Stmt}{t u:TS}{e:Expr}{te:TE}{pos:Pos}
noncomputable def w1p:TS:=fun D σ H=>D.nx σ H
noncomputable def tSeq(t u:TS):TS:=fun D σ H=>t { D with nx:=u D } σ H
theorem z0l:PSs X [] w1p:=fun _ _ σ H _ I h=>wpAny_execs_nil ⟨σ,H,I,h⟩
theorem z04(h1:PS X st t)(h2:PSs X rest u):PSs X (st::rest) (tSeq t u):=by
 intro pins s σ H D I h
 refine wpAny_execs_cons (thn (h1 pins s σ H { D with nx:=u D } I h) fun f s1 q=>?_)
 cases f with
 | next=>
  obtain⟨σ',H',I',q⟩:=q
  exact h2 pins s1 σ' H' D I' q
 | ret v=>exact q
 | brk=>exact q
 | cont=>exact q
theorem z05(h1:PS X st t):PSs X [st] t:=by
 intro pins s σ H D I h
 refine wpAny_execs_cons (thn (h1 pins s σ H D I h) fun f s1 q=>?_)
 cases f with
 | next=>exact wpAny_execs_nil q
 | ret v=>exact q
 | brk=>exact q
 | cont=>exact q
theorem Inv.quiet{pins:List (Addr×Obj)}{σ:St}{H:Hp}{s:Shared}(I:Inv X pins σ H s):interactive X.env=false:=by simp[interactive,I.ok.kind]
noncomputable def w0T(te:TE):TS:=fun D σ H=>te σ H fun _ H1=>D.nx σ H1
theorem z0D(he:PE X e te)(hs:swapsWith e none pos.line X.env=pure false:=by rfl):PS X (.Expr e pos) (w0T te):=by
 intro pins s σ H D I h
 exact wpAny_Expr_any (thn (he pins s σ H _ I h) fun v s1 ⟨x,H1,I1,r1,q1⟩=>⟨σ,H1,I1,q1⟩) I.quiet hs
noncomputable def tRet(te:TE):TS:=fun D σ H=>te σ H D.rt
theorem z0i(he:PE X e te):PS X (.Return (some e) pos) (tRet te):=by
 intro pins s σ H D I h
 exact wpAny_Return_some (thn (he pins s σ H _ I h) fun v s1 ⟨x,H1,I1,r1,q1⟩=>⟨x,σ,H1,I1,r1,q1⟩)
noncomputable def tIfS(c:TT)(t u:TS):TS:=fun D σ H=>c σ H fun b H1=>if b=true then t D σ H1 else u D σ H1
theorem z0E{c:Expr}{a b:List Stmt}{tc:TT}(hc:PT X c tc)(ha:PSs X a t)(hb:PSs X b u):PS X (.If c a b pos) (tIfS tc t u):=by
 intro pins s σ H D I h
 refine wpAny_If (thn (hc pins s σ H _ I h) fun d s1 hz=>?_)
 obtain⟨H1,I1,q1⟩:=hz
 cases d with
 | true=>exact ha pins s1 σ H1 D I1 q1
 | false=>exact hb pins s1 σ H1 D I1 q1
noncomputable def y8s:TS:=fun _ _ _=>False
theorem z1N:PS X st y8s:=fun _ _ _ _ _ _ h=>h.elim
end
abbrev TG:=V->St->Hp->(St->Hp->Prop)->Prop
abbrev TGs:=List V->St->Hp->(St->Hp->Prop)->Prop
noncomputable def PG(X:Cx)(target:Expr)(t:TG):Prop:=
 ∀(pins:List (Addr×Obj)) (s:Shared) (σ:St) (H:Hp) (v:V) (u:Value) (Q:St->Hp->Prop),Inv X pins σ H s->RelV v u->t v σ H Q->
  wpAny (model X.prog X.w) X.A (assign target X.env u) (fun _ s'=>∃σ' H',Inv X pins σ' H' s'/\Q σ' H') X.xe s
noncomputable def PGs(X:Cx)(ts:List Expr)(t:TGs):Prop:=
 ∀(pins:List (Addr×Obj)) (s:Shared) (σ:St) (H:Hp) (vs:List V) (us:List Value) (Q:St->Hp->Prop),Inv X pins σ H s->Vals vs us->t vs σ H Q->
  wpAny (model X.prog X.w) X.A (assignInOrder ((assignEach ts X.env).map (·.2)) us) (fun _ s'=>∃σ' H',Inv X pins σ' H' s'/\Q σ' H') X.xe s
abbrev w0t:=V->V->V->Hp->(Hp->Prop)->Prop
noncomputable def PSet(X:Cx)(t:w0t):Prop:=
 ∀(pins:List (Addr×Obj)) (s:Shared) (σ:St) (H:Hp) (o i v:V) (ov iv u:Value) (Q:Hp->Prop),Inv X pins σ H s->RelV o ov->RelV i iv->RelV v u->t o i v H Q->
  wpAny (model X.prog X.w) X.A (setItem ov iv u) (fun _ s'=>∃H',Inv X pins σ H' s'/\Q H') X.xe s
section
variable{X:Cx}{pos:Pos}
noncomputable def y3Y(i:Nat):TG:=fun v σ H Q=>Q (σ.set i (some v)) H
theorem z0j{i:Nat}{x:Str}(hN:X.N.Nodup)(hi:X.N[i]? = some x)(hx:Loc X.env.scope x)(hf:X.fn x=true\/X.env.scope.names.lookup x=some .local:=by first|exact .inl rfl|exact .inr rfl|assumption):PG X (.Name x pos) (y3Y i):=by
 intro pins s σ H v u Q I r h
 exact wpAny_assign_Name (y1X I hN hi hx r (fun s' I'=>⟨_,H,I',h⟩) hf)
noncomputable def w0q:TGs:=fun vs σ H Q=>vs=[]/\Q σ H
noncomputable def y7v(t:TG)(u:TGs):TGs:=fun vs σ H Q=>∃v r,vs=v::r/\t v σ H fun σ' H'=>u r σ' H' Q
theorem z4Q:PGs X [] w0q:=by
 intro pins s σ H vs us Q I r h
 obtain⟨e,h⟩:=h
 subst e
 cases r
 exact assignInOrder_nil ⟨σ,H,I,h⟩
theorem z1f{e:Expr}{es:List Expr}{t:TG}{u:TGs}(h1:PG X e t)(h2:PGs X es u)
  (hs:(assignEach (e::es) X.env).map (·.2)=assign e X.env::(assignEach es X.env).map (·.2):=by rfl):PGs X (e::es) (y7v t u):=by
 intro pins s σ H vs us Q I r h
 obtain⟨v,vr,e1,h⟩:=h
 subst e1
 cases r with
 | cons r rr=>
  rw[hs]
  refine assignInOrder_cons (thn (h1 pins s σ H _ _ _ I r h) fun _ s1 hz=>?_)
  obtain⟨σ1,H1,I1,q1⟩:=hz
  exact h2 pins s1 σ1 H1 _ _ Q I1 rr q1
noncomputable def Z6(K:PySem.W.Frag)(n:Nat)(t:TGs):TG:=fun v σ H Q=>∃a xs,v=.ref a/\SqT K H a xs/\xs.length=n/\t xs σ H Q
theorem y6K{es:List Expr}{k:Nat}{t:TGs}{n:Nat}(hc:X.calm=true)(h:PGs X es t)
  (hn:(assignEach es X.env).length=n:=by rfl) (hst:(assignEach es X.env).findIdx? (·.1)=none:=by rfl):PG X (.Tuple es k pos) (Z6 X.K n t):=by
 intro pins s σ H v u Q I r hw
 obtain⟨a,xs,e1,hq,hl,hw⟩:=hw
 subst e1
 cases r
 obtain⟨its,rv,ht,hz⟩:=I.tuple hq
 refine assign_Tuple_tuple (I.ok.hd hc) ht (by simp[hn,<- hl,rv.length]) hst fun h' hx=>?_
 have I1:Inv X pins σ H { s with heap:=h' }:=I.kept (t':=s.toks) fun b o e=>hx b o (cJ (bQ e)) e
 exact h pins _ σ H xs _ Q I1 (by simpa using rv) hw
noncomputable def gSub(to ti:TE)(t:w0t):TG:=fun v σ H Q=>to σ H fun o H1=>ti σ H1 fun i H2=>t o i v H2 fun H3=>Q σ H3
theorem y72{o i:Expr}{to ti:TE}{t:w0t}(ho:PE X o to)(hi:PE X i ti)(hs:PSet X t)
  (ha:∀v,assign (.Subscript o i pos) X.env v=(do
   let ov <- holding [v] (eval o X.env)
   let iv <- holding [v,ov] (eval i X.env)
   standAt pos
   holding [v,ov,iv] (setItem ov iv v)
   release [v,ov,iv] []):=by intro _;rfl):PG X (.Subscript o i pos) (gSub to ti t):=by
 intro pins s σ H v u Q I r h
 rw[ha]
 refine wpAny_bind (wpAny_holding (thn (ho pins s σ H _ I h) fun ov s1 hz=>?_))
 obtain⟨x,H1,I1,r1,q1⟩:=hz
 refine wpAny_bind (wpAny_holding (thn (hi pins s1 σ H1 _ I1 q1) fun iv s2 hz=>?_))
 obtain⟨y,H2,I2,r2,q2⟩:=hz
 refine wpAny_bind (wpAny_standAt (wpAny_bind (wpAny_holding (thn (hs pins s2 σ H2 x y v ov iv u _ I2 r1 r2 r q2) fun _ s3 hz=>?_))))
 obtain⟨H3,I3,q3⟩:=hz
 exact wpAny_release ⟨σ,H3,I3,q3⟩
noncomputable def w0o(te:TE)(g:TG):TS:=fun D σ H=>te σ H fun x H1=>g x σ H1 D.nx
theorem y6I{tg e:Expr}{te:TE}{g:TG}(he:PE X e te)(hg:PG X tg g)(hs:swapsWithSole [tg] e pos.line X.env=pure false:=by rfl)(hw:swappedStores [tg] e X.env=pure none:=by rfl)
  (h1:(assignEach [tg] X.env).map (·.2)=[assign tg X.env]:=by rfl):PS X (.Assign [tg] e pos) (w0o te g):=by
 intro pins s σ H D I h
 refine wpAny_Assign_stores (thn (he pins s σ H _ I h) fun v s1 hz=>?_) hs hw
 obtain⟨x,H1,I1,r1,q1⟩:=hz
 rw[h1]
 exact thn (hg pins s1 σ H1 x v _ I1 r1 q1) fun _ s2 q=>q
theorem z0p{i:Nat}{x:Str}{e:Expr}{te:TE}{pos':Pos}(hN:X.N.Nodup)(hi:X.N[i]? = some x)(hx:Loc X.env.scope x)(he:PE X e te)(hs:swapsWith e (some (.Name x pos')) pos.line X.env=pure false:=by rfl)(hf:X.fn x=true\/X.env.scope.names.lookup x=some .local:=by first|exact .inl rfl|exact .inr rfl|assumption) :
  PS X (.Assign [.Name x pos'] e pos) (w0o te (y3Y i)):=by
 intro pins s σ H D I h
 refine wpAny_Assign_Name (thn (he pins s σ H _ I h) fun v s1 hz=>?_) hs
 obtain⟨y,H1,I1,r1,q1⟩:=hz
 exact y1X I1 hN hi hx r1 (fun s2 I2=>⟨_,H1,I2,q1⟩) hf
end
section
variable{X:Cx}{pos:Pos}
end
structure It where
 go:Nat->Hp->Prop
 yld:Nat->Hp->V->Hp->Prop
 stop:Nat->Hp->Prop
noncomputable def Q6(X:Cx)(pins:List (Addr×Obj))(H:Hp)(b:Addr):Prop:=
 H b=none/\b≠X.env.locals/\b∉X.fs/\(b∈X.ex\/X.s₀.heap.objs.size≤b)/\(∀x c,X.env.cells.lookup x=some c->c≠b)/\∀p∈X.pn++pins,p.1≠b
theorem Inv.T6{X:Cx}{pins:List (Addr×Obj)}{σ:St}{H H':Hp}{s:Shared}{b:Addr}(I:Inv X pins σ H s)(hb:s.heap.objs.size≤b)(hn:H' b=none):Q6 X pins H' b:=by
 refine⟨hn,eU (cU I.lt hb),I.nofs hb,.inr (cL I.sz hb),fun x c e z=>?_,fun p hp z=>?_⟩
 ·obtain⟨v,q⟩:=I.cell x c e
  exact absurd (cU q.lt (by rw[z];exact hb)) (dP _)
 ·exact absurd (cU (bQ (I.pin p hp).1) (by rw[z];exact hb)) (dP _)
structure Turn(P:Program)(w:World)(K:PySem.W.Frag)(tg:Expr)(J:It)(fp:List Addr)(it:Addr)(tn:Nat->Heap->Prop):Prop where
 mem:it∈fp
 obj:∀i h,tn i h->∀b∈fp,∃o,h.get? b=some o/\∀v,o.data≠.cell v
 keep:∀i h h',tn i h->(∀b∈fp,∀o,h.get? b=some o->h'.get? b=some o)->tn i h'
 item:∀(X:Cx),X.prog=P->X.w=w->X.K=K->X.calm=true->∀(i:Nat) (pins:List (Addr×Obj)) (s:Shared) (σ:St) (H:Hp) (E:Value->Shared->Prop),Inv X pins σ H s->(∀b∈fp,Q6 X pins H b)->tn i s.heap->J.go i H->
  wpAny (model P w) X.A (pyNext (.ref it)) (fun r s1=>∃u,r=some u/\
   wpAny (model P w) X.A (letOwnedTupleGo tg (.ref it) u) (fun _ s2=>∃x H',Inv X pins σ H' s2/\RelV x u/\J.yld i H x H'/\tn (i+1) s2.heap/\∀b∈fp,H' b=none) E s1) E s
 done:∀(X:Cx),X.prog=P->X.w=w->X.K=K->X.calm=true->∀(i:Nat) (pins:List (Addr×Obj)) (s:Shared) (σ:St) (H:Hp) (E:Value->Shared->Prop),Inv X pins σ H s->(∀b∈fp,Q6 X pins H b)->tn i s.heap->J.stop i H->
  wpAny (model P w) X.A (pyNext (.ref it)) (fun r s1=>r=none/\Inv X pins σ H s1) E s
 self:∀(A:Around) (i:Nat) (s:Shared) (Q:Value->Shared->Prop) (E:Value->Shared->Prop),tn i s.heap->Q (.ref it) s->wpAny (model P w) A (pyIter (.ref it)) Q E s
abbrev TI:=St->Hp->(It->Hp->Prop)->Prop
noncomputable def PIE(X:Cx)(pins:List (Addr×Obj))(σ:St)(tg:Expr)(R:It->Hp->Prop)(itv:Value)(s2:Shared):Prop:=
 ∃(it:Addr) (fp:List Addr) (tn:Nat->Heap->Prop) (J:It) (H':Hp),itv=.ref it/\Inv X pins σ H' s2/\Turn X.prog X.w X.K tg J fp it tn/\tn 0 s2.heap/\(∀b∈fp,Q6 X pins H' b)/\R J H'
noncomputable def PI(X:Cx)(tg iter:Expr)(wi:TI):Prop:=
 ∀(pins:List (Addr×Obj)) (s:Shared) (σ:St) (H:Hp) (R:It->Hp->Prop),Inv X pins σ H s->wi σ H R->
  wpAny (model X.prog X.w) X.A (eval iter X.env) (fun v s1=>wpAny (model X.prog X.w) X.A (pyIter v) (PIE X pins σ tg R) X.xe s1) X.xe s
theorem y51 {M : Model} {A : Around} {E : Value -> Shared -> Prop} {s : Shared} {tg : Expr} {it : Addr} {u : Value} {o : Obj} {n : String} {vs : Array Value} {Q : Unit -> Shared -> Prop} (ho : s.heap.get? it = some o) (hc : o.cls = .type n) (hd : o.data = .fields vs)
    (hn : ["enumerate", "zip", "dict_itemiterator", "dict_reverseitemiterator", "odict_iterator", "itertools.zip_longest", "itertools.pairwise"].contains n = false) (hQ : Q () s) : wpAny M A (letOwnedTupleGo tg (.ref it) u) Q E s := by
  unfold letOwnedTupleGo
  cases tg <;> first
    | exact wpAny_pure hQ
    | (cases u <;> first
        | exact wpAny_pure hQ
        | (refine wpAny_bind (wpAny_load ho ?_)
           rw [hc, hd]
           show wpAny M A (if (["enumerate", "zip", "dict_itemiterator", "dict_reverseitemiterator", "odict_iterator", "itertools.zip_longest", "itertools.pairwise"].contains n && vs[0]? == some (rawInt _)) = true then _ else _) Q E s
           rw [if_neg (by intro h; rw [hn, gK] at h; cases h)]
           exact wpAny_pure hQ))
noncomputable def Itl(K:PySem.W.Frag)(a:Addr):It:=
 ⟨fun i H=>∃xs x,SqL K H a xs/\xs[i]? = some x,fun i H x H'=>H'=H/\∀xs,SqL K H a xs->xs[i]? = some x,fun i H=>∃xs,SqL K H a xs/\xs.length≤i⟩
noncomputable def Itt(K:PySem.W.Frag)(a:Addr):It:=
 ⟨fun i H=>∃xs x,SqT K H a xs/\xs[i]? = some x,fun i H x H'=>H'=H/\∀xs,SqT K H a xs->xs[i]? = some x,fun i H=>∃xs,SqT K H a xs/\xs.length≤i⟩
noncomputable def Itr(lo:Int)(n:Nat):It:=⟨fun i _=>i<n,fun i H x H'=>H'=H/\x=.int (lo+i),fun i _=>n≤i⟩
theorem y0M{P:Program}{w:World}{K:PySem.W.Frag}{tg:Expr}(a it:Addr):Turn P w K tg (Itl K a) [it] it (fun i h=>h.IsListIter it a i) where
 mem:=by simp
 obj:=fun i h st b hb=>by
  have e:b=it:=by simpa using hb
  subst e
  obtain⟨o,e,c,d⟩:=st
  exact⟨o,e,fun v z=>by rw[d] at z;cases z⟩
 keep:=fun i h h' st k=>st.at fun o e=>k it (by simp) o e
 item:=by
  intro X hP hw hK hc i pins s σ H E I hf st hg
  subst hP hw hK
  obtain⟨xs,x,hq,hx⟩:=hg
  obtain⟨its,rv,p,hz⟩:=I.list hq
  obtain⟨u,hu,ru⟩:=rv.get hx
  obtain⟨f0,f1,f2,f3,f4,f5⟩:=hf it (by simp)
  refine wpAny_pyNext_list_item st p.isList (x:=u) (by simpa using hu) fun h' st' sb=>?_
  have I1:Inv X pins σ H { s with heap:=h' }:=I.turned (t':=s.toks) (fun b o hb e=>(sb.2 b hb).trans e) f0 f1 f3 f4 f5
  obtain⟨o,e,c,d⟩:=id st'
  exact⟨u,rfl,y51 (s:={ s with heap:=h' }) e c d (by decide) ⟨x,H,I1,ru,⟨rfl,fun ys hy=>by rw[I.Z5 hy hq];exact hx⟩,st',fun b hb=>(hf b hb).1⟩⟩
 done:=by
  intro X hP hw hK hc i pins s σ H E I hf st hg
  subst hP hw hK
  obtain⟨xs,hq,hx⟩:=hg
  obtain⟨its,rv,p,hz⟩:=I.list hq
  obtain⟨f0,f1,f2,f3,f4,f5⟩:=hf it (by simp)
  have hl:=rv.length
  exact wpAny_pyNext_list_end (I.ok.hd hc) st p.isList (by simp;lia) fun h' eb=>⟨rfl,I.turned (t':=s.toks) (fun b o hb e=>eb b o hb e) f0 f1 f3 f4 f5⟩
 self:=fun _ _ _ _ _ st h=>wpAny_pyIter_listiter st h
theorem z9I{P:Program}{w:World}{K:PySem.W.Frag}{tg:Expr}(a it:Addr):Turn P w K tg (Itt K a) [it] it (fun i h=>h.IsTupleIter it a i) where
 mem:=by simp
 obj:=fun i h st b hb=>by
  have e:b=it:=by simpa using hb
  subst e
  obtain⟨o,e,c,d⟩:=st
  exact⟨o,e,fun v z=>by rw[d] at z;cases z⟩
 keep:=fun i h h' st k=>st.at fun o e=>k it (by simp) o e
 item:=by
  intro X hP hw hK hc i pins s σ H E I hf st hg
  subst hP hw hK
  obtain⟨xs,x,hq,hx⟩:=hg
  obtain⟨its,rv,p,hz⟩:=I.tuple hq
  obtain⟨u,hu,ru⟩:=rv.get hx
  obtain⟨f0,f1,f2,f3,f4,f5⟩:=hf it (by simp)
  refine wpAny_pyNext_tuple_item st (show s.heap.IsTuple a its.toArray from p) (x:=u) (by simpa using hu) fun h' st' sb=>?_
  have I1:Inv X pins σ H { s with heap:=h' }:=I.turned (t':=s.toks) (fun b o hb e=>(sb.2 b hb).trans e) f0 f1 f3 f4 f5
  obtain⟨o,e,c,d⟩:=id st'
  exact⟨u,rfl,y51 (s:={ s with heap:=h' }) e c d (by decide) ⟨x,H,I1,ru,⟨rfl,fun ys hy=>by rw[I.P0 hy hq];exact hx⟩,st',fun b hb=>(hf b hb).1⟩⟩
 done:=by
  intro X hP hw hK hc i pins s σ H E I hf st hg
  subst hP hw hK
  obtain⟨xs,hq,hx⟩:=hg
  obtain⟨its,rv,p,hz⟩:=I.tuple hq
  obtain⟨f0,f1,f2,f3,f4,f5⟩:=hf it (by simp)
  have hl:=rv.length
  exact wpAny_pyNext_tuple_end (I.ok.hd hc) st (show s.heap.IsTuple a its.toArray from p) (by simp;lia) fun h' eb=>⟨rfl,I.turned (t':=s.toks) (fun b o hb e=>eb b o hb e) f0 f1 f3 f4 f5⟩
 self:=fun _ _ _ _ _ st h=>wpAny_pyIter_tupleiter st h
theorem y2Q{P:Program}{w:World}{K:PySem.W.Frag}{tg:Expr}(it:Addr)(lo:Int)(n:Nat):Turn P w K tg (Itr lo n) [it] it (fun i h=>IsRangeIter h it (lo+(i:Nat)*1) ((n:Int)-(i:Nat)) 1) where
 mem:=by simp
 obj:=fun i h st b hb=>by
  have e:b=it:=by simpa using hb
  subst e
  exact⟨_,st,fun v z=>by
   have z':Data.fields _=Data.cell v:=z
   cases z'⟩
 keep:=fun i h h' st k=>k it (by simp) _ st
 item:=by
  intro X hP hw hK hc i pins s σ H E I hf st hg
  subst hP hw hK
  obtain⟨f0,f1,f2,f3,f4,f5⟩:=hf it (by simp)
  have W:=Walks.range (prog:=X.prog) (w:=X.w) (I.ok.hd hc) it lo 1 n
  refine W.item i s _ _ hg st fun v h' tk hv st' kk=>?_
  obtain⟨t,rfl⟩:=hv
  have I1:Inv X pins σ H { s with heap:=h',toks:=tk }:=I.turned (fun b o hb e=>kk b o (by simpa using hb) e) f0 f1 f3 f4 f5
  refine⟨_,rfl,y51 (s:={ s with heap:=h',toks:=tk }) (n:="range_iterator") st' rfl rfl (by decide) ⟨.int (lo+i),H,I1,⟨t,?_⟩,⟨rfl,rfl⟩,st',fun b hb=>(hf b hb).1⟩⟩
  rw[Int.mul_one]
 done:=by
  intro X hP hw hK hc i pins s σ H E I hf st hg
  subst hP hw hK
  obtain⟨f0,f1,f2,f3,f4,f5⟩:=hf it (by simp)
  exact wpAny_pyNext_range_end (I.ok.hd hc) st (by have:n≤i:=hg;lia) fun h' eb=>⟨rfl,I.turned (t':=s.toks) (fun b o hb e=>eb b o hb e) f0 f1 f3 f4 f5⟩
 self:=fun _ _ _ _ _ st h=>wpAny_pyIter_rangeiter st h
section
variable{X:Cx}{tg:Expr}
noncomputable def w14(K:PySem.W.Frag)(tl:TE):TI:=fun σ H R=>tl σ H fun x H1=>∃a,x=.ref a/\(∃xs,SqL K H1 a xs)/\R (Itl K a) H1
noncomputable def iTup(K:PySem.W.Frag)(tl:TE):TI:=fun σ H R=>tl σ H fun x H1=>∃a,x=.ref a/\(∃xs,SqT K H1 a xs)/\R (Itt K a) H1
theorem z16{l:Expr}{tl:TE}(hl:PE X l tl):PI X tg l (w14 X.K tl):=by
 intro pins s σ H R I h
 refine thn (hl pins s σ H _ I h) fun v s1 hz=>?_
 obtain⟨x,H1,I1,r1,q1⟩:=hz
 obtain⟨a,e,⟨xs,hq⟩,q⟩:=q1
 subst e
 cases r1
 obtain⟨its,rv,p,hz⟩:=I1.list hq
 refine wpAny_pyIter_list p.isList ?_
 refine⟨s1.heap.objs.size,[s1.heap.objs.size],_,_,H1,rfl,I1.kept (t':=s1.toks) fun b o e=>bA _ e,y0M a _,⟨_,bL _ rfl,rfl,rfl⟩,fun b hb=>?_,q⟩
 have e:b=s1.heap.objs.size:=by simpa using hb
 subst e
 exact I1.T6 (bI _) (I1.hok.fresh (bI _))
theorem z1L{l:Expr}{tl:TE}(hl:PE X l tl):PI X tg l (iTup X.K tl):=by
 intro pins s σ H R I h
 refine thn (hl pins s σ H _ I h) fun v s1 hz=>?_
 obtain⟨x,H1,I1,r1,q1⟩:=hz
 obtain⟨a,e,⟨xs,hq⟩,q⟩:=q1
 subst e
 cases r1
 obtain⟨its,rv,p,hz⟩:=I1.tuple hq
 refine wpAny_pyIter_tuple (show s1.heap.IsTuple a its.toArray from p) ?_
 refine⟨s1.heap.objs.size,[s1.heap.objs.size],_,_,H1,rfl,I1.kept (t':=s1.toks) fun b o e=>bA _ e,z9I a _,⟨_,bL _ rfl,rfl,rfl⟩,fun b hb=>?_,q⟩
 have e:b=s1.heap.objs.size:=by simpa using hb
 subst e
 exact I1.T6 (bI _) (I1.hok.fresh (bI _))
theorem y2h{pins:List (Addr×Obj)}{σ:St}{H:Hp}{s:Shared}{R:It->Hp->Prop}{E:Value->Shared->Prop}{lo hi:Int}{t u v:Tok}{tk:Nat}(I:Inv X pins σ H s)(h1:-(2^62)≤lo)(h2:lo<2^62)(h3:-(2^62)≤hi)(h4:hi<2^62)
  (q:R (Itr lo (hi-lo).toNat) H):wpAny (model X.prog X.w) X.A (pyIter (.ref s.heap.objs.size)) (PIE X pins σ tg R) E { s with heap:=s.heap.push { cls:=.type "range",data:=.fields #[.int lo t,.int hi u,.int 1 v] },toks:=tk }:=by
 refine wpAny_pyIter_range (IsRange.new ..) (small_one h1 h2 h3 h4) ?_
 have I1:Inv X pins σ H { s with heap:=s.heap.push { cls:=.type "range",data:=.fields #[.int lo t,.int hi u,.int 1 v] },toks:=tk }:=I.kept fun b o e=>bA _ e
 refine⟨(s.heap.push { cls:=.type "range",data:=.fields #[.int lo t,.int hi u,.int 1 v] }).objs.size,[(s.heap.push { cls:=.type "range",data:=.fields #[.int lo t,.int hi u,.int 1 v] }).objs.size],_,_,H,rfl,
  I1.kept (t':=tk) fun b o e=>bA _ e,y2Q _ lo (hi-lo).toNat,?_,fun b hb=>?_,q⟩
 ·have e1:lo+((0:Nat):Int)*1=lo:=by simp
  have e2:(((hi-lo).toNat:Nat):Int)-((0:Nat):Int)=Builtin.Range.rangeSize lo hi 1:=by rw[rangeSize_one];split<;>lia
  show IsRangeIter _ _ (lo+((0:Nat):Int)*1) ((((hi-lo).toNat:Nat):Int)-((0:Nat):Int)) 1
  rw[e1,e2]
  exact bL _ rfl
 ·have e:b=(s.heap.push { cls:=.type "range",data:=.fields #[.int lo t,.int hi u,.int 1 v] }).objs.size:=by simpa using hb
  subst e
  exact I1.T6 (bI _) (I1.hok.fresh (bI _))
noncomputable def w1X(ta:TA):TI:=fun σ H R=>ta σ H fun vs H1=>∃j:Int,vs=[.int j]/\-(2^62)≤j/\j<2^62/\R (Itr 0 j.toNat) H1
noncomputable def w0X(ta:TA):TI:=fun σ H R=>ta σ H fun vs H1=>∃i j:Int,vs=[.int i,.int j]/\(-(2^62)≤i/\i<2^62/\-(2^62)≤j/\j<2^62)/\R (Itr i (j-i).toNat) H1
theorem z1b{a:Expr}{ta:TA}{p pos:Pos}(hg:Gl X "range")(hm:X.mg "range"=none)(ha:PA X [a] ta)(hs:starEach [a] X.env=[(false,eval a X.env)]:=by rfl):PI X tg (.Call (.Name "range" p) [a] [] pos) (w1X ta):=by
 intro pins s σ H R I h
 refine Call_ (z5p I hg hm boot_range (dW (thn (ha pos pins s σ H _ I h) fun us s1 hz=>?_) hs rfl))
 obtain⟨vs,H1,I1,r1,q1⟩:=hz
 obtain⟨j,e,q1,q2,q⟩:=q1
 subst e
 cases r1 with
 | cons r rr=>
  cases rr
  obtain⟨t,rfl⟩:=r
  exact call_range_1 (y2h I1 (by lia) (by lia) q1 q2 (by simpa using q))
theorem z3P{a b:Expr}{ta:TA}{p pos:Pos}(hg:Gl X "range")(hm:X.mg "range"=none)(ha:PA X [a,b] ta)(hs:starEach [a,b] X.env=[(false,eval a X.env),(false,eval b X.env)]:=by rfl)(hs2:starEach [b] X.env=[(false,eval b X.env)]:=by rfl) :
  PI X tg (.Call (.Name "range" p) [a,b] [] pos) (w0X ta):=by
 intro pins s σ H R I h
 refine Call_ (z5p I hg hm boot_range (dW (thn (ha pos pins s σ H _ I h) fun us s1 ⟨vs,H1,I1,r1,q1⟩=>?_) (by rw[hs,hs2]) (by rw[hs2];rfl)))
 obtain⟨i,j,e,⟨q1,q2,q3,q4⟩,q⟩:=q1
 subst e
 cases r1 with
 | cons r rr=>
  cases rr with
  | cons r' rr=>
   cases rr
   obtain⟨t,rfl⟩:=r
   obtain⟨t',rfl⟩:=r'
   exact call_range_2 (y2h I1 q1 q2 q3 q4 q)
noncomputable def tFor(wi:TI)(g:TG)(tb:TS):TS:=fun D σ H=>wi σ H fun J H1=>∃W:Nat->Nat->St->Hp->Prop,(∃m,W 0 m σ H1)/\∀i m σ H,W i m σ H->
 (J.stop i H/\D.nx σ H)\/(J.go i H/\∃N:St->Hp->Prop,(∀σ' H',N σ' H'->∃m',m'<m/\W (i+1) m' σ' H')/\∀x H',J.yld i H x H'->g x σ H' fun σ2 H2=>tb { D with nx:=N,ct:=N,bk:=D.nx } σ2 H2)
noncomputable def y17(fp:List Addr)(h:Heap):List (Addr×Obj):=fp.filterMap fun b=>(h.get? b).map fun o=>(b,o)
theorem z5a{fp:List Addr}{h:Heap}{b:Addr}{o:Obj}(hb:b∈fp)(e:h.get? b=some o):(b,o)∈y17 fp h:=List.mem_filterMap.mpr ⟨b,hb,by rw[e];rfl⟩
theorem y3P{fp:List Addr}{h:Heap}{p:Addr×Obj}(hp:p∈y17 fp h):p.1∈fp/\h.get? p.1=some p.2:=by
 obtain⟨b,hb,e⟩:=List.mem_filterMap.mp hp
 cases q:h.get? b with
 | none=>rw[q] at e;cases e
 | some o=>
  rw[q] at e
  have e':(b,o)=p:=Option.some.inj e
  subst e'
  exact⟨hb,q⟩
theorem Inv.pinned{pins:List (Addr×Obj)}{σ:St}{H:Hp}{s:Shared}{fp:List Addr}(I:Inv X pins σ H s)(hf:∀b∈fp,Q6 X pins H b)(ho:∀b∈fp,∃o,s.heap.get? b=some o/\∀v,o.data≠.cell v):Inv X (pins++y17 fp s.heap) σ H s:=
 I.Q4 fun p hp=>(bS.mp hp).elim (fun z=>I.pin p (cI _ z)) fun z=>by
  obtain⟨hb,e⟩:=y3P z
  obtain⟨f0,f1,f2,_⟩:=hf p.1 hb
  obtain⟨o,e',d⟩:=ho p.1 hb
  rw[e] at e';cases e'
  exact⟨e,f0,f1,f2,d⟩
theorem Inv.Q8{pins pl:List (Addr×Obj)}{σ:St}{H:Hp}{s:Shared}(I:Inv X (pins++pl) σ H s):Inv X pins σ H s:=I.Q4 fun p hp=>I.pin p (cI _ (cQ _ hp))
theorem z0O{iter:Expr}{body:List Stmt}{wi:TI}{g:TG}{tb:TS}{pos:Pos}(hp:PassesOwn (model X.prog X.w) X.A X.env X.xe)(hc:X.calm=true)(hi:PI X tg iter wi)(hg:PG X tg g)(hb:PSs X body tb)
  (hs:∀x,foldedSetIterable iter X.env x=pure x:=by intro _;rfl):PS X (.For tg iter body [] pos) (tFor wi g tb):=by
 intro pins s σ H D I h
 refine wpAny_For (thn (hi pins s σ H _ I h) fun v s1 h1=>thn h1 fun itv s2 h2=>?_) hs
 obtain⟨it,fp,tn,J,H2,e,I2,T,st2,f2,W,⟨m0,w0⟩,turn⟩:=h2
 subst e
 have w0G:∀{H':Hp},(∀b∈fp,H' b=none)->∀b∈fp,Q6 X pins H' b:=fun hn b hb=>⟨hn b hb,(f2 b hb).2⟩
 refine codeAny_forLoop_any (fun n s'=>∃i σ' H',Inv X pins σ' H' s'/\tn i s'.heap/\(∀b∈fp,H' b=none)/\W i n σ' H') ?_ m0 ⟨0,σ,H2,I2,st2,fun b hb=>(f2 b hb).1,w0⟩
 rintro n s3 ⟨i,σ3,H3,I3,st3,fr3,w3⟩
 rcases turn i n σ3 H3 w3 with ⟨stop,qn⟩|⟨go,N,hN,step⟩
 ·refine wpAny_passesOwn hp (thn (T.done X rfl rfl rfl hc i pins s3 σ3 H3 X.xe I3 (w0G fr3) st3 stop) fun r s4 hz=>?_)
  obtain⟨hr,I4⟩:=hz
  subst hr
  exact wpAny_execs_nil ⟨σ3,H3,I4,qn⟩
 ·refine wpAny_passesOwn hp (thn (T.item X rfl rfl rfl hc i pins s3 σ3 H3 X.xe I3 (w0G fr3) st3 go) fun r s4 hz=>?_)
  obtain⟨u,hr,h4⟩:=hz
  subst hr
  refine wpAny_passesOwn hp (thn h4 fun _ s5 hz=>?_)
  obtain⟨x,H5,I5,r5,y5,st5,fr5⟩:=hz
  have I5':=I5.pinned (w0G fr5) (T.obj _ _ st5)
  refine wpAny_passesOwn hp (thn (hg _ s5 σ3 H5 x u _ I5' r5 (step x H5 y5)) fun _ s6 hz=>?_)
  obtain⟨σ6,H6,I6,q6⟩:=hz
  refine wpAny_passesOwn hp (thn (hb _ s6 σ6 H6 _ I6 q6) fun f s7 q7=>?_)
  have again:∀{σ7:St}{H7:Hp},Inv X (pins++y17 fp s5.heap) σ7 H7 s7->N σ7 H7->∃m,m<n/\∃i σ' H',Inv X pins σ' H' s7/\tn i s7.heap/\(∀b∈fp,H' b=none)/\W i m σ' H':=fun {σ7 H7} I7 n7=>by
   obtain⟨m',hm,w7⟩:=hN σ7 H7 n7
   refine⟨m',hm,i+1,σ7,H7,I7.Q8,T.keep _ _ _ st5 fun b hb o e=>(I7.pin (b,o) (cI _ (cI _ (z5a hb e)))).1,fun b hb=>?_,w7⟩
   obtain⟨o,e,d⟩:=T.obj _ _ st5 b hb
   exact(I7.pin (b,o) (cI _ (cI _ (z5a hb e)))).2.1
  cases f with
  | next=>obtain⟨σ7,H7,I7,n7⟩:=q7;exact again I7 n7
  | cont=>obtain⟨σ7,H7,I7,n7⟩:=q7;exact again I7 n7
  | brk=>obtain⟨σ7,H7,I7,q7⟩:=q7;exact⟨σ7,H7,I7.Q8,q7⟩
  | ret v=>obtain⟨x7,σ7,H7,I7,r7,q7⟩:=q7;exact⟨x7,σ7,H7,I7.Q8,r7,q7⟩
end
theorem z1g{K:PySem.W.Frag}{a:Addr}{xs:List V}{g:TG}{tb:TS}{D:Ends}{σ:St}{H:Hp}(Pv:Nat->St->Hp->Prop)(h0:Pv 0 σ H)(hl:∀i σ H,i≤xs.length->Pv i σ H->SqL K H a xs)
  (hs:∀i x σ H,xs[i]? = some x->Pv i σ H->g x σ H fun σ2 H2=>tb { D with nx:=Pv (i+1),ct:=Pv (i+1),bk:=D.nx } σ2 H2) (hd:∀σ H,Pv xs.length σ H->D.nx σ H) :
  ∃W:Nat->Nat->St->Hp->Prop,(∃m,W 0 m σ H)/\∀i m σ H,W i m σ H->
   ((Itl K a).stop i H/\D.nx σ H)\/((Itl K a).go i H/\∃N:St->Hp->Prop,(∀σ' H',N σ' H'->∃m',m'<m/\W (i+1) m' σ' H')/\∀x H',(Itl K a).yld i H x H'->g x σ H' fun σ2 H2=>tb { D with nx:=N,ct:=N,bk:=D.nx } σ2 H2):=by
 refine⟨fun i m σ H=>m=xs.length-i/\i≤xs.length/\Pv i σ H,⟨xs.length,by simp,cZ _,h0⟩,?_⟩
 rintro i m σ H ⟨rfl,hi,p⟩
 have q:=hl i σ H hi p
 by_cases hlt:i<xs.length
 ·refine .inr ⟨⟨xs,xs[i],q,by simp[hlt]⟩,Pv (i+1),fun σ' H' p'=>⟨xs.length-(i+1),by lia,rfl,hlt,p'⟩,fun x H' y=>?_⟩
  obtain⟨e,y⟩:=y
  subst e
  exact hs i x σ _ (y xs q) p
 ·have e:i=xs.length:=by lia
  subst e
  exact .inl ⟨⟨xs,q,bI _⟩,hd σ H p⟩
theorem z52{K:PySem.W.Frag}{a:Addr}{xs:List V}{g:TG}{tb:TS}{D:Ends}{σ:St}{H:Hp}(Pv:Nat->St->Hp->Prop)(h0:Pv 0 σ H)(hl:∀i σ H,i≤xs.length->Pv i σ H->SqT K H a xs)
  (hs:∀i x σ H,xs[i]? = some x->Pv i σ H->g x σ H fun σ2 H2=>tb { D with nx:=Pv (i+1),ct:=Pv (i+1),bk:=D.nx } σ2 H2) (hd:∀σ H,Pv xs.length σ H->D.nx σ H) :
  ∃W:Nat->Nat->St->Hp->Prop,(∃m,W 0 m σ H)/\∀i m σ H,W i m σ H->
   ((Itt K a).stop i H/\D.nx σ H)\/((Itt K a).go i H/\∃N:St->Hp->Prop,(∀σ' H',N σ' H'->∃m',m'<m/\W (i+1) m' σ' H')/\∀x H',(Itt K a).yld i H x H'->g x σ H' fun σ2 H2=>tb { D with nx:=N,ct:=N,bk:=D.nx } σ2 H2):=by
 refine⟨fun i m σ H=>m=xs.length-i/\i≤xs.length/\Pv i σ H,⟨xs.length,by simp,cZ _,h0⟩,?_⟩
 rintro i m σ H ⟨rfl,hi,p⟩
 have q:=hl i σ H hi p
 by_cases hlt:i<xs.length
 ·refine .inr ⟨⟨xs,xs[i],q,by simp[hlt]⟩,Pv (i+1),fun σ' H' p'=>⟨xs.length-(i+1),by lia,rfl,hlt,p'⟩,fun x H' y=>?_⟩
  obtain⟨e,y⟩:=y
  subst e
  exact hs i x σ _ (y xs q) p
 ·have e:i=xs.length:=by lia
  subst e
  exact .inl ⟨⟨xs,q,bI _⟩,hd σ H p⟩
theorem z13{lo:Int}{n:Nat}{g:TG}{tb:TS}{D:Ends}{σ:St}{H:Hp}(Pv:Nat->St->Hp->Prop)(h0:Pv 0 σ H)
  (hs:∀i σ H,i<n->Pv i σ H->g (.int (lo+i)) σ H fun σ2 H2=>tb { D with nx:=Pv (i+1),ct:=Pv (i+1),bk:=D.nx } σ2 H2) (hd:∀σ H,Pv n σ H->D.nx σ H) :
  ∃W:Nat->Nat->St->Hp->Prop,(∃m,W 0 m σ H)/\∀i m σ H,W i m σ H->
   ((Itr lo n).stop i H/\D.nx σ H)\/((Itr lo n).go i H/\∃N:St->Hp->Prop,(∀σ' H',N σ' H'->∃m',m'<m/\W (i+1) m' σ' H')/\∀x H',(Itr lo n).yld i H x H'->g x σ H' fun σ2 H2=>tb { D with nx:=N,ct:=N,bk:=D.nx } σ2 H2):=by
 refine⟨fun i m σ H=>m=n-i/\i≤n/\Pv i σ H,⟨n,by simp,cZ _,h0⟩,?_⟩
 rintro i m σ H ⟨rfl,hi,p⟩
 by_cases hlt:i<n
 ·refine .inr ⟨hlt,Pv (i+1),fun σ' H' p'=>⟨n-(i+1),by lia,rfl,hlt,p'⟩,fun x H' y=>?_⟩
  obtain⟨e,y⟩:=y
  subst e y
  exact hs i σ _ hlt p
 ·have e:i=n:=by lia
  subst e
  exact .inl ⟨bI _,hd σ H p⟩
abbrev R2:=V->V->Hp->VK->Prop
noncomputable def OpR(X:Cx)(f:Value->Value->Sem Value)(r:R2):Prop:=
 ∀(pins:List (Addr×Obj)) (s:Shared) (σ:St) (H:Hp) (x y:V) (v u:Value) (Q:VK),Inv X pins σ H s->RelV x v->RelV y u->r x y H Q->
  wpAny (model X.prog X.w) X.A (f v u) (EP X pins σ Q) X.xe s
noncomputable def UnR(X:Cx)(f:Value->Sem Value)(r:V->Hp->VK->Prop):Prop:=
 ∀(pins:List (Addr×Obj)) (s:Shared) (σ:St) (H:Hp) (x:V) (v:Value) (Q:VK),Inv X pins σ H s->RelV x v->r x H Q->
  wpAny (model X.prog X.w) X.A (f v) (EP X pins σ Q) X.xe s
noncomputable def z3K(X:Cx)(f:Value)(r:List V->Hp->VK->Prop):Prop:=
 ∀(pins:List (Addr×Obj)) (s:Shared) (σ:St) (H:Hp) (xs:List V) (us:List Value) (Q:VK),Inv X pins σ H s->Vals xs us->r xs H Q->
  wpAny (model X.prog X.w) X.A (call f us) (EP X pins σ Q) X.xe s
noncomputable def tOp(r:R2)(ta tb:TE):TE:=fun σ H Q=>ta σ H fun x H1=>tb σ H1 fun y H2=>r x y H2 Q
noncomputable def tUn(r:V->Hp->VK->Prop)(ta:TE):TE:=fun σ H Q=>ta σ H fun x H1=>r x H1 Q
noncomputable def rI(C:Int->Int->Prop)(g:Int->Int->V):R2:=fun x y H Q=>∃i j,x=.int i/\y=.int j/\C i j/\Q (g i j) H
noncomputable def rI0(g:Int->Int->V):R2:=fun x y H Q=>∃i j,x=.int i/\y=.int j/\Q (g i j) H
noncomputable def rU(g:Int->V):V->Hp->VK->Prop:=fun x H Q=>∃i,x=.int i/\Q (g i) H
section
variable{X:Cx}{a b c:Expr}{ta tb tc:TE}{pos:Pos}
theorem w0J(ha:PE X a ta)(hb:PE X b tb){pins:List (Addr×Obj)}{s:Shared}{σ:St}{H:Hp}{R:V->V->Hp->Prop}(I:Inv X pins σ H s)
  (h:ta σ H fun x H1=>tb σ H1 fun y H2=>R x y H2) {Q:Value->Shared->Prop}{f:Value->Value->Sem Value}
  (hf:∀v u s2 x y H2,Inv X pins σ H2 s2->RelV x v->RelV y u->R x y H2->wpAny (model X.prog X.w) X.A (f v u) Q X.xe s2) :
  wpAny (model X.prog X.w) X.A (eval a X.env) (fun v s₁=>wpAny (model X.prog X.w) X.A (eval b X.env) (fun u s₂=>wpAny (model X.prog X.w) X.A (f v u) Q X.xe s₂) X.xe s₁) X.xe s:=by
 refine thn (ha pins s σ H _ I h) fun v s1 hz=>?_
 obtain⟨x,H1,I1,r1,q1⟩:=hz
 refine thn (hb pins s1 σ H1 _ I1 q1) fun u s2 hz=>?_
 obtain⟨y,H2,I2,r2,q2⟩:=hz
 exact hf v u s2 x y H2 I2 r1 r2 q2
theorem z0u{op:Operator}{r:R2}(ho:OpR X (binaryOp op) r)(ha:PE X a ta)(hb:PE X b tb):PE X (.BinOp a op b pos) (tOp r ta tb):=by
 intro pins s σ H Q I h
 exact wpAny_BinOp (w0J ha hb I h fun v u s2 x y H2 I2 rx ry q=>ho pins s2 σ H2 x y v u Q I2 rx ry q)
theorem y7I{op:UnaryOp}{r:V->Hp->VK->Prop}(ho:UnR X (unaryOp op) r)(ha:PE X a ta):PE X (.UnaryOp op a pos) (tUn r ta):=by
 intro pins s σ H Q I h
 exact UnaryOp_ (thn (ha pins s σ H _ I h) fun v s1 ⟨x,H1,I1,r1,q1⟩=>ho pins s1 σ H1 x v Q I1 r1 q1)
theorem opI{f:Value->Value->Sem Value}{C:Int->Int->Prop}{g:Int->Int->Int}
  (rule:∀(i j:Int) (t u:Tok) (s:Shared) (Q:Value->Shared->Prop) (E:Value->Shared->Prop),C i j->Q (.int (g i j) s.toks) { s with toks:=s.toks+1 }->wpAny (model X.prog X.w) X.A (f (.int i t) (.int j u)) Q E s) :
  OpR X f (rI C fun i j=>.int (g i j)):=by
 intro pins s σ H x y v u Q I rx ry h
 obtain⟨i,j,rfl,rfl,hc,q⟩:=h
 obtain⟨t,rfl⟩:=rx
 obtain⟨t',rfl⟩:=ry
 exact rule i j t t' s _ _ hc ⟨.int (g i j),H,I.tok _,⟨_,rfl⟩,q⟩
theorem opI0{f:Value->Value->Sem Value}{g:Int->Int->Int}
  (rule:∀(i j:Int) (t u:Tok) (s:Shared) (Q:Value->Shared->Prop) (E:Value->Shared->Prop),Q (.int (g i j) s.toks) { s with toks:=s.toks+1 }->wpAny (model X.prog X.w) X.A (f (.int i t) (.int j u)) Q E s) :
  OpR X f (rI0 fun i j=>.int (g i j)):=by
 intro pins s σ H x y v u Q I rx ry h
 obtain⟨i,j,rfl,rfl,q⟩:=h
 obtain⟨t,rfl⟩:=rx
 obtain⟨t',rfl⟩:=ry
 exact rule i j t t' s _ _ ⟨.int (g i j),H,I.tok _,⟨_,rfl⟩,q⟩
theorem w02{f:Value->Value->Sem Value}{g:Int->Int->Bool}
  (rule:∀(i j:Int) (t u:Tok) (s:Shared) (Q:Value->Shared->Prop) (E:Value->Shared->Prop),Q (.bool (g i j)) s->wpAny (model X.prog X.w) X.A (f (.int i t) (.int j u)) Q E s) :
  OpR X f (rI0 fun i j=>.bl (g i j)):=by
 intro pins s σ H x y v u Q I rx ry h
 obtain⟨i,j,rfl,rfl,q⟩:=h
 obtain⟨t,rfl⟩:=rx
 obtain⟨t',rfl⟩:=ry
 exact rule i j t t' s _ _ ⟨.bl (g i j),H,I,rfl,q⟩
noncomputable def CDiv(i j:Int):Prop:=0<j/\j<1073741824
noncomputable def w0v(i j:Int):Prop:=(-(2^64)<i/\i<2^64)\/(-(2^64)<j/\j<2^64)
theorem w0v.ok{i j:Int}(h:w0v i j):IntMulOk i j:=by
 rcases h with ⟨h1,h2⟩|⟨h1,h2⟩
 ·exact .of_left (intBits_le_64 h1 h2)
 ·exact .of_right (intBits_le_64 h1 h2)
theorem z1u:OpR X (binaryOp .Add) (rI0 fun i j=>.int (i+j)):=opI0 fun _ _ _ _ _ _ _ q=>add_int q
theorem z23:OpR X (binaryOp .Sub) (rI0 fun i j=>.int (i-j)):=opI0 fun _ _ _ _ _ _ _ q=>sub_int q
theorem z4V:OpR X (binaryOp .Mult) (rI w0v fun i j=>.int (i*j)):=opI fun _ _ _ _ _ _ _ hc q=>mul_int q hc.ok
theorem z1F:OpR X (binaryOp .FloorDiv) (rI CDiv fun i j=>.int (i / j)):=opI fun i j _ _ _ _ _ hc q=>by
 have h1:(0:Int)<j:=hc.1
 have h2:j<1073741824:=hc.2
 exact floordiv_int (by lia) (by rw[Int.fdiv_eq_ediv_of_nonneg i (by lia)];exact q) (.inl (PyProof.noPylong_small (by lia)))
theorem z1s:OpR X (binaryOp .Mod) (rI (fun _ j=>0<j) fun i j=>.int (i%j)):=opI fun i j _ _ _ _ _ hc q=>by
 have h1:(0:Int)<j:=hc
 exact mod_int' (by lia) (by rw[Int.fmod_eq_emod_of_nonneg i (by lia)];exact q)
theorem unI{f:Value->Sem Value}{g:Int->Int}
  (rule:∀(i:Int) (t:Tok) (s:Shared) (Q:Value->Shared->Prop) (E:Value->Shared->Prop),Q (.int (g i) s.toks) { s with toks:=s.toks+1 }->wpAny (model X.prog X.w) X.A (f (.int i t)) Q E s) :
  UnR X f (rU fun i=>.int (g i)):=by
 intro pins s σ H x v Q I rx h
 obtain⟨i,rfl,q⟩:=h
 obtain⟨t,rfl⟩:=rx
 exact rule i t s _ _ ⟨.int (g i),H,I.tok _,⟨_,rfl⟩,q⟩
theorem y4z:UnR X (unaryOp .USub) (rU fun i=>.int (-i)):=unI fun _ _ _ _ _ q=>neg_int q
end
noncomputable def w0w:V->V->Bool
 | .non,.non=>true|.non,.int _=>true|.int _,.non=>true|.non,.bl _=>true|.bl _,.non=>true|.non,.str _=>true|.str _,.non=>true
 | .int _,.int _=>true|.bl _,.bl _=>true|.str _,.str _=>true|.byt _,.byt _=>true
 | .int _,.str _=>true|.str _,.int _=>true|.bl _,.str _=>true|.str _,.bl _=>true
 | _,_=>false
noncomputable def rEq:R2:=fun x y H Q=>w0w x y=true/\Q (.bl (decide (x=y))) H
noncomputable def rNe:R2:=fun x y H Q=>w0w x y=true/\Q (.bl (!decide (x=y))) H
theorem y3X{i j:Int}:decide (V.int i=V.int j)=(i == j):=by
 rw[d8]
 simp
theorem y6L{i j:Bool}:decide (V.bl i=V.bl j)=(i == j):=by
 rw[d8]
 simp
theorem y52{i j:Str}:decide (V.str i=V.str j)=(i == j):=by
 rw[d8]
 simp
theorem y55{i j:Array UInt8}:decide (V.byt i=V.byt j)=(i.toList == j.toList):=by
 rw[d8]
 cases i
 cases j
 simp
section
variable{X:Cx}{a b c:Expr}{ta tb tc:TE}{pos:Pos}
theorem z1j{pins:List (Addr×Obj)}{σ:St}{H:Hp}{s:Shared}{Q:VK}{k k':Bool}(I:Inv X pins σ H s)(q:Q (.bl k) H)(e:k=k'):EP X pins σ Q (.bool k') s:=by
 subst e
 exact⟨.bl k,H,I,rfl,q⟩
theorem z2F:OpR X (compareOp .Eq) rEq:=by
 intro pins s σ H x y v u Q I rx ry h
 obtain⟨hs,q⟩:=h
 cases x with
 | non=>
  cases rx
  cases y with
  | non=>cases ry;exact PySem.EqNone.eq_none_none (z1j I q (by simp))
  | bl j=>cases ry;exact PySem.EqNone.eq_none_bool (z1j I q (by simp))
  | int j=>obtain⟨t',rfl⟩:=ry;exact PySem.EqNone.eq_none_int (z1j I q (by simp))
  | str j=>obtain⟨t',rfl⟩:=ry;exact PySem.EqNone.eq_none_str (z1j I q (by simp))
  | _=>exact absurd (show false=true from hs) bM
 | bl i=>
  cases rx
  cases y with
  | non=>cases ry;exact PySem.EqNone.eq_bool_none (z1j I q (by simp))
  | bl j=>cases ry;exact eq_bool (z1j I q y6L)
  | str j=>obtain⟨t',rfl⟩:=ry;exact PySem.EqMixed.eq_bool_str (z1j I q (by simp))
  | _=>exact absurd (show false=true from hs) bM
 | int i=>
  obtain⟨t,rfl⟩:=rx
  cases y with
  | non=>cases ry;exact PySem.EqNone.eq_int_none (z1j I q (by simp))
  | int j=>obtain⟨t',rfl⟩:=ry;exact eq_int (z1j I q y3X)
  | str j=>obtain⟨t',rfl⟩:=ry;exact PySem.EqMixed.eq_int_str (z1j I q (by simp))
  | _=>exact absurd (show false=true from hs) bM
 | str i=>
  obtain⟨t,rfl⟩:=rx
  cases y with
  | non=>cases ry;exact PySem.EqNone.eq_str_none (z1j I q (by simp))
  | bl j=>cases ry;exact PySem.EqMixed.eq_str_bool (z1j I q (by simp))
  | int j=>obtain⟨t',rfl⟩:=ry;exact PySem.EqMixed.eq_str_int (z1j I q (by simp))
  | str j=>obtain⟨t',rfl⟩:=ry;exact eq_str (z1j I q y52)
  | _=>exact absurd (show false=true from hs) bM
 | byt i=>
  obtain⟨t,rfl⟩:=rx
  cases y with
  | byt j=>obtain⟨t',rfl⟩:=ry;exact PySem.W.eq_bytes (z1j I q y55)
  | _=>exact absurd (show false=true from hs) bM
 | _=>cases y<;>exact absurd (show false=true from hs) bM
theorem z7g:OpR X (compareOp .NotEq) rNe:=by
 intro pins s σ H x y v u Q I rx ry h
 obtain⟨hs,q⟩:=h
 cases x with
 | non=>
  cases rx
  cases y with
  | non=>cases ry;exact PySem.EqNone.ne_none_none (z1j I q (by simp))
  | bl j=>cases ry;exact PySem.EqNone.ne_none_bool (z1j I q (by simp))
  | int j=>obtain⟨t',rfl⟩:=ry;exact PySem.EqNone.ne_none_int (z1j I q (by simp))
  | str j=>obtain⟨t',rfl⟩:=ry;exact PySem.EqNone.ne_none_str (z1j I q (by simp))
  | _=>exact absurd (show false=true from hs) bM
 | bl i=>
  cases rx
  cases y with
  | non=>cases ry;exact PySem.EqNone.ne_bool_none (z1j I q (by simp))
  | bl j=>cases ry;exact ne_bool (z1j I q (congrArg not y6L))
  | str j=>obtain⟨t',rfl⟩:=ry;exact PySem.EqMixed.ne_bool_str (z1j I q (by simp))
  | _=>exact absurd (show false=true from hs) bM
 | int i=>
  obtain⟨t,rfl⟩:=rx
  cases y with
  | non=>cases ry;exact PySem.EqNone.ne_int_none (z1j I q (by simp))
  | int j=>obtain⟨t',rfl⟩:=ry;exact ne_int (z1j I q (congrArg not y3X))
  | str j=>obtain⟨t',rfl⟩:=ry;exact PySem.EqMixed.ne_int_str (z1j I q (by simp))
  | _=>exact absurd (show false=true from hs) bM
 | str i=>
  obtain⟨t,rfl⟩:=rx
  cases y with
  | non=>cases ry;exact PySem.EqNone.ne_str_none (z1j I q (by simp))
  | bl j=>cases ry;exact PySem.EqMixed.ne_str_bool (z1j I q (by simp))
  | int j=>obtain⟨t',rfl⟩:=ry;exact PySem.EqMixed.ne_str_int (z1j I q (by simp))
  | str j=>obtain⟨t',rfl⟩:=ry;exact ne_str (z1j I q (congrArg not y52))
  | _=>exact absurd (show false=true from hs) bM
 | byt i=>
  obtain⟨t,rfl⟩:=rx
  cases y with
  | byt j=>obtain⟨t',rfl⟩:=ry;exact PySem.W.ne_bytes (z1j I q (congrArg not y55))
  | _=>exact absurd (show false=true from hs) bM
 | _=>cases y<;>exact absurd (show false=true from hs) bM
theorem z9a:OpR X (compareOp .Lt) (rI0 fun i j=>.bl (decide (i<j))):=w02 fun _ _ _ _ _ _ _ q=>lt_int q
theorem y1E:OpR X (compareOp .LtE) (rI0 fun i j=>.bl (decide (i≤j))):=w02 fun _ _ _ _ _ _ _ q=>le_int q
theorem z2p:OpR X (compareOp .Gt) (rI0 fun i j=>.bl (decide (j<i))):=w02 fun _ _ _ _ _ _ _ q=>gt_int q
theorem y4j:OpR X (compareOp .GtE) (rI0 fun i j=>.bl (decide (j≤i))):=w02 fun _ _ _ _ _ _ _ q=>ge_int q
theorem z0o(b:Expr){op:CmpOp}(h:op≠.In:=by decide)(h2:op≠.NotIn:=by decide):behindInMarks op b=false:=by
 have e1:(op == CmpOp.In)=false:=by cases op<;>first|rfl|exact absurd rfl h
 have e2:(op == CmpOp.NotIn)=false:=by cases op<;>first|rfl|exact absurd rfl h2
 cases b<;>simp[behindInMarks,e1,e2]
theorem z8f{op:CmpOp}{r:R2}(ho:OpR X (compareOp op) r)(ha:PE X a ta)(hb:PE X b tb)(hm:behindInMarks op b=false):PE X (.Compare a [op] [b] pos) (tOp r ta tb):=by
 intro pins s σ H Q I h
 exact wpAny_Compare1 (w0J ha hb I h fun v u s2 x y H2 I2 rx ry q=>ho pins s2 σ H2 x y v u Q I2 rx ry q) hm
noncomputable def w16(t:TE):TT:=fun σ H Q=>t σ H fun x H'=>∃k,x=.bl k/\Q k H'
theorem z0c{op:CmpOp}{r:R2}(ho:OpR X (compareOp op) r)(ha:PE X a ta)(hb:PE X b tb)(hm:behindInMarks op b=false):PT X (.Compare a [op] [b] pos) (w16 (tOp r ta tb)):=by
 intro pins s σ H Q I h
 refine wpAny_isTrue_Compare1 (thn (ha pins s σ H _ I h) fun v s1 ⟨x,H1,I1,r1,q1⟩=>thn (hb pins s1 σ H1 _ I1 q1) fun u s2 ⟨y,H2,I2,r2,q2⟩=>
  thn (ho pins s2 σ H2 x y v u _ I2 r1 r2 q2) fun c s3 ⟨z,H3,I3,r3,k,e,q3⟩=>?_) hm
 subst e
 cases r3
 exact wpAny_truthy_bool ⟨H3,I3,q3⟩
theorem z6n:(sizeLine:Nat)<2^63:=by rw[sizeLine_eq];decide
theorem z9t:OpR X (binaryOp .Add) (fun x y H Q=>∃i j,x=.str i/\y=.str j/\i.length+j.length≤sizeLine/\Q (.str (i++j)) H):=by
 intro pins s σ H x y v u Q I rx ry h
 obtain⟨i,j,rfl,rfl,hz,q⟩:=h
 obtain⟨t,rfl⟩:=rx
 obtain⟨t',rfl⟩:=ry
 exact add_str (fun t' tk=>⟨.str (i++j),H,I.tok _,⟨_,rfl⟩,q⟩) hz
theorem z4F{x:V}{us:List Value}(r:Vals [x] us):∃u,us=[u]/\RelV x u:=by
 cases r with
 | cons r1 r2=>cases r2;exact⟨_,rfl,r1⟩
theorem y4c{x y:V}{us:List Value}(r:Vals [x,y] us):∃u w',us=[u,w']/\RelV x u/\RelV y w':=by
 cases r with
 | cons r1 r2=>
  cases r2 with
  | cons r3 r4=>cases r4;exact⟨_,_,rfl,r1,r3⟩
theorem y48(hc:X.calm=true):z3K X (.builtin "max") (fun xs H Q=>∃i j,xs=[.int i,.int j]/\Q (.int (if j > i then j else i)) H):=by
 intro pins s σ H xs us Q I r h
 obtain⟨i,j,rfl,q⟩:=h
 obtain⟨u,w',rfl,⟨t,rfl⟩,⟨t',rfl⟩⟩:=y4c r
 refine max_two_ints (I.ok.hd hc) fun h' tk k=>⟨_,H,I.kept k,?_,q⟩
 by_cases hj:j > i
 ·rw[if_pos hj,if_pos hj];exact⟨_,rfl⟩
 ·rw[if_neg hj,if_neg hj];exact⟨_,rfl⟩
theorem y5h(hc:X.calm=true):z3K X (.builtin "min") (fun xs H Q=>∃i j,xs=[.int i,.int j]/\Q (.int (if j<i then j else i)) H):=by
 intro pins s σ H xs us Q I r h
 obtain⟨i,j,rfl,q⟩:=h
 obtain⟨u,w',rfl,⟨t,rfl⟩,⟨t',rfl⟩⟩:=y4c r
 refine min_two_ints (I.ok.hd hc) fun h' tk k=>⟨_,H,I.kept k,?_,q⟩
 by_cases hj:j<i
 ·rw[if_pos hj,if_pos hj];exact⟨_,rfl⟩
 ·rw[if_neg hj,if_neg hj];exact⟨_,rfl⟩
end
structure V9(h:Heap)(x dx C:Addr)(mA:Str->Option Value):Prop where
 obj:h.get? x=some (PySem.W.instObj C dx)
 ns:h.Ns1 dx mA
 ne:dx≠x
theorem y3n{h:Heap}{dx:Addr}{mA:Str->Option Value}(n:h.Ns1 dx mA):∃od,h.get? dx=some od/\∀name,PySem.W.lookIn name od=some (mA name):=by
 obtain⟨o,es,ep,ho,hd,hk,_,hm⟩:=n
 refine⟨o,ho,fun name=>?_⟩
 have e:=hm name
 unfold nsFind findBy at e
 rw[<- Array.find?_toList] at e
 unfold PySem.W.lookIn
 rw[hd]
 dsimp only
 split
 ·rename_i y q
  rw[q] at e
  exact congrArg some e
 ·rename_i q
  rw[q] at e
  have a:es.toList.any (·.refKey)=false:=by
   rw[jZ]
   intro y hy
   obtain⟨z,t,hkey⟩:=hk y (Array.mem_toList_iff.mp hy)
   simp[DictEntry.refKey,hkey]
  have a':¬es.toList.any (·.refKey)=true:=by rw[a];exact bM
  rw[if_neg a']
  exact congrArg some e
theorem V9.look{h:Heap}{x dx C:Addr}{mA:Str->Option Value}(I:V9 h x dx C mA):∃od,PySem.W.InstAt h x (PySem.W.instObj C dx) C (some od)/\∀name,PySem.W.lookIn name od=some (mA name):=
 let ⟨od,ho,hl⟩:=y3n I.ns
 ⟨od,⟨I.obj,rfl,rfl,ho⟩,hl⟩
section
variable{prog:Program}{w:World}{A:Around}{E:Value->Shared->Prop}{s:Shared}{K:PySem.W.Frag}{x dx C f:Addr}{mA:Str->Option Value}{name:Str}{v:Value}
theorem y86{expr:Bool}{Q:Value->Shared->Prop}(X:K.In s.heap)(I:V9 s.heap x dx C mA)(hg:PySem.W.plainGet K C name=true)(hh:PySem.W.hasDictIn K C=true)
  (ha:PySem.W.findIn K (.ref C) name=some none) (hv:mA name=some v) (hv':PySem.W.handedIn v=true) (h:Q v { s with toks:=s.toks+1 }) :
  wpAny (model prog w) A (getAttr (.ref x) name expr) Q E s:=by
 obtain⟨od,J,hl⟩:=I.look
 exact PySem.W.get_value X J (jS hg).1 (PySem.W.findObj_own hh ha rfl (by rw[hl,hv])) hv' h
theorem y5I{pl:Sem Bool}{Q:Value×List Value->Shared->Prop}(X:K.In s.heap)(I:V9 s.heap x dx C mA)(hg:PySem.W.plainGet K C name=true)
  (hf:PySem.W.findIn K (.ref C) name=some (some (.ref f))) (ht:PySem.W.isFn K (.ref f)=true) (hv:mA name=none) (h:Q (.ref f,[.ref x]) s) :
  wpAny (model prog w) A (getMethod (.ref x) name pl) Q E s:=by
 obtain⟨od,J,hl⟩:=I.look
 exact PySem.W.method_fn X J (jS hg).1 (jS hg).2 hf (beq_iff_eq.mp ht) (by show(PySem.W.lookIn name od).map (·.isSome)=some false;rw[hl,hv];rfl) h
theorem y7j{ns:List Str}{Q:Unit->Shared->Prop}(X:K.In s.heap)(I:V9 s.heap x dx C mA)
  (hs:PySem.W.findIn K (.ref C) "__setattr__"=some (some (.builtin "object.__setattr__"))) (hp:PySem.W.plainOver K C=true) (ht:PySem.W.takerIn K C name=some none) (hh:PySem.W.hasDictIn K C=true)
  (hw:PySem.Within mA ns) (hsz:ns.length≤sizeLine)
  (h:∀h',V9 h' x dx C (fun y=>if y=name then some v else mA y)->Heap.SameBut dx s.heap h'->Q () { s with heap:=h',toks:=s.toks+2 }) :
  wpAny (model prog w) A (setAttr (.ref x) name v) Q E s:=by
 obtain⟨od,J,hl⟩:=I.look
 refine PySem.W.set_plain X J hs (PySem.W.osa_open (s:={ s with toks:=s.toks+1 }) (r:=none) X J hp ht fun b=>?_)
 obtain⟨cd,hc,hd'⟩:=PySem.W.any_some hh
 have hx:s.heap.get? x=some ⟨.ref C,some dx,.plain,#[]⟩:=I.obj
 refine wpAny_bind (wpAny_pure (wpAny_bind (wpAny_bind (wpAny_loadPart hx (wpAny_bind (PySem.W.Looks.here (s:={ s with toks:=s.toks+1 }) (PySem.W.looks_clsIn X hc) ?_))))))
 rw[hd']
 refine wpAny_pure (a:=some dx) (wpAny_bind (wpAny_pure (wpAny_bind ?_)))
 refine wpAny_nsSet1 (s:={ s with toks:=s.toks+1 }) I.ns fun h' hn2 hs2=>?_
 obtain⟨oD,esD,epD,hoD,hdD,hcD⟩:=hn2.count (PySem.Within.cons name v hw)
 refine wpAny_bind (wpAny_lookBehind hoD (by rw[hdD];exact pastItsLine_dict (cL hcD (by rw[cN];lia))) ?_)
 exact wpAny_pure (h _ ⟨(hs2.2 _ (dC I.ne)).trans I.obj,hn2,I.ne⟩ hs2)
theorem y5S{R:Result->Shared->Prop}{vs:List Value}{kw:List (Str×Value)}(X:K.In s.heap)(hm:PySem.W.makesIn K C=true)
  (hi:PySem.W.findIn K (.ref C) "__init__"=some (some (.ref f))) (hf:PySem.W.typeIn K (.ref f)=some (.type "function"))
  (h:codeAny (model prog w) (A.under (.builtin "type.__call__" ⟨.ref C::vs,kw⟩)) (.call (.ref f) ⟨.ref (s.heap.objs.size+1)::vs,kw⟩) (PySem.W.InitBack (s.heap.objs.size+1) R)
   { s with heap:=(s.heap.push PySem.W.emptyDict).push (PySem.W.instObj C s.heap.objs.size) }) :
  codeAny (model prog w) A (.call (.ref C) ⟨vs,kw⟩) R s:=by
 obtain⟨hh,g,d,t,os⟩:=s
 exact PySem.W.make_core (PySem.W.makes_of X hm) (PySem.W.looks_findIn X hi) (fun self=>PySem.W.bind_fn X self hf) (.inl rfl) h
end
noncomputable def K8(f:Str)(v:V):List (Str×V)->List (Str×V)
 | []=>[(f,v)]
 | (g,x)::r=>if g=f then (g,v)::r else (g,x)::K8 f v r
theorem z0v(f g:Str)(v:V):∀fs:List (Str×V),(K8 f v fs).lookup g=if g=f then some v else fs.lookup g
 | []=>by
  show List.lookup g [(f,v)]=_
  by_cases h:g=f
  ·have hb:(g == f)=true:=beq_iff_eq.mpr h
   simp only[List.lookup,hb,if_pos h]
  ·have hb:(g == f)=false:=beq_eq_false_iff_ne.mpr h
   simp only[List.lookup,hb,if_neg h]
 | (k,x)::r=>by
  have ih:=z0v f g v r
  rw[show K8 f v ((k,x)::r)=(if k=f then (k,v)::r else (k,x)::K8 f v r) from rfl]
  by_cases hk:k=f
  ·rw[if_pos hk]
   by_cases h:g=k
   ·have hb:(g == k)=true:=beq_iff_eq.mpr h
    simp only[List.lookup,hb,if_pos (h.trans hk)]
   ·have hb:(g == k)=false:=beq_eq_false_iff_ne.mpr h
    simp only[List.lookup,hb,if_neg (fun e:g=f=>h (e.trans hk.symm))]
  ·rw[if_neg hk]
   by_cases h:g=k
   ·have hb:(g == k)=true:=beq_iff_eq.mpr h
    simp only[List.lookup,hb,if_neg (fun e:g=f=>hk (h.symm.trans e))]
   ·have hb:(g == k)=false:=beq_eq_false_iff_ne.mpr h
    simp only[List.lookup,hb]
    exact ih
theorem z8d(f:Str)(v:V):∀fs:List (Str×V),f∈(K8 f v fs).map (·.1)/\∀g,g∈fs.map (·.1)->g∈(K8 f v fs).map (·.1)
 | []=>⟨by simp[K8],fun g h=>by simp at h⟩
 | (k,x)::r=>by
  obtain⟨i1,i2⟩:=z8d f v r
  rw[show K8 f v ((k,x)::r)=(if k=f then (k,v)::r else (k,x)::K8 f v r) from rfl]
  by_cases hk:k=f
  ·rw[if_pos hk]
   subst hk
   exact⟨by simp,fun g h=>by simpa using h⟩
  ·rw[if_neg hk]
   refine⟨?_,fun g h=>?_⟩
   ·rw[cS]
    exact bZ _ i1
   ·rw[cS] at h ⊢
    rcases bE.mp h with e|e
    ·exact bE.mpr (.inl e)
    ·exact bZ _ (i2 g e)
theorem z1V(f:Str)(v:V):∀fs:List (Str×V),(K8 f v fs).length≤fs.length+1
 | []=>by simp[K8]
 | (k,x)::r=>by
  have ih:=z1V f v r
  rw[show K8 f v ((k,x)::r)=(if k=f then (k,v)::r else (k,x)::K8 f v r) from rfl]
  by_cases hk:k=f
  ·rw[if_pos hk,cN,cN];lia
  ·rw[if_neg hk,cN,cN];lia
theorem P1.some_of{v:V}{o:Option Value}(r:P1 (some v) o):∃u,o=some u/\RelV v u:=by
 cases o with
 | none=>exact(show False from r).elim
 | some u=>exact⟨u,rfl,r⟩
theorem P1.none_of{o:Option Value}(r:P1 none o):o=none:=by
 cases o with
 | none=>rfl
 | some u=>exact(show False from r).elim
theorem y4D{v:V}{u:Value}(r:RelV v u):PySem.W.handedIn u=true:=by
 cases v with
 | non=>cases (show u=Value.none from r);rfl
 | bl b=>cases (show u=Value.bool b from r);rfl
 | int i=>obtain⟨t,e⟩:=(show ∃t,u=Value.int i t from r);cases e;rfl
 | str x=>obtain⟨t,e⟩:=(show ∃t,u=Value.str x t from r);cases e;rfl
 | byt b=>obtain⟨t,e⟩:=(show ∃t,u=Value.bytes b t from r);cases e;rfl
 | flt b=>obtain⟨t,e⟩:=(show ∃t,u=Value.float b t from r);cases e;rfl
 | ref a=>cases (show u=Value.ref a from r);rfl
 | ty n=>cases (show u=Value.type n from r);rfl
section
variable{P:Program}{w:World}{H H':Hp}{h h':Heap}{a C dx:Addr}{fs fs':List (Str×V)}
theorem y0i(hok:HOk P w H h)(e:H a=some (.ins C dx fs)):∃mA,V9 h a dx C mA/\(∀f,P1 (fs.lookup f) (mA f))/\PySem.Within mA (fs.map (·.1))/\fs.length≤1000/\H dx=some (.own a):=by
 obtain⟨d,z,ne,ob,mA,n,r,q⟩:=(show z1C P w H h a (.ins C dx fs) from hok a _ e)
 exact⟨mA,⟨ob,n,ne⟩,r,q,z,d⟩
end
structure Cls(K:PySem.W.Frag)(C:Addr):Prop where
 pg:PySem.W.plainGet K C Str.empty=true
 hd:PySem.W.hasDictIn K C=true
 po:PySem.W.plainOver K C=true
 sa:PySem.W.findIn K (.ref C) "__setattr__"=some (some (.builtin "object.__setattr__"))
theorem Cls.get{K:PySem.W.Frag}{C:Addr}(c:Cls K C)(f:Str):PySem.W.plainGet K C f=true:=c.pg
noncomputable def z3b(K:PySem.W.Frag)(C:Addr)(f:Str):Prop:=PySem.W.findIn K (.ref C) f=some none
theorem z3b.w1m{K:PySem.W.Frag}{C:Addr}{f:Str}(n:z3b K C f):PySem.W.takerIn K C f=some none:=by
 unfold PySem.W.takerIn
 rw[show PySem.W.findIn K (.ref C) f=some none from n]
 rfl
structure Meth(K:PySem.W.Frag)(C:Addr)(m:Str)(f:Addr):Prop where
 at_:PySem.W.findIn K (.ref C) m=some (some (.ref f))
 fn:PySem.W.isFn K (.ref f)=true
 kp:PySem.W.keepIn K (.ref f)=true
section
variable{X:Cx}{pins:List (Addr×Obj)}{σ:St}{H:Hp}{s:Shared}{a C dx:Addr}{fs:List (Str×V)}{f:Str}{v:V}{A:Around}{E:Value->Shared->Prop}
theorem y2D{b:Bool}{Q:Value->Shared->Prop}(I:Inv X pins σ H s)(e:H a=some (.ins C dx fs))(c:Cls X.K C)(n:z3b X.K C f)(l:fs.lookup f=some v)
  (h:∀u s',Inv X pins σ H s'->RelV v u->Q u s'):wpAny (model X.prog X.w) A (getAttr (.ref a) f b) Q E s:=by
 obtain⟨mA,O,r,_,_,_⟩:=y0i I.hok e
 obtain⟨u,hu,ru⟩:=P1.some_of (v:=v) (o:=mA f) (by rw[<- l];exact r f)
 exact y86 I.kIn O (c.get f) c.hd n hu (y4D ru) (h u _ (I.tok _) ru)
theorem z6R{m:Str}{g:Addr}{pl:Sem Bool}{Q:Value×List Value->Shared->Prop}(I:Inv X pins σ H s)(e:H a=some (.ins C dx fs))(c:Cls X.K C)(k:Meth X.K C m g)(l:fs.lookup m=none)
  (h:Q (.ref g,[.ref a]) s):wpAny (model X.prog X.w) A (getMethod (.ref a) m pl) Q E s:=by
 obtain⟨mA,O,r,_,_,_⟩:=y0i I.hok e
 have hn:mA m=none:=P1.none_of (by rw[<- l];exact r m)
 exact y5I I.kIn O (c.get m) k.at_ k.fn hn h
theorem y2L{y:V}{u:Value}{Q:Unit->Shared->Prop}(I:Inv X pins σ H s)(e:H a=some (.ins C dx fs))(c:Cls X.K C)(n:z3b X.K C f)(hl:fs.length<1000)(ry:RelV y u)
  (h:∀s',Inv X pins σ (upd H a (.ins C dx (K8 f y fs))) s'->Q () s'):wpAny (model X.prog X.w) A (setAttr (.ref a) f u) Q E s:=by
 obtain⟨mA,O,r,wi,_,ho⟩:=y0i I.hok e
 have hz:(fs.map (·.1)).length≤sizeLine:=by rw[b9,sizeLine_eq];lia
 refine y7j I.kIn O c.sa c.po n.w1m c.hd wi hz fun h' O' sb=>h _ ?_
 have hd:∃o,h'.get? dx=some o:=let ⟨o,_,_,e',_⟩:=O'.ns;⟨o,e'⟩
 refine I.write (x:=a) (e:=dx) (by rw[e];exact True.intro) (.inr ho) (fun b q hb z=>(sb.2 b hb).trans z) hd ?_
 refine⟨by rw[z0k O.ne];exact ho,?_,O.ne,O'.obj,_,O'.ns,fun g=>?_,fun g hg=>?_⟩
 ·have:=z1V f y fs;lia
 ·show P1 ((K8 f y fs).lookup g) (if g=f then some u else mA g)
  rw[z0v]
  by_cases q:g=f
  ·rw[if_pos q,if_pos q];exact ry
  ·rw[if_neg q,if_neg q];exact r g
 ·by_cases q:g=f
  ·rw[q];exact(z8d f y fs).1
  ·refine(z8d f y fs).2 g (wi g fun z=>hg ?_)
   show(if g=f then some u else mA g)=none
   rw[if_neg q];exact z
theorem Inv.made(I:Inv X pins σ H s):Inv X pins σ (upd (upd H s.heap.objs.size (.own (s.heap.objs.size+1))) (s.heap.objs.size+1) (.ins C s.heap.objs.size []))
  { s with heap:=(s.heap.push PySem.W.emptyDict).push (PySem.W.instObj C s.heap.objs.size) }:=by
 have e1:(s.heap.push PySem.W.emptyDict).get? s.heap.objs.size=some PySem.W.emptyDict:=bL s.heap rfl
 have e2:((s.heap.push PySem.W.emptyDict).push (PySem.W.instObj C s.heap.objs.size)).get? (s.heap.objs.size+1)=some (PySem.W.instObj C s.heap.objs.size):=by
  have:=bL (s.heap.push PySem.W.emptyDict) (o:=PySem.W.instObj C s.heap.objs.size) rfl
  rwa [dY] at this
 have e3:(s.heap.push PySem.W.emptyDict).Ns s.heap.objs.size (fun _=>none):=⟨PySem.W.emptyDict,#[],_,e1,rfl,(fun e he=>absurd he (by simp)),fun _=>rfl⟩
 have I1:=I.laid (a:=s.heap.objs.size) (o:=.own (s.heap.objs.size+1)) (h':=s.heap.push PySem.W.emptyDict) (t':=s.toks) (fun b u q=>bA _ q) (bI _) ⟨_,e1⟩
 refine I1.laid (a:=s.heap.objs.size+1) (o:=.ins C s.heap.objs.size []) (t':=s.toks) (fun b u q=>bA _ q) (Nat.le_of_eq (dY _ _)) ?_
 have ne:s.heap.objs.size≠s.heap.objs.size+1:=cJ (gM _)
 refine⟨by rw[z0k ne,z03],cZ _,ne,e2,fun _=>none,(Heap.Ns1.of_empty e3).at fun o q=>bA _ q,fun _=>True.intro,fun y hy=>absurd rfl hy⟩
theorem y87{prog:Program}{w:World}{env:Env}{e:Expr}{f:Str}{pos:Pos}{s:Shared}{Q:Value->Shared->Prop}(hb:attributeBase e f env (eval e env)=eval e env)
  (h:wpAny (model prog w) A (eval e env) (fun o s₁=>wpAny (model prog w) A (getAttr o f true) Q E s₁) E s):wpAny (model prog w) A (eval (.Attribute e f pos) env) Q E s:=
 Attribute_any_ h (by rw[arm_eval_Attribute,hb])
end
noncomputable def w01(K:PySem.W.Frag)(ta:TE)(f:Str):TE:=fun σ H Q=>ta σ H fun x H1=>∃a C dx fs v,x=.ref a/\H1 a=some (.ins C dx fs)/\Cls K C/\z3b K C f/\fs.lookup f=some v/\Q v H1
noncomputable def sFld(K:PySem.W.Frag)(ta tv:TE)(f:Str):TS:=fun D σ H=>tv σ H fun y H1=>ta σ H1 fun x H2=>∃a C dx fs,x=.ref a/\H2 a=some (.ins C dx fs)/\Cls K C/\z3b K C f/\fs.length<1000/\
 D.nx σ (upd H2 a (.ins C dx (K8 f y fs)))
section
variable{X:Cx}{o e value:Expr}{f:Str}{pos pos' tpos:Pos}{ta tv:TE}
theorem z0J(he:PE X e ta)(hb:attributeBase e f X.env (eval e X.env)=eval e X.env):PE X (.Attribute e f pos) (w01 X.K ta f):=by
 intro pins s σ H Q I h
 refine y87 hb (thn (he pins s σ H _ I h) fun u s1 hz=>?_)
 obtain⟨x,H1,I1,rx,a,C,dx,fs,v,ex,ea,c,n,l,q⟩:=hz
 subst ex
 obtain rfl:u=Value.ref a:=rx
 exact y2D I1 ea c n l fun u' s2 I2 ru=>⟨v,H1,I2,ru,q⟩
theorem z6t(ha:PE X o ta)(hv:PE X value tv)(hs:swapsWith value (some (.Attribute o f pos')) pos.line X.env=pure false):PS X (.Assign [.Attribute o f pos'] value pos) (sFld X.K ta tv f):=by
 intro pins s σ H D I h
 refine plainObj_wpAny_Assign_Attribute (thn (hv pins s σ H _ I h) fun u s1 ⟨y,H1,I1,ry,q⟩=>thn (ha pins s1 σ H1 _ I1 q) fun ov s2 hz=>?_) hs
 obtain⟨x,H2,I2,rx,a,C,dx,fs,ex,ea,c,n,l,q2⟩:=hz
 subst ex
 obtain rfl:ov=Value.ref a:=rx
 exact y2L I2 ea c n l ry fun s3 I3=>⟨σ,_,I3,q2⟩
theorem y83{pl:Sem Bool}{m:Str}{apos:Pos}{args:List Expr}{pins:List (Addr×Obj)}{s:Shared}{σ:St}{H:Hp}{Q:Value->Shared->Prop}{te:TE}(he:PE X e te)(I:Inv X pins σ H s)
  (h:te σ H fun x H1=>∃a C dx fs g,x=.ref a/\H1 a=some (.ins C dx fs)/\Cls X.K C/\Meth X.K C m g/\fs.lookup m=none/\
   ∀s1,Inv X pins σ H1 s1->wpAny (model X.prog X.w) X.A (callWith pos (.ref g) [.ref a] (backTo pos (starEach args X.env)) (backToKw pos (keywordEach [] X.env))) Q X.xe s1)
  (ht:eval (.Call (.Attribute e m apos) args [] pos) X.env=(do
   let ov <- eval e X.env
   standAt apos.atName
   let (f,first) <- holding [ov] (getMethod ov m pl)
   callWith pos f first (backTo pos (starEach args X.env)) (backToKw pos (keywordEach [] X.env)))) :
  wpAny (model X.prog X.w) X.A (eval (.Call (.Attribute e m apos) args [] pos) X.env) Q X.xe s:=by
 refine jH (pl:=pl) (thn (he pins s σ H _ I h) fun u s1 hz=>?_) ht
 obtain⟨x,H1,I1,rx,a,C,dx,fs,g,ex,ea,c,k,l,q⟩:=hz
 subst ex
 obtain rfl:u=Value.ref a:=rx
 exact z6R I1 ea c k l (q s1 I1)
end
section
variable{X:Cx}{pins:List (Addr×Obj)}{σ:St}{H:Hp}{s:Shared}{A:Around}{E:Value->Shared->Prop}{Q:Value->Shared->Prop}{c:Value}{b:Bool}
inductive R0(K:PySem.W.Frag)(H:Hp):V->Value->Prop where
 | non:R0 K H .non (.type "NoneType")
 | bl (x:Bool):R0 K H (.bl x) (.type "bool")
 | int (i:Int):R0 K H (.int i) (.type "int")
 | str (x:Str):R0 K H (.str x) (.type "str")
 | flt (x:UInt64):R0 K H (.flt x) (.type "float")
 | lst {a:Addr}{xs:List V} (e:H a=some (.lst xs)):R0 K H (.ref a) (.type "list")
 | frz {a:Addr}{o:Obj}{xs:List V} (e:H a=some (.frz o (.lst xs))):R0 K H (.ref a) (.type "list")
 | tup {a:Addr}{xs:List V} (e:H a=some (.tup xs)):R0 K H (.ref a) (.type "tuple")
 | dK {a:Addr}{kvs:List (Key×V)} (e:H a=some (.dK kvs)):R0 K H (.ref a) (.type "dict")
 | dT {a:Addr}{kvs:List (List Key×V)} (e:H a=some (.dT kvs)):R0 K H (.ref a) (.type "dict")
 | ins {a C dx:Addr}{fs:List (Str×V)} (e:H a=some (.ins C dx fs)) (cl:Cls K C) (ha:PySem.W.findIn K (.ref C) "__class__"=some (some (.builtin "object.__class__")))
   (hn:PySem.W.specialIn K (.builtin "object.__class__") "__get__"=some (some (.builtin "getset_descriptor.__get__"))) (htk:PySem.W.takesIn K (.builtin "object.__class__")=some true)
   (hm:PySem.W.mroIn K C (.type "object")=some true):R0 K H (.ref a) (.ref C)
theorem y3Z{x:V}{u t:Value}(I:Inv X pins σ H s)(rx:RelV x u)(ty:R0 X.K H x t)(e:PySem.W.kitOne X.K t c=some b)(h:∀tk,Q (.bool b) { s with toks:=tk }) :
  wpAny (model X.prog X.w) A (call (.builtin "isinstance") [u,c]) Q E s:=by
 cases ty with
 | non=>cases (show u=Value.none from rx);exact dS PySem.W.kitx_none I.kIn True.intro e (fun z=>nomatch z) h
 | bl y=>cases (show u=Value.bool y from rx);exact dS PySem.W.kitx_bool I.kIn True.intro e (fun z=>nomatch z) h
 | int i=>obtain⟨t,q⟩:=(show ∃t,u=Value.int i t from rx);cases q;exact dS PySem.W.kitx_int I.kIn True.intro e (fun z=>nomatch z) h
 | str y=>obtain⟨t,q⟩:=(show ∃t,u=Value.str y t from rx);cases q;exact dS PySem.W.kitx_str I.kIn True.intro e (fun z=>nomatch z) h
 | flt y=>obtain⟨t,q⟩:=(show ∃t,u=Value.float y t from rx);cases q;exact dS PySem.W.kitx_float I.kIn True.intro e (fun z=>nomatch z) h
 | @lst a xs ea=>
  cases (show u=Value.ref a from rx)
  obtain⟨_,_,n,_,h1⟩:=(show z1C X.prog X.w H s.heap a (.lst xs) from I.hok a _ ea)
  exact dS PySem.W.kitx_list I.kIn ⟨_,h1,rfl⟩ e (fun z=>nomatch z) h
 | @frz a ob xs ea=>
  cases (show u=Value.ref a from rx)
  obtain⟨_,_,_,n,_,h1⟩:=(show z1C X.prog X.w H s.heap a (.frz ob (.lst xs)) from I.hok a _ ea)
  exact dS PySem.W.kitx_list I.kIn ⟨_,h1,rfl⟩ e (fun z=>nomatch z) h
 | @tup a xs ea=>
  cases (show u=Value.ref a from rx)
  obtain⟨_,_,_,p⟩:=(show z1C X.prog X.w H s.heap a (.tup xs) from I.hok a _ ea)
  obtain⟨o,h1,h2,_⟩:=p
  exact dS PySem.W.kitx_tuple I.kIn ⟨o,h1,h2⟩ e (fun z=>nomatch z) h
 | @dK a kvs ea=>
  cases (show u=Value.ref a from rx)
  obtain⟨_,_,vs,_,p⟩:=(show z1C X.prog X.w H s.heap a (.dK kvs) from I.hok a _ ea)
  obtain⟨o,es,ep,h1,h2,_⟩:=p
  exact dS PySem.W.kitx_dict I.kIn ⟨o,h1,h2.1⟩ e (fun z=>nomatch z) h
 | @dT a kvs ea=>
  cases (show u=Value.ref a from rx)
  obtain⟨_,_,xs,_,o,es,ep,h1,h2,_⟩:=(show z1C X.prog X.w H s.heap a (.dT kvs) from I.hok a _ ea)
  exact dS PySem.W.kitx_dict I.kIn ⟨o,h1,h2.1⟩ e (fun z=>nomatch z) h
 | @ins a C dx fs ea cl ha hn htk hm=>
  cases (show u=Value.ref a from rx)
  obtain⟨mA,O,_⟩:=y0i I.hok ea
  obtain⟨od,J,_⟩:=O.look
  exact dS (PySem.W.kitx_own (cl.get _) cl.hd ha hn htk hm) I.kIn J e (fun z=>nomatch z) h
end
structure E6(k:Nat)(A:Around):Prop where
 hd:A.handled=none
 dp:A.depth+3*k+5<recursionLimit
 un:A.units+16*k+200<cLine
theorem E6.mono{j k:Nat}{A:Around}(r:E6 k A)(h:j≤k):E6 j A:=⟨r.hd,by have:=r.dp;lia,by have:=r.un;lia⟩
theorem E6.deeper{k:Nat}{A:Around}(r:E6 (k+1) A)(env:Env):E6 k (A.deeper env):=
 ⟨r.hd,by have:=r.dp;show A.depth+1+3*k+5<_;lia,by have:=r.un;show A.units+3+16*k+200<_;lia⟩
theorem y3g{A:Around}{C:Addr}{us:List Value}{kw:List (Str×Value)}:(A.under (.builtin "type.__call__" ⟨.ref C::us,kw⟩)).depth=A.depth+1:=by
 first|rfl|simp[Around.under,Code.weight,Code.isCreation,Code.isGuard,Code.isCaller,Code.frames,Code.isFrame,guardIds]
theorem y31{A:Around}{C:Addr}{us:List Value}{kw:List (Str×Value)}:(A.under (.builtin "type.__call__" ⟨.ref C::us,kw⟩)).units=A.units+1:=by
 first|rfl|simp[Around.under,Code.cUnits,Code.frames,Code.isFrame]
theorem E6.make{k:Nat}{A:Around}(r:E6 (k+1) A)(C:Addr)(us:List Value)(kw:List (Str×Value)):E6 k (A.under (.builtin "type.__call__" ⟨.ref C::us,kw⟩)):=
 ⟨r.hd,by have:=r.dp;rw[y3g];lia,by have:=r.un;rw[y31];lia⟩
theorem E6.depth{k:Nat}{A:Around}(r:E6 k A):A.depth<recursionLimit:=by have:=r.dp;lia
theorem E6.units{k:Nat}{A:Around}(r:E6 k A):A.units+64<cLine:=by have:=r.un;lia
theorem E6.P8{k:Nat}{A:Around}(r:E6 k A):A.units<cLine:=by have:=r.un;lia
noncomputable def X8:TA:=fun _ H Q=>Q [] H
noncomputable def y5T(ta:TE)(tr:TA):TA:=fun σ H Q=>ta σ H fun x H1=>tr σ H1 fun xs H2=>Q (x::xs) H2
section
variable{X:Cx}{e:Expr}{es:List Expr}{te:TE}{t:TA}{pos:Pos}
theorem z02:PA X [] X8:=fun _ _ _ _ H Q I h=>Calls.spliced_nil ⟨[],H,I,.nil,h⟩
theorem z00(ha:PE X e te)(hr:PA X es t)(hs:starEach (e::es) X.env=(false,eval e X.env)::starEach es X.env:=by rfl):PA X (e::es) (y5T te t):=by
 intro pos pins s σ H Q I h
 rw[hs]
 show wpAny _ _ (spliced ((false,eval e X.env)::backTo pos (starEach es X.env))) _ _ s
 refine Calls.spliced_cons (thn (ha pins s σ H _ I h) fun u s1 hz=>?_)
 obtain⟨x,H1,I1,r1,q1⟩:=hz
 exact thn (hr pos pins s1 σ H1 _ I1 q1) fun us s2 ⟨xs,H2,I2,r2,q2⟩=>⟨x::xs,H2,I2,.cons r1 r2,q2⟩
noncomputable def tTup(t:TA):TE:=fun σ H Q=>t σ H fun xs H1=>xs.length≤sizeLine/\∀p,H1 p=none->Q (.ref p) (upd H1 p (.tup xs))
noncomputable def tLst(t:TA):TE:=fun σ H Q=>t σ H fun xs H1=>xs.length≤sizeLine/\∀p,H1 p=none->Q (.ref p) (upd H1 p (.lst xs))
theorem z0T{x1}(h:PA X es t):PE X (.Tuple es x1 pos) (tTup t):=by
 intro pins s σ H Q I hq
 refine wpAny_Tuple_spliced (thn (h pos pins s σ H _ I hq) fun us s1 ⟨xs,H1,I1,r,z,q⟩=>⟨by rw[<- r.length];exact z,?_⟩)
 have hf:H1 s1.heap.objs.size=none:=I1.hok.fresh (bI _)
 refine⟨.ref s1.heap.objs.size,upd H1 s1.heap.objs.size (.tup xs),I1.laid (t':=s1.toks) (fun b u e=>bA _ e) (bI _) ?_,rfl,q _ hf⟩
 exact⟨z,us,r,⟨_,bL _ rfl,rfl,⟨_,rfl⟩,rfl⟩⟩
theorem z1d(h:PA X es t):PE X (.List es pos) (tLst t):=by
 intro pins s σ H Q I hq
 refine wpAny_List_spliced (thn (h pos pins s σ H _ I hq) fun us s1 ⟨xs,H1,I1,r,z,q⟩=>⟨by rw[<- r.length];exact z,?_⟩)
 have hf:H1 s1.heap.objs.size=none:=I1.hok.fresh (bI _)
 refine⟨.ref s1.heap.objs.size,upd H1 s1.heap.objs.size (.lst xs),I1.laid (t':=s1.toks) (fun b u e=>bA _ e) (bI _) ?_,rfl,q _ hf⟩
 exact⟨z,us,0,r,bL _ rfl⟩
end
abbrev Sp:=List V->Hp->VK->XK->Prop
abbrev CXT:=List Env->Hp->Shared->XK->Value->Shared->Prop
structure W6(P:Program)(w:World)(K:PySem.W.Frag)(mg:Str->Option Value)(base:Heap)(A:Around)(outer:List Env)(s:Shared)(H:Hp):Prop where
 frames:A.frames=some outer
 mod:Mod K mg base
 bs:∀b o,base.get? b=some o->s.heap.get? b=some o/\H b=none
 bsz:base.objs.size≤s.heap.objs.size
 S1:s.heap.FunFrames base outer
 frf:∀b∈frs outer,H b=none
 hok:HOk P w H s.heap
 bare:AllBare s.gens
noncomputable def CE(outer:List Env)(P:Program)(w:World)(H:Hp)(s:Shared)(Q:VK)(u:Value)(s':Shared):Prop:=
 ∃v H',s'.os=s.os/\AllBare s'.gens/\Un (frs outer) [] H H' s.heap s'.heap/\HOk P w H' s'.heap/\RelV v u/\Q v H'
noncomputable def CR(CX:CXT)(outer:List Env)(P:Program)(w:World)(H:Hp)(s:Shared)(Q:VK)(E:XK)(r:Result)(s':Shared):Prop:=
 match r with
 | .ok (.ret u)=>CE outer P w H s Q u s'
 | .ok _=>False
 | .error e=>CX outer H s E e s'
structure B4(P:Program)(w:World)(K:PySem.W.Frag)(mg:Str->Option Value)(base:Heap)(CX:CXT)(k:Nat)(f:Addr)(fd:FuncData)(ps:List Str)(sp:Sp):Prop where
 len:∀vs H Q E,sp vs H Q E->vs.length=ps.length
 run:∀(A:Around) (outer:List Env) (s:Shared) (H:Hp) (args:Args) (us:List Value) (vs:List V) (Q:VK) (E:XK),E6 k A->W6 P w K mg base A outer s H->BindsTo s fd args (ps.zip us)->Vals vs us->sp vs H Q E->
  codeAny (model P w) A (.call (.ref f) args) (CR CX outer P w H s Q E) s
theorem B4.mono{P:Program}{w:World}{K:PySem.W.Frag}{mg:Str->Option Value}{base:Heap}{CX:CXT}{j k:Nat}{f:Addr}{fd:FuncData}{ps:List Str}{sp:Sp}(F:B4 P w K mg base CX j f fd ps sp)(h:j≤k) :
  B4 P w K mg base CX k f fd ps sp:=⟨F.len,fun A outer s H args us vs Q E hr=>F.run A outer s H args us vs Q E (hr.mono h)⟩
theorem W6.make{P:Program}{w:World}{K:PySem.W.Frag}{mg:Str->Option Value}{base:Heap}{A:Around}{outer:List Env}{s:Shared}{H:Hp}(e:W6 P w K mg base A outer s H)(C:Addr)(us:List Value)(kw:List (Str×Value)) :
  W6 P w K mg base (A.under (.builtin "type.__call__" ⟨.ref C::us,kw⟩)) outer s H:=⟨by first|exact e.frames|(simpa [Around.under,Code.envs,Code.isFrame,pushEnvs] using e.frames),e.mod,e.bs,e.bsz,e.S1,e.frf,e.hok,e.bare⟩
section
variable{X:Cx}{pins:List (Addr×Obj)}{σ:St}{H:Hp}{s s':Shared}
theorem Inv.env0(I:Inv X pins σ H s):W6 X.prog X.w X.K X.mg X.base X.A X.stack s H:=
 ⟨I.ok.frames,I.ok.mod,I.bs,cL I.ok.bsz I.sz,I.stack,I.X5,I.hok,I.bare⟩
theorem Inv.after{Q:VK}{u:Value}(I:Inv X pins σ H s)(h:CE X.stack X.prog X.w H s Q u s'):EP X pins σ Q u s':=by
 obtain⟨v,H',os,bare,un,hok,r,q⟩:=h
 obtain⟨hh,g,d,t,os'⟩:=s'
 obtain rfl:os'=s.os:=os
 exact⟨v,H',I.call (h':=hh) (g':=g) (d':=d) (t':=t) (ch:=[]) un hok bare (fun b z=>absurd z (by simp)),r,q⟩
end
noncomputable def y7A(sp:Sp)(dvs:List V)(E:XK)(t:TA):TE:=fun σ H Q=>t σ H fun vs H1=>sp (vs++dvs) H1 Q E
noncomputable def y4M(C:Addr)(m:Str)(sp:Sp)(dvs:List V)(E:XK)(ta:TE)(t:TA):TE:=fun σ H Q=>ta σ H fun x H1=>∃a dx fs,x=.ref a/\H1 a=some (.ins C dx fs)/\fs.lookup m=none/\
 t σ H1 fun vs H2=>sp (x::(vs++dvs)) H2 Q E
noncomputable def y8m(C:Addr)(sp:Sp)(dvs:List V)(E:XK)(t:TA):TE:=fun σ H Q=>t σ H fun vs H1=>∀x dx,H1 x=none->H1 dx=none->dx≠x->
 sp (.ref x::(vs++dvs)) (upd (upd H1 dx (.own x)) x (.ins C dx [])) (fun v H2=>v=.non/\Q (.ref x) H2) E
noncomputable def z2b(K:PySem.W.Frag)(fd:FuncData)(ps:List Str)(ds:List Value):Prop:=
 ∀(s:Shared) (us:List Value),K.In s.heap->(us++ds).length=ps.length->BindsTo s fd ⟨us,[]⟩ (ps.zip (us++ds))
theorem z2b.all{K:PySem.W.Frag}{fd:FuncData}{ps:List Str}(h:∀us:List Value,us.length=ps.length->bindArgs fd ⟨us,[]⟩=pure (ps.zip us)):z2b K fd ps []:=fun s us _ hl=>by
 rw[cR] at hl ⊢
 exact .of_eq (h us hl)
noncomputable def z8I(CX:CXT)(X:Cx)(E:XK):Prop:=∀(pins:List (Addr×Obj)) (σ:St) (H:Hp) (s:Shared) (e:Value) (s':Shared),Inv X pins σ H s->CX X.stack H s E e s'->X.xe e s'
section
variable{X:Cx}{CX:CXT}{k:Nat}{f C:Addr}{fd:FuncData}{ps:List Str}{sp:Sp}{dvs:List V}{ds:List Value}{E:XK}{x m:Str}{p pos apos:Pos}{e o:Expr}{es:List Expr}{ta:TE}{t:TA}
theorem y46{pins:List (Addr×Obj)}{σ:St}{H:Hp}{s:Shared}{Q:VK}{us:List Value}{vs:List V}(F:B4 X.prog X.w X.K X.mg X.base CX k f fd ps sp)(hr:E6 k X.A)(hb:z2b X.K fd ps ds)(hd:Vals dvs ds)(hx:z8I CX X E)
  (I:Inv X pins σ H s) (r:Vals vs us) (h:sp (vs++dvs) H Q E):wpAny (model X.prog X.w) X.A (call (.ref f) us) (EP X pins σ Q) X.xe s:=by
 have r2:Vals (vs++dvs) (us++ds):=r.append hd
 have hl:(us++ds).length=ps.length:=by rw[<- r2.length];exact F.len _ _ _ _ h
 refine wpAny_call (codeAny_mono (F.run X.A X.stack s H ⟨us,[]⟩ (us++ds) (vs++dvs) Q E hr I.env0 (hb s us I.kIn hl) r2 h) fun r s' hq=>?_)
 cases r with
 | error e=>exact hx pins σ H s e s' I hq
 | ok fl=>
  cases fl with
  | ret u=>exact I.after hq
  | next=>exact False.elim hq
  | brk=>exact False.elim hq
  | cont=>exact False.elim hq
theorem y4H(F:B4 X.prog X.w X.K X.mg X.base CX k f fd ps sp)(hr:E6 k X.A)(hg:Gl X x)(hm:X.mg x=some (.ref f))(hk:PySem.W.keepIn X.K (.ref f)=true)(hb:z2b X.K fd ps ds)(hd:Vals dvs ds)(hx:z8I CX X E)
  (ha:PA X (e::es) t) (hdb:(x == ("__debug__":Str))=false:=by decide) (he:starEach (e::es) X.env=(false,eval e X.env)::starEach es X.env:=by rfl) (hpl:(backTo pos (starEach es X.env)).any (·.1)=false:=by rfl) :
  PE X (.Call (.Name x p) (e::es) [] pos) (y7A sp dvs E t):=by
 intro pins s σ H Q I h
 refine wpAny_Call_Name_kw (y1f I hg hm ?_ hdb)
 refine jW (h₀:=X.base) I.ok.mod.kin hk (thn (ha pos pins s σ H _ I h) fun us s1 ⟨vs,H1,I1,r,q⟩=>⟨I1.kIn,?_⟩) he hpl
 exact y46 F hr hb hd hx I1 r q
theorem y49{pl:Sem Bool}(he:PE X o ta)(c:Cls X.K C)(hm:Meth X.K C m f)(F:B4 X.prog X.w X.K X.mg X.base CX k f fd ps sp)(hr:E6 k X.A)(hb:z2b X.K fd ps ds)(hd:Vals dvs ds)(hx:z8I CX X E)(ha:PA X (e::es) t)
  (hst:starEach (e::es) X.env=(false,eval e X.env)::starEach es X.env:=by rfl) (hpl:(backTo pos (starEach es X.env)).any (·.1)=false:=by rfl)
  (ht:eval (.Call (.Attribute o m apos) (e::es) [] pos) X.env=(do
   let ov <- eval o X.env
   standAt apos.atName
   let (f,first) <- holding [ov] (getMethod ov m pl)
   callWith pos f first (backTo pos (starEach (e::es) X.env)) (backToKw pos (keywordEach [] X.env))):=by rfl) :
  PE X (.Call (.Attribute o m apos) (e::es) [] pos) (y4M C m sp dvs E ta t):=by
 intro pins s σ H Q I h
 refine jH (pl:=pl) (thn (he pins s σ H _ I h) fun u s1 hz=>?_) ht
 obtain⟨x,H1,I1,rx,a,dx,fs,ex,ea,l,q⟩:=hz
 subst ex
 obtain rfl:u=Value.ref a:=rx
 refine z6R I1 ea c hm l ?_
 refine jW (first:=[.ref a]) (h₀:=X.base) I.ok.mod.kin hm.kp (thn (ha pos pins s1 σ H1 _ I1 q) fun us s2 ⟨vs,H2,I2,r,q2⟩=>⟨I2.kIn,?_⟩) hst hpl
 exact y46 (us:=.ref a::us) (vs:=.ref a::vs) F hr hb hd hx I2 (.cons rfl r) q2
theorem y5w{pl:Sem Bool}(he:PE X o ta)(c:Cls X.K C)(hm:Meth X.K C m f)(F:B4 X.prog X.w X.K X.mg X.base CX k f fd ps sp)(hr:E6 k X.A)(hb:z2b X.K fd ps ds)(hd:Vals dvs ds)(hx:z8I CX X E)
  (ht:eval (.Call (.Attribute o m apos) [] [] pos) X.env=(do
   let ov <- eval o X.env
   standAt apos.atName
   let (f,first) <- holding [ov] (getMethod ov m pl)
   callWith pos f first (backTo pos (starEach [] X.env)) (backToKw pos (keywordEach [] X.env))):=by rfl) :
  PE X (.Call (.Attribute o m apos) [] [] pos) (y4M C m sp dvs E ta X8):=by
 intro pins s σ H Q I h
 refine jH (pl:=pl) (thn (he pins s σ H _ I h) fun u s1 hz=>?_) ht
 obtain⟨x,H1,I1,rx,a,dx,fs,ex,ea,l,q⟩:=hz
 subst ex
 obtain rfl:u=Value.ref a:=rx
 refine z6R I1 ea c hm l ?_
 exact PySem.W.callWith_K0 (first:=[.ref a]) I1.kIn hm.kp (y46 (us:=[.ref a]) (vs:=[.ref a]) F hr hb hd hx I1 (.cons rfl .nil) q)
structure Mk(K:PySem.W.Frag)(C f:Addr):Prop where
 makes:PySem.W.makesIn K C=true
 init:PySem.W.findIn K (.ref C) "__init__"=some (some (.ref f))
 fn:PySem.W.isFn K (.ref f)=true
 kp:PySem.W.keepIn K (.ref C)=true
theorem y5J{pins:List (Addr×Obj)}{σ:St}{H:Hp}{s:Shared}{Q:VK}{us:List Value}{vs:List V}(M:Mk X.K C f)(F:B4 X.prog X.w X.K X.mg X.base CX k f fd ps sp)(hr:E6 (k+1) X.A)(hb:z2b X.K fd ps ds)(hd:Vals dvs ds)
  (hx:z8I CX X E) (I:Inv X pins σ H s) (r:Vals vs us)
  (h:∀x dx,H x=none->H dx=none->dx≠x->sp (.ref x::(vs++dvs)) (upd (upd H dx (.own x)) x (.ins C dx [])) (fun v H2=>v=.non/\Q (.ref x) H2) E) :
  wpAny (model X.prog X.w) X.A (call (.ref C) us) (EP X pins σ Q) X.xe s:=by
 have hq:=h (s.heap.objs.size+1) s.heap.objs.size (I.hok.fresh (gP _)) (I.hok.fresh (bI _)) (cJ (gM _))
 have I2:=Inv.made (C:=C) I
 have r2:Vals (V.ref (s.heap.objs.size+1)::(vs++dvs)) (Value.ref (s.heap.objs.size+1)::(us++ds)):=.cons rfl (r.append hd)
 have hl:(Value.ref (s.heap.objs.size+1)::us++ds).length=ps.length:=by
  have e:=r2.length
  rw[F.len _ _ _ _ hq] at e
  exact e.symm
 refine wpAny_call (y5S (f:=f) I.kIn M.makes M.init (beq_iff_eq.mp M.fn) (codeAny_mono (F.run _ X.stack _ _ ⟨Value.ref (s.heap.objs.size+1)::us,[]⟩ (Value.ref (s.heap.objs.size+1)::(us++ds)) _ _ E (hr.make C us [])
  (I2.env0.make C us []) (hb _ (Value.ref (s.heap.objs.size+1)::us) I2.kIn hl) r2 hq) fun r s' hq'=>?_))
 cases r with
 | error e=>exact hx pins σ _ _ e s' I2 hq'
 | ok fl=>
  cases fl with
  | ret u=>
   obtain⟨v,H',I3,rv,ev,q3⟩:=I2.after hq'
   subst ev
   exact⟨rv,⟨V.ref (s.heap.objs.size+1),H',I3,rfl,q3⟩⟩
  | next=>exact False.elim hq'
  | brk=>exact False.elim hq'
  | cont=>exact False.elim hq'
theorem y77(M:Mk X.K C f)(F:B4 X.prog X.w X.K X.mg X.base CX k f fd ps sp)(hr:E6 (k+1) X.A)(hg:Gl X x)(hm:X.mg x=some (.ref C))(hb:z2b X.K fd ps ds)(hd:Vals dvs ds)(hx:z8I CX X E)
  (ha:PA X (e::es) t) (hdb:(x == ("__debug__":Str))=false:=by decide) (he:starEach (e::es) X.env=(false,eval e X.env)::starEach es X.env:=by rfl) (hpl:(backTo pos (starEach es X.env)).any (·.1)=false:=by rfl) :
  PE X (.Call (.Name x p) (e::es) [] pos) (y8m C sp dvs E t):=by
 intro pins s σ H Q I h
 refine wpAny_Call_Name_kw (y1f I hg hm ?_ hdb)
 refine jW (h₀:=X.base) I.ok.mod.kin M.kp (thn (ha pos pins s σ H _ I h) fun us s1 ⟨vs,H1,I1,r,q⟩=>⟨I1.kIn,?_⟩) he hpl
 exact y5J M F hr hb hd hx I1 r q
end
noncomputable def PK(X:Cx)(kws:List Keyword)(t:TA):Prop:=
 ∀(pos:Pos) (pins:List (Addr×Obj)) (s:Shared) (σ:St) (H:Hp) (Q:List V->Hp->Prop),Inv X pins σ H s->t σ H Q->wpAny (model X.prog X.w) X.A (evalAll ((backToKw pos (keywordEach kws X.env)).map (·.2))) (AP X pins σ Q) X.xe s
section
variable{X:Cx}{CX:CXT}{k:Nat}{f C:Addr}{fd:FuncData}{ps ks:List Str}{sp:Sp}{E:XK}{x m:Str}{p pos apos kpos:Pos}{e o:Expr}{es:List Expr}{kws:List Keyword}{te ta:TE}{t tk:TA}{nm:Option Str}
theorem y20:PK X [] X8:=fun _ _ _ _ H Q I h=>wpAny_evalAll_nil ⟨[],H,I,.nil,h⟩
theorem z9Q(ha:PE X e te)(hr:PK X kws t):PK X (⟨nm,e,kpos⟩::kws) (y5T te t):=by
 intro pos pins s σ H Q I h
 show wpAny _ _ (evalAll ((do let v <- eval e X.env;standAt pos;pure v)::(backToKw pos (keywordEach kws X.env)).map (·.2))) _ _ s
 refine wpAny_evalAll_cons (wpAny_bind (thn (ha pins s σ H _ I h) fun u s1 ⟨x,H1,I1,r1,q1⟩=>wpAny_bind (wpAny_standAt (wpAny_pure ?_))))
 exact thn (hr pos pins s1 σ H1 _ I1 q1) fun us s2 ⟨xs,H2,I2,r2,q2⟩=>⟨x::xs,H2,I2,.cons r1 r2,q2⟩
variable{g:List Value->List Value->List Value}{gV:List V->List V->List V}
end
structure A9(N P:List Str)(sc:Scope):Prop where
 kind:sc.kind=.function
 co:sc.isCoroutine=false
 gen:sc.isGenerator=false
 nd:N.Nodup
 pre:N.take P.length=P
 par:∀x∈P,sc.names.lookup x=some .local\/sc.names.lookup x=some .cell
 nofree:∀y∈sc.names,y.2≠.free
theorem y13{kindOf:Str->Option NameKind}{x:Str}:∀{binds:List (Str×Value)}{m:Str->Option Value},(∀v,(x,v)∉binds)->bindL kindOf binds m x=m x
 | [],_,_=>rfl
 | (n,v)::r,m,h=>by
  unfold bindL
  rw[y13 fun w hw=>h w (bZ _ hw)]
  split
  ·have:x≠n:=by rintro rfl;exact h v cC
   simp[this]
  ·rfl
theorem y16{kindOf:Str->Option NameKind}{x:Str}:∀{binds:List (Str×Value)}{m:Str->Option Value},(∀v,(x,v)∉binds)->bindC kindOf binds m x=m x
 | [],_,_=>rfl
 | (n,v)::r,m,h=>by
  unfold bindC
  rw[y16 fun w hw=>h w (bZ _ hw)]
  split
  ·rfl
  ·have:x≠n:=by rintro rfl;exact h v cC
   simp[this]
theorem y0R{kindOf:Str->Option NameKind}{x:Str}{v:Value}:∀{P:List Str}{vs:List Value}{i:Nat}{m:Str->Option Value},P.Nodup->P[i]? = some x->vs[i]? = some v->kindOf x=some .local->
  bindL kindOf (P.zip vs) m x=some v
 | [],_,_,_,_,h,_,_=>by simp at h
 | _::_,[],_,_,_,_,h,_=>by simp at h
 | p::P,w::vs,0,m,nd,h1,h2,hk=>by
  simp at h1 h2;subst h1;subst h2
  show bindL kindOf ((p,w)::P.zip vs) m p=_
  unfold bindL
  rw[y13 fun v hv=>(dB.mp nd).1 (List.of_mem_zip hv).1,if_pos hk]
  simp
 | p::P,w::vs,i+1,m,nd,h1,h2,hk=>by
  show bindL kindOf ((p,w)::P.zip vs) m x=_
  unfold bindL
  exact y0R (i:=i) (dB.mp nd).2 (by simpa using h1) (by simpa using h2) hk
theorem y0A{kindOf:Str->Option NameKind}{x:Str}{v:Value}:∀{P:List Str}{vs:List Value}{i:Nat}{m:Str->Option Value},P.Nodup->P[i]? = some x->vs[i]? = some v->kindOf x≠some .local->
  bindC kindOf (P.zip vs) m x=some v
 | [],_,_,_,_,h,_,_=>by simp at h
 | _::_,[],_,_,_,_,h,_=>by simp at h
 | p::P,w::vs,0,m,nd,h1,h2,hk=>by
  simp at h1 h2;subst h1;subst h2
  show bindC kindOf ((p,w)::P.zip vs) m p=_
  unfold bindC
  rw[y16 fun v hv=>(dB.mp nd).1 (List.of_mem_zip hv).1,if_neg hk]
  simp
 | p::P,w::vs,i+1,m,nd,h1,h2,hk=>by
  show bindC kindOf ((p,w)::P.zip vs) m x=_
  unfold bindC
  exact y0A (i:=i) (dB.mp nd).2 (by simpa using h1) (by simpa using h2) hk
noncomputable def z6F(N:List Str)(vs:List V):St:=vs.map some++List.replicate (N.length-vs.length) none
noncomputable def W7(CX:CXT)(P:Program)(w:World)(K:PySem.W.Frag)(mg:Str->Option Value)(base:Heap)(N:List Str)(qual:Str)(scope:Scope)(f:Addr)(cd:Value)(A:Around)(outer:List Env)(s:Shared)(H:Hp)(E:XK):Cx where
 prog:=P
 w:=w
 K:=K
 mg:=mg
 base:=base
 A:=A.deeper (envOfC qual scope s.heap.objs.size f cd)
 N:=N
 s₀:=s
 H₀:=H
 env:=envOfC qual scope s.heap.objs.size f cd
 outer:=outer
 stack:=envOfC qual scope s.heap.objs.size f cd::outer
 ex:=[]
 calm:=true
 fn:=fun _=>true
 pn:=[]
 xe:=fun e s'=>wpAny (model P w) (A.deeper (envOfC qual scope s.heap.objs.size f cd)) (leaving (envOfC qual scope s.heap.objs.size f cd) e) (fun _ s''=>CX outer H s E e s'') (fun e' s''=>CX outer H s E e' s'') s'
theorem y1U{sc:Scope}{n:Nat}{x:Str}(h:sc.names.lookup x=some .cell):∃c,(cellsFrom n sc.names []).lookup x=some c:=by
 have q:=PySem.W.cellsFrom_some sc.names n [] (.inl h)
 exact Option.isSome_iff_exists.mp q
theorem y4e{CX:CXT}{P:Program}{w:World}{K:PySem.W.Frag}{mg:Str->Option Value}{base:Heap}{N ps:List Str}{qual:Str}{scope:Scope}{f:Addr}{cd:Value}{A:Around}{outer:List Env}{s s1:Shared}{H:Hp}{E:XK}{us:List Value}{vs:List V}
  (S:A9 N ps scope) (hd:A.handled=none) (e0:W6 P w K mg base A outer s H) (hl:vs.length=ps.length) (r:Vals vs us)
  (x:InCallC s s.heap.objs.size (bindL (envOfC qual scope s.heap.objs.size f cd).kindOf (ps.zip us) fun _=>none) (cellsFrom (s.heap.objs.size+1) scope.names []) (bindC (envOfC qual scope s.heap.objs.size f cd).kindOf (ps.zip us) fun _=>none) s1) :
  Inv (W7 CX P w K mg base N qual scope f cd A outer s H E) [] (z6F N vs) H s1:=by
 have hpl:ps.length≤N.length:=by have:=congrArg List.length S.pre;rw[bG] at this;lia
 obtain⟨h1,tk,rfl,hk⟩:=x.done
 have noA:∀b:Addr,b∉(W7 CX P w K mg base N qual scope f cd A outer s H E).ex:=fun b z=>absurd (show b∈([]:List Addr) from z) (by simp)
 refine⟨⟨e0.mod,S.kind,rfl,rfl,bI _,fun y z c h1 h2=>?_,fun y hy=>?_,fun y c _ h=>?_,fun _=>hd,Around.frames_deeper e0.frames,.inr ⟨rfl,rfl⟩,fun b z=>absurd z (noA b),e0.bs,e0.bsz,fun b _ _=>noA b,fun b z=>absurd z (noA b),e0.S1,e0.frf⟩,
  rfl,e0.bare,Un.kept hk,⟨_,x.toInCall.ns,fun i y v h1 h2 h3=>?_⟩,fun y c h=>⟨_,x.cell y c h⟩,e0.hok.fresh (bI _),fun y c h=>?_,fun p hp=>absurd (show p∈([]:List (Addr×Obj)) from hp) (by simp),e0.hok.kept hk,?_⟩
 ·exact name_of_addr x.apart (fT h1) (fT h2)
 ·have hy:scope.names.lookup y=some .cell\/scope.names.lookup y=some .free:=hy
  rcases hy with hy|hy
  ·exact y1U hy
  ·exact absurd rfl (S.nofree _ (fT hy))
 ·exact dX (x.above y c (fT h))
 ·have hi:i<vs.length:=by
   unfold z6F at h2
   by_cases hi:i<vs.length
   ·exact hi
   ·rw[eJ (by simpa using hi)] at h2
    rw[j3] at h2
    split at h2<;>cases h2
  have ha:vs[i]? = some v:=by
   unfold z6F at h2
   rw[dN (by simpa using hi),bC] at h2
   cases e:vs[i]? with
   | none=>rw[e] at h2;cases h2
   | some a=>rw[e] at h2;cases h2;rfl
  obtain⟨u,hu,rv⟩:=r.get ha
  have hp:ps[i]? = some y:=by
   rw[<- S.pre,eB (by lia)];exact h1
  have ndP:ps.Nodup:=by rw[<- S.pre];exact S.nd.sublist (List.take_sublist _ _)
  refine⟨u,rv,?_⟩
  rcases S.par y (bP hp) with k|k
  ·exact .inl ⟨k,y0R ndP hp hu k⟩
  ·obtain⟨c,e⟩:=y1U (n:=s.heap.objs.size+1) k
   refine .inr ⟨.inl k,c,e,?_⟩
   have q:=x.cell y c e
   rw[y0A ndP hp hu (by show scope.names.lookup y≠_;rw[k];decide)] at q
   exact q
 ·exact e0.hok.fresh (dX (x.above y c (fT h)))
 ·unfold z6F
  show _=N.length
  rw[bN,b9,jI]
  lia
theorem y8l{CX:CXT}{P:Program}{w:World}{K:PySem.W.Frag}{mg:Str->Option Value}{base:Heap}{k:Nat}{f:Addr}{name qual:Str}{params:Arguments}{body:List Stmt}{scope:Scope}{dV kV doc pm cdv ct oc:Value}{an od:Option Addr}
  {osl:Array (Option Value)}{N ps:List Str}{sp:Sp} (lk:K.lookup f=some ⟨oc,od,.func (PySem.W.fnOf name qual params body scope dV kV doc pm an cdv ct),osl⟩) (hcd:PySem.W.codeIn K cdv qual=true) (S:A9 N ps scope)
  (len:∀vs H Q E,sp vs H Q E->vs.length=ps.length)
  (V1:∀(A:Around) (outer:List Env) (s:Shared) (H:Hp) (vs:List V) (Q:VK) (E:XK),E6 k (A.deeper (envOfC qual scope s.heap.objs.size f cdv))->sp vs H Q E->
   ∃t,PSs (W7 CX P w K mg base N qual scope f cdv A outer s H E) body t/\t { nx:=fun _ H'=>Q .non H',rt:=Q } (z6F N vs) H) :
  B4 P w K mg base CX (k+1) f (PySem.W.fnOf name qual params body scope dV kV doc pm an cdv ct) ps sp:=by
 refine⟨len,fun A outer s H args us vs Q E hr e0 hb r hsp=>?_⟩
 have hl:=len _ _ _ _ hsp
 have KX:K.In s.heap:=e0.mod.kin.keeps fun b o e=>(e0.bs b o e).1
 have lim:s.heap.NoLimit:=e0.mod.nolimit.keeps fun b o e=>(e0.bs b o e).1
 have w0U:∀y∈ps.zip us,scope.names.lookup y.1=some .local\/(scope.names.lookup y.1=some .cell/\((cellsFrom (s.heap.objs.size+1) scope.names []).lookup y.1).isSome=true):=fun⟨n,v⟩ hy=>by
  rcases S.par n (List.of_mem_zip hy).1 with q|q
  ·exact .inl q
  ·exact .inr ⟨q,PySem.W.cellsFrom_some _ _ _ (.inl q)⟩
 refine codeAny_call_function hr.depth (KX _ _ lk) rfl S.co S.gen rfl (PySem.W.codeRec_of KX hcd) (hb _ _ _ _ ?_)
 refine wpAny_newFunctionEnv_cells S.kind w0U fun env he s1 x=>?_
 subst he
 refine⟨lim.keeps x.toInCall.keep,codeAny_func ?_⟩
 obtain⟨t,ht,hq⟩:=V1 A outer s H vs Q E (hr.deeper _) hsp
 have I:Inv (W7 CX P w K mg base N qual scope f cdv A outer s H E) [] (z6F N vs) H s1:=y4e S hr.hd e0 hl r x
 refine wpAny_mono (ht [] s1 (z6F N vs) H _ I hq) (fun fl s' hs=>?_) fun e s' hs=>hs
 have fin:∀{σ':St}{H':Hp}{v:V}{u:Value},Inv (W7 CX P w K mg base N qual scope f cdv A outer s H E) [] σ' H' s'->RelV v u->Q v H'->CE outer P w H s Q u s':=
  fun {σ' H' v u} J rv q=>⟨v,H',J.os,J.bare,J.base,J.hok,rv,q⟩
 cases fl with
 | ret u=>
  obtain⟨v,σ',H',J,rv,q⟩:=hs
  exact fin J rv q
 | next=>
  obtain⟨σ',H',J,q⟩:=hs
  exact fin (v:=V.non) (u:=Value.none) J rfl q
 | brk=>
  obtain⟨_,_,_,q⟩:=hs
  exact False.elim q
 | cont=>
  obtain⟨_,_,_,q⟩:=hs
  exact False.elim q
section
variable{X:Cx}{x:Str}{p pos:Pos}{e:Expr}{es:List Expr}{t:TA}{id T:String}{r:List V->Hp->VK->Prop}
noncomputable def tCB(r:List V->Hp->VK->Prop)(t:TA):TE:=fun σ H Q=>t σ H fun vs H1=>r vs H1 Q
theorem z0b(hc:z3K X (.builtin id) r)(hg:Gl X x)(hm:X.mg x=none)(hv:bootBuiltins x=some (.builtin id))(ha:PA X (e::es) t)(hn:x≠"__name__":=by decide)(hdb:(x == ("__debug__":Str))=false:=by decide)
  (he:starEach (e::es) X.env=(false,eval e X.env)::starEach es X.env:=by rfl) (hpl:(backTo pos (starEach es X.env)).any (·.1)=false:=by rfl):PE X (.Call (.Name x p) (e::es) [] pos) (tCB r t):=by
 intro pins s σ H Q I h
 refine wpAny_Call_Name_kw (z5p I hg hm hv ?_ hn hdb)
 exact PyProof.Rows.callWith_builtin1 (thn (ha pos pins s σ H _ I h) fun us s1 ⟨vs,H1,I1,r1,q1⟩=>hc pins s1 σ H1 vs us Q I1 r1 q1) he hpl
theorem z0s(hc:z3K X (.type T) r)(hg:Gl X x)(hm:X.mg x=none)(hv:bootBuiltins x=some (.type T))(ha:PA X (e::es) t)(hn:x≠"__name__":=by decide)(hdb:(x == ("__debug__":Str))=false:=by decide)
  (he:starEach (e::es) X.env=(false,eval e X.env)::starEach es X.env:=by rfl) (hpl:(backTo pos (starEach es X.env)).any (·.1)=false:=by rfl):PE X (.Call (.Name x p) (e::es) [] pos) (tCB r t):=by
 intro pins s σ H Q I h
 refine wpAny_Call_Name_kw (z5p I hg hm hv ?_ hn hdb)
 exact dW (thn (ha pos pins s σ H _ I h) fun us s1 ⟨vs,H1,I1,r1,q1⟩=>hc pins s1 σ H1 vs us Q I1 r1 q1) he hpl
end
end L2
namespace HT
open PySem PyProof.Rows
section
open PySem.SeqAt
open PySem.AutoSeq1 (wpAny_loadPart')
open PySem.MeetsSeq PySem.MeetsSeq2 PySem.MeetsSeq3
end
section
variable{prog:Program}{w:World}{A:Around}{E:Value->Shared->Prop}{s:Shared}
theorem y4P{t b:Addr}{vs ws:List Value}{Q:Value->Shared->Prop}(ht:IsTup s.heap t vs.toArray)(hb:IsTup s.heap b ws.toArray)(hv:vs≠[])
  (h1:ws=[]->Q (.ref t) s) (h2:ws≠[]->Q (.ref s.heap.objs.size) { s with heap:=s.heap.push { cls:=.type "tuple",data:=.seq (vs++ws).toArray } })
  (hsz:vs.length+ws.length≤sizeLine):wpAny (model prog w) A (binaryOp .Add (.ref t) (.ref b)) Q E s:=by
 obtain⟨⟨cls,dd,data,sl⟩,ho,hc,n,hd⟩:=id ht
 obtain⟨⟨cls2,dd2,data2,sl2⟩,ho2,hc2,n2,hd2⟩:=id hb
 simp only at hc hd hc2 hd2
 subst hc hd hc2 hd2
 have e:vs.toArray++ws.toArray=(vs++ws).toArray:=by simp
 by_cases hw:ws=[]
 ·exact concat_meets ⟨_,ho,rfl⟩ ⟨_,ho2,rfl⟩ noFill_tuple_add seq_tuple_add j9 j4 (h9 _ _)
   (tuple_addW1 t b vs.toArray ws.toArray n n2 dd dd2 sl sl2 (by simpa using hv) (by simp[hw])) ⟨ho,ho2,h1 hw⟩
 ·refine concat_meets ⟨_,ho,rfl⟩ ⟨_,ho2,rfl⟩ noFill_tuple_add seq_tuple_add j9 j4 (h9 _ _)
   (tuple_addW2 t b vs.toArray ws.toArray n n2 dd dd2 sl sl2 (by simpa using hv) (by simpa using hw) (by rw[bJ,bJ];exact hsz)) ⟨ho,ho2,?_⟩
  rw[e]
  exact h2 hw
noncomputable def sIx(n d:Nat):Option Int->Nat
 | none=>d
 | some v=>if v<0 then (v+(n:Int)).toNat else min v.toNat n
theorem z9O(n d k:Nat):sIx n d (some (k:Int))=min k n:=by
 show(if (k:Int)<0 then ((k:Int)+(n:Int)).toNat else min (k:Int).toNat n)=min k n
 rw[if_neg (by lia),fF]
theorem y6S(n d:Nat)(hd:d≤n)(o:Option Int):sIx n d o≤n:=by
 cases o with
 | none=>exact hd
 | some v=>
  show(if v<0 then (v+(n:Int)).toNat else min v.toNat n)≤n
  by_cases hv:v<0
  ·rw[if_pos hv];lia
  ·rw[if_neg hv];exact Nat.min_le_right _ _
theorem y4m(v:Int)(n d:Nat):(if v<0 then max (v+(n:Int)) 0 else min v (n:Int))=((sIx n d (some v):Nat):Int):=by
 show(if v<0 then max (v+(n:Int)) 0 else min v (n:Int))=(((if v<0 then (v+(n:Int)).toNat else min v.toNat n):Nat):Int)
 by_cases hv:v<0
 ·simp only[if_pos hv];lia
 ·simp only[if_neg hv];lia
theorem y3m(lo hi:Option Int)(n:Nat):Builtin.Slice.sliceAdjust lo hi 1 (n:Int)=(((sIx n 0 lo:Nat):Int),((sIx n n hi:Nat):Int)):=by
 have h1:¬((1:Int)<0):=by lia
 unfold Builtin.Slice.sliceAdjust
 simp only[h1,if_false]
 refine Prod.ext ?_ ?_
 ·cases lo with
  | none=>rfl
  | some v=>exact y4m v n 0
 ·cases hi with
  | none=>rfl
  | some v=>exact y4m v n n
theorem y3e(i j:Nat):Builtin.Slice.slicePlaces (i:Int) (j:Int) 1=j-i:=by
 unfold Builtin.Slice.slicePlaces
 have h1:(1:Int) > 0:=by lia
 simp only[h1,if_true,Int.ediv_one]
 split<;>lia
theorem z9l{v:Value}{o:Option Int}{Q:Option Int->Shared->Prop}(p:IsPart v o)(h:Q o s):wpAny (model prog w) A (Builtin.Slice.slicePartIndex v) Q E s:=by
 cases p with
 | none=>exact slicePart_none h
 | int i t=>exact slicePart_int h
theorem z4p{sl:Addr}{vl vu:Value}{lo hi:Option Int}{n:Nat}{Q:Int×Int×Nat->Shared->Prop}(hs:s.heap.IsSliceOf sl vl vu .none)(pl:IsPart vl lo)(pu:IsPart vu hi)
  (h:Q (((sIx n 0 lo:Nat):Int),1,sIx n n hi-sIx n 0 lo) s):wpAny (model prog w) A (Builtin.Slice.sliceApplied (.ref sl) (pure (n:Int))) Q E s:=by
 obtain⟨os,hos,hcs,hds⟩:=id hs
 unfold Builtin.Slice.sliceApplied Builtin.Slice.sliceFields
 refine wpAny_bind (wpAny_bind (wpAny_field hos hds (x:=vl) rfl (wpAny_bind (wpAny_field hos hds (x:=vu) rfl (wpAny_bind (wpAny_field hos hds (x:=.none) rfl (wpAny_pure ?_)))))))
 refine wpAny_bind (slicePart_none ?_)
 show wpAny _ _ (if ((1:Int) == 0)=true then _ else _) _ _ s
 rw[if_neg (by decide)]
 refine wpAny_bind (z9l pl (wpAny_bind (z9l pu (wpAny_bind (wpAny_pure ?_)))))
 show wpAny _ _ (match Builtin.Slice.sliceAdjust lo hi 1 (n:Int) with|(lo,hi)=>pure (lo,(1:Int),Builtin.Slice.slicePlaces lo hi 1)) _ _ s
 rw[y3m lo hi n]
 show wpAny _ _ (pure (((sIx n 0 lo:Nat):Int),(1:Int),Builtin.Slice.slicePlaces ((sIx n 0 lo:Nat):Int) ((sIx n n hi:Nat):Int) 1)) _ _ s
 rw[y3e]
 exact wpAny_pure h
theorem y5W(xs:Array Value)(i k:Nat):((List.range k).filterMap fun(m:Nat)=>xs[((i:Int)+(m:Int)*1).toNat]?).toArray=((xs.toList.drop i).take k).toArray:=by
 have e:(fun(m:Nat)=>xs[((i:Int)+(m:Int)*1).toNat]?)=fun m=>xs[i+m]? := by
  funext m
  have:((i:Int)+(m:Int)*1).toNat=i+m:=by lia
  rw[this]
 rw[e]
 have:=pick_run xs i k
 rw[List.filterMap_map] at this
 have e2:((fun x=>xs[x]?) ∘ fun x=>i+x)=fun m=>xs[i+m]? := rfl
 rw[e2] at this
 rw[this]
theorem z7f{t sl:Addr}{items:Array Value}{vl vu:Value}{lo hi:Option Int}{Q:Value->Shared->Prop}(ht:IsTup s.heap t items)(hs:s.heap.IsSliceOf sl vl vu .none)(pl:IsPart vl lo)(pu:IsPart vu hi)
  (hw:¬(sIx items.size 0 lo=0/\sIx items.size items.size hi=items.size))
  (h:Q (.ref s.heap.objs.size) { s with heap:=s.heap.push { cls:=.type "tuple",data:=.seq ((items.toList.drop (sIx items.size 0 lo)).take (sIx items.size items.size hi-sIx items.size 0 lo)).toArray } })
  (hsz:items.size≤sizeLine):wpAny (model prog w) A (getItem (.ref t) (.ref sl)) Q E s:=by
 have X1:sizeOk (.seq ((items.toList.drop (sIx items.size 0 lo)).take (sIx items.size items.size hi-sIx items.size 0 lo)).toArray):=by
  show((items.toList.drop (sIx items.size 0 lo)).take (sIx items.size items.size hi-sIx items.size 0 lo)).toArray.size≤sizeLine
  rw[bJ,bG,dA,gQ]
  lia
 have hj:sIx items.size items.size hi≤items.size:=y6S _ _ (bI _) hi
 obtain⟨os,hos,hcs,hds⟩:=id hs
 have hTs:s.TypeIs (.ref sl) "slice":=⟨os,hos,hcs⟩
 unfold getItem
 try with_reducible refine wpAny_holding ?_
 first|refine wpAny_bind (wpAny_pure ?_)|skip
 refine wpAny_bind (wpAny_sequenceKey ht.typeIs (by decide) ?_)
 refine wpAny_bind (wpAny_callSpecial?_slot (name:=Str.ofString "__getitem__") ht.typeIs dE
  (wpAny_call_entry dE ht.typeIs entry_tuple_getitem ?_ (args_tuple_getitem _ _)))
 show wpAny _ _ (Builtin.Tuple.tupleItemsOf (.ref t) >>= _) _ _ s
 refine wpAny_bind (tupleItemsOf_ ht ?_)
 refine wpAny_bind (wpAny_typeOf hTs ?_)
 rw[if_pos (by decide)]
 refine wpAny_bind (z4p hs pl pu ?_)
 have hno:¬((((sIx items.size 0 lo:Nat):Int) == 0 && (1:Int) == 1 && (sIx items.size items.size hi-sIx items.size 0 lo) == items.size)=true):=by
  intro q
  rw[cG,cG] at q
  have q1:((sIx items.size 0 lo:Nat):Int)=0:=eq_of_beq q.1.1
  have q2:sIx items.size items.size hi-sIx items.size 0 lo=items.size:=eq_of_beq q.2
  exact hw ⟨by lia,by lia⟩
 show wpAny _ _ (if (((sIx items.size 0 lo:Nat):Int) == 0 && (1:Int) == 1 && (sIx items.size items.size hi-sIx items.size 0 lo) == items.size)=true then _ else _) _ _ s
 rw[if_neg hno,y5W]
 first
  | exact wpAny_bind (m:=Builtin.Tuple.tupleExact _) (wpAny_newObj_type (wpAny_pure ⟨_,rfl,wpAny_pure h⟩) X1)
  | exact wpAny_bind (m:=Builtin.Tuple.tupleExact _) (wpAny_newObj_type (wpAny_bind (wpAny_pure (wpAny_pure ⟨_,rfl,wpAny_pure h⟩))) X1)
  | exact wpAny_bind (wpAny_bind (m:=Builtin.Tuple.tupleExact _) (wpAny_newObj_type (wpAny_pure (wpAny_pure ⟨_,rfl,wpAny_pure h⟩)) X1))
  | exact wpAny_bind (wpAny_bind (m:=Builtin.Tuple.tupleExact _) (wpAny_newObj_type (wpAny_pure ⟨_,rfl,wpAny_pure h⟩) X1))
end
end HT
namespace L2
open PySem PySem.Spec PyProof.Rows
abbrev TO:=St->Hp->(Option Int->Hp->Prop)->Prop
noncomputable def PO(X:Cx)(e:Option Expr)(t:TO):Prop:=
 ∀(pins:List (Addr×Obj)) (s:Shared) (σ:St) (H:Hp) (Q:Option Int->Hp->Prop),Inv X pins σ H s->t σ H Q->
  wpAny (model X.prog X.w) X.A (evalPart e X.env) (fun u s'=>∃o H',Inv X pins σ H' s'/\IsPart u o/\Q o H') X.xe s
noncomputable def y7x:TO:=fun _ H Q=>Q none H
noncomputable def w1g(t:TE):TO:=fun σ H Q=>t σ H fun x H1=>∃i,x=.int i/\Q (some i) H1
theorem y3d{ns:List Int}:∀{us:List Value},Vals (ns.map V.int) us->IntsAre us ns:=by
 induction ns with
 | nil=>intro us r;rw[List.map_nil] at r;cases r;exact .nil
 | cons n ns ih=>
  intro us r
  rw[cS] at r
  cases r with
  | cons r1 r2=>
   obtain⟨t,e⟩:=r1
   subst e
   exact .cons n t (ih r2)
section
variable{X:Cx}{e:Expr}{te:TE}{lo hi:Option Expr}{tl th:TO}{pos p2:Pos}
theorem z4G:PO X none y7x:=by
 intro pins s σ H Q I h
 rw[evalPart_none]
 exact wpAny_pure ⟨none,H,I,.none,h⟩
theorem z4M(h:PE X e te):PO X (some e) (w1g te):=by
 intro pins s σ H Q I hw
 rw[evalPart_some]
 refine thn (h pins s σ H _ I hw) fun u s1 hz=>?_
 obtain⟨x,H1,I1,r1,q1⟩:=hz
 obtain⟨i,rfl,q⟩:=q1
 obtain⟨t,rfl⟩:=r1
 exact⟨some i,H1,I1,.int i t,q⟩
noncomputable def SlR(X:Cx)(r:V->Option Int->Option Int->Hp->VK->Prop):Prop:=
 ∀(pins:List (Addr×Obj)) (s:Shared) (σ:St) (H:Hp) (x:V) (v vl vu:Value) (lo hi:Option Int) (sl:Addr) (Q:VK),Inv X pins σ H s->RelV x v->s.heap.IsSliceOf sl vl vu .none->IsPart vl lo->IsPart vu hi->r x lo hi H Q->
  ∃T id,typeLookup (.type T) "__getitem__"=pure (some (.builtin id))/\s.TypeIs v T/\wpAny (model X.prog X.w) X.A (getItem v (.ref sl)) (EP X pins σ Q) X.xe s
noncomputable def tSl(r:V->Option Int->Option Int->Hp->VK->Prop)(te:TE)(tl th:TO):TE:=fun σ H Q=>te σ H fun x H1=>tl σ H1 fun l H2=>th σ H2 fun u H3=>r x l u H3 Q
theorem z3n{r:V->Option Int->Option Int->Hp->VK->Prop}(hr:SlR X r)(he:PE X e te)(hl:PO X lo tl)(hu:PO X hi th):PE X (.Subscript e (.Slice lo hi none p2) pos) (tSl r te tl th):=by
 intro pins s σ H Q I h
 refine Subscript_ (thn (he pins s σ H _ I h) fun v s1 hz=>?_)
 obtain⟨x,H1,I1,r1,q1⟩:=hz
 refine wpAny_Slice (thn (hl pins s1 σ H1 _ I1 q1) fun vl s2 ⟨l,H2,I2,pl,q2⟩=>thn (hu pins s2 σ H2 _ I2 q2) fun vu s3 hz=>?_)
 obtain⟨u,H3,I3,pu,q3⟩:=hz
 rw[evalPart_none]
 refine wpAny_pure ?_
 have I4:Inv X pins σ H3 { s3 with heap:=s3.heap.push { cls:=.type "slice",data:=.fields #[vl,vu,.none] } }:=I3.kept (t':=s3.toks) fun b ob q=>bA _ q
 obtain⟨T,id,hT,ht,hg⟩:=hr pins { s3 with heap:=s3.heap.push { cls:=.type "slice",data:=.fields #[vl,vu,.none] } } σ H3 x v vl vu l u s3.heap.objs.size Q I4 r1 (Heap.IsSliceOf.new ..) pl pu q3
 show wpAny (model X.prog X.w) X.A (subscriptTail e (.Slice lo hi none p2) v (.ref s3.heap.objs.size)) (EP X pins σ Q) X.xe { s3 with heap:=s3.heap.push { cls:=.type "slice",data:=.fields #[vl,vu,.none] } }
 exact tail_any (ops:=[.ref s3.heap.objs.size,v]) ht hT hg (by with_unfolding_all rfl)
noncomputable def N7(xs:List V)(lo hi:Option Int):List V:=(xs.drop (HT.sIx xs.length 0 lo)).take (HT.sIx xs.length xs.length hi-HT.sIx xs.length 0 lo)
theorem z8x(xs:List V)(lo hi:Option Int):(N7 xs lo hi).length≤xs.length:=by
 unfold N7
 rw[bG,dA]
 lia
noncomputable def rSlT(K:PySem.W.Frag):V->Option Int->Option Int->Hp->VK->Prop:=fun x lo hi H Q=>∃a xs,x=.ref a/\SqT K H a xs/\
 ¬(HT.sIx xs.length 0 lo=0/\HT.sIx xs.length xs.length hi=xs.length)/\∀p,H p=none->Q (.ref p) (upd H p (.tup (N7 xs lo hi)))
theorem y6U:SlR X (rSlT X.K):=by
 intro pins s σ H x v vl vu lo hi sl Q I rx hs pl pu h
 obtain⟨a,xs,rfl,hx,hw,q⟩:=h
 cases rx
 obtain⟨its,r,ht,hz⟩:=I.tuple hx
 have hlen:its.toArray.size=xs.length:=by rw[bJ];exact r.length.symm
 refine⟨"tuple",_,dE.lookup,ht.typeIs,?_⟩
 refine HT.z7f ht hs pl pu (by rw[hlen];exact hw) ?_ (by rw[hlen];exact hz)
 rw[hlen]
 refine⟨.ref s.heap.objs.size,_,I.laid (t':=s.toks) (o:=.tup (N7 xs lo hi)) (fun b ob q=>bA _ q) (bI _) ?_,rfl,q _ (I.hok.fresh (bI _))⟩
 exact⟨cL (z8x xs lo hi) hz,_,(r.drop (HT.sIx xs.length 0 lo)).take (HT.sIx xs.length xs.length hi-HT.sIx xs.length 0 lo),PlT.new _ _⟩
noncomputable def y8x(K:PySem.W.Frag):R2:=fun x y H Q=>∃a b xs ys,x=.ref a/\y=.ref b/\SqT K H a xs/\SqT K H b ys/\xs≠[]/\xs.length+ys.length≤sizeLine/\
 (ys=[]->Q (.ref a) H)/\(ys≠[]->∀p,H p=none->Q (.ref p) (upd H p (.tup (xs++ys))))
theorem Vals.Q7{xs:List V}{us:List Value}(r:Vals xs us):us=[]↔xs=[]:=by
 cases r with
 | nil=>simp
 | cons _ _=>simp
theorem y78:OpR X (binaryOp .Add) (y8x X.K):=by
 intro pins s σ H x y v u Q I rx ry h
 obtain⟨a,b,xs,ys,rfl,rfl,ha,hb,hx,hz,q1,q2⟩:=h
 cases rx
 cases ry
 obtain⟨its,r1,p1,_⟩:=I.tuple ha
 obtain⟨M0,r2,p2,_⟩:=I.tuple hb
 refine HT.y4P p1 p2 (fun z=>hx (r1.Q7.mp z)) (fun z=>⟨.ref a,H,I,rfl,q1 (r2.Q7.mp z)⟩) (fun z=>?_) (by rw[<- r1.length,<- r2.length];exact hz)
 refine⟨.ref s.heap.objs.size,_,I.laid (t':=s.toks) (o:=.tup (xs++ys)) (fun b ob q=>bA _ q) (bI _) ?_,rfl,q2 (fun w=>z (r2.Q7.mpr w)) _ (I.hok.fresh (bI _))⟩
 exact⟨by rw[bN];exact hz,_,r1.append r2,PlT.new _ _⟩
end
noncomputable def ixN(n:Nat)(i:Int):Option Nat:=if 0≤i then (if i<n then some i.toNat else none) else if -(n:Int)≤i then some (i+n).toNat else none
noncomputable def atI{α:Type}(xs:List α)(i:Int):Option α:=(ixN xs.length i).bind fun j=>xs[j]?
theorem y3s{n:Nat}{i:Int}{j:Nat}(h:ixN n i=some j):seqIndex? i n=some j/\j<n/\-(n:Int)≤i/\i<n:=by
 unfold ixN at h
 by_cases h0:0≤i
 ·rw[if_pos h0] at h
  by_cases h1:i<n
  ·rw[if_pos h1] at h
   have e:i.toNat=j:=Option.some.inj h
   exact⟨by rw[seqIndex_of h0 h1,e],by lia,by lia,h1⟩
  ·rw[if_neg h1] at h;cases h
 ·rw[if_neg h0] at h
  by_cases h1:-(n:Int)≤i
  ·rw[if_pos h1] at h
   have e:(i+n).toNat=j:=Option.some.inj h
   exact⟨by rw[seqIndex_neg (by lia) h1,e],by lia,h1,by lia⟩
  ·rw[if_neg h1] at h;cases h
theorem y1h{α:Type}{xs:List α}{i:Int}{v:α}(h:atI xs i=some v):∃j,seqIndex? i xs.length=some j/\xs[j]? = some v/\j<xs.length/\-(xs.length:Int)≤i/\i<xs.length:=by
 unfold atI at h
 cases e:ixN xs.length i with
 | none=>rw[e] at h;cases h
 | some j=>
  rw[e] at h
  obtain⟨h1,h2,h3,h4⟩:=y3s e
  exact⟨j,h1,h,h2,h3,h4⟩
theorem z0R{α:Type}{xs:List α}{j:Nat}{v:α}(h:xs[j]? = some v):atI xs (j:Int)=some v:=by
 have hj:j<xs.length:=(bV.mp h).1
 have e:ixN xs.length (j:Int)=some j:=by
  unfold ixN
  rw[if_pos (by lia),if_pos (by lia)];simp
 unfold atI;rw[e];exact h
theorem y60{α:Type}(xs:List α)(v:α):atI (xs++[v]) (-1)=some v:=by
 have hl:(xs++[v]).length=xs.length+1:=by simp
 have e:ixN (xs++[v]).length (-1)=some xs.length:=by
  unfold ixN
  rw[hl,if_neg (by decide),if_pos (by lia)]
  congr 1
  lia
 unfold atI
 rw[e]
 show(xs++[v])[xs.length]? = some v
 simp
noncomputable def y7O(b:Expr):Prop:=∀o i,subscripted b false o i=operate [o,i] (getItem o i)
noncomputable def IxR(X:Cx)(r:R2):Prop:=
 ∀(value slice:Expr) (pins:List (Addr×Obj)) (s:Shared) (σ:St) (H:Hp) (x y:V) (v u:Value) (Q:VK),Inv X pins σ H s->RelV x v->RelV y u->r x y H Q->
  subscripted slice false v u=operate [v,u] (getItem v u)->wpAny (model X.prog X.w) X.A (subscriptTail value slice v u) (EP X pins σ Q) X.xe s
noncomputable def MtR(X:Cx)(id:String)(r:V->List V->Hp->VK->Prop):Prop:=
 ∀(pins:List (Addr×Obj)) (s:Shared) (σ:St) (H:Hp) (x:V) (xs:List V) (v:Value) (us:List Value) (Q:VK),Inv X pins σ H s->RelV x v->Vals xs us->r x xs H Q->
  wpAny (model X.prog X.w) X.A (call (.builtin id) (v::us)) (EP X pins σ Q) X.xe s
section
variable{X:Cx}{a b:Expr}{ta tb:TE}{pos:Pos}
theorem IxR.or{r r':R2}(h:IxR X r)(h':IxR X r'):IxR X (fun x y H Q=>r x y H Q\/r' x y H Q):=by
 intro value slice pins s σ H x y v u Q I rx ry q hs
 rcases q with q|q
 ·exact h value slice pins s σ H x y v u Q I rx ry q hs
 ·exact h' value slice pins s σ H x y v u Q I rx ry q hs
theorem z0B{r:R2}(hr:IxR X r)(ha:PE X a ta)(hb:PE X b tb)(hs:y7O b):PE X (.Subscript a b pos) (tOp r ta tb):=by
 intro pins s σ H Q I h
 exact Subscript_ (w0J ha hb I h fun v u s2 x y H2 I2 rx ry q=>hr a b pins s2 σ H2 x y v u Q I2 rx ry q (hs _ _))
noncomputable def w0j(K:PySem.W.Frag):R2:=fun x y H Q=>∃p xs i v,x=.ref p/\y=.int i/\SqL K H p xs/\atI xs i=some v/\Q v H
noncomputable def P2(K:PySem.W.Frag):R2:=fun x y H Q=>∃p xs i v,x=.ref p/\y=.int i/\SqT K H p xs/\atI xs i=some v/\Q v H
noncomputable def rIxS:R2:=fun x y H Q=>∃z i c,x=.str z/\y=.int i/\z.length≤sizeLine/\atI z.cps.toList i=some c/\Q (.str ⟨#[c]⟩) H
theorem z0Y:IxR X (w0j X.K):=by
 intro value slice pins s σ H x y v u Q I rx ry h hs
 obtain⟨p,xs,i,z,rfl,rfl,hq,he,q⟩:=h
 cases rx
 obtain⟨t,rfl⟩:=ry
 obtain⟨its,r,pl,hz⟩:=I.list hq
 obtain⟨j,h1,h2,h3,h4,h5⟩:=y1h he
 obtain⟨w,ew,rw'⟩:=r.get h2
 have hl:=r.length
 have hn:=z6n
 have fin:EP X pins σ Q w s:=⟨z,H,I,rw',q⟩
 by_cases h0:0≤i
 ·have hj:i.toNat=j:=by
   rw[seqIndex_of h0 h5] at h1
   exact Option.some.inj h1
  exact item_listR pl.isList h0 (by lia) (by rw[hj];simpa using ew) fin hs
 ·have hj:(i+(its.toArray.size:Int)).toNat=j:=by
   rw[seqIndex_neg (by lia) h4] at h1
   rw[bJ,<- hl]
   exact Option.some.inj h1
  exact subscriptTail_builtinR (x:=w) pl.isList.typeIs slot_list_getitem.lookup
   (wpAny_getItem_list_neg (Q:=fun r s'=>r=w/\EP X pins σ Q r s') pl.isList (by lia) (by rw[bJ]<;>lia) (by lia) (by rw[hj];simpa using ew) ⟨rfl,fin⟩) hs
theorem z0C:IxR X (P2 X.K):=by
 intro value slice pins s σ H x y v u Q I rx ry h hs
 obtain⟨p,xs,i,z,rfl,rfl,hq,he,q⟩:=h
 cases rx
 obtain⟨t,rfl⟩:=ry
 obtain⟨its,r,pl,hz⟩:=I.tuple hq
 obtain⟨j,h1,h2,h3,h4,h5⟩:=y1h he
 obtain⟨w,ew,rw'⟩:=r.get h2
 have hl:=r.length
 have hn:=z6n
 have fin:EP X pins σ Q w s:=⟨z,H,I,rw',q⟩
 exact subscriptTail_builtinR (x:=w) pl.typeIs slot_tuple_getitem.lookup
  (getItem_tuple (j:=j) (Q:=fun r s'=>r=w/\EP X pins σ Q r s') pl (by lia) (by lia) (by rw[bJ,<- hl];exact h1) (by simpa using ew) ⟨rfl,fin⟩) hs
theorem y4A:IxR X rIxS:=by
 intro value slice pins s σ H x y v u Q I rx ry h hs
 obtain⟨z,i,c,rfl,rfl,hz,he,q⟩:=h
 obtain⟨t,rfl⟩:=rx
 obtain⟨t',rfl⟩:=ry
 obtain⟨j,h1,h2,h3,h4,h5⟩:=y1h he
 have hl:z.cps.toList.length=z.length:=by simp[Str.length]
 rw[hl] at h1 h4 h5
 have hn:=z6n
 exact tail_any (typeIs_str s z t) slot_str_getitem.lookup (getItem_str (c:=c) (by
  have e1:decide (i < -(2^63:Int))=false:=decide_eq_false (by lia)
  have e2:decide (i≥2^63)=false:=decide_eq_false (by lia)
  rw[e1,e2,Bool.or_false]) (by rw[h1];simpa using h2) ⟨.str ⟨#[c]⟩,H,I.tok _,⟨_,rfl⟩,q⟩) hs
noncomputable def rIx(K:PySem.W.Frag):R2:=fun x y H Q=>w0j K x y H Q\/P2 K x y H Q\/rIxS x y H Q
theorem y8D:IxR X (rIx X.K):=z0Y.or (z0C.or y4A)
theorem y2U(its:List Value)(n j:Nat)(u:Value):Obj.mapSeq (·.setIfInBounds j u) { cls:=.type "list",data:=.seq its.toArray n }={ cls:=.type "list",data:=.seq (its.set j u).toArray n }:=by
 simp[Obj.mapSeq]
theorem Inv.lst{pins:List (Addr×Obj)}{σ:St}{H:Hp}{s:Shared}{p:Addr}{xs:List V}(I:Inv X pins σ H s)(h:H p=some (.lst xs)) :
  ∃(its:List Value) (n:Nat),Vals xs its/\s.heap.get? p=some { cls:=.type "list",data:=.seq its.toArray n }/\xs.length≤sizeLine:=by
 obtain⟨z,its,n,r,e⟩:=I.hok p _ h
 exact⟨its,n,r,e,z⟩
theorem Inv.w0u{pins:List (Addr×Obj)}{σ:St}{H:Hp}{s:Shared}{p:Addr}{xs ys:List V}{its its':List Value}{n n':Nat}{f:Obj->Obj}(I:Inv X pins σ H s)(h:H p=some (.lst xs))
  (ho:s.heap.get? p=some { cls:=.type "list",data:=.seq its.toArray n }) (hf:f { cls:=.type "list",data:=.seq its.toArray n }={ cls:=.type "list",data:=.seq its'.toArray n' }) (r:Vals ys its') (hz:ys.length≤sizeLine) (t:Nat) :
  Inv X pins σ (upd H p (.lst ys)) { s with heap:=s.heap.update p f,toks:=t }:=by
 have e:(s.heap.update p f).get? p=some { cls:=.type "list",data:=.seq its'.toArray n' }:=by
  rw[dQ f ho (by rw[hf]<;>rfl),hf]
 refine I.write (x:=p) (e:=p) (by rw[h];trivial) (.inl rfl) (fun b u hb q=>(cW _ _ (dC hb)).trans q) ⟨_,e⟩ ?_
 exact⟨hz,its',n',r,e⟩
noncomputable def w1h:V->V->V->Hp->(Hp->Prop)->Prop:=fun o i v H Q=>∃p xs k j,o=.ref p/\i=.int k/\H p=some (.lst xs)/\ixN xs.length k=some j/\Q (upd H p (.lst (xs.set j v)))
theorem y2e:PSet X w1h:=by
 intro pins s σ H o i v ov iv u Q I ro ri rv h
 obtain⟨p,xs,k,j,rfl,rfl,hp,hj,q⟩:=h
 cases ro
 obtain⟨t,rfl⟩:=ri
 obtain⟨its,n,r,ho,hz⟩:=I.lst hp
 obtain⟨h1,h2,h3,h4⟩:=y3s hj
 have hl:=r.length
 have hn:=z6n
 have I':Inv X pins σ (upd H p (.lst (xs.set j v))) { s with heap:=s.heap.update p (Obj.mapSeq (·.setIfInBounds j u)) }:=
  I.w0u hp ho (y2U its n j u) (r.set rv j) (by rw[List.length_set];exact hz) s.toks
 by_cases h0:0≤k
 ·have hk:k.toNat=j:=by
   rw[seqIndex_of h0 h4] at h1
   exact Option.some.inj h1
  exact PySem.W.ki_setAt ho h0 (by lia) (by rw[bJ,<- hl];exact h4) (by rw[hk];exact⟨_,I',q⟩)
 ·have hk:(k+(its.toArray.size:Int)).toNat=j:=by
   rw[seqIndex_neg (by lia) h3] at h1
   rw[bJ,<- hl]
   exact Option.some.inj h1
  exact PySem.W.ki_setBack ho (by lia) (by rw[bJ,<- hl];exact h3) (by lia) (by rw[hk];exact⟨_,I',q⟩)
theorem z7x(lo hi:Option Int)(n:Nat):(sliceBounds lo hi none n).1=((HT.sIx n 0 lo:Nat):Int)/\(sliceBounds lo hi none n).2.1=((HT.sIx n n hi:Nat):Int)/\(sliceBounds lo hi none n).2.2=1:=by
 refine⟨?_,?_,rfl⟩
 ·cases lo with
  | none=>simp[sliceBounds,HT.sIx]
  | some i=>
   simp only[sliceBounds,HT.sIx,Option.getD_none,show(1:Int) > 0 by decide,if_true]
   by_cases h:i<0
   ·simp only[h,if_true]<;>lia
   ·simp only[h,if_false]<;>lia
 ·cases hi with
  | none=>simp[sliceBounds,HT.sIx]
  | some i=>
   simp only[sliceBounds,HT.sIx,Option.getD_none,show(1:Int) > 0 by decide,if_true]
   by_cases h:i<0
   ·simp only[h,if_true]<;>lia
   ·simp only[h,if_false]<;>lia
theorem y0g(its:List Value)(lo hi:Option Int):slicePick its.toArray lo hi none=((its.drop (HT.sIx its.length 0 lo)).take (HT.sIx its.length its.length hi-HT.sIx its.length 0 lo)).toArray:=by
 obtain⟨h1,h2,h3⟩:=z7x lo hi its.toArray.size
 unfold slicePick
 rw[h1,h2,h3]
 simp only[sliceRange_one,pick_run,bJ]<;>rfl
noncomputable def rSlL(K:PySem.W.Frag):V->Option Int->Option Int->Hp->VK->Prop:=fun x lo hi H Q=>∃a xs,x=.ref a/\SqL K H a xs/\∀p,H p=none->Q (.ref p) (upd H p (.lst (N7 xs lo hi)))
theorem y3N:SlR X (rSlL X.K):=by
 intro pins s σ H x v vl vu lo hi sl Q I rx hs pl pu h
 obtain⟨a,xs,rfl,hx,q⟩:=h
 cases rx
 obtain⟨its,r,ht,hz⟩:=I.list hx
 have hlen:=r.length
 refine⟨"list",_,slot_list_getitem.lookup,ht.isList.typeIs,?_⟩
 refine wpAny_getItem_list_slice ht.isList hs pl pu .none (by simp) ?_ (by rw[bJ]<;>lia)
 rw[y0g,<- hlen]
 refine⟨.ref s.heap.objs.size,_,I.laid (t':=s.toks) (o:=.lst (N7 xs lo hi)) (fun b ob q=>bA _ q) (bI _) ?_,rfl,q _ (I.hok.fresh (bI _))⟩
 exact⟨cL (z8x xs lo hi) hz,_,0,(r.drop (HT.sIx xs.length 0 lo)).take (HT.sIx xs.length xs.length hi-HT.sIx xs.length 0 lo),bL _ rfl⟩
noncomputable def z2i:V->Bool
 | .non=>true
 | .bl _=>true
 | .int _=>true
 | .str _=>true
 | _=>false
noncomputable def eqV:V->V->Bool
 | .non,.non=>true
 | .bl a,.bl b=>a == b
 | .bl a,.int b=>(if a then 1 else 0) == b
 | .int a,.bl b=>a == (if b then 1 else 0)
 | .int a,.int b=>a == b
 | .str a,.str b=>a == b
 | _,_=>false
theorem y4i{A:Around}{s:Shared}{y x:V}{u v:Value}(ry:RelV y u)(rx:RelV x v)(fy:z2i y=true)(fx:z2i x=true):SeqAt.EqAt A s u v (eqV y x):=by
 cases y with
 | non=>
  cases ry
  cases x with
  | non=>cases rx;exact SeqAt.EqAt.same _
  | bl b=>cases rx;exact SeqAt.EqAt.none_bool b
  | int b=>obtain⟨t,rfl⟩:=rx;exact SeqAt.EqAt.none_int b t
  | str b=>obtain⟨t,rfl⟩:=rx;exact SeqAt.EqAt.none_str b t
  | _=>exact absurd (show false=true from fx) bM
 | bl a=>
  cases ry
  cases x with
  | non=>cases rx;exact SeqAt.EqAt.bool_none a
  | bl b=>cases rx;exact SeqAt.EqAt.bool_bool a b
  | int b=>obtain⟨t,rfl⟩:=rx;exact SeqAt.EqAt.bool_int a b t
  | str b=>obtain⟨t,rfl⟩:=rx;exact SeqAt.EqAt.bool_str a b t
  | _=>exact absurd (show false=true from fx) bM
 | int a=>
  obtain⟨t',rfl⟩:=ry
  cases x with
  | non=>cases rx;exact SeqAt.EqAt.int_none a t'
  | bl b=>cases rx;exact SeqAt.EqAt.int_bool a t' b
  | int b=>obtain⟨t,rfl⟩:=rx;exact SeqAt.EqAt.int_int a t' b t
  | str b=>obtain⟨t,rfl⟩:=rx;exact SeqAt.EqAt.int_str a t' b t
  | _=>exact absurd (show false=true from fx) bM
 | str a=>
  obtain⟨t',rfl⟩:=ry
  cases x with
  | non=>cases rx;exact SeqAt.EqAt.str_none a t'
  | bl b=>cases rx;exact SeqAt.EqAt.str_bool a t' b
  | int b=>obtain⟨t,rfl⟩:=rx;exact SeqAt.EqAt.str_int a t' b t
  | str b=>obtain⟨t,rfl⟩:=rx;exact SeqAt.EqAt.str_str a t' b t
  | _=>exact absurd (show false=true from fx) bM
 | _=>exact absurd (show false=true from fy) bM
noncomputable def eqU(x:V)(u:Value):Bool:=match u with
 | .none=>eqV .non x
 | .bool b=>eqV (.bl b) x
 | .int i _=>eqV (.int i) x
 | .str z _=>eqV (.str z) x
 | _=>false
theorem y2a{x y:V}{u:Value}(r:RelV y u)(f:z2i y=true):eqU x u=eqV y x:=by
 cases y with
 | non=>cases r;rfl
 | bl b=>cases r;rfl
 | int i=>obtain⟨t,rfl⟩:=r;rfl
 | str z=>obtain⟨t,rfl⟩:=r;rfl
 | _=>exact absurd (show false=true from f) bM
theorem z8s{x:V}:∀{xs:List V}{us:List Value},Vals xs us->xs.all z2i=true->us.any (eqU x)=xs.any fun y=>eqV y x
 | _,_,.nil,_=>rfl
 | y::xs,u::us,.cons r t,f=>by
  rw[fW,cG] at f
  rw[fX,fX,y2a r f.1,z8s t f.2]
theorem z57{A:Around}{s:Shared}{x:V}{v:Value}(rx:RelV x v)(fx:z2i x=true):∀{xs:List V}{us:List Value},Vals xs us->xs.all z2i=true->∀u∈us,SeqAt.EqAt A s u v (eqU x u)
 | _,_,.nil,_=>fun u hu=>by cases hu
 | y::xs,u::us,.cons r t,f=>fun u' hu=>by
  rw[fW,cG] at f
  rcases bE.mp hu with rfl|hu
  ·rw[y2a r f.1];exact y4i r rx f.1 fx
  ·exact z57 rx fx t f.2 u' hu
noncomputable def inV(x:V)(xs:List V):Bool:=xs.any fun y=>eqV y x
noncomputable def rIn(K:PySem.W.Frag)(neg:Bool):R2:=fun x y H Q=>∃p xs,y=.ref p/\(SqL K H p xs\/SqT K H p xs)/\z2i x=true/\xs.all z2i=true/\Q (.bl (if neg then !inV x xs else inV x xs)) H
theorem z3W:OpR X (compareOp .In) (rIn X.K false):=by
 intro pins s σ H x y v u Q I rx ry h
 obtain⟨p,xs,rfl,hq,fx,fs,q⟩:=h
 cases ry
 rcases hq with hq|hq
 ·obtain⟨its,r,pl,hz⟩:=I.list hq
  refine SeqAt.in_listAt (eqU x) pl.isList (fun w hw=>z57 rx fx r fs w (by simpa using hw)) ⟨.bl _,H,I,rfl,?_⟩
  rw[show its.toArray.any (eqU x)=its.any (eqU x) by simp,z8s r fs]
  exact q
 ·obtain⟨its,r,pl,hz⟩:=I.tuple hq
  refine SeqAt.in_tupleAt (eqU x) pl (fun w hw=>z57 rx fx r fs w (by simpa using hw)) ⟨.bl _,H,I,rfl,?_⟩
  rw[show its.toArray.any (eqU x)=its.any (eqU x) by simp,z8s r fs]
  exact q
theorem z1x:OpR X (compareOp .NotIn) (rIn X.K true):=by
 intro pins s σ H x y v u Q I rx ry h
 obtain⟨p,xs,rfl,hq,fx,fs,q⟩:=h
 cases ry
 rcases hq with hq|hq
 ·obtain⟨its,r,pl,hz⟩:=I.list hq
  refine SeqAt.notIn_listAt (eqU x) pl.isList (fun w hw=>z57 rx fx r fs w (by simpa using hw)) ⟨.bl _,H,I,rfl,?_⟩
  rw[show its.toArray.any (eqU x)=its.any (eqU x) by simp,z8s r fs]
  exact q
 ·obtain⟨its,r,pl,hz⟩:=I.tuple hq
  refine SeqAt.notIn_tupleAt (eqU x) pl (fun w hw=>z57 rx fx r fs w (by simpa using hw)) ⟨.bl _,H,I,rfl,?_⟩
  rw[show its.toArray.any (eqU x)=its.any (eqU x) by simp,z8s r fs]
  exact q
theorem z09:z3K X (.builtin "len") (fun xs H Q=>∃p ys,xs=[.ref p]/\(SqL X.K H p ys\/SqT X.K H p ys)/\Q (.int ys.length) H):=by
 intro pins s σ H xs us Q I r h
 obtain⟨p,ys,rfl,hq,q⟩:=h
 obtain⟨u,rfl,rx⟩:=z4F r
 cases rx
 have hn:=z6n
 rcases hq with hq|hq
 ·obtain⟨its,r',pl,hz⟩:=I.list hq
  have hlen:=r'.length
  exact Calls.call_len_list pl.isList (by simp only[bJ]<;>lia) ⟨.int ys.length,H,I.tok _,⟨s.toks+1,by rw[bJ,hlen]⟩,q⟩
 ·obtain⟨its,r',pl,hz⟩:=I.tuple hq
  have hlen:=r'.length
  exact len_tuple pl (by simp only[bJ]<;>lia) ⟨.int ys.length,H,I.tok _,⟨s.toks+1,by rw[bJ,hlen]⟩,q⟩
theorem y0X:z3K X (.builtin "len") (fun xs H Q=>∃z,xs=[.str z]/\z.length≤sizeLine/\Q (.int z.length) H):=by
 intro pins s σ H xs us Q I r h
 obtain⟨z,rfl,hz,q⟩:=h
 obtain⟨u,rfl,t,rfl⟩:=z4F r
 have hn:=z6n
 exact len_str (by lia) ⟨.int z.length,H,I.tok _,⟨_,rfl⟩,q⟩
theorem z4N:z3K X (.type "list") (fun xs H Q=>∃p ys,xs=[.ref p]/\(SqL X.K H p ys\/SqT X.K H p ys)/\∀l,H l=none->Q (.ref l) (upd H l (.lst ys))):=by
 intro pins s σ H xs us Q I r h
 obtain⟨p,ys,rfl,hq,q⟩:=h
 obtain⟨u,rfl,rx⟩:=z4F r
 cases rx
 have fin:∀(its:List Value),Vals ys its->ys.length≤sizeLine->∀(h':Heap) (c':Nat),(∀b o',s.heap.get? b=some o'->h'.get? b=some o')->
   h'.get? s.heap.objs.size=some { cls:=.type "list",dict:=none,data:=.seq its.toArray c',slots:=#[] }->EP X pins σ Q (.ref s.heap.objs.size) { s with heap:=h' }:=fun its r' hz h' c' kp e=>
  ⟨.ref s.heap.objs.size,_,I.laid (t':=s.toks) kp (bI _) (show z1C X.prog X.w _ h' _ (.lst ys) from⟨hz,its,c',r',e⟩),rfl,q _ (I.hok.fresh (bI _))⟩
 rcases hq with hq|hq
 ·obtain⟨its,r',pl,hz⟩:=I.list hq
  have hlen:=r'.length
  obtain⟨o,ho,hc,n,hd⟩:=pl.isList
  exact call_list_seq p (.inl rfl) ho hc hd (fun h' c' kp e=>fin its r' hz h' c' kp e) (by simp only[bJ]<;>lia)
 ·obtain⟨its,r',pl,hz⟩:=I.tuple hq
  have hlen:=r'.length
  obtain⟨o,ho,hc,n,hd⟩:=pl
  exact call_list_seq p (.inr rfl) ho hc hd (fun h' c' kp e=>fin its r' hz h' c' kp e) (by simp only[bJ]<;>lia)
theorem z0m:z3K X (.type "tuple") (fun xs H Q=>∃p ys,xs=[.ref p]/\((SqL X.K H p ys/\∀l,H l=none->Q (.ref l) (upd H l (.tup ys)))\/(SqT X.K H p ys/\Q (.ref p) H))):=by
 intro pins s σ H xs us Q I r h
 obtain⟨p,ys,rfl,h⟩:=h
 obtain⟨u,rfl,rx⟩:=z4F r
 cases rx
 rcases h with ⟨hq,q⟩|⟨hq,q⟩
 ·obtain⟨its,r',pl,hz⟩:=I.list hq
  have hlen:=r'.length
  refine call_tuple_list pl.isList (fun h' kp=>?_) (by simp only[bJ]<;>lia)
  have I1:Inv X pins σ H { s with heap:=h' }:=I.kept (t':=s.toks) kp
  have I2:Inv X pins σ (upd H h'.objs.size (.tup ys)) { s with heap:=h'.push { cls:=.type "tuple",data:=.seq its.toArray } }:=
   I1.laid (t':=s.toks) (fun b o e=>bA _ e) (bI _) (show z1C X.prog X.w _ _ _ (.tup ys) from⟨hz,its,r',PlT.new _ _⟩)
  exact⟨.ref h'.objs.size,_,I2,rfl,q _ (I1.hok.fresh (bI _))⟩
 ·obtain⟨its,r',pl,hz⟩:=I.tuple hq
  exact call_tuple_same pl ⟨.ref p,H,I,rfl,q⟩
noncomputable def tyV(K:PySem.W.Frag)(T:String)(x:V)(H:Hp):Prop:=match x with
 | .str _=>T="str"
 | .int _=>T="int"
 | .ref p=>(T="list"/\∃xs,SqL K H p xs)\/(T="tuple"/\∃o,K.lookup p=some o/\o.cls=.type "tuple"/\o.dict=none)\/
   (T="dict"/\((∃kvs,H p=some (.dK kvs))\/∃kvs,H p=some (.dT kvs)))\/(T="set"/\∃S n,H p=some (.set S n))
 | _=>False
theorem y8u{pins:List (Addr×Obj)}{σ:St}{H:Hp}{s:Shared}{T:String}{x:V}{v:Value}(I:Inv X pins σ H s)(r:RelV x v)(ty:tyV X.K T x H) :
  s.TypeIs v T/\∀a,v=.ref a->∃ob,s.heap.get? a=some ob/\ob.dict=none:=by
 cases x with
 | str z=>
  obtain⟨t,rfl⟩:=r
  cases (show T="str" from ty)
  exact⟨typeIs_str s z t,fun _ e=>nomatch e⟩
 | int i=>
  obtain⟨t,rfl⟩:=r
  cases (show T="int" from ty)
  exact⟨typeIs_int s i t,fun _ e=>nomatch e⟩
 | ref p=>
  cases r
  rcases ty with ⟨rfl,xs,hq⟩|⟨rfl,o,hk,hc,hd⟩|⟨rfl,hk⟩|⟨rfl,S,n,hk⟩
  ·obtain⟨its,_,pl,_⟩:=I.list hq
   refine⟨pl.isList.typeIs,fun a e=>?_⟩
   cases e
   obtain⟨o,n,e,c,hd,_⟩:=pl
   exact⟨o,e,hd⟩
  ·refine⟨⟨o,I.kIn p o hk,hc⟩,fun a e=>?_⟩
   cases e
   exact⟨o,I.kIn _ o hk,hd⟩
  ·have z:∃o,s.heap.get? p=some o/\o.ExactDict:=by
    rcases hk with ⟨kvs,hk⟩|⟨kvs,hk⟩
    ·obtain⟨_,_,_,_,o,_,_,e,ex,_⟩:=I.hok p _ hk
     exact⟨o,e,ex⟩
    ·obtain⟨_,_,_,_,o,_,_,e,ex,_⟩:=I.hok p _ hk
     exact⟨o,e,ex⟩
   obtain⟨o,e,ex⟩:=z
   refine⟨⟨o,e,ex.1⟩,fun a e2=>?_⟩
   cases e2
   exact⟨o,e,ex.2.1⟩
  ·obtain⟨o,_,_,_,e,ex,_⟩:=I.hok p _ hk
   refine⟨⟨o,e,ex.1⟩,fun a e2=>?_⟩
   cases e2
   exact⟨o,e,ex.2.1⟩
 | _=>exact False.elim ty
noncomputable def tBM(K:PySem.W.Frag)(T:String)(r:V->List V->Hp->VK->Prop)(to:TE)(t:TA):TE:=fun σ H Q=>to σ H fun x H1=>tyV K T x H1/\t σ H1 fun xs H2=>r x xs H2 Q
variable{o e:Expr}{es:List Expr}{to:TE}{t:TA}{name:Str}{apos U6:Pos}{T id:String}{r:V->List V->Hp->VK->Prop}
theorem z2O(pa:PlainAttrs T)(slot:Slot T name id)(hty:typeOf (.builtin id)=pure (.type "method_descriptor"))(hm:MtR X id r)(ho:PE X o to)(ha:PA X (e::es) t)
  (w0W:attributeBase o name X.env (eval o X.env)=eval o X.env:=by rfl)
  (hfew:((backTo U6 (starEach (e::es) X.env)).all (fun x=>!x.1) && (backToKw U6 (keywordEach [] X.env)).all (fun x=>x.1.isSome)
   && decide ((e::es).length+([]:List Keyword).length+(if ([]:List Keyword).isEmpty then 0 else 1)<30))=true:=by rfl)
  (w19:(apos.endLine == U6.line)=true:=by rfl) (hs:starEach (e::es) X.env=(false,eval e X.env)::starEach es X.env:=by rfl) (S4:(backTo U6 (starEach es X.env)).any (·.1)=false:=by rfl) :
  PE X (.Call (.Attribute o name apos) (e::es) [] U6) (tBM X.K T r to t):=by
 intro pins s σ H Q I h
 refine wpAny_Call_method_late w0W hfew w19 rfl (thn (ho pins s σ H _ I h) fun v s1 hz=>?_)
 obtain⟨x,H1,I1,r1,ty,q1⟩:=hz
 obtain⟨h1,h2⟩:=y8u I1 r1 ty
 refine⟨T,id,pa,slot,hty,h1,h2,?_⟩
 have hA:=ha U6 pins s1 σ H1 _ I1 q1
 rw[hs] at hA ⊢
 refine Calls.callWith_builtin (by show(false || (backTo U6 (starEach es X.env)).any (·.1))=false;rw[S4]<;>rfl) (Calls.evalArgs_plain ?_)
 exact thn hA fun us s2 ⟨vs,H2,I2,r2,q2⟩=>hm pins s2 σ H2 x vs v us Q I2 r1 r2 q2
end
noncomputable def MtM(X:Cx)(id:String)(r:V->List V->Hp->VK->Prop):Prop:=
 ∀(pins:List (Addr×Obj)) (s:Shared) (σ:St) (H:Hp) (x:V) (xs:List V) (v:Value) (us:List Value) (Q:VK),Inv X pins σ H s->RelV x v->Vals xs us->r x xs H Q->
  wpAny (model X.prog X.w) X.A (call (.builtin id) (v::us)) (EP X pins σ Q) X.xe s
theorem Vals.one:∀{x:V}{us:List Value},Vals [x] us->∃u,us=[u]/\RelV x u
 | _,_,.cons r .nil=>⟨_,rfl,r⟩
theorem Vals.two:∀{x y:V}{us:List Value},Vals [x,y] us->∃u v,us=[u,v]/\RelV x u/\RelV y v
 | _,_,_,.cons r (.cons q .nil)=>⟨_,_,rfl,r,q⟩
theorem Vals.dropLast{xs:List V}{us:List Value}(h:Vals xs us):Vals xs.dropLast us.dropLast:=by
 induction h with
 | nil=>exact .nil
 | cons r t ih=>
  cases t with
  | nil=>exact .nil
  | cons q t'=>exact .cons r ih
section
variable{X:Cx}{pins:List (Addr×Obj)}{σ:St}{H:Hp}{s:Shared}{l b:Addr}{xs ys zs:List V}
theorem Inv.w0d{its its':List Value}{n:Nat}{f:Array Value->Array Value}{t':Nat}(I:Inv X pins σ H s)(hH:H l=some (.lst xs))
  (e:s.heap.get? l=some { cls:=.type "list",data:=.seq its.toArray n }) (hf:f its.toArray=its'.toArray) (hv:Vals ys its') (hz:ys.length≤sizeLine) :
  Inv X pins σ (upd H l (.lst ys)) { s with heap:=s.heap.update l (Obj.mapSeq f),toks:=t' }:=by
 have q:=PySem.IsL.update e f
 rw[hf] at q
 refine I.write (x:=l) (e:=l) (by rw[hH];exact trivial) (.inl rfl) (fun b' u hb hu=>(cW s.heap (Obj.mapSeq f) (dC hb)).trans hu) ⟨_,q⟩ ?_
 exact⟨hz,its',_,hv,q⟩
theorem Inv.lnew{its:List Value}{t':Nat}(I:Inv X pins σ H s)(hv:Vals ys its)(hz:ys.length≤sizeLine) :
  Inv X pins σ (upd H s.heap.objs.size (.lst ys)) { s with heap:=s.heap.push { cls:=.type "list",data:=.seq its.toArray },toks:=t' }:=
 I.laid (fun _ _ q=>bA _ q) (bI _) ⟨hz,its,0,hv,bL _ rfl⟩
theorem Inv.fresh(I:Inv X pins σ H s):H s.heap.objs.size=none:=I.hok.fresh (bI _)
theorem Inv.Y1(I:Inv X pins σ H s)(hH:H l=some (.lst xs)):xs.length≤sizeLine/\∃(its:List Value) (n:Nat),Vals xs its/\xs.length=its.length/\s.heap.get? l=some { cls:=.type "list",data:=.seq its.toArray n }:=by
 obtain⟨z,its,n,r,e⟩:=I.hok l _ hH
 exact⟨z,its,n,r,r.length,e⟩
theorem y5R{n:Nat}(h:n≤sizeLine):Builtin.List.listTooLong n=false:=by
 unfold Builtin.List.listTooLong
 exact decide_eq_false (by lia)
end
section
variable{X:Cx}
noncomputable def y7P:V->List V->Hp->VK->Prop:=fun x vs H Q=>∃l xs y,x=.ref l/\vs=[y]/\H l=some (.lst xs)/\xs.length<sizeLine/\Q .non (upd H l (.lst (xs++[y])))
theorem z0Q:MtM X "list.append" y7P:=by
 intro pins s σ H x vs v us Q I rx rv h
 obtain⟨l,xs,y,rfl,rfl,hH,hz,q⟩:=h
 cases rx
 obtain⟨u,rfl,ru⟩:=rv.one
 obtain⟨z,its,n,r,hl,e⟩:=I.Y1 hH
 refine call_meets F.slot_list_append ⟨_,e,rfl⟩ F.entry_list_append (F.args_list_append_2 _ _) (PySem.list_append l its.toArray n u (by rw[bJ];lia)) ⟨e,?_⟩
 refine⟨.non,_,I.w0d (its':=its++[u]) hH e (by simp) (r.append (.cons ru .nil)) ?_,rfl,q⟩
 rw[bN,eM]
 lia
noncomputable def y7X:V->List V->Hp->VK->Prop:=fun x vs H Q=>∃l b xs zs,x=.ref l/\vs=[.ref b]/\H l=some (.lst xs)/\H b=some (.lst zs)/\xs.length+zs.length≤sizeLine/\Q .non (upd H l (.lst (xs++zs)))
theorem y8S:MtM X "list.extend" y7X:=by
 intro pins s σ H x vs v us Q I rx rv h
 obtain⟨l,b,xs,zs,rfl,rfl,hH,hB,hz,q⟩:=h
 cases rx
 obtain⟨u,rfl,ru⟩:=rv.one
 cases ru
 obtain⟨z,its,n,r,hl,e⟩:=I.Y1 hH
 obtain⟨z2,M0,n2,r2,hl2,e2⟩:=I.Y1 hB
 have hsz:its.toArray.size+M0.toArray.size≤sizeLine:=by rw[bJ,bJ];lia
 have w1k:¬(!its.toArray.isEmpty && Builtin.List.listTooLong (its.toArray.size+M0.toArray.size))=true:=by
  rw[y5R hsz,Bool.and_false]
  exact bM
 refine call_meets F.slot_list_extend ⟨_,e,rfl⟩ F.entry_list_extend (F.args_list_extend_2 _ _)
  (AutoSeq1.list_extend_list_list_0 l its.toArray n b M0.toArray n2 w1k (by rw[bJ];lia) (by lia)) ⟨e,e2,?_⟩
 refine⟨.non,_,I.w0d (its':=its++M0) hH e (by simp) (r.append r2) ?_,rfl,q⟩
 rw[bN]
 lia
noncomputable def rCat:R2:=fun x y H Q=>∃l b xs zs,x=.ref l/\y=.ref b/\H l=some (.lst xs)/\H b=some (.lst zs)/\xs.length+zs.length≤sizeLine/\∀p,H p=none->Q (.ref p) (upd H p (.lst (xs++zs)))
theorem z9m:OpR X (binaryOp .Add) rCat:=by
 intro pins s σ H x y v u Q I rx ry h
 obtain⟨l,b,xs,zs,rfl,rfl,hH,hB,hz,q⟩:=h
 cases rx
 cases ry
 obtain⟨z,its,n,r,hl,e⟩:=I.Y1 hH
 obtain⟨z2,M0,n2,r2,hl2,e2⟩:=I.Y1 hB
 refine PySem.P.add_list e e2 ?_ (by rw[bJ,bJ];lia)
 have ea:its.toArray++M0.toArray=(its++M0).toArray:=by simp
 rw[ea]
 exact⟨.ref _,_,I.lnew (t':=s.toks) (r.append r2) (by rw[bN];lia),rfl,q _ I.fresh⟩
end
section
variable{prog:Program}{w:World}{A:Around}{E:Value->Shared->Prop}{s:Shared}
end
section
variable{X:Cx}
end
end L2
namespace Att
open PySem PySem.W PySem.Calls PyProof.Rows
theorem z8q{P:Params}{h:Heap}:∀(ns:List Int) (vs:List Value),WellAll P h vs (ns.map WData.int)->IntsAre vs ns:=by
 intro ns
 induction ns with
 | nil=>
  intro vs w
  rw[List.map_nil] at w
  cases w
  exact .nil
 | cons n ns ih=>
  intro vs w
  rw[cS] at w
  cases w with
  | cons a b=>
   cases a
   exact .cons _ _ (ih _ b)
theorem y4L{l:OpenLaw}{n:Nat}(hn:l.most=some n){P:Params}{h:Heap}{args:List WData}{vals:List Value}
  (Z8:l.row.toRowW.claim.pre args=true) (hwl:WellAll P h vals args) :
  ∃a vs ns,vals=[Value.ref a]/\args=[WData.list (ns.map WData.int)]/\h.get? a=some { cls:=.type "list",data:=.seq vs.toArray }/\IntsAre vs ns/\ns.length≤n:=by
 have hsh:WShape.hasAll [] args [.list .int]=true:=(pre_splitW Z8).1
 have hc:l.pre.holds [] { args:=args }=true:=(pre_splitW Z8).2
 obtain⟨d,r,rfl,h1,h2⟩:=hasAllW_cons hsh
 obtain rfl:=hasAllW_nil h2
 obtain⟨xs,rfl,h3⟩:=hasW_list h1
 obtain⟨ns,rfl⟩:=items_int h3
 have hlen:ns.length≤n:=by
  unfold OpenLaw.pre at hc
  have h4:(WTm.not (.lt (.lit (.int (n:Int))) (.len (.arg 0)))).holds [] { args:=[.list (ns.map .int)] }=true:=by
   have h4:=(holds_andW hc).1
   rw[hn] at h4
   exact h4
  have h5:=condW_of h4 (w_not (w_lt w_lit (w_len_list (w_arg rfl))))
  rw[b9] at h5
  refine k9 fun q=>?_
  have q':(n:Int)<((ns.length:Nat):Int):=by lia
  first
   | (rw[decide_eq_true q'] at h5;exact absurd h5 (by decide))
   | (simp at h5;lia)
 cases hwl with
 | cons w1 w2=>
  cases w2
  cases w1 with
  | list ho C0=>exact⟨_,_,ns,rfl,rfl,ho,z8q ns _ C0,hlen⟩
theorem y3p(l:OpenLaw)(args:List WData):l.row.toRowW.claim.post args (.bool true) args=true:=
 postW_of (r:=l.row.toRowW) (X:=(true == true))
  (show WShape.has [] (.bool true) .bool=true by first|rfl|decide|simp[WShape.has,WShape.arms,WShape.armsAll])
  (show(WTm.eq .res (.lit (.bool true))).value [] { args:=args,res:=some (.bool true),after:=args }=some (.bool (true == true)) from w_eq_bool (w_res rfl) w_lit) rfl
theorem y1u{l:OpenLaw}{n:Nat}{q:Program}{loose:List Str}{XP:(Str->Option Value)->Heap->Prop}{YP:World->Heap->Prop}{d:DefRec}
  (hn:l.most=some n) (hdf:d.params.defaults=[])
  (call:∀(w:World) (s₀ s₁:Shared) (mg mb:Str->Option Value) (fa:Addr) (o:Obj) (pm cd doc:Value) (a:Addr) (vs:List Value) (ns:List Int),
   Ground q loose [] XP w s₀ mg mb s₁.heap->YP w s₁.heap->
   s₁.heap.get? fa=some o->o.data=.func (docDef d.name d.params d.body d.scope pm cd doc)->s₁.heap.CodeRec cd d.name->mg d.name=some (.ref fa)->
   s₁.heap.get? a=some { cls:=.type "list",data:=.seq vs.toArray }->IntsAre vs ns->ns.length≤n->s₁.gens=#[]->
   codeAny (model l.prog w) callerA (.call (.ref fa) ⟨[.ref a],[]⟩) (fun r s'=>r=.ok (.ret (.bool true))/\OldK s₁.heap s'.heap/\s'.os=s₁.os/\AllBare s'.gens) s₁) :
  WalkO q loose XP YP l.row.toRowW d [] (fun f vs=>PySem.call f vs):=by
 intro w s₀ s₁ mg mb G Y fa o pm cd doc dV kV ho hd hcd hD hmg hg args vals as Z8 hlay hrd hwl hlo
 obtain rfl:dV=.none:=Dflts.none hD hdf
 obtain rfl:kV=.none:=Dflts.noKw hD
 obtain⟨a,vs,ns,rfl,rfl,hobj,hints,hlen⟩:=y4L hn Z8 hwl
 refine enter_call (codeAny_mono (call w s₀ s₁ mg mb fa o pm cd doc a vs ns G Y ho (fd_plain hd) hcd hmg hobj hints hlen hg) fun r s' hq=>?_)
 obtain⟨rfl,h2,h3,h4⟩:=hq
 exact⟨.inl ⟨.bool true,.bool true,[],rfl,fun _=>rfl,.bool true,y3p l _,fun _=>⟨List.Pairwise.nil,fun _ hm=>(nomatch hm)⟩⟩,h2,h3,h4⟩
section
variable{prog:Program}{w:World}{A:Around}{E:Value->Shared->Prop}{s:Shared}{K:Frag}
end
end Att
namespace L2
open PySem PySem.Spec PyProof.Rows
theorem z6p:∀{vs:List Value}{ns:List Int},IntsAre vs ns->Vals (ns.map V.int) vs
 | _,_,.nil=>.nil
 | _,_,.cons n t h=>.cons ⟨t,rfl⟩ (z6p h)
noncomputable def w0A(H:Hp):Prop:=∀b,H b=none\/∃o xs,H b=some (.frz o (.lst xs))
theorem y5z{P:Program}{w:World}{K:PySem.W.Frag}{mg mb:Str->Option Value}{CX:CXT}{k:Nat}{fa a:Addr}{fd:FuncData}{x:Str}{sp:Sp}{s₁:Shared}{vs:List Value}{ns:List Int}
  (KX:K.In s₁.heap) (hns:s₁.heap.Ns mainGlobals mg) (hb:s₁.heap.Ns builtinsNs mb) (hbb:∀x:Str,x≠"__name__"->mb x=bootBuiltins x) (hlim:s₁.heap.NoLimit) (hg:s₁.gens=#[])
  (ha:s₁.heap.get? a=some { cls:=.type "list",data:=.seq vs.toArray }) (hi:IntsAre vs ns) (hl:ns.length≤sizeLine) (hr:E6 k callerA)
  (F:∀base:Heap,K.In base->base.Ns mainGlobals mg->B4 P w K mg base CX k fa fd [x] sp) (w0Z:∀(s:Shared) (u:Value),BindsTo s fd ⟨[u],[]⟩ [(x,u)])
  (hsp:∀H:Hp,w0A H->SqL K H a (ns.map V.int)->sp [.ref a] H (fun v _=>v=.bl true) fun _ _ _=>False)
  (hCX:∀H e s',CX [] H s₁ (fun _ _ _=>False) e s'->False) :
  codeAny (model P w) callerA (.call (.ref fa) ⟨[.ref a],[]⟩) (fun r s'=>r=.ok (.ret (.bool true))/\OldK s₁.heap s'.heap/\s'.os=s₁.os/\AllBare s'.gens) s₁:=by
 have rv:=z6p hi
 have lenV:=hi.length
 have core:∀H:Hp,w0A H->SqL K H a (ns.map V.int)->HOk P w H s₁.heap->(∀b,H b≠none->b=a)->(H a≠none->K.lookup a=none)->
   codeAny (model P w) callerA (.call (.ref fa) ⟨[.ref a],[]⟩) (fun r s'=>r=.ok (.ret (.bool true))/\OldK s₁.heap s'.heap/\s'.os=s₁.os/\AllBare s'.gens) s₁:=by
  intro H hO hS hok hA hK
  have X6:∀{b:Addr}{o:Obj},s₁.heap.get? b=some o->H b=none->(T9 s₁.heap H).get? b=some o:=fun e n=>y62 e n
  have noA:∀{b:Addr}{o:Obj}{es:Array DictEntry}{ep:Nat},s₁.heap.get? b=some o->o.data=.dict es ep->H b=none:=fun {b o es ep} e d=>by
   cases q:H b with
   | none=>rfl
   | some u=>
    have e':b=a:=hA b (by rw[q];simp)
    subst e'
    rw[ha] at e;cases e
    have d':Data.seq vs.toArray _=Data.dict es ep:=d
    cases d'
  have nsK:∀{b:Addr}{m:Str->Option Value},s₁.heap.Ns b m->(T9 s₁.heap H).Ns b m:=fun {b m} ⟨o,es,ep,e,d,r⟩=>⟨o,es,ep,X6 e (noA e d),d,r⟩
  have hKb:K.In (T9 s₁.heap H):=fun b o e=>X6 (KX b o e) (by
   cases q:H b with
   | none=>rfl
   | some u=>
    have e':b=a:=hA b (by rw[q];simp)
    subst e'
    rw[hK (by rw[q];simp)] at e;cases e)
  have hM:Mod K mg (T9 s₁.heap H):=⟨hKb,nsK hns,⟨mb,nsK hb,hbb⟩,let ⟨mc,h1,h2⟩:=hlim;⟨mc,nsK h1,h2⟩⟩
  have e0:W6 P w K mg (T9 s₁.heap H) callerA [] s₁ H:=⟨rfl,hM,fun b o e=>y7n e,Nat.le_of_eq (y5k _ _),trivial,fun b hb=>absurd (show b∈([]:List Addr) from hb) (by simp),hok,.of_eq hg⟩
  refine codeAny_mono ((F _ hKb (nsK hns)).run callerA [] s₁ H ⟨[.ref a],[]⟩ [.ref a] [.ref a] _ _ hr e0 (w0Z s₁ (.ref a)) (.cons rfl .nil) (hsp H hO hS)) fun r s' h=>?_
  cases r with
  | error e=>exact(hCX H e s' h).elim
  | ok fl=>
   cases fl with
   | next=>exact False.elim h
   | brk=>exact False.elim h
   | cont=>exact False.elim h
   | ret u=>
    obtain⟨v,H',os,bare,un,hok',r',q⟩:=h
    have q':v=.bl true:=q
    subst q'
    obtain rfl:u=Value.bool true:=r'
    refine⟨rfl,OldK.of_keep fun b o e=>?_,os,bare⟩
    cases q:H b with
    | none=>exact un.keep b o e q (by intro z;exact absurd (show b∈([]:List Addr) from z) (by simp)) (by simp)
    | some u=>
     rcases hO b with z|⟨ob,xs,z⟩
     ·rw[q] at z;cases z
     ·have z2:=un.U1 b ob _ z
      obtain⟨e1,_⟩:=hok b _ z
      obtain⟨e2,_⟩:=hok' b _ z2
      rw[e] at e1;cases e1
      exact e2
 cases hk:K.lookup a with
 | some o=>
  have e:=KX a o hk
  rw[ha] at e
  cases e
  refine core (fun _=>none) (fun _=>.inl rfl) (.inr ⟨_,vs.toArray,_,hk,rfl,rfl,rfl,by rw[bJ,lenV];exact hl,by simpa using rv⟩) (fun b u z=>by have z':(none:Option HO)=some u:=z;cases z') (fun b z=>absurd rfl z) fun z=>absurd rfl z
 | none=>
  refine core (fun b=>if b=a then some (.frz { cls:=.type "list",data:=.seq vs.toArray } (.lst (ns.map V.int))) else none) (fun b=>?_) (.inl (.inr ⟨{ cls:=.type "list",data:=.seq vs.toArray },if_pos rfl⟩)) (fun b u z=>?_) (fun b z=>?_) fun _=>hk
  ·by_cases hb:b=a
   ·exact .inr ⟨_,_,if_pos hb⟩
   ·exact .inl (if_neg hb)
  ·by_cases hb:b=a
   ·have z':=(if_pos hb).symm.trans z
    cases z'
    subst hb
    exact⟨ha,by rw[b9];exact hl,vs,_,rv,ha⟩
   ·have z':=(if_neg hb).symm.trans z
    cases z'
  ·by_cases hb:b=a
   ·exact hb
   ·exact absurd (if_neg hb) z
theorem y7e{l:PySem.W.OpenLaw}{n k:Nat}{q:Program}{loose:List Str}{XP:(Str->Option Value)->Heap->Prop}{YP:World->Heap->Prop}{d:DefRec}{K:Params->PySem.W.Frag}{CX:World->CXT}{sp:World->Sp}{x:Str}
  (hn:l.most=some n) (hn2:n≤sizeLine) (hdf:d.params.defaults=[]) (hr:E6 k callerA)
  (hY:∀(w:World) (h:Heap),YP w h->(K w.params).In h)
  (F:∀(w:World) (mg:Str->Option Value) (fa:Addr) (h:Heap),(K w.params).In h->h.Ns mainGlobals mg->mg d.name=some (.ref fa)->
   ∃fd:FuncData,(∀(s:Shared) (u:Value),BindsTo s fd ⟨[u],[]⟩ [(x,u)])/\
    ∀base:Heap,(K w.params).In base->base.Ns mainGlobals mg->B4 l.prog w (K w.params) mg base (CX w) k fa fd [x] (sp w))
  (hsp:∀(w:World) (H:Hp) (a:Addr) (ns:List Int),ns.length≤n->w0A H->SqL (K w.params) H a (ns.map V.int)->sp w [.ref a] H (fun v _=>v=.bl true) fun _ _ _=>False)
  (hCX:∀(w:World) (H:Hp) (s:Shared) (e:Value) (s':Shared),CX w [] H s (fun _ _ _=>False) e s'->False) :
  PySem.W.WalkO q loose XP YP l.row.toRowW d [] (fun f vs=>PySem.call f vs):=by
 refine Att.y1u hn hdf fun w s₀ s₁ mg mb fa o pm cd doc a vs ns G Y ho hd hcd hmg hobj hints hlen hg=>?_
 have KX:=hY w _ Y
 obtain⟨fd,hb,hF⟩:=F w mg fa _ KX G.T.g hmg
 exact y5z KX G.T.g G.T.b G.T.builtins G.T.nolimit hg hobj hints (cL hlen hn2) hr hF hb (fun H hO hS=>hsp w H a ns hlen hO hS) fun H e s'=>hCX w H s₁ e s'
def z1q(s:Stmt)(j:Nat):Stmt:=match s with
 | .ClassDef _ _ _ body _ _ _ _ _ _ _=>body.getD j (.Pass ⟨0,0,0,0⟩)
 | _=>.Pass ⟨0,0,0,0⟩
noncomputable def z1H(s:Stmt):Arguments:=match s with
 | .FunctionDef _ a _ _ _ _ _ _ _ _=>a
 | _=>{ posonlyargs:=[],args:=[],vararg:=none,kwonlyargs:=[],kw_defaults:=[],kwarg:=none,defaults:=[] }
noncomputable def z1w(s:Stmt):List Stmt:=match s with
 | .FunctionDef _ _ b _ _ _ _ _ _ _=>b
 | _=>[]
noncomputable def z07(s:Stmt):Scope:=match s with
 | .FunctionDef _ _ _ _ _ _ sc _ _ _=>sc
 | _=>{ kind:=.function,names:=[],isGenerator:=false,isCoroutine:=false }
abbrev CX0:CXT:=fun _ _ _ _ _ _=>False
abbrev E0:XK:=fun _ _ _=>False
theorem y3j{X:Cx}:z8I CX0 X E0:=fun _ _ _ _ _ _ _ h=>h.elim
structure Fun(K:PySem.W.Frag)(x qual:Str)(st:Stmt)(f:Addr)(fd:FuncData):Prop where
 ex:∃(oc:Value) (od:Option Addr) (kV doc pm:Value) (an:Option Addr) (cdv ct:Value) (osl:Array (Option Value)),
  fd=PySem.W.fnOf x qual (z1H st) (z1w st) (z07 st) .none kV doc pm an cdv ct/\K.lookup f=some ⟨oc,od,.func fd,osl⟩/\PySem.W.codeIn K cdv qual=true
 kp:PySem.W.keepIn K (.ref f)=true
section
variable{P:Program}{w:World}{K:PySem.W.Frag}{mg:Str->Option Value}{base:Heap}
theorem Fun.ok{x qual:Str}{st:Stmt}{f:Addr}{fd:FuncData}{N ps:List Str}{k:Nat}{sp:Sp}(F:Fun K x qual st f fd)(S:A9 N ps (z07 st))(len:∀vs H Q E,sp vs H Q E->vs.length=ps.length)
  (V1:∀(cdv:Value) (A:Around) (outer:List Env) (s:Shared) (H:Hp) (vs:List V) (Q:VK) (E:XK),E6 k (A.deeper (envOfC qual (z07 st) s.heap.objs.size f cdv))->sp vs H Q E->
   ∃t,PSs (W7 CX0 P w K mg base N qual (z07 st) f cdv A outer s H E).nox (z1w st) t/\t { nx:=fun _ H'=>Q .non H',rt:=Q } (z6F N vs) H):B4 P w K mg base CX0 (k+1) f fd ps sp:=by
 obtain⟨oc,od,kV,doc,pm,an,cdv,ct,osl,rfl,lk,hcd⟩:=F.ex
 refine y8l lk hcd S len fun A outer s H vs Q E hr hsp=>?_
 obtain⟨t,h,q⟩:=V1 cdv A outer s H vs Q E hr hsp
 exact⟨t,h.nox,q⟩
theorem Fun.binds{x qual:Str}{st:Stmt}{f:Addr}{fd:FuncData}{ps:List Str}(F:Fun K x qual st f fd)
  (h:∀(kV doc pm:Value) (an:Option Addr) (cdv ct:Value) (us:List Value),us.length=ps.length->bindArgs (PySem.W.fnOf x qual (z1H st) (z1w st) (z07 st) .none kV doc pm an cdv ct) ⟨us,[]⟩=pure (ps.zip us)):z2b K fd ps []:=by
 obtain⟨oc,od,kV,doc,pm,an,cdv,ct,osl,rfl,lk,hcd⟩:=F.ex
 exact .all (h kV doc pm an cdv ct)
theorem y8t{x qual:Str}{st:Stmt}{f:Addr}{oc:Value}{od an:Option Addr}{osl:Array (Option Value)}{kV doc pm cdv ct:Value}(l:K.lookup f=some ⟨oc,od,.func (PySem.W.fnOf x qual (z1H st) (z1w st) (z07 st) .none kV doc pm an cdv ct),osl⟩)
  (c:PySem.W.codeIn K cdv qual=true) (k:PySem.W.keepIn K (.ref f)=true):Fun K x qual st f (PySem.W.fnOf x qual (z1H st) (z1w st) (z07 st) .none kV doc pm an cdv ct):=⟨⟨oc,od,kV,doc,pm,an,cdv,ct,osl,rfl,l,c⟩,k⟩
end
theorem y12{A:Around}{k:Nat}(hr:E6 k A):A.units+1<cLine:=eQ (Nat.add_le_add_left (by decide:1≤64) _) hr.units
theorem z0f{n:Nat}(h:n≤1000):n<sizeLine:=eQ h (by decide)
section
variable{X:Cx}
theorem pv(i:Nat){x:Str}{pos:Pos}(hN:X.N[i]? = some x:=by rfl)(hv:Vis X.env.scope x:=by first|exact Or.inl rfl|exact Or.inr (Or.inl rfl)|exact Or.inr (Or.inr rfl))(hd:(x == ("__debug__":Str))=false:=by decide)
  (hcd:(x == ("__classdict__":Str))=false:=by decide):PE X (.Name x pos) (V8 i):=y8K hN hv hd hcd
end
theorem B8{A B:Prop}(h:B):if false=true then A else B:=by
 rw[if_neg bM]
 exact h
theorem F6{A B:Prop}(h:A):if true=true then A else B:=by
 rw[if_pos rfl]
 exact h
theorem B9{c A B:Prop}[Decidable c](h1:c->A)(h2:¬c->B):if c then A else B:=by
 by_cases h:c
 ·rw[if_pos h]
  exact h1 h
 ·rw[if_neg h]
  exact h2 h
theorem y8I{c A B:Prop}[Decidable c](hc:c)(h:B):if (!decide c)=true then A else B:=by
 rw[decide_eq_true hc]
 exact B8 h
noncomputable def B0(H H':Hp):Prop:=∀b o,H b=some o->H' b=some o
theorem B0.refl(H:Hp):B0 H H:=fun _ _ h=>h
theorem B0.trans{H H1 H2:Hp}(a:B0 H H1)(b:B0 H1 H2):B0 H H2:=fun c o h=>b c o (a c o h)
theorem B0.free{H H':Hp}(e:B0 H H'){l:Addr}(h:H' l=Option.none):H l=Option.none:=by
 cases q:H l with
 | none=>rfl
 | some o=>
  rw[e l o q] at h
  cases h
theorem B0.seq{K:PySem.W.Frag}{H H':Hp}{a:Addr}{xs:List V}(e:B0 H H')(h:SqL K H a xs):SqL K H' a xs:=by
 rcases h with (h|⟨o,h⟩)|h
 ·exact .inl (.inl (e _ _ h))
 ·exact .inl (.inr ⟨o,e _ _ h⟩)
 ·exact .inr h
abbrev noE:Value->Shared->Prop:=fun _ _=>False
theorem y1H{prog:Program}{w:World}{A:Around}{R:Result->Shared->Prop}{s:Shared}{elt target iter:Expr}{ifs:List Expr}{scope:Scope}{pos:Pos}{it acc:Value}{env:Env}(I:Nat->Shared->Prop)
  (turn:∀n s,I n s->wpAny (model prog w) A (pyNext it) (fun r s1=>match r with
   | none=>R (.ok .next) s1
   | some v=>wpAny (model prog w) A (letOwnedTupleGo target it v) (fun _ s0=>wpAny (model prog w) A (assign target env v) (fun _ s2=>
     wpAny (model prog w) A (forIn ifs true fun c r=>if r=true then do let ok <- isTrue c env (eval c env);pure (ForInStep.yield ok) else pure (ForInStep.yield r)) (fun ok s3=>
      if ok=true then wpAny (model prog w) A (eval elt env) (fun x s4=>
       wpAny (model prog w) A (call (.builtin "list.append") [acc,x]) (fun _ s5=>∃m,m<n/\I m s5) noE s4) noE s3
      else ∃m,m<n/\I m s3) noE s2) noE s0) noE s1) noE s)
  (n:Nat) (h:I n s):codeAny (model prog w) A (.compLoop (.ListComp elt [⟨target,iter,ifs,0⟩] scope pos) 0 it acc env) R s:=by
 refine codeAny_loop rfl I (fun n s hI=>?_) n h
 show wpAny _ A ((compTurn (.ListComp elt [⟨target,iter,ifs,0⟩] scope pos) 0 it acc env).onRaise (fun x=>do noteFrame x env;theTreesLotGoes x)) _ _ s
 refine wpAny_noted ?_
 rw[compTurn_list]
 refine wpAny_bind (wpAny_standAt (wpAny_bind (wpAny_mono (turn n s hI) (fun r s1 h1=>?_) fun _ _ z=>False.elim z)))
 cases r with
 | none=>exact wpAny_pure h1
 | some v=>
  refine wpAny_bind (wpAny_mono h1 (fun _ s0 h0=>?_) fun _ _ z=>False.elim z)
  refine wpAny_bind (wpAny_mono h0 (fun _ s2 h2=>wpAny_bind (wpAny_mono h2 (fun ok s3 h3=>?_) fun _ _ z=>False.elim z)) fun _ _ z=>False.elim z)
  cases ok with
  | false=>exact wpAny_pure ⟨rfl,h3⟩
  | true=>
   exact wpAny_bind (wpAny_bind (wpAny_mono h3 (fun x s4 h4=>wpAny_bind (wpAny_mono h4 (fun _ s5 h5=>wpAny_pure (wpAny_pure ⟨rfl,h5⟩)) fun _ _ z=>False.elim z)) fun _ _ z=>False.elim z))
noncomputable def z89(cells:List (Str×Addr)):List (Str×NameKind)->List (Str×Addr)->Option (List (Str×Addr))
 | [],acc=>some acc
 | (n,k)::r,acc=>if k == .free then (match cells.lookup n with
   | some a=>z89 cells r ((n,a)::acc)
   | none=>none) else z89 cells r acc
theorem z6N{env:Env}:∀(names:List (Str×NameKind)) (acc cl:List (Str×Addr)),z89 env.cells names acc=some cl->
  (forIn names acc fun(x:Str×NameKind) (cs:List (Str×Addr))=>match x with
   | (name,kind)=>if (kind == NameKind.free)=true then do let c <- cellOf env name;pure (ForInStep.yield ((name,c)::cs)) else pure (ForInStep.yield cs):Sem (List (Str×Addr)))=pure cl
 | [],acc,cl,h=>by
  have h':acc=cl:=Option.some.inj h
  subst h'
  rfl
 | (n,k)::r,acc,cl,h=>by
  rw[List.forIn_cons]
  unfold z89 at h
  by_cases hk:(k == NameKind.free)=true
  ·rw[if_pos hk] at h
   cases e:env.cells.lookup n with
   | none=>rw[e] at h;cases h
   | some a=>
    rw[e] at h
    have ih:=z6N r ((n,a)::acc) cl h
    have hc:cellOf env n=pure a:=by unfold cellOf;rw[e]
    dsimp only
    rw[if_pos hk,hc]
    simpa using ih
  ·rw[if_neg hk] at h
   have ih:=z6N r acc cl h
   dsimp only
   rw[if_neg hk]
   simpa using ih
theorem z7J{scope:Scope}{env:Env}{cl:List (Str×Addr)}(h:z89 env.cells scope.names []=some cl):closureFor scope env=pure cl:=by
 have q:=z6N (env:=env) scope.names [] cl h
 unfold closureFor
 simpa using q
theorem z8R{cells:List (Str×Addr)}:∀{names:List (Str×NameKind)}{acc cl:List (Str×Addr)},z89 cells names acc=some cl->
  (∀x c,acc.lookup x=some c->cells.lookup x=some c)->∀x c,cl.lookup x=some c->cells.lookup x=some c
 | [],acc,cl,h,ha,x,c,e=>by
  have h':acc=cl:=Option.some.inj h
  subst h'
  exact ha x c e
 | (n,k)::r,acc,cl,h,ha,x,c,e=>by
  unfold z89 at h
  by_cases hk:(k == NameKind.free)=true
  ·rw[if_pos hk] at h
   cases q:cells.lookup n with
   | none=>rw[q] at h;cases h
   | some a=>
    rw[q] at h
    refine z8R (names:=r) (acc:=(n,a)::acc) h (fun y d z=>?_) x c e
    rw[jD] at z
    cases hy:y == n with
    | true=>
     rw[hy] at z
     have z':a=d:=Option.some.inj z
     rw[<- z',beq_iff_eq.mp hy]
     exact q
    | false=>
     rw[hy] at z
     exact ha y d z
  ·rw[if_neg hk] at h
   exact z8R (names:=r) (acc:=acc) h ha x c e
theorem z6h{cells:List (Str×Addr)}:∀{names:List (Str×NameKind)}{acc cl:List (Str×Addr)},z89 cells names acc=some cl->
  ∀x,((∃c,acc.lookup x=some c)\/(x,NameKind.free)∈names)->∃c,cl.lookup x=some c
 | [],acc,cl,h,x,hx=>by
  have h':acc=cl:=Option.some.inj h
  subst h'
  rcases hx with hx|hx
  ·exact hx
  ·cases hx
 | (n,k)::r,acc,cl,h,x,hx=>by
  unfold z89 at h
  by_cases hk:(k == NameKind.free)=true
  ·rw[if_pos hk] at h
   cases q:cells.lookup n with
   | none=>rw[q] at h;cases h
   | some a=>
    rw[q] at h
    refine z6h (names:=r) (acc:=(n,a)::acc) h x ?_
    rcases hx with ⟨c,hx⟩|hx
    ·left
     rw[jD]
     cases hy:x == n with
     | true=>exact⟨a,rfl⟩
     | false=>exact⟨c,hx⟩
    ·rcases bE.mp hx with e|e
     ·left
      have e1:x=n:=congrArg Prod.fst e
      rw[jD,e1,beq_self_eq_true]
      exact⟨a,rfl⟩
     ·exact .inr e
  ·rw[if_neg hk] at h
   refine z6h (names:=r) (acc:=acc) h x ?_
   rcases hx with hx|hx
   ·exact .inl hx
   ·rcases bE.mp hx with e|e
    ·have e2:NameKind.free=k:=congrArg Prod.snd e
     exact absurd (by rw[<- e2];rfl) hk
    ·exact .inr e
theorem z97{α β:Type}[BEq α][LawfulBEq α]:∀{l:List (α×β)}{x:α}{b:β},l.lookup x=some b->(x,b)∈l
 | [],x,b,h=>by cases h
 | (a,c)::r,x,b,h=>by
  rw[jD] at h
  cases hx:x == a with
  | true=>
   rw[hx] at h
   have h':c=b:=Option.some.inj h
   rw[beq_iff_eq.mp hx,h']
   exact cC
  | false=>
   rw[hx] at h
   exact bZ _ (z97 h)
theorem z7o{scope:Scope}{env:Env}(X4:∀y∈scope.names,y.2≠.cell){x:Str}(h:(relabel scope env).names.lookup x=some .cell\/(relabel scope env).names.lookup x=some .free):(x,NameKind.free)∈scope.names:=by
 have go:∀k,(relabel scope env).names.lookup x=some k->(k=.cell\/k=.free)->(x,NameKind.free)∈scope.names:=fun k h hk=>by
  have m:=z97 h
  obtain⟨⟨n,k'⟩,hm,e⟩:=cM.mp m
  dsimp only at e
  by_cases c:(k' == NameKind.free && env.scope.kind == .function && env.kindOf n == some .cell)=true
  ·rw[if_pos c] at e
   have e1:n=x:=congrArg Prod.fst e
   have c1:(k' == NameKind.free)=true:=by
    rw[cG,cG] at c
    exact c.1.1
   have c2:k'=.free:=eq_of_beq c1
   rw[<- e1,<- c2]
   exact hm
  ·rw[if_neg c] at e
   have e1:n=x:=congrArg Prod.fst e
   have e2:k'=k:=congrArg Prod.snd e
   rcases hk with z|z
   ·exact absurd (e2.trans z) (X4 _ hm)
   ·rw[<- e1,<- z,<- e2]
    exact hm
 rcases h with h|h
 ·exact go _ h (.inl rfl)
 ·exact go _ h (.inr rfl)
noncomputable def z4n(X:Cx)(scope:Scope)(cl:List (Str×Addr))(N:List Str)(C:Addr)(s3:Shared)(H1:Hp)(ex:List Addr)(pins:List (Addr×Obj)):Cx:=
 { X with N:=N,s₀:=s3,H₀:=H1,env:=compEnvC scope cl C X.env,outer:=X.stack,ex:=ex,fn:=fun _=>false,pn:=X.pn++pins,xe:=noE }
noncomputable def z8c(own:Nat)(ix:List Nat)(σ:St):St:=List.replicate own none++ix.map fun i=>(σ[i]?).join
structure K2(X:Cx)(scope:Scope)(cl:List (Str×Addr))(own F7:List Str)(ix:List Nat):Prop where
 W8:z89 X.env.cells scope.names []=some cl
 cell:∀y∈scope.names,y.2≠.cell
 kind:scope.kind=.function
 names:∀y∈scope.names,y.2=.local->scope.names.lookup y.1=some .local
 capn:F7.length=ix.length
 cap:∀(j i:Nat) (x:Str),F7[j]? = some x->ix[j]? = some i->X.N[i]? = some x/\X.env.kindOf x≠some .local/\Vis X.env.scope x/\((relabel scope X.env).names.lookup x=some .cell\/(relabel scope X.env).names.lookup x=some .free)
theorem Inv.w1I{X:Cx}{pins:List (Addr×Obj)}{σ:St}{H:Hp}{s:Shared}{D:Addr}{o:HO}(I:Inv X pins σ H s)(f:Q6 X pins H D)(new:z1C X.prog X.w (upd H D o) s.heap D o):Inv X pins σ (upd H D o) s:=by
 obtain⟨f0,f1,f2,f3,f4,f5⟩:=f
 have q:=I.step (H':=upd H D o) (h':=s.heap) (g':=s.gens) (t':=s.toks) (d':=s.drawn) (ch:=[D]) (fun b hb=>by
   have e:b=D:=by simpa using hb
   subst e
   exact⟨f3,f1,f4,f5⟩)
  (fun _ _ _ _ _ e _=>e) (fun b ob _ _ _ e _=>⟨ob.slots,e⟩) (fun b ob hb _ n=>by
   have e:b≠D:=fun z=>hb (by simp[z])
   rw[z0k e];exact n)
  (fun b ob _ e=>⟨ob,e⟩) (fun b xs e=>by rw[z0k (z0r e f0)];exact e) (fun b ob u e=>by rw[z0k (z0r e f0)];exact e)
  (fun b ps e=>⟨#[],by rw[z0k (z0r e f0),e];simp⟩) (fun _ hm=>hm) (fun b u e=>by
   by_cases hb:b=D
   ·subst hb
    rw[z03] at e
    cases e
    exact new
   ·rw[z0k hb] at e
    exact(I.hok b u e).U8 (fun _ _ _ q=>q) (fun c q=>by rw[z0k (z0r q f0)];exact q) fun c xs q=>by rw[z0k (z0r q f0)];exact q) I.bare
 exact q
section
variable{X:Cx}{scope:Scope}{cl:List (Str×Addr)}{own F7:List Str}{ix:List Nat}
theorem K2.look(S:K2 X scope cl own F7 ix):∀x c,cl.lookup x=some c->X.env.cells.lookup x=some c:=
 z8R S.W8 fun x c e=>by cases e
theorem y6A{pins:List (Addr×Obj)}{σ:St}{H1:Hp}{s3:Shared}{h1:Heap}{ex:List Addr}{m:Str->Option Value}{tk:Nat}(S:K2 X scope cl own F7 ix)(I:Inv X pins σ H1 s3)
  (hex:∀b∈ex,b<s3.heap.objs.size/\b≠X.env.locals/\b∉X.fs/\(b∈X.ex\/X.s₀.heap.objs.size≤b)/\∀x c,X.env.cells.lookup x=some c->c≠b)
  (hn:h1.Ns s3.heap.objs.size m) (hk:∀b o,s3.heap.get? b=some o->h1.get? b=some o) :
  Inv (z4n X scope cl (own++F7) s3.heap.objs.size s3 H1 ex pins) [] (z8c own.length ix σ) H1 { s3 with heap:=h1,toks:=tk }:=by
 have stkN:∀b∈frs X.stack,b<s3.heap.objs.size:=fun b hb=>by
  obtain⟨_,o,ho,_⟩:=I.stack.mem hb
  exact bQ ho
 have lt0:∀b o,X.base.get? b=some o->b<X.s₀.heap.objs.size:=fun b o e=>bQ (I.ok.bs b o e).1
 refine⟨⟨I.ok.mod,S.kind,I.ok.glob,I.ok.blt,bI _,?_,?_,?_,I.ok.hd,I.ok.frames,.inl rfl,?_,I.bs,cL I.ok.bsz I.sz,?_,?_,I.stack,I.X5⟩,rfl,I.bare,?_,?_,?_,?_,?_,?_,?_,?_⟩
 ·intro x y c e1 e2
  exact I.ok.inj x y c (S.look x c e1) (S.look y c e2)
 ·intro x hx
  exact z6h S.W8 x (.inr (z7o S.cell hx))
 ·intro x c hf
  exact absurd hf bM
 ·intro b hb
  obtain⟨l,a1,a2,a3,a4⟩:=hex b hb
  exact⟨cJ l,fun x c e=>a4 x c (S.look x c e)⟩
 ·intro b o e hb
  obtain⟨l,a1,a2,a3,a4⟩:=hex b hb
  rcases a3 with z|z
  ·exact I.ok.noex b o e z
  ·exact absurd (cU (lt0 b o e) z) (dP _)
 ·intro b hb hf
  obtain⟨l,a1,a2,a3,a4⟩:=hex b hb
  rcases bE.mp (I.S5 b hf) with z|z
  ·exact a1 z
  ·exact a2 z
 ·exact Un.kept hk
 ·refine⟨m,hn,fun i x v e1 e2 e3=>?_⟩
  have e2':(List.replicate own.length none++ix.map fun i=>(σ[i]?).join:St)[i]? = some (some v):=e2
  have e1':(own++F7)[i]? = some x:=e1
  by_cases hi:i<own.length
  ·rw[dN (by simpa using hi),j3,if_pos hi] at e2'
   cases e2'
  ·have hi':own.length≤i:=k9 hi
   rw[eJ (by simpa using hi'),jI,bC] at e2'
   rw[eJ hi'] at e1'
   cases q:ix[i-own.length]? with
   | none=>rw[q] at e2';cases e2'
   | some k=>
    rw[q] at e2'
    have Z9:(σ[k]?).join=some v:=Option.some.inj e2'
    have e4:σ[k]? = some (some v):=by
     cases z:σ[k]? with
     | none=>rw[z] at Z9;cases Z9
     | some u=>rw[z] at Z9;rw[show u=some v from Z9]
    obtain⟨n1,n2,n3,n4⟩:=S.cap (i-own.length) k x e1' q
    obtain⟨mX,_,hl⟩:=I.loc
    obtain⟨u,r,l⟩:=hl k x v n1 e4 n3
    refine⟨u,r,?_⟩
    rcases l with ⟨kl,_⟩|⟨_,c,ec,ic⟩
    ·exact absurd kl n2
    ·obtain⟨c',ec'⟩:=z6h S.W8 x (.inr (z7o S.cell n4))
     have e5:=S.look x c' ec'
     rw[ec] at e5
     cases e5
     exact .inr ⟨n4,c,ec',ic.keeps hk⟩
 ·intro x c e
  obtain⟨v,q⟩:=I.cell x c (S.look x c e)
  exact⟨v,q.keeps hk⟩
 ·exact I.hok.fresh (bI _)
 ·intro x c e
  exact I.freeC x c (S.look x c e)
 ·intro p hp
  have hp':p∈X.pn++pins:=by
   have:p∈(X.pn++pins)++[]:=hp
   rwa [cR] at this
  obtain⟨e,n,ne,nf,d⟩:=I.pin p hp'
  refine⟨hk _ _ e,n,cJ (bQ e),fun z=>?_,d⟩
  rcases bE.mp (I.S5 p.1 z) with z|z
  ·exact ne z
  ·exact nf z
 ·exact I.hok.kept hk
 ·show(List.replicate own.length none++ix.map fun i=>(σ[i]?).join:St).length=(own++F7).length
  rw[bN,jI,b9,bN,S.capn]
noncomputable def PTs(X:Cx)(ifs:List Expr)(t:TT):Prop:=
 ∀(pins:List (Addr×Obj)) (s:Shared) (σ:St) (H:Hp) (Q:Bool->Hp->Prop),Inv X pins σ H s->t σ H Q->
  wpAny (model X.prog X.w) X.A (forIn ifs true fun c r=>if r=true then do let ok <- isTrue c X.env (eval c X.env);pure (ForInStep.yield ok) else pure (ForInStep.yield r)) (TP X pins σ Q) X.xe s
noncomputable def tYes:TT:=fun _ H Q=>Q true H
theorem z1E:PTs X [] tYes:=fun _ _ _ H _ I h=>wpAny_tests_nil ⟨H,I,h⟩
theorem z2f{c:Expr}{t:TT}(hc:PT X c t):PTs X [c] t:=fun pins s σ H Q I h=>wpAny_tests_one (hc pins s σ H Q I h)
noncomputable def z6y(n:Nat)(σ σ':St):Prop:=σ'.length=σ.length/\∀i,n≤i->σ'[i]? = σ[i]?
noncomputable def W4(n:Nat)(g:TG):Prop:=∀v σ H Q,g v σ H Q->g v σ H fun σ' H'=>Q σ' H'/\z6y n σ σ'
noncomputable def y4W(n:Nat)(g:TGs):Prop:=∀vs σ H Q,g vs σ H Q->g vs σ H fun σ' H'=>Q σ' H'/\z6y n σ σ'
theorem z6y.refl(n:Nat)(σ:St):z6y n σ σ:=⟨rfl,fun _ _=>rfl⟩
theorem z6y.trans{n:Nat}{a b c:St}(x:z6y n a b)(y:z6y n b c):z6y n a c:=⟨y.1.trans x.1,fun i h=>(y.2 i h).trans (x.2 i h)⟩
theorem z0y{n i:Nat}(h:i<n):W4 n (y3Y i):=fun v σ H Q q=>⟨q,by simp,fun j hj=>jN (by lia)⟩
theorem z7d{n:Nat}:y4W n w0q:=fun vs σ H Q q=>⟨q.1,q.2,z6y.refl n σ⟩
noncomputable def y0U(g:TG):Prop:=∀v σ H (Q Q':St->Hp->Prop),(∀σ' H',Q σ' H'->Q' σ' H')->g v σ H Q->g v σ H Q'
noncomputable def z9h(g:TGs):Prop:=∀vs σ H (Q Q':St->Hp->Prop),(∀σ' H',Q σ' H'->Q' σ' H')->g vs σ H Q->g vs σ H Q'
theorem z0h{i:Nat}:y0U (y3Y i):=fun _ _ _ _ _ f q=>f _ _ q
theorem z1a:z9h w0q:=fun _ _ _ _ _ f q=>⟨q.1,f _ _ q.2⟩
theorem z0P{t:TG}{u:TGs}(a:y0U t)(b:z9h u):z9h (y7v t u):=fun vs σ H Q Q' f q=>by
 obtain⟨v,r,e,q⟩:=q
 exact⟨v,r,e,a _ _ _ _ _ (fun σ' H' z=>b _ _ _ _ _ f z) q⟩
theorem z6x{K:PySem.W.Frag}{n:Nat}{t:TGs}(a:z9h t):y0U (Z6 K n t):=fun v σ H Q Q' f q=>by
 obtain⟨p,xs,e,h1,h2,q⟩:=q
 exact⟨p,xs,e,h1,h2,a _ _ _ _ _ f q⟩
theorem z1X{n:Nat}{t:TG}{u:TGs}(a:W4 n t)(m:y0U t)(b:y4W n u)(m':z9h u):y4W n (y7v t u):=fun vs σ H Q q=>by
 obtain⟨v,r,e,q⟩:=q
 refine⟨v,r,e,m _ _ _ _ _ (fun σ' H' z=>?_) (a _ _ _ _ q)⟩
 exact m' _ _ _ _ _ (fun σ2 H2 y=>⟨y.1,z.2.trans y.2⟩) (b _ _ _ _ z.1)
theorem z8P{K:PySem.W.Frag}{n k:Nat}{t:TGs}(a:y4W n t):W4 n (Z6 K k t):=fun v σ H Q q=>by
 obtain⟨p,xs,e,h1,h2,q⟩:=q
 exact⟨p,xs,e,h1,h2,a _ _ _ _ q⟩
noncomputable def z1A(g:TG)(tc:TT)(te:TE)(σ0:St)(x:V)(H:Hp)(ys:List V)(N:List V->Hp->Prop):Prop:=
 g x σ0 H fun σ2 H2=>tc σ2 H2 fun b H3=>if b=true then te σ2 H3 fun y H4=>N (ys++[y]) H4 else N ys H3
noncomputable def y8a(own:Nat)(ix:List Nat)(wi:TI)(g:TG)(tc:TT)(te:TE)(σ:St)(H:Hp)(F:List V->Hp->Prop):Prop:=
 wi σ H fun J H1=>∃W:Nat->Nat->List V->Hp->Prop,(∃m,W 0 m [] H1)/\∀i m ys H,W i m ys H->
  (J.stop i H/\F ys H)\/(J.go i H/\ys.length<sizeLine/\∃N:List V->Hp->Prop,(∀zs H',N zs H'->∃m',m'<m/\W (i+1) m' zs H')/\
   ∀x H',J.yld i H x H'->z1A g tc te (z8c own ix σ) x H' ys N)
theorem z9o{elt iter tg:Expr}{ifs:List Expr}{pos:Pos}{pins:List (Addr×Obj)}{σ:St}{s2:Shared}{itv:Value}{g:TG}{tc:TT}{te:TE}{F:List V->Hp->Prop}{RR:Value->Addr->Result->Shared->Prop}{E:Value->Shared->Prop}
  (S:K2 X scope cl own F7 ix) (hc:X.calm=true)
  (hg:∀C s3 H1 ex pn,PG (z4n X scope cl (own++F7) C s3 H1 ex pn) tg g) (og:W4 own.length g) (mg:y0U g)
  (ht:∀C s3 H1 ex pn,PTs (z4n X scope cl (own++F7) C s3 H1 ex pn) ifs tc)
  (he:∀C s3 H1 ex pn,PE (z4n X scope cl (own++F7) C s3 H1 ex pn) elt te)
  (h:PIE X pins σ tg (fun J H1=>∃W:Nat->Nat->List V->Hp->Prop,(∃m,W 0 m [] H1)/\∀i m ys H,W i m ys H->
   (J.stop i H/\F ys H)\/(J.go i H/\ys.length<sizeLine/\∃N:List V->Hp->Prop,(∀zs H',N zs H'->∃m',m'<m/\W (i+1) m' zs H')/\
    ∀x H',J.yld i H x H'->z1A g tc te (z8c own.length ix σ) x H' ys N)) itv s2)
  (hRR:∀D C m H' ys s',Inv X pins σ (upd H' D (.lst ys)) s'->Q6 X pins (upd H' D (.lst ys)) C->s'.heap.Ns C m->H' D=none->F ys H'->RR (.ref D) C (.ok .next) s') :
  wpAny (model X.prog X.w) X.A (newList []) (fun acc s3=>wpAny (model X.prog X.w) X.A (newFunctionEnv scope X.env.globals cl [] X.env.qual none .none (some X.env)) (fun cenv s4=>
   codeAny (model X.prog X.w) X.A (.compStart (.ListComp elt [⟨tg,iter,ifs,0⟩] scope pos) 0 itv acc { cenv with scope:=relabel scope X.env }) (RR acc cenv.locals) s4) E s3) E s2:=by
 obtain⟨it,fp,tn,J,H1,e,I2,T,st2,f2,W,⟨m0,w0⟩,turn⟩:=h
 subst e
 refine wpAny_newObj_type (wpAny_newFunctionEnv S.cell (by intro y hy;simp at hy) (fun h1 hns1 hsb1=>?_) S.kind)
 dsimp only at hns1 hsb1 ⊢
 generalize hH2:s2.heap.push { cls:=.type "list",dict:=none,data:=.seq ([]:List Value).toArray }=h2 at hns1 hsb1 ⊢
 have Y9:∀b o,s2.heap.get? b=some o->h2.get? b=some o:=fun b o e=>hH2 ▸ bA _ e
 have sz2:h2.objs.size=s2.heap.objs.size+1:=by rw[<- hH2,dY]
 have hDC:s2.heap.objs.size≠h2.objs.size:=by lia
 have X2:∀b o,h2.get? b=some o->h1.get? b=some o:=fun b o e=>hsb1.extBut b o (cJ (bQ e)) (bA _ e)
 have w1N:h2.get? s2.heap.objs.size=some { cls:=.type "list",dict:=none,data:=.seq ([]:List Value).toArray }:=hH2 ▸ bL _ rfl
 have I3:Inv X pins σ H1 { s2 with heap:=h2,toks:=s2.toks }:=I2.kept Y9
 have fD:Q6 X pins H1 s2.heap.objs.size:=I2.T6 (bI _) I2.fresh
 have fDs:∀{H':Hp},H' s2.heap.objs.size=none->Q6 X pins H' s2.heap.objs.size:=fun hn=>⟨hn,fD.2⟩
 have fpLt:∀b∈fp,b<s2.heap.objs.size:=fun b hb=>by
  obtain⟨o,e,_⟩:=T.obj _ _ st2 b hb
  exact bQ e
 have hDfp:s2.heap.objs.size∉fp:=fun z=>dP _ (fpLt _ z)
 have w0r:∀b∈s2.heap.objs.size::fp,b<h2.objs.size/\b≠X.env.locals/\b∉X.fs/\(b∈X.ex\/X.s₀.heap.objs.size≤b)/\∀x c,X.env.cells.lookup x=some c->c≠b:=fun b hb=>by
  rcases bE.mp hb with rfl|hb
  ·exact⟨by lia,fD.2.1,fD.2.2.1,fD.2.2.2.1,fD.2.2.2.2.1⟩
  ·have:=fpLt b hb
   obtain⟨_,a1,a2,a3,a4,_⟩:=f2 b hb
   exact⟨by rw[sz2];exact fG this,a1,a2,a3,a4⟩
 have I4:Inv (z4n X scope cl (own++F7) h2.objs.size { s2 with heap:=h2,toks:=s2.toks } H1 (s2.heap.objs.size::fp) pins) [] (z8c own.length ix σ) H1 { s2 with heap:=h1,toks:=s2.toks+([]:List (Str×Value)).length }:=
  y6A S I3 w0r hns1 X2
 generalize hX:z4n X scope cl (own++F7) h2.objs.size { s2 with heap:=h2,toks:=s2.toks } H1 (s2.heap.objs.size::fp) pins=Y at I4
 have HG:PG Y tg g:=by rw[<- hX];exact hg _ _ _ _ _
 have HT:PTs Y ifs tc:=by rw[<- hX];exact ht _ _ _ _ _
 have HE:PE Y elt te:=by rw[<- hX];exact he _ _ _ _ _
 have eP:Y.prog=X.prog:=by rw[<- hX];rfl
 have eW:Y.w=X.w:=by rw[<- hX];rfl
 have eK:Y.K=X.K:=by rw[<- hX];rfl
 have eA:Y.A=X.A:=by rw[<- hX];rfl
 have eC:Y.calm=true:=by rw[<- hX];exact hc
 have eE:Y.xe=noE:=by rw[<- hX];rfl
 have Z2:Y.env=compEnvC scope cl h2.objs.size X.env:=by rw[<- hX];rfl
 have eEx:Y.ex=s2.heap.objs.size::fp:=by rw[<- hX];rfl
 have ePn:Y.pn=X.pn++pins:=by rw[<- hX];rfl
 have eFs:Y.fs=frs X.stack:=by rw[<- hX];rfl
 have w0s:∀x c,Y.env.cells.lookup x=some c->X.env.cells.lookup x=some c:=fun x c e=>by
  rw[Z2] at e
  exact S.look x c e
 have w0i:Y.env.locals=h2.objs.size:=by rw[Z2];rfl
 have fY:∀{pl:List (Addr×Obj)}{H':Hp}{b:Addr},b∈s2.heap.objs.size::fp->H' b=none->(∀p∈pl,p.1≠b)->Q6 Y pl H' b:=fun {pl H' b} hb hn hpl=>by
  obtain⟨l,a1,a2,a3,a4⟩:=w0r b hb
  refine⟨hn,by rw[w0i];exact cJ l,fun z=>?_,.inl (by rw[eEx];exact hb),fun x c e=>a4 x c (w0s x c e),fun p hp=>?_⟩
  ·rw[eFs] at z
   rcases bE.mp (I3.S5 b z) with z|z
   ·exact a1 z
   ·exact a2 z
  ·rcases bS.mp hp with z|z
   ·rw[ePn] at z
    rcases bE.mp hb with rfl|hb
    ·exact fD.2.2.2.2.2 p z
    ·exact(f2 b hb).2.2.2.2.2 p z
   ·exact hpl p z
 let IV:Nat->Shared->Prop:=fun n s'=>∃i ys its c H',Inv Y [] (z8c own.length ix σ) H' s'/\tn i s'.heap/\(∀b∈fp,H' b=none)/\H' s2.heap.objs.size=none/\Vals ys its/\
  s'.heap.get? s2.heap.objs.size=some { cls:=.type "list",data:=.seq its.toArray c }/\ys.length≤sizeLine/\W i n ys H'
 have loop:∀s3:Shared,s3={ s2 with heap:=h1,toks:=s2.toks+([]:List (Str×Value)).length }->
   codeAny (model X.prog X.w) X.A (.compLoop (.ListComp elt [⟨tg,iter,ifs,0⟩] scope pos) 0 (.ref it) (.ref s2.heap.objs.size) (compEnvC scope cl h2.objs.size X.env)) (RR (.ref s2.heap.objs.size) h2.objs.size) s3:=by
  rintro s3 rfl
  refine y1H IV ?_ m0 ⟨0,[],[],_,H1,I4,T.keep _ _ _ st2 fun b _ o e=>X2 b o (Y9 b o e),fun b hb=>(f2 b hb).1,I2.fresh,.nil,X2 _ _ w1N,cZ _,w0⟩
  rintro n s5 ⟨i,ys,its,c,H5,I5,st5,fr5,nD5,v5,gD5,z5,w5⟩
  have I5p:Inv Y [(s2.heap.objs.size,{ cls:=.type "list",data:=.seq its.toArray c })] (z8c own.length ix σ) H5 s5:=I5.Q4 fun p hp=>by
   have e:p=(s2.heap.objs.size,{ cls:=.type "list",data:=.seq its.toArray c }):=by simpa using hp
   subst e
   obtain⟨_,b1,b2,_⟩:=fY (pl:=[]) (H':=H5) (b:=s2.heap.objs.size) cC nD5 (fun p hp=>nomatch hp)
   exact⟨gD5,nD5,b1,b2,fun v z=>by cases z⟩
  have fps:∀{H':Hp},(∀b∈fp,H' b=none)->∀b∈fp,Q6 Y [(s2.heap.objs.size,{ cls:=.type "list",data:=.seq its.toArray c })] H' b:=fun hn b hb=>
   fY (bZ _ hb) (hn b hb) fun p hp=>by
    have e:p=(s2.heap.objs.size,{ cls:=.type "list",data:=.seq its.toArray c }):=by simpa using hp
    subst e
    exact fun z=>hDfp (by have z':s2.heap.objs.size=b:=z;rw[z'];exact hb)
  rcases turn i n ys H5 w5 with ⟨stop,fin⟩|⟨go,hlen,N,hN,step⟩
  ·have q:=T.done Y eP eW eK eC i _ s5 _ H5 noE I5p (fps fr5) st5 stop
   rw[eA] at q
   refine thn q fun r s6 ⟨hr,I6⟩=>?_
   subst hr
   have gD6:=(I6.pin (s2.heap.objs.size,{ cls:=.type "list",data:=.seq its.toArray c }) (cI _ (by simp))).1
   have u6:Un (frs X.stack) (s2.heap.objs.size::fp) H1 H5 h2 s6.heap:=by
    have:=I6.base
    rw[eFs,eEx] at this
    rw[<- hX] at this
    exact this
   have os6:s6.os=s2.os:=by
    have:=I6.os
    rw[<- hX] at this
    exact this
   have hok6:HOk X.prog X.w H5 s6.heap:=by
    have:=I6.hok
    rw[eP,eW] at this
    exact this
   have J6:Inv X pins σ H5 s6:=I3.w0V (s':=s6) os6 u6 hok6 I6.bare fun b hb=>by
    obtain⟨l,a1,a2,a3,a4⟩:=w0r b hb
    refine⟨a3,a1,a4,?_⟩
    rcases bE.mp hb with rfl|hb
    ·exact fD.2.2.2.2.2
    ·exact(f2 b hb).2.2.2.2.2
   have J7:Inv X pins σ (upd H5 s2.heap.objs.size (.lst ys)) s6:=J6.w1I (fDs nD5) ⟨z5,its,c,v5,gD6⟩
   obtain⟨mC,hC,_⟩:=I6.loc
   rw[w0i] at hC
   have nC:H5 h2.objs.size=none:=by
    have:=I6.free
    rw[w0i] at this
    exact this
   refine hRR _ _ mC H5 ys s6 J7 (I3.T6 (bI _) ?_) hC nD5 fin
   show upd H5 s2.heap.objs.size (.lst ys) h2.objs.size=none
   rw[z0k (dC hDC)]
   exact nC
  ·have q:=T.item Y eP eW eK eC i _ s5 _ H5 noE I5p (fps fr5) st5 go
   rw[eA] at q
   refine thn q fun r s6 ⟨u,hr,h6⟩=>?_
   subst hr
   refine thn h6 fun _ s7 ⟨x,H7,I7,r7,y7,st7,fr7⟩=>?_
   have I7p:=I7.pinned (fps fr7) (T.obj _ _ st7)
   have st:=og _ _ _ _ (step x H7 y7)
   have q2:=HG _ s7 _ H7 x u _ I7p r7 st
   rw[eE,eP,eW,eA,Z2] at q2
   refine thn q2 fun _ s8 ⟨σ8,H8,I8,q8,fr8⟩=>?_
   have q3:=HT _ s8 σ8 H8 _ I8 q8
   rw[eE,eP,eW,eA,Z2] at q3
   refine thn q3 fun ok s9 ⟨H9,I9,q9⟩=>?_
   have back:∀{H':Hp}{s':Shared},Inv Y ([(s2.heap.objs.size,({ cls:=.type "list",data:=.seq its.toArray c }:Obj))]++y17 fp s7.heap) σ8 H' s'->
     Inv Y [] (z8c own.length ix σ) H' s'/\tn (i+1) s'.heap/\(∀b∈fp,H' b=none)/\H' s2.heap.objs.size=none/\s'.heap.get? s2.heap.objs.size=some { cls:=.type "list",data:=.seq its.toArray c }:=fun {H' s'} I'=>by
    have pD:=I'.pin (s2.heap.objs.size,{ cls:=.type "list",data:=.seq its.toArray c }) (cI _ (cQ _ (by simp)))
    refine⟨(I'.Q4 (pins':=[]) fun p hp=>nomatch hp).weak fr8.1.symm fun j v e=>?_,T.keep _ _ _ st7 fun b hb o e=>(I'.pin (b,o) (cI _ (cI _ (z5a hb e)))).1,fun b hb=>?_,pD.2.1,pD.1⟩
    ·by_cases hj:j<own.length
     ·have e':(List.replicate own.length none++ix.map fun i=>(σ[i]?).join:St)[j]? = some (some v):=e
      rw[dN (by simpa using hj),j3,if_pos hj] at e'
      cases e'
     ·rw[fr8.2 j (k9 hj)]
      exact e
    ·obtain⟨o,e,d⟩:=T.obj _ _ st7 b hb
     exact(I'.pin (b,o) (cI _ (cI _ (z5a hb e)))).2.1
   cases ok with
   | false=>
    obtain⟨m',hm,w9⟩:=hN _ _ (show N ys H9 from q9)
    obtain⟨b1,b2,b3,b4,b5⟩:=back I9
    exact⟨m',hm,i+1,ys,its,c,H9,b1,b2,b3,b4,v5,b5,z5,w9⟩
   | true=>
    have q9':te σ8 H9 fun y H4=>N (ys++[y]) H4:=q9
    have q4:=HE _ s9 σ8 H9 _ I9 q9'
    rw[eE,eP,eW,eA,Z2] at q4
    refine thn q4 fun yv s10 ⟨y,H10,I10,r10,n10⟩=>?_
    obtain⟨b1,b2,b3,b4,b5⟩:=back I10
    obtain⟨m',hm,w10⟩:=hN _ _ n10
    have hl:=v5.length
    refine call_meets bX ⟨_,b5,rfl⟩ PySem.F.entry_list_append (PySem.F.args_list_append_2 _ _) (PySem.list_append s2.heap.objs.size its.toArray c yv (by rw[bJ];lia)) ⟨b5,?_⟩
    have q5:=PySem.IsL.update b5 (fun a=>a.push yv)
    have e5:its.toArray.push yv=(its++[yv]).toArray:=by simp
    rw[e5] at q5
    have k5:∀b o,b≠s2.heap.objs.size->s10.heap.get? b=some o->(s10.heap.update s2.heap.objs.size (Obj.mapSeq fun a=>a.push yv)).get? b=some o:=fun b o hb e=>
     (cW s10.heap (Obj.mapSeq fun a=>a.push yv) (dC hb)).trans e
    obtain⟨f0,f1,f2',f3,f4,f5⟩:=fY (pl:=[]) (H':=H10) (b:=s2.heap.objs.size) cC b4 (fun p hp=>nomatch hp)
    have b1':=b1.turned (t':=s10.toks) k5 f0 f1 f3 f4 f5
    refine⟨m',hm,i+1,ys++[y],its++[yv],_,H10,b1',T.keep _ _ _ b2 fun b hb o e=>k5 b o (fun z=>hDfp (by rw[<- z];exact hb)) e,b3,b4,v5.append (.cons r10 .nil),q5,?_,w10⟩
    ·rw[bN,eM]
     lia
 exact codeAny_compStart_list (loop _ rfl) (T.self _ 0 _ _ _ (T.keep _ _ _ st2 fun b _ o e=>X2 b o (Y9 b o e)) (loop _ rfl))
noncomputable def y8n(own:Nat)(ix:List Nat)(wi:TI)(g:TG)(tc:TT)(te:TE):TE:=fun σ H Q=>y8a own ix wi g tc te σ H fun ys H'=>∀D,H' D=none->Q (.ref D) (upd H' D (.lst ys))
theorem z15{elt iter tg:Expr}{ifs:List Expr}{pos:Pos}{wi:TI}{g:TG}{tc:TT}{te:TE}(own F7:List Str)(ix:List Nat)
  (hc:X.calm=true) (S:K2 X scope cl own F7 ix) (hi:PI X tg iter wi)
  (hg:∀C s3 H1 ex pn,PG (z4n X scope cl (own++F7) C s3 H1 ex pn) tg g) (og:W4 own.length g) (mg:y0U g)
  (ht:∀C s3 H1 ex pn,PTs (z4n X scope cl (own++F7) C s3 H1 ex pn) ifs tc)
  (he:∀C s3 H1 ex pn,PE (z4n X scope cl (own++F7) C s3 H1 ex pn) elt te)
  (hs:∀x,foldedSetIterable iter X.env x=pure x:=by intro _;rfl) :
  PE X (.ListComp elt [⟨tg,iter,ifs,0⟩] scope pos) (y8n own.length ix wi g tc te):=by
 intro pins s σ H Q I h
 rw[eval_ListComp]
 refine wpAny_comprehension_free (use:=none) rfl hs (z7J S.W8) S.kind S.names (thn (hi pins s σ H _ I h) fun v s1 h1=>thn h1 fun itv s2 h2=>?_)
 refine z9o (RR:=fun acc C=>compPost (model X.prog X.w) X.A X.xe none (EP X pins σ Q) acc C) S hc hg og mg ht he h2 ?_
 intro D C m H' ys s' I' fC hn hD fin
 refine⟨m,hn,fun h' sb=>?_⟩
 obtain⟨f0,f1,f2,f3,f4,f5⟩:=fC
 have I2:=I'.turned (t':=s'.toks) (h':=h') (it:=C) (fun b o hb e=>(sb.2 b hb).trans e) f0 f1 f3 f4 f5
 exact⟨.ref D,_,I2,rfl,fin D hD⟩
theorem z5C{elt iter tg:Expr}{ifs:List Expr}{pos pos' spos:Pos}{x:Str}{i:Nat}{wi:TI}{g:TG}{tc:TT}{te:TE}(own F7:List Str)(ix:List Nat)
  (hc:X.calm=true) (hN:X.N.Nodup) (hx:X.N[i]? = some x) (hl:Loc X.env.scope x) (S:K2 X scope cl own F7 ix) (hi:PI X tg iter wi)
  (hg:∀C s3 H1 ex pn,PG (z4n X scope cl (own++F7) C s3 H1 ex pn) tg g) (og:W4 own.length g) (mg:y0U g)
  (ht:∀C s3 H1 ex pn,PTs (z4n X scope cl (own++F7) C s3 H1 ex pn) ifs tc)
  (he:∀C s3 H1 ex pn,PE (z4n X scope cl (own++F7) C s3 H1 ex pn) elt te)
  (hsw:swapsWith (.ListComp elt [⟨tg,iter,ifs,0⟩] scope pos) (some (.Name x pos')) spos.line X.env=pure true:=by rfl)
  (hf:X.fn x=true\/X.env.scope.names.lookup x=some .local:=by first|exact .inl rfl|exact .inr rfl|assumption)
  (hs:∀x,foldedSetIterable iter X.env x=pure x:=by intro _;rfl) :
  PS X (.Assign [.Name x pos'] (.ListComp elt [⟨tg,iter,ifs,0⟩] scope pos) spos) (w0o (y8n own.length ix wi g tc te) (y3Y i)):=by
 intro pins s σ H D I h
 rw[exec_Assign_Name_used _ _ _ _ hsw]
 refine wpAny_bind (wpAny_standAt (wpAny_bind ?_))
 show wpAny _ X.A (do let _ <- comprehension (.ListComp elt [⟨tg,iter,ifs,0⟩] scope pos) scope X.env _ (newList []) false (eval iter X.env) (some (assign (.Name x pos') X.env))) _ _ s
 refine wpAny_bind (wpAny_mono (wpAny_comprehension_free (use:=some (assign (.Name x pos') X.env)) (Q:=fun _ s'=>SP X pins D .next s') rfl hs (z7J S.W8) S.kind S.names
  (thn (hi pins s σ H _ I h) fun v s1 h1=>thn h1 fun itv s2 h2=>?_)) (fun _ s' hq=>wpAny_pure (wpAny_pure hq)) fun _ _ e=>e)
 refine z9o (RR:=fun acc C=>compPost (model X.prog X.w) X.A X.xe (some (assign (.Name x pos') X.env)) (fun _ s'=>SP X pins D .next s') acc C) S hc hg og mg ht he h2 ?_
 intro D' C m H' ys s' I' fC hn hD fin
 obtain⟨f0,f1,f2,f3,f4,f5⟩:=fC
 obtain⟨oC,es,ep,hoC,hdC,hr⟩:=id hn
 show wpAny _ X.A (assign (.Name x pos') X.env (.ref D')) _ _ _
 have Ip:Inv X (pins++[(C,oC)]) σ (upd H' D' (.lst ys)) s':=I'.Q4 fun p hp=>(bS.mp hp).elim (fun z=>I'.pin p (cI _ z)) fun z=>by
  have e:p=(C,oC):=by simpa using z
  subst e
  exact⟨hoC,f0,f1,f2,fun v z=>by rw[hdC] at z;cases z⟩
 refine thn (z0j hN hx hl hf (pins++[(C,oC)]) s' σ _ (.ref D') (.ref D') _ Ip rfl (fin D' hD)) fun _ s3 ⟨σ3,H3,I3,q3⟩=>?_
 have pC:=I3.pin (C,oC) (cI _ (cI _ (by simp)))
 refine⟨m,⟨oC,es,ep,pC.1,hdC,hr⟩,fun h' sb=>?_⟩
 have I4:Inv X pins σ3 H3 s3:=I3.Q8
 exact⟨σ3,H3,I4.turned (t':=s3.toks) (h':=h') (it:=C) (fun b o hb e=>(sb.2 b hb).trans e) pC.2.1 f1 f3 f4 f5,q3⟩
end
section
variable{prog:Program}{w:World}{A:Around}{R:Result->Shared->Prop}{I:Addr}{fp wr:List Addr}{n:Nat}{P:Nat->Value->Prop}{St:Nat->Heap->Prop}
theorem y5v(W:Walks prog w A.in1 I fp wr n P St)(bt:Nat->Nat->Bool)(S7:CmpOf prog w A.in1 .Gt P bt)(S:Addr)(hSf:S∉fp)(kw:List (Str×Value)) :
  ∀(k j:Nat) (s:Shared) (vb:Value) (c:Nat),n-(j+1)=k->j+1≤n->St (j+1) s.heap->P (argBest bt j) vb->
  s.heap.get? S=some { cls:=.type "list",dict:=none,data:=.seq #[vb,vb] c,slots:=#[] }->
  (∀v h' tk,P (argBest bt (n-1)) v->(∀b o,b∉wr->b≠S->s.heap.get? b=some o->h'.get? b=some o)->R (.ok (.ret v)) { s with heap:=h',toks:=tk })->
  codeAny (model prog w) A (.builtin "max.loop" ⟨[.ref I,.none,.ref S],kw⟩) R s:=by
 have hSw:S∉wr:=fun h=>hSf (W.sub _ h)
 have N0:(toString "max"++toString ".loop":String)="max.loop":=by decide
 intro k
 induction k with
 | zero=>
  intro j s vb c hk hj hst hPb hS hR
  have hin:j+1=n:=by lia
  refine codeAny_builtin gB ?_
  rw[cP dJ _]
  show wpAny _ A.in1 (seqItems? (.ref S) >>= _) _ _ s
  refine wpAny_bind (wpAny_seqItems hS rfl ?_)
  show wpAny _ A.in1 (tryCatch (pyNext (.ref I)) _ >>= _) _ _ s
  refine wpAny_bind (wpAny_tryCatch (W.done s _ _ (hin ▸ hst) fun h' tk hk'=>?_))
  have hS':=hk' S _ hSw hS
  show wpAny _ A.in1 (updateSeq S (fun _=>#[]) >>= _) _ _ _
  refine wpAny_bind ?_
  refine wpAny_updateSeq hS' rfl (wpAny_bind (wpAny_letGo (wpAny_pure ?_)))
  refine hR vb _ tk (by rw[<- hin];exact hPb) fun b o hbw hbS e=>(cW _ _ (dC hbS)).trans (hk' b o hbw e)
 | succ k ih=>
  intro j s vb c hk hj hst hPb hS hR
  have hlt:j+1<n:=by lia
  refine codeAny_builtin gB ?_
  rw[cP dJ _]
  show wpAny _ A.in1 (seqItems? (.ref S) >>= _) _ _ s
  refine wpAny_bind (wpAny_seqItems hS rfl ?_)
  show wpAny _ A.in1 (tryCatch (pyNext (.ref I)) _ >>= _) _ _ s
  refine wpAny_bind (wpAny_tryCatch (W.item (j+1) s _ _ hlt hst fun v h' tk hP hst' hk'=>?_))
  have hS':=hk' S _ hSw hS
  show wpAny _ A.in1 (tryCatch (holding [v,v] (richCompare .Gt v vb >>= _)) _ >>= _) _ _ _
  refine wpAny_bind (wpAny_tryCatch (wpAny_holding (wpAny_bind (S7 (j+1) (argBest bt j) v vb _ _ _ hP hPb ?_))))
  refine wpAny_bind (wpAny_holding (wpAny_truthy_bool ?_))
  refine wpAny_bind (wpAny_letGo (wpAny_pure ?_))
  cases hb:bt (j+1) (argBest bt j) with
  | true=>
   simp only[if_true]
   refine wpAny_bind ?_
   refine wpAny_updateSeq hS' rfl (wpAny_bind (wpAny_letGo ?_))
   rw[N0]
   refine wpAny_pure ⟨plainId_quiet dJ _,ih (j+1) _ v _ (by lia) hlt (W.frame _ _ _ hst' fun b hbf o e=>?_) (by simp only[argBest,hb,if_true];exact hP) (dQ _ hS' rfl)
    fun v' h'' tk'' hP' hk''=>?_⟩
   ·exact(cW _ _ (fun h:S=b=>hSf (by rw[h];exact hbf))).trans e
   ·exact hR v' h'' tk'' hP' fun b o hbw hbS e=>hk'' b o hbw hbS ((cW _ _ (dC hbS)).trans (hk' b o hbw e))
  | false=>
   simp only[eY,if_false]
   refine wpAny_bind (wpAny_letGo ?_)
   rw[N0]
   refine wpAny_pure ⟨plainId_quiet dJ _,ih (j+1) _ vb c (by lia) hlt hst' (by simp only[argBest,hb,eY,if_false];exact hPb) hS' fun v' h'' tk'' hP' hk''=>?_⟩
   exact hR v' h'' tk'' hP' fun b o hbw hbS e=>hk'' b o hbw hbS (hk' b o hbw e)
theorem y4N(W:Walks prog w A.in1 I fp wr n P St)(bt:Nat->Nat->Bool)(S7:CmpOf prog w A.in1 .Gt P bt)(S:Addr)(hSf:S∉fp)(kw:List (Str×Value))(hn:0<n){s:Shared}{c:Nat}(hst:St 0 s.heap)
  (hS:s.heap.get? S=some { cls:=.type "list",dict:=none,data:=.seq #[] c,slots:=#[] })
  (hR:∀v h' tk,P (argBest bt (n-1)) v->(∀b o,b∉wr->b≠S->s.heap.get? b=some o->h'.get? b=some o)->R (.ok (.ret v)) { s with heap:=h',toks:=tk }) :
  codeAny (model prog w) A (.builtin "max.loop" ⟨[.ref I,.none,.ref S],kw⟩) R s:=by
 have hSw:S∉wr:=fun h=>hSf (W.sub _ h)
 have N0:(toString "max"++toString ".loop":String)="max.loop":=by decide
 refine codeAny_builtin gB ?_
 rw[cP dJ _]
 show wpAny _ A.in1 (seqItems? (.ref S) >>= _) _ _ s
 refine wpAny_bind (wpAny_seqItems hS rfl ?_)
 show wpAny _ A.in1 (tryCatch (pyNext (.ref I)) _ >>= _) _ _ s
 refine wpAny_bind (wpAny_tryCatch (W.item 0 s _ _ hn hst fun v h' tk hP hst' hk'=>?_))
 have hS':=hk' S _ hSw hS
 show wpAny _ A.in1 (updateSeq S (fun _=>#[v,v]) >>= _) _ _ _
 refine wpAny_bind ?_
 refine wpAny_updateSeq hS' rfl ?_
 rw[N0]
 refine wpAny_pure ⟨plainId_quiet dJ _,y5v W bt S7 S hSf kw _ 0 _ v _ rfl hn (W.frame _ _ _ hst' fun b hbf o e=>?_) hP (dQ _ hS' rfl) fun v' h'' tk'' hP' hk''=>?_⟩
 ·exact(cW _ _ (fun h:S=b=>hSf (by rw[h];exact hbf))).trans e
 ·exact hR v' h'' tk'' hP' fun b o hbw hbS e=>hk'' b o hbw hbS ((cW _ _ (dC hbS)).trans (hk' b o hbw e))
theorem y5D(W:Walks prog w A.in1 I fp wr n P St)(S:Addr)(hSf:S∉fp)(kn:Str)(d:Value)(hn:n=0){s:Shared}{c:Nat}(hst:St 0 s.heap)
  (hS:s.heap.get? S=some { cls:=.type "list",dict:=none,data:=.seq #[] c,slots:=#[] })
  (hR:∀h' tk,(∀b o,b∉wr->s.heap.get? b=some o->h'.get? b=some o)->R (.ok (.ret d)) { s with heap:=h',toks:=tk }) :
  codeAny (model prog w) A (.builtin "max.loop" ⟨[.ref I,.none,.ref S],[(kn,d)]⟩) R s:=by
 refine codeAny_builtin gB ?_
 rw[cP dJ _]
 show wpAny _ A.in1 (seqItems? (.ref S) >>= _) _ _ s
 refine wpAny_bind (wpAny_seqItems hS rfl ?_)
 show wpAny _ A.in1 (tryCatch (pyNext (.ref I)) _ >>= _) _ _ s
 refine wpAny_bind (wpAny_tryCatch (W.done s _ _ (hn ▸ hst) fun h' tk hk'=>?_))
 exact wpAny_bind (wpAny_rule (wpAny_pure (hR h' tk hk')))
theorem z7M(a v:Value):argsOk "max" ⟨[a],[(Str.ofString "default",v)]⟩:=by unfold argsOk;kernel_rfl
theorem y6k{x d:Value}{s:Shared}{E:Value->Shared->Prop}{Q:Value->Shared->Prop}
  (h:wpAny (model prog w) A.in1 (pyIter x) (fun it s2=>∃I fp wr n P St bt,it=.ref I/\Walks prog w A.in1 I fp wr n P St/\St 0 s2.heap/\(∀b∈fp,b<s2.heap.objs.size)/\CmpOf prog w A.in1 .Gt P bt/\
   (n=0->∀h' tk,(∀b o,b∉wr->s2.heap.get? b=some o->h'.get? b=some o)->Q d { s2 with heap:=h',toks:=tk })/\
   (0<n->∀v h' tk,P (argBest bt (n-1)) v->(∀b o,b∉wr->s2.heap.get? b=some o->h'.get? b=some o)->Q v { s2 with heap:=h',toks:=tk })) E s) :
  wpAny (model prog w) A (call (.builtin "max") [x] [(Str.ofString "default",d)]) Q E s:=by
 have N0:(toString "max"++toString ".loop":String)="max.loop":=by decide
 refine kmk_tree PySem.F.kind_max PySem.F.plain_max PySem.F.entry_max (z7M _ _) ?_
 show wpAny _ A.in1 (Builtin.Builtins.bindParams "max" ["key","default"] 0 ⟨[],[(Str.ofString "default",d)]⟩ >>= _) _ _ s
 refine wpAny_bind (wpAny_of_eq (show Builtin.Builtins.bindParams "max" ["key","default"] 0 ⟨[],[(Str.ofString "default",d)]⟩=pure [none,some d] from by kernel_rfl) ?_)
 refine wpAny_bind (wpAny_pure ?_)
 refine wpAny_bind (wpAny_mono h (fun it s2 h2=>?_) fun _ _ e=>e)
 obtain⟨I,fp,wr,n,P,St,bt,rfl,W,hst,hfp,S7,hQ0,hQ⟩:=h2
 refine wpAny_bind (wpAny_newObj_type ?_)
 have hSf:s2.heap.objs.size∉fp:=fun hm=>dP _ (hfp _ hm)
 rw[N0]
 refine wpAny_pure ⟨plainId_quiet dJ _,?_⟩
 by_cases hn:n=0
 ·exact y5D W s2.heap.objs.size hSf _ d hn (W.frame _ _ _ hst fun b _ o e=>bA _ e) (bL _ rfl) fun h' tk hk=>hQ0 hn h' tk fun b o hbw e=>hk b o hbw (bA _ e)
 ·exact y4N W bt S7 s2.heap.objs.size hSf _ (hE hn) (W.frame _ _ _ hst fun b _ o e=>bA _ e) (bL _ rfl) fun v h' tk hP hk=>
   hQ (hE hn) v h' tk hP fun b o hbw e=>hk b o hbw (cJ (bQ e)) (bA _ e)
theorem y5x(W:Walks prog w A.in1 I fp wr n P St)(bt:Nat->Nat->Bool)(S7:CmpOf prog w A.in1 .Lt P bt)(S:Addr)(hSf:S∉fp)(kw:List (Str×Value)) :
  ∀(k j:Nat) (s:Shared) (vb:Value) (c:Nat),n-(j+1)=k->j+1≤n->St (j+1) s.heap->P (argBest bt j) vb->
  s.heap.get? S=some { cls:=.type "list",dict:=none,data:=.seq #[vb,vb] c,slots:=#[] }->
  (∀v h' tk,P (argBest bt (n-1)) v->(∀b o,b∉wr->b≠S->s.heap.get? b=some o->h'.get? b=some o)->R (.ok (.ret v)) { s with heap:=h',toks:=tk })->
  codeAny (model prog w) A (.builtin "min.loop" ⟨[.ref I,.none,.ref S],kw⟩) R s:=by
 have hSw:S∉wr:=fun h=>hSf (W.sub _ h)
 have N0:(toString "min"++toString ".loop":String)="min.loop":=by decide
 intro k
 induction k with
 | zero=>
  intro j s vb c hk hj hst hPb hS hR
  have hin:j+1=n:=by lia
  refine codeAny_builtin gH ?_
  rw[cP dL _]
  show wpAny _ A.in1 (seqItems? (.ref S) >>= _) _ _ s
  refine wpAny_bind (wpAny_seqItems hS rfl ?_)
  show wpAny _ A.in1 (tryCatch (pyNext (.ref I)) _ >>= _) _ _ s
  refine wpAny_bind (wpAny_tryCatch (W.done s _ _ (hin ▸ hst) fun h' tk hk'=>?_))
  have hS':=hk' S _ hSw hS
  show wpAny _ A.in1 (updateSeq S (fun _=>#[]) >>= _) _ _ _
  refine wpAny_bind ?_
  refine wpAny_updateSeq hS' rfl (wpAny_bind (wpAny_letGo (wpAny_pure ?_)))
  refine hR vb _ tk (by rw[<- hin];exact hPb) fun b o hbw hbS e=>(cW _ _ (dC hbS)).trans (hk' b o hbw e)
 | succ k ih=>
  intro j s vb c hk hj hst hPb hS hR
  have hlt:j+1<n:=by lia
  refine codeAny_builtin gH ?_
  rw[cP dL _]
  show wpAny _ A.in1 (seqItems? (.ref S) >>= _) _ _ s
  refine wpAny_bind (wpAny_seqItems hS rfl ?_)
  show wpAny _ A.in1 (tryCatch (pyNext (.ref I)) _ >>= _) _ _ s
  refine wpAny_bind (wpAny_tryCatch (W.item (j+1) s _ _ hlt hst fun v h' tk hP hst' hk'=>?_))
  have hS':=hk' S _ hSw hS
  show wpAny _ A.in1 (tryCatch (holding [v,v] (richCompare .Lt v vb >>= _)) _ >>= _) _ _ _
  refine wpAny_bind (wpAny_tryCatch (wpAny_holding (wpAny_bind (S7 (j+1) (argBest bt j) v vb _ _ _ hP hPb ?_))))
  refine wpAny_bind (wpAny_holding (wpAny_truthy_bool ?_))
  refine wpAny_bind (wpAny_letGo (wpAny_pure ?_))
  cases hb:bt (j+1) (argBest bt j) with
  | true=>
   simp only[if_true]
   refine wpAny_bind ?_
   refine wpAny_updateSeq hS' rfl (wpAny_bind (wpAny_letGo ?_))
   rw[N0]
   refine wpAny_pure ⟨plainId_quiet dL _,ih (j+1) _ v _ (by lia) hlt (W.frame _ _ _ hst' fun b hbf o e=>?_) (by simp only[argBest,hb,if_true];exact hP) (dQ _ hS' rfl)
    fun v' h'' tk'' hP' hk''=>?_⟩
   ·exact(cW _ _ (fun h:S=b=>hSf (by rw[h];exact hbf))).trans e
   ·exact hR v' h'' tk'' hP' fun b o hbw hbS e=>hk'' b o hbw hbS ((cW _ _ (dC hbS)).trans (hk' b o hbw e))
  | false=>
   simp only[eY,if_false]
   refine wpAny_bind (wpAny_letGo ?_)
   rw[N0]
   refine wpAny_pure ⟨plainId_quiet dL _,ih (j+1) _ vb c (by lia) hlt hst' (by simp only[argBest,hb,eY,if_false];exact hPb) hS' fun v' h'' tk'' hP' hk''=>?_⟩
   exact hR v' h'' tk'' hP' fun b o hbw hbS e=>hk'' b o hbw hbS (hk' b o hbw e)
theorem y3O(W:Walks prog w A.in1 I fp wr n P St)(bt:Nat->Nat->Bool)(S7:CmpOf prog w A.in1 .Lt P bt)(S:Addr)(hSf:S∉fp)(kw:List (Str×Value))(hn:0<n){s:Shared}{c:Nat}(hst:St 0 s.heap)
  (hS:s.heap.get? S=some { cls:=.type "list",dict:=none,data:=.seq #[] c,slots:=#[] })
  (hR:∀v h' tk,P (argBest bt (n-1)) v->(∀b o,b∉wr->b≠S->s.heap.get? b=some o->h'.get? b=some o)->R (.ok (.ret v)) { s with heap:=h',toks:=tk }) :
  codeAny (model prog w) A (.builtin "min.loop" ⟨[.ref I,.none,.ref S],kw⟩) R s:=by
 have hSw:S∉wr:=fun h=>hSf (W.sub _ h)
 have N0:(toString "min"++toString ".loop":String)="min.loop":=by decide
 refine codeAny_builtin gH ?_
 rw[cP dL _]
 show wpAny _ A.in1 (seqItems? (.ref S) >>= _) _ _ s
 refine wpAny_bind (wpAny_seqItems hS rfl ?_)
 show wpAny _ A.in1 (tryCatch (pyNext (.ref I)) _ >>= _) _ _ s
 refine wpAny_bind (wpAny_tryCatch (W.item 0 s _ _ hn hst fun v h' tk hP hst' hk'=>?_))
 have hS':=hk' S _ hSw hS
 show wpAny _ A.in1 (updateSeq S (fun _=>#[v,v]) >>= _) _ _ _
 refine wpAny_bind ?_
 refine wpAny_updateSeq hS' rfl ?_
 rw[N0]
 refine wpAny_pure ⟨plainId_quiet dL _,y5x W bt S7 S hSf kw _ 0 _ v _ rfl hn (W.frame _ _ _ hst' fun b hbf o e=>?_) hP (dQ _ hS' rfl) fun v' h'' tk'' hP' hk''=>?_⟩
 ·exact(cW _ _ (fun h:S=b=>hSf (by rw[h];exact hbf))).trans e
 ·exact hR v' h'' tk'' hP' fun b o hbw hbS e=>hk'' b o hbw hbS ((cW _ _ (dC hbS)).trans (hk' b o hbw e))
theorem y6d(W:Walks prog w A.in1 I fp wr n P St)(S:Addr)(hSf:S∉fp)(kn:Str)(d:Value)(hn:n=0){s:Shared}{c:Nat}(hst:St 0 s.heap)
  (hS:s.heap.get? S=some { cls:=.type "list",dict:=none,data:=.seq #[] c,slots:=#[] })
  (hR:∀h' tk,(∀b o,b∉wr->s.heap.get? b=some o->h'.get? b=some o)->R (.ok (.ret d)) { s with heap:=h',toks:=tk }) :
  codeAny (model prog w) A (.builtin "min.loop" ⟨[.ref I,.none,.ref S],[(kn,d)]⟩) R s:=by
 refine codeAny_builtin gH ?_
 rw[cP dL _]
 show wpAny _ A.in1 (seqItems? (.ref S) >>= _) _ _ s
 refine wpAny_bind (wpAny_seqItems hS rfl ?_)
 show wpAny _ A.in1 (tryCatch (pyNext (.ref I)) _ >>= _) _ _ s
 refine wpAny_bind (wpAny_tryCatch (W.done s _ _ (hn ▸ hst) fun h' tk hk'=>?_))
 exact wpAny_bind (wpAny_rule (wpAny_pure (hR h' tk hk')))
theorem z7N(a v:Value):argsOk "min" ⟨[a],[(Str.ofString "default",v)]⟩:=by unfold argsOk;kernel_rfl
theorem y5B{x d:Value}{s:Shared}{E:Value->Shared->Prop}{Q:Value->Shared->Prop}
  (h:wpAny (model prog w) A.in1 (pyIter x) (fun it s2=>∃I fp wr n P St bt,it=.ref I/\Walks prog w A.in1 I fp wr n P St/\St 0 s2.heap/\(∀b∈fp,b<s2.heap.objs.size)/\CmpOf prog w A.in1 .Lt P bt/\
   (n=0->∀h' tk,(∀b o,b∉wr->s2.heap.get? b=some o->h'.get? b=some o)->Q d { s2 with heap:=h',toks:=tk })/\
   (0<n->∀v h' tk,P (argBest bt (n-1)) v->(∀b o,b∉wr->s2.heap.get? b=some o->h'.get? b=some o)->Q v { s2 with heap:=h',toks:=tk })) E s) :
  wpAny (model prog w) A (call (.builtin "min") [x] [(Str.ofString "default",d)]) Q E s:=by
 have N0:(toString "min"++toString ".loop":String)="min.loop":=by decide
 refine kmk_tree PySem.F.kind_min PySem.F.plain_min PySem.F.entry_min (z7N _ _) ?_
 show wpAny _ A.in1 (Builtin.Builtins.bindParams "min" ["key","default"] 0 ⟨[],[(Str.ofString "default",d)]⟩ >>= _) _ _ s
 refine wpAny_bind (wpAny_of_eq (show Builtin.Builtins.bindParams "min" ["key","default"] 0 ⟨[],[(Str.ofString "default",d)]⟩=pure [none,some d] from by kernel_rfl) ?_)
 refine wpAny_bind (wpAny_pure ?_)
 refine wpAny_bind (wpAny_mono h (fun it s2 h2=>?_) fun _ _ e=>e)
 obtain⟨I,fp,wr,n,P,St,bt,rfl,W,hst,hfp,S7,hQ0,hQ⟩:=h2
 refine wpAny_bind (wpAny_newObj_type ?_)
 have hSf:s2.heap.objs.size∉fp:=fun hm=>dP _ (hfp _ hm)
 rw[N0]
 refine wpAny_pure ⟨plainId_quiet dL _,?_⟩
 by_cases hn:n=0
 ·exact y6d W s2.heap.objs.size hSf _ d hn (W.frame _ _ _ hst fun b _ o e=>bA _ e) (bL _ rfl) fun h' tk hk=>hQ0 hn h' tk fun b o hbw e=>hk b o hbw (bA _ e)
 ·exact y3O W bt S7 s2.heap.objs.size hSf _ (hE hn) (W.frame _ _ _ hst fun b _ o e=>bA _ e) (bL _ rfl) fun v h' tk hP hk=>
   hQ (hE hn) v h' tk hP fun b o hbw e=>hk b o hbw (cJ (bQ e)) (bA _ e)
end
theorem z9M(f:Nat->Int):∀k,argBest (fun i j=>decide (f i > f j)) k≤k/\∀i,i≤k->f i≤f (argBest (fun i j=>decide (f i > f j)) k)
 | 0=>⟨bI _,fun i hi=>by rw[Nat.le_zero.mp hi];exact eS _⟩
 | k+1=>by
  obtain⟨h1,h2⟩:=z9M f k
  unfold argBest
  by_cases c:f (k+1) > f (argBest (fun i j=>decide (f i > f j)) k)
  ·rw[if_pos (decide_eq_true c)]
   refine⟨bI _,fun i hi=>?_⟩
   by_cases e:i=k+1
   ·rw[e];exact eS _
   ·have:=h2 i (by lia)
    lia
  ·rw[if_neg (by rw[decide_eq_false c];exact bM)]
   refine⟨by lia,fun i hi=>?_⟩
   by_cases e:i=k+1
   ·rw[e];lia
   ·exact h2 i (by lia)
theorem y05(f:Nat->Int):∀k,argBest (fun i j=>decide (f i<f j)) k≤k/\∀i,i≤k->f (argBest (fun i j=>decide (f i<f j)) k)≤f i
 | 0=>⟨bI _,fun i hi=>by rw[Nat.le_zero.mp hi];exact eS _⟩
 | k+1=>by
  obtain⟨h1,h2⟩:=y05 f k
  unfold argBest
  by_cases c:f (k+1)<f (argBest (fun i j=>decide (f i<f j)) k)
  ·rw[if_pos (decide_eq_true c)]
   refine⟨bI _,fun i hi=>?_⟩
   by_cases e:i=k+1
   ·rw[e];exact eS _
   ·have:=h2 i (by lia)
    lia
  ·rw[if_neg (by rw[decide_eq_false c];exact bM)]
   refine⟨by lia,fun i hi=>?_⟩
   by_cases e:i=k+1
   ·rw[e];lia
   ·exact h2 i (by lia)
section
variable{X:Cx}
noncomputable def SqI(K:PySem.W.Frag)(H:Hp)(p:Addr)(ns:List Int):Prop:=SqL K H p (ns.map V.int)\/SqT K H p (ns.map V.int)
theorem z3s{ns:List Int}{its:List Value}(r:Vals (ns.map V.int) its):∀(i:Nat) (v:Value),its.toArray[i]? = some v->∃t,v=.int (ns.getD i 0) t:=by
 intro i v e
 have e':its[i]? = some v:=by simpa using e
 have hi:i<its.length:=(bV.mp e').1
 have hl:=r.length
 rw[b9] at hl
 obtain⟨u,hu,ru⟩:=r.get (i:=i) (x:=.int (ns.getD i 0)) (by
  rw[bC,bK]
  have:ns[i]? = some ns[i]:=bD (by lia)
  rw[this];rfl)
 rw[e'] at hu
 cases hu
 exact ru
theorem z6d{pins:List (Addr×Obj)}{σ:St}{H:Hp}{s:Shared}{p:Addr}{ns:List Int}{A:Around}{E:Value->Shared->Prop}{Q:Value->Shared->Prop}(I:Inv X pins σ H s)(hh:A.handled=none)(hq:SqI X.K H p ns)
  (h:∀(it:Addr) (fp:List Addr) (St:Nat->Heap->Prop) (its:List Value) (s2:Shared),Vals (ns.map V.int) its->Walks X.prog X.w A it fp [it] its.toArray.size (fun i v=>its.toArray[i]? = some v) St->St 0 s2.heap->(∀b∈fp,b<s2.heap.objs.size)->
   (∀h' tk,(∀b o,b∉[it]->s2.heap.get? b=some o->h'.get? b=some o)->Inv X pins σ H { s2 with heap:=h',toks:=tk })->Q (.ref it) s2) :
  wpAny (model X.prog X.w) A (pyIter (.ref p)) Q E s:=by
 have back:∀(o:Obj) (h':Heap) (tk:Nat),(∀b ob,b∉[s.heap.objs.size]->(s.heap.push o).get? b=some ob->h'.get? b=some ob)->Inv X pins σ H { s with heap:=h',toks:=tk }:=fun o h' tk k=>
  I.kept fun b ob e=>k b ob (fun z=>absurd (bQ e) (by rw[bB.mp z];exact dP _)) (bA _ e)
 rcases hq with hq|hq
 ·obtain⟨its,r,pl,hz⟩:=I.list hq
  have hlt:p<s.heap.objs.size:=by obtain⟨_,e,_⟩:=pl.isList;exact bQ e
  refine wpAny_pyIter_list pl.isList ?_
  refine h s.heap.objs.size [s.heap.objs.size,p] _ its _ r (Walks.list hh s.heap.objs.size p (cJ hlt) its.toArray) ⟨⟨_,bL _ rfl,rfl,rfl⟩,pl.isList.push _⟩ (fun b hb=>?_) fun h' tk k=>back _ h' tk k
  show b<(s.heap.push _).objs.size
  rw[dY]
  rcases bE.mp hb with rfl|hb
  ·exact gM _
  ·rw[bB.mp hb];exact fG hlt
 ·obtain⟨its,r,pl,hz⟩:=I.tuple hq
  have hlt:p<s.heap.objs.size:=by obtain⟨_,e,_⟩:=pl;exact bQ e
  refine wpAny_pyIter_tuple (show s.heap.IsTuple p its.toArray from pl) ?_
  refine h s.heap.objs.size [s.heap.objs.size,p] _ its _ r (Walks.tuple hh s.heap.objs.size p (cJ hlt) its.toArray) ⟨⟨_,bL _ rfl,rfl,rfl⟩,?_⟩ (fun b hb=>?_) fun h' tk k=>back _ h' tk k
  ·obtain⟨o,e,c⟩:=(show s.heap.IsTuple p its.toArray from pl)
   exact⟨o,bA _ e,c⟩
  ·show b<(s.heap.push _).objs.size
   rw[dY]
   rcases bE.mp hb with rfl|hb
   ·exact gM _
   ·rw[bB.mp hb];exact fG hlt
noncomputable def y6W(K:PySem.W.Frag)(le:Int->Int->Prop)(ta td:TA):TE:=fun σ H Q=>ta σ H fun xs H1=>td σ H1 fun ds H2=>∃p ns d,xs=[.ref p]/\ds=[d]/\SqI K H2 p ns/\(ns=[]->Q d H2)/\∀m,m∈ns->(∀y∈ns,le y m)->Q (.int m) H2
theorem z7X{ns:List Int}{i:Nat}(h:i<ns.length):ns.getD i 0∈ns:=by
 rw[bK,bD h]
 exact eX h
theorem z7Z{ns:List Int}{y:Int}(h:y∈ns):∃i,i<ns.length/\ns.getD i 0=y:=by
 obtain⟨i,hi,e⟩:=List.mem_iff_getElem.mp h
 refine⟨i,hi,?_⟩
 rw[bK,bD hi]
 exact e
theorem y50{e:Expr}{p pos kp:Pos}{dx:Expr}{ta td:TA}(hc:X.calm=true)(hg:Gl X "max")(hm:X.mg "max"=none)(ha:PA X [e] ta)(hd:PK X [⟨some (Str.ofString "default"),dx,kp⟩] td)
  (he:backTo pos (starEach [e] X.env)=(false,eval e X.env)::backTo pos (starEach [] X.env):=by rfl)
  (S4:(backTo pos (starEach [e] X.env)).any (·.1)=false:=by rfl)
  (C0:(backToKw pos (keywordEach [⟨some (Str.ofString "default"),dx,kp⟩] X.env)).all (·.1.isSome)=true:=by rfl)
  (hkw:(backToKw pos (keywordEach [⟨some (Str.ofString "default"),dx,kp⟩] X.env)).any (·.1.isNone)=false:=by rfl) :
  PE X (.Call (.Name "max" p) [e] [⟨some (Str.ofString "default"),dx,kp⟩] pos) (y6W X.K (fun y m=>y≤m) ta td):=by
 intro pins s σ H Q I h
 refine wpAny_Call_Name_kw (z5p I hg hm dD ?_)
 refine PyProof.Rows.callWith_kw (thn (ha pos pins s σ H _ I h) fun us s1 ⟨vs,H1,I1,r,q⟩=>?_) he S4 C0 hkw
 refine thn (hd pos pins s1 σ H1 _ I1 q) fun ws s2 ⟨zs,H2,I2,rz,q2⟩=>?_
 obtain⟨a,ns,d,e1,e2,hq,q0,q1⟩:=q2
 subst e1 e2
 obtain⟨u,rfl,ru⟩:=z4F r
 cases ru
 obtain⟨dv,rfl,rd⟩:=z4F rz
 show wpAny _ X.A (call (.builtin "max") [.ref a] [(Str.ofString "default",dv)]) _ _ _
 refine y6k (z6d (A:=X.A.in1) I2 (I2.ok.hd hc) hq fun it fp St its s3 rv W st hfp back=>?_)
 have hl:=rv.length
 rw[b9] at hl
 refine⟨it,fp,[it],_,_,St,_,rfl,W,st,hfp,CmpOf.ints_gt (fun i=>ns.getD i 0) (z3s rv),fun hn h' tk k=>?_,fun hn v h' tk hv k=>?_⟩
 ·rw[bJ] at hn
  exact⟨d,H2,back h' tk k,rd,q0 (dZ (by lia))⟩
 ·rw[bJ] at hn hv
  obtain⟨t,rfl⟩:=z3s rv _ _ hv
  obtain⟨b1,b2⟩:=z9M (fun i=>ns.getD i 0) (its.length-1)
  refine⟨.int _,H2,back h' tk k,⟨t,rfl⟩,q1 _ (z7X (by lia)) fun y hy=>?_⟩
  obtain⟨i,hi,rfl⟩:=z7Z hy
  exact b2 i (by lia)
theorem y3L{e:Expr}{p pos kp:Pos}{dx:Expr}{ta td:TA}(hc:X.calm=true)(hg:Gl X "min")(hm:X.mg "min"=none)(ha:PA X [e] ta)(hd:PK X [⟨some (Str.ofString "default"),dx,kp⟩] td)
  (he:backTo pos (starEach [e] X.env)=(false,eval e X.env)::backTo pos (starEach [] X.env):=by rfl)
  (S4:(backTo pos (starEach [e] X.env)).any (·.1)=false:=by rfl)
  (C0:(backToKw pos (keywordEach [⟨some (Str.ofString "default"),dx,kp⟩] X.env)).all (·.1.isSome)=true:=by rfl)
  (hkw:(backToKw pos (keywordEach [⟨some (Str.ofString "default"),dx,kp⟩] X.env)).any (·.1.isNone)=false:=by rfl) :
  PE X (.Call (.Name "min" p) [e] [⟨some (Str.ofString "default"),dx,kp⟩] pos) (y6W X.K (fun y m=>m≤y) ta td):=by
 intro pins s σ H Q I h
 refine wpAny_Call_Name_kw (z5p I hg hm fA ?_)
 refine PyProof.Rows.callWith_kw (thn (ha pos pins s σ H _ I h) fun us s1 ⟨vs,H1,I1,r,q⟩=>?_) he S4 C0 hkw
 refine thn (hd pos pins s1 σ H1 _ I1 q) fun ws s2 ⟨zs,H2,I2,rz,q2⟩=>?_
 obtain⟨a,ns,d,e1,e2,hq,q0,q1⟩:=q2
 subst e1 e2
 obtain⟨u,rfl,ru⟩:=z4F r
 cases ru
 obtain⟨dv,rfl,rd⟩:=z4F rz
 show wpAny _ X.A (call (.builtin "min") [.ref a] [(Str.ofString "default",dv)]) _ _ _
 refine y5B (z6d (A:=X.A.in1) I2 (I2.ok.hd hc) hq fun it fp St its s3 rv W st hfp back=>?_)
 have hl:=rv.length
 rw[b9] at hl
 refine⟨it,fp,[it],_,_,St,_,rfl,W,st,hfp,CmpOf.ints_lt (fun i=>ns.getD i 0) (z3s rv),fun hn h' tk k=>?_,fun hn v h' tk hv k=>?_⟩
 ·rw[bJ] at hn
  exact⟨d,H2,back h' tk k,rd,q0 (dZ (by lia))⟩
 ·rw[bJ] at hn hv
  obtain⟨t,rfl⟩:=z3s rv _ _ hv
  obtain⟨b1,b2⟩:=y05 (fun i=>ns.getD i 0) (its.length-1)
  refine⟨.int _,H2,back h' tk k,⟨t,rfl⟩,q1 _ (z7X (by lia)) fun y hy=>?_⟩
  obtain⟨i,hi,rfl⟩:=z7Z hy
  exact b2 i (by lia)
noncomputable def U5(i:Int)(n:Nat):List V:=(List.range n).map fun(k:Nat)=>V.int (i+(k:Int))
theorem y40:z3K X (.type "range") (fun xs H Q=>∃i j,xs=[.int i,.int j]/\∀p,H p=none->Q (.ref p) (upd H p (.rng i j))):=by
 intro pins s σ H xs us Q I r h
 obtain⟨i,j,rfl,q⟩:=h
 obtain⟨u,w',rfl,⟨t,rfl⟩,⟨t',rfl⟩⟩:=y4c r
 refine call_range_2 ?_
 refine⟨.ref s.heap.objs.size,_,I.laid (fun b o e=>bA _ e) (bI _) (show z1C X.prog X.w _ _ _ (.rng i j) from⟨t,t',s.toks,bL _ rfl⟩),rfl,q _ (I.hok.fresh (bI _))⟩
theorem y09{prog:Program}{w:World}{A:Around}{E:Value->Shared->Prop}{s:Shared}{Q:List Value->Shared->Prop}{r:Addr}{a b c:Int}{t u v:Tok}{n:Nat}(hh:A.handled=none)(hr:IsRange s.heap r a b c t u v)(W0:Builtin.Range.small a b c=true)
  (hn:Builtin.Range.rangeSize a b c=n) (hlen:n≤2^24)
  (hQ:∀h' tk acc,(∀b o,s.heap.get? b=some o->h'.get? b=some o)->ItemsOf (fun i v=>∃t,v=.int (a+i*c) t) acc n->Q acc.toList { s with heap:=h',toks:=tk }) :
  wpAny (model prog w) A (collect (.ref r)) Q E s:=by
 unfold collect
 refine wpAny_bind (wpAny_runValue (codeAny_builtin PySem.F.entry_proto_collect ?_))
 rw[cP PySem.F.plain_proto_collect _]
 show wpAny _ A.in1 (newList [] >>= fun l=>again (.builtin "list.__iadd__" ⟨[l,.ref r],[]⟩)) _ _ s
 refine wpAny_bind (wpAny_newObj_type ?_)
 refine wpAny_pure ⟨plainId_quiet fV _,codeAny_builtin PySem.F.entry_list_iadd ?_⟩
 rw[cP fV _]
 show wpAny _ A.in1 (Builtin.List.listExtendWith (.ref s.heap.objs.size) (.ref r) (.ref s.heap.objs.size)) _ _ _
 have hS:(s.heap.push { cls:=.type "list",data:=.seq ([]:List Value).toArray }).get? s.heap.objs.size=some { cls:=.type "list",data:=.seq #[] 0 }:=bL _ rfl
 have fin:∀(r':Result) (s':Shared),(∃h' tk acc c',r'=.ok (.ret (.ref s.heap.objs.size))/\s'={ s with heap:=h',toks:=tk }/\(∀b o,s.heap.get? b=some o->h'.get? b=some o)/\
   h'.get? s.heap.objs.size=some { cls:=.type "list",dict:=none,data:=.seq acc c',slots:=#[] }/\ItemsOf (fun i v=>∃t,v=.int (a+i*c) t) acc n)->
   match r' with
   | Except.ok (Flow.ret v)=>wpAny (model prog w) A (match v with
     | Value.ref a=>do
      match (<- load a).data with
       | Data.seq xs _=>pure xs.toList
       | _=>unsupported "internal:collect"
     | _=>unsupported "internal:collect") Q E s'
   | Except.ok _=>False
   | Except.error e=>E e s':=by
  rintro r' s' ⟨h',tk,acc,c',rfl,rfl,hk,hS',hacc⟩
  show wpAny _ A (load s.heap.objs.size >>= _) _ _ _
  refine wpAny_bind (wpAny_load hS' ?_)
  exact wpAny_pure (hQ h' tk acc hk hacc)
 refine wpAny_mono (wpAny_extend_range (A:=A) (R:=fun r' s'=>∃h' tk acc c',r'=.ok (.ret (.ref s.heap.objs.size))/\s'={ s with heap:=h',toks:=tk }/\(∀b o,s.heap.get? b=some o->h'.get? b=some o)/\
   h'.get? s.heap.objs.size=some { cls:=.type "list",dict:=none,data:=.seq acc c',slots:=#[] }/\ItemsOf (fun i v=>∃t,v=.int (a+i*c) t) acc n)
  (s:={ s with heap:=s.heap.push { cls:=.type "list",data:=.seq ([]:List Value).toArray } }) hh (bA _ hr) W0 hn hlen s.heap.objs.size _ 0 hS
  fun h' tk acc c' hk hS' hacc=>⟨h',tk,acc,c',rfl,rfl,fun b o e=>hk b o (cJ (bQ e)) (bA _ e),hS',hacc⟩) (fun f s' h=>?_) (fun e s' h=>?_)
 ·cases f with
  | done f=>exact fin _ _ h
  | again c'=>exact⟨h.1,codeAny_mono h.2 fun r' s'' hr'=>fin _ _ hr'⟩
 ·obtain⟨_,_,_,_,e,_⟩:=h
  cases e
theorem z82(r:Addr)(a b:Int)(t u v:Tok)(n:Nat)(W0:Builtin.Range.small a b 1=true)(hn:Builtin.Range.rangeSize a b 1=n)(hlen:n≤2^24) :
  Meets (Builtin.«tuple.__new__» ⟨[.type "tuple",.ref r],[]⟩)
   (fun A R s=>A.handled=none/\IsRange s.heap r a b 1 t u v/\∀(h':Heap) (tk:Nat) (acc:Array Value),(∀b o,s.heap.get? b=some o->h'.get? b=some o)->ItemsOf (fun i v=>∃t,v=.int (a+i*1) t) acc n->
    R (.ok (.ret (.ref h'.objs.size))) { s with heap:=h'.push { cls:=.type "tuple",data:=.seq acc },toks:=tk }):=
 .of_wp fun prog w A R s h=>by
  obtain⟨hp,g,d,tk0,os⟩:=s
  obtain⟨hh,hr,h⟩:=h
  have hsub:=sub_tuple_self
  have hinit:=init_tuple_lookup
  have hmh:=madeHere_tuple
  have hT:Shared.TypeIs ⟨hp,g,d,tk0,os⟩ (.ref r) "range":=⟨_,hr,rfl⟩
  have hh1:A.in1.handled=none:=hh
  wp_walk using wpAny_typeOf hT,y09 hh1 hr W0 hn hlen
  intro h' tk acc hk hacc
  show wpAny _ _ (Builtin.Tuple.tupleExact acc.toList.toArray >>= fun v=>ret v) _ _ _
  unfold Builtin.Tuple.tupleExact
  refine wpAny_bind (wpAny_newObj_type ?_ (show acc.toList.toArray.size≤sizeLine by simp only[Array.toArray_toList];rw[hacc.1,sizeLine_eq];lia))
  refine wpAny_pure ⟨_,rfl,?_⟩
  have e:acc.toList.toArray=acc:=by simp
  rw[e]
  exact h h' tk acc hk hacc
theorem y6p{a:Int}{acc:Array Value}{n:Nat}(h:ItemsOf (fun i v=>∃t,v=Value.int (a+(i:Int)*1) t) acc n):Vals (U5 a n) acc.toList:=by
 have go:∀(l:List Value) (k:Nat),(∀(j:Nat) (v:Value),l[j]? = some v->∃t,v=Value.int (a+((k+j:Nat):Int)) t)->Vals ((List.range' k l.length).map fun(j:Nat)=>V.int (a+(j:Int))) l:=by
  intro l
  induction l with
  | nil=>intro k _;exact .nil
  | cons x r ih=>
   intro k hx
   rw[cN,List.range'_succ,cS]
   refine .cons ?_ (ih (k+1) fun j v e=>?_)
   ·obtain⟨t,e⟩:=hx 0 x rfl
    exact⟨t,e⟩
   ·obtain⟨t,e'⟩:=hx (j+1) v (by simpa using e)
    refine⟨t,e'.trans ?_⟩
    congr 1
    lia
 have q:=go acc.toList 0 fun j v e=>by
  obtain⟨t,e'⟩:=h.2 j v (by simpa using e)
  exact⟨t,by rw[e'];congr 1;first|done|lia⟩
 unfold U5
 rw[List.range_eq_range']
 have hn:acc.toList.length=n:=by simpa using h.1
 rw[hn] at q
 exact q
theorem z9c(hc:X.calm=true):z3K X (.type "tuple") (fun xs H Q=>∃p i j,xs=[.ref p]/\H p=some (.rng i j)/\(-(2^62)≤i/\i<2^62/\-(2^62)≤j/\j<2^62)/\(j-i).toNat≤2^24/\
  ∀l,H l=none->Q (.ref l) (upd H l (.tup (U5 i (j-i).toNat)))):=by
 intro pins s σ H xs us Q I r h
 obtain⟨p,i,j,rfl,hp,⟨h1,h2,h3,h4⟩,hlen,q⟩:=h
 obtain⟨u,rfl,rx⟩:=z4F r
 cases rx
 obtain⟨t,u',v,e⟩:=(show z1C X.prog X.w H s.heap p (.rng i j) from I.hok p _ hp)
 have hn:Builtin.Range.rangeSize i j 1=(((j-i).toNat:Nat):Int):=by rw[rangeSize_one];split<;>lia
 refine callType_new PySem.F.called_tuple (by decide) (PySem.F.typeCall_tuple_1 _) (PySem.F.newCall_tuple_1 _) (fun obj=>PySem.F.args_object_init_2 obj _) PySem.F.entry_tuple_new
  (z82 p i j t u' v _ (small_one h1 h2 h3 h4) hn hlen) ⟨I.ok.hd hc,e,fun h' tk acc hk hacc=>⟨⟨_,bL _ rfl,rfl⟩,?_⟩⟩
 have I1:Inv X pins σ H { s with heap:=h',toks:=tk }:=I.kept hk
 have z:(U5 i (j-i).toNat).length≤sizeLine:=by unfold U5;rw[b9,j7,sizeLine_eq];lia
 have I2:Inv X pins σ (upd H h'.objs.size (.tup (U5 i (j-i).toNat))) { s with heap:=h'.push { cls:=.type "tuple",data:=.seq acc },toks:=tk }:=
  I1.laid (t':=tk) (fun b o e=>bA _ e) (bI _) (show z1C X.prog X.w _ _ _ (.tup _) from⟨z,acc.toList,y6p hacc,by simpa using PlT.new h' acc⟩)
 exact⟨.ref h'.objs.size,_,I2,rfl,q _ (I1.hok.fresh (bI _))⟩
theorem Vals.ins{x:V}{u:Value}(r:RelV x u){xs:List V}{us:List Value}(h:Vals xs us)(k:Nat):Vals (xs.take k++x::xs.drop k) (us.take k++u::us.drop k):=
 (h.take k).append (.cons r (h.drop k))
noncomputable def y7f:V->List V->Hp->VK->Prop:=fun x vs H Q=>∃l xs i y,x=.ref l/\vs=[.int i,y]/\H l=some (.lst xs)/\0≤i/\i≤xs.length/\xs.length<sizeLine/\Q .non (upd H l (.lst (xs.take i.toNat++y::xs.drop i.toNat)))
theorem y0D:MtM X "list.insert" y7f:=by
 intro pins s σ H x vs v us Q I rx rv h
 obtain⟨l,xs,i,y,rfl,rfl,hH,h0,h1,hz,q⟩:=h
 cases rx
 obtain⟨u,w',rfl,⟨t,rfl⟩,ry⟩:=rv.two
 obtain⟨z,its,n,r,hl,e⟩:=I.Y1 hH
 have hn:=z6n
 have hs:sizeLine=16777216:=sizeLine_eq
 have fit:¬(!Builtin.List.listFitsIndex i)=true:=by
  rw[fitsIndex_both (by lia) (by lia)]
  decide
 refine call_meets hU ⟨_,e,rfl⟩ PySem.F.entry_list_insert (PySem.F.args_list_insert_3 _ _ _) (AutoSeq1.list_insert_list_int_val_1 l its.toArray n i t w' fit (by rw[bJ];lia)) ⟨e,?_⟩
 refine⟨.non,_,I.w0d (its':=its.take i.toNat++w'::its.drop i.toNat) hH e ?_ (Vals.ins ry r i.toNat) ?_,rfl,q⟩
 ·have e1:(if i<0 then (i+(its.toArray.size:Int)).toNat else min i.toNat its.toArray.size)=i.toNat:=by
   rw[if_neg (by lia),bJ,gY (by lia)]
  show((its.toArray.extract 0 (if i<0 then (i+(its.toArray.size:Int)).toNat else min i.toNat its.toArray.size)).push w'++its.toArray.extract (if i<0 then (i+(its.toArray.size:Int)).toNat else min i.toNat its.toArray.size))=_
  rw[e1]
  apply Array.toList_inj.mp
  simp
  rw[cO (by rw[dA];lia)]
 ·rw[bN,cN,bG,dA]
  lia
theorem z8V:z3K X (.builtin "sorted") (fun xs H Q=>∃(p:Addr) (ns:List Int),xs=[.ref p]/\SqL X.K H p (ns.map V.int)/\ns.length<64/\
  ∀(l:Addr) (ns':List Int),H l=none->ns'.Perm ns->ns'.Pairwise (·≤·)->Q (.ref l) (upd H l (.lst (ns'.map V.int)))):=by
 intro pins s σ H xs us Q I r h
 obtain⟨p,ns,rfl,hq,h64,q⟩:=h
 obtain⟨u,rfl,rx⟩:=z4F r
 cases rx
 obtain⟨its,rv,pl,hz⟩:=I.list hq
 have hl:=rv.length
 rw[b9] at hl hz
 refine sorted_ints pl.isList (y3d rv) (by lia) fun out ns' a1 a2 a3=>?_
 obtain⟨e,he⟩:=sortedAll_at s.heap its out
 have hlen:=a2.length_eq
 refine⟨.ref (s.heap.objs.size+1),_,I.laid (t':=s.toks) (fun b o e=>sortedAll_old e) (gP _) (show z1C X.prog X.w _ _ _ (.lst (ns'.map V.int)) from⟨?_,out.toList,e,z6p a1,?_⟩),rfl,q _ ns' (I.hok.fresh (gP _)) a2 a3⟩
 ·rw[b9,hlen];exact hz
 ·simpa using he
noncomputable def Itd(hi:Int)(n:Nat):It:=⟨fun i _=>i<n,fun i H x H'=>H'=H/\x=.int (hi-i),fun i _=>n≤i⟩
theorem y3G{P:Program}{w:World}{K:PySem.W.Frag}{tg:Expr}(it:Addr)(hi:Int)(n:Nat):Turn P w K tg (Itd hi n) [it] it (fun i h=>IsRangeIter h it (hi+(i:Nat)*(-1)) ((n:Int)-(i:Nat)) (-1)) where
 mem:=by simp
 obj:=fun i h st b hb=>by
  have e:b=it:=by simpa using hb
  subst e
  exact⟨_,st,fun v z=>by
   have z':Data.fields _=Data.cell v:=z
   cases z'⟩
 keep:=fun i h h' st k=>k it (by simp) _ st
 item:=by
  intro X hP hw hK hc i pins s σ H E I hf st hg
  subst hP hw hK
  obtain⟨f0,f1,f2,f3,f4,f5⟩:=hf it (by simp)
  have W:=Walks.range (prog:=X.prog) (w:=X.w) (I.ok.hd hc) it hi (-1) n
  refine W.item i s _ _ hg st fun v h' tk hv st' kk=>?_
  obtain⟨t,rfl⟩:=hv
  have I1:Inv X pins σ H { s with heap:=h',toks:=tk }:=I.turned (fun b o hb e=>kk b o (by simpa using hb) e) f0 f1 f3 f4 f5
  refine⟨_,rfl,y51 (s:={ s with heap:=h',toks:=tk }) (n:="range_iterator") st' rfl rfl (by decide) ⟨.int (hi-i),H,I1,⟨t,?_⟩,⟨rfl,rfl⟩,st',fun b hb=>(hf b hb).1⟩⟩
  congr 1
  lia
 done:=by
  intro X hP hw hK hc i pins s σ H E I hf st hg
  subst hP hw hK
  obtain⟨f0,f1,f2,f3,f4,f5⟩:=hf it (by simp)
  exact wpAny_pyNext_range_end (I.ok.hd hc) st (by have:n≤i:=hg;lia) fun h' eb=>⟨rfl,I.turned (t':=s.toks) (fun b o hb e=>eb b o hb e) f0 f1 f3 f4 f5⟩
 self:=fun _ _ _ _ _ st h=>wpAny_pyIter_rangeiter st h
theorem z5y(a b:Int):Builtin.Range.rangeSize a b (-1)=(((a-b).toNat:Nat):Int):=by
 unfold Builtin.Range.rangeSize
 rw[if_neg (by decide)]
 by_cases h:a > b
 ·rw[if_pos h]
  have e:(a-b-1) / (- -1)=a-b-1:=by
   show(a-b-1) / 1=_
   exact Int.ediv_one _
  rw[e]
  lia
 ·rw[if_neg h]
  lia
theorem y34{a b:Int}(ha:-(2^62)≤a)(ha':a<2^62)(hb:-(2^62)≤b)(hb':b<2^62):Builtin.Range.small a b (-1)=true:=by
 unfold Builtin.Range.small
 rw[z5y]
 simp only[Builtin.Range.rangeFitsLong,cG,jO,decide_eq_true_eq,beq_iff_eq]
 refine⟨?_,?_⟩<;>first|omega|(split<;>omega)|(simp<;>lia)
end
section
variable{X:Cx}{tg:Expr}
noncomputable def w1L(ta:TA):TI:=fun σ H R=>ta σ H fun vs H1=>∃i j:Int,vs=[.int i,.int j,.int (-1)]/\(-(2^62)≤i/\i<2^62/\-(2^62)≤j/\j<2^62)/\R (Itd i (i-j).toNat) H1
theorem y5i{a b c:Expr}{ta:TA}{p pos:Pos}(hg:Gl X "range")(hm:X.mg "range"=none)(ha:PA X [a,b,c] ta)
  (hs:starEach [a,b,c] X.env=[(false,eval a X.env),(false,eval b X.env),(false,eval c X.env)]:=by rfl) (hs2:starEach [b,c] X.env=[(false,eval b X.env),(false,eval c X.env)]:=by rfl) :
  PI X tg (.Call (.Name "range" p) [a,b,c] [] pos) (w1L ta):=by
 intro pins s σ H R I h
 refine Call_ (z5p I hg hm boot_range (dW (thn (ha pos pins s σ H _ I h) fun us s1 ⟨vs,H1,I1,r1,q1⟩=>?_) (by rw[hs,hs2]) (by rw[hs2];rfl)))
 obtain⟨i,j,e,⟨q1,q2,q3,q4⟩,q⟩:=q1
 subst e
 cases r1 with
 | cons r rr=>
  cases rr with
  | cons r' rr=>
   cases rr with
   | cons r'' rr=>
    cases rr
    obtain⟨t,rfl⟩:=r
    obtain⟨t',rfl⟩:=r'
    obtain⟨t'',rfl⟩:=r''
    refine call_range_3 (by decide) ?_ (.inl (PyProof.noPylong_small (by decide)))
    refine wpAny_pyIter_range (IsRange.new ..) (y34 q1 q2 q3 q4) ?_
    have I2:Inv X pins σ H1 { s1 with heap:=s1.heap.push { cls:=.type "range",data:=.fields #[.int i t,.int j t',.int (-1) t''] },toks:=s1.toks }:=I1.kept fun b o e=>bA _ e
    refine⟨(s1.heap.push { cls:=.type "range",data:=.fields #[.int i t,.int j t',.int (-1) t''] }).objs.size,[(s1.heap.push { cls:=.type "range",data:=.fields #[.int i t,.int j t',.int (-1) t''] }).objs.size],_,_,H1,rfl,
     I2.kept (t':=s1.toks) fun b o e=>bA _ e,y3G _ i (i-j).toNat,?_,fun b hb=>?_,q⟩
    ·have e1:i+((0:Nat):Int)*(-1)=i:=by simp
     have e2:(((i-j).toNat:Nat):Int)-((0:Nat):Int)=Builtin.Range.rangeSize i j (-1):=by rw[z5y];lia
     show IsRangeIter _ _ (i+((0:Nat):Int)*(-1)) ((((i-j).toNat:Nat):Int)-((0:Nat):Int)) (-1)
     rw[e1,e2]
     exact bL _ rfl
    ·have e:b=(s1.heap.push { cls:=.type "range",data:=.fields #[.int i t,.int j t',.int (-1) t''] }).objs.size:=by simpa using hb
     subst e
     exact I2.T6 (bI _) (I2.hok.fresh (bI _))
end
theorem y6v{hi:Int}{n:Nat}{g:TG}{tb:TS}{D:Ends}{σ:St}{H:Hp}(Pv:Nat->St->Hp->Prop)(h0:Pv 0 σ H)
  (hs:∀i σ H,i<n->Pv i σ H->g (.int (hi-i)) σ H fun σ2 H2=>tb { D with nx:=Pv (i+1),ct:=Pv (i+1),bk:=D.nx } σ2 H2) (hd:∀σ H,Pv n σ H->D.nx σ H) :
  ∃W:Nat->Nat->St->Hp->Prop,(∃m,W 0 m σ H)/\∀i m σ H,W i m σ H->
   ((Itd hi n).stop i H/\D.nx σ H)\/((Itd hi n).go i H/\∃N:St->Hp->Prop,(∀σ' H',N σ' H'->∃m',m'<m/\W (i+1) m' σ' H')/\∀x H',(Itd hi n).yld i H x H'->g x σ H' fun σ2 H2=>tb { D with nx:=N,ct:=N,bk:=D.nx } σ2 H2):=by
 refine⟨fun i m σ H=>m=n-i/\i≤n/\Pv i σ H,⟨n,by simp,cZ _,h0⟩,?_⟩
 rintro i m σ H ⟨rfl,hi',p⟩
 by_cases hlt:i<n
 ·refine .inr ⟨hlt,Pv (i+1),fun σ' H' p'=>⟨n-(i+1),by lia,rfl,hlt,p'⟩,fun x H' y=>?_⟩
  obtain⟨e,y⟩:=y
  subst e y
  exact hs i σ _ hlt p
 ·have e:i=n:=by lia
  subst e
  exact .inl ⟨bI _,hd σ H p⟩
abbrev y08(J:It)(g:TG)(tc:TT)(te:TE)(σ0:St)(H1:Hp)(F:List V->Hp->Prop):Prop:=
 ∃W:Nat->Nat->List V->Hp->Prop,(∃m,W 0 m [] H1)/\∀i m ys H,W i m ys H->
  (J.stop i H/\F ys H)\/(J.go i H/\ys.length<sizeLine/\∃N:List V->Hp->Prop,(∀zs H',N zs H'->∃m',m'<m/\W (i+1) m' zs H')/\
   ∀x H',J.yld i H x H'->z1A g tc te σ0 x H' ys N)
theorem z32{K:PySem.W.Frag}{a:Addr}{xs:List V}{g:TG}{tc:TT}{te:TE}{σ0:St}{H1:Hp}{F:List V->Hp->Prop}(Pv:Nat->List V->Hp->Prop)(h0:Pv 0 [] H1)
  (hl:∀i ys H,i≤xs.length->Pv i ys H->SqL K H a xs/\ys.length<sizeLine)
  (hs:∀i x ys H,xs[i]? = some x->Pv i ys H->z1A g tc te σ0 x H ys (Pv (i+1))) (hd:∀ys H,Pv xs.length ys H->F ys H):y08 (Itl K a) g tc te σ0 H1 F:=by
 refine⟨fun i m ys H=>m=xs.length-i/\i≤xs.length/\Pv i ys H,⟨xs.length,by simp,cZ _,h0⟩,?_⟩
 rintro i m ys H ⟨rfl,hi,p⟩
 obtain⟨q,z⟩:=hl i ys H hi p
 by_cases hlt:i<xs.length
 ·refine .inr ⟨⟨xs,xs[i],q,by simp[hlt]⟩,z,Pv (i+1),fun zs H' p'=>⟨xs.length-(i+1),by lia,rfl,hlt,p'⟩,fun x H' y=>?_⟩
  obtain⟨e,y⟩:=y
  subst e
  exact hs i x ys _ (y xs q) p
 ·have e:i=xs.length:=by lia
  subst e
  exact .inl ⟨⟨xs,q,bI _⟩,hd ys H p⟩
theorem z1n{K:PySem.W.Frag}{a:Addr}{xs:List V}{g:TG}{tc:TT}{te:TE}{σ0:St}{H1:Hp}{F:List V->Hp->Prop}(Pv:Nat->List V->Hp->Prop)(h0:Pv 0 [] H1)
  (hl:∀i ys H,i≤xs.length->Pv i ys H->SqT K H a xs/\ys.length<sizeLine)
  (hs:∀i x ys H,xs[i]? = some x->Pv i ys H->z1A g tc te σ0 x H ys (Pv (i+1))) (hd:∀ys H,Pv xs.length ys H->F ys H):y08 (Itt K a) g tc te σ0 H1 F:=by
 refine⟨fun i m ys H=>m=xs.length-i/\i≤xs.length/\Pv i ys H,⟨xs.length,by simp,cZ _,h0⟩,?_⟩
 rintro i m ys H ⟨rfl,hi,p⟩
 obtain⟨q,z⟩:=hl i ys H hi p
 by_cases hlt:i<xs.length
 ·refine .inr ⟨⟨xs,xs[i],q,by simp[hlt]⟩,z,Pv (i+1),fun zs H' p'=>⟨xs.length-(i+1),by lia,rfl,hlt,p'⟩,fun x H' y=>?_⟩
  obtain⟨e,y⟩:=y
  subst e
  exact hs i x ys _ (y xs q) p
 ·have e:i=xs.length:=by lia
  subst e
  exact .inl ⟨⟨xs,q,bI _⟩,hd ys H p⟩
theorem y2P{lo:Int}{n:Nat}{g:TG}{tc:TT}{te:TE}{σ0:St}{H1:Hp}{F:List V->Hp->Prop}(Pv:Nat->List V->Hp->Prop)(h0:Pv 0 [] H1)
  (hl:∀i ys H,i≤n->Pv i ys H->ys.length<sizeLine)
  (hs:∀i ys H,i<n->Pv i ys H->z1A g tc te σ0 (.int (lo+i)) H ys (Pv (i+1))) (hd:∀ys H,Pv n ys H->F ys H):y08 (Itr lo n) g tc te σ0 H1 F:=by
 refine⟨fun i m ys H=>m=n-i/\i≤n/\Pv i ys H,⟨n,by simp,cZ _,h0⟩,?_⟩
 rintro i m ys H ⟨rfl,hi,p⟩
 have z:=hl i ys H hi p
 by_cases hlt:i<n
 ·refine .inr ⟨hlt,z,Pv (i+1),fun zs H' p'=>⟨n-(i+1),by lia,rfl,hlt,p'⟩,fun x H' y=>?_⟩
  obtain⟨e,y⟩:=y
  subst e y
  exact hs i ys _ hlt p
 ·have e:i=n:=by lia
  subst e
  exact .inl ⟨bI _,hd ys H p⟩
noncomputable def z2a{α:Type}(p:α->Bool)(f:α->V)(zs:List α):List V:=(zs.filter p).map f
theorem z7h{α:Type}(p:α->Bool)(f:α->V)(zs:List α)(z:α):z2a p f (zs++[z])=if p z=true then z2a p f zs++[f z] else z2a p f zs:=by
 unfold z2a
 rw[dH,bF]
 cases h:p z<;>simp[h]
theorem z9R{α:Type}(p:α->Bool)(f:α->V)(zs:List α):(z2a p f zs).length≤zs.length:=by
 unfold z2a
 rw[b9]
 exact c6 _ _
theorem z0n{α:Type}{zs:List α}{i:Nat}{z:α}(h:zs[i]? = some z):zs.take (i+1)=zs.take i++[z]:=by
 rw[fH,h]
 rfl
theorem z8o{K:PySem.W.Frag}{a:Addr}{ns:List Int}{g:TG}{tc:TT}{te:TE}{σ0:St}{H1:Hp}{F:List V->Hp->Prop}(p:Int->Bool)(f:Int->V)(hq:SqL K H1 a (ns.map V.int))(hz:ns.length≤1000)
  (hs:∀n ys N,n∈ns->N (if p n=true then ys++[f n] else ys) H1->z1A g tc te σ0 (.int n) H1 ys N) (hd:F (z2a p f ns) H1):y08 (Itl K a) g tc te σ0 H1 F:=by
 refine z32 (xs:=ns.map V.int) (fun i ys H=>H=H1/\ys=z2a p f (ns.take i)) ⟨rfl,rfl⟩ (fun i ys H hi hp=>?_) (fun i x ys H hx hp=>?_) (fun ys H hp=>?_)
 ·obtain⟨rfl,rfl⟩:=hp
  refine⟨hq,z0f ?_⟩
  have h1:=z9R p f (ns.take i)
  have h2:=List.length_take_le i ns
  have h3:(ns.take i).length≤ns.length:=by rw[bG];lia
  lia
 ·obtain⟨rfl,rfl⟩:=hp
  rw[bC] at hx
  cases e:ns[i]? with
  | none=>rw[e] at hx;cases hx
  | some n=>
   rw[e] at hx
   cases hx
   refine hs n _ _ (bP e) ⟨rfl,?_⟩
   rw[z0n e,z7h]
 ·obtain⟨rfl,rfl⟩:=hp
  rw[b9,bT]
  exact hd
theorem z6W{K:PySem.W.Frag}{a:Addr}{ns:List Int}{g:TG}{tc:TT}{te:TE}{σ0:St}{H1:Hp}{F:List V->Hp->Prop}(p:Int->Bool)(f:Int->V)(hq:SqT K H1 a (ns.map V.int))(hz:ns.length≤1000)
  (hs:∀n ys N,n∈ns->N (if p n=true then ys++[f n] else ys) H1->z1A g tc te σ0 (.int n) H1 ys N) (hd:F (z2a p f ns) H1):y08 (Itt K a) g tc te σ0 H1 F:=by
 refine z1n (xs:=ns.map V.int) (fun i ys H=>H=H1/\ys=z2a p f (ns.take i)) ⟨rfl,rfl⟩ (fun i ys H hi hp=>?_) (fun i x ys H hx hp=>?_) (fun ys H hp=>?_)
 ·obtain⟨rfl,rfl⟩:=hp
  refine⟨hq,z0f ?_⟩
  have h1:=z9R p f (ns.take i)
  have h3:(ns.take i).length≤ns.length:=by rw[bG];lia
  lia
 ·obtain⟨rfl,rfl⟩:=hp
  rw[bC] at hx
  cases e:ns[i]? with
  | none=>rw[e] at hx;cases hx
  | some n=>
   rw[e] at hx
   cases hx
   refine hs n _ _ (bP e) ⟨rfl,?_⟩
   rw[z0n e,z7h]
 ·obtain⟨rfl,rfl⟩:=hp
  rw[b9,bT]
  exact hd
noncomputable def upI(lo:Int)(n:Nat):List Int:=(List.range n).map fun(k:Nat)=>lo+(k:Int)
theorem z5f(lo:Int)(n:Nat):upI lo (n+1)=upI lo n++[lo+(n:Int)]:=by
 unfold upI
 rw[List.range_succ,bF]
 rfl
theorem z0L(lo:Int)(n:Nat):(upI lo n).length=n:=by unfold upI;rw[b9,j7]
theorem z1e{lo:Int}{n:Nat}{x:Int}:x∈upI lo n↔lo≤x/\x<lo+n:=by
 unfold upI
 rw[cM]
 constructor
 ·rintro⟨k,hk,rfl⟩
  have:=fL.mp hk
  lia
 ·rintro⟨h1,h2⟩
  exact⟨(x-lo).toNat,fL.mpr (by lia),by lia⟩
theorem z8B{lo:Int}{n:Nat}{g:TG}{tc:TT}{te:TE}{σ0:St}{H1:Hp}{F:List V->Hp->Prop}(p:Int->Bool)(f:Int->V)(hz:n≤1000)
  (hs:∀k ys N,lo≤k->k<lo+n->N (if p k=true then ys++[f k] else ys) H1->z1A g tc te σ0 (.int k) H1 ys N) (hd:F (z2a p f (upI lo n)) H1):y08 (Itr lo n) g tc te σ0 H1 F:=by
 refine y2P (fun i ys H=>H=H1/\ys=z2a p f (upI lo i)) ⟨rfl,rfl⟩ (fun i ys H hi hp=>?_) (fun i ys H hx hp=>?_) (fun ys H hp=>?_)
 ·obtain⟨rfl,rfl⟩:=hp
  have h1:=z9R p f (upI lo i)
  rw[z0L] at h1
  exact z0f (by lia)
 ·obtain⟨rfl,rfl⟩:=hp
  refine hs _ _ _ (by lia) (by lia) ⟨rfl,?_⟩
  rw[z5f,z7h]
 ·obtain⟨rfl,rfl⟩:=hp
  exact hd
section
variable{X:Cx}
theorem z0M:z3K X (.builtin "isinstance") (fun xs H Q=>∃x T t b,xs=[x,.ty T]/\R0 X.K H x t/\PySem.W.kitOne X.K t (.type T)=some b/\Q (.bl b) H):=by
 intro pins s σ H xs us Q I r h
 obtain⟨x,T,t,b,rfl,ty,e,q⟩:=h
 obtain⟨u,w',rfl,rx,ry⟩:=y4c r
 cases (show w'=Value.type T from ry)
 exact y3Z I rx ty e fun tk=>⟨.bl b,H,I.tok _,rfl,q⟩
theorem y8k(hu:X.A.units<cLine):OpR X (compareOp .NotEq) (fun x y H Q=>∃a b xs,x=.ref a/\y=.ref b/\SqL X.K H a xs/\SqL X.K H b []/\Q (.bl (!xs.isEmpty)) H):=by
 intro pins s σ H x y v u Q I rx ry h
 obtain⟨a,b,xs,rfl,rfl,ha,hb,q⟩:=h
 cases rx
 cases ry
 obtain⟨its,r,pl,hz⟩:=I.list ha
 obtain⟨M0,r2,pl2,hz2⟩:=I.list hb
 cases r2
 have hl:=r.length
 cases xs with
 | nil=>
  cases r
  exact SeqAt.RcNeAt.lists (e:=fun _=>true) pl.isList pl2.isList rfl hu (fun j h1 _=>absurd h1 (g0 _)) X.prog X.w X.xe _ ⟨.bl false,H,I,rfl,q⟩
 | cons x0 xr=>
  refine SeqAt.RcNeAt.lists_lengths pl.isList pl2.isList ?_ hu X.prog X.w X.xe _ ⟨.bl true,H,I,rfl,q⟩
  rw[bJ,<- hl]
  rfl
end
noncomputable def y26(N:List Str)(kind:Str->Option NameKind)(rl:List (Str×NameKind)):List Str->List Nat->Bool
 | x::xs,i::is=>decide (N[i]? = some x) && (decide (kind x=some .cell) || decide (kind x=some .free)) && (decide (rl.lookup x=some .cell) || decide (rl.lookup x=some .free)) && y26 N kind rl xs is
 | _,_=>true
theorem y6X{N:List Str}{kind:Str->Option NameKind}{rl:List (Str×NameKind)}:∀{F7:List Str}{ix:List Nat},y26 N kind rl F7 ix=true->∀(j i:Nat) (x:Str),F7[j]? = some x->ix[j]? = some i->
  N[i]? = some x/\(kind x=some .cell\/kind x=some .free)/\(rl.lookup x=some .cell\/rl.lookup x=some .free)
 | [],_,_,j,i,x,e,_=>by simp at e
 | _::_,[],_,j,i,x,_,e=>by simp at e
 | y::ys,k::ks,h,j,i,x,e1,e2=>by
  unfold y26 at h
  rw[cG,cG,cG,jO,jO] at h
  obtain⟨⟨⟨h1,h2⟩,h3⟩,h4⟩:=h
  cases j with
  | zero=>
   simp at e1 e2
   subst e1 e2
   exact⟨of_decide_eq_true h1,h2.imp of_decide_eq_true of_decide_eq_true,h3.imp of_decide_eq_true of_decide_eq_true⟩
  | succ j=>exact y6X h4 j i x (by simpa using e1) (by simpa using e2)
theorem z0w{X:Cx}{scope:Scope}{cl:List (Str×Addr)}{own F7:List Str}{ix:List Nat}(W8:z89 X.env.cells scope.names []=some cl)(cell:∀y∈scope.names,y.2≠.cell)(kind:scope.kind=.function)
  (names:∀y∈scope.names,y.2=.local->scope.names.lookup y.1=some .local) (n:F7.length=ix.length) (cap:y26 X.N X.env.kindOf (relabel scope X.env).names F7 ix=true):K2 X scope cl own F7 ix:=
 ⟨W8,cell,kind,names,n,fun j i x e1 e2=>by
  obtain⟨a,b,c⟩:=y6X cap j i x e1 e2
  refine⟨a,fun z=>?_,b.elim (fun q=>.inr (.inl q)) (fun q=>.inr (.inr q)),c⟩
  rcases b with b|b<;>(rw[b] at z;cases z)⟩
theorem z98{X:Cx}{K:PySem.W.Frag}{es:List Expr}{k:Nat}{t:TGs}{n:Nat}{pos:Pos}(hK:X.K=K)(hc:X.calm=true)(h:PGs X es t)
  (hn:(assignEach es X.env).length=n:=by rfl) (hst:(assignEach es X.env).findIdx? (·.1)=none:=by rfl):PG X (.Tuple es k pos) (Z6 K n t):=by
 subst hK
 exact y6K hc h hn hst
structure Cal(P:Program)(w:World)(K:PySem.W.Frag)(mg:Str->Option Value)(base:Heap)(k:Nat)(x:Str)(ps:List Str)(sp:Sp):Prop where
 ex:∃(f:Addr) (fd:FuncData),B4 P w K mg base CX0 k f fd ps sp/\z2b K fd ps []/\PySem.W.keepIn K (.ref f)=true/\mg x=some (.ref f)
theorem Cal.mk'{P:Program}{w:World}{K:PySem.W.Frag}{mg:Str->Option Value}{base:Heap}{k:Nat}{x:Str}{ps:List Str}{sp:Sp}{f:Addr}{fd:FuncData}(a:B4 P w K mg base CX0 k f fd ps sp)(b:z2b K fd ps [])(c:PySem.W.keepIn K (.ref f)=true)(d:mg x=some (.ref f)) :
  Cal P w K mg base k x ps sp:=⟨⟨f,fd,a,b,c,d⟩⟩
theorem z0e{X:Cx}{k:Nat}{x:Str}{ps:List Str}{sp:Sp}{e:Expr}{es:List Expr}{t:TA}{p pos:Pos}(G:Cal X.prog X.w X.K X.mg X.base k x ps sp)(hr:E6 k X.A)(hg:Gl X x)(ha:PA X (e::es) t)
  (hdb:(x == ("__debug__":Str))=false:=by decide) (he:starEach (e::es) X.env=(false,eval e X.env)::starEach es X.env:=by rfl) (hpl:(backTo pos (starEach es X.env)).any (·.1)=false:=by rfl) :
  PE X (.Call (.Name x p) (e::es) [] pos) (y7A sp [] E0 t):=by
 obtain⟨f,fd,a,b,c,d⟩:=G.ex
 exact y4H a hr hg d c b .nil y3j ha hdb he hpl
noncomputable def Q2(z:Str)(lo hi:Option Int):Str:=⟨((z.cps.toList.drop (HT.sIx z.length 0 lo)).take (HT.sIx z.length z.length hi-HT.sIx z.length 0 lo)).toArray⟩
theorem y0e{x y:Str}(h:x.cps.toList=y.cps.toList):x=y:=by
 obtain⟨a⟩:=x
 obtain⟨b⟩:=y
 exact congrArg Str.mk (Array.toList_inj.mp h)
theorem z1U(z:Str):z.cps.toList.length=z.length:=by simp[Str.length]
theorem y1I(lo hi:Option Int)(n:Nat):Builtin.Str.strSliceIndices lo hi 1 n=(List.range (HT.sIx n n hi-HT.sIx n 0 lo)).map (fun k=>HT.sIx n 0 lo+k):=by
 obtain⟨h1,h2,h3⟩:=z7x lo hi n
 have e:Builtin.Str.strSliceIndices lo hi 1 n=sliceRange (sliceBounds lo hi none n).1 (sliceBounds lo hi none n).2.1 1:=by
  unfold Builtin.Str.strSliceIndices sliceBounds
  cases lo<;>cases hi<;>rfl
 rw[e,h1,h2,sliceRange_one]
theorem y6q{z:Str}{t:Tok}{l u:Option (Int×Tok)}{Q:Value->Shared->Prop}{s:Shared}(hz:z.length≤sizeLine)(h:∀t' tk,Q (.str (Q2 z (l.map (·.1)) (u.map (·.1))) t') { s with toks:=tk }):(sliceMade z t l u none).post Q s:=by
 have picked:slicePicked z l u none=(List.range (HT.sIx z.length z.length (u.map (·.1))-HT.sIx z.length 0 (l.map (·.1)))).map (fun k=>HT.sIx z.length 0 (l.map (·.1))+k):=y1I _ _ _
 have items:(slicePicked z l u none).filterMap (z.cps[·]?)=(Q2 z (l.map (·.1)) (u.map (·.1))).cps.toList:=by
  rw[picked,pick_run]
  rfl
 have lh:=HT.y6S z.length z.length (bI _) (u.map (·.1))
 unfold sliceMade
 by_cases c:(((none:Option (Int×Tok)).map (·.1)).getD 1 == 1 && (slicePicked z l u none).length == z.length)=true
 ·rw[if_pos c]
  rw[cG] at c
  have c2:(slicePicked z l u none).length=z.length:=eq_of_beq c.2
  rw[picked,b9,j7] at c2
  have e:Q2 z (l.map (·.1)) (u.map (·.1))=z:=by
   apply y0e
   show(z.cps.toList.drop _).take _=_
   by_cases hz0:z.length=0
   ·have:z.cps.toList=[]:=dZ (by rw[z1U];exact hz0)
    rw[this]
    simp
   ·have e1:HT.sIx z.length 0 (l.map (·.1))=0:=by lia
    rw[e1,fM,cO]
    rw[z1U]
    lia
  have:=h t s.toks
  rw[e] at this
  exact this
 ·rw[if_neg c,items]
  refine⟨?_,?_⟩
  ·show(((Q2 z (l.map (·.1)) (u.map (·.1))).cps.toList.toArray).size)≤sizeLine
   rw[bJ]
   show((z.cps.toList.drop _).take _).length≤_
   rw[bG,dA,z1U]
   lia
  ·have:=h s.toks (s.toks+1)
   have e:(⟨(Q2 z (l.map (·.1)) (u.map (·.1))).cps.toList.toArray⟩:Str)=Q2 z (l.map (·.1)) (u.map (·.1)):=y0e (by simp)
   rw[e]
   exact this
section
variable{X:Cx}
theorem z7t{v:Value}{o:Option Int}(h:IsPart v o):∃p:Option (Int×Tok),v=partValue p/\p.map (·.1)=o:=by
 cases h with
 | none=>exact⟨none,rfl,rfl⟩
 | int i t=>exact⟨some (i,t),rfl,rfl⟩
noncomputable def rSlS:V->Option Int->Option Int->Hp->VK->Prop:=fun x lo hi H Q=>∃z,x=.str z/\z.length≤sizeLine/\Q (.str (Q2 z lo hi)) H
theorem y6T:SlR X rSlS:=by
 intro pins s σ H x v vl vu lo hi sl Q I rx hs pl pu h
 obtain⟨z,rfl,hz,q⟩:=h
 obtain⟨t,rfl⟩:=rx
 obtain⟨l,rfl,rfl⟩:=z7t pl
 obtain⟨u,rfl,rfl⟩:=z7t pu
 refine⟨"str",_,slot_str_getitem.lookup,typeIs_str s z t,?_⟩
 obtain⟨o,ho,hc,hd⟩:=hs
 refine wpAny_getItem_str_slice (l:=l) (u:=u) (st:=none) ⟨o,ho,hc,hd⟩ rfl (y6q hz fun t' tk=>?_)
 exact⟨.str _,H,I.tok _,⟨_,rfl⟩,q⟩
noncomputable def Y7(z:Str)(n:Nat):Str:=⟨(List.replicate n z.cps.toList).flatten.toArray⟩
theorem y2r(z:Array Nat):∀(n:Nat) (acc:Array Nat),(List.foldl (fun a b=>a++b) acc (List.replicate n z)).toList=acc.toList++(List.replicate n z.toList).flatten
 | 0,acc=>by simp
 | n+1,acc=>by
  rw[List.replicate_succ,dI,y2r z n]
  simp[List.replicate_succ]
theorem y2S:OpR X (binaryOp .Mult) (fun x y H Q=>∃z n,x=.str z/\y=.int n/\1≤n/\n≤1000/\z.length≤1000/\Q (.str (Y7 z n.toNat)) H):=by
 intro pins s σ H x y v u Q I rx ry h
 obtain⟨z,n,rfl,rfl,h1,h2,hz,q⟩:=h
 obtain⟨t,rfl⟩:=rx
 obtain⟨t',rfl⟩:=ry
 have hs:sizeLine=16777216:=sizeLine_eq
 have hm:z.length*n.toNat≤1000*1000:=Nat.mul_le_mul hz (by lia)
 have fin:∀t' tk,EP X pins σ Q (.str (Y7 z n.toNat) t') { s with toks:=tk }:=fun t' tk=>⟨.str _,H,I.tok _,⟨_,rfl⟩,q⟩
 refine PySem.P.mul_str ?_ (fun _ _=>?_) (fun _ _=>?_) ?_
 ·rw[decide_eq_false (show ¬n < -(2^63:Int) by lia),decide_eq_false (show ¬n≥2^63 by lia)]
  rfl
 ·have:(1000:Int)≤(2^63-1) / n:=by
   apply Int.le_ediv_of_mul_le (by lia)
   have:1000*n≤1000*1000:=Int.mul_le_mul_of_nonneg_left h2 (by decide)
   lia
  lia
 ·unfold Builtin.Str.tooLong
  exact decide_eq_false (by lia)
 ·rw[if_neg (by lia)]
  by_cases c:(n == 1 || z.length == 0)=true
  ·rw[if_pos c]
   have e:Y7 z n.toNat=z:=by
    apply y0e
    show((List.replicate n.toNat z.cps.toList).flatten.toArray).toList=_
    rw[jO] at c
    rcases c with c|c
    ·have:n=1:=eq_of_beq c
     subst this
     simp
    ·have:z.length=0:=eq_of_beq c
     have:z.cps.toList=[]:=dZ (by rw[z1U];exact this)
     rw[this]
     simp
   have:=fin t s.toks
   rw[e] at this
   exact this
  ·rw[if_neg c]
   have e:(⟨(List.replicate n.toNat z.cps).foldl (·++·) #[]⟩:Str)=Y7 z n.toNat:=by
    apply y0e
    show(List.foldl (fun a b=>a++b) #[] (List.replicate n.toNat z.cps)).toList=((List.replicate n.toNat z.cps.toList).flatten.toArray).toList
    rw[y2r]
    simp
   refine⟨?_,?_⟩
   ·rw[e,<- z1U]
    show((List.replicate n.toNat z.cps.toList).flatten.toArray).toList.length≤sizeLine
    have:((List.replicate n.toNat z.cps.toList).flatten.toArray).toList.length=n.toNat*z.length:=by
     simp[List.length_flatten,List.map_replicate,z1U]
     rfl
    rw[this,Nat.mul_comm]
    lia
   ·rw[e]
    exact fin _ _
end
end L2
namespace L2
open PySem
inductive DV where
 | non|bl (b:Bool)|int (i:Int)|str (x:Str)|tup (l:List DV)
mutual
noncomputable def B2(H:Hp):DV->V->Prop
 | .non,x=>x=.non
 | .bl b,x=>x=.bl b
 | .int i,x=>x=.int i
 | .str s,x=>x=.str s
 | .tup ds,x=>∃a xs,x=.ref a/\H a=some (.tup xs)/\xs.length≤1000000/\z08 H ds xs
noncomputable def z08(H:Hp):List DV->List V->Prop
 | [],xs=>xs=[]
 | d::ds,xs=>∃x r,xs=x::r/\B2 H d x/\z08 H ds r
end
mutual
theorem B2.keep{H H':Hp}(s:B0 H H'):∀(d:DV) (x:V),B2 H d x->B2 H' d x
 | .non,_,h=>h
 | .bl _,_,h=>h
 | .int _,_,h=>h
 | .str _,_,h=>h
 | .tup ds,_,h=>by
  unfold B2 at h ⊢
  obtain⟨a,xs,e,h1,h2,h3⟩:=h
  exact⟨a,xs,e,s _ _ h1,h2,z08.keep s ds xs h3⟩
theorem z08.keep{H H':Hp}(s:B0 H H'):∀(ds:List DV) (xs:List V),z08 H ds xs->z08 H' ds xs
 | [],_,h=>h
 | d::ds,_,h=>by
  unfold z08 at h ⊢
  obtain⟨x,r,e,h1,h2⟩:=h
  exact⟨x,r,e,B2.keep s d x h1,z08.keep s ds r h2⟩
end
mutual
theorem B2.over{H:Hp}{l:Addr}{o o':HO}(hl:H l=some o)(hn:∀xs,o≠.tup xs):∀(d:DV) (x:V),B2 H d x->B2 (upd H l o') d x
 | .non,_,h=>h
 | .bl _,_,h=>h
 | .int _,_,h=>h
 | .str _,_,h=>h
 | .tup ds,_,h=>by
  unfold B2 at h ⊢
  obtain⟨a,xs,e,h1,h2,h3⟩:=h
  exact⟨a,xs,e,by rw[z0k (z5l h1 hl (fun z=>hn xs z.symm))];exact h1,h2,z08.over hl hn ds xs h3⟩
theorem z08.over{H:Hp}{l:Addr}{o o':HO}(hl:H l=some o)(hn:∀xs,o≠.tup xs):∀(ds:List DV) (xs:List V),z08 H ds xs->z08 (upd H l o') ds xs
 | [],_,h=>h
 | d::ds,_,h=>by
  unfold z08 at h ⊢
  obtain⟨x,r,e,h1,h2⟩:=h
  exact⟨x,r,e,B2.over hl hn d x h1,z08.over hl hn ds r h2⟩
end
theorem z08.length{H:Hp}:∀{ds:List DV}{xs:List V},z08 H ds xs->xs.length=ds.length
 | [],_,h=>by unfold z08 at h;rw[h];rfl
 | d::ds,_,h=>by
  unfold z08 at h
  obtain⟨x,r,rfl,_,h2⟩:=h
  rw[cN,cN,z08.length h2]
theorem z08.get{H:Hp}:∀{ds:List DV}{xs:List V},z08 H ds xs->∀(i:Nat) (d:DV),ds[i]? = some d->∃x,xs[i]? = some x/\B2 H d x
 | [],_,_,i,d,e=>by simp at e
 | d0::ds,_,h,0,d,e=>by
  unfold z08 at h
  obtain⟨x,r,rfl,h1,_⟩:=h
  simp at e
  subst e
  exact⟨x,rfl,h1⟩
 | d0::ds,_,h,i+1,d,e=>by
  unfold z08 at h
  obtain⟨x,r,rfl,_,h2⟩:=h
  obtain⟨y,e1,e2⟩:=z08.get h2 i d (by simpa using e)
  exact⟨y,by simpa using e1,e2⟩
theorem z08.at{H:Hp}:∀{ds:List DV}{xs:List V},z08 H ds xs->∀(i:Nat) (x:V),xs[i]? = some x->∃d,ds[i]? = some d/\B2 H d x
 | [],_,h,i,x,e=>by
  unfold z08 at h
  subst h
  simp at e
 | d0::ds,_,h,0,x,e=>by
  unfold z08 at h
  obtain⟨x0,r,rfl,h1,_⟩:=h
  simp at e
  subst e
  exact⟨d0,rfl,h1⟩
 | d0::ds,_,h,i+1,x,e=>by
  unfold z08 at h
  obtain⟨x0,r,rfl,_,h2⟩:=h
  obtain⟨y,e1,e2⟩:=z08.at h2 i x (by simpa using e)
  exact⟨y,by simpa using e1,e2⟩
theorem z08.nil{H:Hp}:z08 H [] []:=by unfold z08;rfl
theorem z08.cons{H:Hp}{d:DV}{ds:List DV}{x:V}{xs:List V}(h:B2 H d x)(t:z08 H ds xs):z08 H (d::ds) (x::xs):=by unfold z08;exact⟨x,xs,rfl,h,t⟩
theorem z08.snoc{H:Hp}:∀{ds:List DV}{xs:List V}{d:DV}{x:V},z08 H ds xs->B2 H d x->z08 H (ds++[d]) (xs++[x])
 | [],_,_,_,h,q=>by
  unfold z08 at h
  subst h
  exact z08.cons q .nil
 | d0::ds,_,_,_,h,q=>by
  unfold z08 at h
  obtain⟨x0,r,rfl,h1,h2⟩:=h
  exact z08.cons h1 (z08.snoc h2 q)
theorem z08.append{H:Hp}:∀{ds es:List DV}{xs ys:List V},z08 H ds xs->z08 H es ys->z08 H (ds++es) (xs++ys)
 | [],_,_,_,h,q=>by
  unfold z08 at h
  subst h
  exact q
 | d0::ds,_,_,_,h,q=>by
  unfold z08 at h
  obtain⟨x0,r,rfl,h1,h2⟩:=h
  exact z08.cons h1 (z08.append h2 q)
theorem z08.take{H:Hp}:∀{ds:List DV}{xs:List V} (n:Nat),z08 H ds xs->z08 H (ds.take n) (xs.take n)
 | _,_,0,_=>by rw[cT,cT];exact .nil
 | [],_,n+1,h=>by
  unfold z08 at h
  subst h
  exact .nil
 | d0::ds,_,n+1,h=>by
  unfold z08 at h
  obtain⟨x0,r,rfl,h1,h2⟩:=h
  exact z08.cons h1 (z08.take n h2)
theorem z0H{H:Hp}(i:Int):B2 H (.int i) (.int i):=by unfold B2;rfl
theorem z2B{H:Hp}(x:Str):B2 H (.str x) (.str x):=by unfold B2;rfl
theorem z7P{H:Hp}:B2 H .non .non:=by unfold B2;rfl
theorem z0q{H:Hp}{a:Addr}{xs:List V}{ds:List DV}(h:H a=some (.tup xs))(hl:ds.length≤1000000)(t:z08 H ds xs):B2 H (.tup ds) (.ref a):=by
 unfold B2
 exact⟨a,xs,rfl,h,by rw[t.length];exact hl,t⟩
theorem z20{H:Hp}:∀(l:List Str),z08 H (l.map DV.str) (l.map V.str)
 | []=>.nil
 | i::r=>.cons (z2B i) (z20 r)
theorem z11{H:Hp}:∀{l:List Str}{xs:List V},z08 H (l.map DV.str) xs->xs=l.map V.str
 | [],_,h=>by unfold z08 at h;exact h
 | i::r,_,h=>by
  rw[cS] at h
  unfold z08 at h
  obtain⟨x,t,rfl,h1,h2⟩:=h
  unfold B2 at h1
  rw[h1,z11 h2]
  rfl
theorem z0d{H:Hp}{ds:List DV}{x:V}(h:B2 H (.tup ds) x):∃a xs,x=.ref a/\H a=some (.tup xs)/\xs.length≤1000000/\z08 H ds xs:=by
 unfold B2 at h
 exact h
theorem z1o{H:Hp}{i:Int}{x:V}(h:B2 H (.int i) x):x=.int i:=by unfold B2 at h;exact h
theorem z3r{H:Hp}{i:Str}{x:V}(h:B2 H (.str i) x):x=.str i:=by unfold B2 at h;exact h
theorem z0g{H:Hp}{d:DV}{ds:List DV}{xs:List V}(h:z08 H (d::ds) xs):∃x r,xs=x::r/\B2 H d x/\z08 H ds r:=by
 unfold z08 at h
 exact h
theorem z0G{H:Hp}{xs:List V}(h:z08 H [] xs):xs=[]:=by unfold z08 at h;exact h
mutual
noncomputable def DV.deep:DV->Nat
 | .tup ds=>DV.R8 ds+1
 | _=>0
noncomputable def DV.R8:List DV->Nat
 | []=>0
 | d::ds=>max d.deep (DV.R8 ds)
end
noncomputable def y2K:V->Bool
 | .non=>true
 | .bl _=>true
 | .int _=>true
 | .str _=>true
 | _=>false
noncomputable def z5i(H:Hp):Nat->V->V->Prop
 | 0,x,y=>x=y/\y2K x=true
 | n+1,x,y=>(x=y/\y2K x=true)\/∃(a b:Addr) (xs ys:List V),x=.ref a/\y=.ref b/\H a=some (.tup xs)/\H b=some (.tup ys)/\xs.length=ys.length/\ys.length≤1000000/\
   ∀(i:Nat) (u v:V),xs[i]? = some u->ys[i]? = some v->z5i H n u v
theorem z5i.keep{H H':Hp}(s:B0 H H'):∀{n:Nat}{x y:V},z5i H n x y->z5i H' n x y
 | 0,_,_,h=>h
 | n+1,x,y,h=>by
  rcases h with h|⟨a,b,xs,ys,e1,e2,h1,h2,hl,hm,h⟩
  ·exact .inl h
  ·exact .inr ⟨a,b,xs,ys,e1,e2,s _ _ h1,s _ _ h2,hl,hm,fun i u v hu hv=>z5i.keep s (h i u v hu hv)⟩
theorem z5i.up{H:Hp}:∀{n:Nat}{x y:V},z5i H n x y->z5i H (n+1) x y
 | 0,_,_,h=>.inl h
 | n+1,x,y,h=>by
  rcases h with h|⟨a,b,xs,ys,e1,e2,h1,h2,hl,hm,h⟩
  ·exact .inl h
  ·exact .inr ⟨a,b,xs,ys,e1,e2,h1,h2,hl,hm,fun i u v hu hv=>z5i.up (h i u v hu hv)⟩
theorem z5i.mono{H:Hp}{x y:V}{n m:Nat}(h:z5i H n x y)(hm:n≤m):z5i H m x y:=by
 induction hm with
 | refl=>exact h
 | step _ ih=>exact ih.up
mutual
theorem z3U{H:Hp}:∀(d:DV) (x y:V),B2 H d x->B2 H d y->z5i H d.deep x y
 | .non,x,y,h1,h2=>by
  unfold B2 at h1 h2
  subst h1 h2
  exact⟨rfl,rfl⟩
 | .bl _,x,y,h1,h2=>by
  unfold B2 at h1 h2
  subst h1 h2
  exact⟨rfl,rfl⟩
 | .int _,x,y,h1,h2=>by
  unfold B2 at h1 h2
  subst h1 h2
  exact⟨rfl,rfl⟩
 | .str _,x,y,h1,h2=>by
  unfold B2 at h1 h2
  subst h1 h2
  exact⟨rfl,rfl⟩
 | .tup ds,x,y,h1,h2=>by
  unfold B2 at h1 h2
  obtain⟨a,xs,rfl,a1,a2,a3⟩:=h1
  obtain⟨b,ys,rfl,b1,b2,b3⟩:=h2
  unfold DV.deep
  exact .inr ⟨a,b,xs,ys,rfl,rfl,a1,b1,by rw[a3.length,b3.length],b2,z8G ds xs ys a3 b3⟩
theorem z8G{H:Hp}:∀(ds:List DV) (xs ys:List V),z08 H ds xs->z08 H ds ys->∀(i:Nat) (u v:V),xs[i]? = some u->ys[i]? = some v->z5i H (DV.R8 ds) u v
 | [],xs,ys,h1,h2,i,u,v,e1,e2=>by
  unfold z08 at h1
  subst h1
  simp at e1
 | d::ds,xs,ys,h1,h2,0,u,v,e1,e2=>by
  unfold z08 at h1 h2
  obtain⟨x,r,rfl,a1,a2⟩:=h1
  obtain⟨y,t,rfl,b1,b2⟩:=h2
  simp at e1 e2
  subst e1 e2
  unfold DV.R8
  exact(z3U d x y a1 b1).mono (Nat.le_max_left _ _)
 | d::ds,xs,ys,h1,h2,i+1,u,v,e1,e2=>by
  unfold z08 at h1 h2
  obtain⟨x,r,rfl,a1,a2⟩:=h1
  obtain⟨y,t,rfl,b1,b2⟩:=h2
  unfold DV.R8
  exact(z8G ds r t a2 b2 i u v (by simpa using e1) (by simpa using e2)).mono (Nat.le_max_right _ _)
end
end L2
namespace L2
open PySem PySem.Spec PyProof.Rows
section
variable{κ:Type}[DecidableEq κ]
def M9(ks:List κ):List κ:=ks.foldl (fun acc k=>if k∈acc then acc else acc++[k]) []
theorem y45(ks:List κ)(k:κ):M9 (ks++[k])=if k∈M9 ks then M9 ks else M9 ks++[k]:=by
 unfold M9
 rw[gJ]
 rfl
theorem y3F{ks:List κ}{i:Nat}{k:κ}(h:ks[i]? = some k):M9 (ks.take (i+1))=if k∈M9 (ks.take i) then M9 (ks.take i) else M9 (ks.take i)++[k]:=by
 have e:ks.take (i+1)=ks.take i++[k]:=by rw[fH,h]<;>rfl
 rw[e,y45]
theorem z8p(k:κ):∀(ks acc:List κ),k∈ks.foldl (fun acc k=>if k∈acc then acc else acc++[k]) acc↔k∈acc\/k∈ks
 | [],acc=>by simp
 | x::r,acc=>by
  rw[dI,z8p k r]
  by_cases h:x∈acc
  ·rw[if_pos h,bE]
   constructor
   ·rintro(a|a)
    ·exact .inl a
    ·exact .inr (.inr a)
   ·rintro(a|rfl|a)
    ·exact .inl a
    ·exact .inl h
    ·exact .inr a
  ·rw[if_neg h,bS,bB,bE,or_assoc]
theorem y2p{k:κ}{ks:List κ}:k∈M9 ks↔k∈ks:=by unfold M9;rw[z8p];simp
theorem z93:∀(ks acc:List κ),(ks.foldl (fun acc k=>if k∈acc then acc else acc++[k]) acc).length≤acc.length+ks.length
 | [],acc=>by simp
 | x::r,acc=>by
  rw[dI]
  refine cL (z93 r _) ?_
  by_cases h:x∈acc
  ·rw[if_pos h,cN];lia
  ·rw[if_neg h,bN,cN,cN,List.length_nil];lia
theorem y2m(ks:List κ):(M9 ks).length≤ks.length:=by
 have:=z93 ks []
 simpa [M9] using this
theorem z9q:∀(ks acc:List κ),(acc++ks).Nodup->ks.foldl (fun acc k=>if k∈acc then acc else acc++[k]) acc=acc++ks
 | [],acc,_=>by simp
 | x::r,acc,h=>by
  have hx:x∉acc:=fun hx=>by
   rw[j8] at h
   exact h.2.2 x hx x (cC) rfl
  rw[dI,if_neg hx,z9q r (acc++[x]) (by rw[eV];exact h),eV]
  rfl
theorem y4X{ks:List κ}(h:ks.Nodup):M9 ks=ks:=by
 have:=z9q ks [] (by simpa using h)
 simpa [M9] using this
end
section
variable{prog:Program}{w:World}{A:Around}{κ:Type}[DecidableEq κ]{kd:KeyKind prog w κ}{I:Addr}{fp wr:List Addr}{G:Array GenState->Array GenState->Prop}{n:Nat}{P:Nat->Value->Prop}{St:Nat->Shared->Prop}
abbrev z6c(kd:KeyKind prog w κ)(h:Heap)(a:Addr)(ks:List κ):Prop:=h.SetOf kd a (fun k=>decide (k∈ks)) (M9 ks).length
theorem z6c.at{h h':Heap}{a:Addr}{ks:List κ}(x:z6c kd h a ks)(e:∀o,h.get? a=some o->h'.get? a=some o):z6c kd h' a ks:=by
 obtain⟨o,es,ep,t,ho,r⟩:=x
 exact⟨o,es,ep,t,e o ho,r⟩
theorem z9Z{R:Result->Shared->Prop}(W:WalksS prog w A.in1 I fp wr G n P St){a:Addr}(out:a∉fp){ks:List κ}(lk:ks.length=n)
  (vals:∀i v,P i v->∃k,ks[i]? = some k/\kd.is k v=true/\v.scannable=true) (few:n+1<scanBound) :
  ∀(todo i:Nat) (s:Shared),i+todo=n->St i s->z6c kd s.heap a (ks.take i)->
   (∀s',Moved (a::wr) G s s'->z6c kd s'.heap a ks->R (.ok (.ret .none)) s')->codeAny (model prog w) A (.builtin "set.update.loop" ⟨[.ref a,.ref I],[]⟩) R s
 | 0,i,s,ei,st,sx,fin=>by
  have e:ks.take i=ks:=cO (by lia)
  rw[e] at sx
  have ei':i=n:=by lia
  subst ei'
  refine codeAny_builtin F.entry_set_update_loop ?_
  rw[cP j5 _]
  refine wpAny_bind (W.done s _ _ st fun s' mv=>wpAny_pure (fin s' (mv.mono fun b hb=>.tail _ hb) (sx.at fun o=>mv.heap a o fun q=>out (W.sub _ q))))
 | todo+1,i,s,ei,st,sx,fin=>by
  refine codeAny_builtin F.entry_set_update_loop ?_
  rw[cP j5 _]
  refine wpAny_bind (W.item i s _ _ (by lia) st fun v s1 hv st1 mv=>?_)
  obtain⟨k,ek,iv,sc⟩:=vals i v hv
  have sx1:=sx.at (h':=s1.heap) fun o=>mv.heap a o fun q=>out (W.sub _ q)
  refine wpAny_bind (wpAny_holding (m:=setAdd a v) ?_)
  unfold setAdd
  refine wpAny_holding (wpAny_bind (kd.pyHash iv ?_))
  have lm:=y2m (ks.take i)
  rw[bG] at lm
  refine wpAny_setAddHashed_of (s:={ s1 with toks:=s1.toks+1 }) iv sc sx1 (by lia) fun h2 sb sx2=>?_
  have sx3:z6c kd h2 a (ks.take (i+1)):=by
   have e1:(fun k'=>decide (k'∈ks.take i) || decide (k'=k))=fun k'=>decide (k'∈ks.take (i+1)):=by
    funext k'
    rw[fH,ek]
    simp[Bool.decide_or]
   have e2:(if decide (k∈ks.take i)=true then (M9 (ks.take i)).length else (M9 (ks.take i)).length+1)=(M9 (ks.take (i+1))).length:=by
    rw[y3F ek]
    by_cases hk:k∈ks.take i
    ·rw[if_pos (decide_eq_true hk),if_pos (y2p.mpr hk)]
    ·rw[if_neg (by simpa using hk),if_neg (fun q=>hk (y2p.mp q)),bN]
     rfl
   rw[e1,e2] at sx2
   exact sx2
  have far:∀b,b≠a->h2.get? b=s1.heap.get? b:=fun b hb=>sb.2 b hb
  refine wpAny_pure ⟨plainId_quiet j5 _,z9Z W out lk vals few todo (i+1) _ (by lia) (W.frame _ s1 _ _ st1 (gP _) fun b hb o q=>?_) sx3 fun s3 mv3 sx4=>?_⟩
  ·rw[far b fun z=>out (z ▸ hb)];exact q
  ·refine fin s3 (.trans W.gtrans ((mv.mono fun b hb=>.tail _ hb).then_heap (gP _) fun b o hb q=>?_) mv3) sx4
   rw[far b fun z=>hb (z ▸ .head _)];exact q
end
namespace Ty
theorem y4r:isSubtype (.type "tuple") (.type "set")=pure false:=by rw[isSubtype_type];kernel_rfl
theorem z8J:isSubtype (.type "tuple") (.type "frozenset")=pure false:=by rw[isSubtype_type];kernel_rfl
end Ty
abbrev R6(led:Bool):Obj:={ cls:=.type "set",dict:=none,data:=.set #[] 0 (.fresh 0 0 led) }
section
variable{prog:Program}{w:World}{A:Around}{E:Value->Shared->Prop}{s:Shared}{κ:Type}[DecidableEq κ]{kd:KeyKind prog w κ}
theorem y5P{T:String}{p:Addr}{o:Obj}{its:Array Value}{c0:Nat}{ks:List κ}{Q:Value->Shared->Prop}(hh:A.handled=none)(hp:s.heap.get? p=some o)(hc:o.cls=.type T)(hd:o.data=.seq its c0)(hT:T="list"\/T="tuple")
  (lk:ks.length=its.size) (vals:∀(i:Nat) v,its[i]? = some v->∃k,ks[i]? = some k/\kd.is k v=true/\v.scannable=true) (few:its.size+1<scanBound)
  (fin:∀(h':Heap) (t:Nat),z6c kd h' s.heap.objs.size ks->(∀b u,b<s.heap.objs.size->s.heap.get? b=some u->h'.get? b=some u)->Q (.ref s.heap.objs.size) { s with heap:=h',toks:=t }) :
  wpAny (model prog w) A (call (.type "set") [.ref p]) Q E s:=by
 obtain⟨c,tl,hmro⟩:=fN.mro
 have g1:=fN.made
 have g2:=fN.sub
 refine wpAny_call (codeAny_of_tree (wpAny_pure ⟨Code.quiet_builtin _ (by decide +kernel),codeAny_builtin F.entry_type_call ?_⟩))
 rw[Around.under_plain (weight_type_call_type "set" [.ref p] []) rfl]
 have g3:=fN.notType
 have g4:=fN.canCreate
 have g5:=F.typeCall_set_1 (.ref p)
 repeat (any_goals (first|assumption|wp_step))
 refine codeAny_mono (code_set_new_1 (.ref p) (E:=E) (Q₁:=fun u s1=>∃led,u=.ref s.heap.objs.size/\s1={ s with heap:=s.heap.push (R6 led) }) fun led=>⟨led,rfl,rfl⟩) fun r s1 q1=>?_
 rcases r with e|(_|_|_|u)
 all_goals try exact q1.elim
 all_goals try exact q1
 obtain⟨led,rfl,rfl⟩:=q1
 have at1:(s.heap.push (R6 led)).get? s.heap.objs.size=some (R6 led):=bL _ rfl
 have ty1:Shared.TypeIs { s with heap:=s.heap.push (R6 led) } (.ref s.heap.objs.size) "set":=⟨_,at1,rfl⟩
 have g6:=fN.init.lookup
 have g7:=fN.init.bind (.ref s.heap.objs.size)
 repeat (any_goals (first|assumption|wp_step))
 refine codeAny_mono (codeAny_call_builtin (R:=wants (fun r s2=>r=.none/\∃h' t,s2={ s with heap:=h',toks:=t }/\z6c kd h' s.heap.objs.size ks/\∀b u,b<s.heap.objs.size->s.heap.get? b=some u->h'.get? b=some u) E)
  fN.init.plain F.entry_set_init (check_set_init_1 ty1 ?_)) fun r s2 q2=>?_
 case _=>
  have hpS:p<s.heap.objs.size:=bQ hp
  obtain⟨oc,od,oa,os⟩:=o
  simp only at hc hd
  subst hc;subst hd
  have hp1:(s.heap.push (R6 led)).get? p=some { cls:=.type T,dict:=od,data:=.seq its c0,slots:=os }:=bA _ hp
  have f1:isSubtype (.type T) (.type "set")=pure false:=by rcases hT with rfl|rfl<;>first|exact F.sub_list_set|exact Ty.y4r
  have f2:isSubtype (.type T) (.type "frozenset")=pure false:=by rcases hT with rfl|rfl<;>first|exact F.sub_list_frozenset|exact Ty.z8J
  have f3:(Value.type T == Value.type "dict")=false:=by rcases hT with rfl|rfl<;>decide
  have hh3:A.in1.in1.in1.handled=none:=by simp[hh]
  have sz:(s.heap.push (R6 led)).objs.size=s.heap.objs.size+1:=dY _ _
  have apart:p≠(s.heap.push (R6 led)).objs.size:=by rw[sz];exact cJ (fG hpS)
  have out:s.heap.objs.size∉[(s.heap.push (R6 led)).objs.size,p]:=by rw[sz,bE,bB];exact fun z=>z.elim (cJ (gM _)) (eU hpS)
  have z6F:∀x:Obj,z6c kd ((s.heap.push (R6 led)).push x) s.heap.objs.size (ks.take 0):=fun x=>by
   have z:=(setObjOf_fresh (knd:=kd) led).setOf (bA x at1) (by unfold scanBound;lia)
   have e:(fun k:κ=>decide (k∈ks.take 0))=fun _=>false:=by funext k;simp
   show Heap.SetOf kd _ _ (fun k=>decide (k∈ks.take 0)) _
   rw[e]
   exact z
  have ends:∀(x:Obj) (s':Shared),Moved [s.heap.objs.size,(s.heap.push (R6 led)).objs.size] (fun a b=>b=a) { s with heap:=(s.heap.push (R6 led)).push x } s'->z6c kd s'.heap s.heap.objs.size ks->
    ∃h' t,s'={ s with heap:=h',toks:=t }/\z6c kd h' s.heap.objs.size ks/\∀b u,b<s.heap.objs.size->s.heap.get? b=some u->h'.get? b=some u:=fun x s' mv sx=>by
   obtain⟨h',g',d',t',o'⟩:=s'
   obtain rfl:g'=s.gens:=mv.gens
   obtain rfl:d'=s.drawn:=mv.drawn
   obtain rfl:o'=s.os:=mv.os
   exact⟨h',t',rfl,sx,fun b u hb q=>mv.heap b u (by rw[sz,bE,bB];exact fun z=>z.elim (cJ hb) (cJ (fG hb))) (bA _ (bA _ q))⟩
  unfold Builtin.«set.__init__» noKeywords Builtin.Frozenset.updateFrom
  generalize hPI:pyIter=PI
  wp_walk
  subst hPI
  rcases hT with rfl|rfl
  ·have hl:(s.heap.push (R6 led)).IsList p its:=⟨_,hp1,rfl,c0,rfl⟩
   refine wpAny_pyIter_list hl (wpAny_bind (wpAny_runValue ?_))
   refine z9Z (kd:=kd) ((Walks.list hh3 _ p apart its).toS) out lk vals few its.size 0 _ (kA _) ⟨⟨_,bL _ rfl,rfl,rfl⟩,hl.push _⟩ (z6F _) fun s' mv sx=>?_
   exact wpAny_pure (wpAny_pure ⟨rfl,ends _ s' mv sx⟩)
  ·have hl:(s.heap.push (R6 led)).IsTuple p its:=⟨_,hp1,rfl,c0,rfl⟩
   refine wpAny_pyIter_tuple hl (wpAny_bind (wpAny_runValue ?_))
   refine z9Z (kd:=kd) ((Walks.tuple hh3 _ p apart its).toS) out lk vals few its.size 0 _ (kA _) ⟨⟨_,bL _ rfl,rfl,rfl⟩,hl.push _⟩ (z6F _) fun s' mv sx=>?_
   exact wpAny_pure (wpAny_pure ⟨rfl,ends _ s' mv sx⟩)
 ·rcases r with e|(_|_|_|u)
  all_goals try exact q2.elim
  all_goals try exact q2
  obtain⟨rfl,h',t,rfl,sx,kp⟩:=q2
  repeat (any_goals (first|assumption|wp_step))
  exact fin _ _ sx kp
end
section
variable{X:Cx}
noncomputable def S9(P:Program)(w:World)(a:Addr)(zs:List Str):HO:=.ext fun h=>z6c (strKind P w) h a zs
theorem S9.new{P:Program}{w:World}{H:Hp}{h:Heap}{a:Addr}{zs:List Str}(x:z6c (strKind P w) h a zs):z1C P w H h a (S9 P w a zs):=by
 refine⟨x,?_,fun h1 h2 y e=>z6c.at y e⟩
 obtain⟨o,_,_,_,e,_⟩:=x
 exact⟨o,e⟩
theorem y2A:∀{zs:List Str}{us:List Value},Vals (zs.map V.str) us->∀(i:Nat) (v:Value),us[i]? = some v->∃(k:Str) (t:Tok),zs[i]? = some k/\v=.str k t
 | [],_,.nil,i,v,h=>by simp at h
 | z::zs,u::us,.cons r rs,0,v,h=>by
  simp at h
  subst h
  obtain⟨t,rfl⟩:=r
  exact⟨z,t,rfl,rfl⟩
 | z::zs,u::us,.cons r rs,i+1,v,h=>by
  simp at h
  obtain⟨k,t,a,b⟩:=y2A rs i v h
  exact⟨k,t,by simpa using a,b⟩
theorem z5r(hc:X.calm=true):z3K X (.type "set") (fun xs H Q=>∃p zs,xs=[.ref p]/\(SqL X.K H p (zs.map V.str)\/SqT X.K H p (zs.map V.str))/\zs.length≤1000/\∀l,H l=none->Q (.ref l) (upd H l (S9 X.prog X.w l zs))):=by
 intro pins s σ H xs us Q I r h
 obtain⟨p,zs,rfl,hq,hl,q⟩:=h
 obtain⟨u,rfl,rx⟩:=z4F r
 cases rx
 have go:∀(T:String) (o:Obj) (its:List Value) (c0:Nat),s.heap.get? p=some o->o.cls=.type T->o.data=.seq its.toArray c0->(T="list"\/T="tuple")->Vals (zs.map V.str) its->wpAny (model X.prog X.w) X.A (call (.type "set") [.ref p]) (EP X pins σ Q) X.xe s:=
  fun T o its c0 ho hcl hda hT rv=>by
   have ln:zs.length=its.length:=by have:=rv.length;rwa [b9] at this
   refine y5P (kd:=strKind X.prog X.w) (ks:=zs) (I.ok.hd hc) ho hcl hda hT (by simpa using ln) (fun i v hv=>?_) (by simp[scanBound];lia) fun h' t sx kp=>?_
   ·obtain⟨k,t,a,rfl⟩:=y2A rv i v (by simpa using hv)
    exact⟨k,a,strKind_is _ _ _ _,rfl⟩
   ·refine⟨.ref s.heap.objs.size,_,I.laid (a:=s.heap.objs.size) (o:=S9 X.prog X.w s.heap.objs.size zs) (h':=h') (t':=t) (fun b u q1=>kp b u (bQ q1) q1) (bI _) (S9.new sx),rfl,q _ (I.hok.fresh (bI _))⟩
 rcases hq with hq|hq
 ·obtain⟨its,rv,pl,_⟩:=I.list hq
  obtain⟨o,ho,hcl,n,hda⟩:=pl.isList
  exact go "list" o its n ho hcl hda (.inl rfl) rv
 ·obtain⟨its,rv,pl,_⟩:=I.tuple hq
  obtain⟨o,ho,hcl,n,hda⟩:=pl
  exact go "tuple" o its n ho hcl hda (.inr rfl) rv
theorem z6l:z3K X (.builtin "len") (fun xs H Q=>∃p zs,xs=[.ref p]/\H p=some (S9 X.prog X.w p zs)/\zs.length≤1000/\Q (.int (M9 zs).length) H):=by
 intro pins s σ H xs us Q I r h
 obtain⟨p,zs,rfl,hp,hl,q⟩:=h
 obtain⟨u,rfl,rx⟩:=z4F r
 cases rx
 obtain⟨⟨o,es,ep,t,e1,e2,e3,_,_,_,e4,e5⟩,_⟩:=(show z1C X.prog X.w H s.heap p (S9 X.prog X.w p zs) from I.hok p _ hp)
 have:=y2m zs
 exact PySem.call_len_set e1 e2 e3 e4 (by lia) ⟨.int (M9 zs).length,H,I.tok _,⟨s.toks+1,by rw[e5]⟩,q⟩
end
section
variable{κ:Type}[DecidableEq κ]
noncomputable def L9(kvs:List (κ×V))(k:κ):Option V:=(kvs.find? fun kv=>decide (kv.1=k)).map (·.2)
noncomputable def putK(kvs:List (κ×V))(k:κ)(v:V):List (κ×V):=
 if (kvs.any fun kv=>decide (kv.1=k))=true then kvs.map (fun kv=>if kv.1=k then (kv.1,v) else kv) else kvs++[(k,v)]
theorem z6i{p:κ×V}{r:List (κ×V)}{k:κ}(e:p.1=k):L9 (p::r) k=some p.2:=by simp[L9,dU,e]
theorem z6q{p:κ×V}{r:List (κ×V)}{k:κ}(e:¬p.1=k):L9 (p::r) k=L9 r k:=by simp[L9,dU,e]
theorem z7Y(k:κ):∀kvs:List (κ×V),(kvs.any fun kv=>decide (kv.1=k))=(L9 kvs k).isSome
 | []=>rfl
 | p::r=>by
  rw[fX]
  by_cases e:p.1=k
  ·simp only[z6i e,decide_eq_true e,Bool.true_or,Option.isSome_some]
  ·rw[z6q e,decide_eq_false e,Bool.false_or];exact z7Y k r
theorem z8O(kvs:List (κ×V))(k:κ)(v:V):(putK kvs k v).length≤kvs.length+1:=by
 unfold putK
 split
 ·rw[b9];lia
 ·rw[bN,cN,List.length_nil];lia
theorem y1Q{kvs:List (κ×V)}{k:κ}(v:V)(h:L9 kvs k=none):putK kvs k v=kvs++[(k,v)]:=by
 unfold putK
 rw[z7Y,h]
 exact if_neg (by decide)
theorem P1.R7{o:Option V}{u:Option Value}(r:P1 o u):o.isSome=u.isSome:=by
 cases o with
 | none=>cases u with
  | none=>rfl
  | some _=>exact(show False from r).elim
 | some _=>cases u with
  | none=>exact(show False from r).elim
  | some _=>rfl
theorem KV.val{kvs:List (κ×V)}{vs:List (κ×Value)}(r:KV kvs vs)(k:κ):P1 (L9 kvs k) (valueAt vs k):=by
 unfold KV at r
 induction r with
 | nil=>exact True.intro
 | @cons p q ps qs h t ih=>
  obtain⟨h1,h2⟩:=h
  by_cases e:p.1=k
  ·have e':q.1=k:=h1.symm.trans e
   have b:valueAt (q::qs) k=some q.2:=by simp[valueAt,dU,e']
   rw[z6i e,b];exact h2
  ·have e':¬q.1=k:=fun z=>e (h1.trans z)
   have b:valueAt (q::qs) k=valueAt qs k:=by simp[valueAt,dU,e']
   rw[z6q e,b];exact ih
theorem KV.any{kvs:List (κ×V)}{vs:List (κ×Value)}(r:KV kvs vs)(k:κ):(kvs.any fun kv=>decide (kv.1=k))=vs.any fun kv=>decide (kv.1=k):=by
 unfold KV at r
 induction r with
 | nil=>rfl
 | cons h t ih=>rw[fX,fX,ih,h.1]
theorem KV.w0e{kvs:List (κ×V)}{vs:List (κ×Value)}(r:KV kvs vs)(k:κ){y:V}{u:Value}(ry:RelV y u) :
  KV (kvs.map fun kv=>if kv.1=k then (kv.1,y) else kv) (vs.map fun kv=>if kv.1=k then (kv.1,u) else kv):=by
 unfold KV at r ⊢
 induction r with
 | nil=>exact .nil
 | @cons p q ps qs h t ih=>
  rw[cS,cS]
  refine .cons ?_ ih
  obtain⟨h1,h2⟩:=h
  by_cases e:p.1=k
  ·rw[if_pos e,if_pos (h1.symm.trans e)];exact⟨h1,ry⟩
  ·rw[if_neg e,if_neg (fun z=>e (h1.trans z))];exact⟨h1,h2⟩
theorem KV.put{kvs:List (κ×V)}{vs:List (κ×Value)}(r:KV kvs vs)(k:κ){y:V}{u:Value}(ry:RelV y u):KV (putK kvs k y) (stored vs k u):=by
 unfold putK stored
 rw[r.any k]
 by_cases e:(vs.any fun kv=>decide (kv.1=k))=true
 ·rw[if_pos e,if_pos e];exact r.w0e k ry
 ·rw[if_neg e,if_neg e];exact jV r ⟨rfl,ry⟩
theorem KV.keys{kvs:List (κ×V)}{vs:List (κ×Value)}(r:KV kvs vs):kvs.map (·.1)=vs.map (·.1):=by
 unfold KV at r
 induction r with
 | nil=>rfl
 | cons h t ih=>rw[cS,cS,ih,h.1]
theorem KV.length{kvs:List (κ×V)}{vs:List (κ×Value)}(r:KV kvs vs):kvs.length=vs.length:=Paired.length r
end
theorem y4R{P:Program}{w:World}{k:Key}{u:Value}(r:RelV (kV k) u):(z1D P w).is k u=true:=by
 cases k with
 | inl i=>obtain⟨t,e⟩:=(show ∃t,u=Value.int i t from r);subst e;exact y1m P w i t
 | inr x=>obtain⟨t,e⟩:=(show ∃t,u=Value.str x t from r);subst e;exact y1D P w x t
theorem y0S{P:Program}{w:World}:∀{ks:List Key}{us:List Value},Vals (ks.map kV) us->ItemsAre (z1D P w) ks us
 | [],_,r=>by rw[List.map_nil] at r;cases r;exact .nil
 | k::ks,_,r=>by
  rw[cS] at r
  cases r with
  | cons h t=>exact .cons (y4R h) (y0S t)
abbrev KT(H:Hp):List (List Key×V)->List (List Key×Addr×Value)->Prop:=Paired fun p q=>p.1=q.1/\H q.2.1=some (.tup (p.1.map kV))/\RelV p.2 q.2.2
theorem KT.val{H:Hp}{kvs:List (List Key×V)}{xs:List (List Key×Addr×Value)}(r:KT H kvs xs)(k:List Key):P1 (L9 kvs k) ((atKey xs k).map (·.2)):=by
 induction r with
 | nil=>exact True.intro
 | @cons p q ps qs h t ih=>
  obtain⟨h1,_,h2⟩:=h
  by_cases e:p.1=k
  ·have e':q.1=k:=h1.symm.trans e
   have b:atKey (q::qs) k=some q.2:=by simp[atKey,dU,e']
   rw[z6i e,b];exact h2
  ·have e':¬q.1=k:=fun z=>e (h1.trans z)
   have b:atKey (q::qs) k=atKey qs k:=by simp[atKey,dU,e']
   rw[z6q e,b];exact ih
theorem KT.w0e{H:Hp}{kvs:List (List Key×V)}{xs:List (List Key×Addr×Value)}(r:KT H kvs xs)(k:List Key){y:V}{u:Value}(ry:RelV y u) :
  KT H (kvs.map fun kv=>if kv.1=k then (kv.1,y) else kv) (xs.map (putAt k u)):=by
 induction r with
 | nil=>exact .nil
 | @cons p q ps qs h t ih=>
  rw[cS,cS]
  refine .cons ?_ ih
  obtain⟨h1,h2,h3⟩:=h
  unfold putAt
  by_cases e:p.1=k
  ·rw[if_pos e,if_pos (h1.symm.trans e)];exact⟨h1,h2,ry⟩
  ·rw[if_neg e,if_neg (fun z=>e (h1.trans z))];exact⟨h1,h2,h3⟩
theorem KT.put{H:Hp}{kvs:List (List Key×V)}{xs:List (List Key×Addr×Value)}(r:KT H kvs xs)(k:List Key){b:Addr}{y:V}{u:Value}(hb:H b=some (.tup (k.map kV)))(ry:RelV y u) :
  KT H (putK kvs k y) (storedH xs k b u):=by
 have e:(kvs.any fun kv=>decide (kv.1=k))=(atKey xs k).isSome:=by
  rw[z7Y,(r.val k).R7,Option.isSome_map]
 unfold putK storedH
 rw[e]
 by_cases q:(atKey xs k).isSome=true
 ·rw[if_pos q,if_pos q];exact r.w0e k ry
 ·rw[if_neg q,if_neg q];exact jV r ⟨rfl,hb,ry⟩
theorem KT.keeps{H H':Hp}{kvs:List (List Key×V)}{xs:List (List Key×Addr×Value)}(r:KT H kvs xs)(ht:∀b ys,H b=some (.tup ys)->H' b=some (.tup ys)):KT H' kvs xs:=
 Paired.U3 r fun _ _ z=>⟨z.1,ht _ _ z.2.1,z.2.2⟩
section
variable{P:Program}{w:World}{H:Hp}{h:Heap}{a:Addr}
theorem y8C{u:HO}(ok:HOk P w H h)(e:Rd H a u):z1C P w H h a u:=e.ok ok
theorem y5M{kvs:List (Key×V)}(ok:HOk P w H h)(e:Rd H a (.dK kvs)):kvs.length≤sizeLine/\(a == sysModules)=false/\∃vs,KV kvs vs/\h.DictOf (z1D P w) a vs:=
 show z1C P w H h a (.dK kvs) from y8C ok e
theorem y8L{kvs:List (Key×V)}(ok:HOk P w H h)(e:H a=some (.dK kvs)):kvs.length≤sizeLine/\(a == sysModules)=false/\∃vs,KV kvs vs/\h.DictOf (z1D P w) a vs:=y5M ok (.inl e)
theorem y2B{ks:List Key}(ok:HOk P w H h)(e:H a=some (.tup (ks.map kV))):(tupleKind (z1D P w)).is h ks a:=by
 obtain⟨_,its,r,o,h1,h2,⟨n,h3⟩,_⟩:=(show z1C P w H h a (.tup (ks.map kV)) from ok a _ e)
 exact⟨o,its.toArray,n,h1,h2,h3,by simpa using y0S r⟩
theorem y6s{kvs:List (List Key×V)}(ok:HOk P w H h)(e:Rd H a (.dT kvs)):kvs.length≤sizeLine/\(a == sysModules)=false/\
  ∃xs,KT H kvs xs/\h.DictOfH (tupleKind (z1D P w)) a xs:=by
 obtain⟨z,y,xs,r,o,es,ep,h1,h2,h3,h4,h5⟩:=(show z1C P w H h a (.dT kvs) from y8C ok e)
 refine⟨z,y,xs,r,o,es,ep,h1,h2,h3,h4,fun x hx=>?_,h5⟩
 have all:∀{l:List (List Key×V)}{m:List (List Key×Addr×Value)},KT H l m->∀x∈m,(tupleKind (z1D P w)).is h x.1 x.2.1:=by
  intro l m q
  induction q with
  | nil=>intro x hx;exact nomatch hx
  | @cons p q ps qs hq t ih=>
   intro x hx
   rcases bE.mp hx with e|hx
   ·subst e
    exact y2B ok (by rw[<- hq.1];exact hq.2.1)
   ·exact ih x hx
 exact all r x hx
theorem w1B{kvs:List (List Key×V)}(ok:HOk P w H h)(e:H a=some (.dT kvs)):kvs.length≤sizeLine/\(a == sysModules)=false/\
  ∃xs,KT H kvs xs/\h.DictOfH (tupleKind (z1D P w)) a xs:=y6s ok (.inl e)
end
noncomputable def N6(H:Hp)(a:Addr)(y:V)(r:Option V):Prop:=
 (∃kvs k,Rd H a (.dK kvs)/\y=kV k/\r=L9 kvs k)\/∃kvs k b,Rd H a (.dT kvs)/\y=.ref b/\H b=some (.tup (k.map kV))/\r=L9 kvs k
noncomputable def V6(H:Hp)(a:Addr)(y v:V)(H':Hp):Prop:=
 (∃kvs k,H a=some (.dK kvs)/\y=kV k/\kvs.length<sizeLine/\H'=upd H a (.dK (putK kvs k v)))\/
 ∃kvs k b,H a=some (.dT kvs)/\y=.ref b/\H b=some (.tup (k.map kV))/\kvs.length<sizeLine/\H'=upd H a (.dT (putK kvs k v))
theorem N6.k{H:Hp}{a:Addr}{kvs:List (Key×V)}{k:Key}(e:H a=some (.dK kvs)):N6 H a (kV k) (L9 kvs k):=.inl ⟨kvs,k,.inl e,rfl,rfl⟩
theorem V6.k{H:Hp}{a:Addr}{kvs:List (Key×V)}{k:Key}{v:V}(e:H a=some (.dK kvs))(hl:kvs.length<sizeLine):V6 H a (kV k) v (upd H a (.dK (putK kvs k v))):=.inl ⟨kvs,k,e,rfl,hl,rfl⟩
section
variable{X:Cx}{pins:List (Addr×Obj)}{σ:St}{H:Hp}{s:Shared}{a:Addr}{y v:V}{u r:Value}{o:Option V}{A:Around}{E:Value->Shared->Prop}
theorem Inv.big(I:Inv X pins σ H s):sysModules<s.heap.objs.size:=by
 have h:mainGlobals<s.heap.objs.size:=(I.mod.glob.keeps I.bk).lt
 exact Nat.lt_trans (by decide) h
theorem y3B{Q:Value->Shared->Prop}(hu:A.units+1<cLine)(I:Inv X pins σ H s)(g:N6 H a y (some v))(ry:RelV y u)(h:∀w' s',Inv X pins σ H s'->RelV v w'->Q w' s') :
  wpAny (model X.prog X.w) A (getItem (.ref a) u) Q E s:=by
 rcases g with ⟨kvs,k,e,ey,l⟩|⟨kvs,k,b,e,ey,eb,l⟩
 ·subst ey
  obtain⟨z,hd,vs,rel,dd⟩:=y5M I.hok e
  obtain⟨w',hw,rw'⟩:=P1.some_of (v:=v) (o:=valueAt vs k) (by rw[l];exact rel.val k)
  exact wpAny_getItem_of (y4R ry) dd.mapOf hw (h w' _ (I.tok _) rw')
 ·subst ey
  cases (show u=Value.ref b from ry)
  obtain⟨z,hd,xs,rel,dd⟩:=y6s I.hok e
  obtain⟨w',hw,rw'⟩:=P1.some_of (v:=v) (o:=(atKey xs k).map (·.2)) (by rw[l];exact rel.val k)
  obtain⟨p,hp,hp2⟩:=bU.mp hw
  refine wpAny_getItem_heap (tupleKind_room_in1 hu) (y2B I.hok eb) dd hp ?_
  rw[hp2]
  exact h w' _ (I.tok _) rw'
theorem d_in{Q:Value->Shared->Prop}(hu:A.units+1<cLine)(I:Inv X pins σ H s)(g:N6 H a y o)(ry:RelV y u)(h:∀s',Inv X pins σ H s'->Q (.bool o.isSome) s') :
  wpAny (model X.prog X.w) A (compareOp .In u (.ref a)) Q E s:=by
 rcases g with ⟨kvs,k,e,ey,l⟩|⟨kvs,k,b,e,ey,eb,l⟩
 ·subst ey
  obtain⟨z,hd,vs,rel,dd⟩:=y5M I.hok e
  refine wpAny_in_of (y4R ry) hd dd.mapOf ?_
  rw[<- (rel.val k).R7,<- l]
  exact h _ (I.tok _)
 ·subst ey
  cases (show u=Value.ref b from ry)
  obtain⟨z,hd,xs,rel,dd⟩:=y6s I.hok e
  refine wpAny_in_heap (tupleKind_room_in1 hu) (y2B I.hok eb) hd dd ?_
  have q:=(rel.val k).R7
  rw[Option.isSome_map] at q
  rw[<- q,<- l]
  exact h _ (I.tok _)
theorem y56{h':Heap}{t':Nat}{ob:HO}(I:Inv X pins σ H s)(mu:Mut (H a))(hs:Heap.SameBut a s.heap h')(he:∃q,h'.get? a=some q)(new:z1C X.prog X.w (upd H a ob) h' a ob) :
  Inv X pins σ (upd H a ob) { s with heap:=h',toks:=t' }:=
 I.write (x:=a) (e:=a) mu (.inl rfl) (fun b q hb z=>(hs.2 b hb).trans z) he new
theorem y6H{P:Program}{w:World}{H':Hp}{h':Heap}{kvs:List (Key×V)}{vs:List (Key×Value)}(z:kvs.length≤sizeLine)(hd:(a == sysModules)=false)(rel:KV kvs vs)(dd:h'.DictOf (z1D P w) a vs) :
  z1C P w H' h' a (.dK kvs):=⟨z,hd,vs,rel,dd⟩
theorem y3y{H':Hp}{Q:Unit->Shared->Prop}(hu:A.units+1<cLine)(I:Inv X pins σ H s)(g:V6 H a y v H')(ry:RelV y u)(rv:RelV v r)(h:∀s',Inv X pins σ H' s'->Q () s') :
  wpAny (model X.prog X.w) A (setItem (.ref a) u r) Q E s:=by
 rcases g with ⟨kvs,k,e,ey,l,eH⟩|⟨kvs,k,b,e,ey,eb,l,eH⟩
 ·subst ey eH
  obtain⟨z,hd,vs,rel,dd⟩:=y8L I.hok e
  have hz:vs.length≤sizeLine:=by rw[<- rel.length];exact z
  have hl:(putK kvs k v).length≤sizeLine:=by have:=z8O kvs k v;lia
  refine wpAny_setItem_pairs (hsz:=hz) (y4R ry) dd fun h' dd' hs=>h _ ?_
  have he:∃q,h'.get? a=some q:=let ⟨q,_,_,hq,_⟩:=dd';⟨q,hq⟩
  exact y56 I (by rw[e];exact True.intro) hs he (y6H hl hd (rel.put k rv) dd')
 ·subst ey eH
  cases (show u=Value.ref b from ry)
  obtain⟨z,hd,xs,rel,dd⟩:=w1B I.hok e
  have hz:xs.length≤sizeLine:=by rw[<- Paired.length rel];exact z
  have hl:(putK kvs k v).length≤sizeLine:=by have:=z8O kvs k v;lia
  refine wpAny_setItem_heap (hsz:=hz) (tupleKind_room_in1 hu) (y2B I.hok eb) dd fun h' dd' hs=>h _ ?_
  obtain⟨q,es,ep,hq,h2,h3,h4,_,h5⟩:=dd'
  refine y56 I (by rw[e];exact True.intro) hs ⟨q,hq⟩ ⟨hl,hd,_,(rel.put k eb rv).keeps fun c ys ec=>?_,q,es,ep,hq,h2,h3,h4,h5⟩
  rw[z0k (z5l ec e (fun z=>nomatch z))]
  exact ec
end
section
variable{X:Cx}{pins:List (Addr×Obj)}{σ:St}{H:Hp}{s:Shared}{a:Addr}{kvs:List (Key×V)}{k:Key}{u:Value}{A:Around}{E:Value->Shared->Prop}
end
noncomputable def NoSl(i:Expr):Prop:=∀ov iv,subscripted i false ov iv=operate [ov,iv] (getItem ov iv)
theorem y7h{prog:Program}{w:World}{A:Around}{E:Value->Shared->Prop}{s:Shared}{env:Env}{value slice:Expr}{pos:Pos}{T id:String}{Q:Value->Shared->Prop}
  (hl:typeLookup (.type T) "__getitem__"=pure (some (.builtin id))) (hs:NoSl slice)
  (h:wpAny (model prog w) A (eval value env) (fun o s₁=>wpAny (model prog w) A (eval slice env) (fun i s₂=>s₂.TypeIs o T/\wpAny (model prog w) A (getItem o i) Q E s₂) E s₁) E s) :
  wpAny (model prog w) A (eval (.Subscript value slice pos) env) Q E s:=by
 refine Subscript_ (wpAny_mono h (fun o s₁ h₁=>wpAny_mono h₁ (fun i s₂ h₂=>?_) fun _ _ x=>x) fun _ _ x=>x)
 obtain⟨hT,h₂⟩:=h₂
 unfold subscriptTail
 refine wpAny_bind ?_
 rw[getitemInPython_of_ne hT.not_modules]
 refine wpAny_bind (wpAny_specialOf hT hl ?_)
 have fin:wpAny (model prog w) A (subscripted slice false o i) (fun r s₃=>wpAny (model prog w) A (letTemporaryGo value o r >>= fun _=>pure r) Q E s₃) E s₂:=by
  rw[hs o i]
  exact wpAny_operating (wpAny_mono h₂ (fun r s₃ h₃=>wpAny_bind (wpAny_letTemporaryGo (wpAny_pure h₃))) fun _ _ x=>x)
 first
  | exact wpAny_pure (wpAny_bind fin)
  | exact wpAny_bind (wpAny_pure (wpAny_bind fin))
  | exact wpAny_bind fin
theorem y1c{X:Cx}{pins:List (Addr×Obj)}{σ:St}{H:Hp}{s:Shared}{a:Addr}{y:V}{o:Option V}(I:Inv X pins σ H s)(g:N6 H a y o):s.TypeIs (.ref a) "dict":=by
 rcases g with ⟨kvs,k,e,_,_⟩|⟨kvs,k,b,e,_,_,_⟩
 ·obtain⟨_,_,vs,_,dd⟩:=y5M I.hok e
  exact dd.typeIs
 ·obtain⟨_,_,xs,_,dd⟩:=y6s I.hok e
  exact dd.typeIs
noncomputable def w1U(td ty:TE):TE:=fun σ H Q=>td σ H fun x H1=>ty σ H1 fun y H2=>∃a v,x=.ref a/\N6 H2 a y (some v)/\Q v H2
noncomputable def tDIn(ty td:TE):TE:=fun σ H Q=>ty σ H fun y H1=>td σ H1 fun x H2=>∃a o,x=.ref a/\N6 H2 a y o/\Q (.bl o.isSome) H2
noncomputable def w1c(td ty tv:TE):TS:=fun D σ H=>tv σ H fun v H1=>td σ H1 fun x H2=>ty σ H2 fun y H3=>∃a H4,x=.ref a/\V6 H3 a y v H4/\D.nx σ H4
section
variable{X:Cx}{o i e value:Expr}{pos pos' tpos:Pos}{td ty tv:TE}
theorem z7e(hu:X.A.units+1<cLine)(ho:PE X o td)(hi:PE X i ty)(hs:NoSl i):PE X (.Subscript o i pos) (w1U td ty):=by
 intro pins s σ H Q I h
 refine y7h PySem.F.slot_dict_getitem.lookup hs (thn (ho pins s σ H _ I h) fun u s1 ⟨x,H1,I1,rx,q1⟩=>thn (hi pins s1 σ H1 _ I1 q1) fun iv s2 hz=>?_)
 obtain⟨y,H2,I2,ry,a,v,ex,g,q2⟩:=hz
 subst ex
 obtain rfl:u=Value.ref a:=rx
 exact⟨y1c I2 g,y3B hu I2 g ry fun w' s3 I3 rw'=>⟨v,H2,I3,rw',q2⟩⟩
theorem y4v(hu:X.A.units+1<cLine)(hi:PE X i ty)(ho:PE X o td):PC X .In i o (tDIn ty td):=by
 intro pins s σ H Q I h
 refine thn (hi pins s σ H _ I h) fun iv s1 ⟨y,H1,I1,ry,q1⟩=>thn (ho pins s1 σ H1 _ I1 q1) fun u s2 hz=>?_
 obtain⟨x,H2,I2,rx,a,ov,ex,g,q2⟩:=hz
 subst ex
 obtain rfl:u=Value.ref a:=rx
 exact d_in hu I2 g ry fun s3 I3=>⟨.bl ov.isSome,H2,I3,rfl,q2⟩
theorem y1v(hu:X.A.units+1<cLine)(ho:PE X o td)(hi:PE X i ty)(hv:PE X value tv)(hs:swapsWith value (some (.Subscript o i pos')) pos.line X.env=pure false) :
  PS X (.Assign [.Subscript o i pos'] value pos) (w1c td ty tv):=by
 intro pins s σ H D I h
 refine wpAny_Assign_Subscript (thn (hv pins s σ H _ I h) fun r s1 ⟨v,H1,I1,rv,q1⟩=>thn (ho pins s1 σ H1 _ I1 q1) fun u s2 ⟨x,H2,I2,rx,q2⟩=>thn (hi pins s2 σ H2 _ I2 q2) fun iv s3 hz=>?_) hs
 obtain⟨y,H3,I3,ry,a,H4,ex,g,q3⟩:=hz
 subst ex
 obtain rfl:u=Value.ref a:=rx
 exact y3y hu I3 g ry rv fun s4 I4=>⟨σ,H4,I4,q3⟩
end
theorem y6z{P:Program}{w:World}{H:Hp}(h:Heap)(hb:sysModules<h.objs.size):z1C P w H (h.push { cls:=.type "dict",data:=.dict #[] }) h.objs.size (.dK []):=
 ⟨cZ _,beq_eq_false_iff_ne.mpr (dC (cJ hb)),[],.nil,Heap.DictOf.new h⟩
noncomputable def y8e:TE:=fun _ H Q=>∀p,H p=none->Q (.ref p) (upd H p (.dK []))
section
variable{X:Cx}{pos:Pos}
theorem y2u:PE X (.Dict [] [] pos) y8e:=fun pins s σ H Q I h=>
 wpAny_Dict_empty ⟨.ref s.heap.objs.size,_,I.laid (a:=s.heap.objs.size) (o:=.dK []) (t':=s.toks) (fun _ _ q=>bA _ q) (bI _) (y6z s.heap I.big),rfl,h _ (I.hok.fresh (bI _))⟩
end
section
variable{X:Cx}{pins:List (Addr×Obj)}{σ:St}{H:Hp}{s:Shared}{a:Addr}{y d:V}{u r:Value}{o:Option V}{A:Around}{E:Value->Shared->Prop}
end
section
variable{X:Cx}{o e f:Expr}{apos U6:Pos}{td ty tx:TE}
end
section
variable{X:Cx}{pins:List (Addr×Obj)}{σ:St}{H:Hp}{s:Shared}{a:Addr}{kvs:List (Key×V)}{A:Around}{E:Value->Shared->Prop}
end
section
variable{X:Cx}{pins:List (Addr×Obj)}{σ:St}{H:Hp}{s:Shared}{a:Addr}{y:V}{u:Value}{A:Around}{E:Value->Shared->Prop}
end
structure D9(P:Program)(w:World)(K:PySem.W.Frag)(mg:Str->Option Value)(base:Heap)(k:Nat)(C:Addr)(m:Str)(ps:List Str)(sp:Sp):Prop where
 cl:Cls K C
 ex:∃(f:Addr) (fd:FuncData),B4 P w K mg base CX0 k f fd ps sp/\z2b K fd ps []/\Meth K C m f
theorem D9.mk'{P:Program}{w:World}{K:PySem.W.Frag}{mg:Str->Option Value}{base:Heap}{k:Nat}{C:Addr}{m:Str}{ps:List Str}{sp:Sp}{f:Addr}{fd:FuncData}(c:Cls K C)(a:B4 P w K mg base CX0 k f fd ps sp)(b:z2b K fd ps [])(d:Meth K C m f) :
  D9 P w K mg base k C m ps sp:=⟨c,f,fd,a,b,d⟩
section
variable{X:Cx}{k:Nat}{C:Addr}{m x:Str}{ps:List Str}{sp:Sp}{o e:Expr}{es:List Expr}{ta:TE}{t:TA}{p pos apos:Pos}{pl:Sem Bool}
theorem z1I(G:D9 X.prog X.w X.K X.mg X.base k C m ps sp)(hr:E6 k X.A)(he:PE X o ta)(ha:PA X (e::es) t)
  (hst:starEach (e::es) X.env=(false,eval e X.env)::starEach es X.env:=by rfl) (hpl:(backTo pos (starEach es X.env)).any (·.1)=false:=by rfl)
  (ht:eval (.Call (.Attribute o m apos) (e::es) [] pos) X.env=(do
   let ov <- eval o X.env
   standAt apos.atName
   let (f,first) <- holding [ov] (getMethod ov m pl)
   callWith pos f first (backTo pos (starEach (e::es) X.env)) (backToKw pos (keywordEach [] X.env))):=by rfl) :
  PE X (.Call (.Attribute o m apos) (e::es) [] pos) (y4M C m sp [] E0 ta t):=by
 obtain⟨f,fd,a,b,d⟩:=G.ex
 exact y49 he G.cl d a hr b .nil y3j ha hst hpl ht
theorem z1M(G:D9 X.prog X.w X.K X.mg X.base k C m ps sp)(hr:E6 k X.A)(he:PE X o ta)
  (ht:eval (.Call (.Attribute o m apos) [] [] pos) X.env=(do
   let ov <- eval o X.env
   standAt apos.atName
   let (f,first) <- holding [ov] (getMethod ov m pl)
   callWith pos f first (backTo pos (starEach [] X.env)) (backToKw pos (keywordEach [] X.env))):=by rfl) :
  PE X (.Call (.Attribute o m apos) [] [] pos) (y4M C m sp [] E0 ta X8):=by
 obtain⟨f,fd,a,b,d⟩:=G.ex
 exact y5w he G.cl d a hr b .nil y3j ht
end
structure Mkr(P:Program)(w:World)(K:PySem.W.Frag)(mg:Str->Option Value)(base:Heap)(k:Nat)(C:Addr)(x:Str)(ps:List Str)(sp:Sp):Prop where
 ex:∃(f:Addr) (fd:FuncData),B4 P w K mg base CX0 k f fd ps sp/\z2b K fd ps []/\Mk K C f/\mg x=some (.ref C)
theorem Mkr.mk'{P:Program}{w:World}{K:PySem.W.Frag}{mg:Str->Option Value}{base:Heap}{k:Nat}{C:Addr}{x:Str}{ps:List Str}{sp:Sp}{f:Addr}{fd:FuncData}(a:B4 P w K mg base CX0 k f fd ps sp)(b:z2b K fd ps [])(c:Mk K C f)(d:mg x=some (.ref C)) :
  Mkr P w K mg base k C x ps sp:=⟨f,fd,a,b,c,d⟩
section
variable{X:Cx}{k:Nat}{C:Addr}{m x:Str}{ps:List Str}{sp:Sp}{o e:Expr}{es:List Expr}{ta:TE}{t:TA}{p pos apos:Pos}
theorem y4o(G:Mkr X.prog X.w X.K X.mg X.base k C x ps sp)(hr:E6 (k+1) X.A)(hg:Gl X x)(ha:PA X (e::es) t)
  (hdb:(x == ("__debug__":Str))=false:=by decide) (he:starEach (e::es) X.env=(false,eval e X.env)::starEach es X.env:=by rfl) (hpl:(backTo pos (starEach es X.env)).any (·.1)=false:=by rfl) :
  PE X (.Call (.Name x p) (e::es) [] pos) (y8m C sp [] E0 t):=by
 obtain⟨f,fd,a,b,c,d⟩:=G.ex
 exact y77 c a hr hg d b .nil y3j ha hdb he hpl
theorem z2V{n:Int}(hg:Gl X x)(hm:∃t,X.mg x=some (.int n t))(hd:(x == ("__debug__":Str))=false:=by decide):PE X (.Name x pos) (tC (.int n)):=by
 obtain⟨t,e⟩:=hm
 exact y5l hg e ⟨t,rfl⟩ hd
end
noncomputable def y6V(K:PySem.W.Frag):List V->Hp->VK->Prop:=fun xs H Q=>∃p ys,xs=[.ref p]/\((SqL K H p ys/\∀l,H l=none->Q (.ref l) (upd H l (.tup ys)))\/(SqT K H p ys/\Q (.ref p) H))
section
variable{X:Cx}{K:PySem.W.Frag}
theorem z5o(h:X.K=K):z3K X (.type "tuple") (y6V K):=by
 subst h
 exact z0m
end
section
variable{X:Cx}
noncomputable def y8O(K:PySem.W.Frag)(le:Int->Int->Prop):List V->Hp->VK->Prop:=fun xs H Q=>∃p ns,xs=[.ref p]/\SqI K H p ns/\ns≠[]/\∀m,m∈ns->(∀y∈ns,le y m)->Q (.int m) H
theorem z30(hc:X.calm=true):z3K X (.builtin "max") (y8O X.K fun y m=>y≤m):=by
 intro pins s σ H xs us Q I r h
 obtain⟨a,ns,rfl,hq,hn,q⟩:=h
 obtain⟨u,rfl,ru⟩:=z4F r
 cases ru
 refine call_max_walk (z6d (A:=X.A.in1) I (I.ok.hd hc) hq fun it fp St its s3 rv W st hfp back=>?_)
 have hl:=rv.length
 rw[b9] at hl
 have h0:0<its.length:=by
  rw[<- hl]
  exact jT.mpr hn
 refine⟨it,fp,[it],_,_,St,_,rfl,W,st,hfp,by rw[bJ];exact h0,CmpOf.ints_gt (fun i=>ns.getD i 0) (z3s rv),fun v h' tk hv k=>?_⟩
 rw[bJ] at hv
 obtain⟨t,rfl⟩:=z3s rv _ _ hv
 obtain⟨b1,b2⟩:=z9M (fun i=>ns.getD i 0) (its.length-1)
 refine⟨.int _,H,back h' tk k,⟨t,rfl⟩,q _ (z7X (by lia)) fun y hy=>?_⟩
 obtain⟨i,hi,rfl⟩:=z7Z hy
 exact b2 i (by lia)
theorem z8A(hc:X.calm=true):z3K X (.builtin "min") (y8O X.K fun y m=>m≤y):=by
 intro pins s σ H xs us Q I r h
 obtain⟨a,ns,rfl,hq,hn,q⟩:=h
 obtain⟨u,rfl,ru⟩:=z4F r
 cases ru
 refine call_min_walk (z6d (A:=X.A.in1) I (I.ok.hd hc) hq fun it fp St its s3 rv W st hfp back=>?_)
 have hl:=rv.length
 rw[b9] at hl
 have h0:0<its.length:=by
  rw[<- hl]
  exact jT.mpr hn
 refine⟨it,fp,[it],_,_,St,_,rfl,W,st,hfp,by rw[bJ];exact h0,CmpOf.ints_lt (fun i=>ns.getD i 0) (z3s rv),fun v h' tk hv k=>?_⟩
 rw[bJ] at hv
 obtain⟨t,rfl⟩:=z3s rv _ _ hv
 obtain⟨b1,b2⟩:=y05 (fun i=>ns.getD i 0) (its.length-1)
 refine⟨.int _,H,back h' tk k,⟨t,rfl⟩,q _ (z7X (by lia)) fun y hy=>?_⟩
 obtain⟨i,hi,rfl⟩:=z7Z hy
 exact b2 i (by lia)
theorem y75(hu:X.A.units<cLine):OpR X (compareOp .Eq) (fun x y H Q=>∃a b xs,x=.ref a/\y=.ref b/\SqL X.K H a xs/\SqL X.K H b []/\Q (.bl xs.isEmpty) H):=by
 intro pins s σ H x y v u Q I rx ry h
 obtain⟨a,b,xs,rfl,rfl,ha,hb,q⟩:=h
 cases rx
 cases ry
 obtain⟨its,r,pl,hz⟩:=I.list ha
 obtain⟨M0,r2,pl2,hz2⟩:=I.list hb
 cases r2
 have hl:=r.length
 cases xs with
 | nil=>
  cases r
  exact SeqAt.RcAt.lists (e:=fun _=>true) pl.isList pl2.isList rfl hu (fun j h1 _=>absurd h1 (g0 _)) X.prog X.w X.xe _ ⟨.bl true,H,I,rfl,q⟩
 | cons x0 xr=>
  refine SeqAt.RcAt.lists_lengths pl.isList pl2.isList ?_ hu X.prog X.w X.xe _ ⟨.bl false,H,I,rfl,q⟩
  rw[bJ,<- hl]
  rfl
end
end L2
namespace L2
open PySem
section
variable{prog:Program}{w:World}{A:Around}{E:Value->Shared->Prop}{s:Shared}{κ:Type}[DecidableEq κ]{kd:KeyKind prog w κ}{led:Bool}
end
end L2
namespace L2
open PySem PySem.Spec PyProof.Rows
namespace Ty
end Ty
section
variable{prog:Program}{w:World}{A:Around}{E:Value->Shared->Prop}{s:Shared}
end
namespace Ty
end Ty
section
variable{prog:Program}{w:World}{A:Around}{E:Value->Shared->Prop}{s:Shared}{κ:Type}[DecidableEq κ]{kd:KeyKind prog w κ}
end
section
variable{X:Cx}
end
theorem z2I:Slot "reversed" "__next__" "reversed.__next__":=
 .of (owner:="reversed") (n:="__next__") (by rw[typeLookup_type,builtinLookup_eq_fast];kernel_rfl) (by decide +kernel) (by decide +kernel) (by decide +kernel) (by first|exact .inl (by decide +kernel)|exact .inr (by decide +kernel)) (by rw[isSubtype_type];kernel_rfl)
theorem z7m:Slot "reversed" "__iter__" "reversed.__iter__":=
 .of (owner:="reversed") (n:="__iter__") (by rw[typeLookup_type,builtinLookup_eq_fast];kernel_rfl) (by decide +kernel) (by decide +kernel) (by decide +kernel) (by first|exact .inl (by decide +kernel)|exact .inr (by decide +kernel)) (by rw[isSubtype_type];kernel_rfl)
theorem y0j:Slot "reversed" "__init__" "object.__init__":=
 .of (owner:="object") (n:="__init__") (by rw[typeLookup_type,builtinLookup_eq_fast];kernel_rfl) (by decide +kernel) (by decide +kernel) (by decide +kernel) (by first|exact .inl (by decide +kernel)|exact .inr (by decide +kernel)) (by rw[isSubtype_type];kernel_rfl)
theorem z6A:entryFor table "reversed.__next__"=some Builtin.«reversed.__next__»:=entryFor_of_tree (by kernel_rfl)
theorem z9Y:entryFor table "reversed.__iter__"=some Builtin.«dict_keyiterator.__iter__»:=entryFor_alias (id':="dict_keyiterator.__iter__") (by kernel_rfl) (by first|rfl|decide +kernel|(unfold String.splitOn;simp +decide [String.splitOnAux])) (by decide +kernel) (by kernel_rfl)
theorem z7p(a:Value):argsOk "reversed.__next__" ⟨[a],[]⟩:=by unfold argsOk;kernel_rfl
theorem y0s(a:Value):argsOk "reversed.__iter__" ⟨[a],[]⟩:=by unfold argsOk;kernel_rfl
theorem z8M:TypeCalled "reversed" "reversed.__new__" "object.__init__":=
 ⟨by decide +kernel,by decide +kernel,⟨_,_,PySem.F.mro_reversed⟩,PySem.F.made_reversed,by decide +kernel,PySem.F.sub_reversed_self,y0j⟩
theorem z9V:typeLookup (.type "tuple") "__reversed__"=pure none:=by rw[typeLookup_type,builtinLookup_eq_fast];kernel_rfl
theorem y32:isSubtype (.type "tuple") (.type "dict")=pure false:=by rw[isSubtype_type];kernel_rfl
abbrev y03(t:Addr)(i:Int):Obj:={ cls:=.type "reversed",dict:=none,data:=.fields #[.ref t,rawInt i],slots:=#[] }
section
variable{prog:Program}{w:World}{A:Around}{E:Value->Shared->Prop}{s:Shared}
theorem y1w{t:Addr}{items:Array Value}{Q:Value->Shared->Prop}(ht:IsTup s.heap t items)(hf:(items.size:Int)<2^63)(h:∀tk,Q (.ref s.heap.objs.size) { s with heap:=s.heap.push (y03 t ((items.size:Int)-1)),toks:=tk }) :
  codeAny (model prog w) A (.call (.builtin "reversed.__new__") ⟨[.type "reversed",.ref t],[]⟩) (wants Q E) s:=by
 refine codeAny_of_tree ?_
 show wpAny _ A.in1 (do checkBuiltinCall "reversed.__new__" ⟨[.type "reversed",.ref t],[]⟩;again (.builtin "reversed.__new__" ⟨[.type "reversed",.ref t],[]⟩)) _ _ s
 refine wpAny_bind (wpAny_of_eq (PySem.F.newCall_reversed_1 _) (wpAny_pure ⟨plainId_quiet PySem.F.plain_reversed_new _,codeAny_builtin PySem.F.entry_reversed_new ?_⟩))
 rw[cP PySem.F.plain_reversed_new _]
 unfold Builtin.«reversed.__new__»
 refine wpAny_bind (wpAny_of_eq (newClass_reversed _) ?_)
 try dsimp only
 refine wpAny_bind (wpAny_of_eq (a:=()) (by first|rfl|kernel_rfl) ?_)
 refine wpAny_bind (wpAny_of_eq (a:=()) (by first|rfl|kernel_rfl) ?_)
 try dsimp only
 refine wpAny_bind (wpAny_specialOf ht.typeIs z9V ?_)
 try dsimp only
 refine wpAny_bind ?_
 show wpAny _ _ (isInstance (.ref t) (.type "dict") >>= fun b=>_) _ _ _
 refine wpAny_bind (wpAny_isInstance (T:="tuple") ht.typeIs y32 ?_)
 rw[if_neg (by decide)]
 refine wpAny_bind (wpAny_specialOf ht.typeIs slot_tuple_getitem.lookup ?_)
 dsimp only
 rw[if_pos (by decide +kernel)]
 refine wpAny_pure ?_
 rw[if_neg (by decide)]
 refine wpAny_bind (len_tuple ht hf ?_)
 refine wpAny_bind (wpAny_of_eq (a:=some (items.size:Int)) rfl ?_)
 dsimp only
 refine wpAny_bind ?_
 show wpAny _ _ (newObj (.type "reversed") (.fields #[.ref t,rawInt ((items.size:Int)-1)])) _ _ _
 exact wpAny_newObj_type (wpAny_pure (h _)) (by size_fits)
theorem y7g{t:Addr}{items:Array Value}{Q:Value->Shared->Prop}(ht:IsTup s.heap t items)(hf:(items.size:Int)<2^63)(h:∀tk,Q (.ref s.heap.objs.size) { s with heap:=s.heap.push (y03 t ((items.size:Int)-1)),toks:=tk }) :
  wpAny (model prog w) A (call (.type "reversed") [.ref t]) Q E s:=by
 refine callType_codes (Q₁:=fun obj s₁=>obj=.ref s.heap.objs.size/\∃tk,s₁={ s with heap:=s.heap.push (y03 t ((items.size:Int)-1)),toks:=tk }) z8M (PySem.F.typeCall_reversed_1 _) F.entry_object_init (y1w ht hf fun tk=>⟨rfl,tk,rfl⟩) ?_
 rintro obj s₁ ⟨rfl,tk,rfl⟩
 have ty:Shared.TypeIs { s with heap:=s.heap.push (y03 t ((items.size:Int)-1)),toks:=tk } (.ref s.heap.objs.size) "reversed":=⟨_,bL _ rfl,rfl⟩
 exact⟨ty,F.args_object_init_2 _ _,object_init_meets z8M.init.lookup z8M.made (by decide) _ _ _ _ _ ⟨ty,rfl,h tk⟩⟩
theorem y76{I t:Addr}{i:Nat}{items:Array Value}{x:Value}{Q:Option Value->Shared->Prop}(hI:s.heap.get? I=some (y03 t (i:Int)))(ht:IsTup s.heap t items)(hx:items[i]? = some x)(hz:(items.size:Int)<2^63)
  (hQ:∀h' tk,h'.get? I=some (y03 t ((i:Int)-1))->Heap.SameBut I s.heap h'->Q (some x) { s with heap:=h',toks:=tk }):wpAny (model prog w) A (pyNext (.ref I)) Q E s:=by
 have ty:s.TypeIs (.ref I) "reversed":=⟨_,hI,rfl⟩
 have hi:i<items.size:=(Array.getElem?_eq_some_iff.mp hx).1
 unfold pyNext
 refine wpAny_bind (wpAny_attempt (wpAny_callSpecial?_slot (name:=Str.ofString "__next__") ty z2I
  (wpAny_call_entry z2I ty z6A ?_ (z7p _))))
 unfold Builtin.«reversed.__next__»
 refine wpAny_bind (wpAny_of_eq (a:=(Value.ref I,[])) rfl ?_)
 try dsimp only
 refine wpAny_bind (wpAny_field hI rfl (x:=.ref t) rfl ?_)
 refine wpAny_bind (wpAny_field hI rfl (x:=rawInt (i:Int)) rfl ?_)
 show wpAny _ _ (if (i:Int)<0 then _ else _) _ _ s
 rw[if_neg (by lia)]
 refine wpAny_bind (wpAny_specialOf ht.typeIs slot_tuple_getitem.lookup ?_)
 rw[if_neg (by decide)]
 refine wpAny_bind (wpAny_mkInt ?_)
 refine wpAny_bind (wpAny_attempt (getItem_tuple (j:=i) (x:=x) ht (by lia) (by lia) ?_ hx ?_))
 ·exact seqIndex_of (by lia) (by lia)
 dsimp only
 refine wpAny_bind (wpAny_field hI rfl (x:=rawInt (i:Int)) rfl ?_)
 show wpAny _ _ (setField (.ref I) 1 (rawInt ((i:Int)-1)) >>= _) _ _ _
 refine wpAny_bind (wpAny_setField hI rfl (by simp) ?_)
 refine wpAny_pure ⟨x,rfl,wpAny_pure (hQ _ _ ?_ (fU ..))⟩
 exact dQ _ hI rfl
theorem y8M{I t:Addr}{Q:Option Value->Shared->Prop}(hh:A.handled=none)(hI:s.heap.get? I=some (y03 t (-1)))
  (hQ:∀h',Heap.ExtBut I s.heap h'->Q none { s with heap:=h' }):wpAny (model prog w) A (pyNext (.ref I)) Q E s:=by
 have ty:s.TypeIs (.ref I) "reversed":=⟨_,hI,rfl⟩
 unfold pyNext
 refine wpAny_bind (wpAny_attempt (wpAny_callSpecial?_slot (name:=Str.ofString "__next__") ty z2I
  (wpAny_call_entry z2I ty z6A ?_ (z7p _))))
 unfold Builtin.«reversed.__next__»
 refine wpAny_bind (wpAny_of_eq (a:=(Value.ref I,[])) rfl ?_)
 try dsimp only
 refine wpAny_bind (wpAny_field hI rfl (x:=.ref t) rfl ?_)
 refine wpAny_bind (wpAny_field hI rfl (x:=rawInt (-1)) rfl ?_)
 show wpAny _ _ (if (-1:Int)<0 then _ else _) _ _ s
 rw[if_pos (by decide)]
 refine wpAny_bind (wpAny_rule ?_)
 refine wpAny_bind ?_
 show wpAny _ _ (setField (.ref I) 1 (rawInt (-1)) >>= fun _=>setField (.ref I) 0 .none) _ _ _
 refine wpAny_bind (wpAny_setField hI rfl (by simp) ?_)
 have g1:=dQ (Obj.mapFields (·.setIfInBounds 1 (rawInt (-1)))) hI rfl
 have b1:Heap.SameBut I s.heap (s.heap.update I (Obj.mapFields (·.setIfInBounds 1 (rawInt (-1))))):=fU ..
 refine wpAny_setField (vs:=#[.ref t,rawInt (-1)]) g1 rfl (by simp) ?_
 have b2:Heap.SameBut I (s.heap.update I (Obj.mapFields (·.setIfInBounds 1 (rawInt (-1))))) ((s.heap.update I (Obj.mapFields (·.setIfInBounds 1 (rawInt (-1))))).update I (Obj.mapFields (·.setIfInBounds 0 .none))):=fU ..
 refine wpAny_bind ?_
 unfold Builtin.SmallTypes.stopIteration
 refine wpAny_bind ?_
 simp only[newExc,newTuple]
 refine wpAny_bind (wpAny_newObj_type ?_ (by size_fits))
 refine wpAny_bind (m:=firstArgMember _ _) (wpAny_of_eq (a:=Value.none) (by first|rfl|(simp only[firstArgMember];rfl)) (wpAny_newObj_type ?_ (by size_fits)))
 simp only[raiseNew]
 refine wpAny_bind (wpAny_handled ?_)
 rw[show A.in1.handled=none from hh]
 refine wpAny_bind (wpAny_pure (wpAny_throw ?_))
 refine wpAny_bind (wpAny_isInstance (T:="StopIteration") (b:=true) ⟨_,bL _ rfl,rfl⟩ isSubtype_stop ?_)
 exact wpAny_pure (hQ _ fun b o hb e=>bA _ (bA _ ((b2.2 b hb).trans ((b1.2 b hb).trans e))))
theorem y4U{I t:Addr}{i:Int}{Q:Value->Shared->Prop}(hI:s.heap.get? I=some (y03 t i))(h:Q (.ref I) s):wpAny (model prog w) A (pyIter (.ref I)) Q E s:=by
 have ty:s.TypeIs (.ref I) "reversed":=⟨_,hI,rfl⟩
 refine wpAny_pyIter_slot ty z7m (wpAny_call_entry z7m ty z9Y ?_ (y0s _))
 show wpAny _ _ (ret (.ref I)) _ _ s
 exact wpAny_pure ⟨_,rfl,"reversed",_,ty,z2I.lookup,h⟩
end
noncomputable def Itv(K:PySem.W.Frag)(a:Addr)(n:Nat):It:=
 ⟨fun i H=>i<n/\∃xs,SqT K H a xs/\xs.length=n,fun i H x H'=>H'=H/\∀xs,SqT K H a xs->xs.reverse[i]? = some x,fun i H=>n≤i⟩
theorem y5u{P:Program}{w:World}{K:PySem.W.Frag}{tg:Expr}(a it:Addr)(n:Nat):Turn P w K tg (Itv K a n) [it] it (fun i h=>i≤n/\h.get? it=some (y03 a ((n:Int)-1-(i:Int)))) where
 mem:=by simp
 obj:=fun i h st b hb=>by
  have e:b=it:=by simpa using hb
  subst e
  exact⟨_,st.2,fun v z=>by
   have z':Data.fields _=Data.cell v:=z
   cases z'⟩
 keep:=fun i h h' st k=>⟨st.1,k it (by simp) _ st.2⟩
 item:=by
  intro X hP hw hK hc i pins s σ H E I hf st hg
  subst hP hw hK
  obtain⟨hi,xs,hq,hn⟩:=hg
  obtain⟨its,rv,p,hz⟩:=I.tuple hq
  have ln:xs.length=its.length:=rv.length
  have hk:n-1-i<xs.length:=by lia
  obtain⟨u,hu,ru⟩:=rv.get (bD hk)
  obtain⟨f0,f1,f2,f3,f4,f5⟩:=hf it (by simp)
  have e1:(n:Int)-1-(i:Int)=((n-1-i:Nat):Int):=by lia
  have st1:=st.2
  rw[e1] at st1
  refine y76 st1 (show IsTup s.heap a its.toArray from p) (x:=u) (by simpa using hu) ?_ fun h' tk st' sb=>?_
  ·have:its.toArray.size=xs.length:=by simp[ln]
   rw[this]
   have:=eQ hz z6n
   lia
  have I1:Inv X pins σ H { s with heap:=h',toks:=tk }:=I.turned (t':=tk) (fun b o hb e=>(sb.2 b hb).trans e) f0 f1 f3 f4 f5
  refine⟨u,rfl,y51 (s:={ s with heap:=h',toks:=tk }) st' rfl rfl (by decide) ⟨xs[n-1-i],H,I1,ru,⟨rfl,fun ys hy=>?_⟩,⟨hi,?_⟩,fun b hb=>(hf b hb).1⟩⟩
  ·rw[I.P0 hy hq,List.getElem?_reverse (by lia),bD (by lia)]
   congr 2
   lia
  ·have e2:(n:Int)-1-((i+1:Nat):Int)=((n-1-i:Nat):Int)-1:=by lia
   rw[e2]
   exact st'
 done:=by
  intro X hP hw hK hc i pins s σ H E I hf st hg
  subst hP hw hK
  obtain⟨f0,f1,f2,f3,f4,f5⟩:=hf it (by simp)
  have hg':n≤i:=hg
  have st1:=st.2
  rw[show(n:Int)-1-(i:Int)=-1 by have:=st.1;lia] at st1
  exact y8M (I.ok.hd hc) st1 fun h' eb=>⟨rfl,I.turned (t':=s.toks) (fun b o hb e=>eb b o hb e) f0 f1 f3 f4 f5⟩
 self:=fun _ _ _ _ _ st h=>y4U st.2 h
section
variable{X:Cx}{tg:Expr}
noncomputable def iRev(K:PySem.W.Frag)(ta:TA):TI:=fun σ H R=>ta σ H fun vs H1=>∃a xs,vs=[.ref a]/\SqT K H1 a xs/\R (Itv K a xs.length) H1
theorem y6Z{e:Expr}{ta:TA}{p pos:Pos}(hg:Gl X "reversed")(hm:X.mg "reversed"=none)(ha:PA X [e] ta)(hs:starEach [e] X.env=[(false,eval e X.env)]:=by rfl):PI X tg (.Call (.Name "reversed" p) [e] [] pos) (iRev X.K ta):=by
 intro pins s σ H R I h
 refine Call_ (z5p I hg hm boot_reversed (dW (thn (ha pos pins s σ H _ I h) fun us s1 ⟨vs,H1,I1,r1,q1⟩=>?_) hs rfl))
 obtain⟨a,xs,e,hq,q⟩:=q1
 subst e
 cases r1 with
 | cons r rr=>
  cases rr
  cases r
  obtain⟨its,rv,p,hz⟩:=I1.tuple hq
  have ln:(its.toArray.size:Int)=xs.length:=by simp[rv.length]
  refine y7g (show IsTup s1.heap a its.toArray from p) ?_ fun tk=>?_
  ·rw[ln]
   have:=eQ hz z6n
   lia
  refine y4U (bL _ rfl) ?_
  refine⟨s1.heap.objs.size,[s1.heap.objs.size],_,_,H1,rfl,I1.kept (t':=tk) fun b o e=>bA _ e,y5u a _ xs.length,⟨cZ _,?_⟩,fun b hb=>?_,q⟩
  ·rw[show(xs.length:Int)-1-((0:Nat):Int)=(its.toArray.size:Int)-1 by rw[ln];simp]
   exact bL _ rfl
  ·have e:b=s1.heap.objs.size:=by simpa using hb
   subst e
   exact I1.T6 (bI _) (I1.hok.fresh (bI _))
end
theorem y5Q{K:PySem.W.Frag}{a:Addr}{xs:List V}{g:TG}{tc:TT}{te:TE}{σ0:St}{H1:Hp}{F:List V->Hp->Prop}(Pv:Nat->List V->Hp->Prop)(h0:Pv 0 [] H1)
  (hl:∀i ys H,i≤xs.length->Pv i ys H->SqT K H a xs/\ys.length<sizeLine)
  (hs:∀i x ys H,xs.reverse[i]? = some x->Pv i ys H->z1A g tc te σ0 x H ys (Pv (i+1))) (hd:∀ys H,Pv xs.length ys H->F ys H):y08 (Itv K a xs.length) g tc te σ0 H1 F:=by
 refine⟨fun i m ys H=>m=xs.length-i/\i≤xs.length/\Pv i ys H,⟨xs.length,by simp,cZ _,h0⟩,?_⟩
 rintro i m ys H ⟨rfl,hi,p⟩
 obtain⟨q,z⟩:=hl i ys H hi p
 by_cases hlt:i<xs.length
 ·refine .inr ⟨⟨hlt,xs,q,rfl⟩,z,Pv (i+1),fun zs H' p'=>⟨xs.length-(i+1),by lia,rfl,hlt,p'⟩,fun x H' y=>?_⟩
  obtain⟨e,y⟩:=y
  subst e
  exact hs i x ys _ (y xs q) p
 ·have e:i=xs.length:=by lia
  subst e
  exact .inl ⟨bI _,hd ys H p⟩
theorem y79{K:PySem.W.Frag}{a:Addr}{xs:List V}{g:TG}{tb:TS}{D:Ends}{σ:St}{H:Hp}(Pv:Nat->St->Hp->Prop)(h0:Pv 0 σ H)(hl:∀i σ H,i≤xs.length->Pv i σ H->SqT K H a xs)
  (hs:∀i x σ H,xs.reverse[i]? = some x->Pv i σ H->g x σ H fun σ2 H2=>tb { D with nx:=Pv (i+1),ct:=Pv (i+1),bk:=D.nx } σ2 H2) (hd:∀σ H,Pv xs.length σ H->D.nx σ H) :
  ∃W:Nat->Nat->St->Hp->Prop,(∃m,W 0 m σ H)/\∀i m σ H,W i m σ H->
   ((Itv K a xs.length).stop i H/\D.nx σ H)\/((Itv K a xs.length).go i H/\∃N:St->Hp->Prop,(∀σ' H',N σ' H'->∃m',m'<m/\W (i+1) m' σ' H')/\∀x H',(Itv K a xs.length).yld i H x H'->g x σ H' fun σ2 H2=>tb { D with nx:=N,ct:=N,bk:=D.nx } σ2 H2):=by
 refine⟨fun i m σ H=>m=xs.length-i/\i≤xs.length/\Pv i σ H,⟨xs.length,by simp,cZ _,h0⟩,?_⟩
 rintro i m σ H ⟨rfl,hi',p⟩
 have q:=hl i σ H hi' p
 by_cases hlt:i<xs.length
 ·refine .inr ⟨⟨hlt,xs,q,rfl⟩,Pv (i+1),fun σ' H' p'=>⟨xs.length-(i+1),by lia,rfl,hlt,p'⟩,fun x H' y=>?_⟩
  obtain⟨e,y⟩:=y
  subst e
  exact hs i x σ _ (y xs q) p
 ·have e:i=xs.length:=by lia
  subst e
  exact .inl ⟨bI _,hd σ H p⟩
theorem len0{us:List Value}{p:List Value->Prop}(h:us.length=0)(k:p []):p us:=by rw[dZ h];exact k
theorem Q5{us:List Value}{p:List Value->Prop}(h:us.length=1)(k:∀a,p [a]):p us:=by
 obtain⟨a,r,rfl⟩:=d7 h
 exact len0 (p:=fun r=>p (a::r)) (Nat.succ.inj h) (k a)
theorem w04{us:List Value}{p:List Value->Prop}(h:us.length=2)(k:∀a b,p [a,b]):p us:=by
 obtain⟨a,r,rfl⟩:=d7 h
 exact Q5 (p:=fun r=>p (a::r)) (Nat.succ.inj h) (k a)
theorem w0n{us:List Value}{p:List Value->Prop}(h:us.length=3)(k:∀a b c,p [a,b,c]):p us:=by
 obtain⟨a,r,rfl⟩:=d7 h
 exact w04 (p:=fun r=>p (a::r)) (Nat.succ.inj h) (k a)
theorem len4{us:List Value}{p:List Value->Prop}(h:us.length=4)(k:∀a b c d,p [a,b,c,d]):p us:=by
 obtain⟨a,r,rfl⟩:=d7 h
 exact w0n (p:=fun r=>p (a::r)) (Nat.succ.inj h) (k a)
theorem len5{us:List Value}{p:List Value->Prop}(h:us.length=5)(k:∀a b c d e,p [a,b,c,d,e]):p us:=by
 obtain⟨a,r,rfl⟩:=d7 h
 exact len4 (p:=fun r=>p (a::r)) (Nat.succ.inj h) (k a)
theorem len6{us:List Value}{p:List Value->Prop}(h:us.length=6)(k:∀a b c d e f,p [a,b,c,d,e,f]):p us:=by
 obtain⟨a,r,rfl⟩:=d7 h
 exact len5 (p:=fun r=>p (a::r)) (Nat.succ.inj h) (k a)
theorem Cal.mono{P:Program}{w:World}{K:PySem.W.Frag}{mg:Str->Option Value}{base:Heap}{j k:Nat}{x:Str}{ps:List Str}{sp:Sp}(G:Cal P w K mg base j x ps sp)(h:j≤k):Cal P w K mg base k x ps sp:=by
 obtain⟨f,fd,a,b,c,d⟩:=G.ex
 exact⟨f,fd,a.mono h,b,c,d⟩
theorem D9.mono{P:Program}{w:World}{K:PySem.W.Frag}{mg:Str->Option Value}{base:Heap}{j k:Nat}{C:Addr}{m:Str}{ps:List Str}{sp:Sp}(G:D9 P w K mg base j C m ps sp)(h:j≤k):D9 P w K mg base k C m ps sp:=by
 obtain⟨f,fd,a,b,c⟩:=G.ex
 exact⟨G.cl,f,fd,a.mono h,b,c⟩
theorem Mkr.mono{P:Program}{w:World}{K:PySem.W.Frag}{mg:Str->Option Value}{base:Heap}{j k:Nat}{C:Addr}{x:Str}{ps:List Str}{sp:Sp}(G:Mkr P w K mg base j C x ps sp)(h:j≤k):Mkr P w K mg base k C x ps sp:=by
 obtain⟨f,fd,a,b,c,d⟩:=G.ex
 exact⟨f,fd,a.mono h,b,c,d⟩
theorem z1Y{X:Cx}{x z:Str}{pos:Pos}(hg:Gl X x)(hm:∃t,X.mg x=some (.str z t))(hd:(x == ("__debug__":Str))=false:=by decide):PE X (.Name x pos) (tC (.str z)):=by
 obtain⟨t,e⟩:=hm
 exact y5l hg e ⟨t,rfl⟩ hd
section
variable{X:Cx}
theorem z7w{P:Program}{w:World}:∀{ns:List Int}{vs:List Value},vs.length=ns.length->(∀(j:Nat) (v:Value),vs[j]? = some v->∃k:Key,(ns.map Sum.inl)[j]? = some k/\(z1D P w).is k v=true)->IntsAre vs ns
 | [],[],_,_=>.nil
 | [],_::_,h,_=>by cases h
 | _::_,[],h,_=>by cases h
 | n::ns,v::vs,h,q=>by
  obtain⟨k,e,hk⟩:=q 0 v rfl
  cases e
  rcases z1p (show y1l (Sum.inl n) v=true from hk) with ⟨i,t,e1,rfl⟩|⟨x,t,e1,_⟩
  ·cases e1
   exact .cons n t (z7w (Nat.succ.inj h) fun j u hu=>q (j+1) u hu)
  ·cases e1
theorem y0w{prog:Program}{w:World}{A:Around}{E:Value->Shared->Prop}{s:Shared}{R:List Value->Shared->Prop}{T:String}{r d:Addr}{n:Nat}{P:Nat->Value->Prop}{OK:Heap->Prop}(K:PySem.W.KdlSrc prog w T r d n P OK)(hh:A.handled=none)(hok:OK s.heap)(hn:n≤sizeLine)
  (fin:∀(h':Heap) (tk:Nat) (acc:Array Value),(∀b o,s.heap.get? b=some o->h'.get? b=some o)->s.heap.objs.size<h'.objs.size->ItemsOf P acc n->R acc.toList { s with heap:=h',toks:=tk }):wpAny (model prog w) A (collect (.ref r)) R E s:=by
 have hlt:=K.there _ hok
 unfold collect
 refine wpAny_bind (wpAny_runValue (codeAny_builtin entry_proto_collect' ?_))
 rw[cP PySem.F.plain_proto_collect _]
 refine(show wpAny _ A.in1 (newList [] >>= fun l=>again (.builtin "list.__iadd__" ⟨[l,.ref r],[]⟩)) _ _ s from wpAny_bind (wpAny_newObj_type (wpAny_pure ⟨plainId_quiet fV _,codeAny_builtin entry_list_iadd' ?_⟩)))
 rw[cP fV _]
 have g1:(s.heap.push { cls:=.type "list",data:=.seq ([]:List Value).toArray }).get? s.heap.objs.size=some { cls:=.type "list",data:=.seq #[] }:=bL _ rfl
 have ext:=PySem.W.kdl_extend (A:=A) (s:={ s with heap:=s.heap.push { cls:=.type "list",data:=.seq ([]:List Value).toArray } })
  (R:=fun(q:Result) (s':Shared)=>∃(h':Heap) (tk:Nat) (acc:Array Value) (c':Nat),q=.ok (.ret (.ref s.heap.objs.size))/\s'={ s with heap:=h',toks:=tk }/\(∀b o,s.heap.get? b=some o->h'.get? b=some o)/\
   h'.get? s.heap.objs.size=some { cls:=.type "list",dict:=none,data:=.seq acc c',slots:=#[] }/\ItemsOf P acc n)
  K hh (K.keep _ _ hok fun b _ o e=>bA _ e) s.heap.objs.size (eU hlt.1) (eU hlt.2) (.ref s.heap.objs.size) 0 g1
  (fun h' tk acc c' k hS' so=>⟨h',tk,acc,c',rfl,rfl,fun b o e=>k b o (cJ (bQ e)) (bA _ e),hS',so⟩) hn
 refine(show wpAny _ A.in1 (Builtin.List.listExtendWith (.ref s.heap.objs.size) (.ref r) (.ref s.heap.objs.size)) _ _ _ from wpAny_mono ext (fun f s' x=>?_) fun e s' x=>?_)
 ·cases f with
  | done f=>
   obtain⟨h',tk,acc,c',e,rfl,k,hS',so⟩:=x
   cases e
   exact(show wpAny _ A (load s.heap.objs.size >>= _) _ _ _ from wpAny_bind (wpAny_load hS' (wpAny_pure (fin h' tk _ k (bQ hS') so))))
  | again c1=>
   refine⟨x.1,codeAny_mono x.2 fun q s2 y=>?_⟩
   obtain⟨h',tk,acc,c',rfl,rfl,k,hS',so⟩:=y
   exact(show wpAny _ A (load s.heap.objs.size >>= _) _ _ _ from wpAny_bind (wpAny_load hS' (wpAny_pure (fin h' tk _ k (bQ hS') so))))
 ·obtain⟨_,_,_,_,e',_⟩:=x
  cases e'
theorem z4r(hc:X.calm=true):z3K X (.builtin "sorted") (fun xs H Q=>∃(p:Addr) (kvs:List (Key×V)) (ns:List Int),xs=[.ref p]/\H p=some (.dK kvs)/\kvs.map (·.1)=ns.map Sum.inl/\ns.length<64/\
  ∀(l:Addr) (ms:List Int),H l=none->ms.Perm ns->ms.Pairwise (·≤·)->Q (.ref l) (upd H l (.lst (ms.map V.int)))):=by
 intro pins s σ H xs us Q I r h
 obtain⟨p,kvs,ns,rfl,hp,hk,h64,q⟩:=h
 obtain⟨u,rfl,rx⟩:=z4F r
 cases rx
 obtain⟨_,lo,kv,rk,dd⟩:=y8L I.hok hp
 obtain⟨ep,hat⟩:=dd.dictAt
 have lk:kv.length=ns.length:=by
  have e1:=rk.length
  have e2:=congrArg List.length hk
  rw[b9,b9] at e2
  lia
 refine Calls.call_function_entry kind_sorted plain_sorted entry_sorted (args_sorted1 _) ?_
 unfold Builtin.«sorted»
 refine wpAny_bind (m:=checkCount "sorted" 1 1 _) (wpAny_pure ?_)
 refine wpAny_bind (y0w (A:=X.A.in1) (PySem.W.kdl_dict (knd:=z1D X.prog X.w) (kvs:=kv) (ep:=ep) lo) (I.ok.hd hc) hat (by rw[sizeLine_eq];lia) fun h' tk acc kp slt items=>?_)
 have hi:IntsAre acc.toList ns:=z7w (P:=X.prog) (w:=X.w) (by rw[gQ,items.1,lk]) fun j v hv=>by
  obtain⟨k,x,e,ik⟩:=items.2 j v (by rw[<- Array.getElem?_toList];exact hv)
  refine⟨k,?_,ik⟩
  rw[<- hk,rk.keys,bC,e]
  rfl
 have lv:acc.toList.length<64:=by rw[IntsAre.length hi];exact h64
 refine wpAny_bind (wpAny_newList ?_ (by rw[sizeLine_eq];lia))
 have g1:(h'.push (seqObj "list" acc.toList.toArray 0)).get? h'.objs.size=some (seqObj "list" acc.toList.toArray 0):=bL _ rfl
 refine wpAny_bind (wpAny_holding (wpAny_call_entry slot_list_sort ⟨_,g1,rfl⟩ entry_list_sort (list_sort_tree g1 hi lv fun out ns' a1 a2 a3=>⟨_,rfl,?_⟩) (args_list_sort _)))
 refine wpAny_pure ⟨_,rfl,?_⟩
 obtain⟨e,he⟩:=sortedHeap_at (out:=out) g1
 have sle:s.heap.objs.size≤h'.objs.size:=dX slt
 have old:∀b o,s.heap.get? b=some o->(sortedHeap (h'.push (seqObj "list" acc.toList.toArray 0)) h'.objs.size acc.toList out).get? b=some o:=fun b o e=>by
  have hb:=bQ (kp b o e)
  rw[sortedHeap_old (cJ hb) (by rw[size_push'];exact fG hb)]
  exact bA _ (kp b o e)
 refine⟨.ref h'.objs.size,_,I.laid (a:=h'.objs.size) (o:=.lst (ns'.map V.int)) (t':=tk) old sle (show z1C X.prog X.w _ _ _ (.lst (ns'.map V.int)) from⟨?_,out.toList,e,z6p a1,?_⟩),rfl,q _ ns' (I.hok.fresh sle) a2 a3⟩
 ·rw[b9,a2.length_eq,sizeLine_eq]
  lia
 ·simpa using he
end
theorem z9d:typeLookup (.type "list") "keys"=pure none:=am_miss_of_fast (by kernel_rfl)
theorem z80:typeLookup (.type "tuple") "keys"=pure none:=am_miss_of_fast (by kernel_rfl)
theorem y0v:typeLookup (.type "list") "__getattr__"=pure none:=by rw[typeLookup_type,builtinLookup_eq_fast];kernel_rfl
theorem y06:typeLookup (.type "tuple") "__getattr__"=pure none:=by rw[typeLookup_type,builtinLookup_eq_fast];kernel_rfl
section
variable{prog:Program}{w:World}{A:Around}{E:Value->Shared->Prop}{s:Shared}
theorem y0F{a:Addr}{items:Array Value}{n:Nat}{sl:Array (Option Value)}{u:Tok}{R:Result->Shared->Prop}(hA:A.handled=none)(ho:s.heap.get? a=some ⟨.type "list",none,.seq items n,sl⟩)(h:∀h' tk e,Heap.NewAttrErr s.heap h' e (.ref a) "keys"->R (.error (.ref e)) { s with heap:=h',toks:=tk }) :
  wpAny (model prog w) A.in1 (Builtin.«object.__getattribute__» ⟨[.ref a,.str "keys" u],[]⟩) (fun fin s'=>match fin with|.done f=>R (.ok f) s'|.again c'=>c'.quiet=true/\codeAny (model prog w) A c' R s') (fun e s'=>R (.error e) s') s:=by
 obtain⟨hp,g,d,tk,os⟩:=s
 have hT:(⟨hp,g,d,tk,os⟩:Shared).TypeIs (.ref a) "list":=⟨_,ho,rfl⟩
 have f1:=z9d
 unfold Builtin.«object.__getattribute__»
 repeat (any_goals (first|assumption|wp_step))
 exact wpAny_raiseAttrError hA h (attrMsg_fits (by decide +kernel) (by decide +kernel))
theorem z9W{a:Addr}{items:Array Value}{n:Nat}{sl:Array (Option Value)}{u:Tok}{R:Result->Shared->Prop}(hA:A.handled=none)(ho:s.heap.get? a=some ⟨.type "tuple",none,.seq items n,sl⟩)(h:∀h' tk e,Heap.NewAttrErr s.heap h' e (.ref a) "keys"->R (.error (.ref e)) { s with heap:=h',toks:=tk }) :
  wpAny (model prog w) A.in1 (Builtin.«object.__getattribute__» ⟨[.ref a,.str "keys" u],[]⟩) (fun fin s'=>match fin with|.done f=>R (.ok f) s'|.again c'=>c'.quiet=true/\codeAny (model prog w) A c' R s') (fun e s'=>R (.error e) s') s:=by
 obtain⟨hp,g,d,tk,os⟩:=s
 have hT:(⟨hp,g,d,tk,os⟩:Shared).TypeIs (.ref a) "tuple":=⟨_,ho,rfl⟩
 have f1:=z80
 unfold Builtin.«object.__getattribute__»
 repeat (any_goals (first|assumption|wp_step))
 exact wpAny_raiseAttrError hA h (attrMsg_fits (by decide +kernel) (by decide +kernel))
theorem z9b{a:Addr}{items:Array Value}{n:Nat}{sl:Array (Option Value)}{u:Tok}{R:Result->Shared->Prop}(hA:A.handled=none)(ho:s.heap.get? a=some ⟨.type "list",none,.seq items n,sl⟩)(h:∀h' tk e,Heap.NewAttrErr s.heap h' e (.ref a) "keys"->R (.error (.ref e)) { s with heap:=h',toks:=tk }) :
  codeAny (model prog w) A (.call (.builtin "list.__getattribute__") ⟨[.ref a,.str "keys" u],[]⟩) R s:=
 codeAny_call_builtin fO.plain F.entry_list_ga (fO.check _ _ _ _ _ _ _ _ (show s.TypeIs (.ref a) "list" from⟨_,ho,rfl⟩) (F.args_list_getattribute_2 _ _) (y0F (R:=R) hA ho h))
theorem z9f{a:Addr}{items:Array Value}{n:Nat}{sl:Array (Option Value)}{Q:Option Value->Shared->Prop}(hA:A.handled=none)(ho:s.heap.get? a=some ⟨.type "list",none,.seq items n,sl⟩)(h:∀h' tk,(∀b o,s.heap.get? b=some o->h'.get? b=some o)->Q none { s with heap:=h',toks:=tk }) :
  wpAny (model prog w) A (getAttr? (.ref a) "keys") Q E s:=by
 obtain⟨hp,g,d,tk,os⟩:=s
 have hT:∀tk',(⟨hp,g,d,tk',os⟩:Shared).TypeIs (.ref a) "list":=fun _=>⟨_,ho,rfl⟩
 have f1:=sub_AttributeError
 have f3:=fO.lookup
 have f4:=fO.bind (.ref a)
 have f5:=y0v
 unfold getAttr? getAttrBy? getAttrBy
 repeat (any_goals (first|assumption|exact hT _|wp_step))
 refine z9b (s:=⟨hp,g,d,tk+1,os⟩) hA ho fun h' tk' e hx=>?_
 obtain⟨t',u',he⟩:=hx.there
 show wpAny _ _ (getattributeRaised _ _ _ _ _ _ _) _ _ _
 unfold getattributeRaised
 repeat (any_goals (first|assumption|wp_step))
 exact h _ _ hx.keeps
theorem z92{a:Addr}{items:Array Value}{n:Nat}{sl:Array (Option Value)}{u:Tok}{R:Result->Shared->Prop}(hA:A.handled=none)(ho:s.heap.get? a=some ⟨.type "tuple",none,.seq items n,sl⟩)(h:∀h' tk e,Heap.NewAttrErr s.heap h' e (.ref a) "keys"->R (.error (.ref e)) { s with heap:=h',toks:=tk }) :
  codeAny (model prog w) A (.call (.builtin "tuple.__getattribute__") ⟨[.ref a,.str "keys" u],[]⟩) R s:=
 codeAny_call_builtin fJ.plain F.entry_tuple_ga (fJ.check _ _ _ _ _ _ _ _ (show s.TypeIs (.ref a) "tuple" from⟨_,ho,rfl⟩) (F.args_tuple_getattribute_2 _ _) (z9W (R:=R) hA ho h))
theorem z85{a:Addr}{items:Array Value}{n:Nat}{sl:Array (Option Value)}{Q:Option Value->Shared->Prop}(hA:A.handled=none)(ho:s.heap.get? a=some ⟨.type "tuple",none,.seq items n,sl⟩)(h:∀h' tk,(∀b o,s.heap.get? b=some o->h'.get? b=some o)->Q none { s with heap:=h',toks:=tk }) :
  wpAny (model prog w) A (getAttr? (.ref a) "keys") Q E s:=by
 obtain⟨hp,g,d,tk,os⟩:=s
 have hT:∀tk',(⟨hp,g,d,tk',os⟩:Shared).TypeIs (.ref a) "tuple":=fun _=>⟨_,ho,rfl⟩
 have f1:=sub_AttributeError
 have f3:=fJ.lookup
 have f4:=fJ.bind (.ref a)
 have f5:=y06
 unfold getAttr? getAttrBy? getAttrBy
 repeat (any_goals (first|assumption|exact hT _|wp_step))
 refine z92 (s:=⟨hp,g,d,tk+1,os⟩) hA ho fun h' tk' e hx=>?_
 obtain⟨t',u',he⟩:=hx.there
 show wpAny _ _ (getattributeRaised _ _ _ _ _ _ _) _ _ _
 unfold getattributeRaised
 repeat (any_goals (first|assumption|wp_step))
 exact h _ _ hx.keeps
end
theorem z5t:entryFor table "dict.update.loop"=some Builtin.«dict.update.loop»:=entryFor_of_tree (by kernel_rfl)
theorem z29:plainId "dict.update.loop"=true:=by decide +kernel
section
variable{prog:Program}{w:World}{A:Around}{κ:Type}[DecidableEq κ]{kd:KeyKind prog w κ}{I:Addr}{fp wr:List Addr}{G:Array GenState->Array GenState->Prop}{n:Nat}{P:Nat->Value->Prop}{St:Nat->Shared->Prop}
noncomputable def y0o(kd:KeyKind prog w κ)(h:Heap)(v:Value)(kv:κ×Value)(out:List Addr):Prop:=∃(a:Addr) (o:Obj) (T:String) (k:Value) (c:Nat),v=.ref a/\h.get? a=some o/\o.cls=.type T/\(T="list"\/T="tuple")/\o.data=.seq #[k,kv.2] c/\kd.is kv.1 k=true/\a∉out
theorem z91{R:Result->Shared->Prop}(W:WalksS prog w A.in1 I fp wr G n P St){d:Addr}(out:d∉fp){h0:Heap}{vs:List (κ×Value)}(lk:vs.length=n)
  (vals:∀i v,P i v->∃kv,vs[i]? = some kv/\y0o kd h0 v kv (d::wr)) (few:n≤1000) :
  ∀(todo i:Nat) (s:Shared),i+todo=n->St i s->s.heap.DictOf kd d (merged [] (vs.take i))->(∀b o,b∉d::wr->h0.get? b=some o->s.heap.get? b=some o)->
   (∀s',Moved (d::wr) G s s'->s'.heap.DictOf kd d (merged [] vs)->R (.ok (.ret .none)) s')->codeAny (model prog w) A (.builtin "dict.update.loop" ⟨[.ref d,.ref I,rawInt i,.none],[]⟩) R s
 | 0,i,s,ei,st,sx,kp,fin=>by
  have e:vs.take i=vs:=cO (by lia)
  rw[e] at sx
  have ei':i=n:=by lia
  subst ei'
  refine codeAny_builtin z5t ?_
  rw[cP z29 _]
  refine wpAny_bind (W.done s _ _ st fun s' mv=>wpAny_bind (wpAny_pure (wpAny_pure (fin s' (mv.mono fun b hb=>.tail _ hb) (sx.at fun o=>mv.heap d o fun q=>out (W.sub _ q))))))
 | todo+1,i,s,ei,st,sx,kp,fin=>by
  refine codeAny_builtin z5t ?_
  rw[cP z29 _]
  refine wpAny_bind (W.item i s _ _ (by lia) st fun v s1 hv st1 mv=>?_)
  obtain⟨⟨key,y⟩,ek,a,o,T,k,c,rfl,ho,hc,hT,hd,ik,na⟩:=vals i v hv
  have sx1:=sx.at (h':=s1.heap) fun o=>mv.heap d o fun q=>out (W.sub _ q)
  have ho1:s1.heap.get? a=some o:=mv.heap a o (fun q=>na (.tail _ q)) (kp a o na ho)
  have ty:s1.TypeIs (.ref a) T:=⟨o,ho1,hc⟩
  refine wpAny_bind (wpAny_holding (m:=(Builtin.Dict.pairItems (.ref a)).tryCatch _ >>= _) (wpAny_bind (wpAny_tryCatch ?_)))
  unfold Builtin.Dict.pairItems
  refine wpAny_bind (wpAny_typeOf ty ?_)
  rw[if_pos (by rcases hT with rfl|rfl<;>decide)]
  refine wpAny_bind (wpAny_seqItems ho1 hd (wpAny_pure ?_))
  show wpAny _ _ (holding [k,y] (dictSet d k y)) _ _ _
  have lm:=merged_length_le [] (vs.take i)
  rw[bG,List.length_nil] at lm
  refine wpAny_holding (wpAny_dictSet_pairs (hsz:=by rw[sizeLine_eq];lia) ik sx1 fun h2 sx2 sb=>?_)
  rw[<- merged_take_succ [] vs i (key,y) ek] at sx2
  have far:∀b,b≠d->h2.get? b=s1.heap.get? b:=fun b hb=>sb.2 b hb
  refine wpAny_pure ⟨plainId_quiet z29 _,z91 W out lk vals few todo (i+1) _ (by lia) (W.frame _ s1 _ _ st1 (gP _) fun b hb o q=>?_) sx2 (fun b o nb q=>?_) fun s3 mv3 sx4=>?_⟩
  ·rw[far b fun z=>out (z ▸ hb)];exact q
  ·rw[far b fun z=>nb (z ▸ .head _)]
   exact mv.heap b o (fun q=>nb (.tail _ q)) (kp b o nb q)
  ·refine fin s3 (.trans W.gtrans ((mv.mono fun b hb=>.tail _ hb).then_heap (gP _) fun b o hb q=>?_) mv3) sx4
   rw[far b fun z=>hb (z ▸ .head _)];exact q
end
section
variable{prog:Program}{w:World}{A:Around}{E:Value->Shared->Prop}{s:Shared}{κ:Type}[DecidableEq κ]{kd:KeyKind prog w κ}
theorem y7m{T:String}{p:Addr}{its:Array Value}{c0:Nat}{sl:Array (Option Value)}{vs:List (κ×Value)}{Q:Value->Shared->Prop}(hh:A.handled=none)(hp:s.heap.get? p=some ⟨.type T,none,.seq its c0,sl⟩)(hT:T="list"\/T="tuple")
  (lk:vs.length=its.size) (vals:∀(i:Nat) v,its[i]? = some v->∃kv,vs[i]? = some kv/\y0o kd s.heap v kv []) (few:its.size≤1000) (nd:(vs.map (·.1)).Nodup)
  (fin:∀(h':Heap) (t:Nat),h'.DictOf kd s.heap.objs.size vs->(∀b u,s.heap.get? b=some u->h'.get? b=some u)->Q (.ref s.heap.objs.size) { s with heap:=h',toks:=t }) :
  wpAny (model prog w) A (call (.type "dict") [.ref p]) Q E s:=by
 refine callType_codes (Q₁:=fun obj s₁=>obj=.ref s.heap.objs.size/\s₁={ s with heap:=s.heap.push { cls:=.type "dict",data:=.dict #[] } }) PySem.F.kt_called_dict (PySem.F.kt_typeCall_dict_1 _) F.entry_dict_init (kt_code_dict_new _ ⟨rfl,rfl⟩) ?_
 rintro obj s₁ ⟨rfl,rfl⟩
 have w0E:(s.heap.push { cls:=.type "dict",data:=.dict #[] }).DictOf kd s.heap.objs.size []:=Heap.DictOf.new s.heap
 have hp1:(s.heap.push { cls:=.type "dict",data:=.dict #[] }).get? p=some ⟨.type T,none,.seq its c0,sl⟩:=bA _ hp
 have hpl:p<s.heap.objs.size:=bQ hp
 refine⟨w0E.typeIs,F.args_dict_init_2 _ _,?_⟩
 unfold Builtin.«dict.__init__»
 refine wpAny_bind ?_
 unfold Builtin.Dict.selfAndRest
 refine wpAny_bind (wpAny_notOrdered_dict w0E.typeIs ?_)
 show wpAny _ _ (pure (s.heap.objs.size,[Value.ref p])) _ _ _
 refine wpAny_pure ?_
 show wpAny _ _ (Builtin.Dict.updateFrom "dict.__init__" s.heap.objs.size (.ref p) [] .none) _ _ _
 unfold Builtin.Dict.updateFrom
 refine wpAny_bind (wpAny_typeOf (T:=T) ⟨_,hp1,rfl⟩ ?_)
 rw[if_pos (by rcases hT with rfl|rfl<;>decide)]
 have main:∀(h1:Heap) (tk:Nat),(∀b o,(s.heap.push { cls:=.type "dict",data:=.dict #[] }).get? b=some o->h1.get? b=some o)->
   wpAny (model prog w) A.in1.in1 (do
    rule (toString "dict.__init__"++toString ".from-pairs")
    return <- again (.builtin "dict.update.loop" ⟨[.ref s.heap.objs.size,<- pyIter (.ref p),rawInt 0,.none],[]⟩))
    (fun fin s'=>match fin with|.done f=>wants (fun r s₂=>r=.none/\Q (.ref s.heap.objs.size) s₂) E (.ok f) s'|.again c'=>c'.quiet=true/\codeAny (model prog w) A.in1 c' (wants (fun r s₂=>r=.none/\Q (.ref s.heap.objs.size) s₂) E) s')
    (fun e s'=>wants (fun r s₂=>r=.none/\Q (.ref s.heap.objs.size) s₂) E (.error e) s') { s with heap:=h1,toks:=tk }:=by
  intro h1 tk k1
  have hd1:=w0E.keep k1
  have dlt:s.heap.objs.size<h1.objs.size:=by
   obtain⟨_,_,_,e,_⟩:=hd1
   exact bQ e
  have hp2:=k1 _ _ hp1
  have apart:p≠h1.objs.size:=cJ (bQ hp2)
  have out:s.heap.objs.size∉[h1.objs.size,p]:=by rw[bE,bB];exact fun z=>z.elim (cJ dlt) (eU hpl)
  have hh2:A.in1.in1.handled=none:=by simp[hh]
  have nin:∀{b:Addr}{o:Obj},s.heap.get? b=some o->b∉[s.heap.objs.size,h1.objs.size]:=fun e m=>by
   have hb:=bQ e
   rcases bE.mp m with z|z
   ·exact absurd hb (by rw[z];exact dP _)
   ·rw[bB] at z
    exact absurd (Nat.lt_trans hb dlt) (by rw[z];exact dP _)
  have w06:∀(i:Nat) v,its[i]? = some v->∃kv,vs[i]? = some kv/\y0o kd s.heap v kv [s.heap.objs.size,h1.objs.size]:=fun i v hv=>by
   obtain⟨kv,e,a,o,T,k,c,e1,e2,e3,e4,e5,e6,_⟩:=vals i v hv
   exact⟨kv,e,a,o,T,k,c,e1,e2,e3,e4,e5,e6,nin e2⟩
  have ends:∀(x:Obj) (s':Shared),Moved [s.heap.objs.size,h1.objs.size] (fun a b=>b=a) { s with heap:=h1.push x,toks:=tk } s'->s'.heap.DictOf kd s.heap.objs.size (merged [] vs)->Q (.ref s.heap.objs.size) s':=fun x s' mv sx=>by
   obtain⟨h',g',d',t',o'⟩:=s'
   obtain rfl:g'=s.gens:=mv.gens
   obtain rfl:d'=s.drawn:=mv.drawn
   obtain rfl:o'=s.os:=mv.os
   rw[merged_nil_of_nodup vs nd] at sx
   exact fin h' t' sx fun b u q=>mv.heap b u (nin q) (bA _ (k1 _ _ (bA _ q)))
  refine wpAny_bind (wpAny_rule ?_)
  rcases hT with rfl|rfl
  ·have hl:h1.IsList p its:=⟨_,hp2,rfl,c0,rfl⟩
   refine wpAny_bind (wpAny_pyIter_list hl (wpAny_pure ⟨plainId_quiet z29 _,?_⟩))
   exact z91 (kd:=kd) ((Walks.list hh2 _ p apart its).toS) out (h0:=s.heap) lk w06 few its.size 0 _ (kA _) ⟨⟨_,bL _ rfl,rfl,rfl⟩,hl.push _⟩ (by rw[cT];exact hd1.push _) (fun b o _ q=>bA _ (k1 _ _ (bA _ q))) fun s' mv sx=>⟨rfl,ends _ s' mv sx⟩
  ·have hl:h1.IsTuple p its:=⟨_,hp2,rfl,c0,rfl⟩
   refine wpAny_bind (wpAny_pyIter_tuple hl (wpAny_pure ⟨plainId_quiet z29 _,?_⟩))
   exact z91 (kd:=kd) ((Walks.tuple hh2 _ p apart its).toS) out (h0:=s.heap) lk w06 few its.size 0 _ (kA _) ⟨⟨_,bL _ rfl,rfl,rfl⟩,hl.push _⟩ (by rw[cT];exact hd1.push _) (fun b o _ q=>bA _ (k1 _ _ (bA _ q))) fun s' mv sx=>⟨rfl,ends _ s' mv sx⟩
 have hh2:A.in1.in1.handled=none:=by simp[hh]
 rcases hT with rfl|rfl
 ·refine wpAny_bind (z9f hh2 hp1 fun h1 tk k1=>?_)
  exact main h1 tk k1
 ·refine wpAny_bind (z85 hh2 hp1 fun h1 tk k1=>?_)
  exact main h1 tk k1
end
section
variable{X:Cx}
noncomputable def y4n(K:PySem.W.Frag)(H:Hp)(u:V)(kv:Key×V):Prop:=∃a,u=.ref a/\(SqL K H a [kV kv.1,kv.2]\/SqT K H a [kV kv.1,kv.2])
noncomputable def SqP(K:PySem.W.Frag)(H:Hp)(p:Addr)(ys:List V):Prop:=SqL K H p ys\/H p=some (.tup ys)
noncomputable def y7D(K:PySem.W.Frag):List V->Hp->VK->Prop:=fun xs H Q=>∃p ys kvs,xs=[.ref p]/\SqP K H p ys/\Paired (y4n K H) ys kvs/\ys.length≤1000/\(kvs.map (·.1)).Nodup/\∀l,H l=none->Q (.ref l) (upd H l (.dK kvs))
theorem z9p{pins:List (Addr×Obj)}{σ:St}{H:Hp}{s:Shared}(I:Inv X pins σ H s):∀{ys:List V}{kvs:List (Key×V)}{its:List Value},Paired (y4n X.K H) ys kvs->Vals ys its->
  ∃vs,KV kvs vs/\vs.length=its.length/\∀(i:Nat) v,its[i]? = some v->∃kv,vs[i]? = some kv/\y0o (z1D X.prog X.w) s.heap v kv []
 | _,_,_,.nil,.nil=>⟨[],.nil,rfl,fun i v h=>by simp at h⟩
 | _::ys,kv::kvs,_::its,.cons ⟨a,e,hq⟩ t,.cons r rr=>by
  obtain⟨vs,k1,l1,p1⟩:=z9p I t rr
  subst e
  cases r
  have go:∀(T:String) (o:Obj) (us:List Value) (c:Nat),s.heap.get? a=some o->o.cls=.type T->(T="list"\/T="tuple")->o.data=.seq us.toArray c->Vals [kV kv.1,kv.2] us->
    ∃vs',KV (kv::kvs) vs'/\vs'.length=(Value.ref a::its).length/\∀(i:Nat) v,(Value.ref a::its)[i]? = some v->∃kv,vs'[i]? = some kv/\y0o (z1D X.prog X.w) s.heap v kv []:=fun T o us c h1 h2 h3 h4 h5=>by
   obtain⟨u1,u2,rfl,r1,r2⟩:=y4c h5
   refine⟨(kv.1,u2)::vs,.cons ⟨rfl,r2⟩ k1,by rw[cN,cN,l1],fun i v hv=>?_⟩
   cases i with
   | zero=>
    simp at hv
    subst hv
    exact⟨_,rfl,a,o,T,u1,c,rfl,h1,h2,h3,by simpa using h4,y4R r1,by simp⟩
   | succ i=>exact p1 i v (by simpa using hv)
  rcases hq with hq|hq
  ·obtain⟨us,rv,pl,_⟩:=I.list hq
   obtain⟨o,ho,hcl,n,hda⟩:=pl.isList
   exact go "list" o us n ho hcl (.inl rfl) hda rv
  ·obtain⟨us,rv,pl,_⟩:=I.tuple hq
   obtain⟨o,ho,hcl,n,hda⟩:=pl
   exact go "tuple" o us n ho hcl (.inr rfl) hda rv
theorem z4Z{K:PySem.W.Frag}(hK:X.K=K)(hc:X.calm=true):z3K X (.type "dict") (y7D K):=by
 subst hK
 intro pins s σ H xs us Q I r h
 obtain⟨p,ys,kvs,rfl,hq,pr,hl,nd,q⟩:=h
 obtain⟨u,rfl,rx⟩:=z4F r
 cases rx
 have go:∀(T:String) (its:List Value) (c0:Nat) (sl:Array (Option Value)),s.heap.get? p=some ⟨.type T,none,.seq its.toArray c0,sl⟩->(T="list"\/T="tuple")->Vals ys its->wpAny (model X.prog X.w) X.A (call (.type "dict") [.ref p]) (EP X pins σ Q) X.xe s:=
  fun T its c0 sl ho hT rv=>by
   obtain⟨vs,k1,l1,p1⟩:=z9p I pr rv
   have ln:ys.length=its.length:=rv.length
   refine y7m (kd:=z1D X.prog X.w) (vs:=vs) (I.ok.hd hc) ho hT (by simpa using l1) (fun i v hv=>p1 i v (by simpa using hv)) (by simp;lia) (by rw[<- k1.keys];exact nd) fun h' t dd kp=>?_
   have big:=I.big
   refine⟨.ref s.heap.objs.size,_,I.laid (a:=s.heap.objs.size) (o:=.dK kvs) (h':=h') (t':=t) kp (bI _) (y6H ?_ ?_ k1 dd),rfl,q _ (I.hok.fresh (bI _))⟩
   ·have:=k1.length
    rw[sizeLine_eq]
    lia
   ·exact beq_false_of_ne (eU big)
 rcases hq with hq|hq
 ·obtain⟨its,rv,pl,_⟩:=I.list hq
  obtain⟨o,n,ho,hcl,hdi,hda⟩:=pl
  obtain⟨oc,od,oa,os⟩:=o
  simp only at hcl hdi hda
  subst hcl hdi hda
  exact go "list" its n os ho (.inl rfl) rv
 ·obtain⟨_,its,rv,o,ho,hcl,⟨n,hda⟩,hdi⟩:=(show z1C X.prog X.w H s.heap p (.tup ys) from I.hok p _ hq)
  obtain⟨oc,od,oa,os⟩:=o
  simp only at hcl hdi hda
  subst hcl hdi hda
  exact go "tuple" its n os ho (.inr rfl) rv
end
noncomputable def SqS(K:PySem.W.Frag)(t:Bool)(H:Hp)(a:Addr)(xs:List V):Prop:=if t then SqL K H a xs else SqT K H a xs
theorem SqS.of{K:PySem.W.Frag}{H:Hp}{a:Addr}{xs:List V}(h:SqL K H a xs\/SqT K H a xs):∃t,SqS K t H a xs:=h.elim (fun q=>⟨true,q⟩) fun q=>⟨false,q⟩
theorem SqS.keep{K:PySem.W.Frag}{t:Bool}{H H':Hp}{a:Addr}{xs:List V}(s:B0 H H')(h:SqS K t H a xs):SqS K t H' a xs:=by
 cases t
 ·rcases(show SqT K H a xs from h) with (h|⟨o,h⟩)|h
  ·exact .inl (.inl (s _ _ h))
  ·exact .inl (.inr ⟨o,s _ _ h⟩)
  ·exact .inr h
 ·exact s.seq (show SqL K H a xs from h)
noncomputable def Its(K:PySem.W.Frag)(t:Bool)(a:Addr):It:=if t then Itl K a else Itt K a
section
variable{X:Cx}{tg:Expr}
noncomputable def iSeq(K:PySem.W.Frag)(tl:TE):TI:=fun σ H R=>tl σ H fun x H1=>∃a t,x=.ref a/\(∃xs,SqS K t H1 a xs)/\R (Its K t a) H1
theorem y4d{l:Expr}{tl:TE}(hl:PE X l tl):PI X tg l (iSeq X.K tl):=by
 intro pins s σ H R I h
 refine thn (hl pins s σ H _ I h) fun v s1 ⟨x,H1,I1,r1,q1⟩=>?_
 obtain⟨a,t,e,⟨xs,hq⟩,q⟩:=q1
 subst e
 cases r1
 cases t
 ·obtain⟨its,rv,p,hz⟩:=I1.tuple hq
  refine wpAny_pyIter_tuple (show s1.heap.IsTuple a its.toArray from p) ?_
  refine⟨s1.heap.objs.size,[s1.heap.objs.size],_,_,H1,rfl,I1.kept (t':=s1.toks) fun b o e=>bA _ e,z9I a _,⟨_,bL _ rfl,rfl,rfl⟩,fun b hb=>?_,q⟩
  have e:b=s1.heap.objs.size:=by simpa using hb
  subst e
  exact I1.T6 (bI _) (I1.hok.fresh (bI _))
 ·obtain⟨its,rv,p,hz⟩:=I1.list hq
  refine wpAny_pyIter_list p.isList ?_
  refine⟨s1.heap.objs.size,[s1.heap.objs.size],_,_,H1,rfl,I1.kept (t':=s1.toks) fun b o e=>bA _ e,y0M a _,⟨_,bL _ rfl,rfl,rfl⟩,fun b hb=>?_,q⟩
  have e:b=s1.heap.objs.size:=by simpa using hb
  subst e
  exact I1.T6 (bI _) (I1.hok.fresh (bI _))
end
theorem y2f{K:PySem.W.Frag}{t:Bool}{a:Addr}{xs:List V}{g:TG}{tc:TT}{te:TE}{σ0:St}{H1:Hp}{F:List V->Hp->Prop}(Pv:Nat->List V->Hp->Prop)(h0:Pv 0 [] H1)
  (hl:∀i ys H,i≤xs.length->Pv i ys H->SqS K t H a xs/\ys.length<sizeLine)
  (hs:∀i x ys H,xs[i]? = some x->Pv i ys H->z1A g tc te σ0 x H ys (Pv (i+1))) (hd:∀ys H,Pv xs.length ys H->F ys H):y08 (Its K t a) g tc te σ0 H1 F:=by
 cases t
 ·exact z1n Pv h0 hl hs hd
 ·exact z32 Pv h0 hl hs hd
theorem y7V{K:PySem.W.Frag}{t:Bool}{a:Addr}{xs:List V}{g:TG}{tb:TS}{D:Ends}{σ:St}{H:Hp}(Pv:Nat->St->Hp->Prop)(h0:Pv 0 σ H)(hl:∀i σ H,i≤xs.length->Pv i σ H->SqS K t H a xs)
  (hs:∀i x σ H,xs[i]? = some x->Pv i σ H->g x σ H fun σ2 H2=>tb { D with nx:=Pv (i+1),ct:=Pv (i+1),bk:=D.nx } σ2 H2) (hd:∀σ H,Pv xs.length σ H->D.nx σ H) :
  ∃W:Nat->Nat->St->Hp->Prop,(∃m,W 0 m σ H)/\∀i m σ H,W i m σ H->
   ((Its K t a).stop i H/\D.nx σ H)\/((Its K t a).go i H/\∃N:St->Hp->Prop,(∀σ' H',N σ' H'->∃m',m'<m/\W (i+1) m' σ' H')/\∀x H',(Its K t a).yld i H x H'->g x σ H' fun σ2 H2=>tb { D with nx:=N,ct:=N,bk:=D.nx } σ2 H2):=by
 cases t
 ·exact z52 Pv h0 hl hs hd
 ·exact z1g Pv h0 hl hs hd
section
variable{prog:Program}{w:World}{A:Around}{E:Value->Shared->Prop}
theorem y0W{it t:Addr}{items:Array Value}(hne:t≠it):∀(n i:Nat) (s:Shared) (Q:List Value->Shared->Prop),s.heap.IsListIter it t i->s.heap.IsList t items->i+n≤items.size->
  (∀h',h'.IsListIter it t (i+n)->Heap.SameBut it s.heap h'->Q ((items.toList.drop i).take n) { s with heap:=h' })->wpAny (model prog w) A (draw (.ref it) n) Q E s
 | 0,i,s,Q,hit,_,_,hQ=>by
  show wpAny _ _ (pure []) Q E s
  exact wpAny_pure (by simpa using hQ s.heap hit (Heap.SameBut.refl ..))
 | n+1,i,s,Q,hit,ht,hle,hQ=>by
  have hlt:i<items.size:=by lia
  show wpAny _ _ (pyNext (.ref it) >>= _) Q E s
  refine wpAny_bind (wpAny_pyNext_list_item hit ht (x:=items[i]) (by simp[hlt]) fun h₁ hit₁ hs₁=>?_)
  refine wpAny_bind (wpAny_holding (y0W hne n (i+1) _ _ hit₁ (ht.at fun o e=>(hs₁.2 t hne).trans e) (by lia) fun h₂ hit₂ hs₂=>wpAny_pure ?_))
  have hd:items.toList.drop i=items[i]::items.toList.drop (i+1):=by simp[List.drop_eq_getElem_cons,hlt]
  have:=hQ h₂ (by rw[show i+(n+1)=i+1+n by lia];exact hit₂) (hs₁.trans hs₂)
  rw[hd,List.take_succ_cons] at this
  exact this
theorem y1t{s:Shared}{t:Addr}{items:Array Value}{Q:List Value->Shared->Prop}(hh:A.handled=none)(ht:s.heap.IsList t items)
  (hQ:∀h',Heap.ExtBut s.heap.objs.size s.heap h'->Q items.toList { s with heap:=h' }):wpAny (model prog w) A (unpackItems (.ref t) items.size none) Q E s:=by
 have hlt:t≠s.heap.objs.size:=by obtain⟨o,ho,_⟩:=ht;exact cJ (bQ ho)
 unfold unpackItems
 refine wpAny_bind ?_
 unfold notIterableAtAll
 refine wpAny_bind (wpAny_specialOf ht.typeIs PySem.F.slot_list_iter.lookup ?_)
 refine wpAny_pure ?_
 simp only[eY,if_false]
 refine wpAny_bind (wpAny_holding (wpAny_pyIter_list ht ?_))
 refine wpAny_bind (wpAny_holding (y0W hlt items.size 0 _ _ ⟨_,bL _ rfl,rfl,rfl⟩ (ht.push _) (by lia) fun h₁ hit₁ hs₁=>?_))
 have C0:List.take items.size (List.drop 0 items.toList)=items.toList:=by
  rw[fM];exact cO (by simp)
 rw[C0]
 rw[if_neg (by simp)]
 have ht₁:h₁.IsList t items:=(ht.push _).at fun o e=>(hs₁.2 t hlt).trans e
 refine wpAny_bind (wpAny_holding (wpAny_pyNext_list_end hh hit₁ ht₁ (by simp) fun h₂ he₂=>?_))
 simp only[Option.isSome_none,eY,if_false]
 exact wpAny_pure (hQ h₂ fun b o hb e=>he₂ b o hb (hs₁.extBut b o hb (bA _ e)))
theorem z6S{s:Shared}{env:Env}{elts:List Expr}{x1}{pos:Pos}{t:Addr}{items:Array Value}{Q:Unit->Shared->Prop}(hh:A.handled=none)(ht:s.heap.IsList t items)
  (hn:(assignEach elts env).length=items.size) (w1R:(assignEach elts env).findIdx? (·.1)=none)
  (h:∀h',Heap.ExtBut s.heap.objs.size s.heap h'->wpAny (model prog w) A (assignInOrder ((assignEach elts env).map (·.2)) items.toList) Q E { s with heap:=h' }) :
  wpAny (model prog w) A (assign (.Tuple elts x1 pos) env (.ref t)) Q E s:=by
 rw[assign_Tuple]
 refine wpAny_bind (wpAny_standAt ?_)
 unfold unpack
 rw[hn,w1R]
 exact wpAny_bind (wpAny_holding (y1t hh ht h))
end
noncomputable def w0k(K:PySem.W.Frag)(n:Nat)(t:TGs):TG:=fun v σ H Q=>∃a xs,v=.ref a/\(SqL K H a xs\/SqT K H a xs)/\xs.length=n/\t xs σ H Q
theorem y4I{X:Cx}{K:PySem.W.Frag}{es:List Expr}{k:Nat}{t:TGs}{n:Nat}{pos:Pos}(hK:X.K=K)(hc:X.calm=true)(h:PGs X es t)
  (hn:(assignEach es X.env).length=n:=by rfl) (hst:(assignEach es X.env).findIdx? (·.1)=none:=by rfl):PG X (.Tuple es k pos) (w0k K n t):=by
 subst hK
 intro pins s σ H v u Q I r hw
 obtain⟨a,xs,e1,hq,hl,hw⟩:=hw
 subst e1
 cases r
 rcases hq with hq|hq
 ·obtain⟨its,rv,ht,hz⟩:=I.list hq
  refine z6S (I.ok.hd hc) ht.isList (by simp[hn,<- hl,rv.length]) hst fun h' hx=>?_
  have I1:Inv X pins σ H { s with heap:=h' }:=I.kept (t':=s.toks) fun b o e=>hx b o (cJ (bQ e)) e
  exact h pins _ σ H xs _ Q I1 (by simpa using rv) hw
 ·obtain⟨its,rv,ht,hz⟩:=I.tuple hq
  refine assign_Tuple_tuple (I.ok.hd hc) ht (by simp[hn,<- hl,rv.length]) hst fun h' hx=>?_
  have I1:Inv X pins σ H { s with heap:=h' }:=I.kept (t':=s.toks) fun b o e=>hx b o (cJ (bQ e)) e
  exact h pins _ σ H xs _ Q I1 (by simpa using rv) hw
theorem y6g{K:PySem.W.Frag}{n:Nat}{t:TGs}(a:z9h t):y0U (w0k K n t):=fun v σ H Q Q' f q=>by
 obtain⟨p,xs,e,h1,h2,q⟩:=q
 exact⟨p,xs,e,h1,h2,a _ _ _ _ _ f q⟩
theorem y7U{K:PySem.W.Frag}{n k:Nat}{t:TGs}(a:y4W n t):W4 n (w0k K k t):=fun v σ H Q q=>by
 obtain⟨p,xs,e,h1,h2,q⟩:=q
 exact⟨p,xs,e,h1,h2,a _ _ _ _ q⟩
theorem y2z{X:Cx}{K:PySem.W.Frag}(hK:X.K=K):OpR X (binaryOp .Add) (y8x K):=by
 subst hK
 exact y78
section
variable{X:Cx}
noncomputable def w1y(i j:Int):Prop:=0<j/\j<18446744073709551616
theorem y6e:OpR X (binaryOp .FloorDiv) (rI w1y fun i j=>.int (i / j)):=opI fun i j _ _ _ _ _ hc q=>by
 have h1:(0:Int)<j:=hc.1
 have h2:j<18446744073709551616:=hc.2
 have h3:j.natAbs.log2<64:=(Nat.log2_lt (by lia)).mpr (by lia)
 exact floordiv_int (by lia) (by rw[Int.fdiv_eq_ediv_of_nonneg i (by lia)];exact q) (.inl (PyProof.noPylong_of_log2 (by lia)))
end
structure T5(K:PySem.W.Frag)(x qual:Str)(st:Stmt)(f:Addr)(fd:FuncData)(T:Addr)(items:Array Value):Prop where
 ex:∃(oc:Value) (od:Option Addr) (kV doc pm:Value) (an:Option Addr) (cdv ct:Value) (osl:Array (Option Value)),
  fd=PySem.W.fnOf x qual (z1H st) (z1w st) (z07 st) (.ref T) kV doc pm an cdv ct/\K.lookup f=some ⟨oc,od,.func fd,osl⟩/\PySem.W.codeIn K cdv qual=true
 kp:PySem.W.keepIn K (.ref f)=true
 dt:∃(o:Obj) (n:Nat),K.lookup T=some o/\o.data=.seq items n
section
variable{P:Program}{w:World}{K:PySem.W.Frag}{mg:Str->Option Value}{base:Heap}
theorem T5.ok{x qual:Str}{st:Stmt}{f T:Addr}{items:Array Value}{fd:FuncData}{N ps:List Str}{k:Nat}{sp:Sp}(F:T5 K x qual st f fd T items)(S:A9 N ps (z07 st))(len:∀vs H Q E,sp vs H Q E->vs.length=ps.length)
  (V1:∀(cdv:Value) (A:Around) (outer:List Env) (s:Shared) (H:Hp) (vs:List V) (Q:VK) (E:XK),E6 k (A.deeper (envOfC qual (z07 st) s.heap.objs.size f cdv))->sp vs H Q E->
   ∃t,PSs (W7 CX0 P w K mg base N qual (z07 st) f cdv A outer s H E).nox (z1w st) t/\t { nx:=fun _ H'=>Q .non H',rt:=Q } (z6F N vs) H):B4 P w K mg base CX0 (k+1) f fd ps sp:=by
 obtain⟨oc,od,kV,doc,pm,an,cdv,ct,osl,rfl,lk,hcd⟩:=F.ex
 refine y8l lk hcd S len fun A outer s H vs Q E hr hsp=>?_
 obtain⟨t,h,q⟩:=V1 cdv A outer s H vs Q E hr hsp
 exact⟨t,h.nox,q⟩
theorem T5.binds{x qual:Str}{st:Stmt}{f T:Addr}{items:Array Value}{fd:FuncData}{ps:List Str}{ds:List Value}(F:T5 K x qual st f fd T items)
  (h:∀(kV doc pm:Value) (an:Option Addr) (cdv ct:Value) (us:List Value),us.length+ds.length=ps.length->∃k,bindArgs (PySem.W.fnOf x qual (z1H st) (z1w st) (z07 st) (.ref T) kV doc pm an cdv ct) ⟨us,[]⟩=seqItems? (.ref T) >>= k/\k (some items)=pure (ps.zip (us++ds))):z2b K fd ps ds:=by
 obtain⟨oc,od,kV,doc,pm,an,cdv,ct,osl,rfl,lk,hcd⟩:=F.ex
 obtain⟨o,n,lt,hs⟩:=F.dt
 intro s us KX hl
 rw[bN] at hl
 obtain⟨k,h1,h2⟩:=h kV doc pm an cdv ct us hl
 exact .of_defaults rfl (KX _ _ lt) hs h1 h2
theorem y7i{x qual:Str}{st:Stmt}{f T:Addr}{oc oct:Value}{od odt an:Option Addr}{osl oslt:Array (Option Value)}{items:Array Value}{n:Nat}{kV doc pm cdv ct:Value}(l:K.lookup f=some ⟨oc,od,.func (PySem.W.fnOf x qual (z1H st) (z1w st) (z07 st) (.ref T) kV doc pm an cdv ct),osl⟩)
  (lt:K.lookup T=some ⟨oct,odt,.seq items n,oslt⟩) (c:PySem.W.codeIn K cdv qual=true) (k:PySem.W.keepIn K (.ref f)=true):T5 K x qual st f (PySem.W.fnOf x qual (z1H st) (z1w st) (z07 st) (.ref T) kV doc pm an cdv ct) T items:=⟨⟨oc,od,kV,doc,pm,an,cdv,ct,osl,rfl,l,c⟩,k,_,n,lt,rfl⟩
end
structure S6(P:Program)(w:World)(K:PySem.W.Frag)(mg:Str->Option Value)(base:Heap)(k:Nat)(x:Str)(ps:List Str)(sp:Sp)(dvs:List V):Prop where
 ex:∃(f:Addr) (fd:FuncData) (ds:List Value),B4 P w K mg base CX0 k f fd ps sp/\z2b K fd ps ds/\Vals dvs ds/\PySem.W.keepIn K (.ref f)=true/\mg x=some (.ref f)
theorem S6.mk'{P:Program}{w:World}{K:PySem.W.Frag}{mg:Str->Option Value}{base:Heap}{k:Nat}{x:Str}{ps:List Str}{sp:Sp}{dvs:List V}{ds:List Value}{f:Addr}{fd:FuncData}(v:Vals dvs ds)(a:B4 P w K mg base CX0 k f fd ps sp)(b:z2b K fd ps ds)(c:PySem.W.keepIn K (.ref f)=true)(d:mg x=some (.ref f)) :
  S6 P w K mg base k x ps sp dvs:=⟨⟨f,fd,ds,a,b,v,c,d⟩⟩
theorem S6.mono{P:Program}{w:World}{K:PySem.W.Frag}{mg:Str->Option Value}{base:Heap}{j k:Nat}{x:Str}{ps:List Str}{sp:Sp}{dvs:List V}(G:S6 P w K mg base j x ps sp dvs)(h:j≤k):S6 P w K mg base k x ps sp dvs:=by
 obtain⟨f,fd,ds,a,b,v,c,d⟩:=G.ex
 exact⟨f,fd,ds,a.mono h,b,v,c,d⟩
theorem y7M{X:Cx}{k:Nat}{x:Str}{ps:List Str}{sp:Sp}{dvs:List V}{e:Expr}{es:List Expr}{t:TA}{p pos:Pos}(G:S6 X.prog X.w X.K X.mg X.base k x ps sp dvs)(hr:E6 k X.A)(hg:Gl X x)(ha:PA X (e::es) t)
  (hdb:(x == ("__debug__":Str))=false:=by decide) (he:starEach (e::es) X.env=(false,eval e X.env)::starEach es X.env:=by rfl) (hpl:(backTo pos (starEach es X.env)).any (·.1)=false:=by rfl) :
  PE X (.Call (.Name x p) (e::es) [] pos) (y7A sp dvs E0 t):=by
 obtain⟨f,fd,ds,a,b,v,c,d⟩:=G.ex
 exact y4H a hr hg d c b v y3j ha hdb he hpl
structure O2(P:Program)(w:World)(K:PySem.W.Frag)(mg:Str->Option Value)(base:Heap)(k:Nat)(C:Addr)(m:Str)(ps:List Str)(sp:Sp)(dvs:List V):Prop where
 cl:Cls K C
 ex:∃(f:Addr) (fd:FuncData) (ds:List Value),B4 P w K mg base CX0 k f fd ps sp/\z2b K fd ps ds/\Vals dvs ds/\Meth K C m f
theorem O2.mk'{P:Program}{w:World}{K:PySem.W.Frag}{mg:Str->Option Value}{base:Heap}{k:Nat}{C:Addr}{m:Str}{ps:List Str}{sp:Sp}{dvs:List V}{ds:List Value}{f:Addr}{fd:FuncData}(v:Vals dvs ds)(c:Cls K C)(a:B4 P w K mg base CX0 k f fd ps sp)(b:z2b K fd ps ds)(d:Meth K C m f) :
  O2 P w K mg base k C m ps sp dvs:=⟨c,f,fd,ds,a,b,v,d⟩
theorem O2.mono{P:Program}{w:World}{K:PySem.W.Frag}{mg:Str->Option Value}{base:Heap}{j k:Nat}{C:Addr}{m:Str}{ps:List Str}{sp:Sp}{dvs:List V}(G:O2 P w K mg base j C m ps sp dvs)(h:j≤k):O2 P w K mg base k C m ps sp dvs:=by
 obtain⟨f,fd,ds,a,b,v,c⟩:=G.ex
 exact⟨G.cl,f,fd,ds,a.mono h,b,v,c⟩
theorem z7V{X:Cx}{k:Nat}{C:Addr}{m:Str}{ps:List Str}{sp:Sp}{dvs:List V}{o e:Expr}{es:List Expr}{ta:TE}{t:TA}{pos apos:Pos}{pl:Sem Bool}(G:O2 X.prog X.w X.K X.mg X.base k C m ps sp dvs)(hr:E6 k X.A)(he:PE X o ta)(ha:PA X (e::es) t)
  (hst:starEach (e::es) X.env=(false,eval e X.env)::starEach es X.env:=by rfl) (hpl:(backTo pos (starEach es X.env)).any (·.1)=false:=by rfl)
  (ht:eval (.Call (.Attribute o m apos) (e::es) [] pos) X.env=(do
   let ov <- eval o X.env
   standAt apos.atName
   let (f,first) <- holding [ov] (getMethod ov m pl)
   callWith pos f first (backTo pos (starEach (e::es) X.env)) (backToKw pos (keywordEach [] X.env))):=by rfl) :
  PE X (.Call (.Attribute o m apos) (e::es) [] pos) (y4M C m sp dvs E0 ta t):=by
 obtain⟨f,fd,ds,a,b,v,d⟩:=G.ex
 exact y49 he G.cl d a hr b v y3j ha hst hpl ht
end L2
namespace HT
open PySem PySem.Spec PyProof.Rows L2
section
variable{prog:Program}{w:World}{A:Around}{E:Value->Shared->Prop}{s:Shared}
theorem z72{t sl:Addr}{items:Array Value}{vl vu:Value}{lo hi:Option Int}{Q:Value->Shared->Prop}(ht:IsTup s.heap t items)(hs:s.heap.IsSliceOf sl vl vu .none)(pl:IsPart vl lo)(pu:IsPart vu hi)
  (hw:sIx items.size 0 lo=0/\sIx items.size items.size hi=items.size) (h:Q (.ref t) s):wpAny (model prog w) A (getItem (.ref t) (.ref sl)) Q E s:=by
 obtain⟨os,hos,hcs,hds⟩:=id hs
 have hTs:s.TypeIs (.ref sl) "slice":=⟨os,hos,hcs⟩
 unfold getItem
 try with_reducible refine wpAny_holding ?_
 first|refine wpAny_bind (wpAny_pure ?_)|skip
 refine wpAny_bind (wpAny_sequenceKey ht.typeIs (by decide) ?_)
 refine wpAny_bind (wpAny_callSpecial?_slot (name:=Str.ofString "__getitem__") ht.typeIs dE
  (wpAny_call_entry dE ht.typeIs entry_tuple_getitem ?_ (args_tuple_getitem _ _)))
 show wpAny _ _ (Builtin.Tuple.tupleItemsOf (.ref t) >>= _) _ _ s
 refine wpAny_bind (tupleItemsOf_ ht ?_)
 refine wpAny_bind (wpAny_typeOf hTs ?_)
 rw[if_pos (by decide)]
 refine wpAny_bind (z4p hs pl pu ?_)
 have hyes:(((sIx items.size 0 lo:Nat):Int) == 0 && (1:Int) == 1 && (sIx items.size items.size hi-sIx items.size 0 lo) == items.size)=true:=by
  rw[hw.1,hw.2]
  simp
 show wpAny _ _ (if (((sIx items.size 0 lo:Nat):Int) == 0 && (1:Int) == 1 && (sIx items.size items.size hi-sIx items.size 0 lo) == items.size)=true then _ else _) _ _ s
 rw[if_pos hyes]
 refine wpAny_bind (m:=Builtin.Tuple.tupleIsExact _) (wpAny_bind (wpAny_typeOf ht.typeIs (wpAny_pure ?_)))
 rw[if_pos (by decide)]
 refine wpAny_bind (wpAny_rule ?_)
 exact wpAny_pure ⟨_,rfl,wpAny_pure h⟩
end
end HT
namespace L2
open PySem PySem.Spec PyProof.Rows
noncomputable def z38:List V->List V->Bool
 | [],[]=>true
 | x::xs,y::ys=>eqV x y && z38 xs ys
 | _,_=>false
theorem z9S:∀xs ys:List V,((List.range (min xs.length ys.length)).all (fun j=>eqV (xs.getD j .non) (ys.getD j .non)) && xs.length == ys.length)=z38 xs ys
 | [],[]=>rfl
 | [],_::_=>rfl
 | _::_,[]=>rfl
 | x::xs,y::ys=>by
  have ih:=z9S xs ys
  unfold z38
  rw[<- ih,cN,cN,Nat.succ_min_succ,List.range_succ_eq_map,fW,kB,Bool.and_assoc]
  congr 1
  congr 1
  rw[d8]
  simp
theorem y0d:∀{x:V},z2i x=true->eqV x x=true:=fun {x} h=>by
 cases x with
 | non=>rfl
 | bl b=>exact beq_self_eq_true b
 | int i=>exact beq_self_eq_true i
 | str z=>exact beq_self_eq_true z
 | _=>exact absurd (show false=true from h) bM
theorem z73:∀{xs:List V},xs.all z2i=true->z38 xs xs=true
 | [],_=>rfl
 | x::xs,h=>by
  rw[fW,cG] at h
  unfold z38
  rw[y0d h.1,z73 h.2]
  rfl
theorem z70:∀{xs:List V}{us:List Value},Vals xs us->xs.all z2i=true->∀(j:Nat) (h:j<us.length),RelV (xs.getD j .non) us[j]/\z2i (xs.getD j .non)=true
 | _,_,.nil,_,j,h=>absurd h (g0 _)
 | x::xs,u::us,.cons r t,f,0,h=>by
  rw[fW,cG] at f
  exact⟨r,f.1⟩
 | x::xs,u::us,.cons r t,f,j+1,h=>by
  rw[fW,cG] at f
  exact z70 t f.2 j (Nat.lt_of_succ_lt_succ h)
noncomputable def eqI:List Value->List V->Bool
 | [],[]=>true
 | u::us,x::xs=>eqU x u && eqI us xs
 | _,_=>false
theorem y4q:∀{ys:List V}{us:List Value} (xs:List V),Vals ys us->ys.all z2i=true->eqI us xs=z38 ys xs
 | _,_,[],.nil,_=>rfl
 | _,_,_::_,.nil,_=>rfl
 | y::ys,u::us,[],.cons r t,f=>rfl
 | y::ys,u::us,x::xs,.cons r t,f=>by
  rw[fW,cG] at f
  unfold eqI z38
  rw[y2a r f.1,y4q xs t f.2]
section
variable{X:Cx}
theorem y4u{A:Around}{s:Shared}{a b:Addr}{its M0:List Value}{xs ys:List V}(pl:s.heap.IsTuple a its.toArray)(pl2:s.heap.IsTuple b M0.toArray)(r:Vals xs its)(r2:Vals ys M0)(f:xs.all z2i=true)(f2:ys.all z2i=true)(hu:A.units<cLine) :
  SeqAt.RcAt A s (.ref a) (.ref b) (z38 xs ys):=by
 have h:=SeqAt.RcAt.tuples (e:=fun j=>eqV (xs.getD j .non) (ys.getD j .non)) pl pl2 hu fun j h1 h2=>by
  rw[bJ] at h1 h2
  obtain⟨q1,q2⟩:=z70 r f j h1
  obtain⟨q3,q4⟩:=z70 r2 f2 j h2
  exact y4i q1 q3 q2 q4
 rw[bJ,bJ,<- r.length,<- r2.length,z9S] at h
 exact h
noncomputable def rEqT(K:PySem.W.Frag):R2:=fun x y H Q=>∃a b xs ys,x=.ref a/\y=.ref b/\SqT K H a xs/\SqT K H b ys/\xs.all z2i=true/\ys.all z2i=true/\Q (.bl (z38 xs ys)) H
theorem y5q(hu:X.A.units<cLine):OpR X (compareOp .Eq) (rEqT X.K):=by
 intro pins s σ H x y v u Q I rx ry h
 obtain⟨a,b,xs,ys,rfl,rfl,ha,hb,f1,f2,q⟩:=h
 cases rx
 cases ry
 obtain⟨its,r,pl,hz⟩:=I.tuple ha
 obtain⟨M0,r2,pl2,hz2⟩:=I.tuple hb
 exact y4u pl pl2 r r2 f1 f2 hu X.prog X.w X.xe _ ⟨.bl _,H,I,rfl,q⟩
noncomputable def z45(s:Shared)(xs:List V):Value->Bool
 | .ref b=>match s.heap.get? b with
  | some o=>match o.data with
   | .seq its _=>eqI its.toList xs
   | _=>false
  | none=>false
 | _=>false
noncomputable def y7N(K:PySem.W.Frag):R2:=fun x y H Q=>∃a p xs us yss,x=.ref a/\y=.ref p/\SqT K H a xs/\xs.all z2i=true/\SqL K H p us/\Paired (fun u ys=>∃b,u=.ref b/\SqT K H b ys/\ys.all z2i=true) us yss/\Q (.bl (!yss.any fun ys=>z38 ys xs)) H
theorem y3u(hu:X.A.units+1<cLine):OpR X (compareOp .NotIn) (y7N X.K):=by
 intro pins s σ H x y v u Q I rx ry h
 obtain⟨a,p,xs,us,yss,rfl,rfl,ha,f1,hp,pr,q⟩:=h
 cases rx
 cases ry
 obtain⟨its,r,pl,hz⟩:=I.tuple ha
 obtain⟨M0,r2,pl2,hz2⟩:=I.list hp
 have item:∀(b:Addr) (ys:List V),SqT X.K H b ys->ys.all z2i=true->z45 s xs (.ref b)=z38 ys xs/\SeqAt.EqAt X.A.in1 s (.ref b) (.ref a) (z38 ys xs):=fun b ys hb fb=>by
  obtain⟨its3,r3,pl3,hz3⟩:=I.tuple hb
  have e1:z45 s xs (.ref b)=z38 ys xs:=by
   obtain⟨o,ho,hc,n,hd⟩:=pl3
   unfold z45
   simp only[ho,hd]
   exact y4q xs r3 fb
  refine⟨e1,?_⟩
  by_cases hne:b=a
  ·subst hne
   have e2:z38 ys xs=true:=by
    rw[<- e1]
    obtain⟨o,ho,hc,n,hd⟩:=pl
    unfold z45
    simp only[ho,hd]
    rw[y4q xs r f1]
    exact z73 f1
   rw[e2]
   exact SeqAt.EqAt.same _
  ·exact SeqAt.EqAt.of_refs hne (y4u pl3 pl r3 r fb f1 hu)
 have all:∀{us:List V}{yss:List (List V)}{vs:List Value},Paired (fun u ys=>∃b,u=.ref b/\SqT X.K H b ys/\ys.all z2i=true) us yss->Vals us vs->vs.any (z45 s xs)=yss.any (fun ys=>z38 ys xs)/\∀v∈vs,SeqAt.EqAt X.A.in1 s v (.ref a) (z45 s xs v):=by
  intro us yss vs pr
  induction pr generalizing vs with
  | nil=>
   intro r
   cases r
   exact⟨rfl,fun v hv=>(nomatch hv)⟩
  | cons h t ih=>
   intro r
   cases r with
   | cons r1 rt=>
    obtain⟨b,rfl,hb,fb⟩:=h
    cases r1
    obtain⟨i1,i2⟩:=ih rt
    obtain⟨j1,j2⟩:=item b _ hb fb
    refine⟨by rw[fX,fX,i1,j1],fun v hv=>?_⟩
    rcases bE.mp hv with rfl|hv
    ·rw[j1];exact j2
    ·exact i2 v hv
 obtain⟨a1,a2⟩:=all pr r2
 refine SeqAt.notIn_listAt (z45 s xs) pl2.isList (fun w hw=>a2 w (by simpa using hw)) ⟨.bl _,H,I,rfl,?_⟩
 rw[show M0.toArray.any (z45 s xs)=M0.any (z45 s xs) by simp,a1]
 exact q
end
noncomputable def rSlA(K:PySem.W.Frag):V->Option Int->Option Int->Hp->VK->Prop:=fun x lo hi H Q=>∃a xs,x=.ref a/\SqT K H a xs/\((HT.sIx xs.length 0 lo=0/\HT.sIx xs.length xs.length hi=xs.length)->Q (.ref a) H)/\
 (¬(HT.sIx xs.length 0 lo=0/\HT.sIx xs.length xs.length hi=xs.length)->∀p,H p=none->Q (.ref p) (upd H p (.tup (N7 xs lo hi))))
theorem y3E{X:Cx}:SlR X (rSlA X.K):=by
 intro pins s σ H x v vl vu lo hi sl Q I rx hs pl pu h
 obtain⟨a,xs,rfl,hx,q1,q2⟩:=h
 by_cases hw:HT.sIx xs.length 0 lo=0/\HT.sIx xs.length xs.length hi=xs.length
 ·cases rx
  obtain⟨its,r,ht,hz⟩:=I.tuple hx
  have hlen:its.toArray.size=xs.length:=by rw[bJ];exact r.length.symm
  exact⟨"tuple",_,dE.lookup,ht.typeIs,HT.z72 ht hs pl pu (by rw[hlen];exact hw) ⟨.ref a,H,I,rfl,q1 hw⟩⟩
 ·exact y6U pins s σ H (.ref a) v vl vu lo hi sl Q I rx hs pl pu ⟨a,xs,rfl,hx,hw,q2 hw⟩
noncomputable def rNeT(K:PySem.W.Frag):R2:=fun x y H Q=>∃a b xs ys,x=.ref a/\y=.ref b/\SqT K H a xs/\SqT K H b ys/\xs.all z2i=true/\ys.all z2i=true/\Q (.bl (!z38 xs ys)) H
theorem y8z{X:Cx}(hu:X.A.units<cLine):OpR X (compareOp .NotEq) (rNeT X.K):=by
 intro pins s σ H x y v u Q I rx ry h
 obtain⟨a,b,xs,ys,rfl,rfl,ha,hb,f1,f2,q⟩:=h
 cases rx
 cases ry
 obtain⟨its,r,pl,hz⟩:=I.tuple ha
 obtain⟨M0,r2,pl2,hz2⟩:=I.tuple hb
 have h:=SeqAt.RcNeAt.tuples (A:=X.A) (e:=fun j=>eqV (xs.getD j .non) (ys.getD j .non)) pl pl2 hu fun j h1 h2=>by
  rw[bJ] at h1 h2
  obtain⟨q1,q2⟩:=z70 r f1 j h1
  obtain⟨q3,q4⟩:=z70 r2 f2 j h2
  exact y4i q1 q3 q2 q4
 rw[bJ,bJ,<- r.length,<- r2.length,z9S] at h
 exact h X.prog X.w X.xe _ ⟨.bl _,H,I,rfl,q⟩
section
variable{X:Cx}{tg:Expr}
end
theorem len7{us:List Value}{p:List Value->Prop}(h:us.length=7)(k:∀a b c d e f g,p [a,b,c,d,e,f,g]):p us:=by
 match us,h with
 | [a,b,c,d,e,f,g],_=>exact k a b c d e f g
end L2
namespace HT
open PySem PySem.Spec PyProof.Rows L2
section
variable{prog:Program}{w:World}{A:Around}{E:Value->Shared->Prop}{s:Shared}
theorem y6b{t b:Addr}{vs ws:List Value}{Q:Value->Shared->Prop}(ht:IsTup s.heap t vs.toArray)(hb:IsTup s.heap b ws.toArray)(h0:vs=[]->Q (.ref b) s)
  (h1:vs≠[]->ws=[]->Q (.ref t) s) (h2:vs≠[]->ws≠[]->Q (.ref s.heap.objs.size) { s with heap:=s.heap.push { cls:=.type "tuple",data:=.seq (vs++ws).toArray } })
  (hsz:vs.length+ws.length≤sizeLine):wpAny (model prog w) A (binaryOp .Add (.ref t) (.ref b)) Q E s:=by
 by_cases hv:vs=[]
 ·obtain⟨⟨cls,dd,data,sl⟩,ho,hc,n,hd⟩:=id ht
  obtain⟨⟨cls2,dd2,data2,sl2⟩,ho2,hc2,n2,hd2⟩:=id hb
  simp only at hc hd hc2 hd2
  subst hc hd hc2 hd2
  exact concat_meets ⟨_,ho,rfl⟩ ⟨_,ho2,rfl⟩ noFill_tuple_add seq_tuple_add j9 j4 (h9 _ _)
   (tuple_addW0 t b vs.toArray ws.toArray n n2 dd dd2 sl sl2 (by simp[hv])) ⟨ho,ho2,h0 hv⟩
 ·exact y4P ht hb hv (h1 hv) (h2 hv) hsz
end
end HT
namespace L2
open PySem PySem.Spec PyProof.Rows
section
variable{X:Cx}
noncomputable def w1C:R2:=fun x y H Q=>∃a b xs ys,x=.ref a/\y=.ref b/\H a=some (.tup xs)/\H b=some (.tup ys)/\xs.length+ys.length≤sizeLine/\∀p H',B0 H H'->H' p=some (.tup (xs++ys))->Q (.ref p) H'
theorem y4E:OpR X (binaryOp .Add) w1C:=by
 intro pins s σ H x y v u Q I rx ry h
 obtain⟨a,b,xs,ys,rfl,rfl,ha,hb,hz,q⟩:=h
 cases rx
 cases ry
 obtain⟨its,r1,p1,_⟩:=I.tuple (SqT.of ha)
 obtain⟨M0,r2,p2,_⟩:=I.tuple (SqT.of hb)
 refine HT.y6b p1 p2 (fun z=>?_) (fun z0 z=>?_) (fun z0 z=>?_) (by rw[<- r1.length,<- r2.length];exact hz)
 ·refine⟨.ref b,H,I,rfl,q b H (B0.refl _) ?_⟩
  rw[r1.Q7.mp z]
  exact hb
 ·refine⟨.ref a,H,I,rfl,q a H (B0.refl _) ?_⟩
  rw[r2.Q7.mp z,cR]
  exact ha
 ·refine⟨.ref s.heap.objs.size,_,I.laid (t':=s.toks) (o:=.tup (xs++ys)) (fun b ob q=>bA _ q) (bI _) ?_,rfl,q _ _ (fun c o e=>?_) z03⟩
  ·exact⟨by rw[bN];exact hz,_,r1.append r2,PlT.new _ _⟩
  ·rw[z0k (z0r e (I.hok.fresh (bI _)))]
   exact e
noncomputable def rSlB:V->Option Int->Option Int->Hp->VK->Prop:=fun x lo hi H Q=>∃a xs,x=.ref a/\H a=some (.tup xs)/\∀p H',B0 H H'->H' p=some (.tup (N7 xs lo hi))->Q (.ref p) H'
theorem y4Y:SlR X rSlB:=by
 intro pins s σ H x v vl vu lo hi sl Q I rx hs pl pu h
 obtain⟨a,xs,rfl,ha,q⟩:=h
 refine y3E pins s σ H (.ref a) v vl vu lo hi sl Q I rx hs pl pu ⟨a,xs,rfl,SqT.of ha,fun hw=>q a H (B0.refl _) ?_,fun _ p hp=>q p _ (fun c o e=>by rw[z0k (z0r e hp)];exact e) z03⟩
 have e:N7 xs lo hi=xs:=by
  unfold N7
  rw[hw.1,hw.2,fM,hV,bT]
 rw[e]
 exact ha
noncomputable def y7H(K:PySem.W.Frag):V->List V->Hp->VK->Prop:=fun x vs H Q=>∃(l:Addr) (zs:List Str) (z:Str) (j:Nat),x=.ref l/\vs=[.str z]/\SqL K H l (zs.map V.str)/\zs[j]? = some z/\(∀m,m<j->zs[m]? ≠ some z)/\Q (.int (j:Nat)) H
theorem z18(zs:List Str):(zs.map V.str).all z2i=true:=by
 rw[kB,fP]
 intro z _
 rfl
theorem y41:MtM X "list.index" (y7H X.K):=by
 intro pins s σ H x vs v us Q I rx rv h
 obtain⟨l,zs,z,j,rfl,rfl,hL,ej,hno,q⟩:=h
 cases rx
 obtain⟨u,rfl,ru⟩:=rv.one
 have ru0:=ru
 obtain⟨t,rfl⟩:=ru
 obtain⟨its,r,pl,hz⟩:=I.list hL
 have lr:=r.length
 rw[b9] at lr hz
 have hj:=(bV.mp ej).1
 have line:=sizeLine_eq
 have at_:∀(m:Nat) (hm:m<its.toArray.size),eqU (.str z) its.toArray[m]=decide (zs[m]? = some z):=fun m hm=>by
  have hm':m<its.length:=by rw[bJ] at hm;exact hm
  obtain⟨q1,q2⟩:=z70 r (z18 zs) m hm'
  have eu:=y2a (x:=.str z) q1 q2
  have eg:(zs.map V.str).getD m .non=.str (zs[m]'(by lia)):=by
   rw[bK,bC,bD (show m<zs.length by lia)]
   rfl
  rw[eg] at eu
  rw[List.getElem_toArray,eu,bD (show m<zs.length by lia)]
  show(zs[m] == z)=decide (some zs[m]=some z)
  rw[d8,decide_eq_true_eq,beq_iff_eq,Option.some.injEq]
 obtain⟨⟨cls,dd,data,sl⟩,ho,hc,n,hd⟩:=id pl.isList
 simp only at hc hd
 subst hc hd
 have hjs:j<its.toArray.size:=by rw[bJ];lia
 refine call_meets F.slot_list_index ⟨_,ho,rfl⟩ F.entry_list_index (F.args_list_index_2 _ _)
  (SeqAt.list_indexAt l its.toArray n dd sl (.str z t) (eqU (.str z)) j hjs (by lia) (by rw[at_ j hjs];exact decide_eq_true ej) (fun m hm hlt=>by rw[at_ m hm];exact decide_eq_false (hno m hlt)))
  ⟨ho,fun w hw=>z57 ru0 rfl r (z18 zs) w (by simpa using hw),?_⟩
 exact⟨.int j,H,I.tok _,⟨_,rfl⟩,q⟩
noncomputable def y0C:V->Bool
 | .non=>true
 | _=>false
noncomputable def y4G:Value->Bool
 | .none=>true
 | _=>false
noncomputable def y7d(K:PySem.W.Frag):V->List V->Hp->VK->Prop:=fun x vs H Q=>∃(l:Addr) (xs:List V),x=.ref l/\vs=[.non]/\SqL K H l xs/\(∀y∈xs,y=.non\/∃a ys,y=.ref a/\SqT K H a ys)/\Q (.int (xs.countP y0C:Nat)) H
theorem y4Q(A:Around)(s:Shared):SeqAt.EqAt A s .none .none true:=SeqAt.EqAt.same _
theorem y5r(hu:X.A.units+1<cLine):MtM X "list.count" (y7d X.K):=by
 intro pins s σ H x vs v us Q I rx rv h
 obtain⟨l,xs,rfl,rfl,hL,hk,q⟩:=h
 cases rx
 obtain⟨u,rfl,ru⟩:=rv.one
 cases ru
 obtain⟨its,r,pl,hz⟩:=I.list hL
 have all:∀{xs:List V}{us:List Value},Vals xs us->(∀y∈xs,y=.non\/∃a ys,y=.ref a/\SqT X.K H a ys)->us.countP y4G=xs.countP y0C/\∀v∈us,SeqAt.EqAt X.A.in1 s v .none (y4G v):=by
  intro xs us r
  induction r with
  | nil=>exact fun _=>⟨rfl,fun v hv=>(nomatch hv)⟩
  | cons r1 rt ih=>
   intro hk
   obtain⟨i1,i2⟩:=ih fun y hy=>hk y (bZ _ hy)
   rcases hk _ cC with e|⟨a,ys,e,ha⟩
   ·subst e
    cases r1
    refine⟨by rw[fQ,fQ,i1];rfl,fun v hv=>?_⟩
    rcases bE.mp hv with rfl|hv
    ·exact y4Q _ _
    ·exact i2 v hv
   ·subst e
    cases r1
    obtain⟨its3,r3,pl3,hz3⟩:=I.tuple ha
    refine⟨by rw[fQ,fQ,i1];rfl,fun v hv=>?_⟩
    rcases bE.mp hv with rfl|hv
    ·exact SeqAt.EqAt.tuple_none pl3 hu
    ·exact i2 v hv
 obtain⟨a1,a2⟩:=all r hk
 obtain⟨⟨cls,dd,data,sl⟩,ho,hc,n,hd⟩:=id pl.isList
 simp only at hc hd
 subst hc hd
 refine call_meets F.slot_list_count ⟨_,ho,rfl⟩ F.entry_list_count (F.args_list_count_2 _ _) (SeqAt.list_countAt l its.toArray n dd sl .none y4G) ⟨ho,fun w hw=>a2 w (by simpa using hw),?_⟩
 refine⟨.int (xs.countP y0C:Nat),H,I.tok _,?_,q⟩
 rw[<- a1]
 exact⟨_,rfl⟩
end
noncomputable def DfK(K:PySem.W.Frag)(x q:Str)(st:Stmt)(dV:Value)(f:Addr):Prop:=∃(oc:Value) (od:Option Addr) (kV doc pm:Value) (an:Option Addr) (cdv ct:Value) (osl:Array (Option Value)),
 K.lookup f=some ⟨oc,od,.func (PySem.W.fnOf x q (z1H st) (z1w st) (z07 st) dV kV doc pm an cdv ct),osl⟩/\PySem.W.codeIn K cdv q=true/\PySem.W.keepIn K (.ref f)=true
noncomputable def DfT(K:PySem.W.Frag)(x:Str)(st:Stmt)(dV:Value)(f:Addr):Prop:=PySem.W.nsIn K mainGlobals x=some (some (.ref f))/\DfK K x x st dV f
noncomputable def DfM(K:PySem.W.Frag)(C:Addr)(x q:Str)(st:Stmt)(dV:Value)(f:Addr):Prop:=PySem.W.findIn K (.ref C) x=some (some (.ref f))/\PySem.W.isFn K (.ref f)=true/\DfK K x q st dV f
noncomputable def DfD(K:PySem.W.Frag)(T:Addr)(its:Array Value):Prop:=∃oct odt nt slt,K.lookup T=some ⟨oct,odt,.seq its nt,slt⟩
noncomputable def DfC(K:PySem.W.Frag)(x:Str)(C:Addr):Prop:=PySem.W.nsIn K mainGlobals x=some (some (.ref C))/\PySem.W.plainGet K C Str.empty=true/\PySem.W.hasDictIn K C=true/\PySem.W.plainOver K C=true/\PySem.W.findIn K (.ref C) "__setattr__"=some (some (.builtin "object.__setattr__"))/\PySem.W.makesIn K C=true/\PySem.W.keepIn K (.ref C)=true
section
variable{K:PySem.W.Frag}{mg:Str->Option Value}{x q:Str}{st:Stmt}{f C T:Addr}{fd:FuncData}{its:Array Value}
theorem DfK.fn(h:DfK K x q st .none f):∃fd,Fun K x q st f fd:=by
 obtain⟨oc,od,kV,doc,pm,an,cdv,ct,osl,l,c,k⟩:=h
 exact⟨_,y8t l c k⟩
theorem DfK.fnD(h:DfK K x q st (.ref T) f)(d:DfD K T its):∃fd,T5 K x q st f fd T its:=by
 obtain⟨oc,od,kV,doc,pm,an,cdv,ct,osl,l,c,k⟩:=h
 obtain⟨_,_,_,_,d⟩:=d
 exact⟨_,y7i l d c k⟩
theorem z0z{h:Heap}(X:K.In h)(G:h.Ns mainGlobals mg)(a:DfT K x st .none f):∃fd,Fun K x x st f fd/\mg x=some (.ref f):=by
 obtain⟨fd,F⟩:=a.2.fn
 exact⟨fd,F,dF X G a.1⟩
theorem y7G{h:Heap}(X:K.In h)(G:h.Ns mainGlobals mg)(a:DfT K x st (.ref T) f)(d:DfD K T its):∃fd,T5 K x x st f fd T its/\mg x=some (.ref f):=by
 obtain⟨fd,F⟩:=a.2.fnD d
 exact⟨fd,F,dF X G a.1⟩
theorem z1T(a:DfM K C x q st .none f):∃fd,Fun K x q st f fd/\Meth K C x f:=by
 obtain⟨fd,F⟩:=a.2.2.fn
 exact⟨fd,F,a.1,a.2.1,F.kp⟩
theorem y61(a:DfM K C x q st (.ref T) f)(d:DfD K T its):∃fd,T5 K x q st f fd T its/\Meth K C x f:=by
 obtain⟨fd,F⟩:=a.2.2.fnD d
 exact⟨fd,F,a.1,a.2.1,F.kp⟩
theorem y1g{y:Str}(c:DfC K y C)(a:DfM K C "__init__" q st .none f):∃fd,Fun K "__init__" q st f fd/\Mk K C f:=by
 obtain⟨fd,F⟩:=a.2.2.fn
 exact⟨fd,F,c.2.2.2.2.2.1,a.1,a.2.1,c.2.2.2.2.2.2⟩
theorem DfC.cls{y:Str}(c:DfC K y C):Cls K C:=⟨c.2.1,c.2.2.1,c.2.2.2.1,c.2.2.2.2.1⟩
theorem DfC.nm{h:Heap}(X:K.In h)(G:h.Ns mainGlobals mg){y:Str}(c:DfC K y C):mg y=some (.ref C):=dF X G c.1
theorem y5n{p:Str}(F:Fun K x q st f fd)(h:∀kV doc pm an cdv ct v,bindArgs (PySem.W.fnOf x q (z1H st) (z1w st) (z07 st) .none kV doc pm an cdv ct) ⟨[v],[]⟩=pure [(p,v)]:=by intros;rfl):∀(s:Shared) (v:Value),BindsTo s fd ⟨[v],[]⟩ [(p,v)]:=by
 obtain⟨oc,od,kV,doc,pm,an,cdv,ct,osl,rfl,l,c⟩:=F.ex
 exact fun s v=>.of_eq (h _ _ _ _ _ _ _)
theorem b0(F:Fun K x q st f fd)(h:∀kV doc pm an cdv ct,bindArgs (PySem.W.fnOf x q (z1H st) (z1w st) (z07 st) .none kV doc pm an cdv ct) ⟨[],[]⟩=pure (List.zip [] []):=by intros;rfl):z2b K fd [] []:=
 F.binds fun kV doc pm an cdv ct us hl=>len0 (p:=fun us=>bindArgs _ ⟨us,[]⟩=pure (List.zip _ us)) hl (h kV doc pm an cdv ct)
theorem b1{p1:Str}(F:Fun K x q st f fd)(h:∀kV doc pm an cdv ct a,bindArgs (PySem.W.fnOf x q (z1H st) (z1w st) (z07 st) .none kV doc pm an cdv ct) ⟨[a],[]⟩=pure (List.zip [p1] [a]):=by intros;rfl):z2b K fd [p1] []:=
 F.binds fun kV doc pm an cdv ct us hl=>Q5 (p:=fun us=>bindArgs _ ⟨us,[]⟩=pure (List.zip _ us)) hl (h kV doc pm an cdv ct)
theorem b2{p1 p2:Str}(F:Fun K x q st f fd)(h:∀kV doc pm an cdv ct a b,bindArgs (PySem.W.fnOf x q (z1H st) (z1w st) (z07 st) .none kV doc pm an cdv ct) ⟨[a,b],[]⟩=pure (List.zip [p1,p2] [a,b]):=by intros;rfl):z2b K fd [p1,p2] []:=
 F.binds fun kV doc pm an cdv ct us hl=>w04 (p:=fun us=>bindArgs _ ⟨us,[]⟩=pure (List.zip _ us)) hl (h kV doc pm an cdv ct)
theorem b3{p1 p2 p3:Str}(F:Fun K x q st f fd)(h:∀kV doc pm an cdv ct a b c,bindArgs (PySem.W.fnOf x q (z1H st) (z1w st) (z07 st) .none kV doc pm an cdv ct) ⟨[a,b,c],[]⟩=pure (List.zip [p1,p2,p3] [a,b,c]):=by intros;rfl):z2b K fd [p1,p2,p3] []:=
 F.binds fun kV doc pm an cdv ct us hl=>w0n (p:=fun us=>bindArgs _ ⟨us,[]⟩=pure (List.zip _ us)) hl (h kV doc pm an cdv ct)
theorem b4{p1 p2 p3 p4:Str}(F:Fun K x q st f fd)(h:∀kV doc pm an cdv ct a b c d,bindArgs (PySem.W.fnOf x q (z1H st) (z1w st) (z07 st) .none kV doc pm an cdv ct) ⟨[a,b,c,d],[]⟩=pure (List.zip [p1,p2,p3,p4] [a,b,c,d]):=by intros;rfl):z2b K fd [p1,p2,p3,p4] []:=
 F.binds fun kV doc pm an cdv ct us hl=>len4 (p:=fun us=>bindArgs _ ⟨us,[]⟩=pure (List.zip _ us)) hl (h kV doc pm an cdv ct)
theorem b5{p1 p2 p3 p4 p5:Str}(F:Fun K x q st f fd)(h:∀kV doc pm an cdv ct a b c d e,bindArgs (PySem.W.fnOf x q (z1H st) (z1w st) (z07 st) .none kV doc pm an cdv ct) ⟨[a,b,c,d,e],[]⟩=pure (List.zip [p1,p2,p3,p4,p5] [a,b,c,d,e]):=by intros;rfl):z2b K fd [p1,p2,p3,p4,p5] []:=
 F.binds fun kV doc pm an cdv ct us hl=>len5 (p:=fun us=>bindArgs _ ⟨us,[]⟩=pure (List.zip _ us)) hl (h kV doc pm an cdv ct)
theorem b6{p1 p2 p3 p4 p5 p6:Str}(F:Fun K x q st f fd)(h:∀kV doc pm an cdv ct a b c d e g,bindArgs (PySem.W.fnOf x q (z1H st) (z1w st) (z07 st) .none kV doc pm an cdv ct) ⟨[a,b,c,d,e,g],[]⟩=pure (List.zip [p1,p2,p3,p4,p5,p6] [a,b,c,d,e,g]):=by intros;rfl):z2b K fd [p1,p2,p3,p4,p5,p6] []:=
 F.binds fun kV doc pm an cdv ct us hl=>len6 (p:=fun us=>bindArgs _ ⟨us,[]⟩=pure (List.zip _ us)) hl (h kV doc pm an cdv ct)
theorem b7{p1 p2 p3 p4 p5 p6 p7:Str}(F:Fun K x q st f fd)(h:∀kV doc pm an cdv ct a b c d e g i,bindArgs (PySem.W.fnOf x q (z1H st) (z1w st) (z07 st) .none kV doc pm an cdv ct) ⟨[a,b,c,d,e,g,i],[]⟩=pure (List.zip [p1,p2,p3,p4,p5,p6,p7] [a,b,c,d,e,g,i]):=by intros;rfl):z2b K fd [p1,p2,p3,p4,p5,p6,p7] []:=
 F.binds fun kV doc pm an cdv ct us hl=>len7 (p:=fun us=>bindArgs _ ⟨us,[]⟩=pure (List.zip _ us)) hl (h kV doc pm an cdv ct)
end
theorem calF(P:Program)(w:World)(K:PySem.W.Frag)(mg:Str->Option Value)(base:Heap){k:Nat}{x:Str}{ps:List Str}{sp:Sp}{st:Stmt}{f:Addr}{fd:FuncData}(F:Fun K x x st f fd/\mg x=some (.ref f))(a:B4 P w K mg base CX0 k f fd ps sp)(b:z2b K fd ps []):Cal P w K mg base k x ps sp:=.mk' a b F.1.kp F.2
theorem mclF(P:Program)(w:World)(K:PySem.W.Frag)(mg:Str->Option Value)(base:Heap){k:Nat}{C:Addr}{x q:Str}{ps:List Str}{sp:Sp}{st:Stmt}{f:Addr}{fd:FuncData}(c:Cls K C)(F:Fun K x q st f fd/\Meth K C x f)(a:B4 P w K mg base CX0 k f fd ps sp)(b:z2b K fd ps []):D9 P w K mg base k C x ps sp:=.mk' c a b F.2
theorem mkrF(P:Program)(w:World)(K:PySem.W.Frag)(mg:Str->Option Value)(base:Heap){k:Nat}{C:Addr}{x y q:Str}{ps:List Str}{sp:Sp}{st:Stmt}{f:Addr}{fd:FuncData}(c:mg x=some (.ref C))(F:Fun K y q st f fd/\Mk K C f)(a:B4 P w K mg base CX0 k f fd ps sp)(b:z2b K fd ps []):Mkr P w K mg base k C x ps sp:=.mk' a b F.2 c
theorem scp{N P:List Str}{sc:Scope}(h1:sc.kind=.function:=by rfl)(h2:sc.isCoroutine=false:=by rfl)(h3:sc.isGenerator=false:=by rfl)(h4:N.Nodup:=by decide +kernel)(h5:N.take P.length=P:=by rfl)
  (h6:∀x∈P,sc.names.lookup x=some .local\/sc.names.lookup x=some .cell:=by decide +kernel) (h7:∀y∈sc.names,y.2≠.free:=by decide +kernel):A9 N P sc:=⟨h1,h2,h3,h4,h5,h6,h7⟩
theorem rm{j k:Nat}{A:Around}(r:E6 k A)(h:j≤k:=by lia):E6 j A:=r.mono h
theorem Cal.up{P:Program}{w:World}{K:PySem.W.Frag}{mg:Str->Option Value}{base:Heap}{j k:Nat}{x:Str}{ps:List Str}{sp:Sp}(G:Cal P w K mg base j x ps sp)(h:j≤k:=by decide):Cal P w K mg base k x ps sp:=G.mono h
theorem S6.up{P:Program}{w:World}{K:PySem.W.Frag}{mg:Str->Option Value}{base:Heap}{j k:Nat}{x:Str}{ps:List Str}{sp:Sp}{d:List V}(G:S6 P w K mg base j x ps sp d)(h:j≤k:=by decide):S6 P w K mg base k x ps sp d:=G.mono h
theorem D9.up{P:Program}{w:World}{K:PySem.W.Frag}{mg:Str->Option Value}{base:Heap}{j k:Nat}{C:Addr}{x:Str}{ps:List Str}{sp:Sp}(G:D9 P w K mg base j C x ps sp)(h:j≤k:=by decide):D9 P w K mg base k C x ps sp:=G.mono h
theorem O2.up{P:Program}{w:World}{K:PySem.W.Frag}{mg:Str->Option Value}{base:Heap}{j k:Nat}{C:Addr}{x:Str}{ps:List Str}{sp:Sp}{d:List V}(G:O2 P w K mg base j C x ps sp d)(h:j≤k:=by decide):O2 P w K mg base k C x ps sp d:=G.mono h
theorem Mkr.up{P:Program}{w:World}{K:PySem.W.Frag}{mg:Str->Option Value}{base:Heap}{j k:Nat}{C:Addr}{x:Str}{ps:List Str}{sp:Sp}(G:Mkr P w K mg base j C x ps sp)(h:j≤k:=by decide):Mkr P w K mg base k C x ps sp:=G.mono h
section
variable{X:Cx}{mg:Str->Option Value}
theorem le2:2≤sizeLine:=by decide
end
end L2
namespace HT
open PySem PySem.Spec PyProof.Rows L2
section
variable{prog:Program}{w:World}{A:Around}{E:Value->Shared->Prop}{s:Shared}
theorem y3w{J t:Addr}{k:Nat}{ts:Array Value}{v:Value}{Q:Value->Shared->Prop}(hJ:s.heap.IsTupleIter J t k)(hT:s.heap.IsTuple t ts)(hv:ts[k]? = some v)
  (q:∀g,g.IsTupleIter J t (k+1)->Heap.SameBut J s.heap g->Q v { s with heap:=g }):wpAny (model prog w) A (Builtin.SmallTypes.nextOf (.ref J)) Q E s:=by
 obtain⟨oj,gj,cj,dj⟩:=id hJ
 obtain⟨ot,gt,_,nt,dt⟩:=hT
 unfold Builtin.SmallTypes.nextOf
 refine wpAny_bind (wpAny_callSpecial?_slot (name:=Str.ofString "__next__") hJ.typeIs fE (wpAny_call_entry fE hJ.typeIs F.entry_tuple_iterator_next ?_ (F.args_tuple_iterator_next_1 _)))
 show wpAny _ _ (field (.ref J) 0 >>= _) _ _ s
 refine wpAny_bind (wpAny_field gj dj (x:=.ref t) rfl ?_)
 show wpAny _ _ (if (Value.ref t == .none)=true then _ else _) _ _ s
 rw[if_neg (show ¬(Value.ref t == .none)=true from bM)]
 show wpAny _ _ (field (.ref J) 1 >>= _) _ _ s
 refine wpAny_bind (wpAny_field gj dj (x:=.int k 0) rfl ?_)
 show wpAny _ _ (seqItems? (.ref t) >>= _) _ _ s
 refine wpAny_bind (wpAny_seqItems gt dt ?_)
 simp only[fF,hv]
 refine wpAny_bind (wpAny_setField gj dj (by simp) (wpAny_pure ⟨v,rfl,wpAny_pure (q _ ⟨_,dQ _ gj (Obj.isFreed_of_fields (Obj.data_mapFields dj _)),(Obj.cls_mapFields ..).trans cj,?_⟩ (fU ..))⟩))
 rw[Obj.data_mapFields dj]
 simp[rawInt]
theorem y8E{J t:Addr}{k:Nat}{ts:Array Value}{Q:Value->Shared->Prop}(nh:A.handled=none)(hJ:s.heap.IsTupleIter J t k)(hT:s.heap.IsTuple t ts)(hv:ts[k]? = none)
  (q:∀g e,Heap.ExtBut J s.heap g->(∃o,g.get? e=some o/\o.cls=.type "StopIteration")->E (.ref e) { s with heap:=g }):wpAny (model prog w) A (Builtin.SmallTypes.nextOf (.ref J)) Q E s:=by
 obtain⟨oj,gj,cj,dj⟩:=id hJ
 obtain⟨ot,gt,_,nt,dt⟩:=hT
 unfold Builtin.SmallTypes.nextOf
 refine wpAny_bind (wpAny_callSpecial?_slot (name:=Str.ofString "__next__") hJ.typeIs fE (wpAny_call_entry fE hJ.typeIs F.entry_tuple_iterator_next ?_ (F.args_tuple_iterator_next_1 _)))
 show wpAny _ _ (field (.ref J) 0 >>= _) _ _ s
 refine wpAny_bind (wpAny_field gj dj (x:=.ref t) rfl ?_)
 show wpAny _ _ (if (Value.ref t == .none)=true then _ else _) _ _ s
 rw[if_neg (show ¬(Value.ref t == .none)=true from bM)]
 show wpAny _ _ (field (.ref J) 1 >>= _) _ _ s
 refine wpAny_bind (wpAny_field gj dj (x:=.int k 0) rfl ?_)
 show wpAny _ _ (seqItems? (.ref t) >>= _) _ _ s
 refine wpAny_bind (wpAny_seqItems gt dt ?_)
 simp only[fF,hv]
 refine wpAny_bind (wpAny_rule (wpAny_bind (wpAny_setField gj dj (by simp) ?_)))
 show wpAny _ _ (newExc (.type "StopIteration") [] >>= _) _ _ _
 refine wpAny_bind ?_
 simp only[newExc,newTuple]
 refine wpAny_bind (wpAny_newObj_type ?_ (by size_fits))
 refine wpAny_bind (m:=firstArgMember _ _) (wpAny_of_eq (a:=Value.none) (by first|rfl|(simp only[firstArgMember];rfl)) ?_)
 refine wpAny_newObj_type ?_ (by size_fits)
 simp only[raiseNew]
 refine wpAny_bind (wpAny_handled ?_)
 first|rw[show A.in1.handled=none from nh]|rw[nh]
 exact wpAny_bind (wpAny_pure (wpAny_throw (q _ _ (((fU ..).extBut.push _).push _) ⟨_,bL _ rfl,rfl⟩)))
structure ZA(z I O j1 j2 t1 t2:Addr):Prop where
 Iz:I≠z
 Oz:O≠z
 j1z:j1≠z
 j2z:j2≠z
 IO:I≠O
 Ij1:I≠j1
 Ij2:I≠j2
 Oj1:O≠j1
 Oj2:O≠j2
 jj:j1≠j2
 t1z:t1≠z
 t1O:t1≠O
 t1j1:t1≠j1
 t1j2:t1≠j2
 t2z:t2≠z
 t2O:t2≠O
 t2j1:t2≠j1
 t2j2:t2≠j2
abbrev Y5(h:Heap)(a t:Addr)(i:Nat):Prop:=h.IsTupleIter a t i
theorem Y5.at{h g:Heap}{a t:Addr}{i:Nat}(x:h.IsTupleIter a t i)(k:∀o,h.get? a=some o->g.get? a=some o):g.IsTupleIter a t i:=by
 obtain⟨o,e,r⟩:=x
 exact⟨o,k o e,r⟩
theorem y7q{z I O j1 j2 t1 t2:Addr}{k:Nat}{xs ys:Array Value}{x y a b:Value}{Q:Value->Shared->Prop}(D:ZA z I O j1 j2 t1 t2)
  (gz:IsZip s.heap z I O .none) (gI:IsPair s.heap I (.ref j1) (.ref j2)) (gO:IsPair s.heap O a b) (g1:s.heap.IsTupleIter j1 t1 k) (g2:s.heap.IsTupleIter j2 t2 k) (u1:s.heap.IsTuple t1 xs) (u2:s.heap.IsTuple t2 ys) (hx:xs[k]? = some x) (hy:ys[k]? = some y)
  (q:∀g,IsZip g z I O (rawInt s.heap.objs.size)->IsPair g O x y->g.IsTupleIter j1 t1 (k+1)->g.IsTupleIter j2 t2 (k+1)->IsPair g s.heap.objs.size x y->g.objs.size=s.heap.objs.size+1->
   (∀c o,c≠z->c≠O->c≠j1->c≠j2->s.heap.get? c=some o->g.get? c=some o)->Q (.ref s.heap.objs.size) { s with heap:=g }) :
  wpAny (model prog w) A (Builtin.«zip.__next__» ⟨[.ref z],[]⟩) (fun fin s'=>∃v,fin=.done (.ret v)/\Q v s') E s:=by
 show wpAny _ _ (field (.ref z) 2 >>= _) _ _ _
 refine wpAny_bind (wpAny_field gz rfl (x:=.bool false) rfl ?_)
 show wpAny _ _ (field (.ref z) 3 >>= _) _ _ _
 refine wpAny_bind (wpAny_field gz rfl (x:=.ref I) rfl ?_)
 refine wpAny_bind (wpAny_seqItems gI rfl ?_)
 show wpAny _ _ (Builtin.SmallTypes.ownedTupleIsFree (.ref z) >>= _) _ _ _
 refine wpAny_bind ?_
 unfold Builtin.SmallTypes.ownedTupleIsFree
 refine wpAny_bind (wpAny_field gz rfl (x:=.none) rfl (wpAny_pure ?_))
 simp only[if_true]
 refine wpAny_bind (wpAny_rule ?_)
 refine wpAny_bind (wpAny_field gz rfl (x:=.ref O) rfl ?_)
 refine wpAny_bind (wpAny_setField_rec gz (by simp) fun A1 a1 b1=>?_)
 replace a1:IsZip A1 z I O .ellipsis:=a1
 refine wpAny_bind ?_
 simp only[List.zipIdx_cons,List.zipIdx_nil,List.forIn_cons,List.forIn_nil]
 refine wpAny_bind (wpAny_bind (wpAny_onRaise ?_))
 show wpAny _ _ (Builtin.SmallTypes.nextOf (.ref j1) >>= _) _ _ _
 refine wpAny_bind (y3w (g1.extBut b1.extBut D.j1z) (u1.extBut b1.extBut D.t1z) hx fun A2 a2 b2=>wpAny_pure ?_)
 have o2:IsPair A2 O a b:=b2.extBut _ _ D.Oj1 (b1.extBut _ _ D.Oz gO)
 refine wpAny_bind (wpAny_seqItems o2 rfl ?_)
 refine wpAny_bind (wpAny_updateSeq_pair o2 fun A3 o3 b3=>?_)
 replace o3:IsPair A3 O x b:=o3
 refine wpAny_bind (wpAny_letGo (wpAny_pure ?_))
 refine wpAny_bind (wpAny_bind (wpAny_onRaise ?_))
 show wpAny _ _ (Builtin.SmallTypes.nextOf (.ref j2) >>= _) _ _ _
 refine wpAny_bind (y3w (((g2.extBut b1.extBut D.j2z).extBut b2.extBut D.jj.symm).extBut b3.extBut D.Oj2.symm) (((u2.extBut b1.extBut D.t2z).extBut b2.extBut D.t2j1).extBut b3.extBut D.t2O) hy fun A4 a4 b4=>wpAny_pure ?_)
 have o4:IsPair A4 O x b:=b4.extBut _ _ D.Oj2 o3
 refine wpAny_bind (wpAny_seqItems o4 rfl ?_)
 refine wpAny_bind (wpAny_updateSeq_pair o4 fun A5 o5 b5=>?_)
 replace o5:IsPair A5 O x y:=o5
 refine wpAny_bind (wpAny_letGo (wpAny_pure (wpAny_pure ?_)))
 refine wpAny_bind (wpAny_seqItems o5 rfl ?_)
 refine wpAny_bind (wpAny_newTuple ?_)
 have hsz:A5.objs.size=s.heap.objs.size:=by rw[b5.1,b4.1,b3.1,b2.1,b1.1]
 have z5:IsZip A5 z I O .ellipsis:=b5.extBut _ _ D.Oz.symm (b4.extBut _ _ D.j2z.symm (b3.extBut _ _ D.Oz.symm (b2.extBut _ _ D.j1z.symm a1)))
 have k5:∀c o,c≠z->c≠O->c≠j1->c≠j2->s.heap.get? c=some o->A5.get? c=some o:=fun c o c1 c2 c3 c4 e=>b5.extBut _ _ c2 (b4.extBut _ _ c4 (b3.extBut _ _ c2 (b2.extBut _ _ c3 (b1.extBut _ _ c1 e))))
 have e1:A5.IsTupleIter j1 t1 (k+1):=((a2.extBut b3.extBut D.Oj1.symm).extBut b4.extBut D.jj).extBut b5.extBut D.Oj1.symm
 have e2:A5.IsTupleIter j2 t2 (k+1):=a4.extBut b5.extBut D.Oj2.symm
 have lz:z<A5.objs.size:=bQ z5
 show wpAny _ _ (Builtin.SmallTypes.ownedTupleHandOut (.ref z) (.ref A5.objs.size) >>= _) _ _ _
 refine wpAny_bind ?_
 unfold Builtin.SmallTypes.ownedTupleHandOut
 have z6:IsZip (A5.push { cls:=.type "tuple",data:=.seq #[x,y] }) z I O .ellipsis:=bA _ z5
 refine wpAny_bind (wpAny_setField_rec z6 (by simp) fun A7 z7 b7=>?_)
 replace z7:IsZip A7 z I O (rawInt A5.objs.size):=z7
 refine wpAny_setField_rec z7 (by simp) fun A8 z8 b8=>?_
 replace z8:IsZip A8 z I O (rawInt A5.objs.size):=z8
 have up:∀c o,c≠z->A5.get? c=some o->A8.get? c=some o:=fun c o c1 e=>b8.extBut _ _ c1 (b7.extBut _ _ c1 (bA _ e))
 have r8:IsPair A8 A5.objs.size x y:=b8.extBut _ _ (eU lz) (b7.extBut _ _ (eU lz) (bL _ rfl))
 have s8:A8.objs.size=A5.objs.size+1:=by rw[b8.1,b7.1,dY]
 rw[hsz] at z8 r8 s8
 refine wpAny_pure ⟨_,rfl,?_⟩
 show Q (.ref A5.objs.size) _
 rw[hsz]
 exact q A8 z8 (up _ _ D.Oz o5) (Y5.at e1 fun o e=>up _ o D.j1z e) (Y5.at e2 fun o e=>up _ o D.j2z e) r8 s8 fun c o c1 c2 c3 c4 e=>up c o c1 (k5 c o c1 c2 c3 c4 e)
theorem y8G{z I O j1 j2 t1 t2:Addr}{k:Nat}{xs:Array Value}{Q:Fin->Shared->Prop}(nh:A.handled=none)(D:ZA z I O j1 j2 t1 t2)
  (gz:IsZip s.heap z I O .none) (gI:IsPair s.heap I (.ref j1) (.ref j2)) (g1:s.heap.IsTupleIter j1 t1 k) (u1:s.heap.IsTuple t1 xs) (hx:xs[k]? = none)
  (q:∀g e,(∀c o,c≠z->c≠j1->s.heap.get? c=some o->g.get? c=some o)->(∃o,g.get? e=some o/\o.cls=.type "StopIteration")->E (.ref e) { s with heap:=g }) :
  wpAny (model prog w) A (Builtin.«zip.__next__» ⟨[.ref z],[]⟩) Q E s:=by
 show wpAny _ _ (field (.ref z) 2 >>= _) _ _ _
 refine wpAny_bind (wpAny_field gz rfl (x:=.bool false) rfl ?_)
 show wpAny _ _ (field (.ref z) 3 >>= _) _ _ _
 refine wpAny_bind (wpAny_field gz rfl (x:=.ref I) rfl ?_)
 refine wpAny_bind (wpAny_seqItems gI rfl ?_)
 show wpAny _ _ (Builtin.SmallTypes.ownedTupleIsFree (.ref z) >>= _) _ _ _
 refine wpAny_bind ?_
 unfold Builtin.SmallTypes.ownedTupleIsFree
 refine wpAny_bind (wpAny_field gz rfl (x:=.none) rfl (wpAny_pure ?_))
 simp only[if_true]
 refine wpAny_bind (wpAny_rule ?_)
 refine wpAny_bind (wpAny_field gz rfl (x:=.ref O) rfl ?_)
 refine wpAny_bind (wpAny_setField_rec gz (by simp) fun A1 a1 b1=>?_)
 replace a1:IsZip A1 z I O .ellipsis:=a1
 refine wpAny_bind ?_
 simp only[List.zipIdx_cons,List.zipIdx_nil,List.forIn_cons,List.forIn_nil]
 refine wpAny_bind (wpAny_bind (wpAny_onRaise ?_))
 show wpAny _ _ (Builtin.SmallTypes.nextOf (.ref j1) >>= _) _ _ _
 refine wpAny_bind (y8E nh (g1.extBut b1.extBut D.j1z) (u1.extBut b1.extBut D.t1z) hx fun A2 e b2 he=>?_)
 obtain⟨oe,ge,ce⟩:=he
 have z2:IsZip A2 z I O .ellipsis:=b2 _ _ D.j1z.symm a1
 have ne:e≠z:=fun x=>by subst x;rw[z2] at ge;cases ge;simp at ce
 exact wpAny_setField_rec z2 (by simp) fun A3 _ b3=>q A3 e (fun c o c1 c3 x=>b3.extBut _ _ c1 (b2 _ _ c3 (b1.extBut _ _ c1 x))) ⟨oe,b3.extBut _ _ ne ge,ce⟩
theorem y7R{z I O j1 j2 t1 t2:Addr}{k:Nat}{xs ys:Array Value}{x y a b:Value}{Q:Option Value->Shared->Prop}(D:ZA z I O j1 j2 t1 t2)
  (gz:IsZip s.heap z I O .none) (gI:IsPair s.heap I (.ref j1) (.ref j2)) (gO:IsPair s.heap O a b) (g1:s.heap.IsTupleIter j1 t1 k) (g2:s.heap.IsTupleIter j2 t2 k) (u1:s.heap.IsTuple t1 xs) (u2:s.heap.IsTuple t2 ys) (hx:xs[k]? = some x) (hy:ys[k]? = some y)
  (q:∀g,IsZip g z I O (rawInt s.heap.objs.size)->IsPair g O x y->g.IsTupleIter j1 t1 (k+1)->g.IsTupleIter j2 t2 (k+1)->IsPair g s.heap.objs.size x y->g.objs.size=s.heap.objs.size+1->
   (∀c o,c≠z->c≠O->c≠j1->c≠j2->s.heap.get? c=some o->g.get? c=some o)->Q (some (.ref s.heap.objs.size)) { s with heap:=g }):wpAny (model prog w) A (pyNext (.ref z)) Q E s:=by
 have ty:s.TypeIs (.ref z) "zip":=⟨_,gz,rfl⟩
 unfold pyNext
 exact wpAny_bind (wpAny_attempt (wpAny_callSpecial?_slot (name:=Str.ofString "__next__") ty jP (wpAny_call_entry jP ty F.entry_zip_next
  (y7q D gz gI gO g1 g2 u1 u2 hx hy fun g p1 p2 p3 p4 p5 p6 p7=>wpAny_pure (q g p1 p2 p3 p4 p5 p6 p7)) (F.args_zip_next_1 _))))
theorem y8U{z I O j1 j2 t1 t2:Addr}{k:Nat}{xs:Array Value}{Q:Option Value->Shared->Prop}(nh:A.handled=none)(D:ZA z I O j1 j2 t1 t2)
  (gz:IsZip s.heap z I O .none) (gI:IsPair s.heap I (.ref j1) (.ref j2)) (g1:s.heap.IsTupleIter j1 t1 k) (u1:s.heap.IsTuple t1 xs) (hx:xs[k]? = none)
  (q:∀g,(∀c o,c≠z->c≠j1->s.heap.get? c=some o->g.get? c=some o)->Q none { s with heap:=g }):wpAny (model prog w) A (pyNext (.ref z)) Q E s:=by
 have ty:s.TypeIs (.ref z) "zip":=⟨_,gz,rfl⟩
 unfold pyNext
 refine wpAny_bind (wpAny_attempt (wpAny_callSpecial?_slot (name:=Str.ofString "__next__") ty jP (wpAny_call_entry jP ty F.entry_zip_next (y8G nh D gz gI g1 u1 hx fun g e hk he=>?_) (F.args_zip_next_1 _))))
 obtain⟨o,go,co⟩:=he
 exact wpAny_bind (wpAny_isInstance (T:="StopIteration") (b:=true) ⟨o,go,co⟩ isSubtype_stop (wpAny_pure (q _ hk)))
abbrev zq1(h:Heap)(t1:Addr):Heap:=h.push { cls:=.type "tuple_iterator",data:=.fields #[.ref t1,.int 0 0] }
abbrev zq2(h:Heap)(t1 t2:Addr):Heap:=(zq1 h t1).push { cls:=.type "tuple_iterator",data:=.fields #[.ref t2,.int 0 0] }
abbrev zq3(h:Heap)(t1 t2:Addr):Heap:=(zq2 h t1 t2).push { cls:=.type "tuple",data:=.seq #[.ref h.objs.size,.ref (zq1 h t1).objs.size] }
abbrev zq4(h:Heap)(t1 t2:Addr):Heap:=(zq3 h t1 t2).push { cls:=.type "tuple",data:=.seq #[.none,.none] }
abbrev zq5(h:Heap)(t1 t2:Addr):Heap:=(zq4 h t1 t2).push { cls:=.type "zip",data:=.fields #[.none,.bool false,.bool false,.ref (zq2 h t1 t2).objs.size,.ref (zq3 h t1 t2).objs.size] }
theorem y2W(t1 t2:Addr)(xs ys:Array Value):Meets (Builtin.«zip.__new__» ⟨[.type "zip",.ref t1,.ref t2],[]⟩) (fun _ R s=>s.heap.IsTuple t1 xs/\s.heap.IsTuple t2 ys/\R (.ok (.ret (.ref (zq4 s.heap t1 t2).objs.size))) { s with heap:=zq5 s.heap t1 t2 }):=
 .of_wp fun prog w A R s h=>by
  obtain⟨hp,g,d,tk,os⟩:=s
  obtain⟨u1,u2,h⟩:=h
  have hsub:=sub_zip
  have v1:Heap.IsTuple (Shared.heap ⟨hp,g,d,tk,os⟩) t1 xs:=u1
  have v2:Heap.IsTuple (Shared.heap ⟨hp.push { cls:=.type "tuple_iterator",data:=.fields #[.ref t1,.int 0 0] },g,d,tk,os⟩) t2 ys:=Heap.IsTuple.push u2 _
  wp_walk using wpAny_pyIter_tuple v1,wpAny_pyIter_tuple v2
  exact⟨_,rfl,h⟩
theorem y4k{t1 t2:Addr}{xs ys:Array Value}{Q:Value->Shared->Prop}(u1:s.heap.IsTuple t1 xs)(u2:s.heap.IsTuple t2 ys)
  (h:∀g,IsZip g (s.heap.objs.size+4) (s.heap.objs.size+2) (s.heap.objs.size+3) .none->IsPair g (s.heap.objs.size+2) (.ref s.heap.objs.size) (.ref (s.heap.objs.size+1))->IsPair g (s.heap.objs.size+3) .none .none->g.IsTupleIter s.heap.objs.size t1 0->
   g.IsTupleIter (s.heap.objs.size+1) t2 0->(∀c o,s.heap.get? c=some o->g.get? c=some o)->Q (.ref (s.heap.objs.size+4)) { s with heap:=g }):wpAny (model prog w) A (call (.type "zip") [.ref t1,.ref t2]) Q E s:=by
 refine callType_new F.called_zip (by decide) (F.typeCall_zip_2 _ _) (F.newCall_zip_2 _ _) (fun obj=>F.args_object_init_3 obj _ _) F.entry_zip_new (y2W t1 t2 xs ys) ⟨u1,u2,?_⟩
 have n1:(zq1 s.heap t1).objs.size=s.heap.objs.size+1:=dY ..
 have n2:(zq2 s.heap t1 t2).objs.size=s.heap.objs.size+2:=by rw[dY,n1]
 have n3:(zq3 s.heap t1 t2).objs.size=s.heap.objs.size+3:=by rw[dY,n2]
 have n4:(zq4 s.heap t1 t2).objs.size=s.heap.objs.size+4:=by rw[dY,n3]
 have k5:(zq5 s.heap t1 t2).get? (zq4 s.heap t1 t2).objs.size=some _:=bL _ rfl
 have k4:(zq5 s.heap t1 t2).get? (zq3 s.heap t1 t2).objs.size=some _:=bA _ (bL _ rfl)
 have k3:(zq5 s.heap t1 t2).get? (zq2 s.heap t1 t2).objs.size=some _:=bA _ (bA _ (bL _ rfl))
 have k2:(zq5 s.heap t1 t2).get? (zq1 s.heap t1).objs.size=some _:=bA _ (bA _ (bA _ (bL _ rfl)))
 have k1:(zq5 s.heap t1 t2).get? s.heap.objs.size=some _:=bA _ (bA _ (bA _ (bA _ (bL _ rfl))))
 show _/\_
 rw[n2,n3,n4] at k5
 rw[n1,n2] at k3
 rw[n3] at k4
 rw[n1] at k2
 rw[n4]
 exact⟨⟨_,k5,rfl⟩,h _ k5 k3 k4 ⟨_,k1,rfl,rfl⟩ ⟨_,k2,rfl,rfl⟩ fun c o x=>bA _ (bA _ (bA _ (bA _ (bA _ x))))⟩
theorem y8o{n t1 t2:Nat}(h1:t1<n)(h2:t2<n):ZA (n+4) (n+2) (n+3) n (n+1) t1 t2:=
 have l {a b:Nat} (h:a<b):a≠b:=cJ h
 have g {a b:Nat} (h:b<a):a≠b:=eU h
 ⟨l (by lia),l (by lia),l (by lia),l (by lia),l (by lia),g (by lia),g (by lia),g (by lia),g (by lia),l (by lia),l (by lia),l (by lia),l (by lia),l (by lia),l (by lia),l (by lia),l (by lia),l (by lia)⟩
end
end HT
namespace L2
open PySem PySem.Spec PyProof.Rows
theorem Inv.w1Y{X:Cx}{pins:List (Addr×Obj)}{σ:St}{H:Hp}{s:Shared}{h':Heap}{fp:List Addr}{T:Addr}{o:HO}{t':Nat}(I:Inv X pins σ H s)(hf:∀b∈fp,Q6 X pins H b)
  (k:∀b u,b∉fp->s.heap.get? b=some u->h'.get? b=some u) (hp:s.heap.objs.size≤T) (new:z1C X.prog X.w (upd H T o) h' T o):Inv X pins σ (upd H T o) { s with heap:=h',toks:=t' }:=by
 have hn:=I.hok.fresh hp
 refine I.step (g':=s.gens) (d':=s.drawn) (ch:=fp) (fun b hb=>⟨(hf b hb).2.2.2.1,(hf b hb).2.1,(hf b hb).2.2.2.2.1,(hf b hb).2.2.2.2.2⟩) (fun b o _ _ hc e _=>k b o hc e) (fun b o _ _ hc e _=>⟨o.slots,k b o hc e⟩)
  (fun b o _ e n=>by rw[z0k (cJ (cU (bQ e) hp))];exact n) (fun b o hc e=>⟨o,k b o hc e⟩) (fun b xs e=>by rw[z0k (z0r e hn)];exact e) (fun b o u e=>by rw[z0k (z0r e hn)];exact e)
  (fun b ps e=>⟨#[],by rw[z0k (z0r e hn),e];simp⟩) (fun m hm=>?_) (fun b u e=>?_) I.bare
 ·obtain⟨o,es,ep,ho,r⟩:=hm
  exact⟨o,es,ep,k _ o (fun m=>(hf _ m).2.1 rfl) ho,r⟩
 ·by_cases hb:b=T
  ·subst hb
   rw[z03] at e
   cases e
   exact new
  ·rw[z0k hb] at e
   refine(I.hok b u e).U8 (fun c v hc q=>k c v (fun m=>?_) q) (fun c q=>by rw[z0k (z0r q hn)];exact q) fun c xs q=>by rw[z0k (z0r q hn)];exact q
   have z:=(hf c m).1
   rcases hc with e2|e2
   ·rw[e2,e] at z
    cases z
   ·rw[e2] at z
    cases z
theorem Inv.w0O{X:Cx}{pins:List (Addr×Obj)}{σ:St}{H:Hp}{s:Shared}{h':Heap}{fp:List Addr}{t':Nat}(I:Inv X pins σ H s)(hf:∀b∈fp,Q6 X pins H b)
  (k:∀b u,b∉fp->s.heap.get? b=some u->h'.get? b=some u):Inv X pins σ H { s with heap:=h',toks:=t' }:=by
 refine I.step (g':=s.gens) (d':=s.drawn) (ch:=fp) (fun b hb=>⟨(hf b hb).2.2.2.1,(hf b hb).2.1,(hf b hb).2.2.2.2.1,(hf b hb).2.2.2.2.2⟩) (fun b o _ _ hc e _=>k b o hc e) (fun b o _ _ hc e _=>⟨o.slots,k b o hc e⟩)
  (fun _ _ _ _ n=>n) (fun b o hc e=>⟨o,k b o hc e⟩) (fun _ _ e=>e) (fun _ _ _ e=>e) (fun b ps e=>⟨#[],by rw[e];simp⟩) (fun m hm=>?_) (fun b u e=>?_) I.bare
 ·obtain⟨o,es,ep,ho,r⟩:=hm
  exact⟨o,es,ep,k _ o (fun m=>(hf _ m).2.1 rfl) ho,r⟩
 ·refine(I.hok b u e).U8 (fun c v hc q=>k c v (fun m=>?_) q) (fun _ q=>q) fun _ _ q=>q
  have z:=(hf c m).1
  rcases hc with e2|e2
  ·rw[e2,e] at z
   cases z
  ·rw[e2] at z
   cases z
noncomputable def Itz(K:PySem.W.Frag)(a b:Addr)(n:Nat):It:=
 ⟨fun i H=>i<n/\∃xs ys,SqT K H a xs/\SqT K H b ys/\xs.length=n/\ys.length=n,
  fun i H v H'=>∃T,v=.ref T/\H T=none/\∀xs ys,SqT K H a xs->SqT K H b ys->∃x y,xs[i]? = some x/\ys[i]? = some y/\H'=upd H T (.tup [x,y]),
  fun i H=>n≤i/\∃xs,SqT K H a xs/\xs.length=n⟩
noncomputable def ZSt(z J O j1 j2 a b:Addr)(i:Nat)(h:Heap):Prop:=IsZip h z J O .none/\IsPair h J (.ref j1) (.ref j2)/\(∃u v,IsPair h O u v)/\h.IsTupleIter j1 a i/\h.IsTupleIter j2 b i
theorem y63{P:Program}{w:World}{K:PySem.W.Frag}{es:List Expr}{ec:Nat}{tp:Pos}{z J O j1 j2 a b:Addr}(D:HT.ZA z J O j1 j2 a b)(n:Nat):Turn P w K (.Tuple es ec tp) (Itz K a b n) [z,J,O,j1,j2] z (ZSt z J O j1 j2 a b) where
 mem:=by simp
 obj:=fun i h st c hc=>by
  obtain⟨g1,g2,⟨u,v,g3⟩,⟨o4,g4,_,d4⟩,⟨o5,g5,_,d5⟩⟩:=st
  simp only[bE,d6,or_false] at hc
  rcases hc with rfl|rfl|rfl|rfl|rfl
  ·exact⟨_,g1,fun v e=>by cases e⟩
  ·exact⟨_,g2,fun v e=>by cases e⟩
  ·exact⟨_,g3,fun v e=>by cases e⟩
  ·exact⟨_,g4,fun v e=>by rw[d4] at e;cases e⟩
  ·exact⟨_,g5,fun v e=>by rw[d5] at e;cases e⟩
 keep:=fun i h h' st k=>by
  obtain⟨g1,g2,⟨u,v,g3⟩,g4,g5⟩:=st
  exact⟨k _ (by simp) _ g1,k _ (by simp) _ g2,⟨u,v,k _ (by simp) _ g3⟩,HT.Y5.at g4 fun o e=>k _ (by simp) o e,HT.Y5.at g5 fun o e=>k _ (by simp) o e⟩
 item:=by
  intro X hP hw hK hc i pins s σ H E I hf st hg
  subst hP hw hK
  obtain⟨hi,xs,ys,ha,hb,lx,ly⟩:=hg
  obtain⟨its,rv,pa,hz⟩:=I.tuple ha
  obtain⟨M0,rv2,pb,hz2⟩:=I.tuple hb
  have ex:xs[i]? = some xs[i]:=bD (by lia)
  have ey:ys[i]? = some ys[i]:=bD (by lia)
  obtain⟨u,hu,ru⟩:=rv.get ex
  obtain⟨u2,hu2,ru2⟩:=rv2.get ey
  obtain⟨g1,g2,⟨p,q,g3⟩,g4,g5⟩:=st
  refine HT.y7R D g1 g2 g3 g4 g5 (show s.heap.IsTuple a its.toArray from pa) (show s.heap.IsTuple b M0.toArray from pb) (x:=u) (y:=u2) (by simpa using hu) (by simpa using hu2) fun g p1 p2 p3 p4 p5 p6 p7=>⟨_,rfl,wpAny_letOwnedTupleGo_zip p1 fun g' z' sb=>?_⟩
  have nT:∀c∈[z,J,O,j1,j2],s.heap.objs.size≠c:=fun c hc=>by
   obtain⟨o,e⟩:∃o,s.heap.get? c=some o:=by
    simp only[bE,d6,or_false] at hc
    rcases hc with rfl|rfl|rfl|rfl|rfl
    ·exact⟨_,g1⟩
    ·exact⟨_,g2⟩
    ·exact⟨_,g3⟩
    ·obtain⟨o,e,_⟩:=g4;exact⟨o,e⟩
    ·obtain⟨o,e,_⟩:=g5;exact⟨o,e⟩
   exact eU (bQ e)
  have gT:g'.get? s.heap.objs.size=some { cls:=.type "tuple",data:=.seq #[u,u2] }:=sb.extBut _ _ (nT z (by simp)) p5
  have kp:∀c o,c∉[z,J,O,j1,j2]->s.heap.get? c=some o->g'.get? c=some o:=fun c o hc e=>by
   simp only[bE,d6,or_false,not_or] at hc
   exact sb.extBut _ _ hc.1 (p7 c o hc.1 hc.2.2.1 hc.2.2.2.1 hc.2.2.2.2 e)
  have I1:Inv X pins σ (upd H s.heap.objs.size (.tup [xs[i],ys[i]])) { s with heap:=g' }:=Inv.w1Y (t':=s.toks) I hf kp (bI _) ⟨by show 2≤sizeLine;decide,[u,u2],.cons ru (.cons ru2 .nil),⟨_,gT,rfl,⟨_,rfl⟩,rfl⟩⟩
  refine⟨.ref s.heap.objs.size,_,I1,rfl,⟨_,rfl,I.hok.fresh (bI _),fun xs' ys' hx' hy'=>?_⟩,?_,fun c hc=>?_⟩
  ·rw[I.P0 hx' ha,I.P0 hy' hb]
   exact⟨_,_,ex,ey,rfl⟩
  ·exact⟨z',sb.extBut _ _ D.Iz (p7 _ _ D.Iz D.IO D.Ij1 D.Ij2 g2),⟨_,_,sb.extBut _ _ D.Oz p2⟩,p3.extBut sb.extBut D.j1z,p4.extBut sb.extBut D.j2z⟩
  ·rw[z0k (dC (nT c hc))]
   exact(hf c hc).1
 done:=by
  intro X hP hw hK hc i pins s σ H E I hf st hg
  subst hP hw hK
  obtain⟨hi,xs,ha,lx⟩:=hg
  obtain⟨its,rv,pa,hz⟩:=I.tuple ha
  have hl:=rv.length
  obtain⟨g1,g2,_,g4,_⟩:=st
  refine HT.y8U (I.ok.hd hc) D g1 g2 g4 (show s.heap.IsTuple a its.toArray from pa) (by simp;lia) fun g hk=>⟨rfl,Inv.w0O (t':=s.toks) I hf fun c o hc e=>?_⟩
  simp only[bE,d6,or_false,not_or] at hc
  exact hk c o hc.1 hc.2.2.2.1 e
 self:=fun _ _ _ _ _ st h=>wpAny_pyIter_zip st.1 h
section
variable{X:Cx}{es:List Expr}{ec:Nat}{tp:Pos}
noncomputable def iZip(K:PySem.W.Frag)(ta:TA):TI:=fun σ H R=>ta σ H fun vs H1=>∃a b xs ys,vs=[.ref a,.ref b]/\SqT K H1 a xs/\SqT K H1 b ys/\xs.length=ys.length/\R (Itz K a b xs.length) H1
theorem y8v{e e2:Expr}{ta:TA}{p pos:Pos}(hg:Gl X "zip")(hm:X.mg "zip"=none)(ha:PA X [e,e2] ta)(hs:starEach [e,e2] X.env=(false,eval e X.env)::starEach [e2] X.env:=by rfl)(hs2:(backTo pos (starEach [e2] X.env)).any (·.1)=false:=by rfl):PI X (.Tuple es ec tp) (.Call (.Name "zip" p) [e,e2] [] pos) (iZip X.K ta):=by
 intro pins s σ H R I h
 refine Call_ (z5p I hg hm boot_zip (dW (thn (ha pos pins s σ H _ I h) fun us s1 ⟨vs,H1,I1,r1,q1⟩=>?_) hs hs2))
 obtain⟨a,b,xs,ys,e,hq,hq2,ll,q⟩:=q1
 subst e
 cases r1 with
 | cons r rr=>
  cases rr with
  | cons r' rr'=>
   cases rr'
   cases r
   cases r'
   obtain⟨its,rv,pa,hz⟩:=I1.tuple hq
   obtain⟨M0,rv2,pb,hz2⟩:=I1.tuple hq2
   have la:a<s1.heap.objs.size:=by obtain⟨o,e,_⟩:=pa;exact bQ e
   have lb:b<s1.heap.objs.size:=by obtain⟨o,e,_⟩:=pb;exact bQ e
   refine HT.y4k (show s1.heap.IsTuple a its.toArray from pa) (show s1.heap.IsTuple b M0.toArray from pb) fun g k1 k2 k3 k4 k5 k6=>?_
   refine wpAny_pyIter_zip k1 ?_
   refine⟨s1.heap.objs.size+4,_,_,_,H1,rfl,I1.kept (t':=s1.toks) k6,y63 (HT.y8o la lb) xs.length,⟨k1,k2,⟨_,_,k3⟩,k4,k5⟩,fun c hc=>?_,q⟩
   have lc:s1.heap.objs.size≤c:=by
    simp only[bE,d6,or_false] at hc
    rcases hc with rfl|rfl|rfl|rfl|rfl
    ·exact jE _ _
    ·exact jE _ _
    ·exact jE _ _
    ·exact bI _
    ·exact jE _ _
   exact I1.T6 lc (I1.hok.fresh lc)
theorem y5C(hc:X.calm=true):z3K X (.builtin "all") (fun xs H Q=>∃(p:Addr) (bs:List Bool),xs=[.ref p]/\SqL X.K H p (bs.map V.bl)/\Q (.bl (bs.all id)) H):=by
 intro pins s σ H xs us Q I r h
 obtain⟨p,bs,rfl,hq,q⟩:=h
 obtain⟨u,rfl,rx⟩:=z4F r
 cases rx
 obtain⟨its,rv,pl,hz⟩:=I.list hq
 have hl:=rv.length
 rw[b9] at hl
 have lp:p<s.heap.objs.size:=by obtain⟨o,e,_⟩:=pl.isList;exact bQ e
 have vals:∀(i:Nat) (v:Value),its.toArray[i]? = some v->v=.bool (bs.getD i true):=fun i v e=>by
  have e':its[i]? = some v:=by simpa using e
  have hi:i<bs.length:=by have:=(bV.mp e').1;lia
  obtain⟨u,hu,ru⟩:=rv.get (show(bs.map V.bl)[i]? = some (V.bl bs[i]) by rw[bC,bD hi];rfl)
  rw[e'] at hu
  cases hu
  rw[bK,bD hi]
  cases ru
  rfl
 refine call_all_walk (wpAny_pyIter_list pl.isList ?_)
 refine⟨s.heap.objs.size,_,_,_,_,_,fun i=>bs.getD i true,rfl,Walks.list (A:=X.A.in1) (show X.A.in1.handled=none from I.ok.hd hc) s.heap.objs.size p (cJ lp) its.toArray,⟨⟨_,bL _ rfl,rfl,rfl⟩,Heap.IsList.push pl.isList _⟩,fun i v s Q E e hQ=>?_,fun h' tk k=>?_⟩
 ·rw[vals i v e]
  exact wpAny_truthy_bool hQ
 ·refine⟨.bl _,H,I.kept (t':=tk) (fun b o e=>k b o (fun m=>?_) (bA _ e)),rfl,?_⟩
  ·have:=bQ e
   rw[bB.mp m] at this
   exact absurd this (dP _)
  ·have e:(List.range its.toArray.size).all (fun i=>bs.getD i true)=bs.all id:=by
    rw[bJ,<- hl,d8,fP,fP]
    constructor
    ·intro h b hb
     obtain⟨i,hi,e⟩:=gR hb
     have:=h i (fL.mpr hi)
     rw[bK,bD hi,e] at this
     exact this
    ·intro h i hi
     have hi':=fL.mp hi
     rw[bK,bD hi']
     exact h _ (eX hi')
   rw[e]
   exact q
end
theorem y6m{K:PySem.W.Frag}{a b:Addr}{xs ys:List V}{g:TG}{tc:TT}{te:TE}{σ0:St}{H1:Hp}{F:List V->Hp->Prop}(ll:xs.length=ys.length)(Pv:Nat->List V->Hp->Prop)(h0:Pv 0 [] H1)
  (hl:∀i zs H,i≤xs.length->Pv i zs H->SqT K H a xs/\SqT K H b ys/\zs.length<sizeLine)
  (hs:∀i x y zs H T,xs[i]? = some x->ys[i]? = some y->H T=none->Pv i zs H->z1A g tc te σ0 (.ref T) (upd H T (.tup [x,y])) zs (Pv (i+1))) (hd:∀zs H,Pv xs.length zs H->F zs H):y08 (Itz K a b xs.length) g tc te σ0 H1 F:=by
 refine⟨fun i m zs H=>m=xs.length-i/\i≤xs.length/\Pv i zs H,⟨xs.length,by simp,cZ _,h0⟩,?_⟩
 rintro i m zs H ⟨rfl,hi,p⟩
 obtain⟨q1,q2,z⟩:=hl i zs H hi p
 by_cases hlt:i<xs.length
 ·refine .inr ⟨⟨hlt,xs,ys,q1,q2,rfl,ll.symm⟩,z,Pv (i+1),fun zs' H' p'=>⟨xs.length-(i+1),by lia,rfl,hlt,p'⟩,fun x H' y=>?_⟩
  obtain⟨T,rfl,hT,y⟩:=y
  obtain⟨x1,y1,e1,e2,rfl⟩:=y xs ys q1 q2
  exact hs i x1 y1 zs H T e1 e2 hT p
 ·have e:i=xs.length:=by lia
  subst e
  exact .inl ⟨⟨bI _,xs,q1,rfl⟩,hd zs H p⟩
theorem y7T{X:Cx}{K:PySem.W.Frag}{e:Expr}{ta:TE}{f:Str}{pos:Pos}(hK:X.K=K)(he:PE X e ta)(hb:attributeBase e f X.env (eval e X.env)=eval e X.env):PE X (.Attribute e f pos) (w01 K ta f):=by
 subst hK
 exact z0J he hb
theorem y7S{X:Cx}{K:PySem.W.Frag}{tg l:Expr}{tl:TE}(hK:X.K=K)(hl:PE X l tl):PI X tg l (iTup K tl):=by
 subst hK
 exact z1L hl
section
variable{X:Cx}
end
end L2
namespace My
open PySem L2
theorem rdI{α:Sort _}{p q:α->Prop}{a:α}(h1:p a)(h2:q a):∃v,p v/\q v:=⟨a,h1,h2⟩
theorem ex2{t0 t1:Type}{p:t0->t1->Prop}(a0:t0)(a1:t1)(h:p a0 a1):∃a0 a1,p a0 a1:=⟨a0,a1,h⟩
theorem ex3{t0 t1 t2:Type}{p:t0->t1->t2->Prop}(a0:t0)(a1:t1)(a2:t2)(h:p a0 a1 a2):∃a0 a1 a2,p a0 a1 a2:=⟨a0,a1,a2,h⟩
theorem ex4{t0 t1 t2 t3:Type}{p:t0->t1->t2->t3->Prop}(a0:t0)(a1:t1)(a2:t2)(a3:t3)(h:p a0 a1 a2 a3):∃a0 a1 a2 a3,p a0 a1 a2 a3:=⟨a0,a1,a2,a3,h⟩
theorem ex5{t0 t1 t2 t3 t4:Type}{p:t0->t1->t2->t3->t4->Prop}(a0:t0)(a1:t1)(a2:t2)(a3:t3)(a4:t4)(h:p a0 a1 a2 a3 a4):∃a0 a1 a2 a3 a4,p a0 a1 a2 a3 a4:=⟨a0,a1,a2,a3,a4,h⟩
theorem ex6{t0 t1 t2 t3 t4 t5:Type}{p:t0->t1->t2->t3->t4->t5->Prop}(a0:t0)(a1:t1)(a2:t2)(a3:t3)(a4:t4)(a5:t5)(h:p a0 a1 a2 a3 a4 a5):∃a0 a1 a2 a3 a4 a5,p a0 a1 a2 a3 a4 a5:=⟨a0,a1,a2,a3,a4,a5,h⟩
theorem ex7{t0 t1 t2 t3 t4 t5 t6:Type}{p:t0->t1->t2->t3->t4->t5->t6->Prop}(a0:t0)(a1:t1)(a2:t2)(a3:t3)(a4:t4)(a5:t5)(a6:t6)(h:p a0 a1 a2 a3 a4 a5 a6):∃a0 a1 a2 a3 a4 a5 a6,p a0 a1 a2 a3 a4 a5 a6:=⟨a0,a1,a2,a3,a4,a5,a6,h⟩
theorem ex8{t0 t1 t2 t3 t4 t5 t6 t7:Type}{p:t0->t1->t2->t3->t4->t5->t6->t7->Prop}(a0:t0)(a1:t1)(a2:t2)(a3:t3)(a4:t4)(a5:t5)(a6:t6)(a7:t7)(h:p a0 a1 a2 a3 a4 a5 a6 a7):∃a0 a1 a2 a3 a4 a5 a6 a7,p a0 a1 a2 a3 a4 a5 a6 a7:=⟨a0,a1,a2,a3,a4,a5,a6,a7,h⟩
theorem ex9{t0 t1 t2 t3 t4 t5 t6 t7 t8:Type}{p:t0->t1->t2->t3->t4->t5->t6->t7->t8->Prop}(a0:t0)(a1:t1)(a2:t2)(a3:t3)(a4:t4)(a5:t5)(a6:t6)(a7:t7)(a8:t8)(h:p a0 a1 a2 a3 a4 a5 a6 a7 a8):∃a0 a1 a2 a3 a4 a5 a6 a7 a8,p a0 a1 a2 a3 a4 a5 a6 a7 a8:=⟨a0,a1,a2,a3,a4,a5,a6,a7,a8,h⟩
theorem w00{t0 t1 t2 t3 t4 t5 t6 t7 t8 t9:Type}{p:t0->t1->t2->t3->t4->t5->t6->t7->t8->t9->Prop}(a0:t0)(a1:t1)(a2:t2)(a3:t3)(a4:t4)(a5:t5)(a6:t6)(a7:t7)(a8:t8)(a9:t9)(h:p a0 a1 a2 a3 a4 a5 a6 a7 a8 a9):∃a0 a1 a2 a3 a4 a5 a6 a7 a8 a9,p a0 a1 a2 a3 a4 a5 a6 a7 a8 a9:=⟨a0,a1,a2,a3,a4,a5,a6,a7,a8,a9,h⟩
theorem ex12{t0 t1 t2 t3 t4 t5 t6 t7 t8 t9 t10 t11:Type}{p:t0->t1->t2->t3->t4->t5->t6->t7->t8->t9->t10->t11->Prop}(a0:t0)(a1:t1)(a2:t2)(a3:t3)(a4:t4)(a5:t5)(a6:t6)(a7:t7)(a8:t8)(a9:t9)(a10:t10)(a11:t11)(h:p a0 a1 a2 a3 a4 a5 a6 a7 a8 a9 a10 a11):∃a0 a1 a2 a3 a4 a5 a6 a7 a8 a9 a10 a11,p a0 a1 a2 a3 a4 a5 a6 a7 a8 a9 a10 a11:=⟨a0,a1,a2,a3,a4,a5,a6,a7,a8,a9,a10,a11,h⟩
theorem ex14{t0 t1 t2 t3 t4 t5 t6 t7 t8 t9 t10 t11 t12 t13:Type}{p:t0->t1->t2->t3->t4->t5->t6->t7->t8->t9->t10->t11->t12->t13->Prop}(a0:t0)(a1:t1)(a2:t2)(a3:t3)(a4:t4)(a5:t5)(a6:t6)(a7:t7)(a8:t8)(a9:t9)(a10:t10)(a11:t11)(a12:t12)(a13:t13)(h:p a0 a1 a2 a3 a4 a5 a6 a7 a8 a9 a10 a11 a12 a13):∃a0 a1 a2 a3 a4 a5 a6 a7 a8 a9 a10 a11 a12 a13,p a0 a1 a2 a3 a4 a5 a6 a7 a8 a9 a10 a11 a12 a13:=⟨a0,a1,a2,a3,a4,a5,a6,a7,a8,a9,a10,a11,a12,a13,h⟩
def top(i:Nat):Stmt:=PySem.Challenge.pw_backissues_k44_whole_nothing_else.main.body.getD i (.Pass ⟨0,0,0,0⟩)
abbrev z2R:Stmt:=top 1
abbrev z5P:Stmt:=top 2
abbrev z77:Stmt:=top 3
abbrev z1S:Stmt:=top 4
abbrev z42:Stmt:=top 5
abbrev z26:Stmt:=top 6
abbrev z2v:Stmt:=top 27
abbrev z2s:Stmt:=top 28
abbrev z2W:Stmt:=top 29
abbrev z27:Stmt:=top 30
abbrev z8N:Stmt:=top 35
abbrev z3D:Stmt:=top 36
abbrev y00:Stmt:=top 37
abbrev z76:Stmt:=top 38
abbrev z90:Stmt:=top 39
abbrev z31:Stmt:=top 40
abbrev z6T:Stmt:=top 41
abbrev z8v:Stmt:=top 43
abbrev z2w:Stmt:=top 45
abbrev z2L:Stmt:=top 46
abbrev z3C:Stmt:=top 47
abbrev z3I:Stmt:=top 48
abbrev z2M:Stmt:=z1q (top 49) 0
abbrev z1G:Stmt:=z1q (top 49) 1
abbrev z4b:Stmt:=z1q (top 49) 2
abbrev z3H:Stmt:=z1q (top 49) 3
abbrev z44:Stmt:=z1q (top 49) 4
abbrev z3f:Stmt:=z1q (top 51) 0
abbrev z6J:Stmt:=z1q (top 51) 1
abbrev z6X:Stmt:=z1q (top 51) 2
abbrev z4h:Stmt:=z1q (top 51) 3
abbrev z3y:Stmt:=z1q (top 51) 4
abbrev z3x:Stmt:=z1q (top 51) 5
abbrev z2d:Stmt:=top 55
abbrev z3z:Stmt:=z1q (top 56) 0
abbrev z1c:Stmt:=z1q (top 56) 1
abbrev z1r:Stmt:=z1q (top 56) 2
abbrev z5Z:Stmt:=z1q (top 56) 3
abbrev z4f:Stmt:=z1q (top 56) 4
abbrev z4X:Stmt:=z1q (top 56) 5
abbrev z5X:Stmt:=z1q (top 56) 6
abbrev z5R:Stmt:=z1q (top 56) 7
abbrev z6G:Stmt:=z1q (top 56) 8
abbrev z5Y:Stmt:=z1q (top 56) 9
abbrev z5K:Stmt:=top 58
abbrev z6H:Stmt:=top 59
abbrev z6I:Stmt:=top 60
abbrev y7o:Stmt:=top 61
abbrev z61:Stmt:=top 62
abbrev z4j:Stmt:=top 63
abbrev z4A:Stmt:=top 64
abbrev z4B:Stmt:=top 65
abbrev z35:Stmt:=top 67
abbrev z8u:Stmt:=top 68
abbrev y0a:Stmt:=top 70
abbrev z71:Stmt:=top 71
abbrev z8U:Stmt:=top 72
abbrev z5F:Stmt:=top 73
abbrev z59:Stmt:=top 74
abbrev z67:Stmt:=top 75
abbrev z49:Stmt:=top 76
abbrev z6M:Stmt:=top 77
abbrev z65:Stmt:=top 78
abbrev z4Y:Stmt:=top 79
abbrev z88:Stmt:=top 80
abbrev z3t:Stmt:=top 81
abbrev z5N:Stmt:=top 82
abbrev z4U:Stmt:=top 83
abbrev z74:Stmt:=top 84
abbrev z6V:Stmt:=top 85
abbrev z62:Stmt:=top 86
abbrev z60:Stmt:=top 87
abbrev z5G:Stmt:=top 88
abbrev z79:Stmt:=top 89
abbrev z5I:Stmt:=top 90
abbrev z4H:Stmt:=top 91
abbrev z3a:Stmt:=top 92
abbrev z6O:Stmt:=top 93
abbrev z43:Stmt:=top 94
abbrev z66:Stmt:=top 95
abbrev z36:Stmt:=top 96
abbrev z3u:Stmt:=top 97
abbrev z4W:Stmt:=top 98
abbrev z46:Stmt:=top 99
abbrev w0I:Stmt:=top 100
abbrev z2P:List Str:=["had"]
abbrev z5J:List Str:=["number","reach"]
abbrev z6K:List Str:=["had","number","reach"]
abbrev z1m:List Str:=["had","reach"]
abbrev z2m:List Str:=["had","reach"]
abbrev z17:List Str:=["had","reach","behind"]
abbrev z2x:List Str:=["names"]
abbrev z2y:List Str:=["reach"]
abbrev z2l:List Str:=["names","reach"]
abbrev z1t:List Str:=["names","name"]
abbrev z2E:List Str:=["shelf","name"]
abbrev z3F:List Str:=["shelf","number","teller"]
abbrev z6j:List Str:=["shelf"]
abbrev z5b:List Str:=["shelf","name"]
abbrev z39:List Str:=["shelf","name"]
abbrev z3d:List Str:=["shelf","name"]
abbrev z7c:List Str:=["shelf"]
abbrev z8S:List Str:=["sets","reach"]
abbrev z2u:List Str:=["value"]
abbrev z2K:List Str:=["names","rows"]
abbrev z3B:List Str:=["names","rows"]
abbrev z2C:List Str:=["rows"]
abbrev z2Q:List Str:=["self","names","reach"]
abbrev z1h:List Str:=["self","rows"]
abbrev z3Z:List Str:=["self","rows"]
abbrev z3G:List Str:=["self"]
abbrev z2o:List Str:=["self","number"]
abbrev z34:List Str:=["self","names","reach"]
abbrev z75:List Str:=["self","issue"]
abbrev z1l:List Str:=["self"]
abbrev z4c:List Str:=["self"]
abbrev z2z:List Str:=["self","number"]
abbrev z3J:List Str:=["self","number"]
abbrev z2e:List Str:=["readers"]
abbrev z3v:List Str:=["self","names","reach","readers"]
abbrev z0V:List Str:=["self","reader"]
abbrev z10:List Str:=["self"]
abbrev z5V:List Str:=["self","rows"]
abbrev z4g:List Str:=["self","reader","number"]
abbrev z7n:List Str:=["self"]
abbrev z64:List Str:=["self","number"]
abbrev z8Q:List Str:=["self"]
abbrev z9k:List Str:=["self","which"]
abbrev z3g:List Str:=["self","reader","deed"]
abbrev z4e:List Str:=["shelf"]
abbrev z7i:List Str:=["names","chosen"]
abbrev z6L:List Str:=["names","known","chosen"]
abbrev y7Q:List Str:=["shelf","course"]
abbrev z40:List Str:=["power"]
abbrev z2U:List Str:=["shelf"]
abbrev z4D:List Str:=["shelf","name"]
abbrev z50:List Str:=["shelf","name"]
abbrev z3h:List Str:=["had","reach","behind"]
abbrev z4I:List Str:=["shelf","name"]
abbrev z58:List Str:=["_law_script","_law_k"]
abbrev z3T:List Str:=["_law_cell","_law_size"]
abbrev z3V:List Str:=["_law_cell","_law_many","_law_size"]
abbrev z48:List Str:=["_law_found"]
abbrev z21:List Str:=["_law_found","_law_due"]
abbrev z5Q:List Str:=["_law_cell","_law_many"]
abbrev z2T:List Str:=["_law_times"]
abbrev z5e:List Str:=["_law_names_here","_law_cell","_law_many"]
abbrev z5M:List Str:=["_law_figure","_law_place"]
abbrev z3m:List Str:=["_law_sets_here","_law_cell"]
abbrev z8t:List Str:=["_law_cell","_law_many"]
abbrev z3A:List Str:=["_law_row_here","_law_cell"]
abbrev z68:List Str:=["_law_rows","_law_number","_law_reach"]
abbrev z2h:List Str:=["_law_had_here","_law_number","_law_reach"]
abbrev z5g:List Str:=["_law_had_here","_law_rows","_law_reach"]
abbrev z5d:List Str:=["_law_had_here","_law_rows","_law_name"]
abbrev z4d:List Str:=["_law_gaps_here","_law_number","_law_name"]
abbrev z2Z:List Str:=["_law_gaps_here","_law_number","_law_name"]
abbrev z5E:List Str:=["_law_names_here","_law_had_here","_law_rows","_law_reach"]
abbrev z6U:List Str:=["_law_had_here","_law_reach"]
abbrev z5S:List Str:=["_law_had_here","_law_rows","_law_reach"]
abbrev z4w:List Str:=["_law_found","_law_names_here","_law_known_here"]
abbrev z3c:List Str:=["_law_course_here","_law_number","_law_name"]
abbrev z78:List Str:=["_law_found","_law_had_here","_law_reach","_law_behind"]
abbrev z47:List Str:=["_law_script","_law_names_here"]
abbrev z5H:List Str:=["_law_script"]
abbrev z3e:List Str:=["_law_shelf","_law_names_here","_law_name","_law_known_here","_law_gaps_here","_law_held_here"]
abbrev z3E:List Str:=["_law_shelf","_law_names_here","_law_had_here","_law_rows","_law_reach"]
abbrev z54:List Str:=["_law_names_here","_law_rows","_law_had_here","_law_reach","_law_script"]
abbrev z4a:List Str:=["_law_names_here","_law_reach","_law_rows"]
abbrev plaw:List Str:=["_law_script"]
theorem z3R:A9 ["had","latest"] z2P (z07 z2R):=scp
theorem z7D:A9 ["number","reach"] z5J (z07 z5P):=scp
theorem z8k:A9 ["had","number","reach","tellers"] z6K (z07 z77):=scp
theorem z2r:A9 ["had","reach"] z1m (z07 z1S):=scp
theorem z5m:A9 ["had","reach"] z2m (z07 z42):=scp
theorem z2J:A9 ["had","reach","behind"] z17 (z07 z26):=scp
theorem z3k:A9 ["names"] z2x (z07 z2v):=scp
theorem z3o:A9 ["reach"] z2y (z07 z2s):=scp
theorem z4s:A9 ["names","reach"] z2l (z07 z2W):=scp
theorem z2G:A9 ["names","name"] z1t (z07 z27):=scp
theorem z9s:A9 ["shelf","name","number","values"] z2E (z07 z8N):=scp
theorem z4S:A9 ["shelf","number","teller"] z3F (z07 z3D):=scp
theorem y0O:A9 ["shelf","lacking"] z6j (z07 y00):=scp
theorem z8K:A9 ["shelf","name","held_from"] z5b (z07 z76):=scp
theorem z9C:A9 ["shelf","name","held_from","dark_behind"] z39 (z07 z90):=scp
theorem z4l:A9 ["shelf","name"] z3d (z07 z31):=scp
theorem z8i:A9 ["shelf"] z7c (z07 z6T):=scp
theorem z9x:A9 ["sets","reach","number","ahead"] z8S (z07 z8v):=scp
theorem z3q:A9 ["value"] z2u (z07 z2w):=scp
theorem z3N:A9 ["names","rows","set_names","name","value"] z2K (z07 z2L):=scp
theorem z55:A9 ["names","rows","values"] z3B (z07 z3C):=scp
theorem z4O:A9 ["rows"] z2C (z07 z3I):=scp
theorem z3S:A9 ["self","names","reach"] z2Q (z07 z2M):=scp
theorem z2n:A9 ["self","rows"] z1h (z07 z1G):=scp
theorem z5w:A9 ["self","rows","number","sets"] z3Z (z07 z4b):=scp
theorem z4P:A9 ["self"] z3G (z07 z3H):=scp
theorem z5n:A9 ["self","number"] z2o (z07 z44):=scp
theorem z4o:A9 ["self","names","reach"] z34 (z07 z3f):=scp
theorem z8e:A9 ["self","issue","number"] z75 (z07 z6J):=scp
theorem z8a:A9 ["self"] z1l (z07 z6X):=scp
theorem z5v:A9 ["self"] z4c (z07 z4h):=scp
theorem z4J:A9 ["self","number"] z2z (z07 z3y):=scp
theorem z4v:A9 ["self","number"] z3J (z07 z3x):=scp
theorem z2S:A9 ["readers"] z2e (z07 z2d):=scp
theorem z51:A9 ["self","names","reach","readers"] z3v (z07 z3z):=scp
theorem z1O:A9 ["self","reader"] z0V (z07 z1c):=scp
theorem z24:A9 ["self"] z10 (z07 z1r):=scp
theorem z7y:A9 ["self","rows","number"] z5V (z07 z5Z):=scp
theorem z5A:A9 ["self","reader","number","getting","lacked"] z4g (z07 z4f):=scp
theorem z6D:A9 ["self"] z7n (z07 z4X):=scp
theorem z7C:A9 ["self","number"] z64 (z07 z5X):=scp
theorem z7I:A9 ["self"] z8Q (z07 z5R):=scp
theorem z95:A9 ["self","which"] z9k (z07 z6G):=scp
theorem z7q:A9 ["self","reader","deed","behind","told","past"] z3g (z07 z5Y):=scp
theorem z7k:A9 ["shelf","sets","number","teller","names"] z4e (z07 z5K):=scp
theorem z96:A9 ["names","chosen"] z7i (z07 z6H):=scp
theorem z8E:A9 ["names","known","chosen"] z6L (z07 z6I):=scp
theorem y6F:A9 ["shelf","course","sets"] y7Q (z07 y7o):=scp
theorem z7r:A9 ["power","product","step"] z40 (z07 z61):=scp
theorem z5s:A9 ["shelf","dark"] z2U (z07 z4j):=scp
theorem z6o:A9 ["shelf","name","state","count","held_from","dark_behind","not_again"] z4D (z07 z4A):=scp
theorem z6a:A9 ["shelf","name","not_again","latest_dark","again"] z50 (z07 z4B):=scp
theorem z4t:A9 ["had","reach","behind","fewest","apart","dark"] z3h (z07 z35):=scp
theorem z9w:A9 ["shelf","name","asked","held_from"] z4I (z07 z8u):=scp
theorem y10:A9 ["_law_script","_law_k"] z58 (z07 y0a):=scp
theorem z8Y:A9 ["_law_cell","_law_size","_law_once"] z3T (z07 z71):=scp
theorem z9u:A9 ["_law_cell","_law_many","_law_size","_law_rest","_law_mixed","_law_figures","_law_k"] z3V (z07 z8U):=scp
theorem z7v:A9 ["_law_found"] z48 (z07 z5F):=scp
theorem z8w:A9 ["_law_found","_law_due","_law_k"] z21 (z07 z59):=scp
theorem z7A:A9 ["_law_cell","_law_many","_law_signs","_law_turn","_law_stem","_law_spot"] z5Q (z07 z67):=scp
theorem z5q:A9 ["_law_times","_law_many","_law_turn"] z2T (z07 z49):=scp
theorem z8l:A9 ["_law_names_here","_law_cell","_law_many","_law_size","_law_sets_here","_law_figure","_law_mask","_law_chosen","_law_name"] z5e (z07 z6M):=scp
theorem z7E:A9 ["_law_figure","_law_place"] z5M (z07 z65):=scp
theorem z6z:A9 ["_law_sets_here","_law_cell","_law_figures","_law_rows","_law_k","_law_one","_law_place"] z3m (z07 z4Y):=scp
theorem z9g:A9 ["_law_cell","_law_many","_law_flags","_law_numbers_here","_law_number","_law_jump","_law_figure"] z8t (z07 z88):=scp
theorem z4y:A9 ["_law_row_here","_law_cell","_law_figures","_law_told","_law_k"] z3A (z07 z3t):=scp
theorem z7j:A9 ["_law_rows","_law_number","_law_reach","_law_tail","_law_other"] z68 (z07 z5N):=scp
theorem z6e:A9 ["_law_had_here","_law_number","_law_reach","_law_above"] z2h (z07 z4U):=scp
theorem z8Z:A9 ["_law_had_here","_law_rows","_law_reach","_law_gaps_here","_law_number","_law_teller_here"] z5g (z07 z74):=scp
theorem z8H:A9 ["_law_had_here","_law_rows","_law_name","_law_held_here","_law_number","_law_row_here"] z5d (z07 z6V):=scp
theorem z7L:A9 ["_law_gaps_here","_law_number","_law_name"] z4d (z07 z62):=scp
theorem z7G:A9 ["_law_gaps_here","_law_number","_law_name"] z2Z (z07 z60):=scp
theorem z7s:A9 ["_law_names_here","_law_had_here","_law_rows","_law_reach","_law_gaps_here","_law_table_here","_law_name","_law_held_here"] z5E (z07 z5G):=scp
theorem z8z:A9 ["_law_had_here","_law_reach","_law_dark_here","_law_number"] z6U (z07 z79):=scp
theorem z7K:A9 ["_law_had_here","_law_rows","_law_reach","_law_known_here","_law_number"] z5S (z07 z5I):=scp
theorem z6w:A9 ["_law_found","_law_names_here","_law_known_here","_law_k","_law_places","_law_name","_law_j"] z4w (z07 z4H):=scp
theorem z4k:A9 ["_law_course_here","_law_number","_law_name","_law_k"] z3c (z07 z3a):=scp
theorem z8C:A9 ["_law_found","_law_had_here","_law_reach","_law_behind","_law_part","_law_k","_law_need","_law_number","_law_dark_here"] z78 (z07 z6O):=scp
theorem z5x:A9 ["_law_script","_law_names_here","_law_many","_law_sets_here"] z47 (z07 z43):=scp
theorem z7z:A9 ["_law_script"] z5H (z07 z66):=scp
theorem z4m:A9 ["_law_shelf","_law_names_here","_law_name","_law_known_here","_law_gaps_here","_law_held_here","_law_state_here","_law_again_here","_law_pair"] z3e (z07 z36):=scp
theorem z53:A9 ["_law_shelf","_law_names_here","_law_had_here","_law_rows","_law_reach","_law_gaps_here","_law_known_here","_law_least","_law_name","_law_held_here"] z3E (z07 z3u):=scp
theorem z6u:A9 ["_law_names_here","_law_rows","_law_had_here","_law_reach","_law_script","_law_sets_here","_law_k","_law_second_here","_law_number"] z54 (z07 z4W):=scp
theorem z5z:A9 ["_law_names_here","_law_reach","_law_rows","_law_book","_law_one"] z4a (z07 z46):=scp
theorem y8B:A9 ["_law_script","_law_names_here","_law_rows","_law_reach","_law_had_here","_law_other","_law_first","_law_second_here","_law_number","_law_due","_law_shelf","_law_one","_law_course_here","_law_name","_law_many"] plaw (z07 w0I):=scp
structure L6(K:PySem.W.Frag)(mg:Str->Option Value)(C:Addr):Prop where
 cl:Cls K C
 mgC:mg "Office"=some (.ref C)
 n_names:z3b K C "names"
 n_reach:z3b K C "reach"
 n_written:z3b K C "written"
structure D4(K:PySem.W.Frag)(mg:Str->Option Value)(C:Addr):Prop where
 cl:Cls K C
 mgC:mg "Shelf"=some (.ref C)
 n_names:z3b K C "names"
 n_reach:z3b K C "reach"
 n_issues:z3b K C "issues"
structure L8(K:PySem.W.Frag)(mg:Str->Option Value)(C:Addr):Prop where
 cl:Cls K C
 mgC:mg "Book"=some (.ref C)
 n_office:z3b K C "office"
 n_readers:z3b K C "readers"
 n_done:z3b K C "done"
structure Bl(mg:Str->Option Value):Prop where
 len:mg "len"=none
 range:mg "range"=none
 tuple:mg "tuple"=none
 list:mg "list"=none
 max:mg "max"=none
 min:mg "min"=none
 sorted:mg "sorted"=none
 isinstance:mg "isinstance"=none
 bool:mg "bool"=none
 int:mg "int"=none
 str:mg "str"=none
 set:mg "set"=none
 reversed:mg "reversed"=none
 dict:mg "dict"=none
 zip:mg "zip"=none
 all:mg "all"=none
 MOST_NAMES:∃t,mg "MOST_NAMES"=some (.int 12 t)
 MOST_REACH:∃t,mg "MOST_REACH"=some (.int 10 t)
 MOST_NUMBERS:∃t,mg "MOST_NUMBERS"=some (.int 60 t)
 MOST_VALUE:∃t,mg "MOST_VALUE"=some (.int 1000000 t)
 MOST_READERS:∃t,mg "MOST_READERS"=some (.int 10 t)
 MOST_DEEDS:∃t,mg "MOST_DEEDS"=some (.int 400 t)
 SURE:∃t,mg "SURE"=some (.str "sure" t)
 STALE:∃t,mg "STALE"=some (.str "stale" t)
 OPEN:∃t,mg "OPEN"=some (.str "open" t)
 WRITE:∃t,mg "WRITE"=some (.str "write" t)
 DELIVER:∃t,mg "DELIVER"=some (.str "deliver" t)
theorem z01{H:Hp}{p:Addr}(h:H p=none)(o:HO):B0 H (upd H p o):=fun b u q=>by rw[z0k (z0r q h)];exact q
theorem z1y{H H':Hp}{l:Addr}{o:HO}(hs:B0 H H')(hl:H l=none):B0 H (upd H' l o):=fun b u e=>by rw[z0k (z0r e hl)];exact hs b u e
theorem y07{n:Nat}(h:n≤1000):n≤sizeLine:=dX (z0f h)
theorem z41{ns:List Int}{k:Int}(h0:0≤k)(h:k<(ns.length:Int)):atI (ns.map V.int) k=some (.int (ns.getD k.toNat 0)):=by
 have hk:k.toNat<ns.length:=by lia
 have ek:k=((k.toNat:Nat):Int):=by lia
 have q:atI (ns.map V.int) ((k.toNat:Nat):Int)=some (.int (ns.getD k.toNat 0)):=z0R (by
  rw[bC,bD hk,bK,bD hk]<;>rfl)
 rw[<- ek] at q
 exact q
theorem z69{K:PySem.W.Frag}{H H':Hp}{a:Addr}{xs:List V}(e:B0 H H')(h:SqT K H a xs):SqT K H' a xs:=by
 rcases h with (h|⟨o,h⟩)|h
 ·exact .inl (.inl (e _ _ h))
 ·exact .inl (.inr ⟨o,e _ _ h⟩)
 ·exact .inr h
theorem z0I{p:Prop}[Decidable p](h:decide p=true):p:=of_decide_eq_true h
theorem z4q{p:Prop}[Decidable p](h:¬decide p=true):¬p:=fun q=>h (decide_eq_true q)
section
variable{P:Program}{w:World}{K:PySem.W.Frag}{mg:Str->Option Value}{base:Heap}{f:Addr}{fd:FuncData}
theorem z1Z:∀{l1 l2:List Int},l1.Pairwise (· < ·)->l2.Pairwise (· < ·)->(∀x,x∈l1↔x∈l2)->l1=l2
 | [],[],_,_,_=>rfl
 | [],y::_,_,_,h=>by have:=(h y).mpr cC;cases this
 | x::_,[],_,_,h=>by have:=(h x).mp cC;cases this
 | x::r,y::t,p1,p2,h=>by
  rw[hW] at p1 p2
  have e:x=y:=by
   rcases bE.mp ((h x).mp cC) with e|hx
   ·exact e
   ·rcases bE.mp ((h y).mpr cC) with e|hy
    ·exact e.symm
    ·have:=p1.1 y hy
     have:=p2.1 x hx
     lia
  subst e
  refine congrArg (x::·) (z1Z p1.2 p2.2 fun z=>⟨fun hz=>?_,fun hz=>?_⟩)
  ·rcases bE.mp ((h z).mp (bZ _ hz)) with e|q
   ·have:=p1.1 z hz
    lia
   ·exact q
  ·rcases bE.mp ((h z).mpr (bZ _ hz)) with e|q
   ·have:=p2.1 z hz
    lia
   ·exact q
theorem z1z(lo:Int):∀n,(upI lo n).Pairwise (· < ·)
 | 0=>List.Pairwise.nil
 | n+1=>by
  rw[z5f]
  refine cX.mpr ⟨z1z lo n,eF _ _,fun x hx y hy=>?_⟩
  have h1:=z1e.mp hx
  rw[bB.mp hy]
  lia
theorem y7Z(lo:Int)(n:Nat):U5 lo n=(upI lo n).map V.int:=by
 unfold U5 upI
 rw[dR]
 rfl
noncomputable def Z0(K:PySem.W.Frag):Sp:=fun vs H Q _=>∃(a:Addr) (ns:List Int) (k:Int),vs=[.ref a,.int k]/\SqL K H a (ns.map V.int)/\0≤k/\Q (.int (ns.getD k.toNat 0)) H
theorem w1D(M:Bl mg)(F:Fun K "_law_at" "_law_at" y0a f fd):B4 P w K mg base CX0 1 f fd z58 (Z0 K):=by
 have nd:=y10.nd
 refine F.ok y10 (fun vs H Q E h=>?_) (fun cdv A outer s H vs Q E hr h=>?_)
 ·obtain⟨a,ns,k,rfl,_⟩:=h
  rfl
 obtain⟨a,ns,k,rfl,hS,h0,q⟩:=h
 refine⟨_,(z04 (z0E (z0c z9a (pv 1) (z0b z09 rfl M.len bO (z00 (pv 0) z02)) (z0o _)) (z05 (z0i (z0B z0Y (pv 0) (pv 1) (fun _ _=>rfl)))) z0l) (z05 (z0i z06))),?_⟩
 have hl:(ns.map V.int).length=ns.length:=b9 _
 refine(rdI rfl (rdI rfl (ex2 a _ ⟨rfl,.inl hS,(ex2 _ _ ⟨rfl,rfl,(rdI rfl ?_)⟩)⟩)))
 refine B9 (fun c=>?_) (fun c=>?_)
 ·have c':=z0I c
  rw[hl] at c'
  exact(rdI rfl (rdI rfl (ex4 a _ _ _ ⟨rfl,rfl,hS,z41 h0 c',q⟩)))
 ·have c':=z4q c
  rw[hl] at c'
  have e:ns.getD k.toNat 0=0:=by rw[bK,List.getElem?_eq_none (by lia)];rfl
  rw[e] at q
  exact q
noncomputable def y2n:Sp:=fun vs H Q _=>∃c n:Int,vs=[.int c,.int n]/\0<n/\∀r,0≤r->r<n->Q (.int r) H
theorem y7r(F:Fun K "_law_pick" "_law_pick" z71 f fd):B4 P w K mg base CX0 1 f fd z3T y2n:=by
 have nd:=z8Y.nd
 refine F.ok z8Y (fun vs H Q E h=>?_) (fun cdv A outer s H vs Q E hr h=>?_)
 ·obtain⟨c,n,rfl,_⟩:=h
  rfl
 obtain⟨c,n,rfl,hn,q⟩:=h
 refine⟨_,(z04 (z0E (z0c z2F (z0u z1s (pv 0) z06) z06 (z0o _)) (z05 (z0i (z0u z1s (z0u z1F (pv 0) z06) (pv 1)))) z0l) (z04 (z0p (i:=2) nd rfl (Or.inl rfl) (z0u z1s (z0u z4V (z0u z1F (pv 0) z06) z06) z06)) (z05 (z0i (z0u z1s (z0u z1s (z0u z4V (z0u z1u (pv 2) z06) z06) z06) (pv 1)))))),?_⟩
 refine(rdI rfl (ex2 _ _ ⟨rfl,rfl,(by show(0:Int)<2;decide),rfl,(rdI rfl ?_)⟩))
 refine B9 (fun _=>?_) (fun _=>?_)
 ·exact(rdI rfl (ex2 _ _ ⟨rfl,rfl,⟨by decide,by decide⟩,(rdI rfl (ex2 _ _ ⟨rfl,rfl,hn,q _ (d9 _ (by lia)) (cY _ hn)⟩))⟩))
 ·refine(rdI rfl (ex2 _ _ ⟨rfl,rfl,⟨by decide,by decide⟩,(ex2 _ _ ⟨rfl,rfl,.inr ⟨by decide,by decide⟩,(ex2 _ _ ⟨rfl,rfl,(by show(0:Int)<2147483647;decide),?_⟩)⟩)⟩))
  refine(rdI rfl (ex2 _ _ ⟨rfl,rfl,(ex2 _ _ ⟨rfl,rfl,.inr ⟨by decide,by decide⟩,(ex2 _ _ ⟨rfl,rfl,(by show(0:Int)<2147483647;decide),(rdI rfl (ex2 _ _ ⟨rfl,rfl,hn,?_⟩))⟩)⟩)⟩))
  exact q _ (d9 _ (by lia)) (cY _ hn)
noncomputable def z94:Nat->Sp
 | 0=>fun _ _ _ _=>False
 | n+1=>fun vs H Q _=>∃x y,vs=[x,y]/\z5i H n x y/\∀H',B0 H H'->Q (.bl true) H'
theorem y4F:B4 P w K mg base CX0 0 f fd z21 (z94 0):=
 ⟨fun vs H Q E h=>h.elim,fun A outer s H args us vs Q E _ _ _ _ h=>h.elim⟩
noncomputable def tyOf:V->String
 | .non=>"NoneType"
 | .bl _=>"bool"
 | .int _=>"int"
 | _=>"str"
theorem z4K{H:Hp}{x:V}(h:y2K x=true):R0 K H x (.type (tyOf x)):=by
 cases x with
 | non=>exact .non
 | bl b=>exact .bl b
 | int i=>exact .int i
 | str z=>exact .str z
 | _=>exact absurd h bM
noncomputable def kitB:V->String->Bool
 | .bl _,T=>T == "bool" || T == "int"
 | .int _,T=>T == "int"
 | .str _,T=>T == "str"
 | _,_=>false
theorem z3Y(T:String)(hT:T="tuple"\/T="bool"\/T="int"\/T="str"){x:V}(h:y2K x=true):PySem.W.kitOne K (.type (tyOf x)) (.type T)=some (kitB x T):=by
 cases x with
 | non=>rcases hT with rfl|rfl|rfl|rfl<;>kernel_rfl
 | bl b=>rcases hT with rfl|rfl|rfl|rfl<;>kernel_rfl
 | int i=>rcases hT with rfl|rfl|rfl|rfl<;>kernel_rfl
 | str z=>rcases hT with rfl|rfl|rfl|rfl<;>kernel_rfl
 | _=>exact absurd h bM
theorem y36(x:V):kitB x "tuple"=false:=by cases x<;>rfl
theorem z5T:PySem.W.kitOne K (.type "tuple") (.type "tuple")=some true:=by kernel_rfl
theorem y6N{xs:List V}{i:Nat}(h:i<xs.length):∃v,xs[i]? = some v/\atI xs (i:Int)=some v:=⟨xs[i],bD h,z0R (bD h)⟩
theorem y7W{x:V}(h:y2K x=true):w0w x x=true:=by
 cases x<;>first|rfl|exact absurd h bM
theorem y7t{n:Nat}(M:Bl mg)(F:Fun K "_law_same" "_law_same" z59 f fd)(D2:Cal P w K mg base n "_law_same" z21 (z94 n)) :
  B4 P w K mg base CX0 (n+1) f fd z21 (z94 (n+1)):=by
 have nd:=z8w.nd
 refine F.ok z8w (fun vs H Q E h=>?_) (fun cdv A outer s H vs Q E hr h=>?_)
 ·obtain⟨x,y,rfl,_⟩:=h
  rfl
 obtain⟨x,y,rfl,ha,q⟩:=h
 refine⟨_,(z04 (z0E (z1Q (z0b z0M rfl M.isinstance cH (z00 (pv 1) (z00 (z28 (v:=.ty "tuple") rfl M.tuple bH rfl) z02)))) (z04 (z0E (PW.pt (z37 (z22 (z1Q (z0b z0M rfl M.isinstance cH (z00 (pv 0) (z00 (z28 (v:=.ty "tuple") rfl M.tuple bH rfl) z02))))) (z25 (z0c z7g (z0b z09 rfl M.len bO (z00 (pv 0) z02)) (z0b z09 rfl M.len bO (z00 (pv 1) z02)) (z0o _))))) (z05 (z0i z1P)) z0l) (z04 (z0O bR rfl (z1b rfl M.range (z00 (z0b z09 rfl M.len bO (z00 (pv 1) z02)) z02)) (z0j (i:=2) nd rfl (Or.inl rfl)) (z05 (z0E (z22 (z1Q (z0e D2 (rm hr) rfl (z00 (z0B z0C (pv 0) (pv 2) (fun _ _=>rfl)) (z00 (z0B z0C (pv 1) (pv 2) (fun _ _=>rfl)) z02))))) (z05 (z0i z1P)) z0l))) (z05 (z0i z1P)))) z0l) (z04 (z0E (PW.pt (z37 (z0c z7g (z0b z0M rfl M.isinstance cH (z00 (pv 0) (z00 (z28 (v:=.ty "bool") rfl M.bool jA rfl) z02))) (z0b z0M rfl M.isinstance cH (z00 (pv 1) (z00 (z28 (v:=.ty "bool") rfl M.bool jA rfl) z02))) (z0o _)) (z25 (z0c z7g (z0b z0M rfl M.isinstance cH (z00 (pv 0) (z00 (z28 (v:=.ty "int") rfl M.int jJ rfl) z02))) (z0b z0M rfl M.isinstance cH (z00 (pv 1) (z00 (z28 (v:=.ty "int") rfl M.int jJ rfl) z02))) (z0o _))))) (z05 (z0i z1P)) z0l) (z04 (z0E (PW.pt (z37 (z0c z7g (z0b z0M rfl M.isinstance cH (z00 (pv 0) (z00 (z28 (v:=.ty "str") rfl M.str jK rfl) z02))) (z0b z0M rfl M.isinstance cH (z00 (pv 1) (z00 (z28 (v:=.ty "str") rfl M.str jK rfl) z02))) (z0o _)) (z25 (z0c z7g (y3K (z8W (pv 0))) (y3K (z8W (pv 1))) (z0o _))))) (z05 (z0i z1P)) z0l) (z05 (z0i (z8f z2F (pv 0) (pv 1) (z0o _))))))),?_⟩
 have ha':(x=y/\y2K x=true)\/∃(m:Nat) (a b:Addr) (xs ys:List V),n=m+1/\x=.ref a/\y=.ref b/\H a=some (.tup xs)/\H b=some (.tup ys)/\xs.length=ys.length/\ys.length≤1000000/\
   ∀(i:Nat) (u v:V),xs[i]? = some u->ys[i]? = some v->z5i H m u v:=by
  cases n with
  | zero=>exact .inl ha
  | succ n=>
   rcases ha with ha|⟨a,b,xs,ys,e1,e2,h1,h2,hl,hm,hi⟩
   ·exact .inl ha
   ·exact .inr (ex5 n a b xs ys ⟨rfl,e1,e2,h1,h2,hl,hm,hi⟩)
 rcases ha' with ⟨rfl,hs⟩|⟨m,a,b,xs,ys,rfl,rfl,rfl,h1,h2,hl,hm,hi⟩
 ·have k1:=z3Y (K:=K) "tuple" (.inl rfl) hs
  have k2:=z3Y (K:=K) "bool" (.inr (.inl rfl)) hs
  have k3:=z3Y (K:=K) "int" (.inr (.inr (.inl rfl))) hs
  have k4:=z3Y (K:=K) "str" (.inr (.inr (.inr rfl))) hs
  rw[y36] at k1
  refine(rdI rfl (ex4 _ _ _ _ ⟨rfl,z4K hs,k1,(rdI rfl (B8 ?_))⟩))
  refine(rdI rfl (ex4 _ _ _ _ ⟨rfl,z4K hs,k2,(rdI rfl (ex4 _ _ _ _ ⟨rfl,z4K hs,k2,rfl,(rdI rfl ?_)⟩))⟩))
  rw[decide_eq_true rfl]
  refine B8 (rdI rfl (ex4 _ _ _ _ ⟨rfl,z4K hs,k3,(rdI rfl (ex4 _ _ _ _ ⟨rfl,z4K hs,k3,rfl,(rdI rfl ?_)⟩))⟩))
  rw[decide_eq_true rfl]
  refine B8 ?_
  refine(rdI rfl (ex4 _ _ _ _ ⟨rfl,z4K hs,k4,(rdI rfl (ex4 _ _ _ _ ⟨rfl,z4K hs,k4,rfl,(rdI rfl ?_)⟩))⟩))
  rw[decide_eq_true rfl]
  refine B8 (rdI rfl (rdI rfl ⟨rfl,(rdI rfl ?_)⟩))
  rw[decide_eq_true rfl]
  refine B8 ?_
  refine(rdI rfl (rdI rfl ⟨y7W hs,?_⟩))
  rw[decide_eq_true rfl]
  exact q H (B0.refl H)
 ·refine(rdI rfl (ex4 _ _ _ _ ⟨rfl,.tup h2,z5T,(rdI rfl (F6 ?_))⟩))
  refine(rdI rfl (ex4 _ _ _ _ ⟨rfl,.tup h1,z5T,(rdI rfl (B8 ?_))⟩))
  refine(rdI rfl (ex2 a xs ⟨rfl,.inr (SqT.of h1),(rdI rfl (ex2 b ys ⟨rfl,.inr (SqT.of h2),rfl,(rdI rfl ?_)⟩))⟩))
  rw[hl,decide_eq_true rfl]
  refine B8 ?_
  refine(rdI rfl (ex2 b ys ⟨rfl,.inr (SqT.of h2),(rdI rfl ⟨by lia,by lia,?_⟩)⟩))
  refine z13 (lo:=0) (n:=ys.length) (fun _ σ H'=>B0 H H'/\∃o,σ=[some (.ref a),some (.ref b),o]) ⟨B0.refl H,_,rfl⟩ (fun i σ H' hi' hp=>?_) (fun σ H' hp=>?_)
  ·obtain⟨hS,o,rfl⟩:=hp
   obtain⟨u,hu,au⟩:=y6N (xs:=xs) (i:=i) (by lia)
   obtain⟨v,hv,av⟩:=y6N (xs:=ys) (i:=i) hi'
   have ei:(0:Int)+(i:Int)=(i:Int):=eZ _
   refine(rdI rfl (rdI rfl (ex4 a _ _ _ ⟨rfl,rfl,SqT.of (hS _ _ h1),(by rw[ei];exact au),(rdI rfl (rdI rfl (ex4 b _ _ _ ⟨rfl,rfl,SqT.of (hS _ _ h2),(by rw[ei];exact av),?_⟩)))⟩)))
   refine(ex2 u v ⟨rfl,(hi i u v hu hv).keep hS,fun H2 hS2=>(rdI rfl ?_)⟩)
   exact B8 ⟨hS.trans hS2,_,rfl⟩
  ·obtain⟨hS,o,rfl⟩:=hp
   exact q H' hS
theorem y1V(M:Bl mg)(F:Fun K "_law_same" "_law_same" z59 f fd)(B:z2b K fd z21 [])(N:mg "_law_same"=some (.ref f)) :
  ∀n,Cal P w K mg base n "_law_same" z21 (z94 n)
 | 0=>.mk' y4F B F.kp N
 | n+1=>.mk' (y7t M F (y1V M F B N n)) B F.kp N
theorem y04{ns:List Int}{n:Nat}(h:ns.length≤n)(hn:n≤1000):(ns.map V.int).length<sizeLine:=z0f (by rw[b9];lia)
noncomputable def y3R:Sp:=fun vs H Q _=>∃c m z:Int,vs=[.int c,.int m,.int z]/\0≤m/\m≤900/\0<z/\z<1073741824/\
 ∀(l:Addr) (ns:List Int) (H':Hp),H l=none->B0 H H'->H' l=some (.lst (ns.map V.int))->ns.length=m.toNat->(∀x∈ns,0≤x/\x<z)->Q (.ref l) H'
theorem y8N(M:Bl mg)(F:Fun K "_law_row" "_law_row" z8U f fd):B4 P w K mg base CX0 1 f fd z3V y3R:=by
 have nd:=z9u.nd
 refine F.ok z9u (fun vs H Q E h=>?_) (fun cdv A outer s H vs Q E hr h=>?_)
 ·obtain⟨c,m,z,rfl,_⟩:=h
  rfl
 obtain⟨c,m,z,rfl,m0,m1,z0,z1,q⟩:=h
 refine⟨_,(z04 (z0p (i:=3) nd rfl (Or.inl rfl) (z0u z1F (pv 0) z06)) (z04 (z0p (i:=4) nd rfl (Or.inl rfl) (z0u z1s (z0u z4V (pv 3) z06) z06)) (z04 (z0p (i:=5) nd rfl (Or.inl rfl) (z1d z02)) (z04 (z0O bR rfl (z1b rfl M.range (z00 (pv 1) z02)) (z0j (i:=6) nd rfl (Or.inl rfl)) (z04 (z0p (i:=4) nd rfl (Or.inl rfl) (z0u z1s (z0u z1u (z0u z1u (z0u z4V (pv 4) z06) (pv 6)) z06) z06)) (z05 (z0E (z0c z2F (z0u z1s (pv 0) z06) z06 (z0o _)) (z04 (z0D (z2O bW bX bY z0Q (pv 5) (z00 (z0u z1s (pv 3) (pv 2)) z02))) (z05 (z0p (i:=3) nd rfl (Or.inl rfl) (z0u z1F (pv 3) (pv 2))))) (z05 (z0D (z2O bW bX bY z0Q (pv 5) (z00 (z0u z1s (z0u z1F (pv 4) z06) (pv 2)) z02)))))))) (z05 (z0i (pv 5))))))),?_⟩
 refine(rdI rfl (ex2 _ _ ⟨rfl,rfl,⟨by decide,by decide⟩,?_⟩))
 refine(rdI rfl (ex2 _ _ ⟨rfl,rfl,.inr ⟨by decide,by decide⟩,(ex2 _ _ ⟨rfl,rfl,(by show(0:Int)<2147483647;decide),?_⟩)⟩))
 refine⟨(by show 0≤sizeLine;decide),fun l hl=>?_⟩
 refine(rdI rfl (rdI rfl ⟨by lia,by lia,?_⟩))
 refine z13 (lo:=0) (n:=m.toNat) (fun i σ H'=>∃(ns:List Int) (r mx:Int) (o:Option V),ns.length=i/\(∀x∈ns,0≤x/\x<z)/\H'=upd H l (.lst (ns.map V.int))/\
  σ=[some (.int c),some (.int m),some (.int z),some (.int r),some (.int mx),some (.ref l),o]) ⟨[],_,_,_,rfl,(fun _ h=>nomatch h),rfl,rfl⟩ (fun i σ H' hi hp=>?_) (fun σ H' hp=>?_)
 ·obtain⟨ns,r,mx,o,hlen,C0,rfl,rfl⟩:=hp
  refine(rdI rfl (ex2 _ _ ⟨rfl,rfl,.inr ⟨by decide,by decide⟩,(rdI rfl (ex2 _ _ ⟨rfl,rfl,(ex2 _ _ ⟨rfl,rfl,(ex2 _ _ ⟨rfl,rfl,(by show(0:Int)<2147483647;decide),?_⟩)⟩)⟩))⟩))
  refine(rdI rfl (ex2 _ _ ⟨rfl,rfl,(by show(0:Int)<2;decide),rfl,(rdI rfl ?_)⟩))
  have grow:∀y:Int,(∀x∈ns++[y%z],0≤x/\x<z):=fun y x hx=>by
   rcases bS.mp hx with h|h
   ·exact C0 x h
   ·rw[bB.mp h]
    exact⟨d9 _ (by lia),cY _ z0⟩
  have put:∀y:Int,upd (upd H l (.lst (ns.map V.int))) l (.lst (ns.map V.int++[.int (y%z)]))=upd H l (.lst ((ns++[y%z]).map V.int)):=fun y=>by
   rw[z5O,bF]
   rfl
  refine B9 (fun _=>?_) (fun _=>?_)
  ·refine(rdI rfl ⟨.inl ⟨rfl,_,SqL.of z03⟩,(rdI rfl (rdI rfl (ex2 _ _ ⟨rfl,rfl,z0,(ex3 l _ _ ⟨rfl,rfl,z03,y04 (n:=i) (by lia) (by lia),?_⟩)⟩)))⟩)
   refine(rdI rfl (rdI rfl (ex2 _ _ ⟨rfl,rfl,⟨z0,z1⟩,?_⟩)))
   exact⟨ns++[r%z],_,_,_,by rw[bN,hlen];rfl,grow r,put r,rfl⟩
  ·refine(rdI rfl ⟨.inl ⟨rfl,_,SqL.of z03⟩,(rdI rfl (ex2 _ _ ⟨rfl,rfl,⟨by decide,by decide⟩,(rdI rfl (ex2 _ _ ⟨rfl,rfl,z0,(ex3 l _ _ ⟨rfl,rfl,z03,y04 (n:=i) (by lia) (by lia),?_⟩)⟩))⟩))⟩)
   exact⟨ns++[_%z],_,_,_,by rw[bN,hlen];rfl,grow _,put _,rfl⟩
 ·obtain⟨ns,r,mx,o,hlen,C0,rfl,rfl⟩:=hp
  exact(rdI rfl (q l ns _ hl (z01 hl _) z03 hlen C0))
theorem z2A(x:Int)(ns:List Int):inV (.int x) (ns.map V.int)=decide (x∈ns):=by
 unfold inV
 rw[d8,hZ,jF,decide_eq_true_eq]
 constructor
 ·rintro⟨y,hy,e⟩
  have e':(y == x)=true:=e
  rw[<- eq_of_beq e']
  exact hy
 ·intro h
  exact⟨x,h,show(x == x)=true from beq_self_eq_true x⟩
theorem z2c(ns:List Int):(ns.map V.int).all z2i=true:=by
 rw[kB,fP]
 intro x _
 rfl
theorem y4T{l:List Int}{x:Int}(h:l.Pairwise (· < ·))(hx:∀y∈l,y<x):(l++[x]).Pairwise (· < ·):=
 cX.mpr ⟨h,eF _ _,fun a ha b hb=>by rw[bB.mp hb];exact hx a ha⟩
theorem y44{l:List Int}(h:l.Pairwise (· < ·)):(l.map fun x=>x+1).Pairwise (· < ·):=by
 rw[dO]
 exact h.imp fun {a b} h=>by lia
theorem y18:∀{l:List Int},l.Pairwise (·≤·)->l.Nodup->l.Pairwise (· < ·)
 | [],_,_=>.nil
 | x::r,h,n=>by
  rw[hW] at h ⊢
  rw[dB] at n
  refine⟨fun y hy=>?_,y18 h.2 n.2⟩
  have:=h.1 y hy
  have:x≠y:=fun e=>n.1 (e ▸ hy)
  lia
noncomputable def y8R:Sp:=fun vs H Q _=>∃c m:Int,vs=[.int c,.int m]/\0≤m/\m≤60/\
 ∀(l:Addr) (ns:List Int) (H':Hp),H l=none->B0 H H'->H' l=some (.lst (ns.map V.int))->ns.Pairwise (· < ·)->(∀x∈ns,1≤x/\x≤m)->ns.length≤60->Q (.ref l) H'
theorem y8f(M:Bl mg)(F:Fun K "_law_had" "_law_had" z88 f fd)(D1:Cal P w K mg base 1 "_law_row" z3V y3R):B4 P w K mg base CX0 2 f fd z8t y8R:=by
 have nd:=z9g.nd
 refine F.ok z9g (fun vs H Q E h=>?_) (fun cdv A outer s H vs Q E hr h=>?_)
 ·obtain⟨c,m,rfl,_⟩:=h
  rfl
 obtain⟨c,m,rfl,m0,m1,q⟩:=h
 refine⟨_,(z04 (z0E (z0c z2F (z0u z1s (pv 0) z06) z06 (z0o _)) (z04 (z0p (i:=2) nd rfl (Or.inr rfl) (z0e D1 (rm hr) rfl (z00 (z0u z1F (pv 0) z06) (z00 (pv 1) (z00 z06 z02))))) (z05 (z0i (z15 ["_law_k"] ["_law_flags"] [2] rfl (z0w rfl (by decide +kernel) rfl (by decide +kernel) rfl rfl) (z1b rfl M.range (z00 (pv 1) z02)) (fun _ _ _ _ _=>(z0j (i:=0) (show((["_law_k"]:List PySem.Str)++(["_law_flags"]:List PySem.Str)).Nodup from by decide +kernel) rfl (Or.inl rfl))) (z0y (by decide)) z0h (fun _ _ _ _ _=>(z2f (z0c z2F (z0B (r:=w0j K) z0Y (pv 1) (pv 0) (fun _ _=>rfl)) z06 (z0o _)))) (fun _ _ _ _ _=>(z0u z1u (pv 0) z06)))))) z0l) (z04 (z0p (i:=3) nd rfl (Or.inl rfl) (z1d z02)) (z04 (z0E (z0c z2F (z0u z1s (pv 0) z06) z06 (z0o _)) (z04 (z0p (i:=4) nd rfl (Or.inl rfl) z06) (z04 (z0O bR rfl (z16 (z0e D1 (rm hr) rfl (z00 (z0u z1F (pv 0) z06) (z00 (pv 1) (z00 z06 z02))))) (z0j (i:=5) nd rfl (Or.inl rfl)) (z04 (z0p (i:=4) nd rfl (Or.inl rfl) (z0u z1u (z0u z1u (pv 4) z06) (pv 5))) (z05 (z0E (z0c y1E (pv 4) (pv 1) (z0o _)) (z05 (z0D (z2O bW bX bY z0Q (pv 3) (z00 (pv 4) z02)))) z0l)))) (z05 (z0i (pv 3))))) z0l) (z04 (z0O bR rfl (z16 (z0e D1 (rm hr) rfl (z00 (z0u z1F (pv 0) z06) (z00 z06 (z00 (z0u z1u (pv 1) z06) z02))))) (z0j (i:=6) nd rfl (Or.inl rfl)) (z05 (z0E (PW.pt (z3l (z0c z2p (pv 6) z06 (z0o _)) (z2k (z0c z1x (pv 6) (pv 3) (by with_unfolding_all rfl))))) (z05 (z0D (z2O bW bX bY z0Q (pv 3) (z00 (pv 6) z02)))) z0l))) (z05 (z0i (z0b z8V rfl M.sorted fR (z00 (pv 3) z02)))))))),?_⟩
 refine(rdI rfl (ex2 _ _ ⟨rfl,rfl,(by show(0:Int)<3;decide),rfl,(rdI rfl ?_)⟩))
 refine B9 (fun _=>?_) (fun _=>?_)
 ·refine(rdI rfl (ex2 _ _ ⟨rfl,rfl,⟨by decide,by decide⟩,(rdI rfl (ex3 _ m 2 ⟨rfl,m0,by lia,by decide,by decide,fun lf fs H1 nlf s1 e1 Q5 all1=>?_⟩))⟩))
  refine(rdI rfl (rdI rfl ⟨by lia,by lia,?_⟩))
  refine z8B (lo:=0) (n:=m.toNat) (fun k=>decide (fs.getD k.toNat 0=1)) (fun k=>.int (k+1)) (by lia) (fun k ys N k0 k1 hN=>?_) ?_
  ·refine(rdI rfl (rdI rfl (ex4 lf _ _ _ ⟨rfl,rfl,SqL.of e1,z41 k0 (by lia),rfl,(rdI rfl ?_)⟩)))
   refine B9 (fun c2=>?_) (fun c2=>?_)
   ·have c3:decide (fs.getD k.toNat 0=1)=true:=decide_eq_true (V.int.inj (z0I c2))
    rw[if_pos c3] at hN
    exact(rdI rfl (ex2 _ _ ⟨rfl,rfl,hN⟩))
   ·have c3:¬decide (fs.getD k.toNat 0=1)=true:=fun z=>c2 (decide_eq_true (congrArg V.int (z0I z)))
    rw[if_neg c3] at hN
    exact hN
  ·intro D hD
   have e:z2a (fun k=>decide (fs.getD k.toNat 0=1)) (fun k=>V.int (k+1)) (upI 0 m.toNat)=(((upI 0 m.toNat).filter fun k=>decide (fs.getD k.toNat 0=1)).map fun x=>x+1).map V.int:=by
    unfold z2a
    rw[dR]
    rfl
   refine q D (((upI 0 m.toNat).filter fun k=>decide (fs.getD k.toNat 0=1)).map fun x=>x+1) _ (s1.free hD) (s1.trans (z01 hD _)) ?_ (y44 ((z1z 0 _).filter _)) (fun x hx=>?_) ?_
   ·rw[z03,e]
   ·obtain⟨y,hy,rfl⟩:=cM.mp hx
    have:=z1e.mp (cK.mp hy).1
    lia
   ·rw[b9]
    have h:=c6 (fun k:Int=>decide (fs.getD k.toNat 0=1)) (upI 0 m.toNat)
    rw[z0L] at h
    lia
 ·refine⟨(by show 0≤sizeLine;decide),fun l hl=>?_⟩
  refine(rdI rfl (ex2 _ _ ⟨rfl,rfl,(by show(0:Int)<3;decide),rfl,(rdI rfl ?_)⟩))
  refine B9 (fun _=>?_) (fun _=>?_)
  ·refine(rdI rfl (ex2 _ _ ⟨rfl,rfl,⟨by decide,by decide⟩,(rdI rfl (ex3 _ m 15 ⟨rfl,m0,by lia,by decide,by decide,fun lf fs H1 nlf s1 e1 Q5 all1=>?_⟩))⟩))
   have nl:lf≠l:=fun z=>by rw[z,z03] at nlf;cases nlf
   refine⟨lf,rfl,⟨_,SqL.of e1⟩,?_⟩
   refine z1g (xs:=fs.map V.int) (fun i σ H'=>∃(ns:List Int) (x:Int) (o1 o2 o3:Option V),ns.Pairwise (· < ·)/\(∀y∈ns,1≤y/\y≤m/\y≤x)/\0≤x/\ns.length≤i/\H' l=some (.lst (ns.map V.int))/\H' lf=some (.lst (fs.map V.int))/\B0 H H'/\
    σ=[some (.int c),some (.int m),o1,some (.ref l),some (.int x),o2,o3]) ⟨[],0,_,_,_,.nil,(fun _ h=>nomatch h),eS 0,bI 0,s1 _ _ z03,e1,(z01 hl _).trans s1,rfl⟩ (fun i σ H' hi hp=>?_) (fun i x σ H' hx hp=>?_) (fun σ H' hp=>?_)
   ·obtain⟨ns,x,o1,o2,o3,_,_,_,_,_,h2,_⟩:=hp
    exact SqL.of h2
   ·obtain⟨ns,v,o1,o2,o3,p1,p2,p3,p4,p5,p6,p7,rfl⟩:=hp
    rw[bC] at hx
    cases ef:fs[i]? with
    | none=>rw[ef] at hx;cases hx
    | some j=>
     rw[ef] at hx
     cases hx
     have hj:=all1 j (bP ef)
     have hi:i<fs.length:=(bV.mp ef).1
     refine(rdI rfl (ex2 _ _ ⟨rfl,rfl,(rdI rfl (ex2 _ _ ⟨rfl,rfl,?_⟩))⟩))
     refine(rdI rfl (rdI rfl (ex2 _ _ ⟨rfl,rfl,(rdI rfl ?_)⟩)))
     refine B9 (fun c2=>?_) (fun c2=>?_)
     ·have c3:=z0I c2
      refine(rdI rfl ⟨.inl ⟨rfl,_,SqL.of p5⟩,(rdI rfl (ex3 l _ _ ⟨rfl,rfl,p5,y04 (n:=i) p4 (by lia),?_⟩))⟩)
      refine⟨ns++[v+1+j],v+1+j,_,_,_,y4T p1 fun y hy=>by have:=p2 y hy;lia,fun y hy=>?_,by lia,by rw[bN,eM];lia,?_,?_,z1y p7 hl,rfl⟩
      ·rcases bS.mp hy with h|h
       ·have:=p2 y h;lia
       ·rw[bB.mp h];lia
      ·rw[z03,bF];rfl
      ·rw[z0k nl];exact p6
     ·exact⟨ns,v+1+j,_,_,_,p1,fun y hy=>by have:=p2 y hy;lia,by lia,by lia,p5,p6,p7,rfl⟩
   ·obtain⟨ns,x,o1,o2,o3,p1,p2,p3,p4,p5,p6,p7,rfl⟩:=hp
    rw[b9] at p4
    exact(rdI rfl (q l ns _ hl p7 p5 p1 (fun y hy=>⟨(p2 y hy).1,(p2 y hy).2.1⟩) (by lia)))
  ·refine(rdI rfl (ex2 _ _ ⟨rfl,rfl,⟨by decide,by decide⟩,(rdI rfl (ex2 _ _ ⟨rfl,rfl,(ex3 _ 4 (m+1) ⟨rfl,by decide,by decide,by lia,by lia,fun lf fs H1 nlf s1 e1 Q5 all1=>?_⟩)⟩))⟩))
   have nl:lf≠l:=fun z=>by rw[z,z03] at nlf;cases nlf
   refine⟨lf,rfl,⟨_,SqL.of e1⟩,?_⟩
   refine z1g (xs:=fs.map V.int) (fun i σ H'=>∃(ns:List Int) (o1 o2 o3 o4:Option V),ns.Nodup/\(∀y∈ns,1≤y/\y≤m)/\ns.length≤i/\H' l=some (.lst (ns.map V.int))/\H' lf=some (.lst (fs.map V.int))/\B0 H H'/\
    σ=[some (.int c),some (.int m),o1,some (.ref l),o2,o3,o4]) ⟨[],_,_,_,_,.nil,(fun _ h=>nomatch h),bI 0,s1 _ _ z03,e1,(z01 hl _).trans s1,rfl⟩ (fun i σ H' hi hp=>?_) (fun i x σ H' hx hp=>?_) (fun σ H' hp=>?_)
   ·obtain⟨ns,o1,o2,o3,o4,_,_,_,_,h2,_⟩:=hp
    exact SqL.of h2
   ·obtain⟨ns,o1,o2,o3,o4,p1,p2,p4,p5,p6,p7,rfl⟩:=hp
    rw[bC] at hx
    cases ef:fs[i]? with
    | none=>rw[ef] at hx;cases hx
    | some j=>
     rw[ef] at hx
     cases hx
     have hj:=all1 j (bP ef)
     have hi:i<fs.length:=(bV.mp ef).1
     have same:∃(ns':List Int) (o1 o2 o3 o4:Option V),ns'.Nodup/\(∀y∈ns',1≤y/\y≤m)/\ns'.length≤i+1/\H' l=some (.lst (ns'.map V.int))/\H' lf=some (.lst (fs.map V.int))/\B0 H H'/\
       ([some (.int c),some (.int m),o1,some (.ref l),o2,o3,o4]:St)=[some (.int c),some (.int m),o1,some (.ref l),o2,o3,o4]:=⟨ns,o1,o2,o3,o4,p1,p2,by lia,p5,p6,p7,rfl⟩
     refine(rdI rfl (ex2 _ _ ⟨rfl,rfl,(rdI rfl ?_)⟩))
     refine B9 (fun c2=>?_) (fun c2=>?_)
     ·have c3:=z0I c2
      refine(rdI rfl (rdI rfl (ex2 l _ ⟨rfl,.inl (SqL.of p5),rfl,z2c ns,(rdI rfl ?_)⟩)))
      rw[if_pos rfl,z2A]
      refine B9 (fun c4=>?_) (fun c4=>?_)
      ·have c5:j∉ns:=fun z=>by rw[decide_eq_true z] at c4;exact absurd c4 bM
       refine(rdI rfl ⟨.inl ⟨rfl,_,SqL.of p5⟩,(rdI rfl (ex3 l _ _ ⟨rfl,rfl,p5,y04 (n:=i) p4 (by lia),?_⟩))⟩)
       refine⟨ns++[j],_,_,_,_,?_,fun y hy=>?_,by rw[bN,eM];lia,?_,?_,z1y p7 hl,rfl⟩
       ·rw[j8]
        exact⟨p1,dB.mpr ⟨d6,List.nodup_nil⟩,fun y hy z hz=>by rw[bB.mp hz];exact fun e=>c5 (e ▸ hy)⟩
       ·rcases bS.mp hy with h|h
        ·exact p2 y h
        ·rw[bB.mp h];lia
       ·rw[z03,bF];rfl
       ·rw[z0k nl];exact p6
      ·exact⟨ns,_,_,_,_,p1,p2,by lia,p5,p6,p7,rfl⟩
     ·refine B8 ?_
      exact⟨ns,_,_,_,_,p1,p2,by lia,p5,p6,p7,rfl⟩
   ·obtain⟨ns,o1,o2,o3,o4,p1,p2,p4,p5,p6,p7,rfl⟩:=hp
    rw[b9] at p4
    refine(rdI rfl (ex2 l ns ⟨rfl,SqL.of p5,by lia,fun l2 ns2 hl2 perm srt=>?_⟩))
    refine q l2 ns2 _ (p7.free hl2) (p7.trans (z01 hl2 _)) z03 (y18 srt (perm.nodup_iff.mpr p1)) (fun x hx=>p2 x (perm.mem_iff.mp hx)) ?_
    have:=perm.length_eq
    lia
noncomputable def z1i(ns:List Int):List Int:=(upI 1 60).filter fun x=>decide (x∉ns) && decide (∃y∈ns,x<y)
theorem z0U{ns:List Int}{x:Int}:x∈z1i ns↔(1≤x/\x<1+60)/\x∉ns/\∃y∈ns,x<y:=by
 unfold z1i
 rw[cK,z1e,cG,decide_eq_true_eq,decide_eq_true_eq]
 rfl
theorem z2t(ns:List Int):(z1i ns).Pairwise (· < ·):=(z1z 1 60).filter _
theorem z2j(ns:List Int):(z1i ns).length≤60:=by
 have h:=c6 (fun x=>decide (x∉ns) && decide (∃y∈ns,x<y)) (upI 1 60)
 rw[z0L] at h
 exact h
theorem y43{ns:List Int}{m:Int}(hm:m∈ns)(C0:∀x∈ns,1≤x/\x≤60)(top:∀y∈ns,y≤m):(upI 1 (m+1-1).toNat).filter (fun x=>!decide (x∈ns))=z1i ns:=
 z1Z ((z1z _ _).filter _) (z2t _) fun x=>by
  have hm':=C0 m hm
  rw[cK,z1e,z0U,k7,decide_eq_false_iff_not]
  constructor
  ·rintro⟨⟨a,b⟩,c⟩
   refine⟨by lia,c,m,hm,?_⟩
   have:x≠m:=fun e=>c (e ▸ hm)
   lia
  ·rintro⟨a,b,y,hy,c⟩
   have:=top y hy
   exact⟨by lia,b⟩
theorem y19:z1i []=[]:=by
 refine z1Z (z2t _) .nil fun x=>?_
 rw[z0U]
 constructor
 ·rintro⟨_,_,y,hy,_⟩
  cases hy
 ·intro h
  cases h
theorem SqI.keep{K:PySem.W.Frag}{H H':Hp}{a:Addr}{ns:List Int}(e:B0 H H')(h:SqI K H a ns):SqI K H' a ns:=by
 rcases h with h|h
 ·exact .inl (e.seq h)
 ·rcases h with (h|⟨o,h⟩)|h
  ·exact .inr (.inl (.inl (e _ _ h)))
  ·exact .inr (.inl (.inr ⟨o,e _ _ h⟩))
  ·exact .inr (.inr h)
theorem z9H{c:Int->Bool}{t:Int}:∀{l:List Int},l.Pairwise (· < ·)->t∈l->c t=true->(∀y∈l,c y=true->t≤y)->l.find? c=some t
 | [],_,h,_,_=>by cases h
 | x::r,p,h,hc,hm=>by
  rw[hW] at p
  rw[dU]
  rcases bE.mp h with rfl|h
  ·rw[hc]
  ·cases e:c x with
   | true=>
    have h1:=p.1 t h
    have h2:=hm x cC e
    lia
   | false=>exact z9H p.2 h hc fun y hy=>hm y (bZ _ hy)
theorem y3v{c:Int->Bool}{t:Int}:∀{l:List Int},l.Pairwise (· < ·)->l.find? c=some t->t∈l/\c t=true/\∀y∈l,c y=true->t≤y
 | [],_,h=>by cases h
 | x::r,p,h=>by
  rw[hW] at p
  rw[dU] at h
  cases e:c x with
  | true=>
   rw[e] at h
   have h':x=t:=Option.some.inj h
   subst h'
   refine⟨cC,e,fun y hy _=>?_⟩
   rcases bE.mp hy with rfl|hy
   ·exact eS _
   ·have:=p.1 y hy
    lia
  | false=>
   rw[e] at h
   obtain⟨h1,h2,h3⟩:=y3v p.2 h
   refine⟨bZ _ h1,h2,fun y hy hc=>?_⟩
   rcases bE.mp hy with rfl|hy
   ·rw[e] at hc
    cases hc
   ·exact h3 y hy hc
noncomputable def y1r(ns:List Int)(n r:Int)(y:Int):Bool:=decide (n<y) && decide (y-r≤n) && decide (y∈ns)
noncomputable def z0F(ns:List Int)(n r:Int):Int:=((upI 1 60).find? (y1r ns n r)).getD 0
theorem z4z{ns:List Int}{n r y:Int}:y1r ns n r y=true↔n<y/\y-r≤n/\y∈ns:=by
 unfold y1r
 rw[cG,cG,decide_eq_true_eq,decide_eq_true_eq,decide_eq_true_eq,and_assoc]
theorem y27{ns:List Int}{n r t:Int}(C0:∀x∈ns,1≤x/\x≤60)(ht:t∈ns)(h1:n<t)(h2:t-r≤n)(hm:∀y∈ns,n<y->y-r≤n->t≤y):z0F ns n r=t:=by
 unfold z0F
 rw[z9H (z1z 1 60) (t:=t) (z1e.mpr (by have:=C0 t ht;lia)) (z4z.mpr ⟨h1,h2,ht⟩) fun y _ hy=>by
  obtain⟨a,b,c⟩:=z4z.mp hy
  exact hm y c a b]
 rfl
theorem z5c{ns:List Int}{n r:Int}(h:∀y∈ns,n<y->¬y-r≤n):z0F ns n r=0:=by
 unfold z0F
 have e:(upI 1 60).find? (y1r ns n r)=none:=jX.mpr fun y _ hy=>by
  obtain⟨a,b,c⟩:=z4z.mp hy
  exact h y c a b
 rw[e]
 rfl
noncomputable def z4E(K:PySem.W.Frag):Sp:=fun vs H Q _=>∃(p:Addr) (ns:List Int) (n r:Int),vs=[.ref p,.int n,.int r]/\SqL K H p (ns.map V.int)/\(∀x∈ns,1≤x/\x≤60)/\ns.length≤900/\0≤r/\
 ∀H',B0 H H'->Q (.int (z0F ns n r)) H'
theorem y2X(M:Bl mg)(F:Fun K "_law_teller" "_law_teller" z4U f fd):B4 P w K mg base CX0 1 f fd z2h (z4E K):=by
 have nd:=z6e.nd
 refine F.ok z6e (fun vs H Q E h=>?_) (fun cdv A outer s H vs Q E hr h=>?_)
 ·obtain⟨p,ns,n,r,rfl,_⟩:=h
  rfl
 obtain⟨p,ns,n,r,rfl,hS,C0,hlen,r0,q⟩:=h
 refine⟨_,(z04 (z5C (i:=3) ["_law_other"] ["_law_number"] [1] rfl nd rfl (Or.inl rfl) (z0w rfl (by decide +kernel) rfl (by decide +kernel) rfl rfl) (z16 (pv 0)) (fun _ _ _ _ _=>(z0j (i:=0) (show((["_law_other"]:List PySem.Str)++(["_law_number"]:List PySem.Str)).Nodup from by decide +kernel) rfl (Or.inl rfl))) (z0y (by decide)) z0h (fun _ _ _ _ _=>(z2f (z0c z2p (pv 0) (pv 1) (z0o _)))) (fun _ _ _ _ _=>(pv 0))) (z04 (z0E (PW.pt (z37 (z0c (y75 hr.P8) (pv 3) (z1d z02) (z0o _)) (z25 (z0c z2p (z0u z23 (z0b (z8A rfl) rfl M.min fA (z00 (pv 3) z02)) (pv 1)) (pv 2) (z0o _))))) (z05 (z0i z06)) z0l) (z05 (z0i (z0b (z8A rfl) rfl M.min fA (z00 (pv 3) z02)))))),?_⟩
 refine(rdI rfl ⟨p,rfl,⟨_,hS⟩,?_⟩)
 refine z8o (ns:=ns) (fun y=>decide (n<y)) (fun y=>.int y) hS (by lia) (fun y ys N hy hN=>?_) (fun D hD=>?_)
 ·refine(rdI rfl (rdI rfl (ex2 _ _ ⟨rfl,rfl,(rdI rfl ?_)⟩)))
  refine B9 (fun c=>?_) (fun c=>?_)
  ·rw[if_pos c] at hN
   exact(rdI rfl hN)
  ·rw[if_neg c] at hN
   exact hN
 have eD:upd H D (.lst (z2a (fun y=>decide (n<y)) (fun y=>V.int y) ns)) D=some (.lst ((ns.filter fun y=>decide (n<y)).map V.int)):=z03
 have sD:=z01 hD (.lst (z2a (fun y=>decide (n<y)) (fun y=>V.int y) ns))
 generalize upd H D (.lst (z2a (fun y=>decide (n<y)) (fun y=>V.int y) ns))=H1 at eD sD
 have mem:∀y,y∈ns.filter (fun y=>decide (n<y))↔y∈ns/\n<y:=fun y=>by rw[cK,decide_eq_true_eq]
 generalize ns.filter (fun y=>decide (n<y))=ab at eD mem
 refine(rdI rfl ⟨(by show 0≤sizeLine;decide),fun e0 he0=>(ex3 D e0 _ ⟨rfl,rfl,SqL.of (z01 he0 _ _ _ eD),SqL.of z03,(rdI rfl ?_)⟩)⟩)
 have s2:=sD.trans (z01 he0 (.lst []))
 cases ab with
 | nil=>
  refine F6 ?_
  have e:z0F ns n r=0:=z5c fun y hy h1 _=>by
   have:=(mem y).mpr ⟨hy,h1⟩
   cases this
  exact(by rw[<- e];exact q _ s2)
 | cons y0 yr=>
  refine B8 ?_
  have eL:=z01 he0 (.lst []) _ _ eD
  generalize upd H1 e0 (.lst [])=H2 at s2 eL
  refine(rdI rfl (ex2 D _ ⟨rfl,.inl (SqL.of eL),by simp,fun m hm hl=>(rdI rfl (ex2 _ _ ⟨rfl,rfl,(rdI rfl (ex2 _ _ ⟨rfl,rfl,(rdI rfl ?_)⟩))⟩))⟩))
  have hm':=(mem m).mp hm
  refine B9 (fun c=>?_) (fun c=>?_)
  ·have c':r<m-n:=z0I c
   have e:z0F ns n r=0:=z5c fun y hy h1 h2=>by
    have:=hl y ((mem y).mpr ⟨hy,h1⟩)
    lia
   exact(by rw[<- e];exact q _ s2)
  ·have c':¬r<m-n:=z4q c
   refine(rdI rfl (ex2 D _ ⟨rfl,.inl (SqL.of eL),by simp,fun m2 hm2 hl2=>?_⟩))
   have h2:=(mem m2).mp hm2
   have e:z0F ns n r=m2:=y27 C0 h2.1 h2.2 (by have:=hl2 m hm;lia) fun y hy h1 _=>hl2 y ((mem y).mpr ⟨hy,h1⟩)
   exact(by rw[<- e];exact q _ s2)
noncomputable def y6P(K:PySem.W.Frag):Sp:=fun vs H Q _=>∃(r:Addr) (ns:List Int) (c:Int),vs=[.ref r,.int c]/\SqL K H r (ns.map V.int)/\ns.length≤60/\
 ∀(l:Addr) (ts:List Int) (H':Hp),H l=none->B0 H H'->H' l=some (.lst (ts.map V.int))->(∀x,x∈ts↔x∈ns)->ts.length≤2*ns.length->Q (.ref l) H'
theorem y3I(ts:List Int)(i:Nat)(x:Int):(ts.map V.int).take i++V.int x::(ts.map V.int).drop i=(ts.take i++x::ts.drop i).map V.int:=by
 rw[bF,cS,List.map_take,List.map_drop]
theorem y1o{ts:List Int}{i:Nat}{x y:Int}:y∈ts.take i++x::ts.drop i↔y=x\/y∈ts:=by
 rw[bS,bE]
 constructor
 ·rintro(h|h|h)
  ·exact .inr (jQ h)
  ·exact .inl h
  ·exact .inr (List.mem_of_mem_drop h)
 ·rintro(h|h)
  ·exact .inr (.inl h)
  ·rw[<- jL i ts,bS] at h
   rcases h with h|h
   ·exact .inl h
   ·exact .inr (.inr h)
theorem y3S{ts:List Int}{i:Nat}{x:Int}(h:i≤ts.length):(ts.take i++x::ts.drop i).length=ts.length+1:=by
 rw[bN,cN,bG,dA]
 lia
theorem y7z(M:Bl mg)(F:Fun K "_law_shuffled" "_law_shuffled" z3t f fd)(D1:Cal P w K mg base 1 "_law_row" z3V y3R):B4 P w K mg base CX0 2 f fd z3A (y6P K):=by
 have nd:=z4y.nd
 refine F.ok z4y (fun vs H Q E h=>?_) (fun cdv A outer s H vs Q E hr h=>?_)
 ·obtain⟨r,ns,c,rfl,_⟩:=h
  rfl
 obtain⟨r,ns,c,rfl,hS,hn,q⟩:=h
 refine⟨_,(z04 (z0p (i:=2) nd rfl (Or.inl rfl) (z0e D1 (rm hr) rfl (z00 (pv 1) (z00 (z0b z09 rfl M.len bO (z00 (pv 0) z02)) (z00 z06 z02))))) (z04 (z0p (i:=3) nd rfl (Or.inl rfl) (z1d z02)) (z04 (z0O bR rfl (z1b rfl M.range (z00 (z0b z09 rfl M.len bO (z00 (pv 0) z02)) z02)) (z0j (i:=4) nd rfl (Or.inl rfl)) (z04 (z0D (z2O bW hU PySem.F.type_list_insert y0D (pv 3) (z00 (z0u z1s (z0B z0Y (pv 2) (pv 4) (fun _ _=>rfl)) (z0u z1u (pv 4) z06)) (z00 (z0B z0Y (pv 0) (pv 4) (fun _ _=>rfl)) z02)))) (z05 (z0E (z0c y4j (z0B z0Y (pv 2) (pv 4) (fun _ _=>rfl)) z06 (z0o _)) (z05 (z0D (z2O bW hU PySem.F.type_list_insert y0D (pv 3) (z00 (z0u z1s (z0B z0Y (pv 2) (pv 4) (fun _ _=>rfl)) (z0u z1u (pv 4) z06)) (z00 (z0B z0Y (pv 0) (pv 4) (fun _ _=>rfl)) z02))))) z0l)))) (z05 (z0i (pv 3)))))),?_⟩
 have hl0:(ns.map V.int).length=ns.length:=b9 _
 refine(rdI rfl (rdI rfl (ex2 r _ ⟨rfl,.inl hS,(ex3 _ _ _ ⟨rfl,by lia,by lia,by decide,by decide,fun lf fs H1 nlf s1 e1 Q5 all1=>?_⟩)⟩)))
 have Y6:fs.length=ns.length:=by rw[Q5,hl0];rfl
 refine⟨(by show 0≤sizeLine;decide),fun l hl=>?_⟩
 have nl:lf≠l:=z0r e1 hl
 refine(rdI rfl (ex2 r _ ⟨rfl,.inl ((s1.trans (z01 hl _)).seq hS),(rdI rfl ⟨by lia,by lia,?_⟩)⟩))
 refine z13 (lo:=0) (n:=(((ns.map V.int).length:Nat):Int).toNat) (fun i σ H'=>∃(ts:List Int) (o:Option V),(∀x,x∈ts↔x∈ns.take i)/\i≤ts.length/\ts.length≤2*i/\H'=upd H1 l (.lst (ts.map V.int))/\
  σ=[some (.ref r),some (.int c),some (.ref lf),some (.ref l),o]) ⟨[],_,fun x=>Iff.rfl,bI 0,bI 0,rfl,rfl⟩ (fun i σ H' hi hp=>?_) (fun σ H' hp=>?_)
 ·obtain⟨ts,o,hm,hlo,hhi,rfl,rfl⟩:=hp
  have hi':i<ns.length:=by
   have:(((ns.map V.int).length:Nat):Int).toNat=ns.length:=by rw[hl0];rfl
   lia
  have ei:(0:Int)+(i:Int)=(i:Int):=eZ _
  have hif:(i:Int)<(fs.length:Int):=by lia
  have gs:∀o:HO,B0 H1 (upd H1 l o):=fun o=>z01 hl o
  have w0z:∀{o:HO},SqL K (upd H1 l o) lf (fs.map V.int):=fun {o}=>SqL.of (gs o _ _ e1)
  have rget:∀{o:HO},SqL K (upd H1 l o) r (ns.map V.int):=fun {o}=>(s1.trans (gs o)).seq hS
  have atf:atI (fs.map V.int) ((0:Int)+(i:Int))=some (.int (fs.getD i 0)):=by
   rw[ei]
   exact z41 (ns:=fs) (k:=(i:Int)) (by lia) hif
  have atn:atI (ns.map V.int) ((0:Int)+(i:Int))=some (.int (ns.getD i 0)):=by
   rw[ei]
   exact z41 (ns:=ns) (k:=(i:Int)) (by lia) (by lia)
  have hget:ns[i]? = some (ns.getD i 0):=by
   rw[bK,bD hi']
   rfl
  have hmem:∀x,x∈ns.take (i+1)↔x=ns.getD i 0\/x∈ns.take i:=fun x=>by
   rw[z0n hget,bS,bB]
   exact Or.comm
  have b1:0≤fs.getD i 0%((0:Int)+(i:Int)+1)/\fs.getD i 0%((0:Int)+(i:Int)+1)≤(i:Int):=by
   have:=d9 (fs.getD i 0) (show(0:Int)+(i:Int)+1≠0 by lia)
   have:=cY (fs.getD i 0) (show(0:Int)<(0:Int)+(i:Int)+1 by lia)
   lia
  have b2:0≤fs.getD i 0%((0:Int)+(i:Int)+2)/\fs.getD i 0%((0:Int)+(i:Int)+2)≤(i:Int)+1:=by
   have:=d9 (fs.getD i 0) (show(0:Int)+(i:Int)+2≠0 by lia)
   have:=cY (fs.getD i 0) (show(0:Int)<(0:Int)+(i:Int)+2 by lia)
   lia
  have hlen:(ts.map V.int).length=ts.length:=b9 _
  refine(rdI rfl ⟨.inl ⟨rfl,_,SqL.of z03⟩,(rdI rfl (rdI rfl (ex4 lf _ _ _ ⟨rfl,rfl,w0z,atf,(rdI rfl (ex2 _ _ ⟨rfl,rfl,(ex2 _ _ ⟨rfl,rfl,(by lia),(rdI rfl (rdI rfl (ex4 r _ _ _ ⟨rfl,rfl,rget,atn,(ex4 l _ _ _ ⟨rfl,rfl,z03,b1.1,by lia,z0f (by lia),?_⟩)⟩)))⟩)⟩))⟩)))⟩)
  rw[z5O,y3I]
  have S8:=y3S (ts:=ts) (i:=(fs.getD i 0%((0:Int)+(i:Int)+1)).toNat) (x:=ns.getD i 0) (by lia)
  refine(rdI rfl (rdI rfl (ex4 lf _ _ _ ⟨rfl,rfl,w0z,atf,(ex2 _ _ ⟨rfl,rfl,(rdI rfl ?_)⟩)⟩)))
  refine B9 (fun _=>?_) (fun _=>?_)
  ·refine(rdI rfl ⟨.inl ⟨rfl,_,SqL.of z03⟩,(rdI rfl (rdI rfl (ex4 lf _ _ _ ⟨rfl,rfl,w0z,atf,(rdI rfl (ex2 _ _ ⟨rfl,rfl,(ex2 _ _ ⟨rfl,rfl,(by lia),(rdI rfl (rdI rfl (ex4 r _ _ _ ⟨rfl,rfl,rget,atn,(ex4 l _ _ _ ⟨rfl,rfl,z03,b2.1,?_,?_,?_⟩)⟩)))⟩)⟩))⟩)))⟩)
   ·rw[b9,S8]
    lia
   ·rw[b9,S8]
    exact z0f (by lia)
   ·rw[z5O,y3I]
    have w08:=y3S (ts:=ts.take (fs.getD i 0%((0:Int)+(i:Int)+1)).toNat++ns.getD i 0::ts.drop (fs.getD i 0%((0:Int)+(i:Int)+1)).toNat) (i:=(fs.getD i 0%((0:Int)+(i:Int)+2)).toNat) (x:=ns.getD i 0) (by rw[S8];lia)
    refine⟨_,_,fun x=>?_,?_,?_,rfl,rfl⟩
    ·rw[y1o,y1o,hmem,hm]
     constructor
     ·rintro(h|h|h)
      ·exact .inl h
      ·exact .inl h
      ·exact .inr h
     ·rintro(h|h)
      ·exact .inl h
      ·exact .inr (.inr h)
    ·rw[w08,S8]
     lia
    ·rw[w08,S8]
     lia
  ·refine⟨_,_,fun x=>?_,?_,?_,rfl,rfl⟩
   ·rw[y1o,hmem,hm]
   ·rw[S8]
    lia
   ·rw[S8]
    lia
 ·obtain⟨ts,o,hm,hlo,hhi,rfl,rfl⟩:=hp
  have e:(((ns.map V.int).length:Nat):Int).toNat=ns.length:=by rw[hl0];rfl
  rw[e] at hm hhi
  rw[bT] at hm
  exact(rdI rfl (q l ts _ (s1.free hl) (s1.trans (z01 hl _)) z03 hm hhi))
noncomputable def y1j:Sp:=fun vs H Q _=>∃i:Int,vs=[.int i]/\Q (.bl true) H
theorem y5A(M:Bl mg)(F:Fun K "_law_whole" "_law_whole" z5F f fd):B4 P w K mg base CX0 1 f fd z48 y1j:=by
 have nd:=z7v.nd
 refine F.ok z7v (fun vs H Q E h=>?_) (fun cdv A outer s H vs Q E hr h=>?_)
 ·obtain⟨i,rfl,_⟩:=h
  rfl
 obtain⟨i,rfl,q⟩:=h
 refine⟨_,(z05 (z0i (y74 (z0b z0M rfl M.isinstance cH (z00 (pv 0) (z00 (z28 (v:=.ty "int") rfl M.int jJ rfl) z02))) (y6Y (y6D (z0b z0M rfl M.isinstance cH (z00 (pv 0) (z00 (z28 (v:=.ty "bool") rfl M.bool jA rfl) z02)))))))),?_⟩
 have k2:=z3Y (K:=K) "bool" (.inr (.inl rfl)) (x:=.int i) rfl
 have k3:=z3Y (K:=K) "int" (.inr (.inr (.inl rfl))) (x:=.int i) rfl
 refine(rdI rfl (ex4 _ _ _ _ ⟨rfl,.int i,k3,(rdI rfl ?_)⟩))
 refine F6 (rdI rfl (ex4 _ _ _ _ ⟨rfl,.int i,k2,?_⟩))
 exact(rdI rfl q)
noncomputable def sgL:List Nat:=(("mM ~aA0.xX_9":Str).cps.toList)
theorem y1L:sgL.length=12:=by decide +kernel
theorem y4J:sgL.Nodup:=by decide +kernel
abbrev Z4:Str:="a stranger of twenty"
abbrev z9J:Str:="a long stem of them"
structure Nms(nm:List Str):Prop where
 nd:nm.Nodup
 lo:∀x∈nm,1≤x.length
 hi:∀x∈nm,x.length≤20
 far:Z4∉nm
theorem y1b(a b:Str):(a++b).cps.toList=a.cps.toList++b.cps.toList:=by
 show(a.cps++b.cps).toList=_
 simp
theorem y85(c:Nat):(⟨#[c]⟩:Str).cps.toList=[c]:=rfl
theorem z4T{α β:Type}{g:α->β}:∀{l:List α},l.Nodup->(∀x∈l,∀y∈l,g x=g y->x=y)->(l.map g).Nodup
 | [],_,_=>List.nodup_nil
 | x::r,n,h=>by
  rw[dB] at n
  rw[cS,dB]
  refine⟨fun hm=>?_,z4T n.2 fun a ha b hb=>h a (bZ _ ha) b (bZ _ hb)⟩
  obtain⟨y,hy,e⟩:=cM.mp hm
  have:=h x cC y (bZ _ hy) e.symm
  exact n.1 (this ▸ hy)
theorem y0K(lo:Int)(n:Nat):(upI lo n).Nodup:=(z1z lo n).imp fun {a b} h=>by lia
theorem y21{t a b:Int}(ht:0≤t)(ht2:t<12)(a0:0≤a)(a1:a<12)(b0:0≤b)(b1:b<12)(h:(t+a)%12=(t+b)%12):a=b:=by lia
noncomputable def Z1(c:Nat)(t k:Int):Str:=Y7 ⟨#[c]⟩ (1+(t+k)%12).toNat
theorem z6k(c:Nat)(t k:Int):(Z1 c t k).length=(1+(t+k)%12).toNat:=by
 unfold Z1
 rw[<- z1U]
 show((List.replicate _ [c]).flatten.toArray).toList.length=_
 simp
theorem y7C(c:Nat){t:Int}(h0:0≤t)(h1:t<12){m:Nat}(hm:m≤12):Nms ((upI 0 m).map (Z1 c t)) where
 nd:=z4T (y0K _ _) fun a ha b hb e=>by
  have ha':=z1e.mp ha
  have hb':=z1e.mp hb
  have e2:=congrArg Str.length e
  rw[z6k,z6k] at e2
  exact y21 h0 h1 (by lia) (by lia) (by lia) (by lia) (by lia)
 lo:=fun x hx=>by
  obtain⟨k,hk,rfl⟩:=cM.mp hx
  rw[z6k]
  lia
 hi:=fun x hx=>by
  obtain⟨k,hk,rfl⟩:=cM.mp hx
  rw[z6k]
  lia
 far:=fun hx=>by
  obtain⟨k,hk,e⟩:=cM.mp hx
  have e2:=congrArg Str.length e
  rw[z6k] at e2
  have e3:Z4.length=20:=by decide +kernel
  lia
noncomputable def y02(st:Str)(sp:Int)(t k:Int):Str:=Q2 st none (some sp)++⟨#[sgL.getD ((t+k)%12).toNat 0]⟩++Q2 st (some sp) none
theorem y2v{n d:Nat}{v:Int}(h0:0≤v)(h1:v≤n):HT.sIx n d (some v)=v.toNat:=by
 show(if v<0 then (v+(n:Int)).toNat else min v.toNat n)=_
 rw[if_neg (by lia),gY (by lia)]
theorem y6J(st:Str){sp:Int}(h0:0≤sp)(h1:sp≤st.length):(Q2 st none (some sp)).cps.toList=st.cps.toList.take sp.toNat:=by
 show((st.cps.toList.drop 0).take (HT.sIx st.length st.length (some sp)-0))=_
 rw[y2v h0 h1,fM,hV]
theorem y6O(st:Str){sp:Int}(h0:0≤sp)(h1:sp≤st.length):(Q2 st (some sp) none).cps.toList=st.cps.toList.drop sp.toNat:=by
 show((st.cps.toList.drop (HT.sIx st.length 0 (some sp))).take (st.length-HT.sIx st.length 0 (some sp)))=_
 rw[y2v h0 h1,cO]
 rw[dA,z1U]
 exact bI _
theorem z6E(st:Str){sp:Int}(h0:0≤sp)(h1:sp≤st.length)(t k:Int):(y02 st sp t k).cps.toList=st.cps.toList.take sp.toNat++sgL.getD ((t+k)%12).toNat 0::st.cps.toList.drop sp.toNat:=by
 unfold y02
 rw[y1b,y1b,y6J st h0 h1,y6O st h0 h1,y85,eV]
 rfl
theorem z86(st:Str){sp:Int}(h0:0≤sp)(h1:sp≤st.length)(t k:Int):(y02 st sp t k).length=st.length+1:=by
 rw[<- z1U,z6E st h0 h1,bN,cN,bG,dA,z1U]
 lia
theorem y6r:∀s<20,∀i<12,z9J.cps.toList.take s++sgL.getD i 0::z9J.cps.toList.drop s≠Z4.cps.toList:=by decide +kernel
theorem y64{st:Str}(hst:st=""\/st="row"\/st=z9J){sp:Int}(h0:0≤sp)(h1:sp≤st.length){t:Int}(t0:0≤t)(t1:t<12){m:Nat}(hm:m≤12):Nms ((upI 0 m).map (y02 st sp t)) where
 nd:=z4T (y0K _ _) fun a ha b hb e=>by
  have ha':=z1e.mp ha
  have hb':=z1e.mp hb
  have e2:(y02 st sp t a).cps.toList=(y02 st sp t b).cps.toList:=congrArg (fun z:Str=>z.cps.toList) e
  rw[z6E st h0 h1,z6E st h0 h1] at e2
  have e3:=List.append_cancel_left e2
  have e4:sgL.getD ((t+a)%12).toNat 0=sgL.getD ((t+b)%12).toNat 0:=(List.cons.inj e3).1
  have l1:((t+a)%12).toNat<sgL.length:=by rw[y1L];lia
  have l2:((t+b)%12).toNat<sgL.length:=by rw[y1L];lia
  rw[bK,bD l1,bK,bD l2] at e4
  have e5:=(List.getElem_inj y4J).mp e4
  exact y21 t0 t1 (by lia) (by lia) (by lia) (by lia) (by lia)
 lo:=fun x hx=>by
  obtain⟨k,hk,rfl⟩:=cM.mp hx
  rw[z86 st h0 h1]
  lia
 hi:=fun x hx=>by
  obtain⟨k,hk,rfl⟩:=cM.mp hx
  rw[z86 st h0 h1]
  have l1:("":Str).length=0:=by decide +kernel
  have l2:("row":Str).length=3:=by decide +kernel
  have l3:z9J.length=19:=by decide +kernel
  rcases hst with rfl|rfl|rfl<;>lia
 far:=fun hx=>by
  obtain⟨k,hk,e⟩:=cM.mp hx
  have l1:("":Str).length=0:=by decide +kernel
  have l2:("row":Str).length=3:=by decide +kernel
  have l3:z9J.length=19:=by decide +kernel
  have l4:Z4.length=20:=by decide +kernel
  have e2:=congrArg Str.length e
  rw[z86 st h0 h1] at e2
  rcases hst with rfl|rfl|rfl
  ·lia
  ·lia
  ·have e3:(y02 z9J sp t k).cps.toList=Z4.cps.toList:=congrArg (fun z:Str=>z.cps.toList) e
   rw[z6E z9J h0 h1] at e3
   exact y6r sp.toNat (by lia) ((t+k)%12).toNat (by lia) e3
noncomputable def y5j:Sp:=fun vs H Q _=>∃c m:Int,vs=[.int c,.int m]/\0≤m/\m≤12/\
 ∀(l:Addr) (nm:List Str) (H':Hp),H l=none->B0 H H'->H' l=some (.lst (nm.map V.str))->nm.length=m.toNat->Nms nm->Q (.ref l) H'
theorem y2t{f:Int->V}(l:List Int):z2a (fun _=>true) f l=l.map f:=by
 unfold z2a
 rw[List.filter_eq_self.mpr fun _ _=>rfl]
theorem y5U(M:Bl mg)(F:Fun K "_law_named" "_law_named" z67 f fd):B4 P w K mg base CX0 1 f fd z5Q y5j:=by
 have nd:=z7A.nd
 refine F.ok z7A (fun vs H Q E h=>?_) (fun cdv A outer s H vs Q E hr h=>?_)
 ·obtain⟨c,m,rfl,_⟩:=h
  rfl
 obtain⟨c,m,rfl,m0,m1,q⟩:=h
 refine⟨_,(z04 (z0p (i:=2) nd rfl (Or.inr rfl) z5B) (z04 (z0p (i:=3) nd rfl (Or.inr rfl) (z0u z1s (z0u z1F (pv 0) z06) z06)) (z04 (z0E (z0c z2F (z0u z1s (pv 0) z06) z06 (z0o _)) (z05 (z0i (z15 ["_law_k"] ["_law_cell","_law_turn"] [0,3] rfl (z0w rfl (by decide +kernel) rfl (by decide +kernel) rfl rfl) (z1b rfl M.range (z00 (pv 1) z02)) (fun _ _ _ _ _=>(z0j (i:=0) (show((["_law_k"]:List PySem.Str)++(["_law_cell","_law_turn"]:List PySem.Str)).Nodup from by decide +kernel) rfl (Or.inl rfl))) (z0y (by decide)) z0h (fun _ _ _ _ _=>z1E) (fun _ _ _ _ _=>(z0u y2S (z0B y4A z5B (z0u z1s (z0u z1F (pv 1) z06) z06) (fun _ _=>rfl)) (z0u z1u z06 (z0u z1s (z0u z1u (pv 2) (pv 0)) z06))))))) z0l) (z04 (z0p (i:=4) nd rfl (Or.inr rfl) (z0B z0Y (z1d (z00 z5B (z00 z5B (z00 z5B z02)))) (z0u z1s (pv 0) z06) (fun _ _=>rfl))) (z04 (z0p (i:=5) nd rfl (Or.inr rfl) (z0u z1s (z0u z1F (pv 0) z06) (z0u z1u (z0b y0X rfl M.len bO (z00 (pv 4) z02)) z06))) (z05 (z0i (z15 ["_law_k"] ["_law_stem","_law_signs","_law_spot","_law_turn"] [4,2,5,3] rfl (z0w rfl (by decide +kernel) rfl (by decide +kernel) rfl rfl) (z1b rfl M.range (z00 (pv 1) z02)) (fun _ _ _ _ _=>(z0j (i:=0) (show((["_law_k"]:List PySem.Str)++(["_law_stem","_law_signs","_law_spot","_law_turn"]:List PySem.Str)).Nodup from by decide +kernel) rfl (Or.inl rfl))) (z0y (by decide)) z0h (fun _ _ _ _ _=>z1E) (fun _ _ _ _ _=>(z0u z9t (z0u z9t (z3n y6T (pv 1) z4G (z4M (pv 3))) (z0B y4A (pv 2) (z0u z1s (z0u z1u (pv 4) (pv 0)) z06) (fun _ _=>rfl))) (z3n y6T (pv 1) (z4M (pv 3)) z4G))))))))))),?_⟩
 have t0:0≤c / 4%12:=d9 _ (by decide)
 have t1:c / 4%12<12:=cY _ (by decide)
 refine(rdI rfl (ex2 _ _ ⟨rfl,rfl,⟨by decide,by decide⟩,(ex2 _ _ ⟨rfl,rfl,(by show(0:Int)<12;decide),?_⟩)⟩))
 refine(rdI rfl (ex2 _ _ ⟨rfl,rfl,(by show(0:Int)<4;decide),rfl,(rdI rfl ?_)⟩))
 refine B9 (fun _=>?_) (fun cn=>?_)
 ·obtain⟨sg,hsg⟩:∃sg,atI (("a ~":Str).cps.toList) (c / 48%3)=some sg:=by
   have h0:0≤c / 48%3:=d9 _ (by decide)
   have h1:c / 48%3<3:=cY _ (by decide)
   have ek:c / 48%3=(((c / 48%3).toNat:Nat):Int):=by lia
   have hl:(("a ~":Str).cps.toList).length=3:=by decide +kernel
   rw[ek]
   exact⟨_,z0R (bD (by rw[hl];lia))⟩
  refine(rdI rfl (rdI rfl ⟨by lia,by lia,?_⟩))
  refine z8B (lo:=0) (n:=m.toNat) (fun _=>true) (fun k=>.str (Z1 sg (c / 4%12) k)) (by lia) (fun k ys N k0 k1 hN=>?_) ?_
  ·refine(rdI rfl (ex2 _ _ ⟨rfl,rfl,⟨by decide,by decide⟩,(ex2 _ _ ⟨rfl,rfl,(by show(0:Int)<3;decide),(ex3 _ _ sg ⟨rfl,rfl,(by decide +kernel),hsg,?_⟩)⟩)⟩))
   refine(rdI rfl (rdI rfl (ex2 _ _ ⟨rfl,rfl,(ex2 _ _ ⟨rfl,rfl,(by show(0:Int)<12;decide),(ex2 _ _ ⟨rfl,rfl,(ex2 _ _ ⟨rfl,rfl,?_,?_,?_,?_⟩)⟩)⟩)⟩)))
   ·have:=d9 (c / 4%12+k) (show(12:Int)≠0 by decide)
    lia
   ·have:=cY (c / 4%12+k) (show(0:Int)<12 by decide)
    lia
   ·show 1≤1000
    decide
   ·exact hN
  ·intro D hD
   rw[y2t]
   refine q D ((upI 0 m.toNat).map (Z1 sg (c / 4%12))) _ hD (z01 hD _) ?_ (by rw[b9,z0L]) (y7C sg t0 t1 (by lia))
   rw[z03,dR]
   rfl
 ·have c4:c%4=0\/c%4=1\/c%4=2:=by
   have h1:=d9 c (show(4:Int)≠0 by decide)
   have h2:=cY c (show(0:Int)<4 by decide)
   have h3:c%4≠3:=fun e=>cn (decide_eq_true (congrArg V.int e))
   lia
  obtain⟨st,hat,hst⟩:∃st:Str,atI [V.str "",V.str "row",V.str "a long stem of them"] (c%4)=some (.str st)/\(st=""\/st="row"\/st=z9J):=by
   rcases c4 with e|e|e<;>rw[e]
   ·exact(rdI rfl (.inl rfl))
   ·exact(rdI rfl (.inr (.inl rfl)))
   ·exact(rdI rfl (.inr (.inr rfl)))
  have stl:st.length≤19:=by
   have l1:("":Str).length=0:=by decide +kernel
   have l2:("row":Str).length=3:=by decide +kernel
   have l3:z9J.length=19:=by decide +kernel
   rcases hst with rfl|rfl|rfl<;>lia
  refine⟨(by show 3≤sizeLine;decide),fun p hp=>(rdI rfl (ex2 _ _ ⟨rfl,rfl,(by show(0:Int)<4;decide),(ex4 p _ _ _ ⟨rfl,rfl,SqL.of z03,hat,?_⟩)⟩))⟩
  refine(rdI rfl (ex2 _ _ ⟨rfl,rfl,⟨by decide,by decide⟩,(rdI rfl ⟨st,rfl,y07 (by lia),(ex2 _ _ ⟨rfl,rfl,(ex2 _ _ ⟨rfl,rfl,by lia,?_⟩)⟩)⟩)⟩))
  have s0:0≤c / 48%((st.length:Int)+1):=d9 _ (by lia)
  have s1:c / 48%((st.length:Int)+1)≤(st.length:Int):=by
   have:=cY (c / 48) (show(0:Int)<(st.length:Int)+1 by lia)
   lia
  refine(rdI rfl (rdI rfl ⟨by lia,by lia,?_⟩))
  refine z8B (lo:=0) (n:=m.toNat) (fun _=>true) (fun k=>.str (y02 st (c / 48%((st.length:Int)+1)) (c / 4%12) k)) (by lia) (fun k ys N k0 k1 hN=>?_) ?_
  ·have i0:=d9 (c / 4%12+k) (show(12:Int)≠0 by decide)
   have i1:=cY (c / 4%12+k) (show(0:Int)<12 by decide)
   have hsg:atI (("mM ~aA0.xX_9":Str).cps.toList) ((c / 4%12+k)%12)=some (sgL.getD ((c / 4%12+k)%12).toNat 0):=by
    have ek:(c / 4%12+k)%12=((((c / 4%12+k)%12).toNat:Nat):Int):=by lia
    have l1:((c / 4%12+k)%12).toNat<sgL.length:=by rw[y1L];lia
    have q1:atI sgL ((((c / 4%12+k)%12).toNat:Nat):Int)=some (sgL.getD ((c / 4%12+k)%12).toNat 0):=z0R (by
     rw[bK,bD l1]
     rfl)
    rw[<- ek] at q1
    exact q1
   have la:(Q2 st none (some (c / 48%((st.length:Int)+1)))).length≤19:=by
    rw[<- z1U,y6J st s0 s1,bG,z1U]
    lia
   have lb:(Q2 st (some (c / 48%((st.length:Int)+1))) none).length≤19:=by
    rw[<- z1U,y6O st s0 s1,dA,z1U]
    lia
   have lc:∀(x:Nat),(⟨#[x]⟩:Str).length=1:=fun _=>rfl
   have lab:∀(x:Nat),(Q2 st none (some (c / 48%((st.length:Int)+1)))++(⟨#[x]⟩:Str)).length≤20:=fun x=>by
    rw[<- z1U,y1b,bN,z1U,z1U,lc]
    lia
   refine(rdI rfl (rdI rfl (rdI rfl ⟨st,rfl,y07 (by lia),?_⟩)))
   refine(rdI rfl (rdI rfl (rdI rfl (ex2 _ _ ⟨rfl,rfl,(ex2 _ _ ⟨rfl,rfl,(by show(0:Int)<12;decide),(ex3 _ _ _ ⟨rfl,rfl,(by decide +kernel),hsg,?_⟩)⟩)⟩))))
   refine(ex2 _ _ ⟨rfl,rfl,y07 (by rw[lc];lia),?_⟩)
   refine(rdI rfl (rdI rfl (rdI rfl ⟨st,rfl,y07 (by lia),(ex2 _ _ ⟨rfl,rfl,y07 (by have:=lab (sgL.getD ((c / 4%12+k)%12).toNat 0);lia),?_⟩)⟩)))
   exact hN
  ·intro D hD
   rw[y2t]
   refine q D ((upI 0 m.toNat).map (y02 st (c / 48%((st.length:Int)+1)) (c / 4%12))) _ ((z01 hp _).free hD) ((z01 hp _).trans (z01 hD _)) ?_ (by rw[b9,z0L]) (y64 hst s0 s1 t0 t1 (by lia))
   rw[z03,dR]
   rfl
noncomputable def z3L:Sp:=fun vs H Q _=>∃t:Int,vs=[.int t]/\0≤t/\t<1000000/\Q (.int (2^t.toNat)) H
theorem y39(M:Bl mg)(F:Fun K "_law_doubled" "_law_doubled" z49 f fd):B4 P w K mg base CX0 1 f fd z2T z3L:=by
 have nd:=z5q.nd
 refine F.ok z5q (fun vs H Q E h=>?_) (fun cdv A outer s H vs Q E hr h=>?_)
 ·obtain⟨t,rfl,_⟩:=h
  rfl
 obtain⟨t,rfl,t0,t1,q⟩:=h
 refine⟨_,(z04 (z0p (i:=1) nd rfl (Or.inl rfl) z06) (z04 (z0O bR rfl (z1b rfl M.range (z00 (pv 0) z02)) (z0j (i:=2) nd rfl (Or.inl rfl)) (z05 (z0p (i:=1) nd rfl (Or.inl rfl) (z0u z4V (pv 1) z06)))) (z05 (z0i (pv 1))))),?_⟩
 refine(rdI rfl (rdI rfl ⟨by lia,by lia,?_⟩))
 refine z13 (lo:=0) (n:=t.toNat) (fun i σ H'=>H'=H/\∃o,σ=[some (.int t),some (.int (2^i)),o]) ⟨rfl,_,rfl⟩ (fun i σ H' hi hp=>?_) (fun σ H' hp=>?_)
 ·obtain⟨rfl,o,rfl⟩:=hp
  refine(rdI rfl (ex2 _ _ ⟨rfl,rfl,.inr ⟨by decide,by decide⟩,rfl,some (.int (0+(i:Int))),?_⟩))
  rw[Int.pow_succ]
  rfl
 ·obtain⟨rfl,o,rfl⟩:=hp
  exact(rdI rfl q)
def z8F(H:Hp)(l:Addr)(v:V)(s:List Str):Prop:=∃a,v=.ref a/\a≠l/\H a=some (.lst (s.map V.str))
theorem z8F.keep{H H':Hp}(g:B0 H H'){l:Addr}{v:V}{s:List Str}(h:z8F H l v s):z8F H' l v s:=let ⟨a,e,n,q⟩:=h;⟨a,e,n,g _ _ q⟩
theorem z8F.over{H:Hp}{l:Addr}{o:HO}{v:V}{s:List Str}(h:z8F H l v s):z8F (upd H l o) l v s:=let ⟨a,e,n,q⟩:=h;⟨a,e,n,by rw[z0k n];exact q⟩
abbrev z2g(H:Hp)(l:Addr):List V->List (List Str)->Prop:=Paired (z8F H l)
theorem z2g.keep{H H':Hp}(g:B0 H H'){l:Addr}:∀{xs:List V}{ss:List (List Str)},z2g H l xs ss->z2g H' l xs ss
 | _,_,.nil=>.nil
 | _,_,.cons r t=>.cons (r.keep g) (z2g.keep g t)
theorem z2g.over{H:Hp}{l:Addr}{o:HO}:∀{xs:List V}{ss:List (List Str)},z2g H l xs ss->z2g (upd H l o) l xs ss
 | _,_,.nil=>.nil
 | _,_,.cons r t=>.cons r.over (z2g.over t)
theorem z2g.len{H:Hp}{l:Addr}:∀{xs:List V}{ss:List (List Str)},z2g H l xs ss->xs.length=ss.length
 | _,_,.nil=>rfl
 | _,_,.cons _ t=>by rw[cN,cN,z2g.len t]
theorem z2g.get{H:Hp}{l:Addr}:∀{xs:List V}{ss:List (List Str)},z2g H l xs ss->∀(i:Nat) (s:List Str),ss[i]? = some s->∃v,xs[i]? = some v/\z8F H l v s
 | _,_,.nil,i,s,e=>by simp at e
 | _,_,.cons r t,0,s,e=>by
  simp at e
  subst e
  exact(rdI rfl r)
 | _,_,.cons r t,i+1,s,e=>by
  obtain⟨v,h1,h2⟩:=z2g.get t i s (by simpa using e)
  exact⟨v,by simpa using h1,h2⟩
theorem z18(ns:List Str):(ns.map V.str).all z2i=true:=by
 rw[kB,fP]
 intro x _
 rfl
theorem y7w{ns:List Str}{k:Int}(h0:0≤k)(h:k<(ns.length:Int)):∃x,ns[k.toNat]? = some x/\atI (ns.map V.str) k=some (.str x):=by
 have hk:k.toNat<ns.length:=by lia
 have ek:k=((k.toNat:Nat):Int):=by lia
 have q:atI (ns.map V.str) ((k.toNat:Nat):Int)=some (.str ns[k.toNat]):=z0R (by rw[bC,bD hk];rfl)
 rw[<- ek] at q
 exact⟨_,bD hk,q⟩
noncomputable def y4s(K:PySem.W.Frag):Sp:=fun vs H Q _=>∃(ln:Addr) (nm:List Str) (c m:Int),vs=[.ref ln,.int c,.int m]/\SqL K H ln (nm.map V.str)/\1≤nm.length/\nm.length≤12/\0≤m/\m≤900/\
 ∀(l:Addr) (xs:List V) (ss:List (List Str)) (H':Hp),H l=none->B0 H H'->H' l=some (.lst xs)->z2g H' l xs ss->ss.length=m.toNat->(∀s∈ss,s.Sublist nm)->Q (.ref l) H'
theorem two_pow_le{n:Nat}(h:n≤12):(1:Int)≤2^n/\(2:Int)^n≤4096:=by
 have:∀k≤12,(1:Int)≤2^k/\(2:Int)^k≤4096:=by decide
 exact this n h
theorem y7Y(M:Bl mg)(F:Fun K "_law_sets" "_law_sets" z6M f fd)(D1:Cal P w K mg base 1 "_law_row" z3V y3R)(E5:Cal P w K mg base 1 "_law_doubled" z2T z3L) :
  B4 P w K mg base CX0 2 f fd z5e (y4s K):=by
 have nd:=z8l.nd
 refine F.ok z8l (fun vs H Q E h=>?_) (fun cdv A outer s H vs Q E hr h=>?_)
 ·obtain⟨ln,nm,c,m,rfl,_⟩:=h
  rfl
 obtain⟨ln,nm,c,m,rfl,hS,n1,n2,m0,m1,q⟩:=h
 refine⟨_,(z04 (z0p (i:=3) nd rfl (Or.inl rfl) (z0e E5 (rm hr) rfl (z00 (z0b z09 rfl M.len bO (z00 (pv 0) z02)) z02))) (z04 (z0p (i:=4) nd rfl (Or.inl rfl) (z1d z02)) (z04 (z0O bR rfl (z16 (z0e D1 (rm hr) rfl (z00 (pv 1) (z00 (pv 2) (z00 (z0u z4V z06 (pv 3)) z02))))) (z0j (i:=5) nd rfl (Or.inl rfl)) (z04 (z0p (i:=6) nd rfl (Or.inl rfl) (z0u z1s (pv 5) (pv 3))) (z04 (z0p (i:=7) nd rfl (Or.inl rfl) (z1d z02)) (z04 (z0O bR rfl (z16 (pv 0)) (z0j (i:=8) nd rfl (Or.inl rfl)) (z04 (z0E (z0c z2F (z0u z1s (pv 6) z06) z06 (z0o _)) (z05 (z0D (z2O bW bX bY z0Q (pv 7) (z00 (pv 8) z02)))) z0l) (z05 (z0p (i:=6) nd rfl (Or.inl rfl) (z0u z1F (pv 6) z06))))) (z04 (z0E (z0c z2F (z0u z1F (pv 5) (pv 3)) z06 (z0o _)) (z05 (z0p (i:=7) nd rfl (Or.inl rfl) (z1d (z00 (z0B z0Y (pv 0) (z0u z1s (pv 5) (z0b z09 rfl M.len bO (z00 (pv 0) z02))) (fun _ _=>rfl)) z02)))) z0l) (z04 (z0E (z0c z2F (z0u z1F (pv 5) (pv 3)) z06 (z0o _)) (z05 (z0p (i:=7) nd rfl (Or.inl rfl) (z1d z02))) z0l) (z04 (z0E (z0c z2F (z0u z1F (pv 5) (pv 3)) z06 (z0o _)) (z05 (z0p (i:=7) nd rfl (Or.inl rfl) (z0s z4N rfl M.list jB (z00 (pv 0) z02)))) z0l) (z05 (z0D (z2O bW bX bY z0Q (pv 4) (z00 (pv 7) z02))))))))))) (z05 (z0i (pv 4)))))),?_⟩
 have hl0:(nm.map V.str).length=nm.length:=b9 _
 refine(rdI rfl ⟨ln,(rdI rfl ⟨.inl hS,(rdI rfl ⟨by lia,by lia,?_⟩)⟩)⟩)
 have pw:=two_pow_le n2
 rw[hl0]
 have ez:(2:Int)^(((nm.length:Nat):Int).toNat)=2^nm.length:=rfl
 rw[ez]
 generalize hz:(2:Int)^nm.length=z at pw ⊢
 refine⟨(by show 0≤sizeLine;decide),fun l hl=>?_⟩
 refine(rdI rfl (rdI rfl (rdI rfl (ex2 _ _ ⟨rfl,rfl,.inl ⟨by decide,by decide⟩,(ex3 c m (4*z) ⟨rfl,m0,m1,by lia,by lia,fun lf fs H1 nlf s1 e1 Q5 all1=>?_⟩)⟩))))
 have sl:=z01 (H:=H) hl (.lst [])
 have nl:lf≠l:=fun e=>by rw[e,z03] at nlf;cases nlf
 have el1:H1 l=some (.lst []):=s1 _ _ z03
 refine⟨lf,rfl,⟨_,SqL.of e1⟩,?_⟩
 refine z1g (xs:=fs.map V.int) (fun i σ H'=>∃(xs:List V) (ss:List (List Str)) (o1 o2 o3 o4:Option V),H' l=some (.lst xs)/\z2g H' l xs ss/\ss.length=i/\(∀s∈ss,s.Sublist nm)/\H' lf=some (.lst (fs.map V.int))/\B0 H H'/\
  σ=[some (.ref ln),some (.int c),some (.int m),some (.int z),some (.ref l),o1,o2,o3,o4]) ⟨[],[],_,_,_,_,el1,.nil,rfl,(fun _ h=>nomatch h),e1,sl.trans s1,rfl⟩ (fun i σ H' hi hp=>?_) (fun i x σ H' hx hp=>?_) (fun σ H' hp=>?_)
 ·obtain⟨xs,ss,o1,o2,o3,o4,_,_,_,_,h2,_⟩:=hp
  exact SqL.of h2
 ·obtain⟨xs,ss,o1,o2,o3,o4,p1,p2,p3,p4,p5,p6,rfl⟩:=hp
  rw[bC] at hx
  cases ef:fs[i]? with
  | none=>rw[ef] at hx;cases hx
  | some g=>
   rw[ef] at hx
   cases hx
   have hg:=all1 g (bP ef)
   have hi:i<fs.length:=(bV.mp ef).1
   have lx:=p2.len
   have cd:CDiv g z:=⟨by lia,by lia⟩
   refine(rdI rfl (rdI rfl (ex2 _ _ ⟨rfl,rfl,(by lia),?_⟩)))
   refine⟨(by show 0≤sizeLine;decide),fun a ha=>?_⟩
   have nal:a≠l:=fun e=>by rw[e,p1] at ha;cases ha
   have naf:a≠lf:=fun e=>by rw[e,p5] at ha;cases ha
   refine(rdI rfl ⟨ln,rfl,⟨_,(p6.trans (z01 ha _)).seq hS⟩,?_⟩)
   refine z1g (xs:=nm.map V.str) (fun k σ H2=>∃(ch:List Str) (mk:Int) (o4:Option V),ch.Sublist (nm.take k)/\H2=upd H' a (.lst (ch.map V.str))/\
    σ=[some (.ref ln),some (.int c),some (.int m),some (.int z),some (.ref l),some (.int g),some (.int mk),some (.ref a),o4]) ⟨[],_,_,k8 _,rfl,rfl⟩ (fun k σ H2 hk hp=>?_) (fun k y σ H2 hy hp=>?_) (fun σ H2 hp=>?_)
   ·obtain⟨ch,mk,o4,_,rfl,_⟩:=hp
    exact(p6.trans (z01 ha _)).seq hS
   ·obtain⟨ch,mk,o4,hch,rfl,rfl⟩:=hp
    rw[bC] at hy
    cases en:nm[k]? with
    | none=>rw[en] at hy;cases hy
    | some nk=>
     rw[en] at hy
     cases hy
     have tk:=z0n en
     have hcl:ch.length≤12:=by
      have:=hch.length_le
      rw[bG] at this
      lia
     refine(rdI rfl (ex2 _ _ ⟨rfl,rfl,(by show(0:Int)<2;decide),rfl,(rdI rfl ?_)⟩))
     refine B9 (fun _=>?_) (fun _=>?_)
     ·refine(rdI rfl ⟨.inl ⟨rfl,_,SqL.of z03⟩,(rdI rfl (ex3 a _ _ ⟨rfl,rfl,z03,z0f (by rw[b9];lia),?_⟩))⟩)
      refine(rdI rfl (ex2 _ _ ⟨rfl,rfl,⟨by decide,by decide⟩,ch++[nk],_,some (.str nk),?_,?_,rfl⟩))
      ·rw[tk]
       exact hch.append (k8 _)
      ·rw[z5O,bF]
       rfl
     ·refine(rdI rfl (ex2 _ _ ⟨rfl,rfl,⟨by decide,by decide⟩,ch,_,some (.str nk),?_,rfl,rfl⟩))
      rw[tk]
      exact hch.trans (List.sublist_append_left _ _)
   ·obtain⟨ch,mk,o4,hch,rfl,rfl⟩:=hp
    rw[b9,bT] at hch
    have fin:∀(b:Addr) (cs:List Str) (H3:Hp) (o2 o4:Option V),cs.Sublist nm->b≠l->H3 b=some (.lst (cs.map V.str))->B0 (upd H' a (.lst (ch.map V.str))) H3->
      ∃(xs':List V) (ss':List (List Str)) (o1' o2' o3' o4':Option V),upd H3 l (.lst (xs++[.ref b])) l=some (.lst xs')/\z2g (upd H3 l (.lst (xs++[.ref b]))) l xs' ss'/\ss'.length=i+1/\(∀s∈ss',s.Sublist nm)/\
       upd H3 l (.lst (xs++[.ref b])) lf=some (.lst (fs.map V.int))/\B0 H (upd H3 l (.lst (xs++[.ref b])))/\
       ([some (.ref ln),some (.int c),some (.int m),some (.int z),some (.ref l),some (.int g),o2,some (.ref b),o4]:St)=[some (.ref ln),some (.int c),some (.int m),some (.int z),some (.ref l),o1',o2',o3',o4']:=by
     intro b cs H3 o2 o4 hcs hb hb3 g3
     have g4:B0 H' H3:=(z01 ha _).trans g3
     refine⟨_,ss++[cs],_,_,_,_,z03,?_,by rw[bN,p3];rfl,fun s' hs'=>?_,?_,z1y (p6.trans g4) hl,rfl⟩
     ·exact jV (p2.keep g4).over ⟨b,rfl,hb,by rw[z0k hb];exact hb3⟩
     ·rcases bS.mp hs' with h|h
      ·exact p4 s' h
      ·rw[bB.mp h]
       exact hcs
     ·rw[z0k nl]
      exact g4 _ _ p5
    have el:∀{H3:Hp},B0 (upd H' a (.lst (ch.map V.str))) H3->H3 l=some (.lst xs):=fun {H3} g3=>g3 _ _ ((z01 ha _) _ _ p1)
    have app:∀{H3:Hp},B0 (upd H' a (.lst (ch.map V.str))) H3->xs.length<sizeLine:=fun _=>z0f (by lia)
    refine(rdI rfl (rdI rfl (ex2 _ _ ⟨rfl,rfl,cd,rfl,(rdI rfl ?_)⟩)))
    refine B9 (fun d1=>?_) (fun d1=>?_)
    ·obtain⟨x1,hx1,ax1⟩:=y7w (ns:=nm) (k:=g%(((nm.map V.str).length:Nat):Int)) (d9 _ (by lia)) (by rw[hl0];exact cY _ (by lia))
     have q1:g / z=1:=V.int.inj (z0I d1)
     refine(rdI rfl (rdI rfl (rdI rfl ⟨ln,(rdI rfl ⟨.inl ((p6.trans (z01 ha _)).seq hS),(ex2 _ _ ⟨rfl,rfl,(by rw[hl0];lia),(ex4 ln _ _ _ ⟨rfl,rfl,(p6.trans (z01 ha _)).seq hS,ax1,(by show 1≤sizeLine;decide),fun b1 hb1=>?_⟩)⟩)⟩)⟩)))
     have g1:=z01 hb1 (.lst [.str x1])
     have w0y:[x1].Sublist nm:=List.singleton_sublist.mpr (bP hx1)
     refine(rdI rfl (rdI rfl (ex2 _ _ ⟨rfl,rfl,cd,rfl,(rdI rfl ?_)⟩)))
     refine B9 (fun d=>absurd (show g / z=2 from V.int.inj (z0I d)) (by lia)) (fun _=>(rdI rfl (rdI rfl (ex2 _ _ ⟨rfl,rfl,cd,rfl,(rdI rfl ?_)⟩))))
     refine B9 (fun d=>absurd (show g / z=3 from V.int.inj (z0I d)) (by lia)) (fun _=>?_)
     refine(rdI rfl ⟨.inl ⟨rfl,_,SqL.of (el g1)⟩,(rdI rfl (ex3 l _ _ ⟨rfl,rfl,el g1,app g1,?_⟩))⟩)
     exact fin b1 [x1] _ _ _ w0y (fun e=>by rw[e,(z01 ha (.lst (ch.map V.str))) _ _ p1] at hb1;cases hb1) z03 g1
    ·refine(rdI rfl (rdI rfl (ex2 _ _ ⟨rfl,rfl,cd,rfl,(rdI rfl ?_)⟩)))
     refine B9 (fun d2=>?_) (fun d2=>?_)
     ·have q2:g / z=2:=V.int.inj (z0I d2)
      refine⟨(by show 0≤sizeLine;decide),fun b1 hb1=>?_⟩
      have g1:=z01 hb1 (.lst [])
      refine(rdI rfl (rdI rfl (ex2 _ _ ⟨rfl,rfl,cd,rfl,(rdI rfl ?_)⟩)))
      refine B9 (fun d=>absurd (show g / z=3 from V.int.inj (z0I d)) (by lia)) (fun _=>?_)
      refine(rdI rfl ⟨.inl ⟨rfl,_,SqL.of (el g1)⟩,(rdI rfl (ex3 l _ _ ⟨rfl,rfl,el g1,app g1,?_⟩))⟩)
      exact fin b1 [] _ _ _ (kC _) (fun e=>by rw[e,(z01 ha (.lst (ch.map V.str))) _ _ p1] at hb1;cases hb1) z03 g1
     ·refine(rdI rfl (rdI rfl (ex2 _ _ ⟨rfl,rfl,cd,rfl,(rdI rfl ?_)⟩)))
      refine B9 (fun d3=>?_) (fun d3=>?_)
      ·refine(rdI rfl ⟨ln,(rdI rfl ⟨.inl ((p6.trans (z01 ha _)).seq hS),fun b1 hb1=>?_⟩)⟩)
       have g1:=z01 hb1 (.lst (nm.map V.str))
       refine(rdI rfl ⟨.inl ⟨rfl,_,SqL.of (el g1)⟩,(rdI rfl (ex3 l _ _ ⟨rfl,rfl,el g1,app g1,?_⟩))⟩)
       exact fin b1 nm _ _ _ (k8 _) (fun e=>by rw[e,(z01 ha (.lst (ch.map V.str))) _ _ p1] at hb1;cases hb1) z03 g1
      ·refine(rdI rfl ⟨.inl ⟨rfl,_,SqL.of (el (B0.refl _))⟩,(rdI rfl (ex3 l _ _ ⟨rfl,rfl,el (B0.refl _),app (B0.refl _),?_⟩))⟩)
       exact fin a ch _ _ _ hch nal z03 (B0.refl _)
 ·obtain⟨xs,ss,o1,o2,o3,o4,p1,p2,p3,p4,p5,p6,rfl⟩:=hp
  rw[b9] at p3
  exact(rdI rfl (q l xs ss _ hl p6 p1 p2 (by rw[p3,Q5]) p4))
abbrev Row:=List (Str×Int)
noncomputable def z9X(p:Str×Int):DV:=.tup [.str p.1,.int p.2]
noncomputable def N3(r:Row):DV:=.tup (r.map z9X)
theorem y3W{H:Hp}{a:Addr}{x:Str}{z:Int}(h:H a=some (.tup [.str x,.int z])):B2 H (z9X (x,z)) (.ref a):=z0q h (by show 2≤1000000;decide) (.cons (z2B x) (.cons (z0H z) .nil))
theorem y0Y{xs:List V}:∀ys,HO.lst xs≠.tup ys:=fun _ e=>by cases e
noncomputable def y5a:Sp:=fun vs H Q _=>∃g p:Int,vs=[.int g,.int p]/\∀r,0≤r->r≤1000000->Q (.int r) H
theorem y5E(F:Fun K "_law_value" "_law_value" z65 f fd):B4 P w K mg base CX0 1 f fd z5M y5a:=by
 have nd:=z7E.nd
 refine F.ok z7E (fun vs H Q E h=>?_) (fun cdv A outer s H vs Q E hr h=>?_)
 ·obtain⟨g,p,rfl,_⟩:=h
  rfl
 obtain⟨g,p,rfl,q⟩:=h
 refine⟨_,(z04 (z0E (z0c z2F (z0u z1F (pv 0) z06) z06 (z0o _)) (z05 (z0i (z0u z1s (z0u z1u (pv 0) (z0u z4V z06 (pv 1))) z06))) z0l) (z04 (z0E (z0c z2F (z0u z1F (pv 0) z06) z06 (z0o _)) (z05 (z0i (z0u z4V z06 (z0u z1s (z0u z1u (pv 0) (pv 1)) z06)))) z0l) (z05 (z0i (z0u z1s (z0u z1u (pv 0) (pv 1)) z06))))),?_⟩
 refine(rdI rfl (ex2 _ _ ⟨rfl,rfl,⟨by decide,by decide⟩,rfl,(rdI rfl ?_)⟩))
 refine B9 (fun _=>?_) (fun _=>?_)
 ·refine(rdI rfl (rdI rfl (ex2 _ _ ⟨rfl,rfl,.inl ⟨by decide,by decide⟩,(ex2 _ _ ⟨rfl,rfl,(ex2 _ _ ⟨rfl,rfl,(by show(0:Int)<1000001;decide),?_⟩)⟩)⟩)))
  have h1:=d9 (g+7*p) (show(1000001:Int)≠0 by decide)
  have h2:=cY (g+7*p) (show(0:Int)<1000001 by decide)
  exact q _ h1 (by lia)
 ·refine(rdI rfl (ex2 _ _ ⟨rfl,rfl,⟨by decide,by decide⟩,rfl,(rdI rfl ?_)⟩))
  have h1:=d9 (g+p) (show(2:Int)≠0 by decide)
  have h2:=cY (g+p) (show(0:Int)<2 by decide)
  refine B9 (fun _=>?_) (fun _=>?_)
  ·refine(rdI rfl (rdI rfl (ex2 _ _ ⟨rfl,rfl,(ex2 _ _ ⟨rfl,rfl,(by show(0:Int)<2;decide),(ex2 _ _ ⟨rfl,rfl,.inl ⟨by decide,by decide⟩,?_⟩)⟩)⟩)))
   exact q _ (by lia) (by lia)
  ·refine(rdI rfl (rdI rfl (ex2 _ _ ⟨rfl,rfl,(ex2 _ _ ⟨rfl,rfl,(by show(0:Int)<2;decide),?_⟩)⟩)))
   exact q _ h1 (by lia)
structure Rws(nm:List Str)(rows:List Row):Prop where
 sub:∀r∈rows,(r.map Prod.fst).Sublist nm
 val:∀r∈rows,∀p∈r,0≤p.2/\p.2≤1000000
noncomputable def y0h:Sp:=fun vs H Q _=>∃(l:Addr) (xs:List V) (ss:List (List Str)) (c:Int),vs=[.ref l,.int c]/\H l=some (.lst xs)/\z2g H l xs ss/\ss.length≤900/\(∀s∈ss,s.length≤12)/\
 ∀(lr:Addr) (us:List V) (rows:List Row) (H':Hp),H lr=none->B0 H H'->H' lr=some (.lst us)->z08 H' (rows.map N3) us->rows.map (fun r=>r.map Prod.fst)=ss->(∀r∈rows,∀p∈r,0≤p.2/\p.2≤1000000)->Q (.ref lr) H'
theorem y3x(M:Bl mg)(F:Fun K "_law_valued" "_law_valued" z4Y f fd)(D1:Cal P w K mg base 1 "_law_row" z3V y3R)(O3:Cal P w K mg base 1 "_law_value" z5M y5a) :
  B4 P w K mg base CX0 2 f fd z3m y0h:=by
 have nd:=z6z.nd
 refine F.ok z6z (fun vs H Q E h=>?_) (fun cdv A outer s H vs Q E hr h=>?_)
 ·obtain⟨l,xs,ss,c,rfl,_⟩:=h
  rfl
 obtain⟨l,xs,ss,c,rfl,hL,hSs,n0,n1,q⟩:=h
 refine⟨_,(z04 (z0p (i:=2) nd rfl (Or.inl rfl) (z0e D1 (rm hr) rfl (z00 (pv 1) (z00 (z0b z09 rfl M.len bO (z00 (pv 0) z02)) (z00 z06 z02))))) (z04 (z0p (i:=3) nd rfl (Or.inl rfl) (z1d z02)) (z04 (z0O bR rfl (z1b rfl M.range (z00 (z0b z09 rfl M.len bO (z00 (pv 0) z02)) z02)) (z0j (i:=4) nd rfl (Or.inl rfl)) (z04 (z0p (i:=5) nd rfl (Or.inl rfl) (z1d z02)) (z04 (z0O bR rfl (z1b rfl M.range (z00 (z0b z09 rfl M.len bO (z00 (z0B z0Y (pv 0) (pv 4) (fun _ _=>rfl)) z02)) z02)) (z0j (i:=6) nd rfl (Or.inl rfl)) (z05 (z0D (z2O bW bX bY z0Q (pv 5) (z00 (z0T (z00 (z0B z0Y (z0B z0Y (pv 0) (pv 4) (fun _ _=>rfl)) (pv 6) (fun _ _=>rfl)) (z00 (z0e O3 (rm hr) rfl (z00 (z0B z0Y (pv 2) (pv 4) (fun _ _=>rfl)) (z00 (pv 6) z02))) z02))) z02))))) (z05 (z0D (z2O bW bX bY z0Q (pv 3) (z00 (z0s z0m rfl M.tuple bH (z00 (pv 5) z02)) z02))))))) (z05 (z0i (pv 3)))))),?_⟩
 have hl0:=hSs.len
 refine(rdI rfl (rdI rfl (ex2 l _ ⟨rfl,.inl (SqL.of hL),(ex3 _ _ _ ⟨rfl,by lia,by lia,by decide,by decide,fun lf fs H1 nlf s1 e1 Q5 all1=>?_⟩)⟩)))
 have Y6:fs.length=ss.length:=by rw[Q5,hl0];rfl
 refine⟨(by show 0≤sizeLine;decide),fun lr hlr=>?_⟩
 have nr:lf≠lr:=z0r e1 hlr
 have nlr0:H lr=none:=s1.free hlr
 refine(rdI rfl (ex2 l _ ⟨rfl,.inl (SqL.of ((s1.trans (z01 hlr _)) _ _ hL)),(rdI rfl ⟨by lia,by lia,?_⟩)⟩))
 refine z13 (lo:=0) (n:=((xs.length:Nat):Int).toNat) (fun i σ H'=>∃(us:List V) (rows:List Row) (o1 o2 o3:Option V),H' lr=some (.lst us)/\z08 H' (rows.map N3) us/\rows.map (fun r=>r.map Prod.fst)=ss.take i/\(∀r∈rows,∀p∈r,0≤p.2/\p.2≤1000000)/\B0 H1 H'/\
  σ=[some (.ref l),some (.int c),some (.ref lf),some (.ref lr),o1,o2,o3]) ⟨[],[],_,_,_,z03,.nil,rfl,(fun _ h=>nomatch h),z01 hlr _,rfl⟩ (fun i σ H' hi hp=>?_) (fun σ H' hp=>?_)
 ·obtain⟨us,rows,o1,o2,o3,p1,p2,p3,p4,p5,rfl⟩:=hp
  have hi':i<ss.length:=by
   have:((xs.length:Nat):Int).toNat=xs.length:=rfl
   lia
  have ei:(0:Int)+(i:Int)=(i:Int):=eZ _
  have es:ss[i]? = some ss[i]:=bD hi'
  generalize ss[i]=sI at es
  have hsI:=n1 sI (bP es)
  obtain⟨v,hv,a,rfl,na,ha⟩:=hSs.get i sI es
  have lus:=p2.length
  rw[b9] at lus
  have lrows:rows.length=i:=by
   have:=congrArg List.length p3
   rw[b9,bG] at this
   lia
  have atv:atI xs ((0:Int)+(i:Int))=some (.ref a):=by rw[ei];exact z0R hv
  have gl:∀{H2:Hp},B0 H' H2->H2 l=some (.lst xs)/\H2 a=some (.lst (sI.map V.str))/\H2 lf=some (.lst (fs.map V.int)):=fun {H2} g=>⟨(s1.trans (p5.trans g)) _ _ hL,(s1.trans (p5.trans g)) _ _ ha,(p5.trans g) _ _ e1⟩
  refine⟨(by show 0≤sizeLine;decide),fun lo hlo=>?_⟩
  have go:=z01 (H:=H') hlo (.lst [])
  refine(rdI rfl (rdI rfl (ex4 l _ _ _ ⟨rfl,rfl,SqL.of (gl go).1,atv,(ex2 a _ ⟨rfl,.inl (SqL.of (gl go).2.1),(rdI rfl ⟨by lia,by rw[b9];lia,?_⟩)⟩)⟩)))
  have hls:(sI.map V.str).length=sI.length:=b9 _
  refine z13 (lo:=0) (n:=(((sI.map V.str).length:Nat):Int).toNat) (fun j σ H2=>∃(zs:List V) (row:Row) (o3:Option V),H2 lo=some (.lst zs)/\z08 H2 (row.map z9X) zs/\row.map Prod.fst=sI.take j/\(∀p∈row,0≤p.2/\p.2≤1000000)/\B0 H' H2/\
   σ=[some (.ref l),some (.int c),some (.ref lf),some (.ref lr),some (.int (0+(i:Int))),some (.ref lo),o3]) ⟨[],[],_,z03,.nil,rfl,(fun _ h=>nomatch h),go,rfl⟩ (fun j σ H2 hj hp=>?_) (fun σ H2 hp=>?_)
  ·obtain⟨zs,row,o3,r1,r2,r3,r4,r5,rfl⟩:=hp
   have hj':j<sI.length:=by
    have:(((sI.map V.str).length:Nat):Int).toNat=sI.length:=by rw[hls];rfl
    lia
   have ej:(0:Int)+(j:Int)=(j:Int):=eZ _
   have ex:sI[j]? = some sI[j]:=bD hj'
   generalize sI[j]=x at ex
   have atx:atI (sI.map V.str) ((0:Int)+(j:Int))=some (.str x):=by
    rw[ej]
    exact z0R (by rw[bC,ex];rfl)
   have atf:atI (fs.map V.int) ((0:Int)+(i:Int))=some (.int (fs.getD i 0)):=by
    rw[ei]
    exact z41 (ns:=fs) (k:=(i:Int)) (by lia) (by lia)
   have lrow:row.length=j:=by
    have:=congrArg List.length r3
    rw[b9,bG] at this
    lia
   have lz:=r2.length
   rw[b9] at lz
   refine(rdI rfl ⟨.inl ⟨rfl,_,SqL.of r1⟩,(rdI rfl (rdI rfl (ex4 l _ _ _ ⟨rfl,rfl,SqL.of (gl r5).1,atv,(rdI rfl (ex4 a _ _ _ ⟨rfl,rfl,SqL.of (gl r5).2.1,atx,?_⟩))⟩)))⟩)
   refine(rdI rfl (rdI rfl (ex4 lf _ _ _ ⟨rfl,rfl,SqL.of (gl r5).2.2,atf,(rdI rfl (ex2 _ _ ⟨rfl,fun z z0 z1=>⟨(by show 2≤sizeLine;decide),fun t ht=>?_⟩⟩))⟩)))
   have gt:=z01 (H:=H2) ht (.tup [.str x,.int z])
   refine(ex3 lo zs _ ⟨rfl,rfl,gt _ _ r1,z0f (by lia),?_⟩)
   refine⟨_,row++[(x,z)],some (.int (0+(j:Int))),z03,?_,?_,fun p hp=>?_,z1y (r5.trans gt) hlo,rfl⟩
   ·rw[bF]
    exact z08.over (gt _ _ r1) y0Y _ _ (z08.snoc (z08.keep gt _ _ r2) (y3W z03))
   ·rw[bF,r3,z0n ex]
    rfl
   ·rcases bS.mp hp with h|h
    ·exact r4 p h
    ·rw[bB.mp h]
     exact⟨z0,z1⟩
  ·obtain⟨zs,row,o3,r1,r2,r3,r4,r5,rfl⟩:=hp
   have er:(((sI.map V.str).length:Nat):Int).toNat=sI.length:=by rw[hls];rfl
   rw[er,bT] at r3
   have lrow:row.length≤12:=by
    have:=congrArg List.length r3
    rw[b9] at this
    lia
   refine(rdI rfl ⟨.inl ⟨rfl,_,SqL.of (r5 _ _ p1)⟩,(rdI rfl ⟨lo,(rdI rfl (.inl ⟨SqL.of r1,fun t ht=>?_⟩))⟩)⟩)
   have gt:=z01 (H:=H2) ht (.tup zs)
   have el:=(r5.trans gt) _ _ p1
   refine(ex3 lr us _ ⟨rfl,rfl,el,z0f (by lia),?_⟩)
   refine⟨_,rows++[row],_,_,_,z03,?_,?_,fun r hr'=>?_,z1y (p5.trans (r5.trans gt)) hlr,rfl⟩
   ·rw[bF]
    refine z08.over el y0Y _ _ (z08.snoc (z08.keep (r5.trans gt) _ _ p2) (z0q z03 ?_ (z08.keep gt _ _ r2)))
    rw[b9]
    lia
   ·rw[bF,p3,z0n es]
    exact congrArg (ss.take i++·) (congrArg (fun z=>[z]) r3)
   ·rcases bS.mp hr' with h|h
    ·exact p4 r h
    ·rw[bB.mp h]
     exact r4
 ·obtain⟨us,rows,o1,o2,o3,p1,p2,p3,p4,p5,rfl⟩:=hp
  have er:((xs.length:Nat):Int).toNat=ss.length:=by rw[hl0];rfl
  rw[er,bT] at p3
  exact(rdI rfl (q lr us rows _ nlr0 (s1.trans p5) p1 p2 p3 p4))
noncomputable def y4f(K:PySem.W.Frag):Sp:=fun vs H Q _=>∃(a:Addr) (ns:List Int),vs=[.ref a]/\SqL K H a (ns.map V.int)/\
 ∀(l:Addr) (nm:List Str) (H':Hp),H l=none->B0 H H'->H' l=some (.lst (nm.map V.str))->1≤nm.length->nm.length≤12->Nms nm->Q (.ref l) H'
theorem y6n(F:Fun K "_law_names" "_law_names" z66 f fd)(C9:Cal P w K mg base 1 "_law_at" z58 (Z0 K))(E3:Cal P w K mg base 1 "_law_pick" z3T y2n)
  (O6:Cal P w K mg base 1 "_law_named" z5Q y5j):B4 P w K mg base CX0 2 f fd z5H (y4f K):=by
 have nd:=z7z.nd
 refine F.ok z7z (fun vs H Q E h=>?_) (fun cdv A outer s H vs Q E hr h=>?_)
 ·obtain⟨a,ns,rfl,_⟩:=h
  rfl
 obtain⟨a,ns,rfl,hS,q⟩:=h
 refine⟨_,(z05 (z0i (z0e O6 (rm hr) rfl (z00 (z0u z1F (z0e C9 (rm hr) rfl (z00 (pv 0) (z00 z06 z02))) z06) (z00 (z0u z1u z06 (z0e E3 (rm hr) rfl (z00 (z0u z1s (z0e C9 (rm hr) rfl (z00 (pv 0) (z00 z06 z02))) z06) (z00 z06 z02)))) z02))))),?_⟩
 refine(rdI rfl (ex3 a ns 0 ⟨rfl,hS,eS 0,(ex2 _ _ ⟨rfl,rfl,⟨by decide,by decide⟩,?_⟩)⟩))
 refine(rdI rfl (ex3 a ns 0 ⟨rfl,hS,eS 0,(ex2 _ _ ⟨rfl,rfl,(by show(0:Int)<24;decide),(ex2 _ _ ⟨rfl,(by decide),fun r h0 h1=>(ex2 _ _ ⟨rfl,rfl,?_⟩)⟩)⟩)⟩))
 exact(ex2 _ _ ⟨rfl,by lia,by lia,fun l nm H' nl g e len N=>q l nm H' nl g e (by lia) (by lia) N⟩)
noncomputable def y0y(K:PySem.W.Frag):Sp:=fun vs H Q _=>∃(a ln:Addr) (ns:List Int) (nm:List Str),vs=[.ref a,.ref ln]/\SqL K H a (ns.map V.int)/\SqL K H ln (nm.map V.str)/\1≤nm.length/\nm.length≤12/\
 ∀(lr:Addr) (us:List V) (rows:List Row) (H':Hp),H lr=none->B0 H H'->H' lr=some (.lst us)->z08 H' (rows.map N3) us->rows.length≤60->Rws nm rows->Q (.ref lr) H'
theorem y2N(F:Fun K "_law_numbers" "_law_numbers" z43 f fd)(C9:Cal P w K mg base 1 "_law_at" z58 (Z0 K))(E3:Cal P w K mg base 1 "_law_pick" z3T y2n)
  (J8:Cal P w K mg base 2 "_law_sets" z5e (y4s K)) (E7:Cal P w K mg base 2 "_law_valued" z3m y0h):B4 P w K mg base CX0 3 f fd z47 (y0y K):=by
 have nd:=z5x.nd
 refine F.ok z5x (fun vs H Q E h=>?_) (fun cdv A outer s H vs Q E hr h=>?_)
 ·obtain⟨a,ln,ns,nm,rfl,_⟩:=h
  rfl
 obtain⟨a,ln,ns,nm,rfl,hS,hN,n1,n2,q⟩:=h
 refine⟨_,(z04 (z0p (i:=2) nd rfl (Or.inl rfl) (z0e E3 (rm hr) rfl (z00 (z0e C9 (rm hr) rfl (z00 (pv 0) (z00 z06 z02))) (z00 z06 z02)))) (z04 (z0p (i:=3) nd rfl (Or.inl rfl) (z0e J8 (rm hr) rfl (z00 (pv 1) (z00 (z0e C9 (rm hr) rfl (z00 (pv 0) (z00 z06 z02))) (z00 (pv 2) z02))))) (z05 (z0i (z0e E7 (rm hr) rfl (z00 (pv 3) (z00 (z0e C9 (rm hr) rfl (z00 (pv 0) (z00 z06 z02))) z02))))))),?_⟩
 refine(rdI rfl (ex3 a ns 1 ⟨rfl,hS,by decide,(ex2 _ _ ⟨rfl,(by decide),fun r h0 h1=>?_⟩)⟩))
 refine(rdI rfl (rdI rfl (ex3 a ns 2 ⟨rfl,hS,by decide,(rdI rfl (ex4 ln nm _ r ⟨rfl,hN,n1,n2,h0,by lia,fun l xs ss H1 nl g1 e1 st len sub=>?_⟩))⟩)))
 refine(rdI rfl (rdI rfl (ex3 a ns 3 ⟨rfl,g1.seq hS,by decide,(ex4 l xs ss _ ⟨rfl,e1,st,by lia,fun s hs=>cL (sub s hs).length_le n2,fun lr us rows H2 nlr g2 e2 tl hm hv=>?_⟩)⟩)))
 refine q lr us rows H2 (g1.free nlr) (g1.trans g2) e2 tl ?_ ⟨fun r hr'=>?_,hv⟩
 ·have:=congrArg List.length hm
  rw[b9] at this
  lia
 ·have:r.map Prod.fst∈ss:=by rw[<- hm];exact gS hr'
  exact sub _ this
noncomputable def L4(s:List Str):DV:=.tup (s.map DV.str)
noncomputable def dnI(hi:Int)(j:Nat):List Int:=(List.range j).map fun(k:Nat)=>hi-(k:Int)
theorem y5y(hi:Int)(j:Nat):dnI hi (j+1)=dnI hi j++[hi-(j:Int)]:=by
 unfold dnI
 rw[List.range_succ,bF]
 rfl
theorem z9N(hi:Int)(j:Nat):(dnI hi j).length=j:=by unfold dnI;rw[b9,j7]
theorem z8r{hi:Int}{j:Nat}{x:Int}:x∈dnI hi j↔hi-j<x/\x≤hi:=by
 unfold dnI
 rw[cM]
 constructor
 ·rintro⟨k,hk,rfl⟩
  have:=fL.mp hk
  lia
 ·rintro⟨h1,h2⟩
  exact⟨(hi-x).toNat,fL.mpr (by lia),by lia⟩
noncomputable def z0x(r:Row):List Str:=r.map Prod.fst
noncomputable def z0t(rows:List Row)(n:Int):Row:=rows.getD (n-1).toNat []
noncomputable def z9e(rows:List Row)(k:Int):DV:=.tup [.int k,L4 (z0x (z0t rows k))]
noncomputable def z5k(n r:Int):List Int:=(dnI (n-1) (n-1).toNat).filter fun k=>decide (n-k≤r)
noncomputable def y47(rows:List Row)(n r:Int):DV:=.tup ((z5k n r).map (z9e rows))
noncomputable def z0N(rows:List Row)(n r:Int):DV:=.tup [.int n,N3 (z0t rows n),y47 rows n r]
theorem z2H{H:Hp}{rows:List Row}{us:List V}(h:z08 H (rows.map N3) us){k:Int}(k0:1≤k)(k1:k≤rows.length):∃v,us[(k-1).toNat]? = some v/\atI us (k-1)=some v/\B2 H (N3 (z0t rows k)) v:=by
 have hk:(k-1).toNat<rows.length:=by lia
 obtain⟨v,e,t⟩:=h.get (k-1).toNat (N3 (z0t rows k)) (by
  unfold z0t
  rw[bC,bK,bD hk]
  rfl)
 have ek:k-1=(((k-1).toNat:Nat):Int):=by lia
 exact⟨v,e,by rw[ek];exact z0R e,t⟩
theorem z1R{H:Hp}:∀{r:Row}{xs:List V},z08 H (r.map z9X) xs->∀(i:Nat) (x:V),xs[i]? = some x->∃(p:Str×Int) (a:Addr),r[i]? = some p/\x=.ref a/\H a=some (.tup [.str p.1,.int p.2]):=by
 intro r xs h i x e
 obtain⟨d,e1,t⟩:=h.at i x e
 rw[bC] at e1
 cases er:r[i]? with
 | none=>rw[er] at e1;cases e1
 | some p=>
  rw[er] at e1
  have e2:z9X p=d:=Option.some.inj e1
  subst e2
  obtain⟨a,ys,rfl,h1,_,h2⟩:=z0d t
  obtain⟨y1,r1,rfl,t1,h3⟩:=z0g h2
  obtain⟨y2,r2,rfl,t2,h4⟩:=z0g h3
  have:=z0G h4
  subst this
  rw[z3r t1,z1o t2] at h1
  exact(ex2 p a ⟨rfl,rfl,h1⟩)
noncomputable def y4t(K:PySem.W.Frag):Sp:=fun vs H Q _=>∃(lr:Addr) (us:List V) (rows:List Row) (n r:Int),vs=[.ref lr,.int n,.int r]/\SqL K H lr us/\z08 H (rows.map N3) us/\rows.length≤900/\(∀w∈rows,w.length≤12)/\1≤n/\n≤rows.length/\
 ∀(v:V) (H':Hp),B0 H H'->B2 H' (z0N rows n r) v->Q v H'
theorem z4L{rows:List Row}(h:∀w∈rows,w.length≤12)(k:Int):(z0t rows k).length≤12:=by
 unfold z0t
 rw[bK]
 cases e:rows[(k-1).toNat]? with
 | none=>exact cZ _
 | some w=>exact h w (bP e)
theorem y5Z(M:Bl mg)(F:Fun K "_law_issue" "_law_issue" z5N f fd):B4 P w K mg base CX0 1 f fd z68 (y4t K):=by
 have nd:=z7j.nd
 refine F.ok z7j (fun vs H Q E h=>?_) (fun cdv A outer s H vs Q E hr h=>?_)
 ·obtain⟨lr,us,rows,n,r,rfl,_⟩:=h
  rfl
 obtain⟨lr,us,rows,n,r,rfl,hS,hT,n0,n12,n1,n2,q⟩:=h
 refine⟨_,(z04 (z0p (i:=3) nd rfl (Or.inl rfl) (z1d z02)) (z04 (z0O bR rfl (y5i rfl M.range (z00 (z0u z23 (pv 1) z06) (z00 z06 (z00 (y7I y4z z06) z02)))) (z0j (i:=4) nd rfl (Or.inl rfl)) (z05 (z0E (z0c y1E (z0u z23 (pv 1) (pv 4)) (pv 2) (z0o _)) (z05 (z0D (z2O bW bX bY z0Q (pv 3) (z00 (z0T (z00 (pv 4) (z00 (z0s z0m rfl M.tuple bH (z00 (z15 ["_law_row_here"] [] [] rfl (z0w rfl (by decide +kernel) rfl (by decide +kernel) rfl rfl) (z1L (z0B z0Y (pv 0) (z0u z23 (pv 4) z06) (fun _ _=>rfl))) (fun _ _ _ _ _=>(z0j (i:=0) (show((["_law_row_here"]:List PySem.Str)++([]:List PySem.Str)).Nodup from by decide +kernel) rfl (Or.inl rfl))) (z0y (by decide)) z0h (fun _ _ _ _ _=>z1E) (fun _ _ _ _ _=>(z0B (r:=P2 K) z0C (pv 0) z06 (fun _ _=>rfl)))) z02)) z02))) z02)))) z0l))) (z05 (z0i (z0T (z00 (pv 1) (z00 (z0s z0m rfl M.tuple bH (z00 (z0B z0Y (pv 0) (z0u z23 (pv 1) z06) (fun _ _=>rfl)) z02)) (z00 (z0s z0m rfl M.tuple bH (z00 (pv 3) z02)) z02)))))))),?_⟩
 refine⟨(by show 0≤sizeLine;decide),fun lt hlt=>?_⟩
 refine(rdI rfl (ex2 _ _ ⟨rfl,rfl,(rdI rfl (ex2 (n-1) 0 ⟨rfl,⟨by lia,by lia,by decide,by decide⟩,?_⟩))⟩))
 have e0:(n-1-0).toNat=(n-1).toNat:=by rw[Int.sub_zero]
 rw[e0]
 refine y6v (hi:=n-1) (n:=(n-1).toNat) (fun j σ H'=>∃(zs:List V) (o:Option V),H' lt=some (.lst zs)/\z08 H' (((dnI (n-1) j).filter fun k=>decide (n-k≤r)).map (z9e rows)) zs/\B0 H H'/\
  σ=[some (.ref lr),some (.int n),some (.int r),some (.ref lt),o]) ⟨[],_,z03,.nil,z01 hlt _,rfl⟩ (fun j σ H' hj hp=>?_) (fun σ H' hp=>?_)
 ·obtain⟨zs,o,p1,p2,p3,rfl⟩:=hp
  have lz:=p2.length
  rw[b9] at lz
  have lf:=c6 (fun k=>decide (n-k≤r)) (dnI (n-1) j)
  rw[z9N] at lf
  have st:((dnI (n-1) (j+1)).filter fun k=>decide (n-k≤r))=((dnI (n-1) j).filter fun k=>decide (n-k≤r))++(if decide (n-(n-1-(j:Int))≤r)=true then [n-1-(j:Int)] else []):=by
   rw[y5y,dH,dM]
   rfl
  refine(rdI rfl (rdI rfl (ex2 _ _ ⟨rfl,rfl,(rdI rfl (ex2 _ _ ⟨rfl,rfl,(rdI rfl ?_)⟩))⟩)))
  refine B9 (fun c=>?_) (fun c=>?_)
  ·rw[if_pos c] at st
   have hTk:=z08.keep p3 _ _ hT
   obtain⟨v,ev,av,tv⟩:=z2H hTk (k:=n-1-(j:Int)) (by lia) (by lia)
   obtain⟨ra,xs,rfl,hra,lxs,txs⟩:=z0d tv
   have lrow:=z4L n12 (n-1-(j:Int))
   have lx:=txs.length
   rw[b9] at lx
   refine(rdI rfl ⟨.inl ⟨rfl,_,SqL.of p1⟩,(rdI rfl (rdI rfl (rdI rfl (ex2 _ _ ⟨rfl,rfl,(ex4 lr _ _ _ ⟨rfl,rfl,p3.seq hS,av,ra,rfl,⟨_,SqT.of hra⟩,?_⟩)⟩))))⟩)
   refine z1n (xs:=xs) (fun i ys H2=>H2=H'/\ys=((z0x (z0t rows (n-1-(j:Int)))).take i).map V.str) ⟨rfl,rfl⟩ (fun i ys H2 hi hp=>?_) (fun i x ys H2 hx hp=>?_) (fun ys H2 hp=>?_)
   ·obtain⟨rfl,rfl⟩:=hp
    refine⟨SqT.of hra,z0f ?_⟩
    rw[b9,bG]
    lia
   ·obtain⟨rfl,rfl⟩:=hp
    obtain⟨p,a,er,rfl,ha⟩:=z1R txs i x hx
    refine(rdI rfl (ex4 a _ _ _ ⟨rfl,rfl,SqT.of ha,rfl,rfl,?_⟩))
    have en:(z0x (z0t rows (n-1-(j:Int))))[i]? = some p.1:=by unfold z0x;rw[bC,er];rfl
    rw[z0n en,bF]
    rfl
   ·obtain⟨rfl,rfl⟩:=hp
    have ll:(z0x (z0t rows (n-1-(j:Int)))).length=xs.length:=by unfold z0x;rw[b9];exact lx.symm
    rw[<- ll,bT]
    intro D hD
    refine(ex2 D _ ⟨rfl,.inl ⟨SqL.of z03,fun t ht=>⟨(by show 2≤sizeLine;decide),fun t2 ht2=>?_⟩⟩⟩)
    have g1:=(z01 (H:=H2) hD (.lst ((z0x (z0t rows (n-1-(j:Int)))).map V.str))).trans ((z01 ht (.tup ((z0x (z0t rows (n-1-(j:Int)))).map V.str))).trans (z01 ht2 (.tup [.int (n-1-(j:Int)),.ref t])))
    refine(ex3 lt zs _ ⟨rfl,rfl,g1 _ _ p1,z0f (by lia),?_⟩)
    refine⟨_,some (.int (n-1-(j:Int))),z03,?_,z1y (p3.trans g1) hlt,rfl⟩
    rw[st,bF]
    refine z08.over (g1 _ _ p1) y0Y _ _ (z08.snoc (z08.keep g1 _ _ p2) (z0q z03 (by show 2≤1000000;decide) (.cons (z0H _) (.cons ?_ .nil))))
    refine z0q (z01 ht2 _ _ _ z03) ?_ (z20 _)
    rw[b9,ll]
    lia
  ·rw[if_neg c,cR] at st
   refine⟨zs,some (.int (n-1-(j:Int))),p1,?_,p3,rfl⟩
   rw[st]
   exact p2
 ·obtain⟨zs,o,p1,p2,p3,rfl⟩:=hp
  have lz:=p2.length
  rw[b9] at lz
  have lf:=c6 (fun k=>decide (n-k≤r)) (dnI (n-1) (n-1).toNat)
  rw[z9N] at lf
  have hTk:=z08.keep p3 _ _ hT
  obtain⟨v,ev,av,tv⟩:=z2H hTk n1 n2
  obtain⟨ra,xs,rfl,hra,lxs,txs⟩:=z0d tv
  refine(rdI rfl (rdI rfl (rdI rfl (ex2 _ _ ⟨rfl,rfl,(ex4 lr _ _ _ ⟨rfl,rfl,p3.seq hS,av,(ex2 ra xs ⟨rfl,.inr ⟨SqT.of hra,?_⟩⟩)⟩)⟩))))
  refine(rdI rfl (ex2 lt _ ⟨rfl,.inl ⟨SqL.of p1,fun t ht=>⟨(by show 3≤sizeLine;decide),fun t2 ht2=>?_⟩⟩⟩))
  have g1:=(z01 (H:=H') ht (.tup zs)).trans (z01 ht2 (.tup [.int n,.ref ra,.ref t]))
  refine q _ _ (p3.trans g1) ?_
  refine z0q z03 (by show 3≤1000000;decide) (.cons (z0H _) (.cons (B2.keep g1 _ _ tv) (.cons ?_ .nil)))
  refine z0q (z01 ht2 _ _ _ z03) ?_ (z08.keep g1 _ _ p2)
  rw[b9]
  show((dnI (n-1) (n-1).toNat).filter fun k=>decide (n-k≤r)).length≤1000000
  lia
structure E2(zs:List Str):Prop where
 lo:1≤zs.length
 hi:zs.length≤12
 nd:zs.Nodup
noncomputable def SqN(K:PySem.W.Frag)(H:Hp)(p:Addr)(zs:List Str):Prop:=SqL K H p (zs.map V.str)\/SqT K H p (zs.map V.str)
theorem SqN.keep{K:PySem.W.Frag}{H H':Hp}{p:Addr}{zs:List Str}(h:B0 H H')(x:SqN K H p zs):SqN K H' p zs:=x.imp (fun q=>h.seq q) fun q=>z69 h q
noncomputable def z9B(K:PySem.W.Frag):Sp:=fun vs H Q _=>∃(p:Addr) (zs:List Str),vs=[.ref p]/\SqN K H p zs/\E2 zs/\∀H',B0 H H'->Q .non H'
theorem y1M(M:Bl mg)(F:Fun K "refuse_bad_names" "refuse_bad_names" z2v f fd):B4 P w K mg base CX0 1 f fd z2x (z9B K):=by
 have nd:=z3k.nd
 refine F.ok z3k (fun vs H Q E h=>?_) (fun cdv A outer s H vs Q E hr h=>?_)
 ·obtain⟨p,zs,rfl,_⟩:=h
  rfl
 ·obtain⟨p,zs,rfl,hp,g,k⟩:=h
  refine⟨_,(z04 (z0E (z0c z9a (z0b z09 rfl M.len bO (z00 (pv 0) z02)) z06 (z0o _)) (z05 z1N) z0l) (z04 (z0E (z0c z2p (z0b z09 rfl M.len bO (z00 (pv 0) z02)) (z2V rfl M.MOST_NAMES) (z0o _)) (z05 z1N) z0l) (z05 (z0E (z0c z7g (z0b z6l rfl M.len bO (z00 (z0s (z5r rfl) rfl M.set PyProof.Rows.boot_set (z00 (pv 0) z02)) z02)) (z0b z09 rfl M.len bO (z00 (pv 0) z02)) (z0o _)) (z05 z1N) z0l)))),?_⟩
  have:=g.lo
  have:=g.hi
  have el:(zs.map V.str).length=zs.length:=b9 _
  refine(rdI rfl (ex2 p _ ⟨rfl,hp,(ex2 _ _ ⟨rfl,rfl,(rdI rfl (B9 (fun q=>absurd (z0I q) (by lia)) fun _=>?_))⟩)⟩))
  refine(rdI rfl (ex2 p _ ⟨rfl,hp,(ex2 _ _ ⟨rfl,rfl,(rdI rfl (B9 (fun q=>absurd (z0I q) (by lia)) fun _=>?_))⟩)⟩))
  refine(rdI rfl (ex2 p zs ⟨rfl,hp,by lia,fun l hl=>(ex2 l zs ⟨rfl,z03,by lia,(rdI rfl (ex2 p (zs.map V.str) ⟨rfl,SqN.keep (z01 hl _) hp,rfl,(rdI rfl ?_)⟩))⟩)⟩))
  refine y8I ?_ (k _ (z01 hl _))
  rw[y4X g.nd,el]
noncomputable def z9F:Sp:=fun vs H Q _=>∃r:Int,vs=[.int r]/\0≤r/\r≤10/\Q .non H
theorem y1d(M:Bl mg)(F:Fun K "refuse_bad_reach" "refuse_bad_reach" z2s f fd):B4 P w K mg base CX0 1 f fd z2y z9F:=by
 have nd:=z3o.nd
 refine F.ok z3o (fun vs H Q E h=>?_) (fun cdv A outer s H vs Q E hr h=>?_)
 ·obtain⟨r,rfl,_⟩:=h
  rfl
 ·obtain⟨r,rfl,r0,r1,k⟩:=h
  refine⟨_,(z05 (z0E (PW.pt (z37 (z0c z9a (pv 0) z06 (z0o _)) (z25 (z0c z2p (pv 0) (z2V rfl M.MOST_REACH) (z0o _))))) (z05 z1N) z0l)),?_⟩
  refine(rdI rfl (ex2 _ _ ⟨rfl,rfl,(rdI rfl (B9 (fun q=>absurd (z0I q) (by lia)) fun _=>?_))⟩))
  exact(rdI rfl (ex2 _ _ ⟨rfl,rfl,(rdI rfl (B9 (fun q=>absurd (z0I q) (by lia)) fun _=>k))⟩))
noncomputable def HdN(K:PySem.W.Frag)(H:Hp)(p:Addr)(zs:List Str):Prop:=SqL K H p (zs.map V.str)\/H p=some (.tup (zs.map V.str))
theorem HdN.sq{K:PySem.W.Frag}{H:Hp}{p:Addr}{zs:List Str}(h:HdN K H p zs):SqN K H p zs:=h.imp id SqT.of
theorem HdN.keep{K:PySem.W.Frag}{H H':Hp}{p:Addr}{zs:List Str}(s:B0 H H')(h:HdN K H p zs):HdN K H' p zs:=h.imp (fun q=>s.seq q) fun q=>s _ _ q
noncomputable def z6Y(K:PySem.W.Frag):Sp:=fun vs H Q _=>∃(p:Addr) (zs:List Str) (r:Int),vs=[.ref p,.int r]/\HdN K H p zs/\E2 zs/\0≤r/\r≤10/\∀(l:Addr) (H':Hp),B0 H H'->H' l=some (.tup (zs.map V.str))->Q (.ref l) H'
theorem y1J(M:Bl mg)(F:Fun K "bulletin_names" "bulletin_names" z2W f fd)(J4:Cal P w K mg base 1 "refuse_bad_names" z2x (z9B K))(J2:Cal P w K mg base 1 "refuse_bad_reach" z2y z9F) :
  B4 P w K mg base CX0 2 f fd z2l (z6Y K):=by
 have nd:=z4s.nd
 refine F.ok z4s (fun vs H Q E h=>?_) (fun cdv A outer s H vs Q E hr h=>?_)
 ·obtain⟨p,zs,r,rfl,_⟩:=h
  rfl
 ·obtain⟨p,zs,r,rfl,hp,g,r0,r1,k⟩:=h
  refine⟨_,(z04 (z0D (z0e J4 (rm hr) rfl (z00 (pv 0) z02))) (z04 (z0D (z0e J2 (rm hr) rfl (z00 (pv 1) z02))) (z05 (z0i (z0s z0m rfl M.tuple bH (z00 (pv 0) z02)))))),?_⟩
  refine(rdI rfl (ex2 p zs ⟨rfl,hp.sq,g,fun H1 s1=>(rdI rfl ⟨r,rfl,r0,r1,(rdI rfl (ex2 p (zs.map V.str) ⟨rfl,?_⟩))⟩)⟩))
  rcases hp.keep s1 with hq|hq
  ·exact .inl ⟨hq,fun l hl=>k l _ (s1.trans (z01 hl _)) z03⟩
  ·exact .inr ⟨SqT.of hq,k p _ s1 hq⟩
noncomputable def z0A(fp:List Addr)(H H':Hp):Prop:=∀b o,H b=some o->b∉fp->H' b=some o
theorem z0A.of{fp:List Addr}{H H':Hp}(h:B0 H H'):z0A fp H H':=fun b o e _=>h b o e
theorem z0A.then{fp:List Addr}{H H1 H2:Hp}(h:z0A fp H H1)(g:B0 H1 H2):z0A fp H H2:=fun b o e n=>g b o (h b o e n)
noncomputable def z5L(H:Hp)(fp:List Addr):Prop:=∀b∈fp,∀xs,H b≠some (.tup xs)
mutual
theorem B2.but{fp:List Addr}{H H':Hp}(s:z0A fp H H')(n:z5L H fp):∀(d:DV) (x:V),B2 H d x->B2 H' d x
 | .non,_,h=>by unfold B2 at h ⊢;exact h
 | .bl _,_,h=>by unfold B2 at h ⊢;exact h
 | .int _,_,h=>by unfold B2 at h ⊢;exact h
 | .str _,_,h=>by unfold B2 at h ⊢;exact h
 | .tup ds,_,h=>by
  unfold B2 at h ⊢
  obtain⟨a,xs,e,h1,h2,h3⟩:=h
  exact⟨a,xs,e,s _ _ h1 (fun m=>n a m xs h1),h2,z08.but s n ds xs h3⟩
theorem z08.but{fp:List Addr}{H H':Hp}(s:z0A fp H H')(n:z5L H fp):∀(ds:List DV) (xs:List V),z08 H ds xs->z08 H' ds xs
 | [],_,h=>by unfold z08 at h ⊢;exact h
 | d::ds,_,h=>by
  unfold z08 at h ⊢
  obtain⟨x,r,e,h1,h2⟩:=h
  exact⟨x,r,e,B2.but s n d x h1,z08.but s n ds r h2⟩
end
theorem y0m{H:Hp}{x dx b:Addr}{o u v:HO}(nx:H x=none)(ndx:H dx=none)(h:H b=some o):upd (upd H dx u) x v b=some o:=by
 rw[z0k (z0r h nx),z0k (z0r h ndx)]
 exact h
theorem z8D{H H1:Hp}{C x dx:Addr}(s:B0 H H1)(nx:H1 x=none)(ndx:H1 dx=none):B0 H (upd (upd H1 dx (.own x)) x (.ins C dx [])):=fun _ _ e=>y0m nx ndx (s _ _ e)
theorem z8j{H H1 H2:Hp}{x:Addr}(b:z0A [x] H1 H2)(m:B0 H H1)(nx:H x=none):B0 H H2:=fun c o e=>b c o (m c o e) (by
 rw[bB]
 exact z0r e nx)
theorem z6P{H H1:Hp}{x dx b:Addr}(m:B0 H H1)(nx:H x=none)(ndx:H dx=none)(h:b=x\/b=dx\/H1 b=none):H b=none:=by
 rcases h with rfl|rfl|h
 ·exact nx
 ·exact ndx
 ·exact m.free h
theorem y7J{fp fp' fp2:List Addr}{H7 H' GW:Hp}(bt:z0A fp H7 H')(ff:∀b∈fp',b∈fp\/H7 b=none)(gW:B0 H' GW)(hf2:∀b∈fp2,b∈fp'\/GW b=none):∀b∈fp2,b∈fp\/H7 b=none:=fun b m=>(hf2 b m).elim (ff b) fun z=>by
 cases e:H7 b with
 | none=>exact .inr rfl
 | some o=>
  by_cases nb:b∈fp
  ·exact .inl nb
  ·rw[gW _ _ (bt b o e nb)] at z
   cases z
noncomputable def z0a(had:List Int):List Int:=(upI 1 60).filter fun x=>decide (x∈had)
noncomputable def Q9(had:List Int):Int:=(z0a had).getLastD 0
noncomputable def S2(had:List Int)(n:Int):List Int:=if n∈had then had else had++[n]
theorem y1S{had:List Int}{n x:Int}:x∈S2 had n↔x∈had\/x=n:=by
 unfold S2
 by_cases h:n∈had
 ·rw[if_pos h]
  exact⟨.inl,fun q=>q.elim id fun e=>e ▸ h⟩
 ·rw[if_neg h,bS,bB]
theorem z0Z{had:List Int}{x:Int}:x∈z0a had↔(1≤x/\x<1+60)/\x∈had:=by
 unfold z0a
 rw[cK,z1e,decide_eq_true_eq]
 rfl
theorem z1W(had:List Int):(z0a had).Pairwise (· < ·):=(z1z 1 60).filter _
theorem z2D(had:List Int):(z0a had).length≤60:=by
 have h:=c6 (fun x=>decide (x∈had)) (upI 1 60)
 rw[z0L] at h
 exact h
theorem y1q{ns ms:List Int}(nd:ns.Nodup)(C0:∀x∈ns,1≤x/\x≤60)(hp:ms.Perm ns)(hs:ms.Pairwise (·≤·)):ms=z0a ns:=by
 have n2:ms.Nodup:=hp.nodup_iff.mpr nd
 have lt:ms.Pairwise (· < ·):=by
  have:=List.pairwise_and_iff.mpr ⟨hs,n2⟩
  exact this.imp fun h=>by
   have:=h.1
   have:=h.2
   lia
 refine z1Z lt (z1W _) fun x=>?_
 rw[z0Z,hp.mem_iff]
 exact⟨fun h=>⟨by have:=C0 x h;lia,h⟩,fun h=>h.2⟩
abbrev ShP:=Hp->Addr->List Addr->List Str->Int->(Int->DV)->List Int->Prop
structure W2(C:Addr)(ms:List Str)(Sh:ShP):Prop where
 ins:∀{H p fp zs r iss had},Sh H p fp zs r iss had->∃dx fs,H p=some (.ins C dx fs)/\∀m∈ms,fs.lookup m=none
 own:∀{H p fp zs r iss had},Sh H p fp zs r iss had->∀b∈fp,∃o,H b=some o/\∀xs,o≠.tup xs
 keep:∀{H H' p fp gp zs r iss had},Sh H p fp zs r iss had->z0A gp H H'->(∀b∈gp,b∉fp)->z5L H gp->Sh H' p fp zs r iss had
theorem W2.same{C:Addr}{ms:List Str}{Sh:ShP}(O:W2 C ms Sh){H H':Hp}{p:Addr}{fp:List Addr}{zs:List Str}{r:Int}{iss:Int->DV}{had:List Int}(h:Sh H p fp zs r iss had)(s:B0 H H'):Sh H' p fp zs r iss had:=
 O.keep (gp:=[]) h (.of s) (fun _ q=>by cases q) fun _ q=>by cases q
theorem W2.S3{C:Addr}{ms:List Str}{Sh:ShP}(O:W2 C ms Sh){H:Hp}{p:Addr}{fp:List Addr}{zs:List Str}{r:Int}{iss:Int->DV}{had:List Int}(h:Sh H p fp zs r iss had):z5L H fp:=fun b m xs e=>by
 obtain⟨o,e1,n⟩:=O.own h b m
 rw[e1] at e
 exact n xs (Option.some.inj e)
noncomputable def y2y(K:PySem.W.Frag)(C:Addr)(Sh:ShP):Sp:=fun vs H Q _=>∃(x dx pn:Addr) (zs:List Str) (r:Int),vs=[.ref x,.ref pn,.int r]/\H x=some (.ins C dx [])/\dx≠x/\H dx=some (.own x)/\HdN K H pn zs/\E2 zs/\0≤r/\r≤10/\
 ∀(fp:List Addr) (H':Hp),(∀b∈fp,b=x\/b=dx\/H b=none)->z0A [x] H H'->(∀iss,Sh H' x fp zs r iss [])->Q .non H'
noncomputable def y8i(Sh:ShP):Sp:=fun vs H Q _=>∃(p:Addr) (v:V) (fp:List Addr) (zs:List Str) (r:Int) (iss:Int->DV) (had:List Int) (n:Int) (ds:List DV),vs=[.ref p,v]/\Sh H p fp zs r iss had/\B2 H (iss n) v/\iss n=.tup (.int n::ds)/\1≤n/\n≤60/\
 ∀(fp':List Addr) (H':Hp),(∀b∈fp',b∈fp\/H b=none)->z0A fp H H'->Sh H' p fp' zs r iss (S2 had n)->Q (.bl (decide (n∉had))) H'
noncomputable def z2Y(Sh:ShP):Sp:=fun vs H Q _=>∃(p:Addr) (fp:List Addr) (zs:List Str) (r:Int) (iss:Int->DV) (had:List Int),vs=[.ref p]/\Sh H p fp zs r iss had/\
 ∀(l:Addr) (H':Hp),B0 H H'->H' l=some (.tup ((z0a had).map V.int))->Q (.ref l) H'
noncomputable def z9r(Sh:ShP):Sp:=fun vs H Q _=>∃(p:Addr) (fp:List Addr) (zs:List Str) (r:Int) (iss:Int->DV) (had:List Int),vs=[.ref p]/\Sh H p fp zs r iss had/\∀H',B0 H H'->Q (.int (Q9 had)) H'
noncomputable def ShD(K:PySem.W.Frag)(C:Addr):ShP:=fun H p fp zs r iss had=>∃(dx pn pd:Addr) (fs:List (Str×V)) (kvs:List (Key×V)),fp=[p,dx,pd]/\H p=some (.ins C dx fs)/\H dx=some (.own p)/\H pn=some (.tup (zs.map V.str))/\H pd=some (.dK kvs)/\
 fs.lookup ("names":Str)=some (V.ref pn)/\fs.lookup ("reach":Str)=some (V.int r)/\fs.lookup ("issues":Str)=some (V.ref pd)/\(∀m∈(["put","had","latest","rows_of","tail_of"]:List Str),fs.lookup m=none)/\
 kvs.map (·.1)=had.map Sum.inl/\had.Nodup/\(∀n∈had,1≤n/\n≤60)/\(∀n v,(Sum.inl n,v)∈kvs->B2 H (iss n) v)/\E2 zs/\0≤r/\r≤10
theorem ShD.ins{K:PySem.W.Frag}{C:Addr}{H:Hp}{p:Addr}{fp:List Addr}{zs:List Str}{r:Int}{iss:Int->DV}{had:List Int}(h:ShD K C H p fp zs r iss had):∃dx fs,H p=some (.ins C dx fs)/\∀m∈(["put","had","latest","rows_of","tail_of"]:List Str),fs.lookup m=none:=by
 obtain⟨dx,pn,pd,fs,kvs,e,h1,h2,h3,h4,l1,l2,l3,lm,_⟩:=h
 exact⟨dx,fs,h1,lm⟩
theorem F1{K:PySem.W.Frag}{C:Addr}:W2 C ["put","had","latest"] (ShD K C):=by
 refine⟨fun h=>?_,fun h b hb=>?_,fun h s out nt=>?_⟩
 ·obtain⟨dx,fs,h1,lm⟩:=ShD.ins h
  refine⟨dx,fs,h1,fun m hm=>lm m ?_⟩
  simp only[bE,d6,or_false] at hm ⊢
  rcases hm with h|h|h<;>simp[h]
 ·obtain⟨dx,pn,pd,fs,kvs,rfl,h1,h2,h3,h4,_⟩:=h
  rcases bE.mp hb with rfl|hb
  ·exact⟨_,h1,fun xs z=>by cases z⟩
  rcases bE.mp hb with rfl|hb
  ·exact⟨_,h2,fun xs z=>by cases z⟩
  rw[bB.mp hb]
  exact⟨_,h4,fun xs z=>by cases z⟩
 ·obtain⟨dx,pn,pd,fs,kvs,rfl,h1,h2,h3,h4,l1,l2,l3,lm,kk,nd,all,tl,g⟩:=h
  exact(ex5 dx pn pd fs kvs ⟨rfl,s _ _ h1 (fun m=>out _ m (by simp)),s _ _ h2 (fun m=>out _ m (by simp)),s _ _ h3 (fun m=>nt _ m _ h3),s _ _ h4 (fun m=>out _ m (by simp)),l1,l2,l3,lm,kk,nd,all,fun n v hv=>B2.but s nt _ _ (tl n v hv),g⟩)
theorem y3C{A0:Addr}(M:Bl mg)(T:D4 K mg A0)(F:Fun K "__init__" "Shelf.__init__" z3f f fd)(D5:Cal P w K mg base 2 "bulletin_names" z2l (z6Y K)) :
  B4 P w K mg base CX0 3 f fd z34 (y2y K A0 (ShD K A0)):=by
 have nd:=z4o.nd
 refine F.ok z4o (fun vs H Q E h=>?_) (fun cdv A outer s H vs Q E hr h=>?_)
 ·obtain⟨x,dx,pn,zs,r,rfl,_⟩:=h
  rfl
 obtain⟨x,dx,pn,zs,r,rfl,hx,ne,hdx,hn,g,r0,r1,k⟩:=h
 refine⟨_,(z04 (z6t (pv 0) (z0e D5 (rm hr) rfl (z00 (pv 1) (z00 (pv 2) z02))) rfl) (z04 (z6t (pv 0) (pv 2) rfl) (z05 (z6t (pv 0) y2u rfl)))),?_⟩
 refine(rdI rfl (rdI rfl (ex3 pn zs r ⟨rfl,hn,g,r0,r1,fun l H1 s1 e1=>?_⟩)))
 refine(rdI rfl (ex4 x A0 dx ([]) ⟨rfl,s1 _ _ hx,T.cl,T.n_names,by decide,?_⟩))
 have z1:=z1V "names" (.ref l) []
 have z2:=z1V "reach" (.int r) (K8 "names" (.ref l) [])
 have z0:([]:List (Str×V)).length=0:=rfl
 refine(rdI rfl (rdI rfl (ex4 x A0 dx _ ⟨rfl,z03,T.cl,T.n_reach,(by lia),?_⟩)))
 rw[z5O]
 intro pd hd
 have nx:x≠pd:=z0r z03 hd
 have ndd:dx≠pd:=z0r (show upd H1 x _ dx=some _ by rw[z0k ne];exact s1 _ _ hdx) hd
 have nl:l≠x:=z5l e1 (s1 _ _ hx) (fun z=>by cases z)
 have nlp:l≠pd:=z0r (show upd H1 x _ l=some _ by rw[z0k nl];exact e1) hd
 have dfr:H1 pd=none:=by rw[z0k (dC nx)] at hd;exact hd
 refine(rdI rfl (ex4 x A0 dx _ ⟨rfl,(by rw[z0k nx,z03]),T.cl,T.n_issues,(by lia),?_⟩))
 refine k [x,dx,pd] _ (fun b hb=>?_) (fun b o e nb=>?_) (fun iss=>(ex5 dx l pd _ ([]) ⟨rfl,z03,?_,?_,?_,?_,?_,?_,?_,rfl,.nil,fun _ q=>(nomatch q),fun _ _ q=>(nomatch q),g,r0,r1⟩))
 ·simp only[bE,d6,or_false] at hb
  rcases hb with rfl|rfl|rfl
  ·exact .inl rfl
  ·exact .inr (.inl rfl)
  ·exact .inr (.inr (s1.free dfr))
 ·rw[bB] at nb
  rw[z0k nb,z0k (z0r e (s1.free dfr)),z0k nb]
  exact s1 _ _ e
 ·rw[z0k ne,z0k ndd,z0k ne]
  exact s1 _ _ hdx
 ·rw[z0k nl,z0k nlp,z0k nl]
  exact e1
 ·rw[z0k (dC nx),z03]
 ·rw[z0v,if_neg (by decide +kernel),z0v,if_neg (by decide +kernel),z0v,if_pos rfl]
 ·rw[z0v,if_neg (by decide +kernel),z0v,if_pos rfl]
 ·rw[z0v,if_pos rfl]
 ·intro m hm
  simp only[bE,d6,or_false] at hm
  rcases hm with rfl|rfl|rfl|rfl|rfl<;>rw[z0v,if_neg (by decide +kernel),z0v,if_neg (by decide +kernel),z0v,if_neg (by decide +kernel)]<;>rfl
theorem y8Q{α:Type}[DecidableEq α]:∀{l1 l2:List α},l1.Nodup->(∀x∈l1,x∈l2)->l1.length≤l2.length
 | [],_,_,_=>cZ _
 | x::r,l2,nd,sub=>by
  rw[dB] at nd
  have hx:=sub x cC
  have:=y8Q (l1:=r) (l2:=l2.erase x) nd.2 fun y hy=>(List.mem_erase_of_ne (fun(e:y=x)=>nd.1 (e ▸ hy))).mpr (sub y (bZ _ hy))
  rw[List.length_erase_of_mem hx] at this
  have h0:=List.length_pos_of_mem hx
  rw[cN]
  lia
theorem y1n{had:List Int}(nd:had.Nodup)(all:∀n∈had,1≤n/\n≤60):had.length≤60:=by
 have h:=y8Q (l2:=upI 1 60) nd fun n hn=>z1e.mpr (by have:=all n hn;lia)
 rw[z0L] at h
 exact h
theorem y0b{kvs:List (Key×V)}{had:List Int}(kk:kvs.map (·.1)=had.map Sum.inl)(n:Int):(L9 kvs (Sum.inl n)).isSome=decide (n∈had):=by
 rw[<- z7Y]
 have e:(kvs.any fun kv=>decide (kv.1=Sum.inl n))=(kvs.map (·.1)).any fun k=>decide (k=Sum.inl n):=by rw[hZ];rfl
 rw[e,kk,hZ]
 by_cases h:n∈had
 ·rw[decide_eq_true h,jF]
  exact⟨n,h,decide_eq_true rfl⟩
 ·rw[decide_eq_false h,jZ]
  intro m hm z
  have e:=of_decide_eq_true z
  cases e
  exact h hm
theorem y8w{A0:Addr}(M:Bl mg)(T:D4 K mg A0)(F:Fun K "put" "Shelf.put" z6J f fd):B4 P w K mg base CX0 1 f fd z75 (y8i (ShD K A0)):=by
 have nd:=z8e.nd
 refine F.ok z8e (fun vs H Q E h=>?_) (fun cdv A outer s H vs Q E hr h=>?_)
 ·obtain⟨p,v,fp,zs,r,iss,had,n,ds,rfl,_⟩:=h
  rfl
 obtain⟨p,v,fp,zs,r,iss,had,n,ds,rfl,sh,tv,en,n1,n2,k⟩:=h
 have hu:=y12 hr
 refine⟨_,(z04 (z0p (i:=2) nd rfl (Or.inl rfl) (z0B z0C (pv 1) z06 (fun _ _=>rfl))) (z04 (z0E (z7u (y4v hu (pv 2) (z0J (pv 0) rfl))) (z05 (z0i z1P)) z0l) (z04 (y1v hu (z0J (pv 0) rfl) (pv 2) (pv 1) rfl) (z05 (z0i z1P))))),?_⟩
 obtain⟨dx,pn,pd,fs,kvs,rfl,h1,h2,h3,h4,l1,l2,l3,lm,kk,ndh,all,tl,g,r0,r1⟩:=sh
 rw[en] at tv
 obtain⟨a,us,rfl,ea,_,tu⟩:=z0d tv
 obtain⟨x0,ur,rfl,t0,_⟩:=z0g tu
 cases z1o t0
 refine(rdI rfl (ex4 a _ _ _ ⟨rfl,rfl,SqT.of ea,z0R rfl,?_⟩))
 refine(rdI rfl (rdI rfl (ex5 p A0 dx fs _ ⟨rfl,h1,T.cl,T.n_issues,l3,(ex2 pd _ ⟨rfl,N6.k (k:=Sum.inl n) h4,?_⟩)⟩)))
 refine(rdI rfl ?_)
 rw[y0b kk]
 have fr:∀b∈[p,dx,pd],∃o,H b=some o:=fun b hb=>by
  simp only[bE,d6,or_false] at hb
  rcases hb with rfl|rfl|rfl
  ·exact⟨_,h1⟩
  ·exact⟨_,h2⟩
  ·exact⟨_,h4⟩
 refine B9 (fun c=>?_) (fun c=>?_)
 ·have c':=z0I c
  have e:=k [p,dx,pd] H (fun b hb=>.inl hb) (fun b o e _=>e) ⟨dx,pn,pd,fs,kvs,rfl,h1,h2,h3,h4,l1,l2,l3,lm,by unfold S2;rw[if_pos c'];exact kk,by unfold S2;rw[if_pos c'];exact ndh,fun m hm=>?_,tl,g,r0,r1⟩
  ·rw[decide_eq_false (fun z=>z c')] at e
   exact e
  ·unfold S2 at hm
   rw[if_pos c'] at hm
   exact all m hm
 ·have c':=z4q c
  have lk:kvs.length≤60:=by
   have e2:=congrArg List.length kk
   rw[b9,b9] at e2
   have:=y1n ndh all
   lia
  have en':L9 kvs (Sum.inl n:Key)=none:=by
   have:=y0b kk n
   rw[decide_eq_false c'] at this
   cases e:L9 kvs (Sum.inl n:Key) with
   | none=>rfl
   | some v=>rw[e] at this;cases this
  refine(rdI rfl (rdI rfl (ex5 p A0 dx fs _ ⟨rfl,h1,T.cl,T.n_issues,l3,(rdI rfl (ex2 pd _ ⟨rfl,V6.k (k:=Sum.inl n) h4 (z0f (by lia)),?_⟩))⟩)))
  rw[y1Q _ en']
  have np:p≠pd:=z5l h1 h4 (fun z=>by cases z)
  have nx:dx≠pd:=z5l h2 h4 (fun z=>by cases z)
  have nn:pn≠pd:=z5l h3 h4 (fun z=>by cases z)
  have e:=k [p,dx,pd] (upd H pd (.dK (kvs++[(Sum.inl n,.ref a)]))) (fun b hb=>.inl hb) (fun b o e nb=>by rw[z0k (fun z=>nb (by rw[z];simp))];exact e)
   ⟨dx,pn,pd,fs,_,rfl,by rw[z0k np];exact h1,by rw[z0k nx];exact h2,by rw[z0k nn];exact h3,z03,l1,l2,l3,lm,?_,?_,fun m hm=>?_,fun m v hv=>?_,g,r0,r1⟩
  ·rw[decide_eq_true c'] at e
   exact e
  ·unfold S2
   rw[if_neg c',bF,bF,kk]
   rfl
  ·unfold S2
   rw[if_neg c',j8]
   exact⟨ndh,by simp,fun x hx y hy z=>by rw[bB] at hy;subst hy;subst z;exact c' hx⟩
  ·rcases y1S.mp hm with h|rfl
   ·exact all m h
   ·lia
  ·refine B2.over h4 (fun _ z=>by cases z) _ _ ?_
   rcases bS.mp hv with h|h
   ·exact tl m v h
   ·rw[bB] at h
    cases h
    rw[en]
    exact tv
theorem y5F{A0:Addr}(M:Bl mg)(T:D4 K mg A0)(F:Fun K "had" "Shelf.had" z6X f fd):B4 P w K mg base CX0 1 f fd z1l (z2Y (ShD K A0)):=by
 have nd:=z8a.nd
 refine F.ok z8a (fun vs H Q E h=>?_) (fun cdv A outer s H vs Q E hr h=>?_)
 ·obtain⟨p,fp,zs,r,iss,had,rfl,_⟩:=h
  rfl
 obtain⟨p,fp,zs,r,iss,had,rfl,sh,k⟩:=h
 refine⟨_,(z05 (z0i (z0s z0m rfl M.tuple bH (z00 (z0b (z4r rfl) rfl M.sorted fR (z00 (z0J (pv 0) rfl) z02)) z02)))),?_⟩
 obtain⟨dx,pn,pd,fs,kvs,rfl,h1,h2,h3,h4,l1,l2,l3,lm,kk,ndh,all,tl,g,r0,r1⟩:=sh
 refine(rdI rfl (ex5 p A0 dx fs _ ⟨rfl,h1,T.cl,T.n_issues,l3,(ex3 pd kvs had ⟨rfl,h4,kk,eQ (y1n ndh all) (by decide),fun l ms hl hp hs=>?_⟩)⟩))
 rw[y1q ndh all hp hs]
 exact(ex2 l _ ⟨rfl,.inl ⟨SqL.of z03,fun t ht=>k t _ ((z01 hl _).trans (z01 ht _)) z03⟩⟩)
theorem y2o{had:List Int}{m:Int}(hm:m∈z0a had)(hb:∀y∈z0a had,y≤m):m=Q9 had:=by
 unfold Q9
 have ne:z0a had≠[]:=fun z=>by rw[z] at hm;cases hm
 have e:(z0a had).getLastD 0=(z0a had).getLast ne:=by rw[List.getLastD_eq_getLast?,List.getLast?_eq_some_getLast ne]<;>rfl
 rw[e]
 have h1:=hb _ (List.getLast_mem ne)
 have d:z0a had=(z0a had).dropLast++[(z0a had).getLast ne]:=(List.dropLast_concat_getLast ne).symm
 have rs:=z1W had
 rw[d] at hm rs
 rcases bS.mp hm with h|h
 ·have:=(cX.mp rs).2.2 m h _ (bB.mpr rfl)
  lia
 ·exact bB.mp h
theorem y3t{A0:Addr}(M:Bl mg)(T:D4 K mg A0)(F:Fun K "latest" "Shelf.latest" z4h f fd)(B3:D9 P w K mg base 1 A0 "had" z1l (z2Y (ShD K A0))):B4 P w K mg base CX0 2 f fd z4c (z9r (ShD K A0)):=by
 have nd:=z5v.nd
 refine F.ok z5v (fun vs H Q E h=>?_) (fun cdv A outer s H vs Q E hr h=>?_)
 ·obtain⟨p,fp,zs,r,iss,had,rfl,_⟩:=h
  rfl
 obtain⟨p,fp,zs,r,iss,had,rfl,sh,k⟩:=h
 refine⟨_,(z05 (z0i (y50 rfl rfl M.max (z00 (z1M B3 (rm hr) (pv 0)) z02) (z9Q z06 y20)))),?_⟩
 obtain⟨dx,fs,h1,lm⟩:=F1.ins sh
 refine(rdI rfl (ex3 p dx fs ⟨rfl,h1,lm _ (by simp),(ex6 p fp zs r iss had ⟨rfl,sh,fun l H1 s1 e1=>?_⟩)⟩))
 refine(ex3 l (z0a had) _ ⟨rfl,rfl,.inr (SqT.of e1),fun z=>?_,fun m hm hb=>?_⟩)
 ·have e:Q9 had=0:=by unfold Q9;rw[z];rfl
  have:=k H1 s1
  rw[e] at this
  exact this
 ·rw[y2o hm hb]
  exact k H1 s1
noncomputable def R9(ns:List Int)(rows:List Row)(r n:Int):DV:=.tup [.int n,.int (z0F ns n r),if z0F ns n r=0 then .tup [] else L4 (z0x (z0t rows n))]
noncomputable def z3i(ns:List Int)(rows:List Row)(r:Int):List DV:=(z1i ns).map (R9 ns rows r)
theorem z4R{ns:List Int}{n r:Int}:0≤z0F ns n r:=by
 unfold z0F
 cases e:(upI 1 60).find? (y1r ns n r) with
 | none=>exact eS _
 | some y=>
  have:=z1e.mp (gZ e)
  show 0≤y
  lia
theorem y0Q{ns:List Int}{m:Int}(hm:m∈ns\/(ns=[]/\m=0))(C0:∀x∈ns,1≤x/\x≤60)(top:∀y∈ns,y≤m):(upI 1 (m-1).toNat).filter (fun x=>!decide (x∈ns))=z1i ns:=by
 rcases hm with hm|⟨rfl,rfl⟩
 ·refine z1Z ((z1z _ _).filter _) (z2t _) fun x=>?_
  have hm':=C0 m hm
  rw[cK,z1e,z0U,k7,decide_eq_false_iff_not]
  constructor
  ·rintro⟨⟨a,b⟩,c⟩
   exact⟨by lia,c,m,hm,by lia⟩
  ·rintro⟨a,b,y,hy,c⟩
   have:=top y hy
   exact⟨by lia,b⟩
 ·rw[y19]
  rfl
theorem z6v{ns:List Int}(i:Nat):(upI 1 (i+1)).filter (fun x=>!decide (x∈ns))=(upI 1 i).filter (fun x=>!decide (x∈ns))++(if (1:Int)+(i:Int)∈ns then [] else [1+(i:Int)]):=by
 rw[z5f,dH,dM]
 by_cases h:(1:Int)+(i:Int)∈ns
 ·rw[if_pos h,decide_eq_true h]
  rfl
 ·rw[if_neg h,decide_eq_false h]
  rfl
noncomputable def J0(w:Row)(z:Str):Option Int:=w.foldl (fun acc p=>if p.1=z then some p.2 else acc) none
theorem y0z(w:Row)(p:Str×Int)(z:Str):J0 (w++[p]) z=if p.1=z then some p.2 else J0 w z:=by
 unfold J0
 rw[gJ]
 rfl
noncomputable def z0S(ms:List Int)(rows:List Row)(z:Str):Option (Int×Int):=ms.foldl (fun acc n=>match J0 (z0t rows n) z with|some v=>some (n,v)|none=>acc) none
theorem z7a(ms:List Int)(n:Int)(rows:List Row)(z:Str):z0S (ms++[n]) rows z=match J0 (z0t rows n) z with|some v=>some (n,v)|none=>z0S ms rows z:=by
 unfold z0S
 rw[gJ]
 rfl
noncomputable def y01:Option (Int×Int)->DV
 | some (n,v)=>.tup [.int n,.int v]
 | none=>.tup [.int 0,.non]
noncomputable def z1k(o:Option (Int×Int)):Int:=(o.map Prod.fst).getD 0
noncomputable def y6y:Option (Int×Int)->DV
 | some (_,v)=>.int v
 | none=>.non
theorem z3p{H:Hp}{o:Option (Int×Int)}{v:V}(h:B2 H (y01 o) v):∃(a:Addr) (y:V),v=.ref a/\H a=some (.tup [.int (z1k o),y])/\B2 H (y6y o) y:=by
 cases o with
 | none=>
  obtain⟨a,xs,rfl,ha,_,ta⟩:=z0d (show B2 H (.tup [.int 0,.non]) v from h)
  obtain⟨y1,r1,rfl,t1,h3⟩:=z0g ta
  obtain⟨y2,r2,rfl,t2,h4⟩:=z0g h3
  have:=z0G h4
  subst this
  rw[z1o t1] at ha
  exact(ex2 a y2 ⟨rfl,ha,t2⟩)
 | some p=>
  obtain⟨n,x⟩:=p
  obtain⟨a,xs,rfl,ha,_,ta⟩:=z0d (show B2 H (.tup [.int n,.int x]) v from h)
  obtain⟨y1,r1,rfl,t1,h3⟩:=z0g ta
  obtain⟨y2,r2,rfl,t2,h4⟩:=z0g h3
  have:=z0G h4
  subst this
  rw[z1o t1] at ha
  exact(ex2 a y2 ⟨rfl,ha,t2⟩)
noncomputable def y1G(K:PySem.W.Frag):Sp:=fun vs H Q _=>∃(p lr:Addr) (ns:List Int) (us:List V) (rows:List Row) (z:Str),vs=[.ref p,.ref lr,.str z]/\SqL K H p (ns.map V.int)/\ns.length<64/\ns.Nodup/\(∀x∈ns,1≤x/\x≤60)/\(∀x∈ns,x≤rows.length)/\
 SqL K H lr us/\z08 H (rows.map N3) us/\∀(v:V) (H':Hp),B0 H H'->B2 H' (y01 (z0S (z0a ns) rows z)) v->Q v H'
theorem y6j(M:Bl mg)(F:Fun K "_law_held" "_law_held" z6V f fd):B4 P w K mg base CX0 1 f fd z5d (y1G K):=by
 have nd:=z8H.nd
 refine F.ok z8H (fun vs H Q E h=>?_) (fun cdv A outer s H vs Q E hr h=>?_)
 ·obtain⟨p,lr,ns,us,rows,z,rfl,_⟩:=h
  rfl
 obtain⟨p,lr,ns,us,rows,z,rfl,hP,h64,nds,C0,hup,hR,tl,q⟩:=h
 refine⟨_,(z04 (z0p (i:=3) nd rfl (Or.inl rfl) (z0T (z00 z06 (z00 z9A z02)))) (z04 (z0O bR rfl (z16 (z0b z8V rfl M.sorted fR (z00 (pv 0) z02))) (z0j (i:=4) nd rfl (Or.inl rfl)) (z05 (z0O bR rfl (z1L (z0B z0Y (pv 1) (z0u z23 (pv 4) z06) (fun _ _=>rfl))) (z0j (i:=5) nd rfl (Or.inl rfl)) (z05 (z0E (z0c z2F (z0B z0C (pv 5) z06 (fun _ _=>rfl)) (pv 2) (z0o _)) (z05 (z0p (i:=3) nd rfl (Or.inl rfl) (z0T (z00 (pv 4) (z00 (z0B z0C (pv 5) z06 (fun _ _=>rfl)) z02))))) z0l))))) (z05 (z0i (pv 3))))),?_⟩
 refine⟨(by show 2≤sizeLine;decide),fun t0 ht0=>?_⟩
 have s1:=z01 ht0 (.tup [V.int 0,V.non])
 have e1:upd H t0 (.tup [V.int 0,V.non]) t0=some (.tup [V.int 0,V.non]):=z03
 generalize upd H t0 (.tup [V.int 0,V.non])=H1 at s1 e1
 refine(rdI rfl (ex2 p ns ⟨rfl,s1.seq hP,h64,fun ls ms nls hp hs=>?_⟩))
 have er:=y1q nds C0 hp hs
 have s2:=s1.trans (z01 nls (.lst (ms.map V.int)))
 have e2:=z01 nls (.lst (ms.map V.int)) _ _ e1
 have els:upd H1 ls (.lst (ms.map V.int)) ls=some (.lst (ms.map V.int)):=z03
 generalize upd H1 ls (.lst (ms.map V.int))=H2 at s2 e2 els
 refine⟨ls,rfl,⟨_,SqL.of els⟩,z1g (K:=K) (a:=ls) (xs:=ms.map V.int) (fun i σ H'=>∃(hv:V) (o1 o2:Option V),B0 H2 H'/\B2 H' (y01 (z0S (ms.take i) rows z)) hv/\σ=[some (.ref p),some (.ref lr),some (.str z),some hv,o1,o2])
  ⟨.ref t0,none,none,B0.refl _,z0q e2 (by show 2≤1000000;decide) (.cons (z0H 0) (.cons z7P .nil)),rfl⟩ (fun i σ H' _ ⟨_,_,_,g,_⟩=>SqL.of (g _ _ els)) ?_ ?_⟩
 ·rintro i x σ H' hi ⟨hv,o1,o2,g,th,rfl⟩
  obtain⟨n,hn,rfl⟩:∃n,ms[i]? = some n/\x=V.int n:=by
   rw[bC] at hi
   cases e:ms[i]? with
   | none=>rw[e] at hi;cases hi
   | some n=>rw[e] at hi;exact⟨n,rfl,(Option.some.inj hi).symm⟩
  have nin:n∈ns:=hp.mem_iff.mp (bP hn)
  have hn1:=C0 n nin
  have hn2:=hup n nin
  obtain⟨v,_,av,tv⟩:=z2H (z08.keep (s2.trans g) _ _ tl) (k:=n) hn1.1 hn2
  obtain⟨ar,xs,rfl,er',_,tp⟩:=z0d tv
  have lw:xs.length=(z0t rows n).length:=by rw[tp.length,b9]
  refine(rdI rfl (rdI rfl (ex2 _ _ ⟨rfl,rfl,(ex4 lr us _ _ ⟨rfl,rfl,(s2.trans g).seq hR,av,ar,rfl,⟨_,SqT.of er'⟩,?_⟩)⟩)))
  refine z52 (K:=K) (a:=ar) (xs:=xs) (fun j σ H2'=>∃(hv:V) (o2:Option V),B0 H' H2'/\B2 H2' (y01 (match J0 ((z0t rows n).take j) z with|some v=>some (n,v)|none=>z0S (ms.take i) rows z)) hv/\
    σ=[some (.ref p),some (.ref lr),some (.str z),some hv,some (.int n),o2]) ⟨hv,o2,B0.refl _,th,rfl⟩ (fun j σ H2' _ ⟨_,_,g2,_⟩=>SqT.of (g2 _ _ er')) ?_ ?_
  ·rintro j y σ H2' hy ⟨hv2,o3,g2,th2,rfl⟩
   obtain⟨pq,b,e1',rfl,e2'⟩:=z1R tp j y hy
   have sb:SqT K H2' b [V.str pq.1,V.int pq.2]:=SqT.of (g2 _ _ e2')
   refine(rdI rfl (ex4 b _ 0 _ ⟨rfl,rfl,sb,rfl,(rdI rfl ⟨rfl,(rdI rfl ?_)⟩)⟩))
   have tk:(z0t rows n).take (j+1)=(z0t rows n).take j++[pq]:=z0n e1'
   refine B9 (fun c=>?_) (fun c=>?_)
   ·have c':pq.1=z:=by
     have:=z0I c
     injection this
    refine(rdI rfl (rdI rfl (ex4 b _ 1 _ ⟨rfl,rfl,sb,rfl,(by show 2≤sizeLine;decide),fun t ht=>?_⟩)))
    refine⟨.ref t,_,g2.trans (z01 ht _),?_,rfl⟩
    rw[tk,y0z,if_pos c']
    exact z0q z03 (by show 2≤1000000;decide) (.cons (z0H _) (.cons (z0H _) .nil))
   ·have c':¬pq.1=z:=fun e=>z4q c (by rw[e])
    refine⟨hv2,_,g2,?_,rfl⟩
    rw[tk,y0z,if_neg c']
    exact th2
  ·rintro σ H2' ⟨hv2,o3,g2,th2,rfl⟩
   rw[lw,bT] at th2
   refine⟨hv2,_,_,g.trans g2,?_,rfl⟩
   rw[z0n hn,z7a]
   exact th2
 ·rintro σ H' ⟨hv,o1,o2,g,th,rfl⟩
  rw[b9,bT,er] at th
  exact(rdI rfl (q hv H' (s2.trans g) th))
noncomputable def y3D(K:PySem.W.Frag):Sp:=fun vs H Q _=>∃(p lr:Addr) (ns:List Int) (us:List V) (rows:List Row) (r:Int),vs=[.ref p,.ref lr,.int r]/\H p=some (.lst (ns.map V.int))/\(∀x∈ns,1≤x/\x≤60)/\ns.length≤900/\(∀x∈ns,x≤rows.length)/\
 SqL K H lr us/\z08 H (rows.map N3) us/\(∀w∈rows,w.length≤12)/\0≤r/\∀(l:Addr) (zs:List V) (H':Hp),H l=none->B0 H H'->H' l=some (.lst zs)->z08 H' (z3i ns rows r) zs->Q (.ref l) H'
theorem y82(M:Bl mg)(F:Fun K "_law_gaps" "_law_gaps" z74 f fd)(C4:Cal P w K mg base 1 "_law_teller" z2h (z4E K)):B4 P w K mg base CX0 2 f fd z5g (y3D K):=by
 have nd:=z8Z.nd
 refine F.ok z8Z (fun vs H Q E h=>?_) (fun cdv A outer s H vs Q E hr h=>?_)
 ·obtain⟨p,lr,ns,us,rows,r,rfl,_⟩:=h
  rfl
 obtain⟨p,lr,ns,us,rows,r,rfl,hP,C0,hlen,hup,hR,tl,h12,r0,q⟩:=h
 refine⟨_,(z04 (z0p (i:=3) nd rfl (Or.inl rfl) (z1d z02)) (z04 (z0O bR rfl (z3P rfl M.range (z00 z06 (z00 (z0b (z30 rfl) rfl M.max dD (z00 (z0u z9m (pv 0) (z1d (z00 z06 z02))) z02)) z02))) (z0j (i:=4) nd rfl (Or.inl rfl)) (z04 (z0p (i:=5) nd rfl (Or.inl rfl) (z0e C4 (rm hr) rfl (z00 (pv 0) (z00 (pv 4) (z00 (pv 2) z02))))) (z04 (z0E (PW.pt (z3l (z0c z1x (pv 4) (pv 0) (by with_unfolding_all rfl)) (z2k (z0c z2F (pv 5) z06 (z0o _))))) (z05 (z0D (z2O bW bX bY z0Q (pv 3) (z00 (z0T (z00 (pv 4) (z00 z06 (z00 (z0T z02) z02)))) z02)))) z0l) (z05 (z0E (PW.pt (z3l (z0c z1x (pv 4) (pv 0) (by with_unfolding_all rfl)) (z2k (z0c z2p (pv 5) z06 (z0o _))))) (z05 (z0D (z2O bW bX bY z0Q (pv 3) (z00 (z0T (z00 (pv 4) (z00 (pv 5) (z00 (z0s z0m rfl M.tuple bH (z00 (z15 ["_law_row_here"] [] [] rfl (z0w rfl (by decide +kernel) rfl (by decide +kernel) rfl rfl) (z1L (z0B z0Y (pv 1) (z0u z23 (pv 4) z06) (fun _ _=>rfl))) (fun _ _ _ _ _=>(z0j (i:=0) (show((["_law_row_here"]:List PySem.Str)++([]:List PySem.Str)).Nodup from by decide +kernel) rfl (Or.inl rfl))) (z0y (by decide)) z0h (fun _ _ _ _ _=>z1E) (fun _ _ _ _ _=>(z0B (r:=P2 K) z0C (pv 0) z06 (fun _ _=>rfl)))) z02)) z02)))) z02)))) z0l))))) (z05 (z0i (pv 3))))),?_⟩
 refine⟨(by show 0≤sizeLine;decide),fun lg hlg=>?_⟩
 have s1:=z01 hlg (.lst [])
 refine(rdI rfl ⟨(by show 1≤sizeLine;decide),fun l0 hl0=>(ex4 p l0 _ _ ⟨rfl,rfl,z01 hl0 _ _ _ (s1 _ _ hP),z03,?_,fun lc hlc=>?_⟩)⟩)
 ·rw[b9]
  exact dX (z0f (by show ns.length+1≤1000;lia))
 have s2:=s1.trans ((z01 hl0 (.lst [V.int 0])).trans (z01 hlc (.lst (ns.map V.int++[V.int 0]))))
 have eg:upd (upd (upd H lg (.lst [])) l0 (.lst [V.int 0])) lc (.lst (ns.map V.int++[V.int 0])) lg=some (.lst []):=(z01 hl0 _).trans (z01 hlc _) _ _ z03
 have ec:upd (upd (upd H lg (.lst [])) l0 (.lst [V.int 0])) lc (.lst (ns.map V.int++[V.int 0])) lc=some (.lst ((ns++[0]).map V.int)):=by
  rw[z03,bF]
  rfl
 generalize upd (upd (upd H lg (.lst [])) l0 (.lst [V.int 0])) lc (.lst (ns.map V.int++[V.int 0]))=H2 at s2 eg ec
 refine(ex2 lc (ns++[0]) ⟨rfl,.inl (SqL.of ec),by simp,fun m hm top=>?_⟩)
 have hm':m∈ns\/(ns=[]/\m=0):=by
  rcases bS.mp hm with h|h
  ·exact .inl h
  ·rw[bB] at h
   subst h
   cases ns with
   | nil=>exact .inr ⟨rfl,rfl⟩
   | cons x xs=>
    have h1:=top x (by simp)
    have h2:=C0 x cC
    lia
 have m60:0≤m/\m≤60:=by
  rcases hm' with h|⟨_,h⟩
  ·have:=C0 m h
   lia
  ·lia
 have w0m:∀y∈ns,y≤m:=fun y hy=>top y (cQ _ hy)
 refine(ex2 1 m ⟨rfl,⟨by decide,by decide,by lia,by lia⟩,?_⟩)
 refine z13 (lo:=1) (n:=(m-1).toNat) (fun i σ H'=>∃(zs:List V) (o1 o2:Option V),(∀b u,H b=some u->H' b=some u)/\H' lg=some (.lst zs)/\z08 H' (((upI 1 i).filter fun x=>!decide (x∈ns)).map (R9 ns rows r)) zs/\
   σ=[some (.ref p),some (.ref lr),some (.int r),some (.ref lg),o1,o2]) ⟨[],none,none,s2,eg,.nil,rfl⟩ (fun i σ H' hi hp=>?_) (fun σ H' hp=>?_)
 ·obtain⟨zs,o1,o2,g,eG,tG,rfl⟩:=hp
  have g':B0 H H':=g
  have hn:(1:Int)+(i:Int)≤rows.length:=by
   rcases hm' with h|⟨_,h⟩
   ·have:=hup m h
    lia
   ·lia
  have lz:zs.length≤i:=by
   rw[tG.length,b9]
   have:=c6 (fun x=>!decide (x∈ns)) (upI 1 i)
   rw[z0L] at this
   exact this
  refine(rdI rfl (rdI rfl (rdI rfl (ex4 p ns (1+(i:Int)) r ⟨rfl,SqL.of (g _ _ hP),C0,hlen,r0,fun H3 s3=>?_⟩))))
  have t0:=z4R (ns:=ns) (n:=1+(i:Int)) (r:=r)
  have g3:B0 H H3:=g'.trans s3
  have eG3:=s3 _ _ eG
  have tG3:=z08.keep s3 _ _ tG
  refine(rdI rfl (rdI rfl (ex2 p _ ⟨rfl,.inl (SqL.of (g3 _ _ hP)),rfl,z2c ns,(rdI rfl ?_)⟩)))
  rw[if_pos rfl,z2A]
  by_cases hin:(1:Int)+(i:Int)∈ns
  ·rw[decide_eq_true hin]
   refine B8 (B8 ?_)
   refine(rdI rfl (rdI rfl (ex2 p _ ⟨rfl,.inl (SqL.of (g3 _ _ hP)),rfl,z2c ns,(rdI rfl ?_)⟩)))
   rw[if_pos rfl,z2A,decide_eq_true hin]
   refine B8 (B8 ⟨zs,_,_,g3,eG3,?_,rfl⟩)
   rw[z6v,if_pos hin,cR]
   exact tG3
  ·rw[decide_eq_false hin]
   refine F6 (rdI rfl ⟨rfl,(rdI rfl ?_)⟩)
   refine B9 (fun c=>?_) (fun c=>?_)
   ·have c0:z0F ns (1+(i:Int)) r=0:=by
     have:=z0I c
     injection this
    refine(rdI rfl ⟨.inl ⟨rfl,_,SqL.of eG3⟩,(rdI rfl ⟨(by show 0≤sizeLine;decide),fun t0 ht0=>⟨(by show 3≤sizeLine;decide),fun t ht=>?_⟩⟩)⟩)
    have s4:=(z01 ht0 (.tup [])).trans (z01 ht (.tup [V.int (1+(i:Int)),V.int 0,V.ref t0]))
    have et:upd (upd H3 t0 (.tup [])) t (.tup [V.int (1+(i:Int)),V.int 0,V.ref t0]) t=some (.tup [V.int (1+(i:Int)),V.int 0,V.ref t0]):=z03
    have et0:upd (upd H3 t0 (.tup [])) t (.tup [V.int (1+(i:Int)),V.int 0,V.ref t0]) t0=some (.tup []):=z01 ht _ _ _ z03
    generalize upd (upd H3 t0 (.tup [])) t (.tup [V.int (1+(i:Int)),V.int 0,V.ref t0])=H4 at s4 et et0
    refine(ex3 lg _ _ ⟨rfl,rfl,s4 _ _ eG3,z0f (by lia),?_⟩)
    have g5:∀b u,H b=some u->upd H4 lg (.lst (zs++[V.ref t])) b=some u:=fun b u e=>by
     rw[z0k (z0r e hlg)]
     exact s4 _ _ (g3 _ _ e)
    have tg:B2 H4 (R9 ns rows r (1+(i:Int))) (.ref t):=by
     unfold R9
     rw[if_pos c0,c0]
     exact z0q et (by show 3≤1000000;decide) (.cons (z0H _) (.cons (z0H _) (.cons (z0q et0 (by show 0≤1000000;decide) .nil) .nil)))
    have t5:z08 (upd H4 lg (.lst (zs++[V.ref t]))) (((upI 1 (i+1)).filter fun x=>!decide (x∈ns)).map (R9 ns rows r)) (zs++[V.ref t]):=by
     rw[z6v,if_neg hin,bF]
     exact z08.over (s4 _ _ eG3) (fun _ e=>by cases e) _ _ (z08.snoc (z08.keep s4 _ _ tG3) tg)
    refine(rdI rfl (rdI rfl (ex2 p _ ⟨rfl,.inl (SqL.of (g5 _ _ hP)),rfl,z2c ns,(rdI rfl ?_)⟩)))
    rw[if_pos rfl,z2A,decide_eq_false hin]
    refine F6 (rdI rfl (ex2 _ _ ⟨rfl,rfl,(rdI rfl ?_)⟩))
    rw[c0]
    exact B8 ⟨_,_,_,g5,z03,t5,rfl⟩
   ·have c0:z0F ns (1+(i:Int)) r≠0:=fun e=>z4q c (by rw[e])
    refine(rdI rfl (rdI rfl (ex2 p _ ⟨rfl,.inl (SqL.of (g3 _ _ hP)),rfl,z2c ns,(rdI rfl ?_)⟩)))
    rw[if_pos rfl,z2A,decide_eq_false hin]
    refine F6 (rdI rfl (ex2 _ _ ⟨rfl,rfl,(rdI rfl ?_)⟩))
    rw[decide_eq_true (show(0:Int)<z0F ns (1+(i:Int)) r by lia)]
    refine F6 ?_
    obtain⟨v,_,av,tv⟩:=z2H (z08.keep g3 _ _ tl) (k:=1+(i:Int)) (by lia) hn
    obtain⟨ar,xs,rfl,er,_,tp⟩:=z0d tv
    have lw:xs.length=(z0t rows (1+(i:Int))).length:=by rw[tp.length,b9]
    have w12:=z4L h12 (1+(i:Int))
    refine(rdI rfl ⟨.inl ⟨rfl,_,SqL.of eG3⟩,(rdI rfl (rdI rfl (rdI rfl (rdI rfl (ex2 _ _ ⟨rfl,rfl,(ex4 lr us _ _ ⟨rfl,rfl,g3.seq hR,av,ar,rfl,⟨_,SqT.of er⟩,?_⟩)⟩)))))⟩)
    refine z1n (xs:=xs) (fun j ys H2=>H2=H3/\ys=((z0x (z0t rows (1+(i:Int)))).take j).map V.str) ⟨rfl,rfl⟩ (fun j ys H2 hj hp=>?_) (fun j y ys H2 hy hp=>?_) (fun ys H2 hp=>?_)
    ·obtain⟨rfl,rfl⟩:=hp
     refine⟨SqT.of er,z0f ?_⟩
     rw[b9,bG]
     lia
    ·obtain⟨rfl,rfl⟩:=hp
     obtain⟨pq,b,e1,rfl,e2⟩:=z1R tp j y hy
     refine(rdI rfl (ex4 b _ 0 _ ⟨rfl,rfl,SqT.of e2,rfl,rfl,?_⟩))
     have e3:(z0x (z0t rows (1+(i:Int))))[j]? = some pq.1:=by
      unfold z0x
      rw[bC,e1]
      rfl
     rw[z0n e3,bF]
     rfl
    obtain⟨rfl,rfl⟩:=hp
    have ll:(z0x (z0t rows (1+(i:Int)))).take xs.length=z0x (z0t rows (1+(i:Int))):=cO (by unfold z0x;rw[b9];lia)
    rw[ll]
    intro D hD
    refine(ex2 D _ ⟨rfl,.inl ⟨SqL.of z03,fun t0 ht0=>⟨(by show 3≤sizeLine;decide),fun t ht=>?_⟩⟩⟩)
    generalize hN:(z0x (z0t rows (1+(i:Int)))).map V.str=nv at hD ht0 ht
    have s4:=(z01 hD (.lst nv)).trans ((z01 ht0 (.tup nv)).trans (z01 ht (.tup [V.int (1+(i:Int)),V.int (z0F ns (1+(i:Int)) r),V.ref t0])))
    have et:upd (upd (upd H2 D (.lst nv)) t0 (.tup nv)) t (.tup [V.int (1+(i:Int)),V.int (z0F ns (1+(i:Int)) r),V.ref t0]) t=some (.tup [V.int (1+(i:Int)),V.int (z0F ns (1+(i:Int)) r),V.ref t0]):=z03
    have et0:upd (upd (upd H2 D (.lst nv)) t0 (.tup nv)) t (.tup [V.int (1+(i:Int)),V.int (z0F ns (1+(i:Int)) r),V.ref t0]) t0=some (.tup nv):=z01 ht _ _ _ z03
    generalize upd (upd (upd H2 D (.lst nv)) t0 (.tup nv)) t (.tup [V.int (1+(i:Int)),V.int (z0F ns (1+(i:Int)) r),V.ref t0])=H4 at s4 et et0
    refine(ex3 lg _ _ ⟨rfl,rfl,s4 _ _ eG3,z0f (by lia),?_⟩)
    have g5:∀b u,H b=some u->upd H4 lg (.lst (zs++[V.ref t])) b=some u:=fun b u e=>by
     rw[z0k (z0r e hlg)]
     exact s4 _ _ (g3 _ _ e)
    have tg:B2 H4 (R9 ns rows r (1+(i:Int))) (.ref t):=by
     unfold R9
     rw[if_neg c0]
     refine z0q et (by show 3≤1000000;decide) (.cons (z0H _) (.cons (z0H _) (.cons (z0q et0 ?_ ?_) .nil)))
     ·rw[b9]
      unfold z0x
      rw[b9]
      lia
     ·rw[<- hN]
      exact z20 _
    refine⟨_,_,_,g5,z03,?_,rfl⟩
    rw[z6v,if_neg hin,bF]
    exact z08.over (s4 _ _ eG3) (fun _ e=>by cases e) _ _ (z08.snoc (z08.keep s4 _ _ tG3) tg)
 ·obtain⟨zs,o1,o2,g,eG,tG,rfl⟩:=hp
  rw[y0Q hm' C0 w0m] at tG
  exact(rdI rfl (q lg zs H' hlg g eG tG))
theorem z7U(x:Str)(ns:List Str):inV (.str x) (ns.map V.str)=decide (x∈ns):=by
 unfold inV
 rw[d8,hZ,jF,decide_eq_true_eq]
 constructor
 ·rintro⟨y,hy,e⟩
  have:y=x:=by simpa [eqV] using e
  exact this ▸ hy
 ·intro h
  exact⟨x,h,by simp[eqV]⟩
noncomputable def z2q(ns:List Int)(rows:List Row)(r n:Int):List Str:=if z0F ns n r=0 then [] else z0x (z0t rows n)
theorem y4y(ns:List Int)(rows:List Row)(r n:Int):R9 ns rows r n=.tup [.int n,.int (z0F ns n r),L4 (z2q ns rows r n)]:=by
 unfold R9 z2q
 by_cases h:z0F ns n r=0
 ·rw[if_pos h,if_pos h]
  rfl
 ·rw[if_neg h,if_neg h]
noncomputable def z4C(ns:List Int)(rows:List Row)(r num:Int)(z:Str):List Int:=(z1i ns).filter fun n=>decide (num<n) && decide (z∈z2q ns rows r n)
noncomputable def y2c(ns:List Int)(rows:List Row)(r num:Int)(z:Str):DV:=.tup ((z4C ns rows r num z).map fun n=>.tup [.int n,.int (z0F ns n r)])
theorem z9j(ns:List Int)(rows:List Row)(r num:Int)(z:Str):(z4C ns rows r num z).length≤60:=cL (c6 _ _) (z2j ns)
theorem z6b{H:Hp}{ns:List Int}{rows:List Row}{r:Int}{zs:List V}(h:z08 H (z3i ns rows r) zs){i:Nat}{x:V}(e:zs[i]? = some x) :
  ∃(n:Int) (a b:Addr),(z1i ns)[i]? = some n/\x=.ref a/\H a=some (.tup [.int n,.int (z0F ns n r),.ref b])/\H b=some (.tup ((z2q ns rows r n).map V.str)):=by
 obtain⟨d,e1,t⟩:=h.at i x e
 unfold z3i at e1
 rw[bC] at e1
 cases er:(z1i ns)[i]? with
 | none=>rw[er] at e1;cases e1
 | some n=>
  rw[er] at e1
  have e2:R9 ns rows r n=d:=Option.some.inj e1
  rw[y4y] at e2
  subst e2
  obtain⟨a,ys,rfl,h1,_,h2⟩:=z0d t
  obtain⟨y1,r1,rfl,t1,h3⟩:=z0g h2
  obtain⟨y2,r2,rfl,t2,h4⟩:=z0g h3
  obtain⟨y3,r3,rfl,t3,h5⟩:=z0g h4
  have:=z0G h5
  subst this
  obtain⟨b,ws,rfl,hb,_,tb⟩:=z0d t3
  rw[z1o t1,z1o t2] at h1
  rw[z11 tb] at hb
  exact(ex3 n a b ⟨rfl,rfl,h1,hb⟩)
theorem z8g{H:Hp}{ns:List Int}{rows:List Row}{r:Int}{zs:List V}(h:z08 H (z3i ns rows r) zs):zs.length=(z1i ns).length:=by
 rw[h.length]
 unfold z3i
 rw[b9]
noncomputable def y1C(K:PySem.W.Frag):Sp:=fun vs H Q _=>∃(lg:Addr) (zs:List V) (ns:List Int) (rows:List Row) (r num:Int) (z:Str),vs=[.ref lg,.int num,.str z]/\SqL K H lg zs/\z08 H (z3i ns rows r) zs/\
 ∀(v:V) (H':Hp),B0 H H'->B2 H' (y2c ns rows r num z) v->Q v H'
theorem y5X(M:Bl mg)(F:Fun K "_law_again" "_law_again" z62 f fd):B4 P w K mg base CX0 1 f fd z4d (y1C K):=by
 have nd:=z7L.nd
 refine F.ok z7L (fun vs H Q E h=>?_) (fun cdv A outer s H vs Q E hr h=>?_)
 ·obtain⟨lg,zs,ns,rows,r,num,z,rfl,_⟩:=h
  rfl
 obtain⟨lg,zs,ns,rows,r,num,z,rfl,hG,tG,q⟩:=h
 refine⟨_,(z05 (z0i (z0s z0m rfl M.tuple bH (z00 (z15 ["_law_gap"] ["_law_number","_law_name"] [1,2] rfl (z0w rfl (by decide +kernel) rfl (by decide +kernel) rfl rfl) (z16 (pv 0)) (fun _ _ _ _ _=>(z0j (i:=0) (show((["_law_gap"]:List PySem.Str)++(["_law_number","_law_name"]:List PySem.Str)).Nodup from by decide +kernel) rfl (Or.inl rfl))) (z0y (by decide)) z0h (fun _ _ _ _ _=>(z2f (PW.pt (z3l (z0c z2p (z0B (r:=P2 K) z0C (pv 0) z06 (fun _ _=>rfl)) (pv 1) (z0o _)) (z2k (z0c (r:=rIn K false) z3W (pv 2) (z0B (r:=P2 K) z0C (pv 0) z06 (fun _ _=>rfl)) (by with_unfolding_all rfl))))))) (fun _ _ _ _ _=>(z0T (z00 (z0B (r:=P2 K) z0C (pv 0) z06 (fun _ _=>rfl)) (z00 (z0B (r:=P2 K) z0C (pv 0) z06 (fun _ _=>rfl)) z02))))) z02)))),?_⟩
 have lz:=z8g tG
 have l60:=z2j ns
 refine(rdI rfl ⟨lg,rfl,⟨_,hG⟩,?_⟩)
 refine z32 (xs:=zs) (fun i ys H'=>B0 H H'/\z08 H' ((((z1i ns).take i).filter fun n=>decide (num<n) && decide (z∈z2q ns rows r n)).map fun n=>.tup [.int n,.int (z0F ns n r)]) ys) ⟨B0.refl _,by rw[cT];exact .nil⟩
  (fun i ys H' hi hp=>?_) (fun i x ys H' hx hp=>?_) (fun ys H' hp=>?_)
 ·obtain⟨g,t⟩:=hp
  refine⟨g.seq hG,z0f ?_⟩
  have:=c6 (fun n=>decide (num<n) && decide (z∈z2q ns rows r n)) ((z1i ns).take i)
  rw[bG] at this
  rw[t.length,b9]
  lia
 ·obtain⟨g,t⟩:=hp
  obtain⟨n,a,b,en,rfl,ha,hb⟩:=z6b tG hx
  have sa:SqT K H' a [V.int n,V.int (z0F ns n r),V.ref b]:=SqT.of (g _ _ ha)
  have tks:=z0n en
  refine(rdI rfl (ex4 a _ 0 _ ⟨rfl,rfl,sa,rfl,(rdI rfl (ex2 _ _ ⟨rfl,rfl,(rdI rfl ?_)⟩))⟩))
  rw[tks,dH,dM]
  refine B9 (fun c=>?_) (fun c=>?_)
  ·refine(rdI rfl (rdI rfl (ex4 a _ 2 _ ⟨rfl,rfl,sa,rfl,(ex2 b _ ⟨rfl,.inr (SqT.of (g _ _ hb)),rfl,z18 _,(rdI rfl ?_)⟩)⟩)))
   rw[if_neg bM,z7U,c,fZ]
   refine B9 (fun c2=>?_) (fun c2=>?_)
   ·rw[if_pos c2,bF]
    refine(rdI rfl (ex4 a _ 0 _ ⟨rfl,rfl,sa,rfl,(rdI rfl (ex4 a _ 1 _ ⟨rfl,rfl,sa,rfl,(by show 2≤sizeLine;decide),fun u hu=>⟨g.trans (z01 hu _),?_⟩⟩))⟩))
    exact z08.snoc (z08.keep (z01 hu _) _ _ t) (z0q z03 (by show 2≤1000000;decide) (.cons (z0H _) (.cons (z0H _) .nil)))
   ·rw[if_neg c2,fB,cR]
    exact⟨g,t⟩
  ·rw[fI.mpr c,gK]
   refine B8 ?_
   rw[if_neg bM,fB,cR]
   exact⟨g,t⟩
 ·obtain⟨g,t⟩:=hp
  rw[lz,bT] at t
  intro D hD
  refine(ex2 D _ ⟨rfl,.inl ⟨SqL.of z03,fun l hl=>?_⟩⟩)
  have s2:=(z01 hD (.lst ys)).trans (z01 hl (.tup ys))
  refine q _ _ (g.trans s2) (z0q z03 ?_ (z08.keep s2 _ _ t))
  have:=z9j ns rows r num z
  rw[b9]
  lia
noncomputable def z4i(ns:List Int)(r num:Int):List Int:=(z1i ns).filter fun n=>decide (num<n) && decide (z0F ns n r=0)
noncomputable def z0X(ns:List Int)(rows:List Row)(r num:Int)(z:Str):Str:=if 0<(z4C ns rows r num z).length then "stale" else if z4i ns r num=[] then "sure" else "open"
noncomputable def z9T(K:PySem.W.Frag):Sp:=fun vs H Q _=>∃(lg:Addr) (zs:List V) (ns:List Int) (rows:List Row) (r num:Int) (z:Str),vs=[.ref lg,.int num,.str z]/\SqL K H lg zs/\z08 H (z3i ns rows r) zs/\
 ∀H',B0 H H'->Q (.str (z0X ns rows r num z)) H'
theorem y5c(M:Bl mg)(F:Fun K "_law_state" "_law_state" z60 f fd)(F9:Cal P w K mg base 1 "_law_again" z4d (y1C K)):B4 P w K mg base CX0 2 f fd z2Z (z9T K):=by
 have nd:=z7G.nd
 refine F.ok z7G (fun vs H Q E h=>?_) (fun cdv A outer s H vs Q E hr h=>?_)
 ·obtain⟨lg,zs,ns,rows,r,num,z,rfl,_⟩:=h
  rfl
 obtain⟨lg,zs,ns,rows,r,num,z,rfl,hG,tG,q⟩:=h
 refine⟨_,(z04 (z0E (z0c z2p (z0b z09 rfl M.len bO (z00 (z0e F9 (rm hr) rfl (z00 (pv 0) (z00 (pv 1) (z00 (pv 2) z02)))) z02)) z06 (z0o _)) (z05 (z0i z5B)) z0l) (z04 (z0E (z0c (y8k hr.P8) (z15 ["_law_gap"] ["_law_number"] [1] rfl (z0w rfl (by decide +kernel) rfl (by decide +kernel) rfl rfl) (z16 (pv 0)) (fun _ _ _ _ _=>(z0j (i:=0) (show((["_law_gap"]:List PySem.Str)++(["_law_number"]:List PySem.Str)).Nodup from by decide +kernel) rfl (Or.inl rfl))) (z0y (by decide)) z0h (fun _ _ _ _ _=>(z2f (PW.pt (z3l (z0c z2p (z0B (r:=P2 K) z0C (pv 0) z06 (fun _ _=>rfl)) (pv 1) (z0o _)) (z2k (z0c z2F (z0B (r:=P2 K) z0C (pv 0) z06 (fun _ _=>rfl)) z06 (z0o _))))))) (fun _ _ _ _ _=>(z0B (r:=P2 K) z0C (pv 0) z06 (fun _ _=>rfl)))) (z1d z02) (z0o _)) (z05 (z0i z5B)) z0l) (z05 (z0i z5B)))),?_⟩
 have lz:=z8g tG
 have l60:=z2j ns
 refine(rdI rfl (rdI rfl (rdI rfl (ex7 lg zs ns rows r num z ⟨rfl,hG,tG,fun v H1 s1 t1=>?_⟩))))
 obtain⟨a,xs,rfl,ha,_,ta⟩:=z0d t1
 have lx:xs.length=(z4C ns rows r num z).length:=by rw[ta.length,b9]
 refine(ex2 a xs ⟨rfl,.inr (SqT.of ha),(ex2 _ _ ⟨rfl,rfl,(rdI rfl ?_)⟩)⟩)
 rw[lx]
 refine B9 (fun c=>?_) (fun c=>?_)
 ·have c':(0:Int)<((z4C ns rows r num z).length:Int):=z0I c
  have e:z0X ns rows r num z="stale":=by
   unfold z0X
   rw[if_pos (by lia)]
  exact(by rw[<- e];exact q _ s1)
 have c':¬(0:Int)<((z4C ns rows r num z).length:Int):=z4q c
 have nx:¬0<(z4C ns rows r num z).length:=by lia
 refine(rdI rfl ⟨lg,rfl,⟨_,s1.seq hG⟩,?_⟩)
 refine z32 (xs:=zs) (fun i ys H'=>H'=H1/\ys=(((z1i ns).take i).filter fun n=>decide (num<n) && decide (z0F ns n r=0)).map V.int) ⟨rfl,rfl⟩ (fun i ys H' hi hp=>?_) (fun i x ys H' hx hp=>?_) (fun ys H' hp=>?_)
 ·obtain⟨rfl,rfl⟩:=hp
  refine⟨s1.seq hG,z0f ?_⟩
  have:=c6 (fun n=>decide (num<n) && decide (z0F ns n r=0)) ((z1i ns).take i)
  rw[bG] at this
  rw[b9]
  lia
 ·obtain⟨rfl,rfl⟩:=hp
  obtain⟨n,a2,b2,en,rfl,ha2,hb2⟩:=z6b (z08.keep s1 _ _ tG) hx
  have sa:SqT K H' a2 [V.int n,V.int (z0F ns n r),V.ref b2]:=SqT.of ha2
  have tks:=z0n en
  refine(rdI rfl (ex4 a2 _ 0 _ ⟨rfl,rfl,sa,rfl,(rdI rfl (ex2 _ _ ⟨rfl,rfl,(rdI rfl ?_)⟩))⟩))
  rw[tks,dH,dM]
  refine B9 (fun c=>?_) (fun c=>?_)
  ·refine(rdI rfl (ex4 a2 _ 1 _ ⟨rfl,rfl,sa,rfl,rfl,(rdI rfl ?_)⟩))
   rw[c,fZ]
   refine B9 (fun c2=>?_) (fun c2=>?_)
   ·have c3:z0F ns n r=0:=by
     have:=z0I c2
     injection this
    rw[decide_eq_true c3,if_pos rfl,bF]
    exact(rdI rfl (ex4 a2 _ 0 _ ⟨rfl,rfl,sa,rfl,rfl,rfl⟩))
   ·have c3:¬z0F ns n r=0:=fun e=>z4q c2 (by rw[e])
    rw[decide_eq_false c3,if_neg bM,fB,cR]
    exact⟨rfl,rfl⟩
  ·rw[fI.mpr c,gK]
   refine B8 ?_
   rw[if_neg bM,fB,cR]
   exact⟨rfl,rfl⟩
 ·obtain⟨rfl,rfl⟩:=hp
  rw[lz,bT]
  have ed:((z1i ns).filter fun n=>decide (num<n) && decide (z0F ns n r=0))=z4i ns r num:=rfl
  rw[ed]
  intro D hD
  refine⟨(by show 0≤sizeLine;decide),fun e0 he0=>(ex3 D e0 _ ⟨rfl,rfl,SqL.of (z01 he0 _ _ _ z03),SqL.of z03,(rdI rfl ?_)⟩)⟩
  have s2:=s1.trans ((z01 hD (.lst ((z4i ns r num).map V.int))).trans (z01 he0 (.lst [])))
  cases e:z4i ns r num with
  | nil=>
   rw[e] at s2
   refine B8 ?_
   have es:z0X ns rows r num z="sure":=by
    unfold z0X
    rw[if_neg nx,if_pos e]
   exact(by rw[<- es];exact q _ s2)
  | cons y ys=>
   rw[e] at s2
   refine F6 ?_
   have es:z0X ns rows r num z="open":=by
    unfold z0X
    rw[if_neg nx,if_neg (by rw[e];simp)]
   exact(by rw[<- es];exact q _ s2)
noncomputable def X7(ns:List Int)(rows:List Row)(r:Int)(z:Str):DV:=.tup [.str z,.str (z0X ns rows r (z1k (z0S (z0a ns) rows z)) z),.int (z1k (z0S (z0a ns) rows z)),y6y (z0S (z0a ns) rows z)]
noncomputable def z7F(nm:List Str)(ns:List Int)(rows:List Row)(r:Int):DV:=.tup (nm.map (X7 ns rows r))
noncomputable def y3J(K:PySem.W.Frag):Sp:=fun vs H Q _=>∃(ln p lr:Addr) (nm:List Str) (ns:List Int) (us:List V) (rows:List Row) (r:Int),vs=[.ref ln,.ref p,.ref lr,.int r]/\SqL K H ln (nm.map V.str)/\nm.length≤12/\H p=some (.lst (ns.map V.int))/\ns.length<64/\ns.Nodup/\(∀x∈ns,1≤x/\x≤60)/\(∀x∈ns,x≤rows.length)/\
 SqL K H lr us/\z08 H (rows.map N3) us/\(∀w∈rows,w.length≤12)/\0≤r/\∀(v:V) (H':Hp),B0 H H'->B2 H' (z7F nm ns rows r) v->Q v H'
theorem y6l(M:Bl mg)(F:Fun K "_law_table" "_law_table" z5G f fd)(K1:Cal P w K mg base 2 "_law_gaps" z5g (y3D K))(K3:Cal P w K mg base 1 "_law_held" z5d (y1G K))
  (D6:Cal P w K mg base 2 "_law_state" z2Z (z9T K)):B4 P w K mg base CX0 3 f fd z5E (y3J K):=by
 have nd:=z7s.nd
 refine F.ok z7s (fun vs H Q E h=>?_) (fun cdv A outer s H vs Q E hr h=>?_)
 ·obtain⟨ln,p,lr,nm,ns,us,rows,r,rfl,_⟩:=h
  rfl
 obtain⟨ln,p,lr,nm,ns,us,rows,r,rfl,hN,n12,hP,h64,nds,C0,hup,hR,tl,h12,r0,q⟩:=h
 refine⟨_,(z04 (z0p (i:=4) nd rfl (Or.inl rfl) (z0e K1 (rm hr) rfl (z00 (pv 1) (z00 (pv 2) (z00 (pv 3) z02))))) (z04 (z0p (i:=5) nd rfl (Or.inl rfl) (z1d z02)) (z04 (z0O bR rfl (z16 (pv 0)) (z0j (i:=6) nd rfl (Or.inl rfl)) (z04 (z0p (i:=7) nd rfl (Or.inl rfl) (z0e K3 (rm hr) rfl (z00 (pv 1) (z00 (pv 2) (z00 (pv 6) z02))))) (z05 (z0D (z2O bW bX bY z0Q (pv 5) (z00 (z0T (z00 (pv 6) (z00 (z0e D6 (rm hr) rfl (z00 (pv 4) (z00 (z0B z0C (pv 7) z06 (fun _ _=>rfl)) (z00 (pv 6) z02)))) (z00 (z0B z0C (pv 7) z06 (fun _ _=>rfl)) (z00 (z0B z0C (pv 7) z06 (fun _ _=>rfl)) z02))))) z02)))))) (z05 (z0i (z0s z0m rfl M.tuple bH (z00 (pv 5) z02))))))),?_⟩
 refine(rdI rfl (rdI rfl (rdI rfl (ex6 p lr ns us rows r ⟨rfl,hP,C0,by lia,hup,hR,tl,h12,r0,fun lg gz H1 nlg s1 eG tG=>?_⟩))))
 refine⟨(by show 0≤sizeLine;decide),fun lt hlt=>?_⟩
 refine⟨_,rfl,ln,rfl,⟨_,(s1.trans (z01 hlt _)).seq hN⟩,z1g (K:=K) (a:=ln) (xs:=nm.map V.str) (fun i σ H'=>∃(ts:List V) (o1 o2:Option V),(∀b u,H1 b=some u->H' b=some u)/\H' lt=some (.lst ts)/\z08 H' ((nm.take i).map (X7 ns rows r)) ts/\
   σ=[some (.ref ln),some (.ref p),some (.ref lr),some (.int r),some (.ref lg),some (.ref lt),o1,o2])
  ⟨[],none,none,z01 hlt _,z03,by rw[cT];exact .nil,rfl⟩ (fun i σ H' _ ⟨_,_,_,g,_⟩=>(s1.trans g).seq hN) ?_ ?_⟩
 ·rintro i x σ H' hi ⟨ts,o1,o2,g,eT,tT,rfl⟩
  have g':B0 H1 H':=g
  obtain⟨z,hz,rfl⟩:∃z,nm[i]? = some z/\x=V.str z:=by
   rw[bC] at hi
   cases e:nm[i]? with
   | none=>rw[e] at hi;cases hi
   | some z=>rw[e] at hi;exact⟨z,rfl,(Option.some.inj hi).symm⟩
  have lts:ts.length≤12:=by
   rw[tT.length,b9,bG]
   lia
  have sg:=s1.trans g'
  refine(rdI rfl (rdI rfl (rdI rfl (ex6 p lr ns us rows z ⟨rfl,SqL.of (sg _ _ hP),h64,nds,C0,hup,sg.seq hR,z08.keep sg _ _ tl,fun hv H3 s3 th=>?_⟩))))
  obtain⟨ah,y,rfl,eh,ty⟩:=z3p th
  have sah:SqT K H3 ah [V.int (z1k (z0S (z0a ns) rows z)),y]:=SqT.of eh
  refine(rdI rfl ⟨.inl ⟨rfl,_,SqL.of (s3 _ _ eT)⟩,(rdI rfl (rdI rfl (rdI rfl (ex4 ah _ 0 _ ⟨rfl,rfl,sah,rfl,(rdI rfl (ex7 lg gz ns rows r _ z ⟨rfl,SqL.of (s3 _ _ (g _ _ eG)),z08.keep (g'.trans s3) _ _ tG,fun H4 s4=>?_⟩))⟩))))⟩)
  have sah4:SqT K H4 ah [V.int (z1k (z0S (z0a ns) rows z)),y]:=SqT.of (s4 _ _ eh)
  refine(rdI rfl (ex4 ah _ 0 _ ⟨rfl,rfl,sah4,rfl,(rdI rfl (ex4 ah _ 1 _ ⟨rfl,rfl,sah4,rfl,(by show 4≤sizeLine;decide),fun t ht=>?_⟩))⟩))
  have s34:=s3.trans (s4.trans (z01 ht (.tup [V.str z,V.str (z0X ns rows r (z1k (z0S (z0a ns) rows z)) z),V.int (z1k (z0S (z0a ns) rows z)),y])))
  refine(ex3 lt _ _ ⟨rfl,rfl,s34 _ _ eT,z0f (by lia),?_⟩)
  refine⟨_,_,_,fun b u e=>?_,z03,?_,rfl⟩
  ·rw[z0k (z0r e hlt)]
   exact s34 _ _ (g b u e)
  ·rw[z0n hz,bF]
   refine z08.over (s34 _ _ eT) (fun _ e=>by cases e) _ _ (z08.snoc (z08.keep s34 _ _ tT) (z0q z03 (by show 4≤1000000;decide) (.cons (z2B _) (.cons (z2B _) (.cons (z0H _) (.cons ?_ .nil))))))
   exact B2.keep (s4.trans (z01 ht _)) _ _ ty
 ·rintro σ H' ⟨ts,o1,o2,g,eT,tT,rfl⟩
  rw[b9,bT] at tT
  refine(rdI rfl (ex2 lt ts ⟨rfl,.inl ⟨SqL.of eT,fun l hl=>?_⟩⟩))
  refine q _ _ (s1.trans (B0.trans g (z01 hl _))) (z0q z03 ?_ (z08.keep (z01 hl _) _ _ tT))
  rw[b9]
  lia
theorem y67{ds:List DV}{n:Nat}(h:∀d∈ds,d.deep≤n):DV.R8 ds≤n:=by
 induction ds with
 | nil=>unfold DV.R8;exact cZ _
 | cons d r ih=>
  unfold DV.R8
  exact Nat.max_le.mpr ⟨h d cC,ih fun x hx=>h x (bZ _ hx)⟩
theorem z19{ds:List DV}{n:Nat}(h:∀d∈ds,d.deep≤n):(DV.tup ds).deep≤n+1:=by
 unfold DV.deep
 exact Nat.succ_le_succ (y67 h)
theorem z1J(i:Int)(n:Nat):(DV.int i).deep≤n:=by unfold DV.deep;exact cZ _
theorem z7S(i:Str)(n:Nat):(DV.str i).deep≤n:=by unfold DV.deep;exact cZ _
theorem y28(s:List Str):(L4 s).deep≤1:=z19 fun d hd=>by
 obtain⟨x,_,rfl⟩:=cM.mp hd
 exact z7S _ _
theorem z9G{rows:List Row}{j:Nat}{k:Int}(h0:1≤k)(h:k≤j):z0t (rows.take j) k=z0t rows k:=by
 unfold z0t
 have hk:(k-1).toNat<j:=by lia
 rw[bK,bK,List.getElem?_take,if_pos hk]
theorem y1y{rows:List Row}{j:Nat}{n r:Int}(h0:1≤n)(h:n≤j):z0N (rows.take j) n r=z0N rows n r:=by
 unfold z0N y47
 rw[z9G h0 h]
 have e:(z5k n r).map (z9e (rows.take j))=(z5k n r).map (z9e rows):=eI fun k hk=>by
  unfold z5k at hk
  rw[cK,z8r] at hk
  unfold z9e
  rw[z9G (by lia) (by lia)]
 rw[e]
abbrev OfP:=Hp->Addr->List Addr->List Str->Int->List Row->Prop
structure Y3(C:Addr)(ms:List Str)(Of:OfP):Prop where
 ins:∀{H p fp zs r rows},Of H p fp zs r rows->∃dx fs,H p=some (.ins C dx fs)/\∀m∈ms,fs.lookup m=none
 own:∀{H p fp zs r rows},Of H p fp zs r rows->∀b∈fp,∃o,H b=some o/\∀xs,o≠.tup xs
 keep:∀{H H' p fp gp zs r rows},Of H p fp zs r rows->z0A gp H H'->(∀b∈gp,b∉fp)->z5L H gp->Of H' p fp zs r rows
theorem Y3.same{C:Addr}{ms:List Str}{Of:OfP}(O:Y3 C ms Of){H H':Hp}{p:Addr}{fp:List Addr}{zs:List Str}{r:Int}{rows:List Row}(h:Of H p fp zs r rows)(s:B0 H H'):Of H' p fp zs r rows:=
 O.keep (gp:=[]) h (.of s) (fun _ q=>by cases q) fun _ q=>by cases q
theorem Y3.S3{C:Addr}{ms:List Str}{Of:OfP}(O:Y3 C ms Of){H:Hp}{p:Addr}{fp:List Addr}{zs:List Str}{r:Int}{rows:List Row}(h:Of H p fp zs r rows):z5L H fp:=fun b m xs e=>by
 obtain⟨o,e1,n⟩:=O.own h b m
 rw[e1] at e
 exact n xs (Option.some.inj e)
noncomputable def y0f(K:PySem.W.Frag)(H:Hp)(fp:List Addr)(u:V)(p:Str×Int):Prop:=∃a,u=.ref a/\(SqL K H a [.str p.1,.int p.2]\/SqT K H a [.str p.1,.int p.2])/\a∉fp
noncomputable def y42(K:PySem.W.Frag)(H:Hp)(fp:List Addr)(v:V)(pr:Row):Prop:=∃a us,v=.ref a/\SqP K H a us/\a∉fp/\Paired (y0f K H fp) us pr
noncomputable def z1v(zs:List Str)(pr:Row):Row:=zs.filterMap fun z=>pr.find? fun p=>decide (p.1=z)
structure GoodR(zs:List Str)(pr:Row):Prop where
 nd:(pr.map Prod.fst).Nodup
 sub:∀p∈pr,p.1∈zs
 val:∀p∈pr,0≤p.2/\p.2≤1000000
noncomputable def y1P(K:PySem.W.Frag)(C:Addr)(Of:OfP):Sp:=fun vs H Q _=>∃(x dx pn:Addr) (zs:List Str) (r:Int),vs=[.ref x,.ref pn,.int r]/\H x=some (.ins C dx [])/\dx≠x/\H dx=some (.own x)/\HdN K H pn zs/\E2 zs/\0≤r/\r≤10/\
 ∀(fp:List Addr) (H':Hp),(∀b∈fp,b=x\/b=dx\/H b=none)->z0A [x] H H'->Of H' x fp zs r []->Q .non H'
noncomputable def y0I(K:PySem.W.Frag)(Of:OfP):Sp:=fun vs H Q _=>∃(p:Addr) (v:V) (fp:List Addr) (zs:List Str) (r:Int) (rows:List Row) (pr:Row),vs=[.ref p,v]/\Of H p fp zs r rows/\y42 K H fp v pr/\GoodR zs pr/\pr.length≤12/\rows.length<60/\
 ∀(fp':List Addr) (H':Hp),(∀b∈fp',b∈fp\/H b=none)->z0A fp H H'->Of H' p fp' zs r (rows++[z1v zs pr])->Q (.int (rows.length+1)) H'
noncomputable def z9v(Of:OfP):Sp:=fun vs H Q _=>∃(p:Addr) (fp:List Addr) (zs:List Str) (r:Int) (rows:List Row),vs=[.ref p]/\Of H p fp zs r rows/\∀H',B0 H H'->Q (.int rows.length) H'
noncomputable def z6m(Of:OfP):Sp:=fun vs H Q _=>∃(p:Addr) (fp:List Addr) (zs:List Str) (r:Int) (rows:List Row) (n:Int),vs=[.ref p,.int n]/\Of H p fp zs r rows/\1≤n/\n≤rows.length/\
 ∀(v:V) (H':Hp),B0 H H'->B2 H' (z0N rows n r) v->Q v H'
theorem z3j{z:Str}{zs:List Str}{pr:Row}:z1v (z::zs) pr=(match pr.find? fun p=>decide (p.1=z) with|some p=>p::z1v zs pr|none=>z1v zs pr):=by
 unfold z1v
 rw[fS]
 cases pr.find? fun p=>decide (p.1=z)<;>rfl
theorem z7B{p:Str×Int}{w:Row}:∀{zs:List Str},p.1∉zs->z1v zs (p::w)=z1v zs w
 | [],_=>rfl
 | y::ys,h=>by
  rw[bE,not_or] at h
  rw[z3j,z3j,dU,decide_eq_false h.1,z7B h.2]
theorem z5W:∀{zs:List Str}{w:Row},zs.Nodup->(w.map Prod.fst).Sublist zs->z1v zs w=w
 | [],w,_,h=>by
  have:w.map Prod.fst=[]:=List.sublist_nil.mp h
  rw[List.map_eq_nil_iff] at this
  rw[this]
  rfl
 | z::zs,w,nd,h=>by
  rw[dB] at nd
  generalize e:w.map Prod.fst=l at h
  cases h with
  | cons _ h=>
   subst e
   have no:w.find? (fun p=>decide (p.1=z))=none:=jX.mpr fun p hp=>by
    have:p.1∈zs:=h.subset (gS hp)
    intro e
    exact nd.1 (of_decide_eq_true e ▸ this)
   rw[z3j,no]
   exact z5W nd.2 h
  | cons_cons _ h=>
   cases w with
   | nil=>cases e
   | cons p w=>
    rw[cS] at e
    injection e with e1 e2
    subst e2
    rw[z3j,dU,decide_eq_true e1,z7B (by rw[e1];exact nd.1),z5W nd.2 h]
noncomputable def tsN(n:Int)(j:Nat):List Int:=(dnI n j).filter fun k=>decide (1≤k)
noncomputable def tsP(ss:List (List Str))(k:Int):DV:=.tup [.int k,L4 (ss.getD (k-1).toNat [])]
noncomputable def tsD(ss:List (List Str))(r:Int):DV:=.tup ((tsN ss.length r.toNat).map (tsP ss))
theorem y7k(n:Int)(j:Nat):(tsN n j).length≤j:=by
 have h:=c6 (fun k=>decide (1≤k)) (dnI n j)
 rw[z9N] at h
 exact h
noncomputable def y6E(K:PySem.W.Frag):Sp:=fun vs H Q _=>∃(p:Addr) (xs:List V) (ss:List (List Str)) (r:Int),vs=[.ref p,.int r]/\(SqL K H p xs\/SqT K H p xs)/\z08 H (ss.map L4) xs/\ss.length≤59/\(∀s∈ss,s.length≤12)/\0≤r/\r≤10/\
 ∀(v:V) (H':Hp),B0 H H'->B2 H' (tsD ss r) v->Q v H'
noncomputable def y0P:Sp:=fun vs H Q _=>∃n r:Int,vs=[.int n,.int r]/\1≤n/\n≤60/\0≤r/\r≤10/\
 ∀(l:Addr) (H':Hp),B0 H H'->H' l=some (.tup (((upI 1 60).filter fun x=>decide (x≤n) && decide (n-x≤r)).map V.int))->Q (.ref l) H'
theorem y2E{n r:Int}(h1:1≤n)(h2:n≤60)(h3:0≤r)(h4:r≤10) :
  U5 (if n-r > 1 then n-r else 1) (n+1-(if n-r > 1 then n-r else 1)).toNat=((upI 1 60).filter fun x=>decide (x≤n) && decide (n-x≤r)).map V.int:=by
 rw[y7Z]
 refine congrArg (List.map V.int) (z1Z (z1z _ _) ((z1z _ _).filter _) fun x=>?_)
 rw[cK,z1e,z1e,cG,decide_eq_true_eq,decide_eq_true_eq]
 split<;>lia
theorem y2M(M:Bl mg)(F:Fun K "reached_by" "reached_by" z5P f fd):B4 P w K mg base CX0 1 f fd z5J y0P:=by
 have nd:=z7D.nd
 refine F.ok z7D (fun vs H Q E h=>?_) (fun cdv A outer s H vs Q E hr h=>?_)
 ·obtain⟨n,r,rfl,_⟩:=h
  rfl
 obtain⟨n,r,rfl,h1,h2,h3,h4,q⟩:=h
 refine⟨_,(z05 (z0i (z0s (z9c rfl) rfl M.tuple bH (z00 (z0s y40 rfl M.range PyProof.Rows.boot_range (z00 (z0b (y48 rfl) rfl M.max dD (z00 z06 (z00 (z0u z23 (pv 0) (pv 1)) z02))) (z00 (z0u z1u (pv 0) z06) z02))) z02)))),?_⟩
 refine(rdI rfl (rdI rfl (ex2 _ _ ⟨rfl,rfl,(ex2 _ _ ⟨rfl,(rdI rfl (ex2 _ _ ⟨rfl,rfl,(ex2 _ _ ⟨rfl,fun p hp=>?_⟩)⟩))⟩)⟩)))
 refine(ex3 p _ _ ⟨rfl,z03,⟨?_,?_,?_,?_⟩,?_,fun l hl=>?_⟩)
 ·split<;>lia
 ·split<;>lia
 ·lia
 ·lia
 ·split<;>lia
 ·refine q l _ ((z01 hp _).trans (z01 hl _)) ?_
  rw[z03,y2E h1 h2 h3 h4]
theorem z83(hi:Int)(j:Nat):(dnI hi j).Pairwise (· > ·):=by
 unfold dnI
 rw[dO]
 exact List.pairwise_lt_range.imp fun h=>by lia
theorem z8X{n:Int}{j:Nat}{x:Int}:x∈tsN n j↔1≤x/\n-j<x/\x≤n:=by
 unfold tsN
 rw[cK,z8r,decide_eq_true_eq]
 lia
theorem y7s(n:Int)(j:Nat):(tsN n j).reverse.Pairwise (· < ·):=by
 rw[jM]
 exact((z83 n j).filter _).imp fun h=>h
theorem y3U{n r:Int}(h0:0≤n)(h1:n≤59)(r0:0≤r)(r1:r≤10):((upI 1 60).filter fun x=>decide (x≤n+1) && decide (n+1-x≤r))=(tsN n r.toNat).reverse++[n+1]:=by
 refine z1Z ((z1z _ _).filter _) (cX.mpr ⟨y7s _ _,eF _ _,fun x hx y hy=>?_⟩) fun x=>?_
 ·rw[jG,z8X] at hx
  rw[bB] at hy
  lia
 ·rw[cK,z1e,cG,decide_eq_true_eq,decide_eq_true_eq,bS,jG,z8X,bB]
  lia
theorem y7p(M:Bl mg)(F:Fun K "tail_for" "tail_for" z8v f fd)(O8:Cal P w K mg base 1 "reached_by" z5J y0P):B4 P w K mg base CX0 2 f fd z8S (y6E K):=by
 have nd:=z9x.nd
 refine F.ok z9x (fun vs H Q E h=>?_) (fun cdv A outer s H vs Q E hr h=>?_)
 ·obtain⟨p,xs,ss,r,rfl,_⟩:=h
  rfl
 obtain⟨p,xs,ss,r,rfl,hS,tS,l60,l12,r0,r1,k⟩:=h
 refine⟨_,(z04 (z0p (i:=2) nd rfl (Or.inl rfl) (z0u z1u (z0b z09 rfl M.len bO (z00 (pv 0) z02)) z06)) (z04 (z0p (i:=3) nd rfl (Or.inl rfl) (z3n y6U (z0e O8 (rm hr) rfl (z00 (pv 2) (z00 (pv 1) z02))) z4G (z4M (y7I y4z z06)))) (z05 (z0i (z0s z0m rfl M.tuple bH (z00 (z15 ["earlier"] ["sets"] [0] rfl (z0w rfl (by decide +kernel) rfl (by decide +kernel) rfl rfl) (y6Z rfl M.reversed (z00 (pv 3) z02)) (fun _ _ _ _ _=>(z0j (i:=0) (show((["earlier"]:List PySem.Str)++(["sets"]:List PySem.Str)).Nodup from by decide +kernel) rfl (Or.inl rfl))) (z0y (by decide)) z0h (fun _ _ _ _ _=>z1E) (fun _ _ _ _ _=>(z0T (z00 (pv 0) (z00 (z0s (z5o (K:=K) rfl) rfl M.tuple bH (z00 (z0B (r:=rIx K) y8D (pv 1) (z0u z23 (pv 0) z06) (fun _ _=>rfl)) z02)) z02))))) z02)))))),?_⟩
 have lx:xs.length=ss.length:=by rw[tS.length,b9]
 have lx':(xs.length:Int)=ss.length:=by lia
 refine(rdI rfl (ex2 p xs ⟨rfl,hS,(ex2 _ _ ⟨rfl,rfl,?_⟩)⟩))
 refine(rdI rfl (rdI rfl (ex2 ((xs.length:Int)+1) r ⟨rfl,by lia,by lia,r0,r1,fun l H1 s1 e1=>?_⟩)))
 rw[lx',y3U (by lia) (by lia) r0 r1] at e1
 have eL:(((tsN ss.length r.toNat).reverse++[(ss.length:Int)+1]).map V.int).length=(tsN ss.length r.toNat).length+1:=by
  rw[b9,bN,gU]
  rfl
 have sx:HT.sIx (((tsN ss.length r.toNat).reverse++[(ss.length:Int)+1]).map V.int).length (((tsN ss.length r.toNat).reverse++[(ss.length:Int)+1]).map V.int).length (some (-1))=(tsN ss.length r.toNat).length:=by
  rw[eL]
  show(if (-1:Int)<0 then (-1+(((tsN ss.length r.toNat).length+1:Nat):Int)).toNat else min (-1:Int).toNat ((tsN ss.length r.toNat).length+1))=_
  rw[if_pos (by decide)]
  lia
 have cut:N7 (((tsN ss.length r.toNat).reverse++[(ss.length:Int)+1]).map V.int) none (some (-1))=(tsN ss.length r.toNat).reverse.map V.int:=by
  unfold N7
  rw[sx]
  show List.take ((tsN ss.length r.toNat).length-0) (List.drop 0 _)=_
  rw[fM,hV,bF,List.take_left' (by rw[b9,gU])]
 refine(rdI rfl ⟨-1,rfl,(ex2 l _ ⟨rfl,SqT.of e1,?_,fun a ha=>?_⟩)⟩)
 ·rintro⟨_,z⟩
  rw[sx,eL] at z
  lia
 rw[cut]
 have s2:=s1.trans (z01 ha (.tup ((tsN ss.length r.toNat).reverse.map V.int)))
 have e2:upd H1 a (.tup ((tsN ss.length r.toNat).reverse.map V.int)) a=some (.tup ((tsN ss.length r.toNat).reverse.map V.int)):=z03
 generalize upd H1 a (.tup ((tsN ss.length r.toNat).reverse.map V.int))=H2 at s2 e2
 have le:=y7k ss.length r.toNat
 have lr:((tsN ss.length r.toNat).reverse.map V.int).length=(tsN ss.length r.toNat).length:=by rw[b9,gU]
 refine(rdI rfl (ex2 a _ ⟨rfl,SqT.of e2,?_⟩))
 refine y5Q (fun i ys H'=>B0 H2 H'/\z08 H' (((tsN ss.length r.toNat).take i).map (tsP ss)) ys) ⟨B0.refl _,by rw[cT];exact .nil⟩ (fun i ys H' hi hp=>?_) (fun i x ys H' hx hp=>?_) (fun ys H' hp=>?_)
 ·obtain⟨g,t⟩:=hp
  refine⟨SqT.of (g _ _ e2),z0f ?_⟩
  rw[t.length,b9,bG]
  lia
 ·obtain⟨g,t⟩:=hp
  rw[<- List.map_reverse,gN,bC] at hx
  obtain⟨m,hm,rfl⟩:=bU.mp hx
  have hb:=z8X.mp (bP hm)
  have hk:(m-1).toNat<ss.length:=by lia
  have t2:=z08.keep (s2.trans g) _ _ tS
  obtain⟨v,ev,tv⟩:=t2.get (m-1).toNat (L4 (ss.getD (m-1).toNat [])) (by
   rw[bC,bK,bD hk]
   rfl)
  have av:atI xs (m-1)=some v:=by
   have e:m-1=(((m-1).toNat:Nat):Int):=by lia
   rw[e]
   exact z0R ev
  obtain⟨b,us,rfl,eb,_,_⟩:=z0d tv
  refine(rdI rfl (rdI rfl (rdI rfl (ex2 _ _ ⟨rfl,rfl,?_⟩))))
  have go:∀(z:B2 H' (L4 (ss.getD (m-1).toNat [])) (.ref b)),y6V K [.ref b] H' fun x H3=>[V.int m,x].length≤sizeLine/\∀q,H3 q=none->B0 H2 (upd H3 q (.tup [.int m,x]))/\z08 (upd H3 q (.tup [.int m,x])) (((tsN ss.length r.toNat).take (i+1)).map (tsP ss)) (ys++[.ref q]):=fun z=>
   ⟨b,us,rfl,.inr ⟨SqT.of eb,by show 2≤sizeLine;decide,fun q hq=>⟨g.trans (z01 hq _),by
    rw[fH,hm,bF]
    exact z08.snoc (z08.keep (z01 hq _) _ _ t) (z0q z03 (by show 2≤1000000;decide) (.cons (z0H _) (.cons (B2.keep (z01 hq _) _ _ z) .nil)))⟩⟩⟩
  rcases hS with hS|hS
  ·exact .inl (ex4 p xs _ (.ref b) ⟨rfl,rfl,(s2.trans g).seq hS,av,go tv⟩)
  ·exact .inr (.inl (ex4 p xs _ (.ref b) ⟨rfl,rfl,z69 (s2.trans g) hS,av,go tv⟩))
 ·obtain⟨g,t⟩:=hp
  rw[lr,bT] at t
  intro D hD
  refine(ex2 D ys ⟨rfl,.inl ⟨SqL.of z03,fun q hq=>k _ _ (s2.trans (g.trans ((z01 hD _).trans (z01 hq _)))) (z0q z03 ?_ (z08.keep ((z01 hD _).trans (z01 hq _)) _ _ t))⟩⟩)
  rw[b9]
  lia
noncomputable def kvR(p:Str×Int):Key×V:=(Sum.inr p.1,.int p.2)
noncomputable def y81(K:PySem.W.Frag):Sp:=fun vs H Q _=>∃(p:Addr) (zs:List Str) (z:Str),vs=[.ref p,.str z]/\SqN K H p zs/\z∈zs/\Q .non H
theorem y0Z(x:Str)(ns:List Str):inV (.str x) (ns.map V.str)=decide (x∈ns):=by
 unfold inV
 rw[d8,hZ,jF,decide_eq_true_eq]
 constructor
 ·rintro⟨y,hy,e⟩
  have:y=x:=by simpa [eqV] using e
  exact this ▸ hy
 ·intro h
  exact⟨x,h,by simp[eqV]⟩
theorem y8T(M:Bl mg)(F:Fun K "refuse_unknown_name" "refuse_unknown_name" z27 f fd):B4 P w K mg base CX0 1 f fd z1t (y81 K):=by
 have nd:=z2G.nd
 refine F.ok z2G (fun vs H Q E h=>?_) (fun cdv A outer s H vs Q E hr h=>?_)
 ·obtain⟨p,zs,z,rfl,_⟩:=h
  rfl
 obtain⟨p,zs,z,rfl,hp,hz,k⟩:=h
 refine⟨_,(z05 (z0E (z0c z1x (pv 1) (pv 0) (by with_unfolding_all rfl)) (z05 z1N) z0l)),?_⟩
 refine(rdI rfl (rdI rfl (ex2 p _ ⟨rfl,hp,rfl,z18 zs,(rdI rfl ?_)⟩)))
 rw[if_pos rfl,y0Z,decide_eq_true hz]
 exact B9 (fun c=>absurd c (by decide)) fun _=>k
noncomputable def y1O:Sp:=fun vs H Q _=>∃v:Int,vs=[.int v]/\0≤v/\v≤1000000/\Q .non H
theorem y3A(M:Bl mg)(F:Fun K "refuse_bad_value" "refuse_bad_value" z2w f fd):B4 P w K mg base CX0 1 f fd z2u y1O:=by
 have nd:=z3q.nd
 refine F.ok z3q (fun vs H Q E h=>?_) (fun cdv A outer s H vs Q E hr h=>?_)
 ·obtain⟨r,rfl,_⟩:=h
  rfl
 obtain⟨r,rfl,r0,r1,k⟩:=h
 refine⟨_,(z05 (z0E (PW.pt (z37 (z0c z9a (pv 0) z06 (z0o _)) (z25 (z0c z2p (pv 0) (z2V rfl M.MOST_VALUE) (z0o _))))) (z05 z1N) z0l)),?_⟩
 refine(rdI rfl (ex2 _ _ ⟨rfl,rfl,(rdI rfl (B9 (fun q=>absurd (z0I q) (by lia)) fun _=>?_))⟩))
 exact(rdI rfl (ex2 _ _ ⟨rfl,rfl,(rdI rfl (B9 (fun q=>absurd (z0I q) (by lia)) fun _=>k))⟩))
noncomputable def z2N(K:PySem.W.Frag)(H:Hp)(u:V)(p:Str×Int):Prop:=∃a,u=.ref a/\(SqL K H a [.str p.1,.int p.2]\/SqT K H a [.str p.1,.int p.2])
theorem z2N.keep{K:PySem.W.Frag}{H H':Hp}(s:B0 H H'):∀{us:List V}{pr:Row},Paired (z2N K H) us pr->Paired (z2N K H') us pr
 | _,_,.nil=>.nil
 | _,_,.cons ⟨a,e,h⟩ t=>.cons ⟨a,e,h.imp (fun q=>s.seq q) fun q=>z69 s q⟩ (z2N.keep s t)
theorem z2N.at{K:PySem.W.Frag}{H:Hp}:∀{us:List V}{pr:Row},Paired (z2N K H) us pr->∀(i:Nat) (x:V),us[i]? = some x->∃p,pr[i]? = some p/\z2N K H x p
 | _,_,.nil,i,x,e=>by simp at e
 | _,_,.cons r t,0,x,e=>by
  simp at e
  subst e
  exact(rdI rfl r)
 | _,_,.cons r t,i+1,x,e=>by
  obtain⟨y,h1,h2⟩:=z2N.at t i x (by simpa using e)
  exact⟨y,by simpa using h1,h2⟩
theorem z2N.pairs{K:PySem.W.Frag}{H:Hp}:∀{us:List V}{pr:Row},Paired (z2N K H) us pr->Paired (y4n K H) us (pr.map kvR)
 | _,_,.nil=>.nil
 | _,_,.cons ⟨a,e,h⟩ t=>.cons ⟨a,e,h⟩ (z2N.pairs t)
theorem z2N.of{K:PySem.W.Frag}{H:Hp}{fp:List Addr}:∀{us:List V}{pr:Row},Paired (y0f K H fp) us pr->Paired (z2N K H) us pr
 | _,_,.nil=>.nil
 | _,_,.cons ⟨a,e,h,_⟩ t=>.cons ⟨a,e,h⟩ (z2N.of t)
theorem SqP.or{K:PySem.W.Frag}{H:Hp}{a:Addr}{us:List V}(h:SqP K H a us):SqL K H a us\/SqT K H a us:=h.imp id SqT.of
theorem SqP.keep{K:PySem.W.Frag}{H H':Hp}{a:Addr}{us:List V}(s:B0 H H')(h:SqP K H a us):SqP K H' a us:=h.imp (fun q=>s.seq q) fun q=>s _ _ q
noncomputable def y1a(K:PySem.W.Frag):Sp:=fun vs H Q _=>∃(pn a:Addr) (zs:List Str) (us:List V) (pr:Row),vs=[.ref pn,.ref a]/\SqN K H pn zs/\SqP K H a us/\Paired (z2N K H) us pr/\GoodR zs pr/\pr.length≤12/\∀H',B0 H H'->Q .non H'
theorem y2V(M:Bl mg)(F:Fun K "refuse_bad_rows" "refuse_bad_rows" z2L f fd)(C5:Cal P w K mg base 1 "refuse_unknown_name" z1t (y81 K))
  (J3:Cal P w K mg base 1 "refuse_bad_value" z2u y1O):B4 P w K mg base CX0 2 f fd z2K (y1a K):=by
 have nd:=z3N.nd
 refine F.ok z3N (fun vs H Q E h=>?_) (fun cdv A outer s H vs Q E hr h=>?_)
 ·obtain⟨pn,a,zs,us,pr,rfl,_⟩:=h
  rfl
 obtain⟨pn,a,zs,us,pr,rfl,hn,ha,hp,g,l12,k⟩:=h
 refine⟨_,(z04 (z5C (i:=2) ["name","value"] [] [] rfl nd rfl (Or.inl rfl) (z0w rfl (by decide +kernel) rfl (by decide +kernel) rfl rfl) (y4d (pv 1)) (fun _ _ _ _ _=>(y4I (K:=K) (n:=2) rfl rfl (z1f (z0j (i:=0) (show((["name","value"]:List PySem.Str)++([]:List PySem.Str)).Nodup from by decide +kernel) rfl (Or.inl rfl)) (z1f (z0j (i:=1) (show((["name","value"]:List PySem.Str)++([]:List PySem.Str)).Nodup from by decide +kernel) rfl (Or.inl rfl)) z4Q)))) (y7U (z1X (z0y (by decide)) z0h (z1X (z0y (by decide)) z0h z7d z1a) (z0P z0h z1a))) (y6g (z0P z0h (z0P z0h z1a))) (fun _ _ _ _ _=>z1E) (fun _ _ _ _ _=>(pv 0))) (z04 (z0O bR rfl (z16 (pv 2)) (z0j (i:=3) nd rfl (Or.inl rfl)) (z05 (z0D (z0e C5 (rm hr) rfl (z00 (pv 0) (z00 (pv 3) z02)))))) (z04 (z0E (z0c z7g (z0b z6l rfl M.len bO (z00 (z0s (z5r rfl) rfl M.set PyProof.Rows.boot_set (z00 (pv 2) z02)) z02)) (z0b z09 rfl M.len bO (z00 (pv 2) z02)) (z0o _)) (z05 z1N) z0l) (z05 (z0O bR rfl (y4d (pv 1)) (y4I (K:=K) (n:=2) rfl rfl (z1f (z0j (i:=3) nd rfl (Or.inl rfl)) (z1f (z0j (i:=4) nd rfl (Or.inl rfl)) z4Q))) (z05 (z0D (z0e J3 (rm hr) rfl (z00 (pv 4) z02))))))))),?_⟩
 obtain⟨t,ht⟩:=SqS.of (SqP.or ha)
 have lu:us.length=pr.length:=hp.length
 refine(rdI rfl (ex2 a t ⟨rfl,⟨_,ht⟩,?_⟩))
 refine y2f (xs:=us) (fun i ys H'=>H'=H/\ys=((pr.take i).map Prod.fst).map V.str) ⟨rfl,rfl⟩ (fun i ys H' hi hq=>?_) (fun i x ys H' hx hq=>?_) (fun ys H' hq=>?_)
 ·obtain⟨rfl,rfl⟩:=hq
  refine⟨ht,z0f ?_⟩
  rw[b9,b9,bG]
  lia
 ·obtain⟨rfl,rfl⟩:=hq
  obtain⟨p,ep,b,rfl,hb⟩:=z2N.at hp i x hx
  refine(ex2 b _ ⟨rfl,hb,rfl,(ex2 _ _ ⟨rfl,(ex2 _ _ ⟨rfl,rfl,?_⟩)⟩)⟩)
  refine(rdI rfl ⟨rfl,?_⟩)
  rw[z0n ep,bF,bF]
  rfl
 obtain⟨rfl,rfl⟩:=hq
 rw[lu,bT]
 intro D hD
 have s1:=z01 hD (.lst ((pr.map Prod.fst).map V.str))
 have e1:upd H' D (.lst ((pr.map Prod.fst).map V.str)) D=some (.lst ((pr.map Prod.fst).map V.str)):=z03
 generalize upd H' D (.lst ((pr.map Prod.fst).map V.str))=H1 at s1 e1
 have hn1:=SqN.keep s1 hn
 have ht1:=SqS.keep s1 ht
 have hp1:=z2N.keep s1 hp
 refine(rdI rfl ⟨D,rfl,⟨_,SqL.of e1⟩,z1g (K:=K) (a:=D) (xs:=(pr.map Prod.fst).map V.str) (fun i σ H2=>∃o:Option V,H2=H1/\σ=[some (.ref pn),some (.ref a),some (.ref D),o,none]) ⟨none,rfl,rfl⟩ (fun i σ H2 _ ⟨_,e,_⟩=>e ▸ SqL.of e1) (fun i x σ H2 hx hq=>?_) (fun σ H2 hq=>?_)⟩)
 ·obtain⟨o,rfl,rfl⟩:=hq
  rw[bC] at hx
  obtain⟨z,ez,rfl⟩:=bU.mp hx
  have hz:z∈zs:=by
   obtain⟨p,hpm,rfl⟩:=cM.mp (bP ez)
   exact g.sub p hpm
  exact(rdI rfl (rdI rfl (ex3 pn zs z ⟨rfl,hn1,hz,(rdI rfl rfl)⟩)))
 obtain⟨o,rfl,rfl⟩:=hq
 have lf:(pr.map Prod.fst).length=pr.length:=b9 _
 refine(rdI rfl (ex2 D (pr.map Prod.fst) ⟨rfl,.inl (SqL.of e1),by lia,fun l hl=>(ex2 l (pr.map Prod.fst) ⟨rfl,z03,by lia,(rdI rfl (ex2 D _ ⟨rfl,.inl (SqL.of (z01 hl _ _ _ e1)),rfl,(rdI rfl ?_)⟩))⟩)⟩))
 refine y8I (by rw[y4X g.nd,b9 (f:=V.str)]) ?_
 have s2:=s1.trans (z01 hl (S9 P w l (pr.map Prod.fst)))
 have ht2:=SqS.keep (z01 hl (S9 P w l (pr.map Prod.fst))) ht1
 have hp2:=z2N.keep (z01 hl (S9 P w l (pr.map Prod.fst))) hp1
 refine(rdI rfl (ex2 a t ⟨rfl,⟨_,ht2⟩,?_⟩))
 refine y7V (xs:=us) (fun i σ H3=>∃o1 o2:Option V,H3=upd H2 l (S9 P w l (pr.map Prod.fst))/\σ=[some (.ref pn),some (.ref a),some (.ref D),o1,o2]) ⟨_,_,rfl,rfl⟩ (fun i σ H3 _ ⟨_,_,e,_⟩=>e ▸ ht2) (fun i x σ H3 hx hq=>?_) (fun σ H3 hq=>?_)
 ·obtain⟨o1,o2,rfl,rfl⟩:=hq
  obtain⟨p,ep,b,rfl,hb⟩:=z2N.at hp2 i x hx
  have hv:=g.val p (bP ep)
  refine(ex2 b _ ⟨rfl,hb,rfl,(ex2 _ _ ⟨rfl,(ex2 _ _ ⟨rfl,rfl,?_⟩)⟩)⟩)
  exact(rdI rfl ⟨p.2,rfl,hv.1,hv.2,(ex2 _ _ ⟨rfl,rfl⟩)⟩)
 ·obtain⟨o1,o2,rfl,rfl⟩:=hq
  exact k _ s2
noncomputable def y0r(K:PySem.W.Frag):Sp:=fun vs H Q _=>∃(pn a:Addr) (zs:List Str) (us:List V) (pr:Row),vs=[.ref pn,.ref a]/\SqN K H pn zs/\zs.length≤12/\SqP K H a us/\Paired (z2N K H) us pr/\(pr.map Prod.fst).Nodup/\pr.length≤12/\∀(v:V) (H':Hp),B0 H H'->B2 H' (N3 (z1v zs pr)) v->Q v H'
theorem z9P{z:Str}:∀{pr:Row},L9 (pr.map kvR) (Sum.inr z:Key)=(pr.find? fun p=>decide (p.1=z)).map fun p=>V.int p.2
 | []=>rfl
 | p::w=>by
  rw[cS,dU]
  by_cases e:p.1=z
  ·rw[z6i (show(kvR p).1=Sum.inr z by unfold kvR;rw[e]),decide_eq_true e]
   rfl
  ·rw[z6q (show ¬(kvR p).1=Sum.inr z from fun q=>e (Sum.inr.inj q)),decide_eq_false e]
   exact z9P
theorem y0t(zs:List Str)(z:Str)(pr:Row):z1v (zs++[z]) pr=z1v zs pr++(match pr.find? fun p=>decide (p.1=z) with|some p=>[p]|none=>[]):=by
 unfold z1v
 rw[List.filterMap_append,fS]
 cases pr.find? fun p=>decide (p.1=z)<;>rfl
theorem z5D(zs:List Str)(pr:Row):(z1v zs pr).length≤zs.length:=List.length_filterMap_le _ _
theorem y2H(M:Bl mg)(F:Fun K "rows_in_order" "rows_in_order" z3C f fd):B4 P w K mg base CX0 1 f fd z3B (y0r K):=by
 have nd:=z55.nd
 refine F.ok z55 (fun vs H Q E h=>?_) (fun cdv A outer s H vs Q E hr h=>?_)
 ·obtain⟨pn,a,zs,us,pr,rfl,_⟩:=h
  rfl
 obtain⟨pn,a,zs,us,pr,rfl,hn,z12,ha,hp,ndr,l12,k⟩:=h
 have hu:=y12 hr
 refine⟨_,(z04 (z0p (i:=2) nd rfl (Or.inr rfl) (z0s (z4Z (K:=K) rfl rfl) rfl M.dict jC (z00 (pv 1) z02))) (z05 (z0i (z0s z0m rfl M.tuple bH (z00 (z15 ["name"] ["values"] [2] rfl (z0w rfl (by decide +kernel) rfl (by decide +kernel) rfl rfl) (y4d (pv 0)) (fun _ _ _ _ _=>(z0j (i:=0) (show((["name"]:List PySem.Str)++(["values"]:List PySem.Str)).Nodup from by decide +kernel) rfl (Or.inl rfl))) (z0y (by decide)) z0h (fun _ _ _ _ _=>(z2f (z7u (y4v hu (pv 0) (pv 1))))) (fun _ _ _ _ _=>(z0T (z00 (pv 0) (z00 (z7e hu (pv 1) (pv 0) (fun _ _=>rfl)) z02))))) z02))))),?_⟩
 have lu:us.length=pr.length:=hp.length
 refine(rdI rfl (ex3 a us (pr.map kvR) ⟨rfl,ha,z2N.pairs hp,by lia,?_,fun d hd=>?_⟩))
 ·have e:(pr.map kvR).map (·.1)=(pr.map Prod.fst).map Sum.inr:=by rw[dR,dR];rfl
  rw[e,dG,dO]
  exact(dG.mp ndr).imp fun h e=>h (Sum.inr.inj e)
 have s1:=z01 hd (.dK (pr.map kvR))
 have e1:upd H d (.dK (pr.map kvR)) d=some (.dK (pr.map kvR)):=z03
 generalize upd H d (.dK (pr.map kvR))=H1 at s1 e1
 obtain⟨t,ht⟩:=SqS.of (SqN.keep s1 hn)
 refine(rdI rfl (ex2 pn t ⟨rfl,⟨_,ht⟩,?_⟩))
 refine y2f (xs:=zs.map V.str) (fun i ys H'=>B0 H1 H'/\z08 H' ((z1v (zs.take i) pr).map z9X) ys) ⟨B0.refl _,by rw[cT];exact .nil⟩ (fun i ys H' hi hq=>?_) (fun i x ys H' hx hq=>?_) (fun ys H' hq=>?_)
 ·obtain⟨g,t'⟩:=hq
  refine⟨SqS.keep g ht,z0f ?_⟩
  have:=z5D (zs.take i) pr
  rw[bG] at this
  rw[t'.length,b9]
  lia
 ·obtain⟨g,t'⟩:=hq
  rw[bC] at hx
  obtain⟨z,ez,rfl⟩:=bU.mp hx
  refine(rdI rfl (rdI rfl (ex2 d _ ⟨rfl,N6.k (k:=Sum.inr z) (g _ _ e1),(rdI rfl ?_)⟩)))
  rw[z9P,z0n ez,y0t]
  cases ev:pr.find? fun p=>decide (p.1=z) with
  | none=>
   refine B8 ⟨g,?_⟩
   rw[cR]
   exact t'
  | some p=>
   have ep:p.1=z:=by
    have:=List.find?_some ev
    exact of_decide_eq_true this
   refine F6 (rdI rfl (rdI rfl (rdI rfl (ex2 d _ ⟨rfl,(show N6 _ d (kV (Sum.inr z)) (some (V.int p.2)) by rw[<- show L9 (pr.map kvR) (Sum.inr z:Key)=some (V.int p.2) by rw[z9P,ev];rfl];exact N6.k (g _ _ e1)),(by show 2≤sizeLine;decide),fun q hq=>⟨g.trans (z01 hq _),?_⟩⟩))))
   rw[bF]
   refine z08.snoc (z08.keep (z01 hq _) _ _ t') ?_
   rw[<- ep]
   exact z0q z03 (by show 2≤1000000;decide) (.cons (z2B _) (.cons (z0H _) .nil))
 ·obtain⟨g,t'⟩:=hq
  rw[b9,bT] at t'
  intro D hD
  refine(ex2 D ys ⟨rfl,.inl ⟨SqL.of z03,fun q hq=>k _ _ (s1.trans (g.trans ((z01 hD _).trans (z01 hq _)))) (z0q z03 ?_ (z08.keep ((z01 hD _).trans (z01 hq _)) _ _ t'))⟩⟩)
  have:=z5D zs pr
  rw[b9]
  lia
noncomputable def y1p:Sp:=fun vs H Q _=>∃(a:Addr) (xs:List V) (w:Row),vs=[.ref a]/\H a=some (.tup xs)/\z08 H (w.map z9X) xs/\w.length≤12/\∀(l:Addr) (H':Hp),B0 H H'->H' l=some (.tup ((z0x w).map V.str))->Q (.ref l) H'
theorem y6w(M:Bl mg)(F:Fun K "names_of_rows" "names_of_rows" z3I f fd):B4 P w K mg base CX0 1 f fd z2C y1p:=by
 have nd:=z4O.nd
 refine F.ok z4O (fun vs H Q E h=>?_) (fun cdv A outer s H vs Q E hr h=>?_)
 ·obtain⟨a,xs,w,rfl,_⟩:=h
  rfl
 obtain⟨a,xs,w,rfl,ha,tw,l12,k⟩:=h
 refine⟨_,(z05 (z0i (z0s z0m rfl M.tuple bH (z00 (z15 ["name","value"] [] [] rfl (z0w rfl (by decide +kernel) rfl (by decide +kernel) rfl rfl) (z1L (pv 0)) (fun _ _ _ _ _=>(z98 (K:=K) (n:=2) rfl rfl (z1f (z0j (i:=0) (show((["name","value"]:List PySem.Str)++([]:List PySem.Str)).Nodup from by decide +kernel) rfl (Or.inl rfl)) (z1f (z0j (i:=1) (show((["name","value"]:List PySem.Str)++([]:List PySem.Str)).Nodup from by decide +kernel) rfl (Or.inl rfl)) z4Q)))) (z8P (z1X (z0y (by decide)) z0h (z1X (z0y (by decide)) z0h z7d z1a) (z0P z0h z1a))) (z6x (z0P z0h (z0P z0h z1a))) (fun _ _ _ _ _=>z1E) (fun _ _ _ _ _=>(pv 0))) z02)))),?_⟩
 have lx:xs.length=w.length:=by rw[tw.length,b9]
 refine(rdI rfl ⟨a,rfl,⟨_,SqT.of ha⟩,?_⟩)
 refine z1n (xs:=xs) (fun i ys H'=>H'=H/\ys=(z0x (w.take i)).map V.str) ⟨rfl,rfl⟩ (fun i ys H' hi hq=>?_) (fun i x ys H' hx hq=>?_) (fun ys H' hq=>?_)
 ·obtain⟨rfl,rfl⟩:=hq
  refine⟨SqT.of ha,z0f ?_⟩
  unfold z0x
  rw[b9,b9,bG]
  lia
 ·obtain⟨rfl,rfl⟩:=hq
  obtain⟨p,b,ep,rfl,hb⟩:=z1R tw i x hx
  refine(ex2 b _ ⟨rfl,SqT.of hb,rfl,(ex2 _ _ ⟨rfl,(ex2 _ _ ⟨rfl,rfl,?_⟩)⟩)⟩)
  refine(rdI rfl ⟨rfl,?_⟩)
  unfold z0x
  rw[z0n ep,bF,bF]
  rfl
 ·obtain⟨rfl,rfl⟩:=hq
  rw[lx,bT]
  intro D hD
  exact(ex2 D _ ⟨rfl,.inl ⟨SqL.of z03,fun q hq=>k q _ ((z01 hD _).trans (z01 hq _)) z03⟩⟩)
noncomputable def OfD(K:PySem.W.Frag)(C:Addr):OfP:=fun H p fp zs r rows=>∃(dx pn pl:Addr) (fs:List (Str×V)) (xs:List V),fp=[p,dx,pl]/\H p=some (.ins C dx fs)/\H dx=some (.own p)/\H pn=some (.tup (zs.map V.str))/\H pl=some (.lst xs)/\
 fs.lookup ("names":Str)=some (V.ref pn)/\fs.lookup ("reach":Str)=some (V.int r)/\fs.lookup ("written":Str)=some (V.ref pl)/\(∀m∈(["refuse_writing","write","latest","issue"]:List Str),fs.lookup m=none)/\
 z08 H ((upI 1 rows.length).map fun n=>z0N rows n r) xs/\rows.length≤60/\(∀w∈rows,w.length≤12)/\E2 zs/\0≤r/\r≤10
theorem R1{K:PySem.W.Frag}{C:Addr}:Y3 C ["write","latest","issue"] (OfD K C):=by
 refine⟨fun h=>?_,fun h b hb=>?_,fun h s out nt=>?_⟩
 ·obtain⟨dx,pn,pl,fs,xs,e,h1,h2,h3,h4,l1,l2,l3,lm,_⟩:=h
  refine⟨dx,fs,h1,fun m hm=>lm m ?_⟩
  simp only[bE,d6,or_false] at hm ⊢
  rcases hm with h|h|h<;>simp[h]
 ·obtain⟨dx,pn,pl,fs,xs,rfl,h1,h2,h3,h4,_⟩:=h
  rcases bE.mp hb with rfl|hb
  ·exact⟨_,h1,fun xs z=>by cases z⟩
  rcases bE.mp hb with rfl|hb
  ·exact⟨_,h2,fun xs z=>by cases z⟩
  rw[bB.mp hb]
  exact⟨_,h4,fun xs z=>by cases z⟩
 ·obtain⟨dx,pn,pl,fs,xs,rfl,h1,h2,h3,h4,l1,l2,l3,lm,tl,g⟩:=h
  exact(ex5 dx pn pl fs xs ⟨rfl,s _ _ h1 (fun m=>out _ m (by simp)),s _ _ h2 (fun m=>out _ m (by simp)),s _ _ h3 (fun m=>nt _ m _ h3),s _ _ h4 (fun m=>out _ m (by simp)),l1,l2,l3,lm,z08.but s nt _ _ tl,g⟩)
theorem y3H{A6:Addr}(M:Bl mg)(T:L6 K mg A6)(F:Fun K "__init__" "Office.__init__" z2M f fd)(D5:Cal P w K mg base 2 "bulletin_names" z2l (z6Y K)) :
  B4 P w K mg base CX0 3 f fd z2Q (y1P K A6 (OfD K A6)):=by
 have nd:=z3S.nd
 refine F.ok z3S (fun vs H Q E h=>?_) (fun cdv A outer s H vs Q E hr h=>?_)
 ·obtain⟨x,dx,pn,zs,r,rfl,_⟩:=h
  rfl
 obtain⟨x,dx,pn,zs,r,rfl,hx,ne,hdx,hn,g,r0,r1,k⟩:=h
 refine⟨_,(z04 (z6t (pv 0) (z0e D5 (rm hr) rfl (z00 (pv 1) (z00 (pv 2) z02))) rfl) (z04 (z6t (pv 0) (pv 2) rfl) (z05 (z6t (pv 0) (z1d z02) rfl)))),?_⟩
 refine(rdI rfl (rdI rfl (ex3 pn zs r ⟨rfl,hn,g,r0,r1,fun l H1 s1 e1=>?_⟩)))
 refine(rdI rfl (ex4 x A6 dx ([]) ⟨rfl,s1 _ _ hx,T.cl,T.n_names,by decide,?_⟩))
 have z1:=z1V "names" (.ref l) []
 have z2:=z1V "reach" (.int r) (K8 "names" (.ref l) [])
 have z0:([]:List (Str×V)).length=0:=rfl
 refine(rdI rfl (rdI rfl (ex4 x A6 dx _ ⟨rfl,z03,T.cl,T.n_reach,(by lia),?_⟩)))
 rw[z5O]
 refine⟨(by show 0≤sizeLine;decide),fun pd hd=>?_⟩
 have nx:x≠pd:=z0r z03 hd
 have ndd:dx≠pd:=z0r (show upd H1 x _ dx=some _ by rw[z0k ne];exact s1 _ _ hdx) hd
 have nl:l≠x:=z5l e1 (s1 _ _ hx) (fun z=>by cases z)
 have nlp:l≠pd:=z0r (show upd H1 x _ l=some _ by rw[z0k nl];exact e1) hd
 have dfr:H1 pd=none:=by rw[z0k (dC nx)] at hd;exact hd
 refine(rdI rfl (ex4 x A6 dx _ ⟨rfl,(by rw[z0k nx,z03]),T.cl,T.n_written,(by lia),?_⟩))
 refine k [x,dx,pd] _ (fun b hb=>?_) (fun b o e nb=>?_) (ex5 dx l pd _ ([]) ⟨rfl,z03,?_,?_,?_,?_,?_,?_,?_,.nil,by decide,fun _ q=>(nomatch q),g,r0,r1⟩)
 ·simp only[bE,d6,or_false] at hb
  rcases hb with rfl|rfl|rfl
  ·exact .inl rfl
  ·exact .inr (.inl rfl)
  ·exact .inr (.inr (s1.free dfr))
 ·rw[bB] at nb
  rw[z0k nb,z0k (z0r e (s1.free dfr)),z0k nb]
  exact s1 _ _ e
 ·rw[z0k ne,z0k ndd,z0k ne]
  exact s1 _ _ hdx
 ·rw[z0k nl,z0k nlp,z0k nl]
  exact e1
 ·rw[z0k (dC nx),z03]
 ·rw[z0v,if_neg (by decide +kernel),z0v,if_neg (by decide +kernel),z0v,if_pos rfl]
 ·rw[z0v,if_neg (by decide +kernel),z0v,if_pos rfl]
 ·rw[z0v,if_pos rfl]
 ·intro m hm
  simp only[bE,d6,or_false] at hm
  rcases hm with rfl|rfl|rfl|rfl<;>rw[z0v,if_neg (by decide +kernel),z0v,if_neg (by decide +kernel),z0v,if_neg (by decide +kernel)]<;>rfl
theorem y1e{A6:Addr}(M:Bl mg)(T:L6 K mg A6)(F:Fun K "latest" "Office.latest" z3H f fd):B4 P w K mg base CX0 1 f fd z3G (z9v (OfD K A6)):=by
 have nd:=z4P.nd
 refine F.ok z4P (fun vs H Q E h=>?_) (fun cdv A outer s H vs Q E hr h=>?_)
 ·obtain⟨p,fp,zs,r,rows,rfl,_⟩:=h
  rfl
 obtain⟨p,fp,zs,r,rows,rfl,of,k⟩:=h
 refine⟨_,(z05 (z0i (z0b z09 rfl M.len bO (z00 (z0J (pv 0) rfl) z02)))),?_⟩
 obtain⟨dx,pn,pl,fs,xs,rfl,h1,h2,h3,h4,l1,l2,l3,lm,tl,r60,w12,g,r0,r1⟩:=of
 have lx:xs.length=rows.length:=by rw[tl.length,b9,z0L]
 refine(rdI rfl (ex5 p A6 dx fs _ ⟨rfl,h1,T.cl,T.n_written,l3,(ex2 pl xs ⟨rfl,.inl (SqL.of h4),?_⟩)⟩))
 rw[lx]
 exact k H (B0.refl _)
theorem y3f{A6:Addr}(M:Bl mg)(T:L6 K mg A6)(F:Fun K "issue" "Office.issue" z44 f fd):B4 P w K mg base CX0 1 f fd z2o (z6m (OfD K A6)):=by
 have nd:=z5n.nd
 refine F.ok z5n (fun vs H Q E h=>?_) (fun cdv A outer s H vs Q E hr h=>?_)
 ·obtain⟨p,fp,zs,r,rows,n,rfl,_⟩:=h
  rfl
 obtain⟨p,fp,zs,r,rows,n,rfl,of,n1,n2,k⟩:=h
 refine⟨_,(z04 (z0E (PW.pt (z37 (z0c z9a (pv 1) z06 (z0o _)) (z25 (z0c z2p (pv 1) (z0b z09 rfl M.len bO (z00 (z0J (pv 0) rfl) z02)) (z0o _))))) (z05 z1N) z0l) (z05 (z0i (z0B z0Y (z0J (pv 0) rfl) (z0u z23 (pv 1) z06) (fun _ _=>rfl))))),?_⟩
 obtain⟨dx,pn,pl,fs,xs,rfl,h1,h2,h3,h4,l1,l2,l3,lm,tl,r60,w12,g,r0,r1⟩:=of
 have lx:xs.length=rows.length:=by rw[tl.length,b9,z0L]
 refine(rdI rfl (ex2 _ _ ⟨rfl,rfl,(rdI rfl (B9 (fun q=>absurd (z0I q) (by lia)) fun _=>?_))⟩))
 refine(rdI rfl (rdI rfl (ex5 p A6 dx fs _ ⟨rfl,h1,T.cl,T.n_written,l3,(ex2 pl xs ⟨rfl,.inl (SqL.of h4),(ex2 _ _ ⟨rfl,rfl,(rdI rfl (B9 (fun q=>absurd (z0I q) (by lia)) fun _=>?_))⟩)⟩)⟩)))
 have hk:(n-1).toNat<rows.length:=by lia
 obtain⟨v,ev,tv⟩:=tl.get (n-1).toNat (z0N rows n r) (by
  unfold upI
  rw[bC,bC,gX hk]
  show some (z0N rows (1+((n-1).toNat:Int)) r)=_
  rw[show(1:Int)+((n-1).toNat:Int)=n by lia])
 have av:atI xs (n-1)=some v:=by
  rw[show n-1=(((n-1).toNat:Nat):Int) by lia]
  exact z0R ev
 exact(rdI rfl (ex5 p A6 dx fs _ ⟨rfl,h1,T.cl,T.n_written,l3,(rdI rfl (ex2 _ _ ⟨rfl,rfl,(ex4 pl xs _ v ⟨rfl,rfl,SqL.of h4,av,k v H (B0.refl _) tv⟩)⟩))⟩))
noncomputable def z8b(K:PySem.W.Frag)(Of:OfP):Sp:=fun vs H Q _=>∃(p a:Addr) (fp:List Addr) (zs:List Str) (r:Int) (rows:List Row) (us:List V) (pr:Row),vs=[.ref p,.ref a]/\Of H p fp zs r rows/\SqP K H a us/\Paired (z2N K H) us pr/\GoodR zs pr/\pr.length≤12/\rows.length<60/\∀H',B0 H H'->Q .non H'
theorem y30{A6:Addr}(M:Bl mg)(T:L6 K mg A6)(F:Fun K "refuse_writing" "Office.refuse_writing" z1G f fd)(J5:Cal P w K mg base 2 "refuse_bad_rows" z2K (y1a K)) :
  B4 P w K mg base CX0 3 f fd z1h (z8b K (OfD K A6)):=by
 have nd:=z2n.nd
 refine F.ok z2n (fun vs H Q E h=>?_) (fun cdv A outer s H vs Q E hr h=>?_)
 ·obtain⟨p,a,fp,zs,r,rows,us,pr,rfl,_⟩:=h
  rfl
 obtain⟨p,a,fp,zs,r,rows,us,pr,rfl,of,ha,hp,g',l12,l60,k⟩:=h
 refine⟨_,(z04 (z0E (z0c y4j (z0b z09 rfl M.len bO (z00 (z0J (pv 0) rfl) z02)) (z2V rfl M.MOST_NUMBERS) (z0o _)) (z05 z1N) z0l) (z05 (z0D (z0e J5 (rm hr) rfl (z00 (z0J (pv 0) rfl) (z00 (pv 1) z02)))))),?_⟩
 obtain⟨dx,pn,pl,fs,xs,rfl,h1,h2,h3,h4,l1,l2,l3,lm,tl,r60,w12,g,r0,r1⟩:=of
 have lx:xs.length=rows.length:=by rw[tl.length,b9,z0L]
 refine(rdI rfl (ex5 p A6 dx fs _ ⟨rfl,h1,T.cl,T.n_written,l3,(ex2 pl xs ⟨rfl,.inl (SqL.of h4),(ex2 _ _ ⟨rfl,rfl,(rdI rfl (B9 (fun q=>absurd (z0I q) (by lia)) fun _=>?_))⟩)⟩)⟩))
 exact(rdI rfl (ex5 p A6 dx fs _ ⟨rfl,h1,T.cl,T.n_names,l1,(rdI rfl (ex5 pn a zs us pr ⟨rfl,.inr (SqT.of h3),ha,hp,g',l12,fun H' s=>k H' s⟩))⟩))
theorem y1K(rows:List Row)(x:Row){n r:Int}(n1:1≤n)(n2:n≤rows.length):z0N (rows++[x]) n r=z0N rows n r:=by
 have e:=y1y (rows:=rows++[x]) (j:=rows.length) (r:=r) n1 n2
 rw[List.take_left] at e
 exact e.symm
theorem y5b(m:Nat)(r:Int)(r0:0≤r):z5k ((m:Int)+1) r=tsN m r.toNat:=by
 have w1T:∀{l1 l2:List Int},l1.Pairwise (· > ·)->l2.Pairwise (· > ·)->(∀x,x∈l1↔x∈l2)->l1=l2:=fun {l1 l2} p1 p2 h=>by
  have e:=z1Z (l1:=l1.reverse) (l2:=l2.reverse) (jM.mpr p1) (jM.mpr p2) fun x=>by rw[jG,jG];exact h x
  have e2:=congrArg List.reverse e
  rw[gN,gN] at e2
  exact e2
 refine w1T ((z83 _ _).filter _) ((z83 _ _).filter _) fun x=>?_
 rw[z8X]
 unfold z5k
 rw[cK,z8r,decide_eq_true_eq]
 lia
theorem y58(rows:List Row)(x:Row)(r:Int)(r0:0≤r):y47 (rows++[x]) ((rows.length:Int)+1) r=tsD (rows.map z0x) r:=by
 unfold y47 tsD
 rw[y5b _ _ r0,b9]
 congr 1
 refine eI fun k hk=>?_
 have hk:=z8X.mp hk
 unfold z9e tsP z0t
 have h1:(k-1).toNat<rows.length:=by lia
 rw[bK,bK,dN h1,bC,bD h1]
 rfl
theorem y37{A6:Addr}(M:Bl mg)(T:L6 K mg A6)(F:Fun K "write" "Office.write" z4b f fd)(C2:D9 P w K mg base 3 A6 "refuse_writing" z1h (z8b K (OfD K A6)))
  (D8:Cal P w K mg base 1 "names_of_rows" z2C y1p) (L5:Cal P w K mg base 1 "rows_in_order" z3B (y0r K)) (R5:Cal P w K mg base 2 "tail_for" z8S (y6E K)) :
  B4 P w K mg base CX0 4 f fd z3Z (y0I K (OfD K A6)):=by
 have nd:=z5w.nd
 refine F.ok z5w (fun vs H Q E h=>?_) (fun cdv A outer s H vs Q E hr h=>?_)
 ·obtain⟨p,v,fp,zs,r,rows,pr,rfl,_⟩:=h
  rfl
 obtain⟨p,v,fp,zs,r,rows,pr,rfl,of,⟨a,us,rfl,ha,na,hp⟩,gr,l12,l60,k⟩:=h
 refine⟨_,(z04 (z0D (z1I C2 (rm hr) (pv 0) (z00 (pv 1) z02))) (z04 (z0p (i:=2) nd rfl (Or.inl rfl) (z0u z1u (z0b z09 rfl M.len bO (z00 (z0J (pv 0) rfl) z02)) z06)) (z04 (z5C (i:=3) ["issue"] [] [] rfl nd rfl (Or.inl rfl) (z0w rfl (by decide +kernel) rfl (by decide +kernel) rfl rfl) (z16 (z0J (pv 0) rfl)) (fun _ _ _ _ _=>(z0j (i:=0) (show((["issue"]:List PySem.Str)++([]:List PySem.Str)).Nodup from by decide +kernel) rfl (Or.inl rfl))) (z0y (by decide)) z0h (fun _ _ _ _ _=>z1E) (fun _ _ _ _ _=>(z0e D8 (rm hr) rfl (z00 (z0B (r:=P2 K) z0C (pv 0) z06 (fun _ _=>rfl)) z02)))) (z04 (z0D (z2O bW bX bY z0Q (z0J (pv 0) rfl) (z00 (z0T (z00 (pv 2) (z00 (z0e L5 (rm hr) rfl (z00 (z0J (pv 0) rfl) (z00 (pv 1) z02))) (z00 (z0e R5 (rm hr) rfl (z00 (pv 3) (z00 (z0J (pv 0) rfl) z02))) z02)))) z02))) (z05 (z0i (pv 2))))))),?_⟩
 have hp':=z2N.of hp
 obtain⟨dx,pn,pl,fs,xs,rfl,h1,h2,h3,h4,l1,l2,l3,lm,tl,r60,w12,g,r0,r1⟩:=id of
 have lx:xs.length=rows.length:=by rw[tl.length,b9,z0L]
 refine(rdI rfl (ex3 p dx fs ⟨rfl,h1,lm _ (by simp),(rdI rfl (ex8 p a _ zs r rows us pr ⟨rfl,of,ha,hp',gr,l12,l60,fun H1 s1=>?_⟩))⟩))
 refine(rdI rfl (ex5 p A6 dx fs _ ⟨rfl,s1 _ _ h1,T.cl,T.n_written,l3,(ex2 pl xs ⟨rfl,.inl (SqL.of (s1 _ _ h4)),(ex2 _ _ ⟨rfl,rfl,?_⟩)⟩)⟩))
 refine(rdI rfl (ex5 p A6 dx fs _ ⟨rfl,s1 _ _ h1,T.cl,T.n_written,l3,pl,rfl,⟨_,SqL.of (s1 _ _ h4)⟩,?_⟩))
 refine z32 (xs:=xs) (fun i ys H'=>B0 H1 H'/\z08 H' (((rows.take i).map z0x).map L4) ys) ⟨B0.refl _,by rw[cT];exact .nil⟩ (fun i ys H' hi hq=>?_) (fun i x ys H' hx hq=>?_) (fun ys H' hq=>?_)
 ·obtain⟨gg,t⟩:=hq
  refine⟨SqL.of (gg _ _ (s1 _ _ h4)),z0f ?_⟩
  rw[t.length,b9,b9,bG]
  lia
 ·obtain⟨gg,t⟩:=hq
  have hi:i<rows.length:=by
   have:=(bV.mp hx).1
   lia
  obtain⟨d,ed,td⟩:=tl.at i x hx
  unfold upI at ed
  rw[bC,bC,gX hi] at ed
  have ed':z0N rows (1+(i:Int)) r=d:=Option.some.inj ed
  subst ed'
  have ew:z0t rows (1+(i:Int))=rows[i]:=by
   unfold z0t
   rw[show(1+(i:Int)-1).toNat=i by lia,bK,bD hi]
   rfl
  obtain⟨b,bs,rfl,eb,_,tb⟩:=z0d td
  obtain⟨x0,ur,rfl,t0,tb⟩:=z0g tb
  obtain⟨x1,ur,rfl,t1,tb⟩:=z0g tb
  rw[ew] at t1
  obtain⟨c,cs,rfl,ec,_,tc⟩:=z0d t1
  refine(rdI rfl (ex4 b _ _ _ ⟨rfl,rfl,SqT.of (gg _ _ (s1 _ _ eb)),z0R rfl,(ex3 c cs (rows[i]) ⟨rfl,gg _ _ (s1 _ _ ec),z08.keep (s1.trans gg) _ _ tc,w12 _ (eX hi),fun l H2 s2 e2=>⟨gg.trans s2,?_⟩⟩)⟩))
  rw[z0n (bD hi),bF,bF]
  refine z08.snoc (z08.keep s2 _ _ t) (z0q e2 ?_ (z20 _))
  have:=w12 _ (eX hi)
  unfold z0x
  rw[b9,b9]
  lia
 obtain⟨gg,t⟩:=hq
 rw[lx,bT] at t
 intro D hD
 have s2:=s1.trans (gg.trans (z01 hD (.lst ys)))
 have eD:upd H' D (.lst ys) D=some (.lst ys):=z03
 have t2:=z08.keep (z01 hD (.lst ys)) _ _ t
 generalize upd H' D (.lst ys)=H2 at s2 eD t2
 have l60':((rows.map z0x)).length≤59:=by rw[b9];lia
 refine(rdI rfl (ex5 p A6 dx fs _ ⟨rfl,s2 _ _ h1,T.cl,T.n_written,l3,.inl ⟨rfl,_,SqL.of (s2 _ _ h4)⟩,?_⟩))
 refine(rdI rfl (rdI rfl (ex5 p A6 dx fs _ ⟨rfl,s2 _ _ h1,T.cl,T.n_names,l1,(rdI rfl (ex5 pn a zs us pr ⟨rfl,.inr (SqT.of (s2 _ _ h3)),g.hi,SqP.keep s2 ha,z2N.keep s2 hp',gr.nd,l12,fun v1 H3 s3 tv1=>?_⟩))⟩)))
 have s23:=s2.trans s3
 refine(rdI rfl (rdI rfl (ex5 p A6 dx fs _ ⟨rfl,s23 _ _ h1,T.cl,T.n_reach,l2,(ex4 D ys (rows.map z0x) r ⟨rfl,.inl (SqL.of (s3 _ _ eD)),z08.keep s3 _ _ t2,l60',?_,r0,r1,fun v2 H4 s4 tv2=>?_⟩)⟩)))
 ·intro w' hw'
  obtain⟨w0,hw0,rfl⟩:=cM.mp hw'
  have:=w12 w0 hw0
  unfold z0x
  rw[b9]
  exact this
 refine⟨(by show 3≤sizeLine;decide),fun q hq=>?_⟩
 have s24:=s23.trans (s4.trans (z01 hq (.tup [V.int ((xs.length:Int)+1),v1,v2])))
 have eq':upd H4 q (.tup [V.int ((xs.length:Int)+1),v1,v2]) q=some (.tup [V.int ((xs.length:Int)+1),v1,v2]):=z03
 have tv1':=B2.keep (s4.trans (z01 hq (.tup [V.int ((xs.length:Int)+1),v1,v2]))) _ _ tv1
 have tv2':=B2.keep (z01 hq (.tup [V.int ((xs.length:Int)+1),v1,v2])) _ _ tv2
 generalize upd H4 q (.tup [V.int ((xs.length:Int)+1),v1,v2])=H5 at s24 eq' tv1' tv2'
 refine(ex3 pl xs (.ref q) ⟨rfl,rfl,s24 _ _ h4,z0f (by lia),?_⟩)
 refine(rdI rfl ?_)
 have np:p≠pl:=z5l h1 h4 (fun z=>by cases z)
 have nx:dx≠pl:=z5l h2 h4 (fun z=>by cases z)
 have nn:pn≠pl:=z5l h3 h4 (fun z=>by cases z)
 have h5:=s24 _ _ h4
 have e:=k [p,dx,pl] (upd H5 pl (.lst (xs++[.ref q]))) (fun b hb=>.inl hb) (fun b o e nb=>by rw[z0k (fun z=>nb (by rw[z];simp))];exact s24 _ _ e)
  ⟨dx,pn,pl,fs,_,rfl,by rw[z0k np];exact s24 _ _ h1,by rw[z0k nx];exact s24 _ _ h2,by rw[z0k nn];exact s24 _ _ h3,z03,l1,l2,l3,lm,?_,?_,?_,g,r0,r1⟩
 ·rw[<- lx] at e
  exact e
 ·refine z08.over h5 (fun _ z=>by cases z) _ _ ?_
  rw[bN,eM,z5f,bF]
  have e1:(upI 1 rows.length).map (fun n=>z0N (rows++[z1v zs pr]) n r)=(upI 1 rows.length).map fun n=>z0N rows n r:=eI fun n hn=>by
   have:=z1e.mp hn
   exact y1K rows _ (by lia) (by lia)
  rw[e1]
  refine z08.snoc (z08.keep s24 _ _ tl) ?_
  have en:(1:Int)+(rows.length:Int)=(rows.length:Int)+1:=by lia
  have er:z0t (rows++[z1v zs pr]) ((rows.length:Int)+1)=z1v zs pr:=by
   unfold z0t
   rw[show((rows.length:Int)+1-1).toNat=rows.length by lia,bK,List.getElem?_concat_length]
   rfl
  show B2 H5 (z0N (rows++[z1v zs pr]) (1+(rows.length:Int)) r) (.ref q)
  unfold z0N
  rw[en,er,y58 rows _ r r0]
  rw[lx] at eq'
  exact z0q eq' (by show 3≤1000000;decide) (.cons (z0H _) (.cons tv1' (.cons tv2' .nil)))
 ·rw[bN,eM]
  lia
 ·intro w' hw'
  rcases bS.mp hw' with hw'|hw'
  ·exact w12 w' hw'
  ·rw[bB] at hw'
   rw[hw']
   exact cL (z5D zs pr) g.hi
abbrev D7:=Option Int×Int
noncomputable def z3w:D7->List V
 | (none,n)=>[.str "write",.int n]
 | (some r,n)=>[.str "deliver",.int r,.int n]
noncomputable def z5u(H:Hp)(u:V)(d:D7):Prop:=∃b,u=.ref b/\H b=some (.tup (z3w d))
theorem z3M{H:Hp}{us:List V}{log:List D7}(h:Paired (z5u H) us log):us.length=log.length:=by
 induction h with
 | nil=>rfl
 | cons _ _ ih=>rw[cN,cN,ih]
noncomputable def Q3(log:List D7)(rd:Int):List Int:=log.foldl (fun acc d=>if d.1=some rd then S2 acc d.2 else acc) []
theorem y57(log:List D7)(d:D7)(rd:Int):Q3 (log++[d]) rd=if d.1=some rd then S2 (Q3 log rd) d.2 else Q3 log rd:=by
 unfold Q3
 rw[gJ]
 rfl
theorem y22{log:List D7}{rd n:Int}:n∈Q3 log rd↔((some rd,n):D7)∈log:=by
 have go:∀(log:List D7) (acc:List Int),n∈log.foldl (fun acc d=>if d.1=some rd then S2 acc d.2 else acc) acc↔n∈acc\/((some rd,n):D7)∈log:=by
  intro log
  induction log with
  | nil=>intro acc;exact⟨.inl,fun h=>h.elim id fun q=>(nomatch q)⟩
  | cons d log ih=>
   intro acc
   rw[dI,ih,bE]
   obtain⟨a,m⟩:=d
   by_cases c:a=some rd
   ·subst c
    rw[if_pos rfl,y1S,or_assoc]
    exact or_congr Iff.rfl (or_congr ⟨fun e=>by rw[e],fun e=>congrArg Prod.snd e⟩ Iff.rfl)
   ·rw[if_neg c]
    exact or_congr Iff.rfl ⟨.inr,fun h=>h.elim (fun e=>absurd (congrArg Prod.fst e).symm c) id⟩
 unfold Q3
 rw[go]
 exact⟨fun h=>h.elim (fun q=>(nomatch q)) id,.inr⟩
abbrev BkP:=Hp->Addr->List Addr->List Str->Int->Int->List Row->List D7->Prop
structure W3(C:Addr)(ms:List Str)(Bk:BkP):Prop where
 ins:∀{H p fp zs r k rows log},Bk H p fp zs r k rows log->∃dx fs,H p=some (.ins C dx fs)/\∀m∈ms,fs.lookup m=none
 own:∀{H p fp zs r k rows log},Bk H p fp zs r k rows log->∀b∈fp,∃o,H b=some o/\∀xs,o≠.tup xs
 keep:∀{H H' p fp gp zs r k rows log},Bk H p fp zs r k rows log->z0A gp H H'->(∀b∈gp,b∉fp)->z5L H gp->Bk H' p fp zs r k rows log
theorem W3.same{C:Addr}{ms:List Str}{Bk:BkP}(O:W3 C ms Bk){H H':Hp}{p:Addr}{fp:List Addr}{zs:List Str}{r k:Int}{rows:List Row}{log:List D7}(h:Bk H p fp zs r k rows log)(s:B0 H H'):Bk H' p fp zs r k rows log:=
 O.keep (gp:=[]) h (.of s) (fun _ q=>by cases q) fun _ q=>by cases q
theorem W3.S3{C:Addr}{ms:List Str}{Bk:BkP}(O:W3 C ms Bk){H:Hp}{p:Addr}{fp:List Addr}{zs:List Str}{r k:Int}{rows:List Row}{log:List D7}(h:Bk H p fp zs r k rows log):z5L H fp:=fun b m xs e=>by
 obtain⟨o,e1,n⟩:=O.own h b m
 rw[e1] at e
 exact n xs (Option.some.inj e)
noncomputable def y2w(K:PySem.W.Frag)(C:Addr)(Bk:BkP):Sp:=fun vs H Q _=>∃(x dx pn:Addr) (zs:List Str) (r k:Int),vs=[.ref x,.ref pn,.int r,.int k]/\H x=some (.ins C dx [])/\dx≠x/\H dx=some (.own x)/\HdN K H pn zs/\E2 zs/\0≤r/\r≤10/\1≤k/\k≤10/\
 ∀(fp:List Addr) (H':Hp),(∀b∈fp,b=x\/b=dx\/H b=none)->z0A [x] H H'->Bk H' x fp zs r k [] []->Q .non H'
noncomputable def y11(K:PySem.W.Frag)(Bk:BkP):Sp:=fun vs H Q _=>∃(p:Addr) (v:V) (fp:List Addr) (zs:List Str) (r k:Int) (rows:List Row) (log:List D7) (pr:Row),vs=[.ref p,v]/\Bk H p fp zs r k rows log/\y42 K H fp v pr/\GoodR zs pr/\pr.length≤12/\rows.length<60/\log.length<400/\
 ∀(fp':List Addr) (H':Hp),(∀b∈fp',b∈fp\/H b=none)->z0A fp H H'->Bk H' p fp' zs r k (rows++[z1v zs pr]) (log++[(none,(rows.length:Int)+1)])->Q (.int (rows.length+1)) H'
noncomputable def z84(Bk:BkP):Sp:=fun vs H Q _=>∃(p:Addr) (fp:List Addr) (zs:List Str) (r k:Int) (rows:List Row) (log:List D7) (rd n:Int),vs=[.ref p,.int rd,.int n]/\Bk H p fp zs r k rows log/\1≤rd/\rd≤k/\1≤n/\n≤rows.length/\log.length<400/\
 ∀(H':Hp),z0A fp H H'->Bk H' p fp zs r k rows (log++[(some rd,n)])->Q (.bl (decide (((some rd,n):D7)∉log))) H'
noncomputable def y3q(Bk:BkP):Sp:=fun vs H Q _=>∃(p:Addr) (fp:List Addr) (zs:List Str) (r k:Int) (rows:List Row) (log:List D7),vs=[.ref p]/\Bk H p fp zs r k rows log/\Q (.int log.length) H
noncomputable def w0p:Option Nat->V
 | none=>.non
 | some d=>.int d
noncomputable def z6f(Bk:BkP)(Sh:ShP):Sp:=fun vs H Q _=>∃(p:Addr) (fp:List Addr) (zs:List Str) (r k:Int) (rows:List Row) (log:List D7) (rd:Int) (o:Option Nat),vs=[.ref p,.int rd,w0p o]/\Bk H p fp zs r k rows log/\1≤rd/\rd≤k/\(∀d,o=some d->d≤log.length)/\
 ∀(x:Addr) (fq:List Addr) (H':Hp),(∀b∈fq,H b=none)->B0 H H'->Sh H' x fq zs r (fun n=>z0N rows n r) (Q3 (log.take (o.getD log.length)) rd)->Q (.ref x) H'
theorem U2.but{fp:List Addr}{H H':Hp}{us:List V}{log:List D7}(s:z0A fp H H')(n:z5L H fp)(h:Paired (z5u H) us log):Paired (z5u H') us log:=
 L2.Paired.U3 h fun u d ⟨b,e,q⟩=>⟨b,e,s _ _ q fun m=>n b m _ q⟩
structure BkIn(K:PySem.W.Frag)(CB CO:Addr)(H:Hp)(p dx po pd:Addr)(fs:List (Str×V))(fo:List Addr)(us:List V)(zs:List Str)(r k:Int)(rows:List Row)(log:List D7):Prop where
 hp:H p=some (.ins CB dx fs)
 hdx:H dx=some (.own p)
 of:OfD K CO H po fo zs r rows
 hd:H pd=some (.lst us)
 ds:Paired (z5u H) us log
 npo:p∉fo
 ndo:dx∉fo
 ndn:pd∉fo
 lo:fs.lookup ("office":Str)=some (V.ref po)
 lr:fs.lookup ("readers":Str)=some (V.int k)
 ld:fs.lookup ("done":Str)=some (V.ref pd)
 lm:∀m∈(["refuse_unknown_reader","refuse_further_deed","write","deliver","latest","issue","deeds","deed","shelf"]:List Str),fs.lookup m=none
 l4:log.length≤400
 in1:∀d∈log,1≤d.2/\d.2≤rows.length
 k1:1≤k
 k10:k≤10
noncomputable def BkD(K:PySem.W.Frag)(CB CO:Addr):BkP:=fun H p fp zs r k rows log=>∃(dx po pd:Addr) (fs:List (Str×V)) (fo:List Addr) (us:List V),fp=p::dx::pd::fo/\BkIn K CB CO H p dx po pd fs fo us zs r k rows log
theorem Z7{K:PySem.W.Frag}{CB CO:Addr}:W3 CB ["write","deliver","latest","issue","deeds","deed","shelf"] (BkD K CB CO):=by
 refine⟨fun h=>?_,fun h b hb=>?_,fun h s out nt=>?_⟩
 ·obtain⟨dx,po,pd,fs,fo,us,rfl,B⟩:=h
  refine⟨dx,fs,B.hp,fun m hm=>B.lm m ?_⟩
  exact bZ _ (bZ _ hm)
 ·obtain⟨dx,po,pd,fs,fo,us,rfl,B⟩:=h
  rcases bE.mp hb with rfl|hb
  ·exact⟨_,B.hp,fun xs z=>by cases z⟩
  rcases bE.mp hb with rfl|hb
  ·exact⟨_,B.hdx,fun xs z=>by cases z⟩
  rcases bE.mp hb with rfl|hb
  ·exact⟨_,B.hd,fun xs z=>by cases z⟩
  exact R1.own B.of b hb
 ·obtain⟨dx,po,pd,fs,fo,us,rfl,B⟩:=h
  exact⟨dx,po,pd,fs,fo,us,rfl,{ B with
   hp:=s _ _ B.hp fun m=>out _ m (by simp)
   hdx:=s _ _ B.hdx fun m=>out _ m (by simp)
   of:=R1.keep B.of s (fun b m z=>out b m (by simp[z])) nt
   hd:=s _ _ B.hd fun m=>out _ m (by simp)
   ds:=U2.but s nt B.ds }⟩
noncomputable def z7H:Sp:=fun vs H Q _=>∃k:Int,vs=[.int k]/\1≤k/\k≤10/\Q .non H
theorem z9U(M:Bl mg)(F:Fun K "refuse_bad_readers" "refuse_bad_readers" z2d f fd):B4 P w K mg base CX0 1 f fd z2e z7H:=by
 have nd:=z2S.nd
 refine F.ok z2S (fun vs H Q E h=>?_) (fun cdv A outer s H vs Q E hr h=>?_)
 ·obtain⟨r,rfl,_⟩:=h
  rfl
 ·obtain⟨r,rfl,r0,r1,k⟩:=h
  refine⟨_,(z05 (z0E (PW.pt (z37 (z0c z9a (pv 0) z06 (z0o _)) (z25 (z0c z2p (pv 0) (z2V rfl M.MOST_READERS) (z0o _))))) (z05 z1N) z0l)),?_⟩
  refine(rdI rfl (ex2 _ _ ⟨rfl,rfl,(rdI rfl (B9 (fun q=>absurd (z0I q) (by lia)) fun _=>?_))⟩))
  exact(rdI rfl (ex2 _ _ ⟨rfl,rfl,(rdI rfl (B9 (fun q=>absurd (z0I q) (by lia)) fun _=>k))⟩))
noncomputable def z63(Bk:BkP):Sp:=fun vs H Q _=>∃(p:Addr) (fp:List Addr) (zs:List Str) (r k:Int) (rows:List Row) (log:List D7) (rd:Int),vs=[.ref p,.int rd]/\Bk H p fp zs r k rows log/\1≤rd/\rd≤k/\Q .non H
theorem y14{B1 A6:Addr}(M:Bl mg)(T:L8 K mg B1)(F:Fun K "refuse_unknown_reader" "Book.refuse_unknown_reader" z1c f fd):B4 P w K mg base CX0 1 f fd z0V (z63 (BkD K B1 A6)):=by
 have nd:=z1O.nd
 refine F.ok z1O (fun vs H Q E h=>?_) (fun cdv A outer s H vs Q E hr h=>?_)
 ·obtain⟨p,fp,zs,r,k,rows,log,rd,rfl,_⟩:=h
  rfl
 obtain⟨p,fp,zs,r,k,rows,log,rd,rfl,⟨dx,po,pd,fs,fo,us,rfl,B⟩,r1,r2,q⟩:=h
 refine⟨_,(z05 (z0E (PW.pt (z37 (z0c z9a (pv 1) z06 (z0o _)) (z25 (z0c z2p (pv 1) (z0J (pv 0) rfl) (z0o _))))) (z05 z1N) z0l)),?_⟩
 refine(rdI rfl (ex2 _ _ ⟨rfl,rfl,(rdI rfl (B9 (fun q=>absurd (z0I q) (by lia)) fun _=>?_))⟩))
 exact(rdI rfl (rdI rfl (ex5 p B1 dx fs _ ⟨rfl,B.hp,T.cl,T.n_readers,B.lr,(ex2 _ _ ⟨rfl,rfl,(rdI rfl (B9 (fun q=>absurd (z0I q) (by lia)) fun _=>q))⟩)⟩)))
noncomputable def z8m(Bk:BkP):Sp:=fun vs H Q _=>∃(p:Addr) (fp:List Addr) (zs:List Str) (r k:Int) (rows:List Row) (log:List D7),vs=[.ref p]/\Bk H p fp zs r k rows log/\log.length<400/\Q .non H
theorem y33{B1 A6:Addr}(M:Bl mg)(T:L8 K mg B1)(F:Fun K "refuse_further_deed" "Book.refuse_further_deed" z1r f fd):B4 P w K mg base CX0 1 f fd z10 (z8m (BkD K B1 A6)):=by
 have nd:=z24.nd
 refine F.ok z24 (fun vs H Q E h=>?_) (fun cdv A outer s H vs Q E hr h=>?_)
 ·obtain⟨p,fp,zs,r,k,rows,log,rfl,_⟩:=h
  rfl
 obtain⟨p,fp,zs,r,k,rows,log,rfl,⟨dx,po,pd,fs,fo,us,rfl,B⟩,l4,q⟩:=h
 refine⟨_,(z05 (z0E (z0c y4j (z0b z09 rfl M.len bO (z00 (z0J (pv 0) rfl) z02)) (z2V rfl M.MOST_DEEDS) (z0o _)) (z05 z1N) z0l)),?_⟩
 have lu:=z3M B.ds
 exact(rdI rfl (ex5 p B1 dx fs _ ⟨rfl,B.hp,T.cl,T.n_done,B.ld,(ex2 pd us ⟨rfl,.inl (SqL.of B.hd),(ex2 _ _ ⟨rfl,rfl,(rdI rfl (B9 (fun q=>absurd (z0I q) (by lia)) fun _=>q))⟩)⟩)⟩))
theorem y3a{B1 A6:Addr}(M:Bl mg)(T:L8 K mg B1)(F:Fun K "deeds" "Book.deeds" z5R f fd):B4 P w K mg base CX0 1 f fd z8Q (y3q (BkD K B1 A6)):=by
 have nd:=z7I.nd
 refine F.ok z7I (fun vs H Q E h=>?_) (fun cdv A outer s H vs Q E hr h=>?_)
 ·obtain⟨p,fp,zs,r,k,rows,log,rfl,_⟩:=h
  rfl
 obtain⟨p,fp,zs,r,k,rows,log,rfl,⟨dx,po,pd,fs,fo,us,rfl,B⟩,q⟩:=h
 refine⟨_,(z05 (z0i (z0b z09 rfl M.len bO (z00 (z0J (pv 0) rfl) z02)))),?_⟩
 have lu:=z3M B.ds
 refine(rdI rfl (ex5 p B1 dx fs _ ⟨rfl,B.hp,T.cl,T.n_done,B.ld,(ex2 pd us ⟨rfl,.inl (SqL.of B.hd),?_⟩)⟩))
 rw[lu]
 exact q
theorem y3o{B1 A6:Addr}(M:Bl mg)(T:L8 K mg B1)(F:Fun K "__init__" "Book.__init__" z3z f fd)(U4:Mkr P w K mg base 3 A6 "Office" z2Q (y1P K A6 (OfD K A6)))
  (F0:Cal P w K mg base 1 "refuse_bad_readers" z2e z7H):B4 P w K mg base CX0 6 f fd z3v (y2w K B1 (BkD K B1 A6)):=by
 have nd:=z51.nd
 refine F.ok z51 (fun vs H Q E h=>?_) (fun cdv A outer s H vs Q E hr h=>?_)
 ·obtain⟨x,dx,pn,zs,r,k,rfl,_⟩:=h
  rfl
 obtain⟨x,dx,pn,zs,r,k,rfl,hx,ne,hdx,hn,g,r0,r1,k1,k10,q⟩:=h
 refine⟨_,(z04 (z6t (pv 0) (y4o U4 (rm hr) rfl (z00 (pv 1) (z00 (pv 2) z02))) rfl) (z04 (z0D (z0e F0 (rm hr) rfl (z00 (pv 3) z02))) (z04 (z6t (pv 0) (pv 3) rfl) (z05 (z6t (pv 0) (z1d z02) rfl))))),?_⟩
 refine(rdI rfl (rdI rfl (fun po dxo nx ndx neo=>?_)))
 have m1:=z8D (C:=A6) (B0.refl H) nx ndx
 refine(ex5 po dxo pn zs r ⟨rfl,z03,neo,by rw[z0k neo,z03],HdN.keep m1 hn,g,r0,r1,fun fo H1 ff sb of=>⟨rfl,?_⟩⟩)
 have s1:B0 H H1:=z8j sb m1 nx
 have f1:∀b∈fo,H b=none:=fun b hb=>z6P m1 nx ndx (ff b hb)
 refine(rdI rfl (ex4 x B1 dx ([]) ⟨rfl,s1 _ _ hx,T.cl,T.n_office,by decide,?_⟩))
 have z1:=z1V "office" (.ref po) []
 have z2:=z1V "readers" (.int k) (K8 "office" (.ref po) [])
 have z0:([]:List (Str×V)).length=0:=rfl
 refine(rdI rfl ⟨k,rfl,k1,k10,?_⟩)
 refine(rdI rfl (rdI rfl (ex4 x B1 dx _ ⟨rfl,z03,T.cl,T.n_readers,(by lia),?_⟩)))
 rw[z5O]
 refine⟨(by show 0≤sizeLine;decide),fun pd hd=>?_⟩
 have nxp:x≠pd:=z0r z03 hd
 have dfr:H1 pd=none:=by rw[z0k (dC nxp)] at hd;exact hd
 have ndd:dx≠pd:=z0r (s1 _ _ hdx) dfr
 have out:∀{b:Addr}{o:HO},H b=some o->b∉fo:=fun e m=>by rw[f1 _ m] at e;cases e
 refine(rdI rfl (ex4 x B1 dx _ ⟨rfl,(by rw[z0k nxp,z03]),T.cl,T.n_done,(by lia),?_⟩))
 have sx:z0A [x] H1 (upd (upd (upd H1 x (.ins B1 dx (K8 "readers" (.int k) (K8 "office" (.ref po) [])))) pd (.lst [])) x (.ins B1 dx (K8 "done" (.ref pd) (K8 "readers" (.int k) (K8 "office" (.ref po) []))))):=fun b o e nb=>by
  rw[bB] at nb
  rw[z0k nb,z0k (z0r e dfr),z0k nb]
  exact e
 refine q (x::dx::pd::fo) _ (fun b hb=>?_) (fun b o e nb=>sx b o (s1 _ _ e) nb) (ex6 dx po pd _ fo ([]) ⟨rfl,⟨z03,?_,?_,?_,.nil,out hx,out hdx,?_,?_,?_,?_,?_,by decide,fun _ q=>(nomatch q),k1,k10⟩⟩)
 ·rcases bE.mp hb with rfl|hb
  ·exact .inl rfl
  rcases bE.mp hb with rfl|hb
  ·exact .inr (.inl rfl)
  rcases bE.mp hb with rfl|hb
  ·exact .inr (.inr (s1.free dfr))
  ·exact .inr (.inr (f1 b hb))
 ·exact sx _ _ (s1 _ _ hdx) (by rw[bB];exact ne)
 ·refine R1.keep of sx (fun b m=>?_) fun b m xs e=>?_
  ·rw[bB.mp m]
   exact out hx
  ·rw[bB.mp m,s1 _ _ hx] at e
   cases e
 ·rw[z0k (dC nxp),z03]
 ·intro m
  obtain⟨o,e,_⟩:=R1.own of pd m
  rw[dfr] at e
  cases e
 ·rw[z0v,if_neg (by decide +kernel),z0v,if_neg (by decide +kernel),z0v,if_pos rfl]
 ·rw[z0v,if_neg (by decide +kernel),z0v,if_pos rfl]
 ·rw[z0v,if_pos rfl]
 ·intro m hm
  simp only[bE,d6,or_false] at hm
  rcases hm with rfl|rfl|rfl|rfl|rfl|rfl|rfl|rfl|rfl<;>rw[z0v,if_neg (by decide +kernel),z0v,if_neg (by decide +kernel),z0v,if_neg (by decide +kernel)]<;>rfl
theorem y6M{K:PySem.W.Frag}{CB CO:Addr}{H H1:Hp}{p dx po pd t:Addr}{fs:List (Str×V)}{fo fo':List Addr}{us:List V}{zs:List Str}{r k:Int}{rows X3:List Row}{log:List D7}{d:D7}(B:BkIn K CB CO H p dx po pd fs fo us zs r k rows log)
  (sb:z0A fo H H1) (of:OfD K CO H1 po fo' zs r X3) (ff:∀b∈fo',b∈fo\/H b=none) (ht:H1 t=some (.tup (z3w d))) (hl:rows.length≤X3.length) (hd1:1≤d.2/\d.2≤X3.length) (l4:log.length<400) :
  z0A (p::dx::pd::fo) H (upd H1 pd (.lst (us++[.ref t])))/\BkD K CB CO (upd H1 pd (.lst (us++[.ref t]))) p (p::dx::pd::fo') zs r k X3 (log++[d]):=by
 have ntf:z5L H fo:=R1.S3 B.of
 have hd':=sb _ _ B.hd B.ndn
 have out:∀{b:Addr}{o:HO},H b=some o->b∉fo->b∉fo':=fun e n m=>(ff _ m).elim n fun z=>by rw[z] at e;cases e
 have s2:z0A [pd] H1 (upd H1 pd (.lst (us++[.ref t]))):=fun b o e nb=>by
  rw[bB] at nb
  rw[z0k nb]
  exact e
 have nt2:z5L H1 [pd]:=fun b m xs e=>by
  rw[bB.mp m,hd'] at e
  cases e
 have npd:p≠pd:=z5l B.hp B.hd (fun z=>by cases z)
 have ndd:dx≠pd:=z5l B.hdx B.hd (fun z=>by cases z)
 refine⟨fun b o e nb=>?_,dx,po,pd,fs,fo',us++[.ref t],rfl,{ B with
  hp:=by rw[z0k npd];exact sb _ _ B.hp B.npo
  hdx:=by rw[z0k ndd];exact sb _ _ B.hdx B.ndo
  of:=R1.keep of s2 (fun b m=>by rw[bB.mp m];exact out B.hd B.ndn) nt2
  hd:=z03
  ds:=?_
  npo:=out B.hp B.npo
  ndo:=out B.hdx B.ndo
  ndn:=out B.hd B.ndn
  l4:=by rw[bN];exact l4
  in1:=fun x hx=>?_ }⟩
 ·rw[bE,bE,bE,not_or,not_or,not_or] at nb
  rw[z0k nb.2.2.1]
  exact sb _ _ e nb.2.2.2
 ·exact jV (U2.but s2 nt2 (U2.but sb ntf B.ds)) ⟨t,rfl,s2 _ _ ht fun m=>nt2 t m _ ht⟩
 ·rcases bS.mp hx with hx|hx
  ·have:=B.in1 x hx
   lia
  ·rw[bB.mp hx]
   exact hd1
theorem y2O{B1 A6:Addr}(M:Bl mg)(T:L8 K mg B1)(F:Fun K "write" "Book.write" z5Z f fd)(C2:D9 P w K mg base 3 A6 "refuse_writing" z1h (z8b K (OfD K A6)))
  (M8:D9 P w K mg base 4 A6 "write" z3Z (y0I K (OfD K A6))) (B7:D9 P w K mg base 1 B1 "refuse_further_deed" z10 (z8m (BkD K B1 A6))) :
  B4 P w K mg base CX0 5 f fd z5V (y11 K (BkD K B1 A6)):=by
 have nd:=z7y.nd
 refine F.ok z7y (fun vs H Q E h=>?_) (fun cdv A outer s H vs Q E hr h=>?_)
 ·obtain⟨p,v,fp,zs,r,k,rows,log,pr,rfl,_⟩:=h
  rfl
 obtain⟨p,v,fp,zs,r,k,rows,log,pr,rfl,bk,⟨a,vs,rfl,ha,na,hpr⟩,gr,l12,l60,l4,q⟩:=h
 refine⟨_,(z04 (z0D (z1I C2 (rm hr) (z0J (pv 0) rfl) (z00 (pv 1) z02))) (z04 (z0D (z1M B7 (rm hr) (pv 0))) (z04 (z0p (i:=2) nd rfl (Or.inl rfl) (z1I M8 (rm hr) (z0J (pv 0) rfl) (z00 (pv 1) z02))) (z04 (z0D (z2O bW bX bY z0Q (z0J (pv 0) rfl) (z00 (z0T (z00 (z1Y rfl M.WRITE) (z00 (pv 2) z02))) z02))) (z05 (z0i (pv 2))))))),?_⟩
 obtain⟨dx,po,pd,fs,fo,us,rfl,B⟩:=id bk
 have no:∀{b:Addr},b∉p::dx::pd::fo->b∉fo:=fun n m=>n (by simp[m])
 have hand:Paired (y0f K H fo) vs pr:=L2.Paired.U3 hpr fun u x ⟨b,e,q,n⟩=>⟨b,e,q,no n⟩
 obtain⟨dxo,pno,plo,fso,xso,efo,h1,h2,h3,h4,l1,l2,l3,lmo,_⟩:=id B.of
 refine(rdI rfl (ex5 p B1 dx fs _ ⟨rfl,B.hp,T.cl,T.n_office,B.lo,(ex3 po dxo fso ⟨rfl,h1,lmo _ (by simp),(rdI rfl (ex8 po a fo zs r rows vs pr ⟨rfl,B.of,ha,z2N.of hand,gr,l12,l60,fun H1 s1=>?_⟩))⟩)⟩))
 refine(rdI rfl (ex3 p dx fs ⟨rfl,s1 _ _ B.hp,B.lm _ (by simp),(ex7 p _ zs r k rows log ⟨rfl,Z7.same bk s1,l4,?_⟩)⟩))
 have ha1:y42 K H1 fo (.ref a) pr:=⟨a,vs,rfl,SqP.keep s1 ha,no na,L2.Paired.U3 hand fun u x ⟨b,e,q,n⟩=>⟨b,e,q.imp (fun z=>s1.seq z) fun z=>z69 s1 z,n⟩⟩
 refine(rdI rfl (ex5 p B1 dx fs _ ⟨rfl,s1 _ _ B.hp,T.cl,T.n_office,B.lo,(ex3 po dxo fso ⟨rfl,s1 _ _ h1,lmo _ (by simp),(rdI rfl (ex7 po (.ref a) fo zs r rows pr ⟨rfl,R1.same B.of s1,ha1,gr,l12,l60,fun fo' H2 ff sb of2=>?_⟩))⟩)⟩))
 have sb2:z0A fo H H2:=fun b o e n=>sb _ _ (s1 _ _ e) n
 have lu:=z3M B.ds
 refine(rdI rfl (ex5 p B1 dx fs _ ⟨rfl,sb2 _ _ B.hp B.npo,T.cl,T.n_done,B.ld,.inl ⟨rfl,_,SqL.of (sb2 _ _ B.hd B.ndn)⟩,?_⟩))
 refine(rdI rfl ⟨(by show 2≤sizeLine;decide),fun t ht=>(ex3 pd us _ ⟨rfl,rfl,z01 ht _ _ _ (sb2 _ _ B.hd B.ndn),z0f (by lia),?_⟩)⟩)
 have s3:=z01 ht (.tup [V.str "write",V.int ((rows.length:Int)+1)])
 have et:upd H2 t (.tup [V.str "write",V.int ((rows.length:Int)+1)]) t=some (.tup (z3w (none,(rows.length:Int)+1))):=z03
 have sb3:z0A fo H (upd H2 t (.tup [V.str "write",V.int ((rows.length:Int)+1)])):=fun b o e n=>s3 _ _ (sb2 _ _ e n)
 have of3:=R1.same of2 s3
 obtain⟨g1,g2⟩:=y6M B sb3 of3 (fun b m=>(ff b m).imp id fun z=>s1.free z) et (by rw[bN];lia) ⟨by show(1:Int)≤rows.length+1;lia,by show((rows.length:Int)+1)≤_;rw[bN];exact eS _⟩ l4
 refine(rdI rfl (q (p::dx::pd::fo') _ (fun b hb=>?_) g1 g2))
 rcases bE.mp hb with rfl|hb
 ·exact .inl (by simp)
 rcases bE.mp hb with rfl|hb
 ·exact .inl (by simp)
 rcases bE.mp hb with rfl|hb
 ·exact .inl (by simp)
 exact(ff b hb).imp (fun z=>by simp[z]) fun z=>s1.free z
theorem y3M(d:D7)(rd n:Int):z38 (z3w d) (z3w (some rd,n))=decide (d=(some rd,n)):=by
 obtain⟨a,m⟩:=d
 cases a with
 | none=>
  rw[decide_eq_false (fun e=>by cases e)]
  rfl
 | some r=>
  show(eqV (.str "deliver") (.str "deliver") && (eqV (.int r) (.int rd) && (eqV (.int m) (.int n) && true)))=_
  rw[y0d rfl,fZ,Bool.and_true,d8,cG,decide_eq_true_eq]
  show(r == rd)=true/\(m == n)=true↔_
  rw[beq_iff_eq,beq_iff_eq]
  exact⟨fun h=>by rw[h.1,h.2],fun h=>by cases h;exact⟨rfl,rfl⟩⟩
theorem y68(log:List D7)(rd n:Int):(!(log.map z3w).any fun ys=>z38 ys (z3w (some rd,n)))=decide (((some rd,n):D7)∉log):=by
 rw[hZ,d8,k7,decide_eq_true_eq,jZ]
 refine⟨fun h m=>h _ m ?_,fun h d hd e=>h ?_⟩
 ·show z38 _ _=true
  rw[y3M]
  exact decide_eq_true rfl
 ·have e':z38 (z3w d) (z3w (some rd,n))=true:=e
  rw[y3M] at e'
  rw[<- of_decide_eq_true e']
  exact hd
theorem y0N(d:D7):(z3w d).all z2i=true:=by
 obtain⟨a,m⟩:=d
 cases a<;>rfl
theorem y0k{B1 A6:Addr}(M:Bl mg)(T:L8 K mg B1)(F:Fun K "deliver" "Book.deliver" z4f f fd)(C7:D9 P w K mg base 1 A6 "issue" z2o (z6m (OfD K A6)))
  (B5:D9 P w K mg base 1 B1 "refuse_unknown_reader" z0V (z63 (BkD K B1 A6))) (B7:D9 P w K mg base 1 B1 "refuse_further_deed" z10 (z8m (BkD K B1 A6))) :
  B4 P w K mg base CX0 5 f fd z4g (z84 (BkD K B1 A6)):=by
 have nd:=z5A.nd
 refine F.ok z5A (fun vs H Q E h=>?_) (fun cdv A outer s H vs Q E hr h=>?_)
 ·obtain⟨p,fp,zs,r,k,rows,log,rd,n,rfl,_⟩:=h
  rfl
 obtain⟨p,fp,zs,r,k,rows,log,rd,n,rfl,bk,r1,r2,n1,n2,l4,q⟩:=h
 have hu:=y12 hr
 refine⟨_,(z04 (z0D (z1I C7 (rm hr) (z0J (pv 0) rfl) (z00 (pv 2) z02))) (z04 (z0D (z1I B5 (rm hr) (pv 0) (z00 (pv 1) z02))) (z04 (z0D (z1M B7 (rm hr) (pv 0))) (z04 (z0p (i:=3) nd rfl (Or.inl rfl) (z0T (z00 (z1Y rfl M.DELIVER) (z00 (pv 1) (z00 (pv 2) z02))))) (z04 (z0p (i:=4) nd rfl (Or.inl rfl) (z8f (y3u hu) (pv 3) (z0J (pv 0) rfl) (by with_unfolding_all rfl))) (z04 (z0D (z2O bW bX bY z0Q (z0J (pv 0) rfl) (z00 (pv 3) z02))) (z05 (z0i (pv 4))))))))),?_⟩
 obtain⟨dx,po,pd,fs,fo,us,rfl,B⟩:=id bk
 obtain⟨dxo,pno,plo,fso,xso,efo,h1,h2,h3,h4,l1,l2,l3,lmo,_⟩:=id B.of
 refine(rdI rfl (ex5 p B1 dx fs _ ⟨rfl,B.hp,T.cl,T.n_office,B.lo,(ex3 po dxo fso ⟨rfl,h1,lmo _ (by simp),(rdI rfl (ex6 po fo zs r rows n ⟨rfl,B.of,n1,n2,fun v H1 s1 _=>?_⟩))⟩)⟩))
 have bk1:=Z7.same bk s1
 refine(rdI rfl (ex3 p dx fs ⟨rfl,s1 _ _ B.hp,B.lm _ (by simp),(rdI rfl (ex8 p _ zs r k rows log rd ⟨rfl,bk1,r1,r2,?_⟩))⟩))
 refine(rdI rfl (ex3 p dx fs ⟨rfl,s1 _ _ B.hp,B.lm _ (by simp),(ex7 p _ zs r k rows log ⟨rfl,bk1,l4,?_⟩)⟩))
 refine(rdI rfl (rdI rfl ⟨(by show 3≤sizeLine;decide),fun t ht=>?_⟩))
 have s2:=s1.trans (z01 ht (.tup [V.str "deliver",V.int rd,V.int n]))
 have et:upd H1 t (.tup [V.str "deliver",V.int rd,V.int n]) t=some (.tup (z3w (some rd,n))):=z03
 generalize upd H1 t (.tup [V.str "deliver",V.int rd,V.int n])=H2 at s2 et
 have lu:=z3M B.ds
 have prs:Paired (fun u ys=>∃b,u=.ref b/\SqT K H2 b ys/\ys.all z2i=true) us (log.map z3w):=by
  have go:∀{us:List V}{log:List D7},Paired (z5u H) us log->Paired (fun u ys=>∃b,u=.ref b/\SqT K H2 b ys/\ys.all z2i=true) us (log.map z3w):=by
   intro us log h
   induction h with
   | nil=>exact .nil
   | cons h t ih=>
    obtain⟨b,e,q⟩:=h
    exact .cons ⟨b,e,SqT.of (s2 _ _ q),y0N _⟩ ih
  exact go B.ds
 refine(rdI rfl (rdI rfl (ex5 p B1 dx fs _ ⟨rfl,s2 _ _ B.hp,T.cl,T.n_done,B.ld,(ex5 t pd _ us _ ⟨rfl,rfl,SqT.of et,y0N _,SqL.of (s2 _ _ B.hd),prs,?_⟩)⟩)))
 rw[y68]
 refine(rdI rfl (ex5 p B1 dx fs _ ⟨rfl,s2 _ _ B.hp,T.cl,T.n_done,B.ld,.inl ⟨rfl,_,SqL.of (s2 _ _ B.hd)⟩,(rdI rfl (ex3 pd us _ ⟨rfl,rfl,s2 _ _ B.hd,z0f (by lia),?_⟩))⟩))
 obtain⟨g1,g2⟩:=y6M B (.of s2) (R1.same B.of s2) (fun b m=>.inl m) et (bI _) ⟨n1,n2⟩ l4
 exact(rdI rfl (q _ g1 g2))
theorem y6Q{xs:List V}{k:Nat}(h:k≤xs.length):N7 xs none (some (k:Int))=xs.take k:=by
 unfold N7
 have e1:HT.sIx xs.length 0 none=0:=rfl
 have e2:HT.sIx xs.length xs.length (some (k:Int))=k:=by
  rw[HT.z9O,gY h]
 rw[e1,e2,fM,hV]
theorem y5Y{H:Hp}:∀{us:List V}{log:List D7},Paired (z5u H) us log->∀(c i:Nat) (u:V),(us.take c)[i]? = some u->∃d,(log.take c)[i]? = some d/\z5u H u d:=by
 intro us log h
 induction h with
 | nil=>intro c i u e;rw[List.take_nil] at e;simp at e
 | cons h t ih=>
  intro c i u e
  cases c with
  | zero=>simp at e
  | succ c=>
   rw[List.take_succ_cons] at e ⊢
   cases i with
   | zero=>
    simp at e
    subst e
    exact(rdI rfl h)
   | succ i=>
    obtain⟨d,q1,q2⟩:=ih c i u (by simpa using e)
    exact⟨d,by simpa using q1,q2⟩
theorem y6f(d:D7)(rd:Int):z38 ((z3w d).take 2) [.str "deliver",.int rd]=decide (d.1=some rd):=by
 obtain⟨a,m⟩:=d
 cases a with
 | none=>
  rw[decide_eq_false (fun e=>by cases e)]
  rfl
 | some r=>
  show(eqV (.str "deliver") (.str "deliver") && (eqV (.int r) (.int rd) && true))=_
  rw[y0d rfl,fZ,Bool.and_true,d8,decide_eq_true_eq]
  show(r == rd)=true↔_
  rw[beq_iff_eq]
  exact⟨fun h=>by rw[h],fun h=>Option.some.inj h⟩
theorem z9i{B1 A6 A0 T0:Addr}{items:Array Value}(M:Bl mg)(T:L8 K mg B1)(TO:L6 K mg A6)(F:T5 K "shelf" "Book.shelf" z5Y f fd T0 items)(C7:D9 P w K mg base 1 A6 "issue" z2o (z6m (OfD K A6)))
  (B5:D9 P w K mg base 1 B1 "refuse_unknown_reader" z0V (z63 (BkD K B1 A6))) (U0:Mkr P w K mg base 3 A0 "Shelf" z34 (y2y K A0 (ShD K A0)))
  (N1:D9 P w K mg base 1 A0 "put" z75 (y8i (ShD K A0))):B4 P w K mg base CX0 6 f fd z3g (z6f (BkD K B1 A6) (ShD K A0)):=by
 have nd:=z7q.nd
 refine F.ok z7q (fun vs H Q E h=>?_) (fun cdv A outer s H vs Q E hr h=>?_)
 ·obtain⟨p,fp,zs,r,k,rows,log,rd,o,rfl,_⟩:=h
  rfl
 obtain⟨p,fp,zs,r,k,rows,log,rd,o,rfl,bk,r1,r2,od,q⟩:=h
 refine⟨_,(z04 (z0p (i:=3) nd rfl (Or.inl rfl) (z56 (z7u (z8W (pv 2))) (z0b z09 rfl M.len bO (z00 (z0J (pv 0) rfl) z02)) (pv 2))) (z04 (z0E (PW.pt (z37 (z0c z9a (pv 3) z06 (z0o _)) (z25 (z0c z2p (pv 3) (z0b z09 rfl M.len bO (z00 (z0J (pv 0) rfl) z02)) (z0o _))))) (z05 z1N) z0l) (z04 (z0D (z1I B5 (rm hr) (pv 0) (z00 (pv 1) z02))) (z04 (z0p (i:=4) nd rfl (Or.inl rfl) (y4o U0 (rm hr) rfl (z00 (z0J (z0J (pv 0) rfl) rfl) (z00 (z0J (z0J (pv 0) rfl) rfl) z02)))) (z04 (z0O bR rfl (z16 (z3n y3N (z0J (pv 0) rfl) z4G (z4M (pv 3)))) (z0j (i:=5) nd rfl (Or.inl rfl)) (z05 (z0E (z0c (y5q hr.P8) (z3n y3E (pv 5) z4G (z4M z06)) (z0T (z00 (z1Y rfl M.DELIVER) (z00 (pv 1) z02))) (z0o _)) (z05 (z0D (z1I N1 (rm hr) (pv 4) (z00 (z1I C7 (rm hr) (z0J (pv 0) rfl) (z00 (z0B z0C (pv 5) z06 (fun _ _=>rfl)) z02)) z02)))) z0l))) (z05 (z0i (pv 4)))))))),?_⟩
 obtain⟨dx,po,pd,fs,fo,us,rfl,B⟩:=id bk
 obtain⟨dxo,pno,plo,fso,xso,efo,h1,h2,h3,h4,l1,l2,l3,lmo,_,_,_,g,r0,r10⟩:=id B.of
 have lu:=z3M B.ds
 have cle:o.getD log.length≤log.length:=by
  cases o with
  | none=>exact bI _
  | some d=>exact od d rfl
 have beh:∀(Qk:VK),Qk (.int (o.getD log.length:Nat)) H->tIf (tB (w0f (V8 2))) (tCB (fun xs H_1 Q=>∃p ys,xs=[V.ref p]/\(SqL K H_1 p ys\/SqT K H_1 p ys)/\Q (V.int ys.length) H_1) (y5T (w01 K (V8 0) "done") X8)) (V8 2) (z6F ["self","reader","deed","behind","told","past"] [.ref p,.int rd,w0p o]) H Qk:=fun Qk hq=>by
  cases o with
  | none=>
   refine(rdI rfl (rdI rfl (F6 (rdI rfl (ex5 p B1 dx fs _ ⟨rfl,B.hp,T.cl,T.n_done,B.ld,(ex2 pd us ⟨rfl,.inl (SqL.of B.hd),?_⟩)⟩)))))
   rw[lu]
   exact hq
  | some d=>exact⟨_,rfl,_,rfl,B8 ⟨_,rfl,hq⟩⟩
 refine beh _ ?_
 generalize o.getD log.length=c at cle q
 clear beh
 refine(rdI rfl (ex2 _ _ ⟨rfl,rfl,(rdI rfl (B9 (fun q=>absurd (z0I q) (by lia)) fun _=>(rdI rfl (rdI rfl (ex5 p B1 dx fs _ ⟨rfl,B.hp,T.cl,T.n_done,B.ld,(ex2 pd us ⟨rfl,.inl (SqL.of B.hd),(ex2 _ _ ⟨rfl,rfl,(rdI rfl (B9 (fun q=>absurd (z0I q) (by lia)) fun _=>?_))⟩)⟩)⟩)))))⟩))
 refine(rdI rfl (ex3 p dx fs ⟨rfl,B.hp,B.lm _ (by simp),(rdI rfl (ex8 p _ zs r k rows log rd ⟨rfl,bk,r1,r2,?_⟩))⟩))
 refine(rdI rfl (ex5 p B1 dx fs _ ⟨rfl,B.hp,T.cl,T.n_office,B.lo,(ex5 po A6 dxo fso _ ⟨rfl,h1,TO.cl,TO.n_names,l1,(rdI rfl (ex5 p B1 dx fs _ ⟨rfl,B.hp,T.cl,T.n_office,B.lo,(ex5 po A6 dxo fso _ ⟨rfl,h1,TO.cl,TO.n_reach,l2,fun x dxs nx ndx ne=>?_⟩)⟩))⟩)⟩))
 have m1:=z8D (C:=A0) (B0.refl H) nx ndx
 refine(ex5 x dxs pno zs r ⟨rfl,z03,ne,by rw[z0k ne,z03],.inr (m1 _ _ h3),g,r0,r10,fun fq H1 ff sb sh=>⟨rfl,?_⟩⟩)
 have s1:B0 H H1:=z8j sb m1 nx
 have f1:∀b∈fq,H b=none:=fun b hb=>z6P m1 nx ndx (ff b hb)
 have sh1:ShD K A0 H1 x fq zs r (fun n=>z0N rows n r) []:=sh _
 refine(rdI rfl (ex5 p B1 dx fs _ ⟨rfl,s1 _ _ B.hp,T.cl,T.n_done,B.ld,(rdI rfl (rdI rfl (ex2 pd _ ⟨rfl,SqL.of (s1 _ _ B.hd),fun lq hlq=>?_⟩)))⟩))
 rw[y6Q (by lia)]
 have s2:=s1.trans (z01 hlq (.lst (us.take c)))
 have e2:upd H1 lq (.lst (us.take c)) lq=some (.lst (us.take c)):=z03
 have sh2:=F1.same sh1 (z01 hlq (.lst (us.take c)))
 have f2:lq∉fq:=fun m=>by
  obtain⟨o,e,_⟩:=F1.own sh1 lq m
  rw[hlq] at e
  cases e
 generalize upd H1 lq (.lst (us.take c))=H2 at s2 e2 sh2
 have nt2:z5L H2 fq:=F1.S3 sh2
 have out:∀{b:Addr}{o:HO},H b=some o->b∉fq:=fun e m=>by rw[f1 _ m] at e;cases e
 have lt:(us.take c).length=c:=by rw[bG];lia
 refine⟨lq,rfl,⟨_,SqL.of e2⟩,z1g (K:=K) (a:=lq) (xs:=us.take c) (fun i σ H'=>∃(fq':List Addr) (o5:Option V),z0A fq H2 H'/\ShD K A0 H' x fq' zs r (fun n=>z0N rows n r) (Q3 ((log.take c).take i) rd)/\(∀b∈fq',b∈fq\/H2 b=none)/\
   σ=[some (.ref p),some (.int rd),some (w0p o),some (.int c),some (.ref x),o5]) ⟨fq,none,.of (B0.refl _),sh2,fun b m=>.inl m,rfl⟩ (fun i σ H' _ ⟨_,_,bt,_⟩=>SqL.of (bt _ _ e2 f2)) ?_ ?_⟩
 ·rintro i u σ H' hi ⟨fq',o5,bt,shx,ffx,rfl⟩
  obtain⟨d,ed,b,rfl,hb⟩:=y5Y B.ds c i u hi
  have sk:∀{b:Addr}{o:HO},H b=some o->H' b=some o:=fun e=>bt _ _ (s2 _ _ e) (out e)
  have hin:=B.in1 d (jQ (bP ed))
  have l2d:2≤(z3w d).length:=by
   obtain⟨a,m⟩:=d
   cases a
   ·show 2≤2;decide
   ·show 2≤3;decide
  have cut:∀(Qk:VK),(∀(t1:Addr) (G:Hp),B0 H' G->G t1=some (.tup ((z3w d).take 2))->Qk (.ref t1) G)->rSlA K (.ref b) none (some 2) H' Qk:=fun Qk hq=>by
   refine(ex2 b _ ⟨rfl,SqT.of (sk hb),fun hw=>hq b H' (B0.refl _) ?_,fun _ t1 ht1=>hq t1 _ (z01 ht1 _) ?_⟩)
   ·rw[sk hb,cO]
    have:=hw.2
    have e:HT.sIx (z3w d).length (z3w d).length (some (2:Int))=min 2 (z3w d).length:=HT.z9O _ _ 2
    lia
   ·rw[z03]
    exact congrArg (fun z=>some (HO.tup z)) (y6Q (k:=2) l2d)
  refine(rdI rfl (rdI rfl (cut _ fun t1 G sG e1'=>(rdI rfl ⟨(by show 2≤sizeLine;decide),fun t2 ht2=>?_⟩))))
  have s3:=sG.trans (z01 ht2 (.tup [V.str "deliver",V.int rd]))
  have e3:upd G t2 (.tup [V.str "deliver",V.int rd]) t1=some (.tup ((z3w d).take 2)):=z01 ht2 _ _ _ e1'
  have e4:upd G t2 (.tup [V.str "deliver",V.int rd]) t2=some (.tup [V.str "deliver",V.int rd]):=z03
  generalize upd G t2 (.tup [V.str "deliver",V.int rd])=H3 at s3 e3 e4
  have fl:((z3w d).take 2).all z2i=true:=by
   obtain⟨a,m⟩:=d
   cases a<;>rfl
  refine(ex4 t1 t2 _ _ ⟨rfl,rfl,SqT.of e3,SqT.of e4,fl,rfl,(rdI rfl ?_)⟩)
  rw[y6f,z0n ed,y57]
  have sh3:=F1.same shx s3
  refine B9 (fun cc=>?_) (fun cc=>?_)
  ·have c':=z0I cc
   rw[if_pos c']
   obtain⟨a,n⟩:=d
   have ea:a=some rd:=c'
   subst ea
   obtain⟨d1,g1,z1,w1⟩:=F1.ins sh3
   refine(rdI rfl (ex3 x d1 g1 ⟨rfl,z1,w1 _ (by simp),(rdI rfl (ex5 p B1 dx fs _ ⟨rfl,s3 _ _ (sk B.hp),T.cl,T.n_office,B.lo,(ex3 po dxo fso ⟨rfl,s3 _ _ (sk h1),lmo _ (by simp),(rdI rfl (ex4 b _ 2 _ ⟨rfl,rfl,SqT.of (s3 _ _ (sk hb)),rfl,(ex6 po fo zs r rows n ⟨rfl,?_,hin.1,hin.2,fun v H4 s4 tv=>?_⟩)⟩))⟩)⟩))⟩))
   ·exact R1.same (R1.keep (R1.same B.of s2) bt (fun b m z=>by
     obtain⟨o,e,_⟩:=R1.own B.of b z
     exact out e m) nt2) s3
   have n60:rows.length≤60:=by
    obtain⟨_,_,_,_,_,_,_,_,_,_,_,_,_,_,_,n60,_⟩:=B.of
    exact n60
   refine(ex9 x v fq' zs r _ _ n _ ⟨rfl,F1.same sh3 s4,tv,rfl,hin.1,by have:=hin.2;have:n≤rows.length:=this;lia,fun fq2 H5 ff5 sb5 sh5=>?_⟩)
   have g4:=s3.trans s4
   exact⟨fq2,_,(fun b o e nb=>sb5 b o (g4 _ _ (bt b o e nb)) fun m=>(ffx b m).elim nb fun z=>by rw[e] at z;cases z),sh5,y7J bt ffx g4 ff5,rfl⟩
  ·have c':=z4q cc
   rw[if_neg c']
   exact⟨fq',_,fun b o e nb=>s3 _ _ (bt b o e nb),sh3,ffx,rfl⟩
 ·rintro σ H' ⟨fq',o5,bt,shx,ffx,rfl⟩
  rw[lt,List.take_take,Nat.min_self] at shx
  exact(rdI rfl (q x fq' H' (fun b m=>(ffx b m).elim (f1 b) fun z=>s2.free z) (fun b o e=>bt _ _ (s2 _ _ e) (out e)) shx))
noncomputable def HT(H:Hp)(u:V)(p:Str×Int):Prop:=∃b,u=.ref b/\H b=some (.tup [.str p.1,.int p.2])
theorem HT.keep{H H':Hp}(g:B0 H H'):∀{us:List V}{pr:Row},Paired (HT H) us pr->Paired (HT H') us pr
 | _,_,.nil=>.nil
 | _,_,.cons ⟨b,e,h⟩ t=>.cons ⟨b,e,g _ _ h⟩ (HT.keep g t)
theorem HT.hand{K:PySem.W.Frag}{H:Hp}{fp:List Addr}(no:z5L H fp):∀{us:List V}{pr:Row},Paired (HT H) us pr->Paired (y0f K H fp) us pr
 | _,_,.nil=>.nil
 | _,_,.cons ⟨b,e,h⟩ t=>.cons ⟨b,e,.inr (SqT.of h),fun m=>no b m _ h⟩ (HT.hand no t)
noncomputable def K5(n:Nat):List D7:=(upI 1 n).map fun k=>(none,k)
noncomputable def N8(hs:List Int):List D7:=hs.map fun n=>(some 1,n)
theorem y5t(i:Nat):K5 (i+1)=K5 i++[(none,(i:Int)+1)]:=by
 unfold K5
 rw[z5f,bF,Int.add_comm]
 rfl
theorem z7R(i:Nat):(K5 i).length=i:=by
 unfold K5
 rw[b9,z0L]
theorem y0E(hs:List Int)(n:Int):N8 (hs++[n])=N8 hs++[(some 1,n)]:=by
 unfold N8
 rw[bF]
 rfl
theorem y88{m:Nat}{hs:List Int}{n:Int}:((some 1,n):D7)∈K5 m++N8 hs↔n∈hs:=by
 rw[bS]
 unfold K5 N8
 rw[cM,cM]
 constructor
 ·rintro(⟨k,_,e⟩|⟨k,hk,e⟩)
  ·cases e
  ·cases e
   exact hk
 ·exact fun h=>.inr ⟨n,h,rfl⟩
theorem y8c{m:Nat}{hs:List Int}(n:Int):n∈Q3 (K5 m++N8 hs) 1↔n∈hs:=by rw[y22,y88]
theorem y0G{ns ms:List Int}(h:∀x,x∈ns↔x∈ms)(C0:∀x∈ms,1≤x/\x≤60)(x:Int):x∈z0a ns↔x∈ms:=by
 rw[z0Z,h]
 exact⟨fun q=>q.2,fun q=>⟨by have:=C0 x q;lia,q⟩⟩
theorem y2l{H:Hp}:∀{w:Row}{xs:List V},z08 H (w.map z9X) xs->Paired (HT H) xs w
 | [],xs,h=>by
  rw[z0G h]
  exact .nil
 | p::w,xs,h=>by
  obtain⟨x,r,rfl,t,h'⟩:=z0g h
  obtain⟨a,us,rfl,ea,_,tu⟩:=z0d (show B2 H (.tup [.str p.1,.int p.2]) x from t)
  obtain⟨y1,r1,rfl,t1,h3⟩:=z0g tu
  obtain⟨y2,r2,rfl,t2,h4⟩:=z0g h3
  have:=z0G h4
  subst this
  rw[z3r t1,z1o t2] at ea
  exact .cons ⟨a,rfl,ea⟩ (y2l h')
noncomputable def y6C(Sh:ShP):Sp:=fun vs H Q _=>∃(x:Addr) (fp:List Addr) (nm:List Str) (r:Int) (rows:List Row) (had:List Int),vs=[.ref x]/\Sh H x fp nm r (fun n=>z0N rows n r) had/\E2 nm/\Rws nm rows/\rows.length≤60/\(∀n∈had,1≤n/\n≤rows.length)/\0≤r/\r≤10/\
 ∀(v:V) (H':Hp),B0 H H'->B2 H' (z7F nm (z0a had) rows r) v->Q v H'
theorem y2Z(nm:List Str)(ns:List Int)(rows:List Row)(r:Int):(z7F nm ns rows r).deep≤2:=z19 fun d hd=>by
 obtain⟨z,_,rfl⟩:=cM.mp hd
 unfold X7
 refine z19 fun d hd=>?_
 rcases bE.mp hd with rfl|hd
 ·exact z7S _ _
 rcases bE.mp hd with rfl|hd
 ·exact z7S _ _
 rcases bE.mp hd with rfl|hd
 ·exact z1J _ _
 rw[bB.mp hd]
 cases z0S (z0a ns) rows z with
 | none=>unfold y6y DV.deep;exact cZ _
 | some p=>exact z1J _ _
noncomputable def z7W(Sh:ShP):Sp:=fun vs H Q _=>∃(x:Addr) (fp:List Addr) (nm:List Str) (r:Int) (rows:List Row) (had:List Int),vs=[.ref x]/\Sh H x fp nm r (fun n=>z0N rows n r) had/\E2 nm/\Rws nm rows/\rows.length≤60/\(∀n∈had,1≤n/\n≤rows.length)/\0≤r/\r≤10/\
 ∀(v:V) (H':Hp),B0 H H'->B2 H' (.tup (z3i (z0a had) rows r)) v->Q v H'
noncomputable def y6G(K:PySem.W.Frag):Sp:=fun vs H Q _=>∃(p:Addr) (ns:List Int),vs=[.ref p]/\SqI K H p ns/\(∀x∈ns,1≤x/\x≤60)/\
 ∀(l:Addr) (H':Hp),H l=none->B0 H H'->H' l=some (.tup ((z1i ns).map V.int))->Q (.ref l) H'
theorem y80(M:Bl mg)(F:Fun K "lacking_numbers" "lacking_numbers" z2R f fd):B4 P w K mg base CX0 1 f fd z2P (y6G K):=by
 have nd:=z3R.nd
 refine F.ok z3R (fun vs H Q E h=>?_) (fun cdv A outer s H vs Q E hr h=>?_)
 ·obtain⟨p,ns,rfl,_⟩:=h
  rfl
 obtain⟨p,ns,rfl,hS,C0,q⟩:=h
 refine⟨_,(z04 (z0p (i:=1) nd rfl (Or.inl rfl) (y50 rfl rfl M.max (z00 (pv 0) z02) (z9Q z06 y20))) (z05 (z0i (z0s z0m rfl M.tuple bH (z00 (z15 ["number"] ["had"] [0] rfl (z0w rfl (by decide +kernel) rfl (by decide +kernel) rfl rfl) (z3P rfl M.range (z00 z06 (z00 (z0u z1u (pv 1) z06) z02))) (fun _ _ _ _ _=>(z0j (i:=0) (show((["number"]:List PySem.Str)++(["had"]:List PySem.Str)).Nodup from by decide +kernel) rfl (Or.inl rfl))) (z0y (by decide)) z0h (fun _ _ _ _ _=>(z2f (z0c (r:=rIn K true) z1x (pv 0) (pv 1) (by with_unfolding_all rfl)))) (fun _ _ _ _ _=>(pv 0))) z02))))),?_⟩
 refine(rdI rfl ⟨p,ns,.int 0,rfl,rfl,hS,fun hnil=>?_,fun m hm top=>?_⟩)
 ·subst hnil
  refine(rdI rfl (ex2 _ _ ⟨rfl,rfl,(ex2 _ _ ⟨rfl,⟨by decide,by decide,by decide,by decide⟩,?_⟩)⟩))
  refine z8B (lo:=1) (n:=0) (fun _=>true) (fun k=>.int k) (by decide) (fun k ys N k0 k1 hN=>by lia) ?_
  intro D hD
  refine(ex2 D _ ⟨rfl,.inl ⟨SqL.of z03,fun l hl=>?_⟩⟩)
  have h1:H l=none:=(z01 hD _).free hl
  refine q l _ h1 ((z01 hD _).trans (z01 hl _)) ?_
  rw[z03,y19]
  rfl
 ·have hm':=C0 m hm
  refine(rdI rfl (ex2 _ _ ⟨rfl,rfl,(ex2 _ _ ⟨rfl,⟨by decide,by decide,by lia,by lia⟩,?_⟩)⟩))
  refine z8B (lo:=1) (n:=(m+1-1).toNat) (fun k=>!decide (k∈ns)) (fun k=>.int k) (by lia) (fun k ys N k0 k1 hN=>?_) ?_
  ·refine(rdI rfl (rdI rfl (ex2 p _ ⟨rfl,hS,rfl,z2c ns,(rdI rfl ?_)⟩)))
   rw[if_pos rfl,z2A]
   refine B9 (fun c=>?_) (fun c=>?_)
   ·rw[if_pos c] at hN
    exact(rdI rfl hN)
   ·rw[if_neg c] at hN
    exact hN
  ·intro D hD
   refine(ex2 D _ ⟨rfl,.inl ⟨SqL.of z03,fun l hl=>?_⟩⟩)
   have h1:H l=none:=(z01 hD _).free hl
   refine q l _ h1 ((z01 hD _).trans (z01 hl _)) ?_
   rw[z03]
   have e:z2a (fun k=>!decide (k∈ns)) (fun k=>V.int k) (upI 1 (m+1-1).toNat)=(z1i ns).map V.int:=by
    unfold z2a
    rw[y43 hm C0 top]
   rw[e]
noncomputable def y29(K:PySem.W.Frag):Sp:=fun vs H Q _=>∃(p:Addr) (ns:List Int) (n r:Int),vs=[.ref p,.int n,.int r]/\SqI K H p ns/\(∀x∈ns,1≤x/\x≤60)/\ns.length≤900/\
 ∀H',B0 H H'->Q (.int (z0F ns n r)) H'
theorem y4S(M:Bl mg)(F:Fun K "teller_of" "teller_of" z77 f fd):B4 P w K mg base CX0 1 f fd z6K (y29 K):=by
 have nd:=z8k.nd
 refine F.ok z8k (fun vs H Q E h=>?_) (fun cdv A outer s H vs Q E hr h=>?_)
 ·obtain⟨p,ns,n,r,rfl,_⟩:=h
  rfl
 obtain⟨p,ns,n,r,rfl,hS,C0,hlen,q⟩:=h
 have fin:∀D,H D=none->(z2a (fun y=>decide (n<y) && decide (y-r≤n)) (fun y=>V.int y) ns=(ns.filter fun y=>decide (n<y) && decide (y-r≤n)).map V.int):=fun _ _=>rfl
 have w09:(ns.filter fun y=>decide (n<y) && decide (y-r≤n))=[]->z0F ns n r=0:=fun e=>z5c fun y hy h1 h2=>by
  have:y∈ns.filter fun y=>decide (n<y) && decide (y-r≤n):=cK.mpr ⟨hy,by rw[decide_eq_true h1,decide_eq_true h2];rfl⟩
  rw[e] at this
  cases this
 have w0a:∀m,m∈(ns.filter fun y=>decide (n<y) && decide (y-r≤n))->(∀y∈(ns.filter fun y=>decide (n<y) && decide (y-r≤n)),m≤y)->z0F ns n r=m:=fun m hm hl=>by
  rw[cK,cG,decide_eq_true_eq,decide_eq_true_eq] at hm
  exact y27 C0 hm.1 hm.2.1 hm.2.2 fun y hy h1 h2=>hl y (cK.mpr ⟨hy,by rw[decide_eq_true h1,decide_eq_true h2];rfl⟩)
 rcases hS with hS|hS
 ·refine⟨_,(z04 (z5C (i:=3) ["above"] ["number","reach"] [1,2] rfl nd rfl (Or.inl rfl) (z0w rfl (by decide +kernel) rfl (by decide +kernel) rfl rfl) (z16 (pv 0)) (fun _ _ _ _ _=>(z0j (i:=0) (show((["above"]:List PySem.Str)++(["number","reach"]:List PySem.Str)).Nodup from by decide +kernel) rfl (Or.inl rfl))) (z0y (by decide)) z0h (fun _ _ _ _ _=>(z2f (PW.pt (z3l (z0c z2p (pv 0) (pv 1) (z0o _)) (z2k (z0c y1E (z0u z23 (pv 0) (pv 2)) (pv 1) (z0o _))))))) (fun _ _ _ _ _=>(pv 0))) (z05 (z0i (y3L rfl rfl M.min (z00 (pv 3) z02) (z9Q z06 y20))))),?_⟩
  refine(rdI rfl ⟨p,rfl,⟨_,hS⟩,?_⟩)
  refine z8o (ns:=ns) (fun y=>decide (n<y) && decide (y-r≤n)) (fun y=>.int y) hS (by lia) (fun y ys N hy hN=>?_) (fun D hD=>?_)
  ·refine(rdI rfl (rdI rfl (ex2 _ _ ⟨rfl,rfl,(rdI rfl ?_)⟩)))
   refine B9 (fun c=>?_) (fun c=>?_)
   ·refine(rdI rfl (rdI rfl (ex2 _ _ ⟨rfl,rfl,(rdI rfl (ex2 _ _ ⟨rfl,rfl,(rdI rfl ?_)⟩))⟩)))
    rw[c,fZ] at hN
    refine B9 (fun c2=>?_) (fun c2=>?_)
    ·rw[if_pos c2] at hN
     exact(rdI rfl hN)
    ·rw[if_neg c2] at hN
     exact hN
   ·rw[fI.mpr c,gK] at hN
    exact B8 hN
  ·refine(rdI rfl ⟨D,_,.int 0,rfl,rfl,.inl (SqL.of z03),fun e=>?_,fun m hm hl=>?_⟩)
   ·have:=q _ (z01 hD (.lst (z2a (fun y=>decide (n<y) && decide (y-r≤n)) (fun y=>V.int y) ns)))
    rw[w09 e] at this
    exact this
   ·have:=q _ (z01 hD (.lst (z2a (fun y=>decide (n<y) && decide (y-r≤n)) (fun y=>V.int y) ns)))
    rw[w0a m hm hl] at this
    exact this
 ·refine⟨_,(z04 (z5C (i:=3) ["above"] ["number","reach"] [1,2] rfl nd rfl (Or.inl rfl) (z0w rfl (by decide +kernel) rfl (by decide +kernel) rfl rfl) (z1L (pv 0)) (fun _ _ _ _ _=>(z0j (i:=0) (show((["above"]:List PySem.Str)++(["number","reach"]:List PySem.Str)).Nodup from by decide +kernel) rfl (Or.inl rfl))) (z0y (by decide)) z0h (fun _ _ _ _ _=>(z2f (PW.pt (z3l (z0c z2p (pv 0) (pv 1) (z0o _)) (z2k (z0c y1E (z0u z23 (pv 0) (pv 2)) (pv 1) (z0o _))))))) (fun _ _ _ _ _=>(pv 0))) (z05 (z0i (y3L rfl rfl M.min (z00 (pv 3) z02) (z9Q z06 y20))))),?_⟩
  refine(rdI rfl ⟨p,rfl,⟨_,hS⟩,?_⟩)
  refine z6W (ns:=ns) (fun y=>decide (n<y) && decide (y-r≤n)) (fun y=>.int y) hS (by lia) (fun y ys N hy hN=>?_) (fun D hD=>?_)
  ·refine(rdI rfl (rdI rfl (ex2 _ _ ⟨rfl,rfl,(rdI rfl ?_)⟩)))
   refine B9 (fun c=>?_) (fun c=>?_)
   ·refine(rdI rfl (rdI rfl (ex2 _ _ ⟨rfl,rfl,(rdI rfl (ex2 _ _ ⟨rfl,rfl,(rdI rfl ?_)⟩))⟩)))
    rw[c,fZ] at hN
    refine B9 (fun c2=>?_) (fun c2=>?_)
    ·rw[if_pos c2] at hN
     exact(rdI rfl hN)
    ·rw[if_neg c2] at hN
     exact hN
   ·rw[fI.mpr c,gK] at hN
    exact B8 hN
  ·refine(rdI rfl ⟨D,_,.int 0,rfl,rfl,.inl (SqL.of z03),fun e=>?_,fun m hm hl=>?_⟩)
   ·have:=q _ (z01 hD (.lst (z2a (fun y=>decide (n<y) && decide (y-r≤n)) (fun y=>V.int y) ns)))
    rw[w09 e] at this
    exact this
   ·have:=q _ (z01 hD (.lst (z2a (fun y=>decide (n<y) && decide (y-r≤n)) (fun y=>V.int y) ns)))
    rw[w0a m hm hl] at this
    exact this
def Pr(H:Hp)(u:V)(p:Int×Int):Prop:=∃a,u=.ref a/\H a=some (.tup [.int p.1,.int p.2])
theorem Pr.keep{H H':Hp}(s:B0 H H'){u:V}{p:Int×Int}(h:Pr H u p):Pr H' u p:=let ⟨a,e,q⟩:=h;⟨a,e,s _ _ q⟩
abbrev Prs(H:Hp):List V->List (Int×Int)->Prop:=Paired (Pr H)
theorem Prs.keep{H H':Hp}(s:B0 H H'):∀{xs:List V}{ps:List (Int×Int)},Prs H xs ps->Prs H' xs ps
 | _,_,.nil=>.nil
 | _,_,.cons r t=>.cons (r.keep s) (Prs.keep s t)
theorem Prs.get{H:Hp}:∀{xs:List V}{ps:List (Int×Int)},Prs H xs ps->∀(i:Nat) (u:V),xs[i]? = some u->∃p,ps[i]? = some p/\Pr H u p
 | _,_,.nil,i,u,e=>by simp at e
 | _,_,.cons r t,0,u,e=>by
  simp at e
  subst e
  exact(rdI rfl r)
 | _,_,.cons r t,i+1,u,e=>by
  obtain⟨p,h1,h2⟩:=Prs.get t i u (by simpa using e)
  exact⟨p,by simpa using h1,h2⟩
theorem Prs.snoc{H:Hp}{xs:List V}{ps:List (Int×Int)}{u:V}{p:Int×Int}(h:Prs H xs ps)(q:Pr H u p):Prs H (xs++[u]) (ps++[p]):=jV h q
theorem Prs.len{H:Hp}:∀{xs:List V}{ps:List (Int×Int)},Prs H xs ps->xs.length=ps.length
 | _,_,.nil=>rfl
 | _,_,.cons _ t=>by rw[cN,cN,Prs.len t]
noncomputable def S0(ns:List Int)(r:Int):List (Int×Int):=(z1i ns).map fun n=>(n,z0F ns n r)
noncomputable def z1B(ns:List Int)(r:Int):List Int:=((S0 ns r).filter fun q=>decide (q.2=0)).map Prod.fst
noncomputable def y7b(K:PySem.W.Frag):Sp:=fun vs H Q _=>∃(p:Addr) (ns:List Int) (r:Int),vs=[.ref p,.int r]/\SqI K H p ns/\(∀x∈ns,1≤x/\x≤60)/\ns.length≤900/\
 ∀(l:Addr) (xs:List V) (H':Hp),B0 H H'->H' l=some (.tup xs)->Prs H' xs (S0 ns r)->Q (.ref l) H'
theorem y8A(M:Bl mg)(F:Fun K "lacking_with_tellers" "lacking_with_tellers" z1S f fd)(K0:Cal P w K mg base 1 "lacking_numbers" z2P (y6G K))
  (P4:Cal P w K mg base 1 "teller_of" z6K (y29 K)):B4 P w K mg base CX0 2 f fd z1m (y7b K):=by
 have nd:=z2r.nd
 refine F.ok z2r (fun vs H Q E h=>?_) (fun cdv A outer s H vs Q E hr h=>?_)
 ·obtain⟨p,ns,r,rfl,_⟩:=h
  rfl
 obtain⟨p,ns,r,rfl,hS,C0,hlen,q⟩:=h
 refine⟨_,(z05 (z0i (z0s z0m rfl M.tuple bH (z00 (z15 ["number"] ["had","reach"] [0,1] rfl (z0w rfl (by decide +kernel) rfl (by decide +kernel) rfl rfl) (z1L (z0e K0 (rm hr) rfl (z00 (pv 0) z02))) (fun _ _ _ _ _=>(z0j (i:=0) (show((["number"]:List PySem.Str)++(["had","reach"]:List PySem.Str)).Nodup from by decide +kernel) rfl (Or.inl rfl))) (z0y (by decide)) z0h (fun _ _ _ _ _=>z1E) (fun _ _ _ _ _=>(z0T (z00 (pv 0) (z00 (z0e P4 (rm hr) rfl (z00 (pv 1) (z00 (pv 0) (z00 (pv 2) z02)))) z02))))) z02)))),?_⟩
 refine(rdI rfl (ex2 p ns ⟨rfl,hS,C0,fun lt H1 nlt s1 e1=>⟨lt,rfl,⟨_,SqT.of e1⟩,?_⟩⟩))
 have ll:=z2j ns
 refine z1n (xs:=(z1i ns).map V.int) (fun i ys H'=>B0 H1 H'/\Prs H' ys (((z1i ns).take i).map fun n=>(n,z0F ns n r))) ⟨B0.refl _,.nil⟩ (fun i ys H' hi hp=>?_) (fun i x ys H' hx hp=>?_) (fun ys H' hp=>?_)
 ·obtain⟨g,pr⟩:=hp
  refine⟨SqT.of (g _ _ e1),z0f ?_⟩
  rw[pr.len,b9,bG]
  lia
 ·obtain⟨g,pr⟩:=hp
  rw[bC] at hx
  cases e:(z1i ns)[i]? with
  | none=>rw[e] at hx;cases hx
  | some n=>
   rw[e] at hx
   cases hx
   refine(rdI rfl (rdI rfl (rdI rfl (rdI rfl (ex4 p ns n r ⟨rfl,SqI.keep (s1.trans g) hS,C0,hlen,fun H2 g2=>⟨(by show 2≤sizeLine;decide),fun t ht=>?_⟩⟩)))))
   refine⟨g.trans (g2.trans (z01 ht _)),?_⟩
   rw[z0n e,bF]
   exact Prs.snoc (pr.keep (g2.trans (z01 ht _))) ⟨t,rfl,z03⟩
 ·obtain⟨g,pr⟩:=hp
  rw[b9,bT] at pr
  intro D hD
  refine(ex2 D _ ⟨rfl,.inl ⟨SqL.of z03,fun l hl=>?_⟩⟩)
  exact q l ys _ (s1.trans (g.trans ((z01 hD _).trans (z01 hl _)))) z03 (pr.keep ((z01 hD _).trans (z01 hl _)))
noncomputable def y2i(K:PySem.W.Frag):Sp:=fun vs H Q _=>∃(p:Addr) (ns:List Int) (r:Int),vs=[.ref p,.int r]/\SqI K H p ns/\(∀x∈ns,1≤x/\x≤60)/\ns.length≤900/\
 ∀(l:Addr) (H':Hp),B0 H H'->H' l=some (.tup ((z1B ns r).map V.int))->Q (.ref l) H'
theorem y4x(ns:List Int)(r:Int):(S0 ns r).length≤60:=by
 unfold S0
 rw[b9]
 exact z2j ns
theorem y7K(M:Bl mg)(F:Fun K "dark_numbers" "dark_numbers" z42 f fd)(C3:Cal P w K mg base 2 "lacking_with_tellers" z1m (y7b K)):B4 P w K mg base CX0 3 f fd z2m (y2i K):=by
 have nd:=z5m.nd
 refine F.ok z5m (fun vs H Q E h=>?_) (fun cdv A outer s H vs Q E hr h=>?_)
 ·obtain⟨p,ns,r,rfl,_⟩:=h
  rfl
 obtain⟨p,ns,r,rfl,hS,C0,hlen,q⟩:=h
 refine⟨_,(z05 (z0i (z0s z0m rfl M.tuple bH (z00 (z15 ["number","teller"] [] [] rfl (z0w rfl (by decide +kernel) rfl (by decide +kernel) rfl rfl) (z1L (z0e C3 (rm hr) rfl (z00 (pv 0) (z00 (pv 1) z02)))) (fun _ _ _ _ _=>(z98 (K:=K) (n:=2) rfl rfl (z1f (z0j (i:=0) (show((["number","teller"]:List PySem.Str)++([]:List PySem.Str)).Nodup from by decide +kernel) rfl (Or.inl rfl)) (z1f (z0j (i:=1) (show((["number","teller"]:List PySem.Str)++([]:List PySem.Str)).Nodup from by decide +kernel) rfl (Or.inl rfl)) z4Q)))) (z8P (z1X (z0y (by decide)) z0h (z1X (z0y (by decide)) z0h z7d z1a) (z0P z0h z1a))) (z6x (z0P z0h (z0P z0h z1a))) (fun _ _ _ _ _=>(z2f (z0c z2F (pv 1) z06 (z0o _)))) (fun _ _ _ _ _=>(pv 0))) z02)))),?_⟩
 refine(rdI rfl (rdI rfl (ex3 p ns r ⟨rfl,hS,C0,hlen,fun lt xs H1 s1 e1 pr1=>⟨lt,rfl,⟨_,SqT.of e1⟩,?_⟩⟩)))
 have ll:=y4x ns r
 have lx:=pr1.len
 refine z1n (xs:=xs) (fun i ys H'=>H'=H1/\ys=(((S0 ns r).take i).filter fun q=>decide (q.2=0)).map fun q=>V.int q.1) ⟨rfl,rfl⟩ (fun i ys H' hi hp=>?_) (fun i x ys H' hx hp=>?_) (fun ys H' hp=>?_)
 ·obtain⟨rfl,rfl⟩:=hp
  refine⟨SqT.of e1,z0f ?_⟩
  have h1:=c6 (fun q:Int×Int=>decide (q.2=0)) ((S0 ns r).take i)
  rw[b9]
  rw[bG] at h1
  lia
 ·obtain⟨rfl,rfl⟩:=hp
  obtain⟨⟨n,t⟩,e,a,rfl,ha⟩:=pr1.get i x hx
  refine(ex2 a _ ⟨rfl,SqT.of ha,rfl,(ex2 _ _ ⟨rfl,(ex2 _ _ ⟨rfl,rfl,?_⟩)⟩)⟩)
  refine(rdI rfl ⟨rfl,(rdI rfl ?_)⟩)
  rw[z0n e,dH,dM,bF]
  refine B9 (fun c=>?_) (fun c=>?_)
  ·have c':decide (t=0)=true:=decide_eq_true (V.int.inj (z0I c))
   refine(rdI rfl ⟨rfl,?_⟩)
   rw[if_pos c']
   rfl
  ·have c':¬decide (t=0)=true:=fun z=>c (decide_eq_true (congrArg V.int (z0I z)))
   refine⟨rfl,?_⟩
   rw[if_neg c']
   simp
 ·obtain⟨rfl,rfl⟩:=hp
  rw[lx,bT]
  intro D hD
  refine(ex2 D _ ⟨rfl,.inl ⟨SqL.of z03,fun l hl=>?_⟩⟩)
  refine q l _ (s1.trans ((z01 hD _).trans (z01 hl _))) ?_
  rw[z03]
  unfold z1B
  rw[dR]
  rfl
theorem z3X(ns:List Int)(r:Int):(z1B ns r).length≤60:=by
 have h:=c6 (fun q:Int×Int=>decide (q.2=0)) (S0 ns r)
 have:=y4x ns r
 unfold z1B
 rw[b9]
 lia
noncomputable def z14(ns:List Int)(r b:Int):List Int:=(z1B ns r).filter fun y=>decide (b<y)
noncomputable def z7O(K:PySem.W.Frag):Sp:=fun vs H Q _=>∃(p:Addr) (ns:List Int) (r b:Int),vs=[.ref p,.int r,.int b]/\SqI K H p ns/\(∀x∈ns,1≤x/\x≤60)/\ns.length≤900/\
 ∀(l:Addr) (H':Hp),B0 H H'->H' l=some (.tup ((z14 ns r b).map V.int))->Q (.ref l) H'
theorem y5d(M:Bl mg)(F:Fun K "dark_numbers_behind" "dark_numbers_behind" z26 f fd)(D0:Cal P w K mg base 3 "dark_numbers" z2m (y2i K)):B4 P w K mg base CX0 4 f fd z17 (z7O K):=by
 have nd:=z2J.nd
 refine F.ok z2J (fun vs H Q E h=>?_) (fun cdv A outer s H vs Q E hr h=>?_)
 ·obtain⟨p,ns,r,b,rfl,_⟩:=h
  rfl
 obtain⟨p,ns,r,b,rfl,hS,C0,hlen,q⟩:=h
 refine⟨_,(z05 (z0i (z0s z0m rfl M.tuple bH (z00 (z15 ["number"] ["behind"] [2] rfl (z0w rfl (by decide +kernel) rfl (by decide +kernel) rfl rfl) (z1L (z0e D0 (rm hr) rfl (z00 (pv 0) (z00 (pv 1) z02)))) (fun _ _ _ _ _=>(z0j (i:=0) (show((["number"]:List PySem.Str)++(["behind"]:List PySem.Str)).Nodup from by decide +kernel) rfl (Or.inl rfl))) (z0y (by decide)) z0h (fun _ _ _ _ _=>(z2f (z0c z2p (pv 0) (pv 1) (z0o _)))) (fun _ _ _ _ _=>(pv 0))) z02)))),?_⟩
 refine(rdI rfl (rdI rfl (ex3 p ns r ⟨rfl,hS,C0,hlen,fun lt H1 s1 e1=>⟨lt,rfl,⟨_,SqT.of e1⟩,?_⟩⟩)))
 have ll:=z3X ns r
 refine z6W (ns:=z1B ns r) (fun y=>decide (b<y)) (fun y=>.int y) (SqT.of e1) (by lia) (fun y ys N hy hN=>?_) (fun D hD=>?_)
 ·refine(rdI rfl (rdI rfl (ex2 _ _ ⟨rfl,rfl,(rdI rfl ?_)⟩)))
  refine B9 (fun c=>?_) (fun c=>?_)
  ·rw[if_pos c] at hN
   exact(rdI rfl hN)
  ·rw[if_neg c] at hN
   exact hN
 ·exact(ex2 D _ ⟨rfl,.inl ⟨SqL.of z03,fun l hl=>q l _ (s1.trans ((z01 hD _).trans (z01 hl _))) z03⟩⟩)
noncomputable def y2x(Sh:ShP):Sp:=fun vs H Q _=>∃(p:Addr) (fp:List Addr) (zs:List Str) (r:Int) (iss:Int->DV) (had:List Int) (n:Int) (d0 d1 d2:DV),vs=[.ref p,.int n]/\Sh H p fp zs r iss had/\n∈had/\iss n=.tup [d0,d1,d2]/\∀v,B2 H d2 v->Q v H
theorem z7Q{kvs:List (Key×V)}{had:List Int}(kk:kvs.map (·.1)=had.map Sum.inl){n:Int}(h:n∈had):∃v,L9 kvs (Sum.inl n:Key)=some v/\((Sum.inl n:Key),v)∈kvs:=by
 have e:=y0b kk n
 rw[decide_eq_true h] at e
 cases ev:L9 kvs (Sum.inl n:Key) with
 | none=>rw[ev] at e;cases e
 | some v=>
  refine⟨v,rfl,?_⟩
  unfold L9 at ev
  obtain⟨⟨k,u⟩,hf,rfl⟩:=bU.mp ev
  have h1:=gZ hf
  have h2:=List.find?_some hf
  simp only[decide_eq_true_eq] at h2
  rw[h2] at h1
  exact h1
theorem y4b{A0:Addr}(M:Bl mg)(T:D4 K mg A0)(F:Fun K "tail_of" "Shelf.tail_of" z3x f fd):B4 P w K mg base CX0 1 f fd z3J (y2x (ShD K A0)):=by
 have nd:=z4v.nd
 refine F.ok z4v (fun vs H Q E h=>?_) (fun cdv A outer s H vs Q E hr h=>?_)
 ·obtain⟨p,fp,zs,r,iss,had,n,d0,d1,d2,rfl,_⟩:=h
  rfl
 obtain⟨p,fp,zs,r,iss,had,n,d0,d1,d2,rfl,sh,hn,en,k⟩:=h
 have hu:=y12 hr
 refine⟨_,(z05 (z0i (z0B z0C (z7e hu (z0J (pv 0) rfl) (pv 1) (fun _ _=>rfl)) z06 (fun _ _=>rfl)))),?_⟩
 obtain⟨dx,pn,pd,fs,kvs,rfl,h1,h2,h3,h4,l1,l2,l3,lm,kk,ndh,all,tl,g,r0,r1⟩:=sh
 obtain⟨v,ev,mv⟩:=z7Q kk hn
 have tv:=tl n v mv
 rw[en] at tv
 obtain⟨a,us,rfl,ea,_,tu⟩:=z0d tv
 obtain⟨x0,ur,rfl,t0,tu⟩:=z0g tu
 obtain⟨x1,ur,rfl,t1,tu⟩:=z0g tu
 obtain⟨x2,ur,rfl,t2,tu⟩:=z0g tu
 refine(rdI rfl (ex5 p A0 dx fs _ ⟨rfl,h1,T.cl,T.n_issues,l3,(rdI rfl (ex2 pd _ ⟨rfl,(by rw[<- ev];exact N6.k (k:=Sum.inl n) h4),?_⟩))⟩))
 exact(ex4 a _ _ x2 ⟨rfl,rfl,SqT.of ea,z0R rfl,k x2 t2⟩)
theorem y6i(n r:Int):(z5k n r).Nodup:=by
 have h:(dnI (n-1) (n-1).toNat).Nodup:=by
  unfold dnI
  rw[dG,dO]
  exact List.pairwise_lt_range.imp fun h=>by lia
 exact h.filter _
theorem y5s{n r k:Int}:k∈z5k n r↔1≤k/\k<n/\n-k≤r:=by
 unfold z5k
 rw[cK,z8r,decide_eq_true_eq]
 lia
theorem z9y{K:PySem.W.Frag}{H:Hp}{rows:List Row}:∀{ks:List Int}{xs:List V},z08 H (ks.map (z9e rows)) xs->∃kvs:List (Key×V),Paired (y4n K H) xs kvs/\kvs.map (·.1)=ks.map Sum.inl/\∀k v,((Sum.inl k:Key),v)∈kvs->B2 H (L4 (z0x (z0t rows k))) v
 | [],xs,h=>by
  rw[z0G h]
  exact⟨[],.nil,rfl,fun _ _ q=>(nomatch q)⟩
 | k::ks,xs,h=>by
  obtain⟨x,r,rfl,t,h⟩:=z0g h
  obtain⟨kvs,p1,p2,p3⟩:=z9y h
  obtain⟨a,us,rfl,ea,_,tu⟩:=z0d t
  obtain⟨x0,ur,rfl,t0,tu⟩:=z0g tu
  obtain⟨x1,ur,rfl,t1,tu⟩:=z0g tu
  have:=z0G tu
  subst this
  cases z1o t0
  refine⟨(Sum.inl k,x1)::kvs,.cons ⟨a,rfl,.inr (SqT.of ea)⟩ p1,by rw[cS,cS,p2],fun m v hv=>?_⟩
  rcases bE.mp hv with e|hv
  ·cases e
   exact t1
  ·exact p3 m v hv
noncomputable def y7y(rows:List Row)(n t:Int):DV:=if t=0 then .tup [] else L4 (z0x (z0t rows n))
noncomputable def y73(Sh:ShP):Sp:=fun vs H Q _=>∃(x:Addr) (n t:Int) (fp:List Addr) (nm:List Str) (r:Int) (rows:List Row) (had:List Int),vs=[.ref x,.int n,.int t]/\Sh H x fp nm r (fun n=>z0N rows n r) had/\(t≠0->t∈had/\t≤60/\n∈z5k t r)/\
 ∀(v:V) (H':Hp),B0 H H'->B2 H' (y7y rows n t) v->Q v H'
theorem y7B{A0:Addr}(M:Bl mg)(T:D4 K mg A0)(F:Fun K "names_told_of" "names_told_of" z3D f fd)(M3:D9 P w K mg base 1 A0 "tail_of" z3J (y2x (ShD K A0))) :
  B4 P w K mg base CX0 2 f fd z3F (y73 (ShD K A0)):=by
 have nd:=z4S.nd
 refine F.ok z4S (fun vs H Q E h=>?_) (fun cdv A outer s H vs Q E hr h=>?_)
 ·obtain⟨x,n,t,fp,nm,r,rows,had,rfl,_⟩:=h
  rfl
 obtain⟨x,n,t,fp,nm,r,rows,had,rfl,sh,ht,k⟩:=h
 have hu:=y12 hr
 refine⟨_,(z04 (z0E (z0c z2F (pv 2) z06 (z0o _)) (z05 (z0i (z0T z02))) z0l) (z05 (z0i (z7e hu (z0s (z4Z (K:=K) rfl rfl) rfl M.dict jC (z00 (z1I M3 (rm hr) (pv 0) (z00 (pv 2) z02)) z02)) (pv 1) (fun _ _=>rfl))))),?_⟩
 refine(rdI rfl ⟨rfl,(rdI rfl (B9 (fun c=>?_) (fun c=>?_)))⟩)
 ·have c':t=0:=V.int.inj (z0I c)
  refine⟨(by show 0≤sizeLine;decide),fun l hl=>k _ _ (z01 hl _) ?_⟩
  unfold y7y
  rw[if_pos c']
  exact z0q z03 (by show 0≤1000000;decide) .nil
 ·have c':t≠0:=fun z=>c (decide_eq_true (congrArg V.int z))
  obtain⟨th,t60,tn⟩:=ht c'
  obtain⟨dx,fs,h1,lm⟩:∃dx fs,H x=some (.ins A0 dx fs)/\fs.lookup ("tail_of":Str)=none:=by
   obtain⟨dx,pn,pd,fs,kvs,_,h1,_,_,_,_,_,_,lm,_⟩:=sh
   exact⟨dx,fs,h1,lm _ (by simp)⟩
  refine(rdI rfl (ex3 x dx fs ⟨rfl,h1,lm,(rdI rfl (w00 x fp nm r _ had t _ _ _ ⟨rfl,sh,th,rfl,fun v tv=>?_⟩))⟩))
  obtain⟨a,us,rfl,ea,_,tu⟩:=z0d tv
  obtain⟨kvs,p1,p2,p3⟩:=z9y (K:=K) tu
  have lu:us.length≤1000:=by
   rw[tu.length,b9]
   unfold z5k
   have:=c6 (fun k=>decide (t-k≤r)) (dnI (t-1) (t-1).toNat)
   rw[z9N] at this
   lia
  refine(ex3 a us kvs ⟨rfl,.inr ea,p1,lu,?_,fun l hl=>?_⟩)
  ·rw[p2]
   rw[dG,dO]
   exact(dG.mp (y6i t r)).imp fun h e=>h (Sum.inl.inj e)
  ·obtain⟨v,ev,mv⟩:=z7Q p2 tn
   refine(rdI rfl (ex2 l _ ⟨rfl,(by rw[<- ev];exact N6.k (k:=Sum.inl n) z03),?_⟩))
   refine k v _ (z01 hl _) ?_
   unfold y7y
   rw[if_neg c']
   exact B2.keep (z01 hl _) _ _ (p3 n v mv)
theorem y5V{had:List Int}{r n:Int}(h60:∀n∈had,1≤n/\n≤60)(hn:n∈z1i (z0a had))(h:z0F (z0a had) n r≠0):z0F (z0a had) n r∈had/\z0F (z0a had) n r≤60/\n∈z5k (z0F (z0a had) n r) r:=by
 unfold z0F at h ⊢
 cases e:(upI 1 60).find? (y1r (z0a had) n r) with
 | none=>rw[e] at h;exact absurd rfl h
 | some y=>
  obtain⟨_,hc,_⟩:=y3v (z1z 1 60) e
  obtain⟨a,b,c⟩:=z4z.mp hc
  have hy:=(z0Z.mp c).2
  have:=h60 y hy
  have:=(z0U.mp hn).1
  show y∈had/\y≤60/\n∈z5k y r
  exact⟨hy,by lia,y5s.mpr (by lia)⟩
theorem y4O{A0:Addr}(M:Bl mg)(T:D4 K mg A0)(F:Fun K "gaps_of" "gaps_of" y00 f fd)(B3:D9 P w K mg base 1 A0 "had" z1l (z2Y (ShD K A0)))
  (C3:Cal P w K mg base 2 "lacking_with_tellers" z1m (y7b K)) (L7:Cal P w K mg base 2 "names_told_of" z3F (y73 (ShD K A0))) :
  B4 P w K mg base CX0 3 f fd z6j (z7W (ShD K A0)):=by
 have nd:=y0O.nd
 refine F.ok y0O (fun vs H Q E h=>?_) (fun cdv A outer s H vs Q E hr h=>?_)
 ·obtain⟨x,fp,nm,r,rows,had,rfl,_⟩:=h
  rfl
 obtain⟨x,fp,nm,r,rows,had,rfl,sh,gn,rw',l60,hh,r0,r1,k⟩:=h
 refine⟨_,(z04 (z0p (i:=1) nd rfl (Or.inl rfl) (z0e C3 (rm hr) rfl (z00 (z1M B3 (rm hr) (pv 0)) (z00 (z0J (pv 0) rfl) z02)))) (z05 (z0i (z0s z0m rfl M.tuple bH (z00 (z15 ["number","teller"] ["shelf"] [0] rfl (z0w rfl (by decide +kernel) rfl (by decide +kernel) rfl rfl) (z1L (pv 1)) (fun _ _ _ _ _=>(z98 (K:=K) (n:=2) rfl rfl (z1f (z0j (i:=0) (show((["number","teller"]:List PySem.Str)++(["shelf"]:List PySem.Str)).Nodup from by decide +kernel) rfl (Or.inl rfl)) (z1f (z0j (i:=1) (show((["number","teller"]:List PySem.Str)++(["shelf"]:List PySem.Str)).Nodup from by decide +kernel) rfl (Or.inl rfl)) z4Q)))) (z8P (z1X (z0y (by decide)) z0h (z1X (z0y (by decide)) z0h z7d z1a) (z0P z0h z1a))) (z6x (z0P z0h (z0P z0h z1a))) (fun _ _ _ _ _=>z1E) (fun _ _ _ _ _=>(z0T (z00 (pv 0) (z00 (pv 1) (z00 (z0e L7 (rm hr) rfl (z00 (pv 2) (z00 (pv 0) (z00 (pv 1) z02)))) z02)))))) z02))))),?_⟩
 have h60:∀n∈had,1≤n/\n≤60:=fun n hn=>by have:=hh n hn;lia
 obtain⟨dx,fs,h1,lm,lr⟩:∃dx fs,H x=some (.ins A0 dx fs)/\fs.lookup ("had":Str)=none/\fs.lookup ("reach":Str)=some (V.int r):=by
  obtain⟨dx,pn,pd,fs,kvs,_,h1,_,_,_,_,lr,_,lm,_⟩:=sh
  exact⟨dx,fs,h1,lm _ (by simp),lr⟩
 refine(rdI rfl (ex3 x dx fs ⟨rfl,h1,lm,(ex6 x fp nm r _ had ⟨rfl,sh,fun l H1 s1 e1=>?_⟩)⟩))
 refine(rdI rfl (ex5 x A0 dx fs _ ⟨rfl,s1 _ _ h1,T.cl,T.n_reach,lr,(ex3 l (z0a had) r ⟨rfl,.inr (SqT.of e1),fun n hn=>h60 n (z0Z.mp hn).2,cL (z2D had) (by decide),fun lt xs H2 s2 e2 pr2=>?_⟩)⟩))
 have sh2:ShD K A0 H2 x fp nm r (fun n=>z0N rows n r) had:=F1.same sh (s1.trans s2)
 have lx:xs.length=(z1i (z0a had)).length:=by rw[pr2.len];unfold S0;rw[b9]
 have ll:=z2j (z0a had)
 refine(rdI rfl ⟨lt,rfl,⟨_,SqT.of e2⟩,?_⟩)
 refine z1n (xs:=xs) (fun i ys H'=>B0 H2 H'/\z08 H' (((z1i (z0a had)).take i).map (R9 (z0a had) rows r)) ys) ⟨B0.refl _,by rw[cT];exact .nil⟩ (fun i ys H' hi hp=>?_) (fun i y ys H' hy hp=>?_) (fun ys H' hp=>?_)
 ·obtain⟨g,t⟩:=hp
  refine⟨SqT.of (g _ _ e2),z0f ?_⟩
  rw[t.length,b9,bG]
  lia
 ·obtain⟨g,t⟩:=hp
  obtain⟨⟨n,tl⟩,e,a,rfl,ha⟩:=pr2.get i y hy
  unfold S0 at e
  rw[bC] at e
  obtain⟨m,em,e3⟩:=bU.mp e
  cases e3
  refine(ex2 a _ ⟨rfl,SqT.of (g _ _ ha),rfl,(ex2 _ _ ⟨rfl,(ex2 _ _ ⟨rfl,rfl,?_⟩)⟩)⟩)
  refine(rdI rfl (rdI rfl (rdI rfl (rdI rfl (rdI rfl (ex8 x n _ fp nm r rows had ⟨rfl,F1.same sh2 g,y5V h60 (bP em),fun v H3 s3 tv=>?_⟩))))))
  refine⟨(by show 3≤sizeLine;decide),fun q hq=>⟨g.trans (s3.trans (z01 hq _)),?_⟩⟩
  rw[fH,em,bF]
  exact z08.snoc (z08.keep (s3.trans (z01 hq _)) _ _ t) (z0q z03 (by show 3≤1000000;decide) (.cons (z0H _) (.cons (z0H _) (.cons (B2.keep (z01 hq _) _ _ tv) .nil))))
 ·obtain⟨g,t⟩:=hp
  rw[lx,bT] at t
  intro D hD
  refine(ex2 D ys ⟨rfl,.inl ⟨SqL.of z03,fun q hq=>k _ _ (s1.trans (s2.trans (g.trans ((z01 hD _).trans (z01 hq _))))) (z0q z03 ?_ (z08.keep ((z01 hD _).trans (z01 hq _)) _ _ t))⟩⟩)
  unfold z3i
  rw[b9]
  lia
noncomputable def y0c(Sh:ShP):Sp:=fun vs H Q _=>∃(p:Addr) (fp:List Addr) (zs:List Str) (r:Int) (iss:Int->DV) (had:List Int) (n:Int) (d0 d1 d2:DV),vs=[.ref p,.int n]/\Sh H p fp zs r iss had/\n∈had/\iss n=.tup [d0,d1,d2]/\∀v,B2 H d1 v->Q v H
theorem y5p{A0:Addr}(M:Bl mg)(T:D4 K mg A0)(F:Fun K "rows_of" "Shelf.rows_of" z3y f fd):B4 P w K mg base CX0 1 f fd z2z (y0c (ShD K A0)):=by
 have nd:=z4J.nd
 refine F.ok z4J (fun vs H Q E h=>?_) (fun cdv A outer s H vs Q E hr h=>?_)
 ·obtain⟨p,fp,zs,r,iss,had,n,d0,d1,d2,rfl,_⟩:=h
  rfl
 obtain⟨p,fp,zs,r,iss,had,n,d0,d1,d2,rfl,sh,hn,en,k⟩:=h
 have hu:=y12 hr
 refine⟨_,(z05 (z0i (z0B z0C (z7e hu (z0J (pv 0) rfl) (pv 1) (fun _ _=>rfl)) z06 (fun _ _=>rfl)))),?_⟩
 obtain⟨dx,pn,pd,fs,kvs,rfl,h1,h2,h3,h4,l1,l2,l3,lm,kk,ndh,all,tl,g,r0,r1⟩:=sh
 obtain⟨v,ev,mv⟩:=z7Q kk hn
 have tv:=tl n v mv
 rw[en] at tv
 obtain⟨a,us,rfl,ea,_,tu⟩:=z0d tv
 obtain⟨x0,ur,rfl,t0,tu⟩:=z0g tu
 obtain⟨x1,ur,rfl,t1,tu⟩:=z0g tu
 refine(rdI rfl (ex5 p A0 dx fs _ ⟨rfl,h1,T.cl,T.n_issues,l3,(rdI rfl (ex2 pd _ ⟨rfl,(by rw[<- ev];exact N6.k (k:=Sum.inl n) h4),?_⟩))⟩))
 exact(ex4 a _ _ x1 ⟨rfl,rfl,SqT.of ea,z0R rfl,k x1 t1⟩)
theorem y0J{K:PySem.W.Frag}{H:Hp}:∀{w:Row}{xs:List V},z08 H (w.map z9X) xs->Paired (y4n K H) xs (w.map kvR)
 | [],xs,h=>by
  rw[z0G h]
  exact .nil
 | p::w,xs,h=>by
  obtain⟨x,r,rfl,t,h'⟩:=z0g h
  obtain⟨a,us,rfl,ea,_,tu⟩:=z0d t
  obtain⟨x0,ur,rfl,t0,tu⟩:=z0g tu
  obtain⟨x1,ur,rfl,t1,tu⟩:=z0g tu
  have:=z0G tu
  subst this
  rw[z3r t0,z1o t1] at ea
  exact .cons ⟨a,rfl,.inr (SqT.of ea)⟩ (y0J h')
theorem w1E(w:Row)(z:Str):∀acc:Option Int,w.foldl (fun acc p=>if p.1=z then some p.2 else acc) acc=match J0 w z with|some v=>some v|none=>acc:=by
 unfold J0
 induction w with
 | nil=>intro acc;rfl
 | cons p w ih=>
  intro acc
  rw[dI,dI,ih,ih (if p.1=z then some p.2 else none)]
  cases w.foldl (fun acc p=>if p.1=z then some p.2 else acc) none with
  | some v=>rfl
  | none=>
   by_cases h:p.1=z
   ·rw[if_pos h,if_pos h]
   ·rw[if_neg h,if_neg h]
theorem z8L(p:Str×Int)(w:Row)(z:Str):J0 (p::w) z=match J0 w z with|some v=>some v|none=>if p.1=z then some p.2 else none:=by
 conv=>lhs;unfold J0
 rw[dI,w1E]
theorem y4a{w:Row}{z:Str}(h:z∉w.map Prod.fst):J0 w z=none:=by
 induction w with
 | nil=>rfl
 | cons p w ih=>
  rw[cS,bE,not_or] at h
  rw[z8L,ih h.2,if_neg (fun e=>h.1 e.symm)]
theorem y1A{z:Str}:∀{w:Row},(w.map Prod.fst).Nodup->L9 (w.map kvR) (Sum.inr z:Key)=(J0 w z).map V.int
 | [],_=>rfl
 | p::w,h=>by
  rw[cS,dB] at h
  rw[cS,z8L]
  by_cases e:p.1=z
  ·rw[z6i (show(kvR p).1=Sum.inr z by unfold kvR;rw[e]),y4a (e ▸ h.1),if_pos e]
   rfl
  ·rw[z6q (show ¬(kvR p).1=Sum.inr z from fun q=>e (Sum.inr.inj q)),y1A h.2,if_neg e]
   cases J0 w z<;>rfl
theorem y8y{nm:List Str}{rows:List Row}(g:E2 nm)(R:Rws nm rows)(n:Int):((z0t rows n).map Prod.fst).Nodup:=by
 unfold z0t
 rw[bK]
 cases e:rows[(n-1).toNat]? with
 | none=>exact .nil
 | some w=>exact(R.sub w (bP e)).nodup g.nd
theorem y1B{nm:List Str}{rows:List Row}(g:E2 nm)(R:Rws nm rows)(n:Int):(z0t rows n).length≤12:=by
 unfold z0t
 rw[bK]
 cases e:rows[(n-1).toNat]? with
 | none=>exact cZ _
 | some w=>
  have h:=(R.sub w (bP e)).length_le
  rw[b9] at h
  exact cL h g.hi
noncomputable def z33(Sh:ShP):Sp:=fun vs H Q _=>∃(x:Addr) (z:Str) (fp:List Addr) (nm:List Str) (r:Int) (rows:List Row) (had:List Int),vs=[.ref x,.str z]/\Sh H x fp nm r (fun n=>z0N rows n r) had/\z∈nm/\E2 nm/\Rws nm rows/\
 ∀(v:V) (H':Hp),B0 H H'->B2 H' (y01 (z0S (z0a had) rows z)) v->Q v H'
theorem y2T{A0:Addr}(M:Bl mg)(T:D4 K mg A0)(F:Fun K "held_for" "held_for" z8N f fd)(C5:Cal P w K mg base 1 "refuse_unknown_name" z1t (y81 K))
  (B3:D9 P w K mg base 1 A0 "had" z1l (z2Y (ShD K A0))) (E1:D9 P w K mg base 1 A0 "rows_of" z2z (y0c (ShD K A0))) :
  B4 P w K mg base CX0 2 f fd z2E (z33 (ShD K A0)):=by
 have nd:=z9s.nd
 refine F.ok z9s (fun vs H Q E h=>?_) (fun cdv A outer s H vs Q E hr h=>?_)
 ·obtain⟨x,z,fp,nm,r,rows,had,rfl,_⟩:=h
  rfl
 obtain⟨x,z,fp,nm,r,rows,had,rfl,sh,hz,gn,R,k⟩:=h
 have hu:=y12 hr
 refine⟨_,(z04 (z0D (z0e C5 (rm hr) rfl (z00 (z0J (pv 0) rfl) (z00 (pv 1) z02)))) (z04 (z0O bR rfl (y6Z rfl M.reversed (z00 (z1M B3 (rm hr) (pv 0)) z02)) (z0j (i:=2) nd rfl (Or.inl rfl)) (z04 (z0p (i:=3) nd rfl (Or.inl rfl) (z0s (z4Z (K:=K) rfl rfl) rfl M.dict jC (z00 (z1I E1 (rm hr) (pv 0) (z00 (pv 2) z02)) z02))) (z05 (z0E (z7u (y4v hu (pv 1) (pv 3))) (z05 (z0i (z0T (z00 (pv 2) (z00 (z7e hu (pv 3) (pv 1) (fun _ _=>rfl)) z02))))) z0l)))) (z05 (z0i (z0T (z00 z06 (z00 z9A z02))))))),?_⟩
 obtain⟨dx,pn,fs,h1,h3,ln,lh,lo⟩:∃dx pn fs,H x=some (.ins A0 dx fs)/\H pn=some (.tup (nm.map V.str))/\fs.lookup ("names":Str)=some (V.ref pn)/\fs.lookup ("had":Str)=none/\fs.lookup ("rows_of":Str)=none:=by
  obtain⟨dx,pn,pd,fs,kvs,_,h1,_,h3,_,l1,_,_,lm,_⟩:=sh
  exact⟨dx,pn,fs,h1,h3,l1,lm _ (by simp),lm _ (by simp)⟩
 refine(rdI rfl (ex5 x A0 dx fs _ ⟨rfl,h1,T.cl,T.n_names,ln,(rdI rfl (ex3 pn nm z ⟨rfl,.inr (SqT.of h3),hz,?_⟩))⟩))
 refine(rdI rfl (ex3 x dx fs ⟨rfl,h1,lh,(ex6 x fp nm r _ had ⟨rfl,sh,fun l H1 s1 e1=>?_⟩)⟩))
 refine(ex2 l _ ⟨rfl,SqT.of e1,?_⟩)
 have sh1:ShD K A0 H1 x fp nm r (fun n=>z0N rows n r) had:=F1.same sh s1
 have L1:((z0a had).map V.int).length=(z0a had).length:=b9 _
 refine y79 (fun i σ H'=>∃(o1 o2:Option V),B0 H1 H'/\z0S (z0a had) rows z=z0S ((z0a had).take ((z0a had).length-i)) rows z/\σ=[some (.ref x),some (.str z),o1,o2])
  ⟨none,none,B0.refl _,by rw[hV,bT],rfl⟩ (fun i σ H' _ ⟨_,_,g,_⟩=>SqT.of (g _ _ e1)) (fun i y σ H' hy hp=>?_) (fun σ H' hp=>?_)
 ·obtain⟨o1,o2,g,eh,rfl⟩:=hp
  rw[<- List.map_reverse,bC] at hy
  obtain⟨n,hn,rfl⟩:=bU.mp hy
  have hi:i<(z0a had).length:=by
   have:=(bV.mp hn).1
   rw[gU] at this
   exact this
  rw[List.getElem?_reverse hi] at hn
  have et:(z0a had).take ((z0a had).length-i)=(z0a had).take ((z0a had).length-(i+1))++[n]:=by
   have e:(z0a had).length-i=((z0a had).length-(i+1))+1:=by lia
   rw[e]
   refine z0n ?_
   rw[show(z0a had).length-(i+1)=(z0a had).length-1-i by lia]
   exact hn
  have nh:n∈had:=(z0Z.mp (bP hn)).2
  refine(rdI rfl (ex3 x dx fs ⟨rfl,g _ _ (s1 _ _ h1),lo,(rdI rfl (w00 x fp nm r _ had n _ _ _ ⟨rfl,F1.same sh1 g,nh,rfl,fun v tv=>?_⟩))⟩))
  obtain⟨a,us,rfl,ea,_,tu⟩:=z0d tv
  have ndw:=y8y gn R n
  refine(ex3 a us ((z0t rows n).map kvR) ⟨rfl,.inr ea,y0J tu,?_,?_,fun d hd=>?_⟩)
  ·rw[tu.length,b9]
   have:=y1B gn R n
   lia
  ·have e:((z0t rows n).map kvR).map (·.1)=((z0t rows n).map Prod.fst).map Sum.inr:=by rw[dR,dR];rfl
   rw[e,dG,dO]
   exact(dG.mp ndw).imp fun h e=>h (Sum.inr.inj e)
  refine(rdI rfl (rdI rfl (ex2 d _ ⟨rfl,N6.k (k:=Sum.inr z) z03,(rdI rfl ?_)⟩)))
  rw[y1A ndw]
  rw[et,z7a] at eh
  cases ev:J0 (z0t rows n) z with
  | none=>
   rw[ev] at eh
   exact B8 ⟨_,_,g.trans (z01 hd _),eh,rfl⟩
  | some v=>
   rw[ev] at eh
   refine F6 (rdI rfl (rdI rfl (rdI rfl (ex2 d _ ⟨rfl,(show N6 _ d (kV (Sum.inr z)) (some (V.int v)) by rw[<- show L9 ((z0t rows n).map kvR) (Sum.inr z:Key)=some (V.int v) by rw[y1A ndw,ev];rfl];exact N6.k z03),(by show 2≤sizeLine;decide),fun q hq=>k _ _ (s1.trans (g.trans ((z01 hd _).trans (z01 hq _)))) ?_⟩))))
   rw[eh]
   exact z0q z03 (by show 2≤1000000;decide) (.cons (z0H _) (.cons (z0H _) .nil))
 ·obtain⟨o1,o2,g,eh,rfl⟩:=hp
  rw[L1,Nat.sub_self,cT] at eh
  refine⟨(by show 2≤sizeLine;decide),fun q hq=>k _ _ (s1.trans (g.trans (z01 hq _))) ?_⟩
  rw[eh]
  exact z0q z03 (by show 2≤1000000;decide) (.cons (z0H _) (.cons z7P .nil))
noncomputable def z6Q(Sh:ShP):Sp:=fun vs H Q _=>∃(x:Addr) (z:Str) (fp:List Addr) (nm:List Str) (r:Int) (rows:List Row) (had:List Int),vs=[.ref x,.str z]/\Sh H x fp nm r (fun n=>z0N rows n r) had/\z∈nm/\E2 nm/\Rws nm rows/\rows.length≤60/\(∀n∈had,1≤n/\n≤rows.length)/\0≤r/\r≤10/\
 ∀(v:V) (H':Hp),B0 H H'->B2 H' (y2c (z0a had) rows r (z1k (z0S (z0a had) rows z)) z) v->Q v H'
theorem y1z{A0:Addr}(M:Bl mg)(T:D4 K mg A0)(F:Fun K "set_again" "set_again" z76 f fd)(C1:Cal P w K mg base 2 "held_for" z2E (z33 (ShD K A0)))
  (J1:Cal P w K mg base 3 "gaps_of" z6j (z7W (ShD K A0))):B4 P w K mg base CX0 4 f fd z5b (z6Q (ShD K A0)):=by
 have nd:=z8K.nd
 refine F.ok z8K (fun vs H Q E h=>?_) (fun cdv A outer s H vs Q E hr h=>?_)
 ·obtain⟨x,z,fp,nm,r,rows,had,rfl,_⟩:=h
  rfl
 obtain⟨x,z,fp,nm,r,rows,had,rfl,sh,hz,gn,R,l60,hh,r0,r1,k⟩:=h
 refine⟨_,(z04 (z0p (i:=2) nd rfl (Or.inr rfl) (z0B z0C (z0e C1 (rm hr) rfl (z00 (pv 0) (z00 (pv 1) z02))) z06 (fun _ _=>rfl))) (z05 (z0i (z0s z0m rfl M.tuple bH (z00 (z15 ["number","teller","names"] ["held_from","name"] [2,1] rfl (z0w rfl (by decide +kernel) rfl (by decide +kernel) rfl rfl) (z1L (z0e J1 (rm hr) rfl (z00 (pv 0) z02))) (fun _ _ _ _ _=>(z98 (K:=K) (n:=3) rfl rfl (z1f (z0j (i:=0) (show((["number","teller","names"]:List PySem.Str)++(["held_from","name"]:List PySem.Str)).Nodup from by decide +kernel) rfl (Or.inl rfl)) (z1f (z0j (i:=1) (show((["number","teller","names"]:List PySem.Str)++(["held_from","name"]:List PySem.Str)).Nodup from by decide +kernel) rfl (Or.inl rfl)) (z1f (z0j (i:=2) (show((["number","teller","names"]:List PySem.Str)++(["held_from","name"]:List PySem.Str)).Nodup from by decide +kernel) rfl (Or.inl rfl)) z4Q))))) (z8P (z1X (z0y (by decide)) z0h (z1X (z0y (by decide)) z0h (z1X (z0y (by decide)) z0h z7d z1a) (z0P z0h z1a)) (z0P z0h (z0P z0h z1a)))) (z6x (z0P z0h (z0P z0h (z0P z0h z1a)))) (fun _ _ _ _ _=>(z2f (PW.pt (z3l (z0c z2p (pv 0) (pv 3) (z0o _)) (z2k (z0c (r:=rIn K false) z3W (pv 4) (pv 2) (by with_unfolding_all rfl))))))) (fun _ _ _ _ _=>(z0T (z00 (pv 0) (z00 (pv 1) z02))))) z02))))),?_⟩
 refine(rdI rfl (rdI rfl (ex7 x z fp nm r rows had ⟨rfl,sh,hz,gn,R,fun v H1 s1 tv=>?_⟩)))
 obtain⟨a,y,rfl,ea,_⟩:=z3p tv
 refine(ex4 a _ _ _ ⟨rfl,rfl,SqT.of ea,z0R rfl,?_⟩)
 have sh1:=F1.same sh s1
 refine(rdI rfl (ex6 x fp nm r rows had ⟨rfl,sh1,gn,R,l60,hh,r0,r1,fun u H2 s2 tu=>?_⟩))
 obtain⟨b,xs,rfl,eb,_,tb⟩:=z0d tu
 have lx:=z8g tb
 have ll:=z2j (z0a had)
 generalize z1k (z0S (z0a had) rows z)=num at *
 refine⟨b,rfl,⟨_,SqT.of eb⟩,?_⟩
 refine z1n (xs:=xs) (fun i ys H'=>B0 H2 H'/\z08 H' ((((z1i (z0a had)).take i).filter fun n=>decide (num<n) && decide (z∈z2q (z0a had) rows r n)).map fun n=>.tup [.int n,.int (z0F (z0a had) n r)]) ys) ⟨B0.refl _,.nil⟩ (fun i ys H' hi hp=>?_) (fun i y ys H' hy hp=>?_) (fun ys H' hp=>?_)
 ·obtain⟨g,t⟩:=hp
  refine⟨SqT.of (g _ _ eb),z0f ?_⟩
  rw[t.length,b9]
  have:=c6 (fun n=>decide (num<n) && decide (z∈z2q (z0a had) rows r n)) ((z1i (z0a had)).take i)
  rw[bG] at this
  lia
 ·obtain⟨g,t⟩:=hp
  obtain⟨n,c,d,en,rfl,ec,ed⟩:=z6b tb hy
  refine(ex2 c _ ⟨rfl,SqT.of (g _ _ ec),rfl,(ex2 _ _ ⟨rfl,(ex2 _ _ ⟨rfl,(ex2 _ _ ⟨rfl,rfl,?_⟩)⟩)⟩)⟩)
  rw[z0n en,dH,dM]
  refine(rdI rfl (rdI rfl (ex2 _ _ ⟨rfl,rfl,(rdI rfl ?_)⟩)))
  have skip:¬(decide (num<n) && decide (z∈z2q (z0a had) rows r n))=true->B0 H2 H'/\z08 H' (((((z1i (z0a had)).take i).filter fun n=>decide (num<n) && decide (z∈z2q (z0a had) rows r n))++(if (decide (num<n) && decide (z∈z2q (z0a had) rows r n))=true then n::List.filter (fun n=>decide (num<n) && decide (z∈z2q (z0a had) rows r n)) [] else List.filter (fun n=>decide (num<n) && decide (z∈z2q (z0a had) rows r n)) [])).map fun n=>.tup [.int n,.int (z0F (z0a had) n r)]) ys:=fun c=>by
   rw[if_neg c,fB,cR]
   exact⟨g,t⟩
  refine B9 (fun c=>?_) (fun c=>?_)
  ·refine(rdI rfl (rdI rfl (ex2 d _ ⟨rfl,.inr (SqT.of (g _ _ ed)),rfl,z18 _,(rdI rfl ?_)⟩)))
   rw[if_neg bM,y0Z]
   refine B9 (fun c2=>?_) (fun c2=>?_)
   ·refine(rdI rfl (rdI rfl ⟨(by show 2≤sizeLine;decide),fun q hq=>⟨g.trans (z01 hq _),?_⟩⟩))
    rw[if_pos (by rw[cG];exact⟨c,c2⟩),fB,bF]
    exact z08.snoc (z08.keep (z01 hq _) _ _ t) (z0q z03 (by show 2≤1000000;decide) (.cons (z0H _) (.cons (z0H _) .nil)))
   ·exact skip (by rw[cG];exact fun z=>c2 z.2)
  ·exact skip (by rw[cG];exact fun z=>c z.1)
 ·obtain⟨g,t⟩:=hp
  rw[lx,bT] at t
  intro D hD
  refine(ex2 D ys ⟨rfl,.inl ⟨SqL.of z03,fun q hq=>k _ _ (s1.trans (s2.trans (g.trans ((z01 hD _).trans (z01 hq _))))) (z0q z03 ?_ (z08.keep ((z01 hD _).trans (z01 hq _)) _ _ t))⟩⟩)
  rw[b9]
  exact cL (z9j (z0a had) rows r num z) (by decide)
theorem z4x{ns:List Int}{r n:Int}:n∈z1B ns r↔n∈z1i ns/\z0F ns n r=0:=by
 unfold z1B S0
 rw[cM]
 constructor
 ·rintro⟨⟨a,b⟩,h,rfl⟩
  rw[cK,cM,decide_eq_true_eq] at h
  obtain⟨⟨m,hm,e⟩,h2⟩:=h
  cases e
  exact⟨hm,h2⟩
 ·rintro⟨h1,h2⟩
  refine⟨(n,z0F ns n r),?_,rfl⟩
  rw[cK,cM,decide_eq_true_eq]
  exact⟨⟨n,h1,rfl⟩,h2⟩
theorem z7l{ns:List Int}{r num:Int}:z4i ns r num=[]↔∀n∈z1B ns r,n≤num:=by
 unfold z4i
 rw[List.filter_eq_nil_iff]
 constructor
 ·intro h n hn
  obtain⟨h1,h2⟩:=z4x.mp hn
  have:=h n h1
  rw[cG,decide_eq_true_eq,decide_eq_true_eq] at this
  rcases Int.lt_or_le num n with q|q
  ·exact absurd ⟨q,h2⟩ this
  ·exact q
 ·intro h n hn
  rw[cG,decide_eq_true_eq,decide_eq_true_eq]
  rintro⟨h1,h2⟩
  have:=h n (z4x.mpr ⟨hn,h2⟩)
  lia
theorem z8n{ns:List Int}{r num:Int}:z14 ns r num=[]↔z4i ns r num=[]:=by
 rw[z7l]
 unfold z14
 rw[List.filter_eq_nil_iff]
 exact⟨fun h n hn=>Int.not_lt.mp fun z=>h n hn (decide_eq_true z),fun h n hn z=>by have:=h n hn;have:=of_decide_eq_true z;lia⟩
noncomputable def z3O(Sh:ShP):Sp:=fun vs H Q _=>∃(x:Addr) (z:Str) (fp:List Addr) (nm:List Str) (r:Int) (rows:List Row) (had:List Int),vs=[.ref x,.str z]/\Sh H x fp nm r (fun n=>z0N rows n r) had/\z∈nm/\E2 nm/\Rws nm rows/\rows.length≤60/\(∀n∈had,1≤n/\n≤rows.length)/\0≤r/\r≤10/\
 ∀(H':Hp),B0 H H'->Q (.str (z0X (z0a had) rows r (z1k (z0S (z0a had) rows z)) z)) H'
theorem y3h{A0:Addr}(M:Bl mg)(T:D4 K mg A0)(F:Fun K "state_of" "state_of" z90 f fd)(C1:Cal P w K mg base 2 "held_for" z2E (z33 (ShD K A0)))
  (J9:Cal P w K mg base 4 "set_again" z5b (z6Q (ShD K A0))) (B3:D9 P w K mg base 1 A0 "had" z1l (z2Y (ShD K A0)))
  (B6:Cal P w K mg base 4 "dark_numbers_behind" z17 (z7O K)):B4 P w K mg base CX0 5 f fd z39 (z3O (ShD K A0)):=by
 have nd:=z9C.nd
 refine F.ok z9C (fun vs H Q E h=>?_) (fun cdv A outer s H vs Q E hr h=>?_)
 ·obtain⟨x,z,fp,nm,r,rows,had,rfl,_⟩:=h
  rfl
 obtain⟨x,z,fp,nm,r,rows,had,rfl,sh,hz,gn,R,l60,hh,r0,r1,k⟩:=h
 refine⟨_,(z04 (z0E (z0c z2p (z0b z09 rfl M.len bO (z00 (z0e J9 (rm hr) rfl (z00 (pv 0) (z00 (pv 1) z02))) z02)) z06 (z0o _)) (z05 (z0i (z1Y rfl M.STALE))) z0l) (z04 (z0p (i:=2) nd rfl (Or.inl rfl) (z0B z0C (z0e C1 (rm hr) rfl (z00 (pv 0) (z00 (pv 1) z02))) z06 (fun _ _=>rfl))) (z04 (z0p (i:=3) nd rfl (Or.inl rfl) (z0e B6 (rm hr) rfl (z00 (z1M B3 (rm hr) (pv 0)) (z00 (z0J (pv 0) rfl) (z00 (pv 2) z02))))) (z05 (z0i (z56 (z0c z2p (z0b z09 rfl M.len bO (z00 (pv 3) z02)) z06 (z0o _)) (z1Y rfl M.OPEN) (z1Y rfl M.SURE))))))),?_⟩
 refine(rdI rfl (rdI rfl (ex7 x z fp nm r rows had ⟨rfl,sh,hz,gn,R,l60,hh,r0,r1,fun v H1 s1 tv=>?_⟩)))
 obtain⟨a,xs,rfl,ea,_,ta⟩:=z0d tv
 have lx:=ta.length
 rw[b9] at lx
 refine(ex2 a xs ⟨rfl,.inr (SqT.of ea),(ex2 _ _ ⟨rfl,rfl,(rdI rfl (B9 (fun c=>?_) (fun c=>?_)))⟩)⟩)
 ·have c':=z0I c
  have e:=k H1 s1
  unfold z0X at e
  rw[if_pos (by lia)] at e
  exact e
 ·have c':=z4q c
  have sh1:=F1.same sh s1
  refine(rdI rfl (rdI rfl (ex7 x z fp nm r rows had ⟨rfl,sh1,hz,gn,R,fun v H2 s2 tv=>?_⟩)))
  obtain⟨b,y,rfl,eb,_⟩:=z3p tv
  refine(ex4 b _ _ _ ⟨rfl,rfl,SqT.of eb,z0R rfl,?_⟩)
  have sh2:=F1.same sh1 s2
  obtain⟨dx,fs,h1,lm,lr⟩:∃dx fs,H2 x=some (.ins A0 dx fs)/\fs.lookup ("had":Str)=none/\fs.lookup ("reach":Str)=some (V.int r):=by
   obtain⟨dx,pn,pd,fs,kvs,_,h1,_,_,_,_,lr,_,lm,_⟩:=sh2
   exact⟨dx,fs,h1,lm _ (by simp),lr⟩
  have h60:∀n∈z0a had,1≤n/\n≤60:=fun n hn=>by have:=hh n (z0Z.mp hn).2;lia
  refine(rdI rfl (ex3 x dx fs ⟨rfl,h1,lm,(ex6 x fp nm r _ had ⟨rfl,sh2,fun l H3 s3 e3=>?_⟩)⟩))
  refine(rdI rfl (ex5 x A0 dx fs _ ⟨rfl,s3 _ _ h1,T.cl,T.n_reach,lr,(rdI rfl (ex4 l (z0a had) r _ ⟨rfl,.inr (SqT.of e3),h60,cL (z2D had) (by decide),fun d H4 s4 e4=>?_⟩))⟩))
  have e:=k H4 (s1.trans (s2.trans (s3.trans s4)))
  unfold z0X at e
  rw[if_neg (by lia)] at e
  refine(rdI rfl (ex2 d _ ⟨rfl,.inr (SqT.of e4),(ex2 _ _ ⟨rfl,rfl,(rdI rfl ?_)⟩)⟩))
  rw[b9]
  refine B9 (fun c=>?_) (fun c=>?_)
  ·have c2:=z0I c
   rw[if_neg (fun z=>by rw[z8n.mpr z] at c2;exact absurd c2 (by decide))] at e
   exact e
  ·have c2:=z4q c
   rw[if_pos (z8n.mp (j6.mp (by lia)))] at e
   exact e
theorem y2Y(had:List Int):z0a (z0a had)=z0a had:=z1Z (z1W _) (z1W _) fun x=>by
 rw[z0Z,z0Z]
 exact⟨fun h=>h.2,fun h=>⟨h.1,h⟩⟩
noncomputable def z87(Sh:ShP):Sp:=fun vs H Q _=>∃(x:Addr) (z:Str) (fp:List Addr) (nm:List Str) (r:Int) (rows:List Row) (had:List Int),vs=[.ref x,.str z]/\Sh H x fp nm r (fun n=>z0N rows n r) had/\z∈nm/\E2 nm/\Rws nm rows/\rows.length≤60/\(∀n∈had,1≤n/\n≤rows.length)/\0≤r/\r≤10/\
 ∀(q:Addr) (y:V) (H':Hp),B0 H H'->H' q=some (.tup [.str (z0X (z0a had) rows r (z1k (z0S (z0a had) rows z)) z),.int (z1k (z0S (z0a had) rows z)),y])->B2 H' (y6y (z0S (z0a had) rows z)) y->Q (.ref q) H'
theorem y0q{A0:Addr}(M:Bl mg)(F:Fun K "state_and_held" "state_and_held" z31 f fd)(C1:Cal P w K mg base 2 "held_for" z2E (z33 (ShD K A0)))
  (C8:Cal P w K mg base 5 "state_of" z39 (z3O (ShD K A0))):B4 P w K mg base CX0 6 f fd z3d (z87 (ShD K A0)):=by
 have nd:=z4l.nd
 refine F.ok z4l (fun vs H Q E h=>?_) (fun cdv A outer s H vs Q E hr h=>?_)
 ·obtain⟨x,z,fp,nm,r,rows,had,rfl,_⟩:=h
  rfl
 obtain⟨x,z,fp,nm,r,rows,had,rfl,sh,hz,gn,R,l60,hh,r0,r1,k⟩:=h
 refine⟨_,(z05 (z0i (z0u (y2z (K:=K) rfl) (z0T (z00 (z0e C8 (rm hr) rfl (z00 (pv 0) (z00 (pv 1) z02))) z02)) (z0e C1 (rm hr) rfl (z00 (pv 0) (z00 (pv 1) z02)))))),?_⟩
 refine(rdI rfl (rdI rfl (ex7 x z fp nm r rows had ⟨rfl,sh,hz,gn,R,l60,hh,r0,r1,fun H1 s1=>?_⟩)))
 refine⟨(by show 1≤sizeLine;decide),fun a ha=>?_⟩
 have g2:=s1.trans (z01 ha (.tup [.str (z0X (z0a had) rows r (z1k (z0S (z0a had) rows z)) z)]))
 have e2:upd H1 a (.tup [.str (z0X (z0a had) rows r (z1k (z0S (z0a had) rows z)) z)]) a=some (.tup [.str (z0X (z0a had) rows r (z1k (z0S (z0a had) rows z)) z)]):=z03
 generalize upd H1 a (.tup [.str (z0X (z0a had) rows r (z1k (z0S (z0a had) rows z)) z)])=H2 at g2 e2
 refine(rdI rfl (rdI rfl (ex7 x z fp nm r rows had ⟨rfl,F1.same sh g2,hz,gn,R,fun v H3 s3 tv=>?_⟩)))
 obtain⟨b,y,rfl,eb,tb⟩:=z3p tv
 exact(ex4 a b _ _ ⟨rfl,rfl,SqT.of (s3 _ _ e2),SqT.of eb,by simp,(by show 3≤sizeLine;decide),fun z=>(nomatch z),fun _ q hq=>k q y _ (g2.trans (s3.trans (z01 hq _))) z03 (B2.keep (z01 hq _) _ _ tb)⟩)
theorem y0x{A0:Addr}(M:Bl mg)(T:D4 K mg A0)(F:Fun K "knowledge" "knowledge" z6T f fd)(K7:Cal P w K mg base 6 "state_and_held" z3d (z87 (ShD K A0))):B4 P w K mg base CX0 7 f fd z7c (y6C (ShD K A0)):=by
 have nd:=z8i.nd
 refine F.ok z8i (fun vs H Q E h=>?_) (fun cdv A outer s H vs Q E hr h=>?_)
 ·obtain⟨x,fp,nm,r,rows,had,rfl,_⟩:=h
  rfl
 obtain⟨x,fp,nm,r,rows,had,rfl,sh,gn,R,l60,hh,r0,r1,k⟩:=h
 refine⟨_,(z05 (z0i (z0s z0m rfl M.tuple bH (z00 (z15 ["name"] ["shelf"] [0] rfl (z0w rfl (by decide +kernel) rfl (by decide +kernel) rfl rfl) (z1L (z0J (pv 0) rfl)) (fun _ _ _ _ _=>(z0j (i:=0) (show((["name"]:List PySem.Str)++(["shelf"]:List PySem.Str)).Nodup from by decide +kernel) rfl (Or.inl rfl))) (z0y (by decide)) z0h (fun _ _ _ _ _=>z1E) (fun _ _ _ _ _=>(z0u (y2z (K:=K) rfl) (z0T (z00 (pv 0) z02)) (z0e K7 (rm hr) rfl (z00 (pv 1) (z00 (pv 0) z02)))))) z02)))),?_⟩
 obtain⟨dx,pn,fs,h1,h3,ln⟩:∃dx pn fs,H x=some (.ins A0 dx fs)/\H pn=some (.tup (nm.map V.str))/\fs.lookup ("names":Str)=some (V.ref pn):=by
  obtain⟨dx,pn,pd,fs,kvs,_,h1,_,h3,_,l1,_⟩:=sh
  exact⟨dx,pn,fs,h1,h3,l1⟩
 have n12:=gn.hi
 refine(rdI rfl (ex5 x A0 dx fs _ ⟨rfl,h1,T.cl,T.n_names,ln,pn,rfl,⟨_,SqT.of h3⟩,?_⟩))
 refine z1n (xs:=nm.map V.str) (fun i ys H'=>B0 H H'/\z08 H' ((nm.take i).map (X7 (z0a had) rows r)) ys) ⟨B0.refl _,by rw[cT];exact .nil⟩ (fun i ys H' hi hp=>?_) (fun i y ys H' hy hp=>?_) (fun ys H' hp=>?_)
 ·obtain⟨g,t⟩:=hp
  refine⟨SqT.of (g _ _ h3),z0f ?_⟩
  rw[t.length,b9,bG]
  lia
 ·obtain⟨g,t⟩:=hp
  rw[bC] at hy
  obtain⟨z,ez,rfl⟩:=bU.mp hy
  have hz:=bP ez
  have sh1:=F1.same sh g
  refine(rdI rfl ⟨(by show 1≤sizeLine;decide),fun a ha=>?_⟩)
  have g2:=z01 ha (.tup [.str z])
  have e2:upd H' a (.tup [.str z]) a=some (.tup [.str z]):=z03
  generalize upd H' a (.tup [.str z])=H2 at g2 e2
  refine(rdI rfl (rdI rfl (ex7 x z fp nm r rows had ⟨rfl,F1.same sh1 g2,hz,gn,R,l60,hh,r0,r1,fun b y H3 s3 eb tb=>?_⟩)))
  refine(ex4 a b _ _ ⟨rfl,rfl,SqT.of (s3 _ _ e2),SqT.of eb,by simp,(by show 4≤sizeLine;decide),fun z=>(nomatch z),fun _ q hq=>⟨g.trans (g2.trans (s3.trans (z01 hq _))),?_⟩⟩)
  rw[fH,ez,bF]
  refine z08.snoc (z08.keep (g2.trans (s3.trans (z01 hq _))) _ _ t) ?_
  unfold X7
  rw[y2Y]
  exact z0q z03 (by show 4≤1000000;decide) (.cons (z2B _) (.cons (z2B _) (.cons (z0H _) (.cons (B2.keep (z01 hq _) _ _ tb) .nil))))
 ·obtain⟨g,t⟩:=hp
  rw[b9,bT] at t
  intro D hD
  refine(ex2 D ys ⟨rfl,.inl ⟨SqL.of z03,fun q hq=>k _ _ (g.trans ((z01 hD _).trans (z01 hq _))) (z0q z03 ?_ (z08.keep ((z01 hD _).trans (z01 hq _)) _ _ t))⟩⟩)
  rw[b9]
  lia
noncomputable def y8g:D7->DV
 | (none,n)=>.tup [.str "write",.int n]
 | (some r,n)=>.tup [.str "deliver",.int r,.int n]
theorem y3r{H:Hp}{u:V}{d:D7}(h:z5u H u d):B2 H (y8g d) u:=by
 obtain⟨b,rfl,e⟩:=h
 obtain⟨a,n⟩:=d
 cases a with
 | none=>exact z0q e (by show 2≤1000000;decide) (.cons (z2B _) (.cons (z0H _) .nil))
 | some r=>exact z0q e (by show 3≤1000000;decide) (.cons (z2B _) (.cons (z0H _) (.cons (z0H _) .nil)))
theorem y4p{H:Hp}:∀{us:List V}{log:List D7},Paired (z5u H) us log->∀(i:Nat) (d:D7),log[i]? = some d->∃u,us[i]? = some u/\z5u H u d:=by
 intro us log h
 induction h with
 | nil=>intro i d e;simp at e
 | cons h t ih=>
  intro i d e
  cases i with
  | zero=>
   simp at e
   subst e
   exact(rdI rfl h)
  | succ i=>
   obtain⟨u,q1,q2⟩:=ih i d (by simpa using e)
   exact⟨u,by simpa using q1,q2⟩
noncomputable def y3b(Bk:BkP):Sp:=fun vs H Q _=>∃(p:Addr) (fp:List Addr) (zs:List Str) (r k:Int) (rows:List Row) (log:List D7),vs=[.ref p]/\Bk H p fp zs r k rows log/\∀H',B0 H H'->Q (.int rows.length) H'
noncomputable def y0n(Bk:BkP):Sp:=fun vs H Q _=>∃(p:Addr) (fp:List Addr) (zs:List Str) (r k:Int) (rows:List Row) (log:List D7) (n:Int),vs=[.ref p,.int n]/\Bk H p fp zs r k rows log/\1≤n/\n≤rows.length/\
 ∀(v:V) (H':Hp),B0 H H'->B2 H' (z0N rows n r) v->Q v H'
noncomputable def y6c(Bk:BkP):Sp:=fun vs H Q _=>∃(p:Addr) (fp:List Addr) (zs:List Str) (r k:Int) (rows:List Row) (log:List D7) (i:Nat) (d:D7),vs=[.ref p,.int ((i:Int)+1)]/\Bk H p fp zs r k rows log/\log[i]? = some d/\
 ∀v,B2 H (y8g d) v->Q v H
theorem y1x{B1 A6:Addr}(M:Bl mg)(T:L8 K mg B1)(F:Fun K "latest" "Book.latest" z4X f fd)(L3:D9 P w K mg base 1 A6 "latest" z3G (z9v (OfD K A6))):B4 P w K mg base CX0 2 f fd z7n (y3b (BkD K B1 A6)):=by
 have nd:=z6D.nd
 refine F.ok z6D (fun vs H Q E h=>?_) (fun cdv A outer s H vs Q E hr h=>?_)
 ·obtain⟨p,fp,zs,r,k,rows,log,rfl,_⟩:=h
  rfl
 obtain⟨p,fp,zs,r,k,rows,log,rfl,⟨dx,po,pd,fs,fo,us,rfl,B⟩,q⟩:=h
 refine⟨_,(z05 (z0i (z1M L3 (rm hr) (z0J (pv 0) rfl)))),?_⟩
 obtain⟨dxo,pno,plo,fso,xso,efo,h1,h2,h3,h4,l1,l2,l3,lmo,_⟩:=id B.of
 exact(rdI rfl (ex5 p B1 dx fs _ ⟨rfl,B.hp,T.cl,T.n_office,B.lo,(ex3 po dxo fso ⟨rfl,h1,lmo _ (by simp),(ex5 po fo zs r rows ⟨rfl,B.of,q⟩)⟩)⟩))
theorem y2I{B1 A6:Addr}(M:Bl mg)(T:L8 K mg B1)(F:Fun K "issue" "Book.issue" z5X f fd)(C7:D9 P w K mg base 1 A6 "issue" z2o (z6m (OfD K A6))):B4 P w K mg base CX0 2 f fd z64 (y0n (BkD K B1 A6)):=by
 have nd:=z7C.nd
 refine F.ok z7C (fun vs H Q E h=>?_) (fun cdv A outer s H vs Q E hr h=>?_)
 ·obtain⟨p,fp,zs,r,k,rows,log,n,rfl,_⟩:=h
  rfl
 obtain⟨p,fp,zs,r,k,rows,log,n,rfl,⟨dx,po,pd,fs,fo,us,rfl,B⟩,n1,n2,q⟩:=h
 refine⟨_,(z05 (z0i (z1I C7 (rm hr) (z0J (pv 0) rfl) (z00 (pv 1) z02)))),?_⟩
 obtain⟨dxo,pno,plo,fso,xso,efo,h1,h2,h3,h4,l1,l2,l3,lmo,_⟩:=id B.of
 exact(rdI rfl (ex5 p B1 dx fs _ ⟨rfl,B.hp,T.cl,T.n_office,B.lo,(ex3 po dxo fso ⟨rfl,h1,lmo _ (by simp),(rdI rfl (ex6 po fo zs r rows n ⟨rfl,B.of,n1,n2,q⟩))⟩)⟩))
theorem y5f{B1 A6:Addr}(M:Bl mg)(T:L8 K mg B1)(F:Fun K "deed" "Book.deed" z6G f fd):B4 P w K mg base CX0 1 f fd z9k (y6c (BkD K B1 A6)):=by
 have nd:=z95.nd
 refine F.ok z95 (fun vs H Q E h=>?_) (fun cdv A outer s H vs Q E hr h=>?_)
 ·obtain⟨p,fp,zs,r,k,rows,log,i,d,rfl,_⟩:=h
  rfl
 obtain⟨p,fp,zs,r,k,rows,log,i,d,rfl,⟨dx,po,pd,fs,fo,us,rfl,B⟩,ed,q⟩:=h
 refine⟨_,(z04 (z0E (PW.pt (z37 (z0c z9a (pv 1) z06 (z0o _)) (z25 (z0c z2p (pv 1) (z0b z09 rfl M.len bO (z00 (z0J (pv 0) rfl) z02)) (z0o _))))) (z05 z1N) z0l) (z05 (z0i (z0B z0Y (z0J (pv 0) rfl) (z0u z23 (pv 1) z06) (fun _ _=>rfl))))),?_⟩
 have lu:=z3M B.ds
 have hi:=(bV.mp ed).1
 obtain⟨u,eu,du⟩:=y4p B.ds i d ed
 have av:atI us ((i:Int)+1-1)=some u:=by
  rw[Int.add_sub_cancel]
  exact z0R eu
 refine(rdI rfl (ex2 _ _ ⟨rfl,rfl,(rdI rfl (B9 (fun q=>absurd (z0I q) (by lia)) fun _=>?_))⟩))
 refine(rdI rfl (rdI rfl (ex5 p B1 dx fs _ ⟨rfl,B.hp,T.cl,T.n_done,B.ld,(ex2 pd us ⟨rfl,.inl (SqL.of B.hd),(ex2 _ _ ⟨rfl,rfl,(rdI rfl (B9 (fun q=>absurd (z0I q) (by lia)) fun _=>?_))⟩)⟩)⟩)))
 exact(rdI rfl (ex5 p B1 dx fs _ ⟨rfl,B.hp,T.cl,T.n_done,B.ld,(rdI rfl (ex2 _ _ ⟨rfl,rfl,(ex4 pd us _ u ⟨rfl,rfl,SqL.of B.hd,av,q u (y3r du)⟩)⟩))⟩))
noncomputable def y5K(K:PySem.W.Frag):Sp:=fun vs H Q _=>∃(a:Addr) (ns:List Int),vs=[.ref a]/\SqL K H a (ns.map V.int)/\ns.length≤63/\∀H',Q (.bl true) H'
theorem y1Z{nm:List Str}{rows:List Row}(R:Rws nm rows)(h:nm.length≤12):∀w∈rows,w.length≤12:=fun w hw=>by
 have:=(R.sub w hw).length_le
 rw[b9] at this
 lia
theorem y2j{xs:List V}{k:Nat}(h:k≤xs.length):N7 xs none (some (k:Int))=xs.take k:=by
 unfold N7
 have e1:HT.sIx xs.length 0 none=0:=rfl
 have e2:HT.sIx xs.length xs.length (some (k:Int))=k:=by
  rw[HT.z9O,gY h]
 rw[e1,e2,fM,hV]
theorem y66{xs:List V}{k:Nat}(h:k≤xs.length):N7 xs (some (k:Int)) none=xs.drop k:=by
 unfold N7
 have e1:HT.sIx xs.length xs.length none=xs.length:=rfl
 have e2:HT.sIx xs.length 0 (some (k:Int))=k:=by
  rw[HT.z9O,gY h]
 rw[e1,e2,cO]
 rw[dA]
 exact bI _
theorem y2F{rows:List Row}{z:Str}:∀(ns:List Int),ns.Pairwise (· < ·)->(z0S ns rows z=none/\∀n∈ns,J0 (z0t rows n) z=none)\/∃n v,z0S ns rows z=some (n,v)/\n∈ns/\J0 (z0t rows n) z=some v/\∀m∈ns,n<m->J0 (z0t rows m) z=none:=by
 intro ns
 have rev:∀(l:List Int),l.reverse.Pairwise (· < ·)->(z0S l.reverse rows z=none/\∀n∈l.reverse,J0 (z0t rows n) z=none)\/∃n v,z0S l.reverse rows z=some (n,v)/\n∈l.reverse/\J0 (z0t rows n) z=some v/\∀m∈l.reverse,n<m->J0 (z0t rows m) z=none:=by
  intro l
  induction l with
  | nil=>intro _;exact .inl ⟨rfl,fun _ h=>(nomatch h)⟩
  | cons x l ih=>
   intro p
   rw[List.reverse_cons] at p ⊢
   obtain⟨p1,_,p2⟩:=cX.mp p
   rw[z7a]
   cases ev:J0 (z0t rows x) z with
   | some v=>
    refine .inr (ex2 x v ⟨rfl,cI _ (bB.mpr rfl),ev,fun m hm h=>?_⟩)
    rcases bS.mp hm with hm|hm
    ·have:=p2 m hm x (bB.mpr rfl)
     lia
    ·have:=bB.mp hm
     lia
   | none=>
    rcases ih p1 with ⟨h1,h2⟩|⟨n,v,h1,h2,h3,h4⟩
    ·refine .inl ⟨h1,fun n hn=>?_⟩
     rcases bS.mp hn with hn|hn
     ·exact h2 n hn
     ·rw[bB.mp hn]
      exact ev
    ·refine .inr ⟨n,v,h1,cQ _ h2,h3,fun m hm h=>?_⟩
     rcases bS.mp hm with hm|hm
     ·exact h4 m hm h
     ·rw[bB.mp hm]
      exact ev
 intro h
 have:=rev ns.reverse
 rw[gN] at this
 exact this h
theorem y6x{w:Row}{z:Str}(h:z∈z0x w):∃v,J0 w z=some v:=by
 cases e:J0 w z with
 | some v=>exact⟨v,rfl⟩
 | none=>
  refine absurd h ?_
  have go:∀(w:Row),J0 w z=none->z∉z0x w:=by
   intro w
   induction w with
   | nil=>intro _ h;exact(nomatch h)
   | cons p w ih=>
    intro hz
    rw[z8L] at hz
    unfold z0x
    rw[cS,bE,not_or]
    cases e2:J0 w z with
    | some v=>rw[e2] at hz;cases hz
    | none=>
     rw[e2] at hz
     refine⟨fun e3=>?_,ih e2⟩
     have hz':(if p.1=z then some p.2 else none)=none:=hz
     rw[if_pos e3.symm] at hz'
     cases hz'
  exact go w e
noncomputable def O5:Option (List Str)->DV
 | none=>.non
 | some zs=>L4 zs
noncomputable def z1K(hs:List Int)(rows:List Row)(r n:Int):Option (List Str):=if n∈hs\/z0F hs n r≠0 then some (z0x (z0t rows n)) else none
noncomputable def z0K(m:Nat)(hs:List Int)(rows:List Row)(r:Int):List (Option (List Str)):=(upI 1 m).map (z1K hs rows r)
noncomputable def z3Q(had:List Int)(m:Nat):Prop:=((m:Int)∈had\/(had=[]/\m=0))/\∀y∈had,y≤(m:Int)
theorem z0W(m:Nat)(hs:List Int)(rows:List Row)(r:Int):(z0K m hs rows r).length=m:=by
 unfold z0K
 rw[b9,z0L]
theorem z3Q.same{a b:List Int}{m:Nat}(h:z3Q a m)(e:∀x,x∈b↔x∈a):z3Q b m:=by
 refine⟨?_,fun y hy=>h.2 y ((e y).mp hy)⟩
 rcases h.1 with q|⟨q,q0⟩
 ·exact .inl ((e _).mpr q)
 ·refine .inr ⟨List.eq_nil_iff_forall_not_mem.mpr fun x hx=>?_,q0⟩
  have:=(e x).mp hx
  rw[q] at this
  cases this
theorem z3Q.le{a:List Int}{m:Nat}{k:Int}(h:z3Q a m)(hk:0≤k)(ha:∀x∈a,x≤k):(m:Int)≤k:=by
 rcases h.1 with q|⟨_,q⟩
 ·exact ha _ q
 ·lia
theorem y8d{nm:List Str}{rows:List Row}(R:Rws nm rows)(gn:E2 nm)(n:Int):(z0x (z0t rows n)).length≤12:=by
 have:=y1B gn R n
 unfold z0x
 rw[b9]
 exact this
theorem y71(hs:List Int)(h:∀x∈hs,1≤x/\x≤60):∃m:Nat,z3Q hs m:=by
 induction hs with
 | nil=>exact⟨0,.inr ⟨rfl,rfl⟩,fun _ q=>(nomatch q)⟩
 | cons x xs ih=>
  obtain⟨m,t⟩:=ih fun y hy=>h y (bZ _ hy)
  have hx:=h x cC
  by_cases c:(m:Int)≤x
  ·refine⟨x.toNat,.inl ?_,fun y hy=>?_⟩
   ·rw[show((x.toNat:Nat):Int)=x by lia]
    exact cC
   ·rcases bE.mp hy with rfl|hy
    ·lia
    ·have:=t.2 y hy
     lia
  ·refine⟨m,.inl ?_,fun y hy=>?_⟩
   ·rcases t.1 with q|⟨_,q⟩
    ·exact bZ _ q
    ·lia
   ·rcases bE.mp hy with rfl|hy
    ·lia
    ·exact t.2 y hy
noncomputable def y1s(Sh:ShP):Sp:=fun vs H Q _=>∃(x:Addr) (fp:List Addr) (nm:List Str) (r:Int) (iss:Int->DV) (had:List Int),vs=[.ref x]/\Sh H x fp nm r iss had/\(∀n∈had,1≤n/\n≤60)/\
 ∀(H':Hp),B0 H H'->Q (.int (2^((z1B (z0a had) r).length*nm.length))) H'
theorem y8p(M:Bl mg)(F:Fun K "two_to_the" "two_to_the" z61 f fd):B4 P w K mg base CX0 1 f fd z40 z3L:=by
 have nd:=z7r.nd
 refine F.ok z7r (fun vs H Q E h=>?_) (fun cdv A outer s H vs Q E hr h=>?_)
 ·obtain⟨t,rfl,_⟩:=h
  rfl
 obtain⟨t,rfl,t0,t1,q⟩:=h
 refine⟨_,(z04 (z0p (i:=1) nd rfl (Or.inl rfl) z06) (z04 (z0O bR rfl (z1b rfl M.range (z00 (pv 0) z02)) (z0j (i:=2) nd rfl (Or.inl rfl)) (z05 (z0p (i:=1) nd rfl (Or.inl rfl) (z0u z4V (pv 1) z06)))) (z05 (z0i (pv 1))))),?_⟩
 refine(rdI rfl (rdI rfl ⟨by lia,by lia,?_⟩))
 refine z13 (lo:=0) (n:=t.toNat) (fun i σ H'=>H'=H/\∃o,σ=[some (.int t),some (.int (2^i)),o]) ⟨rfl,_,rfl⟩ (fun i σ H' hi hp=>?_) (fun σ H' hp=>?_)
 ·obtain⟨rfl,o,rfl⟩:=hp
  refine(rdI rfl (ex2 _ _ ⟨rfl,rfl,.inr ⟨by decide,by decide⟩,rfl,some (.int (0+(i:Int))),?_⟩))
  rw[Int.pow_succ]
  rfl
 ·obtain⟨rfl,o,rfl⟩:=hp
  exact(rdI rfl q)
theorem y5G{A0:Addr}(M:Bl mg)(T:D4 K mg A0)(F:Fun K "course_count" "course_count" z4j f fd)(B3:D9 P w K mg base 1 A0 "had" z1l (z2Y (ShD K A0)))
  (D0:Cal P w K mg base 3 "dark_numbers" z2m (y2i K)) (I0:Cal P w K mg base 1 "two_to_the" z40 z3L):B4 P w K mg base CX0 4 f fd z2U (y1s (ShD K A0)):=by
 have nd:=z5s.nd
 refine F.ok z5s (fun vs H Q E h=>?_) (fun cdv A outer s H vs Q E hr h=>?_)
 ·obtain⟨x,fp,nm,r,iss,had,rfl,_⟩:=h
  rfl
 obtain⟨x,fp,nm,r,iss,had,rfl,sh,hh,k⟩:=h
 refine⟨_,(z04 (z0p (i:=1) nd rfl (Or.inl rfl) (z0e D0 (rm hr) rfl (z00 (z1M B3 (rm hr) (pv 0)) (z00 (z0J (pv 0) rfl) z02)))) (z05 (z0i (z0e I0 (rm hr) rfl (z00 (z0u z4V (z0b z09 rfl M.len bO (z00 (pv 1) z02)) (z0b z09 rfl M.len bO (z00 (z0J (pv 0) rfl) z02))) z02))))),?_⟩
 obtain⟨dx,pn,fs,h1,h3,ln,lr,lm,gn⟩:∃dx pn fs,H x=some (.ins A0 dx fs)/\H pn=some (.tup (nm.map V.str))/\fs.lookup ("names":Str)=some (V.ref pn)/\fs.lookup ("reach":Str)=some (V.int r)/\fs.lookup ("had":Str)=none/\E2 nm:=by
  obtain⟨dx,pn,pd,fs,kvs,_,h1,_,h3,_,l1,l2,_,lm,_,_,_,_,gn,_⟩:=sh
  exact⟨dx,pn,fs,h1,h3,l1,l2,lm _ (by simp),gn⟩
 have h60:∀n∈z0a had,1≤n/\n≤60:=fun n hn=>hh n (z0Z.mp hn).2
 refine(rdI rfl (ex3 x dx fs ⟨rfl,h1,lm,(ex6 x fp nm r _ had ⟨rfl,sh,fun l H1 s1 e1=>?_⟩)⟩))
 refine(rdI rfl (ex5 x A0 dx fs _ ⟨rfl,s1 _ _ h1,T.cl,T.n_reach,lr,(ex3 l (z0a had) r ⟨rfl,.inr (SqT.of e1),h60,cL (z2D had) (by decide),fun d H2 s2 e2=>?_⟩)⟩))
 have s12:=s1.trans s2
 have ld:((z1B (z0a had) r).map V.int).length=(z1B (z0a had) r).length:=b9 _
 have lm':(nm.map V.str).length=nm.length:=b9 _
 have l60:=z3X (z0a had) r
 have n12:=gn.hi
 have lt:(z1B (z0a had) r).length*nm.length≤60*12:=Nat.mul_le_mul l60 n12
 refine(rdI rfl (ex2 d _ ⟨rfl,.inr (SqT.of e2),(rdI rfl (ex5 x A0 dx fs _ ⟨rfl,s12 _ _ h1,T.cl,T.n_names,ln,(ex2 pn _ ⟨rfl,.inr (SqT.of (s12 _ _ h3)),(ex2 _ _ ⟨rfl,rfl,?_,(rdI rfl ⟨?_,?_,?_⟩)⟩)⟩)⟩))⟩))
 ·rw[ld]
  exact .inl ⟨by lia,by lia⟩
 ·exact Int.mul_nonneg (j0 _) (j0 _)
 ·rw[ld,lm',<- jR]
  lia
 ·rw[ld,lm',<- jR,fF]
  exact k H2 s12
theorem z7T(ns:List Int)(r:Int):z1B ns r=(z1i ns).filter fun n=>decide (z0F ns n r=0):=by
 unfold z1B S0
 rw[List.filter_map,dR]
 exact List.map_id _
theorem y5o{ns:List Int}{r:Int}(i:Nat):(((upI 1 (i+1)).filter fun x=>!decide (x∈ns)).filter fun n=>decide (z0F ns n r=0))=(((upI 1 i).filter fun x=>!decide (x∈ns)).filter fun n=>decide (z0F ns n r=0))++(if (1:Int)+(i:Int)∈ns then [] else if z0F ns (1+(i:Int)) r=0 then [1+(i:Int)] else []):=by
 rw[z6v,dH]
 by_cases h:(1:Int)+(i:Int)∈ns
 ·rw[if_pos h,if_pos h]
  rfl
 ·rw[if_neg h,if_neg h,dM]
  by_cases c:z0F ns (1+(i:Int)) r=0
  ·rw[if_pos c,decide_eq_true c]
   rfl
  ·rw[if_neg c,decide_eq_false c]
   rfl
noncomputable def y4Z(K:PySem.W.Frag):Sp:=fun vs H Q _=>∃(p:Addr) (ns:List Int) (r:Int),vs=[.ref p,.int r]/\H p=some (.lst (ns.map V.int))/\(∀x∈ns,1≤x/\x≤60)/\ns.length≤900/\0≤r/\
 ∀(l:Addr) (H':Hp),H l=none->B0 H H'->H' l=some (.lst ((z1B ns r).map V.int))->Q (.ref l) H'
theorem y6h(M:Bl mg)(F:Fun K "_law_dark" "_law_dark" z79 f fd)(C4:Cal P w K mg base 1 "_law_teller" z2h (z4E K)):B4 P w K mg base CX0 2 f fd z6U (y4Z K):=by
 have nd:=z8z.nd
 refine F.ok z8z (fun vs H Q E h=>?_) (fun cdv A outer s H vs Q E hr h=>?_)
 ·obtain⟨p,ns,r,rfl,_⟩:=h
  rfl
 obtain⟨p,ns,r,rfl,hP,C0,hlen,r0,q⟩:=h
 refine⟨_,(z04 (z0p (i:=2) nd rfl (Or.inl rfl) (z1d z02)) (z04 (z0O bR rfl (z3P rfl M.range (z00 z06 (z00 (z0b (z30 rfl) rfl M.max dD (z00 (z0u z9m (pv 0) (z1d (z00 z06 z02))) z02)) z02))) (z0j (i:=3) nd rfl (Or.inl rfl)) (z05 (z0E (PW.pt (z3l (z0c z1x (pv 3) (pv 0) (by with_unfolding_all rfl)) (z2k (z0c z2F (z0e C4 (rm hr) rfl (z00 (pv 0) (z00 (pv 3) (z00 (pv 1) z02)))) z06 (z0o _))))) (z05 (z0D (z2O bW bX bY z0Q (pv 2) (z00 (pv 3) z02)))) z0l))) (z05 (z0i (pv 2))))),?_⟩
 refine⟨(by show 0≤sizeLine;decide),fun lg hlg=>?_⟩
 have s1:=z01 hlg (.lst [])
 refine(rdI rfl ⟨(by show 1≤sizeLine;decide),fun l0 hl0=>(ex4 p l0 _ _ ⟨rfl,rfl,z01 hl0 _ _ _ (s1 _ _ hP),z03,?_,fun lc hlc=>?_⟩)⟩)
 ·rw[b9]
  exact dX (z0f (by show ns.length+1≤1000;lia))
 have s2:=s1.trans ((z01 hl0 (.lst [V.int 0])).trans (z01 hlc (.lst (ns.map V.int++[V.int 0]))))
 have eg:upd (upd (upd H lg (.lst [])) l0 (.lst [V.int 0])) lc (.lst (ns.map V.int++[V.int 0])) lg=some (.lst []):=(z01 hl0 _).trans (z01 hlc _) _ _ z03
 have ec:upd (upd (upd H lg (.lst [])) l0 (.lst [V.int 0])) lc (.lst (ns.map V.int++[V.int 0])) lc=some (.lst ((ns++[0]).map V.int)):=by
  rw[z03,bF]
  rfl
 generalize upd (upd (upd H lg (.lst [])) l0 (.lst [V.int 0])) lc (.lst (ns.map V.int++[V.int 0]))=H2 at s2 eg ec
 refine(ex2 lc (ns++[0]) ⟨rfl,.inl (SqL.of ec),by simp,fun m hm top=>?_⟩)
 have hm':m∈ns\/(ns=[]/\m=0):=by
  rcases bS.mp hm with h|h
  ·exact .inl h
  ·rw[bB] at h
   subst h
   cases ns with
   | nil=>exact .inr ⟨rfl,rfl⟩
   | cons x xs=>
    have h1:=top x (by simp)
    have h2:=C0 x cC
    lia
 have m60:0≤m/\m≤60:=by
  rcases hm' with h|⟨_,h⟩
  ·have:=C0 m h
   lia
  ·lia
 have w0m:∀y∈ns,y≤m:=fun y hy=>top y (cQ _ hy)
 refine(ex2 1 m ⟨rfl,⟨by decide,by decide,by lia,by lia⟩,?_⟩)
 refine z13 (lo:=1) (n:=(m-1).toNat) (fun i σ H'=>∃(o1:Option V),B0 H H'/\H' lg=some (.lst ((((upI 1 i).filter fun x=>!decide (x∈ns)).filter fun n=>decide (z0F ns n r=0)).map V.int))/\
   σ=[some (.ref p),some (.int r),some (.ref lg),o1]) ⟨none,s2,eg,rfl⟩ (fun i σ H' hi hp=>?_) (fun σ H' hp=>?_)
 ·obtain⟨o1,g,eG,rfl⟩:=hp
  have lz:((((upI 1 i).filter fun x=>!decide (x∈ns)).filter fun n=>decide (z0F ns n r=0)).map V.int).length≤i:=by
   rw[b9]
   have h1:=c6 (fun x=>!decide (x∈ns)) (upI 1 i)
   have h2:=c6 (fun n=>decide (z0F ns n r=0)) ((upI 1 i).filter fun x=>!decide (x∈ns))
   rw[z0L] at h1
   lia
  refine(rdI rfl (rdI rfl (ex2 p _ ⟨rfl,.inl (SqL.of (g _ _ hP)),rfl,z2c ns,(rdI rfl ?_)⟩)))
  rw[if_pos rfl,z2A,y5o]
  by_cases hin:(1:Int)+(i:Int)∈ns
  ·rw[decide_eq_true hin,if_pos hin,cR]
   exact B8 (B8 ⟨_,g,eG,rfl⟩)
  ·rw[decide_eq_false hin,if_neg hin]
   refine F6 (rdI rfl (rdI rfl (rdI rfl (ex4 p ns (1+(i:Int)) r ⟨rfl,SqL.of (g _ _ hP),C0,hlen,r0,fun H3 s3=>⟨rfl,(rdI rfl ?_)⟩⟩))))
   refine B9 (fun c=>?_) (fun c=>?_)
   ·have c0:z0F ns (1+(i:Int)) r=0:=by
     have:=z0I c
     injection this
    rw[if_pos c0,bF]
    refine(rdI rfl ⟨.inl ⟨rfl,_,SqL.of (s3 _ _ eG)⟩,(rdI rfl (ex3 lg _ _ ⟨rfl,rfl,s3 _ _ eG,z0f (by lia),?_⟩))⟩)
    exact⟨_,z1y (g.trans s3) hlg,z03,rfl⟩
   ·have c0:z0F ns (1+(i:Int)) r≠0:=fun e=>z4q c (by rw[e])
    rw[if_neg c0,cR]
    exact⟨_,g.trans s3,s3 _ _ eG,rfl⟩
 ·obtain⟨o1,g,eG,rfl⟩:=hp
  rw[y0Q hm' C0 w0m,<- z7T] at eG
  exact(rdI rfl (q lg H' hlg g eG))
structure X0(ns:List Int)(r b:Int)(fs as:List Int):Prop where
 len:fs.length=as.length
 fr:fs.Pairwise (· < ·)
 ar:as.Pairwise fun x y=>x+r<y
 lack:∀x∈fs,x∈z1i ns
 cov:∀d∈z14 ns r b,∃x∈fs,d≤x/\x≤d+r
 mem:∀a∈as,a∈z14 ns r b
noncomputable def y4C(H:Hp)(v:V)(ns:List Int)(r b:Int):Prop:=∃(l lf la:Addr) (fs as:List Int),v=.ref l/\H l=some (.tup [.ref lf,.ref la])/\H lf=some (.tup (fs.map V.int))/\H la=some (.tup (as.map V.int))/\X0 ns r b fs as
noncomputable def y2s(K:PySem.W.Frag):Sp:=fun vs H Q _=>∃(p:Addr) (ns:List Int) (r b:Int),vs=[.ref p,.int r,.int b]/\SqI K H p ns/\(∀x∈ns,1≤x/\x≤60)/\ns.length≤900/\0≤r/\
 ∀(v:V) (H':Hp),B0 H H'->y4C H' v ns r b->Q v H'
theorem z9E{ns:List Int}{n r:Int}(C0:∀x∈ns,1≤x/\x≤60)(h:z0F ns n r=0):∀y∈ns,n<y->¬y-r≤n:=fun y hy h1 h2=>by
 unfold z0F at h
 cases e:(upI 1 60).find? (y1r ns n r) with
 | none=>exact jX.mp e y (z1e.mpr (by have:=C0 y hy;lia)) (z4z.mpr ⟨h1,h2,hy⟩)
 | some t=>
  rw[e] at h
  have:=z1e.mp (gZ e)
  have h':t=0:=h
  lia
theorem y3i{ns:List Int}{r n:Int}:n∈z1B ns r↔n∈z1i ns/\z0F ns n r=0:=by
 rw[z7T,cK,decide_eq_true_eq]
theorem y3V{ns:List Int}{r n:Int}(C0:∀x∈ns,1≤x/\x≤60)(r0:0≤r)(h:n∈z1B ns r):n+r∈z1i ns:=by
 obtain⟨h1,h2⟩:=y3i.mp h
 have z:=z9E C0 h2
 obtain⟨a,b,y,hy,c⟩:=z0U.mp h1
 have:=C0 y hy
 have:=z y hy c
 refine z0U.mpr ⟨by lia,fun hn=>?_,y,hy,by lia⟩
 rcases Int.lt_or_le n (n+r) with q|q
 ·exact z _ hn q (by lia)
 ·have e:n+r=n:=by lia
  rw[e] at hn
  exact b hn
structure Gr(ds:List Int)(r:Int)(as:List Int):Prop where
 ar:as.Pairwise fun x y=>x+r<y
 mem:∀a∈as,a∈ds
 cov:∀d∈ds,∃a∈as,a≤d/\d≤a+r
theorem Gr.add{ds:List Int}{r d:Int}{as:List Int}(g:Gr ds r as)(h:∀a∈as,a+r<d)(r0:0≤r):Gr (ds++[d]) r (as++[d]) where
 ar:=cX.mpr ⟨g.ar,eF _ _,fun x hx y hy=>by rw[bB.mp hy];exact h x hx⟩
 mem a ha:=by
  rcases bS.mp ha with ha|ha
  ·exact cQ _ (g.mem a ha)
  ·exact cI _ ha
 cov x hx:=by
  rcases bS.mp hx with hx|hx
  ·obtain⟨a,ha,q⟩:=g.cov x hx
   exact⟨a,cQ _ ha,q⟩
  ·rw[bB.mp hx]
   exact⟨d,cI _ (bB.mpr rfl),eS _,by lia⟩
theorem Gr.skip{ds:List Int}{r d a:Int}{as:List Int}(g:Gr ds r as)(ha:a∈as)(h1:a≤d)(h2:d≤a+r):Gr (ds++[d]) r as where
 ar:=g.ar
 mem a ha:=cQ _ (g.mem a ha)
 cov x hx:=by
  rcases bS.mp hx with hx|hx
  ·exact g.cov x hx
  ·rw[bB.mp hx]
   exact⟨a,ha,h1,h2⟩
theorem Gr.plan{ns:List Int}{r b:Int}{as:List Int}(g:Gr (z14 ns r b) r as)(C0:∀x∈ns,1≤x/\x≤60)(r0:0≤r):X0 ns r b (as.map (·+r)) as where
 len:=b9 _
 fr:=by
  rw[dO]
  exact g.ar.imp fun h=>by lia
 ar:=g.ar
 lack x hx:=by
  obtain⟨a,ha,rfl⟩:=cM.mp hx
  exact y3V C0 r0 (cK.mp (g.mem a ha)).1
 cov d hd:=by
  obtain⟨a,ha,h1,h2⟩:=g.cov d hd
  exact⟨a+r,cM.mpr ⟨a,ha,rfl⟩,h2,by lia⟩
 mem:=g.mem
theorem y35{as:List Int}(h:as≠[]):∃(init:List Int) (z:Int),as=init++[z]:=⟨as.dropLast,as.getLast h,(List.dropLast_concat_getLast h).symm⟩
theorem y4K(M:Bl mg)(F:Fun K "fewest_numbers" "fewest_numbers" z35 f fd)(B6:Cal P w K mg base 4 "dark_numbers_behind" z17 (z7O K)):B4 P w K mg base CX0 5 f fd z3h (y2s K):=by
 have nd:=z4t.nd
 refine F.ok z4t (fun vs H Q E h=>?_) (fun cdv A outer s H vs Q E hr h=>?_)
 ·obtain⟨p,ns,r,b,rfl,_⟩:=h
  rfl
 obtain⟨p,ns,r,b,rfl,hS,C0,hlen,r0,q⟩:=h
 refine⟨_,(z04 (z0p (i:=3) nd rfl (Or.inl rfl) (z1d z02)) (z04 (z0p (i:=4) nd rfl (Or.inl rfl) (z1d z02)) (z04 (z0O bR rfl (z1L (z0e B6 (rm hr) rfl (z00 (pv 0) (z00 (pv 1) (z00 (pv 2) z02))))) (z0j (i:=5) nd rfl (Or.inl rfl)) (z05 (z0E (PW.pt (z37 (z0c z2F (z0b z09 rfl M.len bO (z00 (pv 3) z02)) z06 (z0o _)) (z25 (z0c z2p (pv 5) (z0B z0Y (pv 3) (y7I y4z z06) (fun _ _=>rfl)) (z0o _))))) (z04 (z0D (z2O bW bX bY z0Q (pv 3) (z00 (z0u z1u (pv 5) (pv 1)) z02))) (z05 (z0D (z2O bW bX bY z0Q (pv 4) (z00 (pv 5) z02))))) z0l))) (z05 (z0i (z0T (z00 (z0s z0m rfl M.tuple bH (z00 (pv 3) z02)) (z00 (z0s z0m rfl M.tuple bH (z00 (pv 4) z02)) z02)))))))),?_⟩
 refine⟨(by show 0≤sizeLine;decide),fun lf hlf=>⟨(by show 0≤sizeLine;decide),fun la hla=>?_⟩⟩
 have s1:=(z01 hlf (.lst [])).trans (z01 hla (.lst []))
 have ef:upd (upd H lf (.lst [])) la (.lst []) lf=some (.lst []):=z01 hla _ _ _ z03
 have ea:upd (upd H lf (.lst [])) la (.lst []) la=some (.lst []):=z03
 have nfa:lf≠la:=z0r z03 hla
 have hla':H la=none:=(z01 hlf _).free hla
 generalize upd (upd H lf (.lst [])) la (.lst [])=H1 at s1 ef ea
 refine(rdI rfl (rdI rfl (rdI rfl (ex4 p ns r b ⟨rfl,SqI.keep s1 hS,C0,hlen,fun lt H2 s2 e2=>?_⟩))))
 have ld:(z14 ns r b).length≤60:=cL (c6 _ _) (z3X ns r)
 have rise:(z14 ns r b).Pairwise (· < ·):=by
  unfold z14
  rw[z7T]
  exact((z2t ns).filter _).filter _
 refine⟨lt,rfl,⟨_,SqT.of e2⟩,z52 (K:=K) (a:=lt) (xs:=(z14 ns r b).map V.int) (fun i σ H'=>∃(as:List Int) (o:Option V),B0 H H'/\H' lt=some (.tup ((z14 ns r b).map V.int))/\H' lf=some (.lst ((as.map (·+r)).map V.int))/\H' la=some (.lst (as.map V.int))/\as.length≤i/\Gr ((z14 ns r b).take i) r as/\
  σ=[some (.ref p),some (.int r),some (.int b),some (.ref lf),some (.ref la),o]) ⟨[],none,s1.trans s2,e2,s2 _ _ ef,s2 _ _ ea,bI 0,⟨.nil,fun _ h=>(nomatch h),fun _ h=>(nomatch h)⟩,rfl⟩ (fun i σ H' _ hp=>?_) (fun i x σ H' hx hp=>?_) (fun σ H' hp=>?_)⟩
 ·obtain⟨as,o,g,e,_⟩:=hp
  exact SqT.of e
 ·obtain⟨as,o,g,e,e3,e4,li,G,rfl⟩:=hp
  rw[bC] at hx
  obtain⟨d,ed,rfl⟩:=bU.mp hx
  have hi:i<(z14 ns r b).length:=(bV.mp ed).1
  have lm1:((as.map (·+r)).map V.int).length=as.length:=by rw[b9,b9]
  have lm2:(as.map V.int).length=as.length:=b9 _
  have up:(∀a∈as,a+r<d)->∃(as':List Int) (o:Option V),B0 H (upd (upd H' lf (.lst ((as.map (·+r)).map V.int++[V.int (d+r)]))) la (.lst (as.map V.int++[V.int d])))/\upd (upd H' lf (.lst ((as.map (·+r)).map V.int++[V.int (d+r)]))) la (.lst (as.map V.int++[V.int d])) lt=some (.tup ((z14 ns r b).map V.int))/\
    upd (upd H' lf (.lst ((as.map (·+r)).map V.int++[V.int (d+r)]))) la (.lst (as.map V.int++[V.int d])) lf=some (.lst ((as'.map (·+r)).map V.int))/\upd (upd H' lf (.lst ((as.map (·+r)).map V.int++[V.int (d+r)]))) la (.lst (as.map V.int++[V.int d])) la=some (.lst (as'.map V.int))/\as'.length≤i+1/\Gr ((z14 ns r b).take (i+1)) r as'/\
    [some (V.ref p),some (V.int r),some (V.int b),some (V.ref lf),some (V.ref la),some (V.int d)]=[some (V.ref p),some (V.int r),some (V.int b),some (V.ref lf),some (V.ref la),o]:=fun h=>by
   refine⟨as++[d],_,z1y (z1y g hlf) hla',?_,?_,?_,?_,?_,rfl⟩
   ·rw[z0k (z5l e e4 (by intro z;cases z)),z0k (z5l e e3 (by intro z;cases z))]
    exact e
   ·rw[z0k nfa,z03,bF,bF]
    rfl
   ·rw[z03,bF]
    rfl
   ·rw[bN]
    exact Nat.succ_le_succ li
   ·rw[z0n ed]
    exact G.add h r0
  refine(rdI rfl (ex2 lf _ ⟨rfl,.inl (SqL.of e3),rfl,(rdI rfl ?_)⟩))
  rw[lm1]
  refine B9 (fun c=>?_) (fun c=>?_)
  ·have c0:as=[]:=j6.mp (by have:=z0I c;injection this with this;lia)
   refine(rdI rfl ⟨.inl ⟨rfl,_,SqL.of e3⟩,(rdI rfl (rdI rfl (ex2 _ _ ⟨rfl,rfl,(ex3 lf _ _ ⟨rfl,rfl,e3,z0f (by lia),?_⟩)⟩)))⟩)
   refine(rdI rfl ⟨.inl ⟨rfl,_,SqL.of (by rw[z0k (dC nfa)];exact e4)⟩,(rdI rfl (ex3 la _ _ ⟨rfl,rfl,(by rw[z0k (dC nfa)];exact e4),z0f (by lia),?_⟩))⟩)
   exact up fun a ha=>by rw[c0] at ha;cases ha
  ·have c0:as≠[]:=fun z=>c (by rw[z];rfl)
   obtain⟨init,z,ez⟩:=y35 c0
   refine(rdI rfl (rdI rfl (rdI rfl (ex4 lf _ _ (V.int (z+r)) ⟨rfl,rfl,SqL.of e3,(by rw[ez,bF,bF];exact y60 _ _),(ex2 _ _ ⟨rfl,rfl,(rdI rfl ?_)⟩)⟩))))
   have hz:z∈as:=by rw[ez];exact cI _ (bB.mpr rfl)
   refine B9 (fun c=>?_) (fun c=>?_)
   ·have c1:=z0I c
    refine(rdI rfl ⟨.inl ⟨rfl,_,SqL.of e3⟩,(rdI rfl (rdI rfl (ex2 _ _ ⟨rfl,rfl,(ex3 lf _ _ ⟨rfl,rfl,e3,z0f (by lia),?_⟩)⟩)))⟩)
    refine(rdI rfl ⟨.inl ⟨rfl,_,SqL.of (by rw[z0k (dC nfa)];exact e4)⟩,(rdI rfl (ex3 la _ _ ⟨rfl,rfl,(by rw[z0k (dC nfa)];exact e4),z0f (by lia),?_⟩))⟩)
    refine up fun a ha=>?_
    have hp:=G.ar
    rw[ez] at ha hp
    rcases bS.mp ha with h|h
    ·have:=(cX.mp hp).2.2 a h z (bB.mpr rfl)
     lia
    ·rw[bB.mp h]
     exact c1
   ·have c1:=z4q c
    refine⟨as,_,g,e,e3,e4,by lia,?_,rfl⟩
    rw[z0n ed]
    refine G.skip hz ?_ (by lia)
    have h1:=G.mem z hz
    have h2:((z14 ns r b).take i++[d]).Pairwise (· < ·):=by
     rw[<- z0n ed]
     exact rise.sublist (List.take_sublist _ _)
    exact Int.le_of_lt ((cX.mp h2).2.2 z h1 d (bB.mpr rfl))
 ·obtain⟨as,o,g,e,e3,e4,li,G,rfl⟩:=hp
  rw[b9,bT] at G
  refine(rdI rfl (ex2 lf _ ⟨rfl,.inl ⟨SqL.of e3,fun t1 ht1=>(rdI rfl (ex2 la _ ⟨rfl,.inl ⟨SqL.of (z01 ht1 _ _ _ e4),fun t2 ht2=>⟨(by show 2≤sizeLine;decide),fun t ht=>?_⟩⟩⟩))⟩⟩))
  exact q _ _ (g.trans ((z01 ht1 _).trans ((z01 ht2 _).trans (z01 ht _)))) (ex5 t t1 t2 _ _ ⟨rfl,z03,z01 ht _ _ _ (z01 ht2 _ _ _ z03),z01 ht _ _ _ z03,G.plan C0 r0⟩)
noncomputable def y6B(K:PySem.W.Frag):Sp:=fun vs H Q _=>∃(v:V) (p:Addr) (ns:List Int) (r b:Int),vs=[v,.ref p,.int r,.int b]/\y4C H v ns r b/\H p=some (.lst (ns.map V.int))/\(∀x∈ns,1≤x/\x≤60)/\ns.length≤900/\0≤r/\∀H',B0 H H'->Q (.bl true) H'
theorem y59{l:List Int}{R:Int->Int->Prop}(h:l.Pairwise R){i:Nat}{x y:Int}(h1:l[i]? = some x)(h2:l[i+1]? = some y):R x y:=by
 obtain⟨a1,e1⟩:=bV.mp h1
 obtain⟨a2,e2⟩:=bV.mp h2
 rw[<- e1,<- e2]
 exact fK.mp h i (i+1) a1 a2 (by lia)
theorem y7c(M:Bl mg)(F:Fun K "_law_plan" "_law_plan" z6O f fd)(G0:Cal P w K mg base 1 "_law_whole" z48 y1j)(P7:Cal P w K mg base 2 "_law_dark" z6U (y4Z K)):B4 P w K mg base CX0 3 f fd z78 (y6B K):=by
 have nd:=z8C.nd
 refine F.ok z8C (fun vs H Q E h=>?_) (fun cdv A outer s H vs Q E hr h=>?_)
 ·obtain⟨v,p,ns,r,b,rfl,_⟩:=h
  rfl
 obtain⟨v,p,ns,r,b,rfl,⟨l,lf,la,fs,as,rfl,hl,hf,ha,B⟩,hP,C0,hlen,r0,q⟩:=h
 refine⟨_,(z04 (z0E (PW.pt (z37 (z22 (z1Q (z0b z0M rfl M.isinstance cH (z00 (pv 0) (z00 (z28 (v:=.ty "tuple") rfl M.tuple bH rfl) z02))))) (z25 (z0c z7g (z0b z09 rfl M.len bO (z00 (pv 0) z02)) z06 (z0o _))))) (z05 (z0i z1P)) z0l) (z04 (z0O bR rfl (z1L (pv 0)) (z0j (i:=4) nd rfl (Or.inl rfl)) (z04 (z0E (z22 (z1Q (z0b z0M rfl M.isinstance cH (z00 (pv 4) (z00 (z28 (v:=.ty "tuple") rfl M.tuple bH rfl) z02))))) (z05 (z0i z1P)) z0l) (z05 (z0O bR rfl (z1b rfl M.range (z00 (z0b z09 rfl M.len bO (z00 (pv 4) z02)) z02)) (z0j (i:=5) nd rfl (Or.inl rfl)) (z05 (z0E (PW.pt (z37 (z22 (z1Q (z0e G0 (rm hr) rfl (z00 (z0B z0C (pv 4) (pv 5) (fun _ _=>rfl)) z02)))) (z25 (PW.pt (z3l (z0c z2p (pv 5) z06 (z0o _)) (z2k (z0c y4j (z0B z0C (pv 4) (z0u z23 (pv 5) z06) (fun _ _=>rfl)) (z0B z0C (pv 4) (pv 5) (fun _ _=>rfl)) (z0o _)))))))) (z05 (z0i z1P)) z0l)))))) (z04 (z5C (i:=6) ["_law_number"] ["_law_behind"] [3] rfl nd rfl (Or.inl rfl) (z0w rfl (by decide +kernel) rfl (by decide +kernel) rfl rfl) (z16 (z0e P7 (rm hr) rfl (z00 (pv 1) (z00 (pv 2) z02)))) (fun _ _ _ _ _=>(z0j (i:=0) (show((["_law_number"]:List PySem.Str)++(["_law_behind"]:List PySem.Str)).Nodup from by decide +kernel) rfl (Or.inl rfl))) (z0y (by decide)) z0h (fun _ _ _ _ _=>(z2f (z0c z2p (pv 0) (pv 1) (z0o _)))) (fun _ _ _ _ _=>(pv 0))) (z04 (z0O bR rfl (z1L (z0B z0C (pv 0) z06 (fun _ _=>rfl))) (z0j (i:=7) nd rfl (Or.inl rfl)) (z05 (z0E (PW.pt (z37 (z0c z9a (pv 7) z06 (z0o _)) (z37 (z0c z2p (pv 7) (z0b (z30 rfl) rfl M.max dD (z00 (z0u z9m (pv 1) (z1d (z00 z06 z02))) z02)) (z0o _)) (z25 (z0c z3W (pv 7) (pv 1) (by with_unfolding_all rfl)))))) (z05 (z0i z1P)) z0l))) (z04 (z0O bR rfl (z16 (pv 6)) (z0j (i:=8) nd rfl (Or.inr rfl)) (z05 (z0E (z0c (y75 hr.P8) (z15 ["_law_number"] ["_law_dark_here","_law_reach"] [8,2] rfl (z0w rfl (by decide +kernel) rfl (by decide +kernel) rfl rfl) (z1L (z0B z0C (pv 0) z06 (fun _ _=>rfl))) (fun _ _ _ _ _=>(z0j (i:=0) (show((["_law_number"]:List PySem.Str)++(["_law_dark_here","_law_reach"]:List PySem.Str)).Nodup from by decide +kernel) rfl (Or.inl rfl))) (z0y (by decide)) z0h (fun _ _ _ _ _=>(z2f (PW.pt (z3l (z0c y1E (pv 1) (pv 0) (z0o _)) (z2k (z0c y1E (pv 0) (z0u z1u (pv 1) (pv 2)) (z0o _))))))) (fun _ _ _ _ _=>(pv 0))) (z1d z02) (z0o _)) (z05 (z0i z1P)) z0l))) (z04 (z0O bR rfl (z1b rfl M.range (z00 (z0b z09 rfl M.len bO (z00 (z0B z0C (pv 0) z06 (fun _ _=>rfl)) z02)) z02)) (z0j (i:=5) nd rfl (Or.inl rfl)) (z05 (z0E (PW.pt (z37 (z0c z1x (z0B z0C (z0B z0C (pv 0) z06 (fun _ _=>rfl)) (pv 5) (fun _ _=>rfl)) (pv 6) (by with_unfolding_all rfl)) (z25 (PW.pt (z3l (z0c z2p (pv 5) z06 (z0o _)) (z2k (z0c y1E (z0u z23 (z0B z0C (z0B z0C (pv 0) z06 (fun _ _=>rfl)) (pv 5) (fun _ _=>rfl)) (z0B z0C (z0B z0C (pv 0) z06 (fun _ _=>rfl)) (z0u z23 (pv 5) z06) (fun _ _=>rfl))) (pv 2) (z0o _)))))))) (z05 (z0i z1P)) z0l))) (z05 (z0i (z8f z2F (z0b z09 rfl M.len bO (z00 (z0B z0C (pv 0) z06 (fun _ _=>rfl)) z02)) (z0b z09 rfl M.len bO (z00 (z0B z0C (pv 0) z06 (fun _ _=>rfl)) z02)) (z0o _)))))))))),?_⟩
 have w18:∀{l:List Int}{c:Int},l.Pairwise (· < ·)->(∀x∈l,1≤x/\x≤60)->l.length≤60:=fun {l c} h1 h2=>by
  have e:l=(upI 1 60).filter fun x=>decide (x∈l):=z1Z h1 ((z1z 1 60).filter _) fun x=>by
   rw[cK,z1e,decide_eq_true_eq]
   exact⟨fun h=>⟨by have:=h2 x h;lia,h⟩,fun h=>h.2⟩
  rw[e]
  have:=c6 (fun x=>decide (x∈l)) (upI 1 60)
  rw[z0L] at this
  exact this
 have f60:fs.length≤60:=w18 (c:=0) B.fr fun x hx=>by
  obtain⟨⟨a,c⟩,_,y,hy,d⟩:=z0U.mp (B.lack x hx)
  lia
 have a60:as.length≤60:=by rw[<- B.len];exact f60
 have ar:as.Pairwise (· < ·):=B.ar.imp fun h=>by lia
 refine(rdI rfl (ex4 _ _ _ _ ⟨rfl,.tup hl,z5T,(rdI rfl (B8 ?_))⟩))
 refine(rdI rfl (ex2 l _ ⟨rfl,.inr (SqT.of hl),rfl,(rdI rfl (B8 ?_))⟩))
 refine(rdI rfl ⟨l,rfl,⟨_,SqT.of hl⟩,z52 (K:=K) (a:=l) (xs:=[.ref lf,.ref la]) (fun _ σ H'=>H'=H/\∃o1 o2:Option V,σ=[some (.ref l),some (.ref p),some (.int r),some (.int b),o1,o2,none,none,none]) ⟨rfl,none,none,rfl⟩ (fun i σ H' _ hp=>?_) (fun i x σ H' hx hp=>?_) (fun σ H' hp=>?_)⟩)
 ·rw[hp.1]
  exact SqT.of hl
 ·obtain⟨rfl,o1,o2,rfl⟩:=hp
  obtain⟨t,zs,rfl,ht,hz,lz⟩:∃(t:Addr) (zs:List Int),x=.ref t/\H' t=some (.tup (zs.map V.int))/\zs.Pairwise (· < ·)/\zs.length≤60:=by
   match i,hx with
   | 0,hx=>cases hx;exact⟨lf,fs,rfl,hf,B.fr,f60⟩
   | 1,hx=>cases hx;exact⟨la,as,rfl,ha,ar,a60⟩
  refine(rdI rfl (ex4 _ _ _ _ ⟨rfl,.tup ht,z5T,(rdI rfl (B8 ?_))⟩))
  have lz':(zs.map V.int).length=zs.length:=b9 _
  refine(rdI rfl (ex2 t _ ⟨rfl,.inr (SqT.of ht),(rdI rfl ⟨by lia,by lia,?_⟩)⟩))
  refine z13 (lo:=0) (n:=(((zs.map V.int).length:Nat):Int).toNat) (fun _ σ H2=>H2=H'/\∃o2:Option V,σ=[some (.ref l),some (.ref p),some (.int r),some (.int b),some (.ref t),o2,none,none,none]) ⟨rfl,_,rfl⟩ (fun k σ H2 hk hp=>?_) (fun σ H2 hp=>?_)
  ·obtain⟨rfl,o,rfl⟩:=hp
   have hk':k<zs.length:=by rw[lz'] at hk;exact hk
   have ek:(0:Int)+(k:Int)=(k:Int):=eZ _
   have ak:atI (zs.map V.int) (0+(k:Int))=some (.int (zs.getD k 0)):=by
    rw[ek]
    exact z41 (ns:=zs) (k:=(k:Int)) (by lia) (by lia)
   refine(rdI rfl (rdI rfl (ex4 t _ _ _ ⟨rfl,rfl,SqT.of ht,ak,(rdI rfl (rdI rfl (B8 ?_)))⟩)))
   refine(rdI rfl (ex2 _ _ ⟨rfl,rfl,(rdI rfl (B9 (fun c=>?_) (fun c=>?_)))⟩))
   ·have c0:(0:Int)<0+(k:Int):=z0I c
    obtain⟨j,rfl⟩:∃j,k=j+1:=⟨k-1,by lia⟩
    have aj:atI (zs.map V.int) (0+((j+1:Nat):Int)-1)=some (.int (zs.getD j 0)):=by
     have e:(0:Int)+((j+1:Nat):Int)-1=(j:Int):=by lia
     rw[e]
     exact z41 (ns:=zs) (k:=(j:Int)) (by lia) (by lia)
    have lt:zs.getD j 0<zs.getD (j+1) 0:=y59 hz (i:=j) (by rw[bK,bD (by lia)];rfl) (by rw[bK,bD hk'];rfl)
    refine(rdI rfl (rdI rfl (ex2 _ _ ⟨rfl,rfl,(ex4 t _ _ _ ⟨rfl,rfl,SqT.of ht,aj,(rdI rfl (rdI rfl (ex4 t _ _ _ ⟨rfl,rfl,SqT.of ht,ak,(ex2 _ _ ⟨rfl,rfl,(rdI rfl ?_)⟩)⟩)))⟩)⟩)))
    rw[decide_eq_false (show ¬zs.getD (j+1) 0≤zs.getD j 0 by lia)]
    exact B8 ⟨rfl,_,rfl⟩
   ·exact⟨rfl,_,rfl⟩
  ·obtain⟨rfl,o,rfl⟩:=hp
   exact⟨rfl,_,_,rfl⟩
 ·obtain⟨rfl,o1,o2,rfl⟩:=hp
  refine(rdI rfl (rdI rfl (ex3 p ns r ⟨rfl,hP,C0,hlen,r0,fun ld H1 nld s1 e1=>⟨ld,rfl,⟨_,SqL.of e1⟩,?_⟩⟩)))
  have ll:=z3X ns r
  refine z8o (ns:=z1B ns r) (fun y=>decide (b<y)) (fun y=>.int y) (SqL.of e1) (by lia) (fun y ys N hy hN=>?_) (fun D hD=>?_)
  ·refine(rdI rfl (rdI rfl (ex2 _ _ ⟨rfl,rfl,(rdI rfl ?_)⟩)))
   refine B9 (fun c=>?_) (fun c=>?_)
   ·rw[if_pos c] at hN
    exact(rdI rfl hN)
   ·rw[if_neg c] at hN
    exact hN
  have eD:upd H1 D (.lst (z2a (fun y=>decide (b<y)) (fun y=>V.int y) (z1B ns r))) D=some (.lst ((z14 ns r b).map V.int)):=z03
  have sD:=s1.trans (z01 hD (.lst (z2a (fun y=>decide (b<y)) (fun y=>V.int y) (z1B ns r))))
  generalize upd H1 D (.lst (z2a (fun y=>decide (b<y)) (fun y=>V.int y) (z1B ns r)))=H2 at eD sD
  have lb:(z14 ns r b).length≤60:=cL (c6 _ _) ll
  refine(rdI rfl (ex4 l _ _ _ ⟨rfl,rfl,SqT.of (sD _ _ hl),z0R rfl,lf,rfl,⟨_,SqT.of (sD _ _ hf)⟩,z52 (K:=K) (a:=lf) (xs:=fs.map V.int) (fun _ σ H'=>B0 H2 H'/\∃o3:Option V,σ=[some (.ref l),some (.ref p),some (.int r),some (.int b),o1,o2,some (.ref D),o3,none]) ⟨B0.refl _,none,rfl⟩ (fun i σ H' _ hp=>?_) (fun i x σ H' hx hp=>?_) (fun σ H' hp=>?_)⟩))
  ·exact SqT.of (hp.1 _ _ (sD _ _ hf))
  ·obtain⟨g,o3,rfl⟩:=hp
   rw[bC] at hx
   obtain⟨n,en,rfl⟩:=bU.mp hx
   obtain⟨⟨n1,n2⟩,n3,y,hy,n4⟩:=z0U.mp (B.lack n (bP en))
   have hP':H' p=some (.lst (ns.map V.int)):=g _ _ (sD _ _ hP)
   refine(rdI rfl (ex2 _ _ ⟨rfl,rfl,(rdI rfl ?_)⟩))
   rw[decide_eq_false (show ¬n<1 by lia)]
   refine B8 (rdI rfl (rdI rfl ⟨(by show 1≤sizeLine;decide),fun l0 hl0=>(ex4 p l0 _ _ ⟨rfl,rfl,z01 hl0 _ _ _ hP',z03,?_,fun lc hlc=>?_⟩)⟩))
   ·rw[b9]
    exact dX (z0f (by show ns.length+1≤1000;lia))
   have s3:=(z01 hl0 (.lst [V.int 0])).trans (z01 hlc (.lst (ns.map V.int++[V.int 0])))
   have ec:upd (upd H' l0 (.lst [V.int 0])) lc (.lst (ns.map V.int++[V.int 0])) lc=some (.lst ((ns++[0]).map V.int)):=by
    rw[z03,bF]
    rfl
   generalize upd (upd H' l0 (.lst [V.int 0])) lc (.lst (ns.map V.int++[V.int 0]))=H3 at s3 ec
   refine(ex2 lc (ns++[0]) ⟨rfl,.inl (SqL.of ec),by simp,fun m hm top=>(ex2 _ _ ⟨rfl,rfl,(rdI rfl ?_)⟩)⟩)
   have:=top y (cQ _ hy)
   rw[decide_eq_false (show ¬m<n by lia)]
   refine B8 (rdI rfl (rdI rfl (ex2 p _ ⟨rfl,.inl (SqL.of (s3 _ _ hP')),rfl,z2c ns,(rdI rfl ?_)⟩)))
   rw[if_neg bM,z2A,decide_eq_false n3]
   exact B8 ⟨g.trans s3,_,rfl⟩
  ·obtain⟨g,o3,rfl⟩:=hp
   have sG:=sD.trans g
   have eG:=g _ _ eD
   clear g
   generalize hHx:H'=H3 at sG eG
   clear hHx
   refine(rdI rfl ⟨D,rfl,⟨_,SqL.of eG⟩,z1g (K:=K) (a:=D) (xs:=(z14 ns r b).map V.int) (fun _ σ H'=>B0 H3 H'/\∃o4:Option V,σ=[some (.ref l),some (.ref p),some (.int r),some (.int b),o1,o2,some (.ref D),o3,o4]) ⟨B0.refl _,none,rfl⟩ (fun i σ H' _ hp=>?_) (fun i x σ H' hx hp=>?_) (fun σ H' hp=>?_)⟩)
   ·exact SqL.of (hp.1 _ _ eG)
   ·obtain⟨g,o4,rfl⟩:=hp
    rw[bC] at hx
    obtain⟨d,ed,rfl⟩:=bU.mp hx
    obtain⟨z,hz,z1,z2⟩:=B.cov d (bP ed)
    refine(rdI rfl (ex4 l _ _ _ ⟨rfl,rfl,SqT.of (g _ _ (sG _ _ hl)),z0R rfl,lf,rfl,⟨_,SqT.of (g _ _ (sG _ _ hf))⟩,?_⟩))
    refine z6W (ns:=fs) (fun y=>decide (d≤y) && decide (y≤d+r)) (fun y=>.int y) (SqT.of (g _ _ (sG _ _ hf))) (by lia) (fun y ys N hy hN=>?_) (fun E0 hE0=>?_)
    ·refine(rdI rfl (rdI rfl (ex2 _ _ ⟨rfl,rfl,(rdI rfl ?_)⟩)))
     refine B9 (fun c=>?_) (fun c=>?_)
     ·refine(rdI rfl (rdI rfl (rdI rfl (ex2 _ _ ⟨rfl,rfl,(ex2 _ _ ⟨rfl,rfl,(rdI rfl ?_)⟩)⟩))))
      rw[c,fZ] at hN
      refine B9 (fun c2=>?_) (fun c2=>?_)
      ·rw[if_pos c2] at hN
       exact(rdI rfl hN)
      ·rw[if_neg c2] at hN
       exact hN
     ·rw[fI.mpr c,gK] at hN
      exact B8 hN
    ·have mz:z∈fs.filter (fun y=>decide (d≤y) && decide (y≤d+r)):=cK.mpr ⟨hz,by rw[decide_eq_true z1,decide_eq_true z2];rfl⟩
     have eE:upd H' E0 (.lst (z2a (fun y=>decide (d≤y) && decide (y≤d+r)) (fun y=>V.int y) fs)) E0=some (.lst ((fs.filter fun y=>decide (d≤y) && decide (y≤d+r)).map V.int)):=z03
     have sE:=z01 hE0 (.lst (z2a (fun y=>decide (d≤y) && decide (y≤d+r)) (fun y=>V.int y) fs))
     generalize upd H' E0 (.lst (z2a (fun y=>decide (d≤y) && decide (y≤d+r)) (fun y=>V.int y) fs))=H4 at eE sE
     generalize fs.filter (fun y=>decide (d≤y) && decide (y≤d+r))=ab at eE mz
     refine⟨(by show 0≤sizeLine;decide),fun e0 he0=>(ex3 E0 e0 _ ⟨rfl,rfl,SqL.of (z01 he0 _ _ _ eE),SqL.of z03,(rdI rfl ?_)⟩)⟩
     cases ab with
     | nil=>cases mz
     | cons y0 yr=>exact B8 ⟨g.trans (sE.trans (z01 he0 _)),_,rfl⟩
   ·obtain⟨g,o4,rfl⟩:=hp
    have sG:=sG.trans g
    have eG:=g _ _ eG
    clear g
    generalize hHx:H'=H4 at sG eG
    clear hHx
    have la':(as.map V.int).length=as.length:=b9 _
    refine(rdI rfl (ex4 l _ _ _ ⟨rfl,rfl,SqT.of (sG _ _ hl),z0R rfl,(ex2 la _ ⟨rfl,.inr (SqT.of (sG _ _ ha)),(rdI rfl ⟨by lia,by lia,?_⟩)⟩)⟩))
    refine z13 (lo:=0) (n:=(((as.map V.int).length:Nat):Int).toNat) (fun _ σ H2=>H2=H4/\∃o2:Option V,σ=[some (.ref l),some (.ref p),some (.int r),some (.int b),o1,o2,some (.ref D),o3,o4]) ⟨rfl,_,rfl⟩ (fun k σ H2 hk hp=>?_) (fun σ H2 hp=>?_)
    ·obtain⟨rfl,o,rfl⟩:=hp
     have hk':k<as.length:=by rw[la'] at hk;exact hk
     have ek:(0:Int)+(k:Int)=(k:Int):=eZ _
     have ak:atI (as.map V.int) (0+(k:Int))=some (.int (as.getD k 0)):=by
      rw[ek]
      exact z41 (ns:=as) (k:=(k:Int)) (by lia) (by lia)
     have gk:as[k]? = some (as.getD k 0):=by rw[bK,bD hk'];rfl
     refine(rdI rfl (ex4 l _ _ _ ⟨rfl,rfl,SqT.of (sG _ _ hl),z0R rfl,(rdI rfl (ex4 la _ _ _ ⟨rfl,rfl,SqT.of (sG _ _ ha),ak,(rdI rfl (ex2 D _ ⟨rfl,.inl (SqL.of eG),rfl,z2c _,(rdI rfl ?_)⟩))⟩))⟩))
     rw[if_pos rfl,z2A,decide_eq_true (B.mem _ (bP gk))]
     refine B8 (rdI rfl (ex2 _ _ ⟨rfl,rfl,(rdI rfl (B9 (fun c=>?_) (fun c=>?_)))⟩))
     ·have c0:(0:Int)<0+(k:Int):=z0I c
      obtain⟨j,rfl⟩:∃j,k=j+1:=⟨k-1,by lia⟩
      have aj:atI (as.map V.int) (0+((j+1:Nat):Int)-1)=some (.int (as.getD j 0)):=by
       have e:(0:Int)+((j+1:Nat):Int)-1=(j:Int):=by lia
       rw[e]
       exact z41 (ns:=as) (k:=(j:Int)) (by lia) (by lia)
      have lt:as.getD j 0+r<as.getD (j+1) 0:=y59 B.ar (i:=j) (by rw[bK,bD (by lia)];rfl) gk
      refine(rdI rfl (ex4 l _ _ _ ⟨rfl,rfl,SqT.of (sG _ _ hl),z0R rfl,(rdI rfl (ex4 la _ _ _ ⟨rfl,rfl,SqT.of (sG _ _ ha),ak,(rdI rfl (ex4 l _ _ _ ⟨rfl,rfl,SqT.of (sG _ _ hl),z0R rfl,(rdI rfl (ex2 _ _ ⟨rfl,rfl,(ex4 la _ _ _ ⟨rfl,rfl,SqT.of (sG _ _ ha),aj,(ex2 _ _ ⟨rfl,rfl,(rdI rfl (ex2 _ _ ⟨rfl,rfl,(rdI rfl ?_)⟩))⟩)⟩)⟩))⟩))⟩))⟩))
      rw[decide_eq_false (show ¬as.getD (j+1) 0-as.getD j 0≤r by lia)]
      exact B8 ⟨rfl,_,rfl⟩
     ·exact⟨rfl,_,rfl⟩
    ·obtain⟨rfl,o,rfl⟩:=hp
     refine(rdI rfl (ex4 l _ _ _ ⟨rfl,rfl,SqT.of (sG _ _ hl),z0R rfl,(ex2 lf _ ⟨rfl,.inr (SqT.of (sG _ _ hf)),(rdI rfl (ex4 l _ _ _ ⟨rfl,rfl,SqT.of (sG _ _ hl),z0R rfl,(ex2 la _ ⟨rfl,.inr (SqT.of (sG _ _ ha)),rfl,?_⟩)⟩))⟩)⟩))
     rw[b9,b9,B.len,decide_eq_true rfl]
     exact q _ sG
theorem y6a{ms:List Int}{rows:List Row}{z:Str}(h:∀n∈ms,n≤60):z1k (z0S ms rows z)≤60:=by
 have go:∀(ms:List Int) (acc:Option (Int×Int)),(∀n∈ms,n≤60)->z1k acc≤60->z1k (ms.foldl (fun acc n=>match J0 (z0t rows n) z with|some v=>some (n,v)|none=>acc) acc)≤60:=by
  intro ms
  induction ms with
  | nil=>intro acc _ h;exact h
  | cons n r ih=>
   intro acc hn h0
   rw[dI]
   refine ih _ (fun x hx=>hn x (bZ _ hx)) ?_
   cases J0 (z0t rows n) z with
   | none=>exact h0
   | some v=>exact hn n cC
 exact go ms none h (by decide)
noncomputable def z5U(ns:List Int)(rows:List Row)(r:Int)(as:List Str):List Int:=(as.filter fun z=>decide (z0X ns rows r (z1k (z0S ns rows z)) z="open")).map fun z=>z1k (z0S ns rows z)
noncomputable def z8h(l:List Int):Int:=l.foldl min 61
theorem y1F(l:List Int)(n:Int):z8h (l++[n])=if n<z8h l then n else z8h l:=by
 unfold z8h
 rw[gJ]
 show min (l.foldl min 61) n=_
 split<;>lia
theorem y1T{m:Int}:∀{l:List Int}{a:Int},(m=a\/m∈l)->m≤a->(∀y∈l,m≤y)->l.foldl min a=m
 | [],a,h,_,_=>by
  rcases h with h|h
  ·exact h.symm
  ·cases h
 | y::l,a,h,ha,hl=>by
  have hy:=hl y cC
  rw[dI]
  refine y1T ?_ (by lia) fun x hx=>hl x (bZ _ hx)
  rcases h with h|h
  ·exact .inl (by lia)
  ·rcases bE.mp h with h|h
   ·exact .inl (by lia)
   ·exact .inr h
theorem z9D(ns:List Int)(rows:List Row)(r:Int)(as:List Str)(z:Str):z5U ns rows r (as++[z])=z5U ns rows r as++(if z0X ns rows r (z1k (z0S ns rows z)) z="open" then [z1k (z0S ns rows z)] else []):=by
 unfold z5U
 rw[dH,bF,dM]
 by_cases c:z0X ns rows r (z1k (z0S ns rows z)) z="open"
 ·rw[decide_eq_true c,if_pos rfl,if_pos c]
  rfl
 ·rw[decide_eq_false c,if_neg bM,if_neg c]
  rfl
noncomputable def askV:Option Str->V
 | none=>.non
 | some z=>.str z
noncomputable def Y2(nm:List Str):Option Str->List Str
 | none=>nm
 | some z=>[z]
noncomputable def z6C(Sh:ShP):Sp:=fun vs H Q _=>∃(x:Addr) (o:Option Str) (fp:List Addr) (nm:List Str) (r:Int) (rows:List Row) (had:List Int),vs=[.ref x,askV o]/\Sh H x fp nm r (fun n=>z0N rows n r) had/\(∀z∈Y2 nm o,z∈nm)/\E2 nm/\Rws nm rows/\rows.length≤60/\(∀n∈had,1≤n/\n≤rows.length)/\0≤r/\r≤10/\
 ∀(v:V) (H':Hp),B0 H H'->y4C H' v (z0a had) r (z8h (z5U (z0a had) rows r (Y2 nm o)))->Q v H'
theorem y4l(ns:List Int)(r:Int):X0 ns r 61 [] [] where
 len:=rfl
 fr:=.nil
 ar:=.nil
 lack:=fun _ h=>(nomatch h)
 cov:=fun d hd=>by
  unfold z14 at hd
  rw[cK,decide_eq_true_eq,z7T,cK] at hd
  have:=(z0U.mp hd.1.1).1
  lia
 mem:=fun _ h=>(nomatch h)
theorem z9n{A0 T0:Addr}{items:Array Value}(M:Bl mg)(T:D4 K mg A0)(F:T5 K "send_for" "send_for" z8u f fd T0 items)(C1:Cal P w K mg base 2 "held_for" z2E (z33 (ShD K A0)))
  (C8:Cal P w K mg base 5 "state_of" z39 (z3O (ShD K A0))) (B3:D9 P w K mg base 1 A0 "had" z1l (z2Y (ShD K A0)))
  (F4:Cal P w K mg base 5 "fewest_numbers" z3h (y2s K)):B4 P w K mg base CX0 6 f fd z4I (z6C (ShD K A0)):=by
 have nd:=z9w.nd
 refine F.ok z9w (fun vs H Q E h=>?_) (fun cdv A outer s H vs Q E hr h=>?_)
 ·obtain⟨x,o,fp,nm,r,rows,had,rfl,_⟩:=h
  rfl
 obtain⟨x,o,fp,nm,r,rows,had,rfl,sh,ho,gn,R,l60,hh,r0,r1,k⟩:=h
 refine⟨_,(z04 (z0p (i:=2) nd rfl (Or.inl rfl) (z56 (z7u (z8W (pv 1))) (z0J (pv 0) rfl) (z0T (z00 (pv 1) z02)))) (z04 (z5C (i:=3) ["one"] ["shelf"] [0] rfl nd rfl (Or.inl rfl) (z0w rfl (by decide +kernel) rfl (by decide +kernel) rfl rfl) (z1L (pv 2)) (fun _ _ _ _ _=>(z0j (i:=0) (show((["one"]:List PySem.Str)++(["shelf"]:List PySem.Str)).Nodup from by decide +kernel) rfl (Or.inl rfl))) (z0y (by decide)) z0h (fun _ _ _ _ _=>(z2f (z0c z2F (z0e C8 (rm hr) rfl (z00 (pv 1) (z00 (pv 0) z02))) (z1Y rfl M.OPEN) (z0o _)))) (fun _ _ _ _ _=>(z0B (r:=P2 K) z0C (z0e C1 (rm hr) rfl (z00 (pv 1) (z00 (pv 0) z02))) z06 (fun _ _=>rfl)))) (z04 (z0E (z0c z2F (z0b z09 rfl M.len bO (z00 (pv 3) z02)) z06 (z0o _)) (z05 (z0i (z0T (z00 (z0T z02) (z00 (z0T z02) z02))))) z0l) (z05 (z0i (z0e F4 (rm hr) rfl (z00 (z1M B3 (rm hr) (pv 0)) (z00 (z0J (pv 0) rfl) (z00 (z0b (z8A rfl) rfl M.min fA (z00 (pv 3) z02)) z02))))))))),?_⟩
 obtain⟨dx,pn,fs,h1,h3,ln,lr,lm⟩:∃dx pn fs,H x=some (.ins A0 dx fs)/\H pn=some (.tup (nm.map V.str))/\fs.lookup ("names":Str)=some (V.ref pn)/\fs.lookup ("reach":Str)=some (V.int r)/\fs.lookup ("had":Str)=none:=by
  obtain⟨dx,pn,pd,fs,kvs,_,h1,_,h3,_,l1,l2,_,lm,_⟩:=sh
  exact⟨dx,pn,fs,h1,h3,l1,l2,lm _ (by simp)⟩
 have h60:∀n∈z0a had,1≤n/\n≤60:=fun n hn=>by have:=hh n (z0Z.mp hn).2;lia
 have n12:=gn.hi
 have la:(Y2 nm o).length≤12:=by
  cases o with
  | none=>exact n12
  | some z=>show 1≤12;decide
 have asked:∀(Qk:VK),(∀(ta:Addr) (H1:Hp),B0 H H1->H1 ta=some (.tup ((Y2 nm o).map V.str))->Qk (.ref ta) H1)->tIf (tB (w0f (V8 1))) (w01 K (V8 0) "names") (tTup (y5T (V8 1) X8)) (z6F ["shelf","name","asked","held_from"] [.ref x,askV o]) H Qk:=fun Qk hq=>by
  cases o with
  | none=>exact⟨_,rfl,_,rfl,F6 ⟨_,rfl,x,A0,dx,fs,_,rfl,h1,T.cl,T.n_names,ln,hq pn H (B0.refl _) h3⟩⟩
  | some z=>exact⟨_,rfl,_,rfl,B8 ⟨_,rfl,(by show 1≤sizeLine;decide),fun t ht=>hq t _ (z01 ht _) z03⟩⟩
 refine asked _ fun ta H1 s1 e1=>?_
 generalize hAs:Y2 nm o=as at *
 clear asked
 have sh1:=F1.same sh s1
 refine(rdI rfl ⟨ta,rfl,⟨_,SqT.of e1⟩,?_⟩)
 refine z1n (xs:=as.map V.str) (fun i ys H'=>B0 H1 H'/\ys=(z5U (z0a had) rows r (as.take i)).map V.int) ⟨B0.refl _,rfl⟩ (fun i ys H' hi hp=>?_) (fun i y ys H' hy hp=>?_) (fun ys H' hp=>?_)
 ·obtain⟨g,rfl⟩:=hp
  refine⟨SqT.of (g _ _ e1),z0f ?_⟩
  unfold z5U
  rw[b9,b9]
  have h1:=c6 (fun z=>decide (z0X (z0a had) rows r (z1k (z0S (z0a had) rows z)) z="open")) (as.take i)
  rw[bG] at h1
  lia
 ·obtain⟨g,rfl⟩:=hp
  rw[bC] at hy
  obtain⟨z,ez,rfl⟩:=bU.mp hy
  have hz:=ho z (bP ez)
  have sh2:=F1.same sh1 g
  refine(rdI rfl (rdI rfl (ex7 x z fp nm r rows had ⟨rfl,sh2,hz,gn,R,l60,hh,r0,r1,fun H2 s2=>⟨rfl,(rdI rfl ?_)⟩⟩)))
  rw[z0n ez,z9D]
  refine B9 (fun c=>?_) (fun c=>?_)
  ·have c':z0X (z0a had) rows r (z1k (z0S (z0a had) rows z)) z="open":=V.str.inj (z0I c)
   rw[if_pos c',bF]
   refine(rdI rfl (rdI rfl (ex7 x z fp nm r rows had ⟨rfl,F1.same sh2 s2,hz,gn,R,fun v H3 s3 tv=>?_⟩)))
   obtain⟨b,y,rfl,eb,_⟩:=z3p tv
   exact(ex4 b _ _ _ ⟨rfl,rfl,SqT.of eb,z0R rfl,g.trans (s2.trans s3),rfl⟩)
  ·have c':¬z0X (z0a had) rows r (z1k (z0S (z0a had) rows z)) z="open":=fun e=>c (decide_eq_true (congrArg V.str e))
   rw[if_neg c',cR]
   exact⟨g.trans s2,rfl⟩
 ·obtain⟨g,rfl⟩:=hp
  rw[b9,bT]
  intro D hD
  have eD:upd H' D (.lst ((z5U (z0a had) rows r as).map V.int)) D=some (.lst ((z5U (z0a had) rows r as).map V.int)):=z03
  have s2:=s1.trans (g.trans (z01 hD (.lst ((z5U (z0a had) rows r as).map V.int))))
  generalize upd H' D (.lst ((z5U (z0a had) rows r as).map V.int))=H2 at eD s2
  refine(rdI rfl (ex2 D _ ⟨rfl,.inl (SqL.of eD),rfl,(rdI rfl ?_)⟩))
  rw[b9]
  refine B9 (fun c=>?_) (fun c=>?_)
  ·have c0:z5U (z0a had) rows r as=[]:=j6.mp (by have:=z0I c;injection this with this;lia)
   refine⟨(by show 0≤sizeLine;decide),fun t1 ht1=>⟨(by show 0≤sizeLine;decide),fun t2 ht2=>⟨(by show 2≤sizeLine;decide),fun t ht=>?_⟩⟩⟩
   refine k _ _ (s2.trans ((z01 ht1 _).trans ((z01 ht2 _).trans (z01 ht _)))) (ex5 t t1 t2 ([]) ([]) ⟨rfl,z03,z01 ht _ _ _ (z01 ht2 _ _ _ z03),z01 ht _ _ _ z03,?_⟩)
   rw[c0]
   exact y4l _ _
  ·have c0:z5U (z0a had) rows r as≠[]:=fun e=>c (by rw[e];rfl)
   have sh2:=F1.same sh s2
   refine(rdI rfl (ex3 x dx fs ⟨rfl,s2 _ _ h1,lm,(ex6 x fp nm r _ had ⟨rfl,sh2,fun l H3 s3 e3=>?_⟩)⟩))
   refine(rdI rfl (ex5 x A0 dx fs _ ⟨rfl,s3 _ _ (s2 _ _ h1),T.cl,T.n_reach,lr,(rdI rfl (ex2 D _ ⟨rfl,.inl (SqL.of (s3 _ _ eD)),c0,fun m hm hl=>?_⟩))⟩))
   have em:z8h (z5U (z0a had) rows r as)=m:=by
    refine y1T (.inr hm) ?_ hl
    unfold z5U at hm
    obtain⟨z,_,rfl⟩:=cM.mp hm
    have:=y6a (rows:=rows) (z:=z) fun n hn=>(h60 n hn).2
    lia
   refine(ex4 l (z0a had) r m ⟨rfl,.inr (SqT.of e3),h60,cL (z2D had) (by decide),r0,fun v H4 s4 p4=>?_⟩)
   exact k v H4 (s2.trans (s3.trans s4)) (by rw[em];exact p4)
noncomputable def agC(k:Nat)(ns:List Int)(rows:List Row)(r:Int)(z:Str):Int:=
 if z0X ns rows r (z1k (z0S ns rows z)) z="stale" then 2^((z1B ns r).length*k) else 2^((z1B ns r).length*k)-2^((z1B ns r).length*k-(z14 ns r (z1k (z0S ns rows z))).length)
noncomputable def y2g(Sh:ShP):Sp:=fun vs H Q _=>∃(x:Addr) (z:Str) (fp:List Addr) (nm:List Str) (r:Int) (rows:List Row) (had:List Int),vs=[.ref x,.str z]/\Sh H x fp nm r (fun n=>z0N rows n r) had/\z∈nm/\E2 nm/\Rws nm rows/\rows.length≤60/\(∀n∈had,1≤n/\n≤rows.length)/\0≤r/\r≤10/\
 ∀(H':Hp),B0 H H'->Q (.int (agC nm.length (z0a had) rows r z)) H'
theorem y7L(a b:Nat)(h:b≤a):(2:Int)^a / 2^b=2^(a-b):=by
 have e:(2:Int)^a=2^(a-b)*2^b:=by rw[<- Int.pow_add,Nat.sub_add_cancel h]
 rw[e]
 exact Int.mul_ediv_cancel _ (by have:=Int.pow_pos (n:=2) (m:=b) (by decide);lia)
theorem y7l{a b:Nat}(h:a≤b):(2:Int)^a≤2^b:=by
 have:=Nat.pow_le_pow_right (n:=2) (by decide) h
 exact_mod_cast this
theorem y5m{A0:Addr}(M:Bl mg)(T:D4 K mg A0)(F:Fun K "again_count" "again_count" z4A f fd)(C1:Cal P w K mg base 2 "held_for" z2E (z33 (ShD K A0)))
  (C8:Cal P w K mg base 5 "state_of" z39 (z3O (ShD K A0))) (B3:D9 P w K mg base 1 A0 "had" z1l (z2Y (ShD K A0)))
  (E4:Cal P w K mg base 4 "course_count" z2U (y1s (ShD K A0))) (I0:Cal P w K mg base 1 "two_to_the" z40 z3L)
  (B6:Cal P w K mg base 4 "dark_numbers_behind" z17 (z7O K)):B4 P w K mg base CX0 6 f fd z4D (y2g (ShD K A0)):=by
 have nd:=z6o.nd
 refine F.ok z6o (fun vs H Q E h=>?_) (fun cdv A outer s H vs Q E hr h=>?_)
 ·obtain⟨x,z,fp,nm,r,rows,had,rfl,_⟩:=h
  rfl
 obtain⟨x,z,fp,nm,r,rows,had,rfl,sh,hz,gn,R,l60,hh,r0,r1,k⟩:=h
 refine⟨_,(z04 (z0p (i:=2) nd rfl (Or.inl rfl) (z0e C8 (rm hr) rfl (z00 (pv 0) (z00 (pv 1) z02)))) (z04 (z0p (i:=3) nd rfl (Or.inl rfl) (z0e E4 (rm hr) rfl (z00 (pv 0) z02))) (z04 (z0E (z0c z2F (pv 2) (z1Y rfl M.STALE) (z0o _)) (z05 (z0i (pv 3))) z0l) (z04 (z0p (i:=4) nd rfl (Or.inl rfl) (z0B z0C (z0e C1 (rm hr) rfl (z00 (pv 0) (z00 (pv 1) z02))) z06 (fun _ _=>rfl))) (z04 (z0p (i:=5) nd rfl (Or.inl rfl) (z0e B6 (rm hr) rfl (z00 (z1M B3 (rm hr) (pv 0)) (z00 (z0J (pv 0) rfl) (z00 (pv 4) z02))))) (z04 (z0p (i:=6) nd rfl (Or.inl rfl) (z0u y6e (pv 3) (z0e I0 (rm hr) rfl (z00 (z0b z09 rfl M.len bO (z00 (pv 5) z02)) z02)))) (z05 (z0i (z0u z23 (pv 3) (pv 6)))))))))),?_⟩
 have hh60:∀n∈had,1≤n/\n≤60:=fun n hn=>by have:=hh n hn;lia
 have h60:∀n∈z0a had,1≤n/\n≤60:=fun n hn=>hh60 n (z0Z.mp hn).2
 refine(rdI rfl (rdI rfl (ex7 x z fp nm r rows had ⟨rfl,sh,hz,gn,R,l60,hh,r0,r1,fun H1 s1=>?_⟩)))
 have sh1:=F1.same sh s1
 refine(rdI rfl (ex6 x fp nm r _ had ⟨rfl,sh1,hh60,fun H2 s2=>?_⟩))
 have sh2:=F1.same sh1 s2
 refine(rdI rfl ⟨rfl,(rdI rfl (B9 (fun c=>?_) (fun c=>?_)))⟩)
 ·have c':z0X (z0a had) rows r (z1k (z0S (z0a had) rows z)) z="stale":=V.str.inj (z0I c)
  have e:=k H2 (s1.trans s2)
  unfold agC at e
  rw[if_pos c'] at e
  exact(rdI rfl e)
 ·have c':¬z0X (z0a had) rows r (z1k (z0S (z0a had) rows z)) z="stale":=fun e=>c (decide_eq_true (congrArg V.str e))
  refine(rdI rfl (rdI rfl (ex7 x z fp nm r rows had ⟨rfl,sh2,hz,gn,R,fun v H3 s3 tv=>?_⟩)))
  obtain⟨b,y,rfl,eb,_⟩:=z3p tv
  refine(ex4 b _ _ _ ⟨rfl,rfl,SqT.of eb,z0R rfl,?_⟩)
  have sh3:=F1.same sh2 s3
  obtain⟨dx,fs,h1,lm,lr⟩:∃dx fs,H3 x=some (.ins A0 dx fs)/\fs.lookup ("had":Str)=none/\fs.lookup ("reach":Str)=some (V.int r):=by
   obtain⟨dx,pn,pd,fs,kvs,_,h1,_,_,_,_,lr,_,lm,_⟩:=sh3
   exact⟨dx,fs,h1,lm _ (by simp),lr⟩
  refine(rdI rfl (ex3 x dx fs ⟨rfl,h1,lm,(ex6 x fp nm r _ had ⟨rfl,sh3,fun l H4 s4 e4=>?_⟩)⟩))
  refine(rdI rfl (ex5 x A0 dx fs _ ⟨rfl,s4 _ _ h1,T.cl,T.n_reach,lr,(rdI rfl (ex4 l (z0a had) r _ ⟨rfl,.inr (SqT.of e4),h60,cL (z2D had) (by decide),fun d H5 s5 e5=>?_⟩))⟩))
  have e:=k H5 (s1.trans (s2.trans (s3.trans (s4.trans s5))))
  unfold agC at e
  rw[if_neg c'] at e
  have ld:((z14 (z0a had) r (z1k (z0S (z0a had) rows z))).map V.int).length=(z14 (z0a had) r (z1k (z0S (z0a had) rows z))).length:=b9 _
  have bd:(z14 (z0a had) r (z1k (z0S (z0a had) rows z))).length≤(z1B (z0a had) r).length:=c6 _ _
  have d60:=z3X (z0a had) r
  have lb:(z14 (z0a had) r (z1k (z0S (z0a had) rows z))).length≤(z1B (z0a had) r).length*nm.length:=cL bd (Nat.le_mul_of_pos_right _ gn.lo)
  have p64:(2:Int)^(z14 (z0a had) r (z1k (z0S (z0a had) rows z))).length<18446744073709551616:=Int.lt_of_le_of_lt (y7l (cL bd d60)) (by decide)
  refine(rdI rfl (rdI rfl (ex2 d _ ⟨rfl,.inr (SqT.of e5),(rdI rfl ⟨by lia,by lia,?_⟩)⟩)))
  rw[ld,fF]
  refine(ex2 _ _ ⟨rfl,rfl,⟨Int.pow_pos (by decide),p64⟩,(rdI rfl (rdI rfl (ex2 _ _ ⟨rfl,rfl,?_⟩)))⟩)
  rw[y7L _ _ lb]
  exact e
noncomputable def y1i(Sh:ShP):Sp:=fun vs H Q _=>∃(x:Addr) (fp:List Addr) (nm:List Str) (r:Int) (rows:List Row) (had:List Int) (m:Nat),vs=[.ref x]/\Sh H x fp nm r (fun n=>z0N rows n r) had/\E2 nm/\Rws nm rows/\rows.length≤60/\(∀n∈had,1≤n/\n≤rows.length)/\0≤r/\r≤10/\z3Q had m/\
 ∀(v:V) (H':Hp),B0 H H'->B2 H' (.tup ((z0K m (z0a had) rows r).map O5)) v->Q v H'
theorem y2k{had:List Int}{m:Nat}(h60:∀n∈had,1≤n/\n≤60)(t:z3Q had m):z0a (z0a had++z1i (z0a had))=upI 1 m:=z1Z (z1W _) (z1z _ _) fun x=>by
 have inr:∀y,y∈z0a had↔y∈had:=fun y=>by
  rw[z0Z]
  exact⟨fun h=>h.2,fun h=>⟨by have:=h60 y h;lia,h⟩⟩
 rw[z0Z,bS,z1e,z0U]
 constructor
 ·rintro⟨h1,h|⟨_,_,y,hy,h⟩⟩
  ·have:=t.2 x ((inr x).mp h)
   lia
  ·have:=t.2 y ((inr y).mp hy)
   lia
 ·rintro⟨h1,h2⟩
  rcases t.1 with q|⟨_,q⟩
  ·have:=h60 _ q
   refine⟨by lia,?_⟩
   by_cases c:x∈z0a had
   ·exact .inl c
   ·refine .inr ⟨by lia,c,m,(inr _).mpr q,?_⟩
    have:x≠(m:Int):=fun e=>c (by rw[e];exact(inr _).mpr q)
    lia
  ·lia
theorem y2q{kvs:List (Key×V)}{ks:List Int}(kk:kvs.map (·.1)=ks.map Sum.inl){n:Int}(hn:n∉ks)(v:V):putK kvs (Sum.inl n) v=kvs++[(Sum.inl n,v)]:=by
 refine y1Q _ ?_
 have:=y0b kk n
 rw[decide_eq_false hn] at this
 cases e:L9 kvs (Sum.inl n:Key) with
 | none=>rfl
 | some v=>rw[e] at this;cases this
theorem y6o{A0:Addr}(M:Bl mg)(F:Fun K "known_sets" "known_sets" z5K f fd)(B3:D9 P w K mg base 1 A0 "had" z1l (z2Y (ShD K A0)))(E1:D9 P w K mg base 1 A0 "rows_of" z2z (y0c (ShD K A0)))
  (D8:Cal P w K mg base 1 "names_of_rows" z2C y1p) (J1:Cal P w K mg base 3 "gaps_of" z6j (z7W (ShD K A0))):B4 P w K mg base CX0 4 f fd z4e (y1i (ShD K A0)):=by
 have nd:=z7k.nd
 refine F.ok z7k (fun vs H Q E h=>?_) (fun cdv A outer s H vs Q E hr h=>?_)
 ·obtain⟨x,fp,nm,r,rows,had,m,rfl,_⟩:=h
  rfl
 obtain⟨x,fp,nm,r,rows,had,m,rfl,sh,gn,R,l60,hh,r0,r10,it,k⟩:=h
 have hu:=y12 hr
 refine⟨_,(z04 (z0p (i:=1) nd rfl (Or.inr rfl) y2u) (z04 (z0O bR rfl (z1L (z1M B3 (rm hr) (pv 0))) (z0j (i:=2) nd rfl (Or.inl rfl)) (z05 (y1v hu (pv 1) (pv 2) (z0e D8 (rm hr) rfl (z00 (z1I E1 (rm hr) (pv 0) (z00 (pv 2) z02)) z02)) rfl))) (z04 (z0O bR rfl (z1L (z0e J1 (rm hr) rfl (z00 (pv 0) z02))) (y6K rfl (z1f (z0j (i:=2) nd rfl (Or.inl rfl)) (z1f (z0j (i:=3) nd rfl (Or.inl rfl)) (z1f (z0j (i:=4) nd rfl (Or.inl rfl)) z4Q)))) (z05 (y1v hu (pv 1) (pv 2) (z56 (z0c z2F (pv 3) z06 (z0o _)) z9A (pv 4)) rfl))) (z05 (z0i (z0s z0m rfl M.tuple bH (z00 (z15 ["number"] ["sets"] [1] rfl (z0w rfl (by decide +kernel) rfl (by decide +kernel) rfl rfl) (z16 (z0b (z4r rfl) rfl M.sorted fR (z00 (pv 1) z02))) (fun _ _ _ _ _=>(z0j (i:=0) (show((["number"]:List PySem.Str)++(["sets"]:List PySem.Str)).Nodup from by decide +kernel) rfl (Or.inl rfl))) (z0y (by decide)) z0h (fun _ _ _ _ _=>z1E) (fun _ _ _ _ _=>(z7e hu (pv 1) (pv 0) (fun _ _=>rfl)))) z02))))))),?_⟩
 have h60:∀n∈had,1≤n/\n≤60:=fun n hn=>by have:=hh n hn;lia
 have rl:=z2D had
 have ll:=z2j (z0a had)
 obtain⟨dx,fs,h1,lm,lo⟩:∃dx fs,H x=some (.ins A0 dx fs)/\fs.lookup ("had":Str)=none/\fs.lookup ("rows_of":Str)=none:=by
  obtain⟨dx,pn,pd,fs,kvs,_,h1,_,_,_,_,lr,_,lm,_⟩:=sh
  exact⟨dx,fs,h1,lm _ (by simp),lm _ (by simp)⟩
 intro d hd
 have s0:=z01 hd (.dK [])
 have e0:upd H d (.dK []) d=some (.dK []):=z03
 generalize upd H d (.dK [])=H0 at s0 e0
 refine(rdI rfl (ex3 x dx fs ⟨rfl,s0 _ _ h1,lm,(ex6 x fp nm r _ had ⟨rfl,F1.same sh s0,fun l H1 s1 e1=>?_⟩)⟩))
 have s01:=s0.trans s1
 refine⟨l,rfl,⟨_,SqT.of e1⟩,z52 (K:=K) (a:=l) (xs:=(z0a had).map V.int) (fun i σ G=>∃(kvs:List (Key×V)) (o2:Option V),B0 H G/\G l=some (.tup ((z0a had).map V.int))/\G d=some (.dK kvs)/\kvs.map (·.1)=((z0a had).take i).map Sum.inl/\(∀n v,(Sum.inl n,v)∈kvs->B2 G (L4 (z0x (z0t rows n))) v)/\
   σ=[some (.ref x),some (.ref d),o2,none,none]) ⟨[],none,s01,e1,s1 _ _ e0,by rw[cT];rfl,fun _ _ q=>(nomatch q),rfl⟩ (fun i σ G _ ⟨_,_,_,e,_⟩=>SqT.of e) ?_ ?_⟩
 ·rintro i y σ G hy ⟨kvs,o2,sG,elG,edG,kk,tk,rfl⟩
  rw[bC] at hy
  obtain⟨n,en,rfl⟩:=bU.mp hy
  have nh:n∈had:=(z0Z.mp (bP en)).2
  have lk:kvs.length≤60:=by
   have:=congrArg List.length kk
   rw[b9,b9,bG] at this
   lia
  refine(rdI rfl (ex3 x dx fs ⟨rfl,sG _ _ h1,lo,(rdI rfl (w00 x fp nm r _ had n _ _ _ ⟨rfl,F1.same sh sG,nh,rfl,fun v tv=>?_⟩))⟩))
  obtain⟨a,us,rfl,ea,_,tu⟩:=z0d tv
  refine(ex3 a us (z0t rows n) ⟨rfl,ea,tu,y1B gn R n,fun q G1 s1' eq=>?_⟩)
  refine(rdI rfl (rdI rfl (ex2 d _ ⟨rfl,V6.k (k:=Sum.inl n) (s1' _ _ edG) (z0f (by lia)),?_⟩)))
  have nin:n∉(z0a had).take i:=fun h=>by
   have:=(z1W had)
   rw[<- jL (i+1) (z0a had),z0n en] at this
   have:=(cX.mp (cX.mp this).1).2.2 n h n (bB.mpr rfl)
   lia
  rw[y2q kk nin]
  have nl:l≠d:=z5l elG edG (by intro z;cases z)
  refine⟨_,_,z1y (sG.trans s1') hd,by rw[z0k nl];exact s1' _ _ elG,z03,?_,fun n' v' hv=>?_,rfl⟩
  ·rw[bF,kk,z0n en,bF]
   rfl
  ·refine B2.over (s1' _ _ edG) (fun _ z=>by cases z) _ _ ?_
   rcases bS.mp hv with h|h
   ·exact B2.keep s1' _ _ (tk n' v' h)
   ·rw[bB] at h
    cases h
    exact z0q eq (by rw[b9];have:=y8d R gn n;lia) (z20 _)
 rintro σ H2 ⟨kvs,o2,s2,_,ed2,kk2,tk2,rfl⟩
 rw[b9,bT] at kk2
 have sh2:=F1.same sh s2
 refine(rdI rfl (ex6 x fp nm r rows had ⟨rfl,sh2,gn,R,l60,hh,r0,r10,fun gv H3 s3 tg=>?_⟩))
 obtain⟨ag,gz,rfl,eag,_,tgz⟩:=z0d tg
 have lgz:gz.length=(z1i (z0a had)).length:=by
  rw[tgz.length]
  unfold z3i
  rw[b9]
 have s23:=s2.trans s3
 refine⟨ag,rfl,⟨_,SqT.of eag⟩,z52 (K:=K) (a:=ag) (xs:=gz) (fun i σ G=>∃(kvs:List (Key×V)) (o2 o3 o4:Option V),B0 H G/\G ag=some (.tup gz)/\z08 G (z3i (z0a had) rows r) gz/\G d=some (.dK kvs)/\kvs.map (·.1)=(z0a had++(z1i (z0a had)).take i).map Sum.inl/\(∀n v,(Sum.inl n,v)∈kvs->B2 G (O5 (z1K (z0a had) rows r n)) v)/\
   σ=[some (.ref x),some (.ref d),o2,o3,o4]) ⟨kvs,_,_,_,s23,eag,tgz,s3 _ _ ed2,by rw[cT,cR];exact kk2,fun n v hv=>?_,rfl⟩ (fun i σ G _ ⟨_,_,_,_,_,e,_⟩=>SqT.of e) ?_ ?_⟩
 ·have hm:n∈z0a had:=by
   have:(Sum.inl n:Key)∈kvs.map (·.1):=cM.mpr ⟨_,hv,rfl⟩
   rw[kk2] at this
   obtain⟨n',h,e⟩:=cM.mp this
   cases e
   exact h
  unfold z1K
  rw[if_pos (.inl hm)]
  exact B2.keep s3 _ _ (tk2 n v hv)
 ·rintro i y σ G hy ⟨kvs,o2,o3,o4,sG,eaG,tG,edG,kk,tk,rfl⟩
  obtain⟨n,a,b,en,rfl,ha,hb⟩:=z6b tG hy
  have hlk:=bP en
  have hin:n∉z0a had:=(z0U.mp hlk).2.1
  have lk:kvs.length≤120:=by
   have:=congrArg List.length kk
   rw[b9,b9,bN,bG] at this
   lia
  have nin:n∉z0a had++(z1i (z0a had)).take i:=fun h=>by
   rcases bS.mp h with h|h
   ·exact hin h
   ·have:=z2t (z0a had)
    rw[<- jL (i+1) (z1i (z0a had)),z0n en] at this
    have:=(cX.mp (cX.mp this).1).2.2 n h n (bB.mpr rfl)
    lia
  have nag:ag≠d:=z5l eaG edG (by intro z;cases z)
  refine(ex2 a _ ⟨rfl,SqT.of ha,rfl,(ex2 _ _ ⟨rfl,(ex2 _ _ ⟨rfl,(ex2 _ _ ⟨rfl,rfl,?_⟩)⟩)⟩)⟩)
  have fin:∀v,B2 G (O5 (z1K (z0a had) rows r n)) v->∃(w0F:List (Key×V)) (o2 o3 o4:Option V),B0 H (upd G d (.dK (putK kvs (Sum.inl n) v)))/\upd G d (.dK (putK kvs (Sum.inl n) v)) ag=some (.tup gz)/\z08 (upd G d (.dK (putK kvs (Sum.inl n) v))) (z3i (z0a had) rows r) gz/\upd G d (.dK (putK kvs (Sum.inl n) v)) d=some (.dK w0F)/\w0F.map (·.1)=(z0a had++(z1i (z0a had)).take (i+1)).map Sum.inl/\(∀n' v',(Sum.inl n',v')∈w0F->B2 (upd G d (.dK (putK kvs (Sum.inl n) v))) (O5 (z1K (z0a had) rows r n')) v')/\
    [some (V.ref x),some (.ref d),some (.int n),some (.int (z0F (z0a had) n r)),some (.ref b)]=[some (V.ref x),some (.ref d),o2,o3,o4]:=fun v tv=>by
   rw[y2q kk nin]
   refine⟨_,_,_,_,z1y sG hd,by rw[z0k nag];exact eaG,z08.over edG (fun _ z=>by cases z) _ _ tG,z03,?_,fun n' v' hv=>?_,rfl⟩
   ·rw[bF,kk,z0n en,<- eV,bF (l₁:=z0a had++_)]
    rfl
   ·refine B2.over edG (fun _ z=>by cases z) _ _ ?_
    rcases bS.mp hv with h|h
    ·exact tk n' v' h
    ·rw[bB] at h
     cases h
     exact tv
  refine(rdI rfl ⟨rfl,(rdI rfl ?_)⟩)
  by_cases c:z0F (z0a had) n r=0
  ·rw[decide_eq_true (congrArg V.int c)]
   refine F6 (rdI rfl (rdI rfl (ex2 d _ ⟨rfl,V6.k (k:=Sum.inl n) edG (z0f (by lia)),fin .non ?_⟩)))
   unfold z1K
   rw[if_neg (fun h=>h.elim hin fun h=>h c)]
   exact z7P
  ·rw[decide_eq_false (fun e=>c (V.int.inj e))]
   refine B8 (rdI rfl (rdI rfl (rdI rfl (ex2 d _ ⟨rfl,V6.k (k:=Sum.inl n) edG (z0f (by lia)),fin (.ref b) ?_⟩))))
   unfold z1K
   rw[if_pos (.inr c)]
   unfold z2q at hb
   rw[if_neg c] at hb
   exact z0q hb (by rw[b9];have:=y8d R gn n;lia) (z20 _)
 rintro σ H4 ⟨kvs,p2,p3,p4,s4,_,_,ed4,kk4,tk4,rfl⟩
 rw[lgz,bT] at kk4
 have hm60:m≤60:=by have:=it.le (k:=60) (by decide) fun x hx=>(h60 x hx).2;lia
 have knd:(z0a had++z1i (z0a had)).Nodup:=j8.mpr ⟨(z1W had).imp fun h=>Int.ne_of_lt h,(z2t _).imp fun h=>Int.ne_of_lt h,fun a ha b hb e=>(z0U.mp hb).2.1 (e ▸ ha)⟩
 have kall:∀n∈z0a had++z1i (z0a had),1≤n/\n≤60:=fun n hn=>by
  rcases bS.mp hn with h|h
  ·exact h60 n (z0Z.mp h).2
  ·have:=(z0U.mp h).1
   lia
 refine(rdI rfl (ex3 d kvs (z0a had++z1i (z0a had)) ⟨rfl,ed4,kk4,eQ (y1n knd kall) (by decide),fun ls ms hls hp hs=>?_⟩))
 have ems:ms=upI 1 m:=by
  rw[y1q knd kall hp hs]
  exact y2k h60 it
 subst ems
 have s5:=z01 hls (.lst ((upI 1 m).map V.int))
 have e5:upd H4 ls (.lst ((upI 1 m).map V.int)) ls=some (.lst ((upI 1 m).map V.int)):=z03
 have ed5:=s5 _ _ ed4
 generalize upd H4 ls (.lst ((upI 1 m).map V.int))=H5 at s5 e5 ed5
 refine⟨ls,rfl,⟨_,SqL.of e5⟩,?_⟩
 refine z32 (xs:=(upI 1 m).map V.int) (fun i ys G=>G=H5/\z08 H5 (((upI 1 m).take i).map fun n=>O5 (z1K (z0a had) rows r n)) ys) ⟨rfl,by rw[cT];exact .nil⟩ (fun i ys G hi hp=>?_) (fun i y ys G hy hp=>?_) (fun ys G hp=>?_)
 ·obtain⟨rfl,t⟩:=hp
  refine⟨SqL.of e5,z0f ?_⟩
  rw[t.length,b9,bG,z0L]
  lia
 ·obtain⟨rfl,t⟩:=hp
  rw[bC] at hy
  obtain⟨n,en,rfl⟩:=bU.mp hy
  have hn:n∈z0a had++z1i (z0a had):=by
   have:=bP en
   rw[<- y2k h60 it] at this
   exact(z0Z.mp this).2
  obtain⟨v,ev,mv⟩:=z7Q kk4 hn
  refine(rdI rfl (rdI rfl (ex2 d v ⟨rfl,(by rw[<- ev];exact N6.k (k:=Sum.inl n) ed5),rfl,?_⟩)))
  rw[z0n en,bF]
  exact z08.snoc t (B2.keep s5 _ _ (tk4 n v mv))
 ·obtain⟨rfl,t⟩:=hp
  rw[b9,bT] at t
  intro D hD
  refine(ex2 D ys ⟨rfl,.inl ⟨SqL.of z03,fun q hq=>k _ _ (s4.trans (s5.trans ((z01 hD _).trans (z01 hq _)))) (z0q z03 ?_ (z08.keep ((z01 hD _).trans (z01 hq _)) _ _ ?_))⟩⟩)
  ·rw[b9,z0W]
   lia
  ·unfold z0K
   rw[dR]
   exact t
noncomputable def z8y(c:List (List Str)):DV:=.tup (c.map L4)
noncomputable def z5j(ks:List (Option (List Str))):List (List Str):=ks.map fun o=>o.getD []
noncomputable def z6r(c:List (List Str))(d:Nat)(z:Str):List (List Str):=c.take (d-1)++[[z]]++c.drop d
theorem z08.drop{H:Hp}:∀{ds:List DV}{xs:List V} (n:Nat),z08 H ds xs->z08 H (ds.drop n) (xs.drop n)
 | _,_,0,h=>h
 | [],_,n+1,h=>by
  have:=z0G h
  subst this
  exact .nil
 | d0::ds,_,n+1,h=>by
  obtain⟨x0,r,rfl,h1,h2⟩:=z0g h
  exact z08.drop n h2
theorem y1W{had:List Int}{r:Int}{m:Nat}(h60:∀n∈had,1≤n/\n≤60)(t:z3Q had m){d:Int}(hd:d∈z1B (z0a had) r):1≤d/\d<(m:Int):=by
 obtain⟨h1,_⟩:=z4x.mp hd
 obtain⟨h2,_,y,hy,h3⟩:=z0U.mp h1
 have:=t.2 y (z0Z.mp hy).2
 lia
theorem y0B{ns:List Int}{rows:List Row}{r num:Int}{z:Str}(h:z0X ns rows r num z="open"):∃n∈z1B ns r,num<n:=by
 unfold z0X at h
 split at h
 ·exact absurd h (by decide)
 ·split at h
  ·exact absurd h (by decide)
  ·rename_i c
   refine Classical.byContradiction fun q=>c (z7l.mpr fun n hn=>?_)
   exact Int.not_lt.mp fun z=>q ⟨n,hn,z⟩
noncomputable def y8H(Sh:ShP):Sp:=fun vs H Q _=>∃(x:Addr) (z:Str) (fp:List Addr) (nm:List Str) (r:Int) (rows:List Row) (had:List Int) (m:Nat),vs=[.ref x,.str z]/\Sh H x fp nm r (fun n=>z0N rows n r) had/\z∈nm/\E2 nm/\Rws nm rows/\rows.length≤60/\(∀n∈had,1≤n/\n≤rows.length)/\0≤r/\r≤10/\z3Q had m/\
 (z0X (z0a had) rows r (z1k (z0S (z0a had) rows z)) z≠"open"->∀H',B0 H H'->Q .non H')/\
 (z0X (z0a had) rows r (z1k (z0S (z0a had) rows z)) z="open"->∀(d:Nat),(d:Int)∈z1B (z0a had) r->(∀y∈z1B (z0a had) r,y≤(d:Int))->∀(v:V) (H':Hp),B0 H H'->B2 H' (.tup [z8y (z5j (z0K m (z0a had) rows r)),z8y (z6r (z5j (z0K m (z0a had) rows r)) d z)]) v->Q v H')
theorem z99{A0:Addr}(M:Bl mg)(T:D4 K mg A0)(F:Fun K "two_courses" "two_courses" z4B f fd)(C8:Cal P w K mg base 5 "state_of" z39 (z3O (ShD K A0)))(F8:Cal P w K mg base 4 "known_sets" z4e (y1i (ShD K A0)))
  (B3:D9 P w K mg base 1 A0 "had" z1l (z2Y (ShD K A0))) (D0:Cal P w K mg base 3 "dark_numbers" z2m (y2i K)):B4 P w K mg base CX0 6 f fd z50 (y8H (ShD K A0)):=by
 have nd:=z6a.nd
 refine F.ok z6a (fun vs H Q E h=>?_) (fun cdv A outer s H vs Q E hr h=>?_)
 ·obtain⟨x,z,fp,nm,r,rows,had,m,rfl,_⟩:=h
  rfl
 obtain⟨x,z,fp,nm,r,rows,had,m,rfl,sh,hz,gn,R,l60,hh,r0,r10,it,k1,k2⟩:=h
 refine⟨_,(z04 (z0E (z0c z7g (z0e C8 (rm hr) rfl (z00 (pv 0) (z00 (pv 1) z02))) (z1Y rfl M.OPEN) (z0o _)) (z05 (z0i z9A)) z0l) (z04 (z0p (i:=2) nd rfl (Or.inl rfl) (z0s z0m rfl M.tuple bH (z00 (z15 ["known"] [] [] rfl (z0w rfl (by decide +kernel) rfl (by decide +kernel) rfl rfl) (z1L (z0e F8 (rm hr) rfl (z00 (pv 0) z02))) (fun _ _ _ _ _=>(z0j (i:=0) (show((["known"]:List PySem.Str)++([]:List PySem.Str)).Nodup from by decide +kernel) rfl (Or.inl rfl))) (z0y (by decide)) z0h (fun _ _ _ _ _=>z1E) (fun _ _ _ _ _=>(z56 (z7u (z8W (pv 0))) (z0T z02) (pv 0)))) z02))) (z04 (z0p (i:=3) nd rfl (Or.inl rfl) (z0b (z30 rfl) rfl M.max dD (z00 (z0e D0 (rm hr) rfl (z00 (z1M B3 (rm hr) (pv 0)) (z00 (z0J (pv 0) rfl) z02))) z02))) (z04 (z0p (i:=4) nd rfl (Or.inl rfl) (z0u y4E (z0u y4E (z3n y4Y (pv 2) z4G (z4M (z0u z23 (pv 3) z06))) (z0T (z00 (z0T (z00 (pv 1) z02)) z02))) (z3n y4Y (pv 2) (z4M (pv 3)) z4G))) (z05 (z0i (z0T (z00 (pv 2) (z00 (pv 4) z02))))))))),?_⟩
 have h60:∀n∈had,1≤n/\n≤60:=fun n hn=>by have:=hh n hn;lia
 have w0g:∀n∈z0a had,1≤n/\n≤60:=fun n hn=>h60 n (z0Z.mp hn).2
 have hm60:m≤60:=by have:=it.le (k:=60) (by decide) fun x hx=>(h60 x hx).2;lia
 obtain⟨dx,fs,h1,lm,lr⟩:∃dx fs,H x=some (.ins A0 dx fs)/\fs.lookup ("had":Str)=none/\fs.lookup ("reach":Str)=some (V.int r):=by
  obtain⟨dx,pn,pd,fs,kvs,_,h1,_,_,_,_,lr,_,lm,_⟩:=sh
  exact⟨dx,fs,h1,lm _ (by simp),lr⟩
 refine(rdI rfl (rdI rfl (ex7 x z fp nm r rows had ⟨rfl,sh,hz,gn,R,l60,hh,r0,r10,fun H1 s1=>⟨rfl,(rdI rfl ?_)⟩⟩)))
 by_cases c:z0X (z0a had) rows r (z1k (z0S (z0a had) rows z)) z="open"
 case neg=>
  rw[decide_eq_false (fun e=>c (V.str.inj e))]
  exact F6 (k1 c H1 s1)
 rw[decide_eq_true (congrArg V.str c)]
 refine B8 ?_
 have sh1:=F1.same sh s1
 refine(rdI rfl (ex7 x fp nm r rows had m ⟨rfl,sh1,gn,R,l60,hh,r0,r10,it,fun kv H2 s2 tk=>?_⟩))
 obtain⟨ak,us,rfl,eak,_,tus⟩:=z0d tk
 have lus:us.length=m:=by rw[tus.length,b9,z0W]
 refine⟨ak,rfl,⟨_,SqT.of eak⟩,?_⟩
 refine z1n (xs:=us) (fun i ys G=>B0 H2 G/\z08 G ((z5j ((z0K m (z0a had) rows r).take i)).map L4) ys) ⟨B0.refl _,by rw[cT];exact .nil⟩ (fun i ys G hi hp=>?_) (fun i y ys G hy hp=>?_) (fun ys G hp=>?_)
 ·obtain⟨g,t⟩:=hp
  refine⟨SqT.of (g _ _ eak),z0f ?_⟩
  rw[t.length,b9]
  unfold z5j
  rw[b9,bG,z0W]
  lia
 ·obtain⟨g,t⟩:=hp
  obtain⟨d,ed,td⟩:=tus.at i y hy
  rw[bC] at ed
  obtain⟨o,eo,rfl⟩:=bU.mp ed
  have eb:z5j ((z0K m (z0a had) rows r).take (i+1))=z5j ((z0K m (z0a had) rows r).take i)++[o.getD []]:=by
   unfold z5j
   rw[z0n eo,bF]
   rfl
  rw[eb,bF]
  cases o with
  | none=>
   have ey:y=.non:=by
    unfold O5 B2 at td
    exact td
   subst ey
   refine(rdI rfl (rdI rfl (F6 ⟨(by show 0≤sizeLine;decide),fun t0 ht0=>⟨g.trans (z01 ht0 _),?_⟩⟩)))
   exact z08.snoc (z08.keep (z01 ht0 _) _ _ t) (z0q z03 (by decide) .nil)
  | some zs=>
   obtain⟨b,ws,rfl,eb',lb,tb⟩:=z0d (show B2 H2 (L4 zs) y from td)
   refine(rdI rfl (rdI rfl (B8 (rdI rfl ⟨g,?_⟩))))
   exact z08.snoc t (B2.keep g _ _ td)
 obtain⟨g,t⟩:=hp
 rw[lus,cO (by rw[z0W];exact bI _)] at t
 intro D hD
 refine(ex2 D ys ⟨rfl,.inl ⟨SqL.of z03,fun an han=>?_⟩⟩)
 have s3:=g.trans ((z01 hD (.lst ys)).trans (z01 han (.tup ys)))
 have t3:=z08.keep ((z01 hD (.lst ys)).trans (z01 han (.tup ys))) _ _ t
 have en:upd (upd G D (.lst ys)) an (.tup ys) an=some (.tup ys):=z03
 generalize upd (upd G D (.lst ys)) an (.tup ys)=H3 at s3 t3 en
 have lys:ys.length=m:=by
  rw[t3.length,b9]
  unfold z5j
  rw[b9,z0W]
 have c13:=s2.trans s3
 have sh3:=F1.same sh1 c13
 have h13:=(s1.trans c13) _ _ h1
 refine(rdI rfl (ex3 x dx fs ⟨rfl,h13,lm,(ex6 x fp nm r _ had ⟨rfl,sh3,fun lh H4 s4 e4=>?_⟩)⟩))
 refine(rdI rfl (ex5 x A0 dx fs _ ⟨rfl,s4 _ _ h13,T.cl,T.n_reach,lr,(ex3 lh (z0a had) r ⟨rfl,.inr (SqT.of e4),w0g,cL (z2D had) (by decide),fun ld H5 s5 e5=>?_⟩)⟩))
 obtain⟨n0,hn0,_⟩:=y0B c
 refine(ex2 ld (z1B (z0a had) r) ⟨rfl,.inr (SqT.of e5),List.ne_nil_of_mem hn0,fun dm hdm topd=>?_⟩)
 have hdr:=y1W h60 it hdm
 obtain⟨d,rfl⟩:∃d:Nat,dm=(d:Int):=⟨dm.toNat,by lia⟩
 have s35:=s4.trans s5
 have en5:=s35 _ _ en
 have t5:=z08.keep s35 _ _ t3
 have ed1:(d:Int)-1=((d-1:Nat):Int):=by lia
 have ltm:∀l:List V,l.length≤60->l.length<sizeLine:=fun l h=>z0f (by lia)
 refine(rdI rfl (rdI rfl (ex2 _ _ ⟨rfl,rfl,(rdI rfl (ex2 an ys ⟨rfl,en5,fun p1 H6 s6 e6=>?_⟩))⟩)))
 rw[ed1,y2j (by rw[lys];lia)] at e6
 refine(rdI rfl ⟨(by show 1≤sizeLine;decide),fun t1 ht1=>⟨(by show 1≤sizeLine;decide),fun t2 ht2=>?_⟩⟩)
 have s7:=(z01 ht1 (.tup [V.str z])).trans (z01 ht2 (.tup [V.ref t1]))
 have e7:upd (upd H6 t1 (.tup [V.str z])) t2 (.tup [V.ref t1]) t2=some (.tup [V.ref t1]):=z03
 have et1:=z01 ht2 (.tup [V.ref t1]) _ _ (show upd H6 t1 (.tup [V.str z]) t1=_ from z03)
 generalize upd (upd H6 t1 (.tup [V.str z])) t2 (.tup [V.ref t1])=H7 at s7 e7 et1
 refine(ex4 p1 t2 _ _ ⟨rfl,rfl,s7 _ _ e6,e7,?_,fun p3 H8 s8 e8=>?_⟩)
 ·rw[bG]
  exact dX (z0f (by show min (d-1) ys.length+1≤1000;lia))
 have s58:=s6.trans (s7.trans s8)
 refine(rdI rfl (rdI rfl (rdI rfl (ex2 an ys ⟨rfl,s58 _ _ en5,fun p4 H9 s9 e9=>?_⟩))))
 rw[y66 (by rw[lys];lia)] at e9
 refine(ex4 p3 p4 _ _ ⟨rfl,rfl,s9 _ _ e8,e9,?_,fun p5 HA sA eA=>?_⟩)
 ·rw[bN,bG,dA]
  exact dX (z0f (by show min (d-1) ys.length+1+(ys.length-d)≤1000;lia))
 have s5A:=s58.trans (s9.trans sA)
 refine(rdI rfl (rdI rfl ⟨(by show 2≤sizeLine;decide),fun tz htz=>?_⟩))
 have sz:=s5A.trans (z01 htz (.tup [V.ref an,V.ref p5]))
 have tyz:=z08.keep sz _ _ t5
 refine k2 c d hdm topd (.ref tz) _ (s1.trans (c13.trans (s35.trans sz))) (z0q z03 (by show 2≤1000000;decide) (.cons (z0q (sz _ _ en5) ?_ tyz) (.cons (z0q (z01 htz _ _ _ eA) ?_ ?_) .nil)))
 ·rw[b9,<- b9 (f:=L4),<- tyz.length]
  lia
 ·rw[b9]
  unfold z6r z5j
  rw[bN,bN,bG,dA,b9,z0W]
  show min (d-1) m+1+(m-d)≤1000000
  lia
 ·unfold z6r
  rw[bF,bF,List.map_take,List.map_drop]
  refine z08.append (z08.append (z08.take _ tyz) (.cons ?_ .nil)) (z08.drop _ tyz)
  exact z0q ((s8.trans (s9.trans (sA.trans (z01 htz _)))) _ _ et1) (by show 1≤1000000;decide) (.cons (z2B z) .nil)
theorem y8b{hs:List Int}{mx:Int}{m:Nat}(t:z3Q hs m)(h60:∀x∈hs,1≤x/\x≤60)(hm:mx∈hs++[0])(top:∀y∈hs++[0],y≤mx):mx=(m:Int):=by
 have h0:=top 0 (cI _ (bB.mpr rfl))
 rcases t.1 with q|⟨q,q0⟩
 ·have h1:=top _ (cQ _ q)
  rcases bS.mp hm with h|h
  ·have:=t.2 mx h
   lia
  ·have:=h60 _ q
   rw[bB] at h
   lia
 ·subst q
  rw[List.nil_append,bB] at hm
  lia
noncomputable def y24(K:PySem.W.Frag):Sp:=fun vs H Q _=>∃(p lr:Addr) (hs:List Int) (us:List V) (rows:List Row) (r:Int) (m:Nat),vs=[.ref p,.ref lr,.int r]/\H p=some (.lst (hs.map V.int))/\(∀x∈hs,1≤x/\x≤60)/\hs.length≤900/\(∀x∈hs,x≤rows.length)/\
 SqL K H lr us/\z08 H (rows.map N3) us/\(∀w∈rows,w.length≤12)/\0≤r/\z3Q hs m/\∀(l:Addr) (zs:List V) (H':Hp),H l=none->B0 H H'->H' l=some (.lst zs)->z08 H' ((z0K m hs rows r).map O5) zs->Q (.ref l) H'
theorem y4g(M:Bl mg)(F:Fun K "_law_known" "_law_known" z5I f fd)(C4:Cal P w K mg base 1 "_law_teller" z2h (z4E K)):B4 P w K mg base CX0 2 f fd z5S (y24 K):=by
 have nd:=z7K.nd
 refine F.ok z7K (fun vs H Q E h=>?_) (fun cdv A outer s H vs Q E hr h=>?_)
 ·obtain⟨p,lr,hs,us,rows,r,m,rfl,_⟩:=h
  rfl
 obtain⟨p,lr,hs,us,rows,r,m,rfl,hP,C0,hlen,hup,hR,tl,h12,r0,it,q⟩:=h
 refine⟨_,(z04 (z0p (i:=3) nd rfl (Or.inl rfl) (z1d z02)) (z04 (z0O bR rfl (z3P rfl M.range (z00 z06 (z00 (z0u z1u (z0b (z30 rfl) rfl M.max dD (z00 (z0u z9m (pv 0) (z1d (z00 z06 z02))) z02)) z06) z02))) (z0j (i:=4) nd rfl (Or.inl rfl)) (z05 (z0E (PW.pt (z37 (z0c z3W (pv 4) (pv 0) (by with_unfolding_all rfl)) (z25 (z0c z2p (z0e C4 (rm hr) rfl (z00 (pv 0) (z00 (pv 4) (z00 (pv 2) z02)))) z06 (z0o _))))) (z05 (z0D (z2O bW bX bY z0Q (pv 3) (z00 (z0s z0m rfl M.tuple bH (z00 (z15 ["_law_row_here"] [] [] rfl (z0w rfl (by decide +kernel) rfl (by decide +kernel) rfl rfl) (z1L (z0B z0Y (pv 1) (z0u z23 (pv 4) z06) (fun _ _=>rfl))) (fun _ _ _ _ _=>(z0j (i:=0) (show((["_law_row_here"]:List PySem.Str)++([]:List PySem.Str)).Nodup from by decide +kernel) rfl (Or.inl rfl))) (z0y (by decide)) z0h (fun _ _ _ _ _=>z1E) (fun _ _ _ _ _=>(z0B (r:=P2 K) z0C (pv 0) z06 (fun _ _=>rfl)))) z02)) z02)))) (z05 (z0D (z2O bW bX bY z0Q (pv 3) (z00 z9A z02))))))) (z05 (z0i (pv 3))))),?_⟩
 refine⟨(by show 0≤sizeLine;decide),fun l hl=>?_⟩
 have s1:=z01 hl (.lst [])
 refine(rdI rfl ⟨(by show 1≤sizeLine;decide),fun l0 hl0=>(ex4 p l0 _ _ ⟨rfl,rfl,z01 hl0 _ _ _ (s1 _ _ hP),z03,?_,fun lc hlc=>?_⟩)⟩)
 ·rw[b9]
  exact dX (z0f (by show hs.length+1≤1000;lia))
 have s2:=s1.trans ((z01 hl0 (.lst [V.int 0])).trans (z01 hlc (.lst (hs.map V.int++[V.int 0]))))
 have eg:upd (upd (upd H l (.lst [])) l0 (.lst [V.int 0])) lc (.lst (hs.map V.int++[V.int 0])) l=some (.lst []):=(z01 hl0 _).trans (z01 hlc _) _ _ z03
 have ec:upd (upd (upd H l (.lst [])) l0 (.lst [V.int 0])) lc (.lst (hs.map V.int++[V.int 0])) lc=some (.lst ((hs++[0]).map V.int)):=by
  rw[z03,bF]
  rfl
 generalize upd (upd (upd H l (.lst [])) l0 (.lst [V.int 0])) lc (.lst (hs.map V.int++[V.int 0]))=H2 at s2 eg ec
 refine(ex2 lc (hs++[0]) ⟨rfl,.inl (SqL.of ec),by simp,fun mx hmx top=>?_⟩)
 have emx:=y8b it C0 hmx top
 subst emx
 have mr:(m:Int)≤rows.length:=it.le (by lia) hup
 have m60:m≤60:=by have:=it.le (k:=60) (by decide) fun x hx=>(C0 x hx).2;lia
 refine(ex2 _ _ ⟨rfl,rfl,(ex2 1 ((m:Int)+1) ⟨rfl,⟨by decide,by decide,by lia,by lia⟩,?_⟩)⟩)
 have kat:∀i:Nat,i<m->(z0K m hs rows r)[i]? = some (z1K hs rows r (1+(i:Int))):=fun i hi=>by
  unfold z0K
  rw[bC,show(upI 1 m)[i]? = some (1+(i:Int)) by unfold upI;rw[bC,gX hi];rfl]
  rfl
 refine z13 (lo:=1) (n:=((m:Int)+1-1).toNat) (fun i σ G=>∃(zs:List V) (o4:Option V),B0 H G/\G l=some (.lst zs)/\z08 G (((z0K m hs rows r).take i).map O5) zs/\σ=[some (.ref p),some (.ref lr),some (.int r),some (.ref l),o4]) ⟨[],none,s2,eg,by rw[cT];exact .nil,rfl⟩ (fun i σ G hi hp=>?_) (fun σ G hp=>?_)
 ·obtain⟨zs,o4,g,eG,tG,rfl⟩:=hp
  have him:i<m:=by lia
  have lz:zs.length≤i:=by
   rw[tG.length,b9,bG]
   lia
  refine(rdI rfl (rdI rfl (ex2 p _ ⟨rfl,.inl (SqL.of (g _ _ hP)),rfl,z2c hs,(rdI rfl ?_)⟩)))
  rw[if_neg bM,z2A]
  have fin:∀{G1:Hp} (v:V),B0 G G1->B2 G1 (O5 (z1K hs rows r (1+(i:Int)))) v->B0 H (upd G1 l (.lst (zs++[v])))/\upd G1 l (.lst (zs++[v])) l=some (.lst (zs++[v]))/\z08 (upd G1 l (.lst (zs++[v]))) (((z0K m hs rows r).take (i+1)).map O5) (zs++[v]):=fun {G1} v s3 tv=>by
   refine⟨z1y (g.trans s3) hl,z03,?_⟩
   rw[z0n (kat i him),bF]
   exact z08.over (s3 _ _ eG) y0Y _ _ (z08.snoc (z08.keep s3 _ _ tG) tv)
  have sz:zs.length<sizeLine:=z0f (by lia)
  by_cases c:(1:Int)+(i:Int)∈hs
  ·rw[decide_eq_true c]
   have ek:z1K hs rows r (1+(i:Int))=some (z0x (z0t rows (1+(i:Int)))):=by
    unfold z1K
    rw[if_pos (.inl c)]
   rw[ek] at fin
   refine F6 ?_
   have s3:B0 G G:=B0.refl _
   obtain⟨v,_,av,tv⟩:=z2H (z08.keep (g.trans s3) _ _ tl) (k:=1+(i:Int)) (by lia) (by lia)
   obtain⟨ar,xs,rfl,er,_,tp⟩:=z0d tv
   have lw:xs.length=(z0t rows (1+(i:Int))).length:=by rw[tp.length,b9]
   have w12:=z4L h12 (1+(i:Int))
   refine(rdI rfl ⟨.inl ⟨rfl,_,SqL.of (s3 _ _ eG)⟩,(rdI rfl (rdI rfl (ex2 _ _ ⟨rfl,rfl,(ex4 lr us _ _ ⟨rfl,rfl,(g.trans s3).seq hR,av,ar,rfl,⟨_,SqT.of er⟩,?_⟩)⟩)))⟩)
   refine z1n (xs:=xs) (fun j ys H2=>H2=G/\ys=((z0x (z0t rows (1+(i:Int)))).take j).map V.str) ⟨rfl,rfl⟩ (fun j ys H2 hj hp=>?_) (fun j y ys H2 hy hp=>?_) (fun ys H2 hp=>?_)
   ·obtain⟨rfl,rfl⟩:=hp
    refine⟨SqT.of er,z0f ?_⟩
    rw[b9,bG]
    lia
   ·obtain⟨rfl,rfl⟩:=hp
    obtain⟨pq,b,e1,rfl,e2⟩:=z1R tp j y hy
    refine(rdI rfl (ex4 b _ 0 _ ⟨rfl,rfl,SqT.of e2,rfl,rfl,?_⟩))
    have e3:(z0x (z0t rows (1+(i:Int))))[j]? = some pq.1:=by
     unfold z0x
     rw[bC,e1]
     rfl
    rw[z0n e3,bF]
    rfl
   obtain⟨rfl,rfl⟩:=hp
   have ll:(z0x (z0t rows (1+(i:Int)))).take xs.length=z0x (z0t rows (1+(i:Int))):=cO (by unfold z0x;rw[b9];lia)
   rw[ll]
   intro D hD
   refine(ex2 D _ ⟨rfl,.inl ⟨SqL.of z03,fun t ht=>?_⟩⟩)
   have s4:=s3.trans ((z01 hD (.lst ((z0x (z0t rows (1+(i:Int)))).map V.str))).trans (z01 ht (.tup ((z0x (z0t rows (1+(i:Int)))).map V.str))))
   obtain⟨f1,f2,f3⟩:=fin (.ref t) s4 (z0q z03 (by unfold z0x;rw[b9,b9];lia) (z20 _))
   exact(ex3 l zs _ ⟨rfl,rfl,s4 _ _ eG,sz,_,_,f1,f2,f3,rfl⟩)
  ·rw[decide_eq_false c]
   refine B8 (rdI rfl (rdI rfl (rdI rfl (ex4 p hs (1+(i:Int)) r ⟨rfl,SqL.of (g _ _ hP),C0,hlen,r0,fun G3 s3=>(ex2 _ _ ⟨rfl,rfl,(rdI rfl ?_)⟩)⟩))))
   have t0:=z4R (ns:=hs) (n:=1+(i:Int)) (r:=r)
   by_cases c2:0<z0F hs (1+(i:Int)) r
   ·rw[decide_eq_true c2]
    have ek:z1K hs rows r (1+(i:Int))=some (z0x (z0t rows (1+(i:Int)))):=by
     unfold z1K
     rw[if_pos (.inr (by lia))]
    rw[ek] at fin
    refine F6 ?_
    obtain⟨v,_,av,tv⟩:=z2H (z08.keep (g.trans s3) _ _ tl) (k:=1+(i:Int)) (by lia) (by lia)
    obtain⟨ar,xs,rfl,er,_,tp⟩:=z0d tv
    have lw:xs.length=(z0t rows (1+(i:Int))).length:=by rw[tp.length,b9]
    have w12:=z4L h12 (1+(i:Int))
    refine(rdI rfl ⟨.inl ⟨rfl,_,SqL.of (s3 _ _ eG)⟩,(rdI rfl (rdI rfl (ex2 _ _ ⟨rfl,rfl,(ex4 lr us _ _ ⟨rfl,rfl,(g.trans s3).seq hR,av,ar,rfl,⟨_,SqT.of er⟩,?_⟩)⟩)))⟩)
    refine z1n (xs:=xs) (fun j ys H2=>H2=G3/\ys=((z0x (z0t rows (1+(i:Int)))).take j).map V.str) ⟨rfl,rfl⟩ (fun j ys H2 hj hp=>?_) (fun j y ys H2 hy hp=>?_) (fun ys H2 hp=>?_)
    ·obtain⟨rfl,rfl⟩:=hp
     refine⟨SqT.of er,z0f ?_⟩
     rw[b9,bG]
     lia
    ·obtain⟨rfl,rfl⟩:=hp
     obtain⟨pq,b,e1,rfl,e2⟩:=z1R tp j y hy
     refine(rdI rfl (ex4 b _ 0 _ ⟨rfl,rfl,SqT.of e2,rfl,rfl,?_⟩))
     have e3:(z0x (z0t rows (1+(i:Int))))[j]? = some pq.1:=by
      unfold z0x
      rw[bC,e1]
      rfl
     rw[z0n e3,bF]
     rfl
    obtain⟨rfl,rfl⟩:=hp
    have ll:(z0x (z0t rows (1+(i:Int)))).take xs.length=z0x (z0t rows (1+(i:Int))):=cO (by unfold z0x;rw[b9];lia)
    rw[ll]
    intro D hD
    refine(ex2 D _ ⟨rfl,.inl ⟨SqL.of z03,fun t ht=>?_⟩⟩)
    have s4:=s3.trans ((z01 hD (.lst ((z0x (z0t rows (1+(i:Int)))).map V.str))).trans (z01 ht (.tup ((z0x (z0t rows (1+(i:Int)))).map V.str))))
    obtain⟨f1,f2,f3⟩:=fin (.ref t) s4 (z0q z03 (by unfold z0x;rw[b9,b9];lia) (z20 _))
    exact(ex3 l zs _ ⟨rfl,rfl,s4 _ _ eG,sz,_,_,f1,f2,f3,rfl⟩)
   ·rw[decide_eq_false c2]
    have ek:z1K hs rows r (1+(i:Int))=none:=by
     unfold z1K
     rw[if_neg (fun h=>h.elim c fun h=>h (by lia))]
    rw[ek] at fin
    obtain⟨f1,f2,f3⟩:=fin .non s3 z7P
    exact B8 (rdI rfl ⟨.inl ⟨rfl,_,SqL.of (s3 _ _ eG)⟩,(ex3 l zs _ ⟨rfl,rfl,s3 _ _ eG,sz,_,_,f1,f2,f3,rfl⟩)⟩)
 ·obtain⟨zs,o4,g,eG,tG,rfl⟩:=hp
  rw[cO (by rw[z0W];lia)] at tG
  exact(rdI rfl (q l zs _ hl g eG tG))
noncomputable def OkO(nm:List Str)(o:Option (List Str))(zs:List Str):Prop:=zs.Sublist nm/\∀ws,o=some ws->zs=ws
noncomputable def z7b(nm:List Str)(ks:List (Option (List Str)))(c:List (List Str)):Prop:=c.length=ks.length/\∀(i:Nat) (o:Option (List Str)) (zs:List Str),ks[i]? = some o->c[i]? = some zs->OkO nm o zs
theorem y0u{nm:List Str}(nd:nm.Nodup){i:Nat}(h:i<nm.length):nm.idxOf nm[i]=i:=by
 have h1:nm.idxOf nm[i]<nm.length:=gL (eX h)
 have h2:nm[nm.idxOf nm[i]]=nm[i]:=jY h1
 have pw:=fK.mp nd
 rcases Nat.lt_trichotomy (nm.idxOf nm[i]) i with c|c|c
 ·exact absurd h2 (pw _ _ h1 h c)
 ·exact c
 ·exact absurd h2.symm (pw _ _ h h1 c)
theorem y3z{nm zs:List Str}(nd:nm.Nodup)(hin:∀z∈zs,z∈nm):(zs.map fun z=>nm.idxOf z).Pairwise (· < ·)↔zs.Sublist nm:=by
 constructor
 ·intro h
  have e:zs=(zs.attach.map fun z=>(⟨nm.idxOf z.1,gL (hin z.1 z.2)⟩:Fin nm.length)).map fun i=>nm[i]:=by
   rw[dR]
   refine(List.ext_getElem (by rw[b9,List.length_attach]) fun i h1 h2=>?_)
   rw[List.getElem_map,jU]
   exact(jY _).symm
  rw[e]
  refine List.map_getElem_sublist ?_
  rw[dO] at h ⊢
  rw[fK] at h ⊢
  intro i j hi hj hij
  rw[List.length_attach] at hi hj
  have:=h i j hi hj hij
  rw[jU,jU]
  exact this
 ·intro h
  obtain⟨is,rfl,hp⟩:=List.sublist_eq_map_getElem h
  rw[dR,dO]
  refine hp.imp fun {a b} hab=>?_
  show nm.idxOf nm[a]<nm.idxOf nm[b]
  have ha:nm.idxOf nm[a]=a.1:=y0u nd a.2
  have hb:nm.idxOf nm[b]=b.1:=y0u nd b.2
  rw[ha,hb]
  exact hab
theorem y4B{nm:List Str}{z:Str}(h:z∈nm):nm[nm.idxOf z]? = some z/\∀m,m<nm.idxOf z->nm[m]? ≠ some z:=by
 have h1:=gL h
 refine⟨by rw[bD h1,jY h1],fun m hm e=>?_⟩
 have hm':m<nm.length:=by lia
 rw[bD hm'] at e
 have e':=Option.some.inj e
 have hf:(nm[m] == z)=false:=List.not_of_lt_findIdx (p:=(· == z)) (xs:=nm) hm
 rw[e',beq_self_eq_true] at hf
 cases hf
theorem y54{ps:List Nat}{j:Nat}(h:(ps.take (j+1)).Pairwise (· < ·)){a b:Nat}(ha:ps[j]? = some a)(hb:ps[j+1]? = some b)(hab:a<b):(ps.take (j+1+1)).Pairwise (· < ·):=by
 rw[z0n hb]
 refine cX.mpr ⟨h,eF _ _,fun x hx y hy=>?_⟩
 rw[bB.mp hy]
 rw[z0n ha] at h hx
 rcases bS.mp hx with hx|hx
 ·have:=(cX.mp h).2.2 x hx a (bB.mpr rfl)
  lia
 ·rw[bB.mp hx]
  exact hab
theorem z6Z(a b:List Str):z38 (a.map V.str) (b.map V.str)=decide (a=b):=by
 induction a generalizing b with
 | nil=>
  cases b with
  | nil=>rfl
  | cons y b=>exact(decide_eq_false (fun e=>nomatch e)).symm
 | cons x a ih=>
  cases b with
  | nil=>exact(decide_eq_false (fun e=>nomatch e)).symm
  | cons y b=>
   show(x == y && z38 (a.map V.str) (b.map V.str))=decide (x::a=y::b)
   rw[ih,d8,cG,decide_eq_true_eq,decide_eq_true_eq,beq_iff_eq,List.cons.injEq]
noncomputable def y23(K:PySem.W.Frag):Sp:=fun vs H Q _=>∃(v:V) (ln lk:Addr) (c:List (List Str)) (nm:List Str) (ks:List (Option (List Str))) (xs:List V),vs=[v,.ref ln,.ref lk]/\B2 H (z8y c) v/\(∀zs∈c,zs.length≤100)/\SqL K H ln (nm.map V.str)/\nm.Nodup/\nm.length≤12/\SqL K H lk xs/\z08 H (ks.map O5) xs/\ks.length≤100/\
 (z7b nm ks c->∀H',B0 H H'->Q (.bl true) H')/\(¬z7b nm ks c->∀H',B0 H H'->Q (.bl false) H')
theorem z11{H:Hp}:∀{l:List Str}{xs:List V},z08 H (l.map DV.str) xs->xs=l.map V.str
 | [],_,h=>z0G h
 | i::r,_,h=>by
  obtain⟨x,t,rfl,h1,h2⟩:=z0g h
  rw[z3r h1,z11 h2]
  rfl
theorem y2J(M:Bl mg)(F:Fun K "_law_course" "_law_course" z4H f fd):B4 P w K mg base CX0 1 f fd z4w (y23 K):=by
 have nd:=z6w.nd
 refine F.ok z6w (fun vs H Q E h=>?_) (fun cdv A outer s H vs Q E hr h=>?_)
 ·obtain⟨v,ln,lk,c,nm,ks,xs,rfl,_⟩:=h
  rfl
 obtain⟨v,ln,lk,c,nm,ks,xs,rfl,tc,c100,hN,ndn,n12,hK,tk,k100,qt,qf⟩:=h
 refine⟨_,(z04 (z0E (PW.pt (z37 (z22 (z1Q (z0b z0M rfl M.isinstance cH (z00 (pv 0) (z00 (z28 (v:=.ty "tuple") rfl M.tuple bH rfl) z02))))) (z25 (z0c z7g (z0b z09 rfl M.len bO (z00 (pv 0) z02)) (z0b z09 rfl M.len bO (z00 (pv 2) z02)) (z0o _))))) (z05 (z0i z1P)) z0l) (z04 (z0O bR rfl (z1b rfl M.range (z00 (z0b z09 rfl M.len bO (z00 (pv 2) z02)) z02)) (z0j (i:=3) nd rfl (Or.inl rfl)) (z04 (z0E (z22 (z1Q (z0b z0M rfl M.isinstance cH (z00 (z0B z0C (pv 0) (pv 3) (fun _ _=>rfl)) (z00 (z28 (v:=.ty "tuple") rfl M.tuple bH rfl) z02))))) (z05 (z0i z1P)) z0l) (z04 (z0p (i:=4) nd rfl (Or.inl rfl) (z1d z02)) (z04 (z0O bR rfl (z1L (z0B z0C (pv 0) (pv 3) (fun _ _=>rfl))) (z0j (i:=5) nd rfl (Or.inl rfl)) (z04 (z0E (PW.pt (z37 (z22 (z1Q (z0b z0M rfl M.isinstance cH (z00 (pv 5) (z00 (z28 (v:=.ty "str") rfl M.str jK rfl) z02))))) (z25 (z0c z1x (pv 5) (pv 1) (by with_unfolding_all rfl))))) (z05 (z0i z1P)) z0l) (z05 (z0D (z2O bW bX bY z0Q (pv 4) (z00 (z2O bW PySem.F.slot_list_index PySem.F.type_list_index y41 (pv 1) (z00 (pv 5) z02)) z02)))))) (z04 (z0O bR rfl (z3P rfl M.range (z00 z06 (z00 (z0b z09 rfl M.len bO (z00 (pv 4) z02)) z02))) (z0j (i:=6) nd rfl (Or.inl rfl)) (z05 (z0E (z0c y4j (z0B z0Y (pv 4) (z0u z23 (pv 6) z06) (fun _ _=>rfl)) (z0B z0Y (pv 4) (pv 6) (fun _ _=>rfl)) (z0o _)) (z05 (z0i z1P)) z0l))) (z05 (z0E (PW.pt (z3l (z7u (y7F (z0B z0Y (pv 2) (pv 3) (fun _ _=>rfl)))) (z2k (z0c (y8z hr.P8) (z0B z0C (pv 0) (pv 3) (fun _ _=>rfl)) (z0B z0Y (pv 2) (pv 3) (fun _ _=>rfl)) (z0o _))))) (z05 (z0i z1P)) z0l))))))) (z05 (z0i z1P)))),?_⟩
 obtain⟨a,us,rfl,ea,_,tu⟩:=z0d (show B2 H (.tup (c.map L4)) v from tc)
 have lus:us.length=c.length:=by rw[tu.length,b9]
 have lxs:xs.length=ks.length:=by rw[tk.length,b9]
 refine(rdI rfl (ex4 _ _ _ _ ⟨rfl,.tup ea,z5T,(rdI rfl (B8 (rdI rfl (ex2 a _ ⟨rfl,.inr (SqT.of ea),(rdI rfl (ex2 lk _ ⟨rfl,.inl hK,rfl,(rdI rfl ?_)⟩))⟩))))⟩))
 by_cases cl:c.length=ks.length
 case neg=>
  rw[decide_eq_false (fun e=>cl (by injection e with e;lia))]
  exact F6 (qf (fun h=>cl h.1) H (B0.refl _))
 rw[decide_eq_true (by rw[lus,lxs,cl])]
 refine B8 ?_
 refine(rdI rfl (ex2 lk xs ⟨rfl,.inl hK,(rdI rfl ⟨by lia,by lia,?_⟩)⟩))
 refine z13 (lo:=0) (n:=((xs.length:Nat):Int).toNat) (fun i σ G=>∃(o3 o4 o5 o6:Option V),B0 H G/\(∀(j:Nat) (o:Option (List Str)) (zs:List Str),j<i->ks[j]? = some o->c[j]? = some zs->OkO nm o zs)/\σ=[some (.ref a),some (.ref ln),some (.ref lk),o3,o4,o5,o6]) ⟨_,_,_,_,B0.refl _,fun _ _ _ h=>absurd h (g0 _),rfl⟩ (fun i σ G hi hp=>?_) (fun σ G hp=>?_)
 ·obtain⟨o3,o4,o5,o6,g,done,rfl⟩:=hp
  have hic:i<c.length:=by lia
  have hik:i<ks.length:=by lia
  have ei:(0:Int)+(i:Int)=(i:Int):=eZ _
  have eci:c[i]? = some c[i]:=bD hic
  have eki:ks[i]? = some ks[i]:=bD hik
  have w17:=c100 c[i] (eX hic)
  generalize c[i]=zs at eci w17
  generalize ks[i]=o at eki
  obtain⟨u,eu,tu1⟩:=tu.get i (L4 zs) (by rw[bC,eci];rfl)
  obtain⟨b,ws,rfl,eb,_,tb⟩:=z0d (show B2 H (.tup (zs.map DV.str)) u from tu1)
  have ews:=z11 tb
  subst ews
  obtain⟨x,ex,tx⟩:=tk.get i (O5 o) (by rw[bC,eki];rfl)
  have atu:atI us ((0:Int)+(i:Int))=some (.ref b):=by rw[ei];exact z0R eu
  have atx:atI xs ((0:Int)+(i:Int))=some x:=by rw[ei];exact z0R ex
  have bad:¬OkO nm o zs->¬z7b nm ks c:=fun h q=>h (q.2 i o zs eki eci)
  refine(rdI rfl (rdI rfl (ex4 a _ _ _ ⟨rfl,rfl,SqT.of (g _ _ ea),atu,(ex4 _ _ _ _ ⟨rfl,.tup (g _ _ eb),z5T,(rdI rfl (B8 ?_))⟩)⟩)))
  refine⟨(by show 0≤sizeLine;decide),fun lp hlp=>?_⟩
  have s1:=g.trans (z01 hlp (.lst []))
  have e1:upd G lp (.lst []) lp=some (.lst []):=z03
  have nlp:H lp=none:=g.free hlp
  generalize upd G lp (.lst [])=G1 at s1 e1
  refine(rdI rfl (rdI rfl (ex4 a _ _ _ ⟨rfl,rfl,SqT.of (s1 _ _ ea),atu,b,rfl,⟨_,SqT.of (s1 _ _ eb)⟩,z52 (K:=K) (a:=b) (xs:=zs.map V.str) (fun j σ G2=>∃(o5:Option V),B0 H G2/\(∀z∈zs.take j,z∈nm)/\G2 lp=some (.lst ((zs.take j).map fun z=>V.int (nm.idxOf z:Nat)))/\σ=[some (.ref a),some (.ref ln),some (.ref lk),some (.int (0+(i:Int))),some (.ref lp),o5,o6]) ⟨_,s1,(fun z hz=>by rw[cT] at hz;cases hz),by rw[cT];exact e1,rfl⟩ (fun j σ G2 _ ⟨_,g2,_⟩=>SqT.of (g2 _ _ eb)) ?_ ?_⟩)))
  ·rintro j y σ G2 hy ⟨o5,g2,hin,ep,rfl⟩
   rw[bC] at hy
   obtain⟨z,ez,rfl⟩:=bU.mp hy
   refine(rdI rfl (ex4 _ _ _ _ ⟨rfl,z4K rfl,z3Y "str" (.inr (.inr (.inr rfl))) rfl,(rdI rfl (B8 (rdI rfl (rdI rfl ⟨ln,(rdI rfl ⟨.inl (g2.seq hN),rfl,z18 nm,(rdI rfl ?_)⟩)⟩))))⟩))
   rw[if_pos rfl,z7U]
   by_cases hz:z∈nm
   ·rw[decide_eq_true hz]
    obtain⟨f1,f2⟩:=y4B hz
    refine B8 (rdI rfl ⟨.inl ⟨rfl,_,SqL.of ep⟩,(rdI rfl ⟨.inl ⟨rfl,_,g2.seq hN⟩,(rdI rfl (ex4 ln nm z (nm.idxOf z) ⟨rfl,rfl,g2.seq hN,f1,f2,(ex3 lp _ _ ⟨rfl,rfl,ep,z0f (by rw[b9,bG];lia),?_⟩)⟩))⟩)⟩)
    refine⟨_,z1y g2 nlp,fun z' hz'=>?_,?_,rfl⟩
    ·rw[z0n ez] at hz'
     rcases bS.mp hz' with h|h
     ·exact hin z' h
     ·rw[bB.mp h]
      exact hz
    ·rw[z03,z0n ez,bF]
     rfl
   ·rw[decide_eq_false hz]
    exact F6 (qf (bad fun h=>hz (h.1.subset (bP ez))) _ g2)
  rintro σ G2 ⟨o5,g2,hin,ep,rfl⟩
  rw[b9,bT] at hin ep
  have lps:(zs.map fun z=>V.int (nm.idxOf z:Nat)).length=zs.length:=b9 _
  have pat:∀(j:Nat) (hj:j<zs.length),atI (zs.map fun z=>V.int (nm.idxOf z:Nat)) (j:Int)=some (V.int (nm.idxOf zs[j]:Nat)):=fun j hj=>z0R (by rw[bC,bD hj];rfl)
  have ipt:∀(j:Nat) (hj:j<zs.length),(zs.map fun z=>nm.idxOf z)[j]? = some (nm.idxOf zs[j]):=fun j hj=>by rw[bC,bD hj];rfl
  refine(rdI rfl (ex2 lp _ ⟨rfl,.inl (SqL.of ep),(ex2 1 _ ⟨rfl,⟨by decide,by decide,by lia,by lia⟩,?_⟩)⟩))
  refine z13 (lo:=1) (n:=((((zs.map fun z=>V.int (nm.idxOf z:Nat)).length:Nat):Int)-1).toNat) (fun j σ G3=>∃(o6:Option V),G3=G2/\((zs.map fun z=>nm.idxOf z).take (j+1)).Pairwise (· < ·)/\σ=[some (.ref a),some (.ref ln),some (.ref lk),some (.int (0+(i:Int))),some (.ref lp),o5,o6]) ⟨_,rfl,?_,rfl⟩ (fun j σ G3 hj hp=>?_) (fun σ G3 hp=>?_)
  ·cases zs with
   | nil=>exact .nil
   | cons z r=>exact eF _ _
  ·obtain⟨o6',rfl,pw,rfl⟩:=hp
   have hj1:j+1<zs.length:=by rw[lps] at hj;lia
   have e1:(1:Int)+(j:Int)-1=((j:Nat):Int):=by lia
   have e2:(1:Int)+(j:Int)=((j+1:Nat):Int):=by lia
   refine(rdI rfl (rdI rfl (ex2 _ _ ⟨rfl,rfl,(ex4 lp _ _ _ ⟨rfl,rfl,SqL.of ep,(by rw[e1];exact pat j (by lia)),(rdI rfl (rdI rfl (ex4 lp _ _ _ ⟨rfl,rfl,SqL.of ep,(by rw[e2];exact pat (j+1) hj1),(ex2 _ _ ⟨rfl,rfl,(rdI rfl ?_)⟩)⟩)))⟩)⟩)))
   by_cases hlt:nm.idxOf zs[j]<nm.idxOf zs[j+1]
   ·rw[decide_eq_false (by lia)]
    exact B8 (rdI rfl ⟨y54 pw (ipt j (by lia)) (ipt (j+1) hj1) hlt,rfl⟩)
   ·rw[decide_eq_true (by lia)]
    refine F6 (qf (bad fun h=>hlt ?_) _ g2)
    have:=(y3z ndn hin).mpr h.1
    rw[dO,fK] at this
    exact this j (j+1) (by lia) hj1 (by lia)
  obtain⟨o6',rfl,pw,rfl⟩:=hp
  have sub:zs.Sublist nm:=by
   refine(y3z ndn hin).mp ?_
   rw[cO (by rw[b9];rw[lps];lia)] at pw
   exact pw
  have more:OkO nm o zs->∀(j:Nat) (o:Option (List Str)) (zs:List Str),j<i+1->ks[j]? = some o->c[j]? = some zs->OkO nm o zs:=fun h j o' zs' hj h1 h2=>by
   by_cases e:j=i
   ·subst e
    rw[eki] at h1
    rw[eci] at h2
    cases h1
    cases h2
    exact h
   ·exact done j o' zs' (by lia) h1 h2
  refine(rdI rfl (rdI rfl (ex4 lk _ _ _ ⟨rfl,rfl,g2.seq hK,atx,?_⟩)))
  cases o with
  | none=>
   have ex':x=.non:=by
    unfold O5 B2 at tx
    exact tx
   subst ex'
   exact(rdI rfl (B8 (B8 ⟨_,_,_,_,g2,more ⟨sub,fun _ h=>by cases h⟩,rfl⟩)))
  | some ws=>
   obtain⟨b2,vs2,rfl,eb2,_,tb2⟩:=z0d (show B2 H (.tup (ws.map DV.str)) x from tx)
   have ews:=z11 tb2
   subst ews
   refine(rdI rfl (F6 (rdI rfl (rdI rfl (ex4 a _ _ _ ⟨rfl,rfl,SqT.of (g2 _ _ ea),atu,(rdI rfl (rdI rfl (ex4 lk _ _ _ ⟨rfl,rfl,g2.seq hK,atx,(ex4 b b2 _ _ ⟨rfl,rfl,SqT.of (g2 _ _ eb),SqT.of (g2 _ _ eb2),z18 zs,z18 ws,(rdI rfl ?_)⟩)⟩)))⟩)))))
   by_cases e:zs=ws
   ·subst e
    rw[z73 (z18 zs)]
    exact B8 ⟨_,_,_,_,g2,more ⟨sub,fun _ h=>by cases h;rfl⟩,rfl⟩
   ·rw[z6Z,decide_eq_false e]
    exact F6 (qf (bad fun h=>e (h.2 ws rfl)) _ g2)
 ·obtain⟨o3,o4,o5,o6,g,done,rfl⟩:=hp
  refine qt ⟨cl,fun i o zs h1 h2=>done i o zs ?_ h1 h2⟩ _ g
  have:=(bV.mp h1).1
  lia
theorem z8T{nm:List Str}{rows:List Row}(R:Rws nm rows)(n:Int):(z0x (z0t rows n)).Sublist nm:=by
 unfold z0t z0x
 rw[bK]
 cases e:rows[(n-1).toNat]? with
 | none=>exact kC _
 | some w=>exact R.sub w (bP e)
theorem z5h{m:Nat}{hs:List Int}{rows:List Row}{r:Int}{i:Nat}{o:Option (List Str)}(h:(z0K m hs rows r)[i]? = some o):i<m/\o=z1K hs rows r (1+(i:Int)):=by
 have hi:=(bV.mp h).1
 rw[z0W] at hi
 refine⟨hi,?_⟩
 unfold z0K at h
 rw[bC,show(upI 1 m)[i]? = some (1+(i:Int)) by unfold upI;rw[bC,gX hi];rfl] at h
 exact(Option.some.inj h).symm
theorem z2X{hs:List Int}{rows:List Row}{r n:Int}{ws:List Str}(h:z1K hs rows r n=some ws):ws=z0x (z0t rows n)/\(n∈hs\/z0F hs n r≠0):=by
 unfold z1K at h
 split at h
 ·rename_i c
  exact⟨(Option.some.inj h).symm,c⟩
 ·cases h
theorem z9K(m:Nat)(hs:List Int)(rows:List Row)(r:Int):(z5j (z0K m hs rows r)).length=m:=by
 unfold z5j
 rw[b9,z0W]
theorem y53{ks:List (Option (List Str))}{i:Nat}{zs:List Str}(h:(z5j ks)[i]? = some zs):∃o,ks[i]? = some o/\zs=o.getD []:=by
 unfold z5j at h
 rw[bC] at h
 obtain⟨o,e,h⟩:=bU.mp h
 exact⟨o,e,h.symm⟩
theorem y0H{nm:List Str}{rows:List Row}(R:Rws nm rows)(m:Nat)(hs:List Int)(r:Int):z7b nm (z0K m hs rows r) (z5j (z0K m hs rows r)):=by
 refine⟨by rw[z9K,z0W],fun i o zs h1 h2=>?_⟩
 obtain⟨o',e,rfl⟩:=y53 h2
 rw[h1] at e
 cases e
 obtain⟨_,eo⟩:=z5h h1
 cases o with
 | none=>exact⟨kC _,fun _ h=>by cases h⟩
 | some ws=>
  refine⟨?_,fun _ h=>by cases h;rfl⟩
  rw[show(some ws).getD []=ws from rfl,(z2X eo.symm).1]
  exact z8T R _
theorem y25{c:List (List Str)}{d:Nat}{z:Str}(h1:1≤d)(h2:d≤c.length)(i:Nat):(z6r c d z)[i]? = if i=d-1 then some [z] else c[i]? := by
 have hl:(c.take (d-1)).length=d-1:=by rw[bG];lia
 unfold z6r
 by_cases hi:i<d-1
 ·rw[if_neg (by lia),dN (by rw[bN,hl];show i<d-1+1;lia),dN (by lia),eB hi]
 ·by_cases he:i=d-1
  ·rw[if_pos he,dN (by rw[bN,hl];show i<d-1+1;lia),eJ (by lia),hl,he,Nat.sub_self]
   rfl
  ·rw[if_neg he,eJ (by rw[bN,hl];show d-1+1≤i;lia),bN,hl,List.getElem?_drop]
   congr 1
   show d+(i-(d-1+1))=i
   lia
theorem y0p{c:List (List Str)}{d:Nat}{z:Str}(h1:1≤d)(h2:d≤c.length):(z6r c d z).length=c.length:=by
 unfold z6r
 rw[bN,bN,bG,dA]
 show min (d-1) c.length+1+(c.length-d)=c.length
 lia
theorem y3l{nm:List Str}{rows:List Row}(R:Rws nm rows){m:Nat}{hs:List Int}{r:Int}{d:Nat}{z:Str}(hz:z∈nm)(d1:1≤d)(dm:d≤m)(hd:(d:Int)∈z1B hs r):z7b nm (z0K m hs rows r) (z6r (z5j (z0K m hs rows r)) d z):=by
 have hb:=z9K m hs rows r
 refine⟨by rw[y0p d1 (by lia),hb,z0W],fun i o zs h1 h2=>?_⟩
 rw[y25 d1 (by lia)] at h2
 split at h2
 ·rename_i e
  cases h2
  obtain⟨_,eo⟩:=z5h h1
  have en:(1:Int)+(i:Int)=(d:Int):=by lia
  rw[en] at eo
  obtain⟨q1,q2⟩:=z4x.mp hd
  have:z1K hs rows r d=none:=by
   unfold z1K
   rw[if_neg (fun h=>h.elim (z0U.mp q1).2.1 fun h=>h q2)]
  rw[this] at eo
  subst eo
  exact⟨List.singleton_sublist.mpr hz,fun _ h=>by cases h⟩
 ·exact(y0H R m hs r).2 i o zs h1 h2
noncomputable def InC(c:List (List Str))(num:Int)(z:Str):Prop:=∃(i:Nat) (zs:List Str),c[i]? = some zs/\num<(i:Int)+1/\z∈zs
theorem y5O{c:List (List Str)}{d:Nat}{z:Str}{num:Int}(h1:1≤d)(h2:d≤c.length)(h:num<(d:Int)):InC (z6r c d z) num z:=⟨d-1,[z],by rw[y25 h1 h2,if_pos rfl],by lia,bB.mpr rfl⟩
theorem y5H{hs:List Int}{rows:List Row}{r:Int}{m:Nat}{z:Str}(rise:hs.Pairwise (· < ·))(h60:∀x∈hs,1≤x/\x≤60)(it:z3Q hs m)(ns:z0X hs rows r (z1k (z0S hs rows z)) z≠"stale"):¬InC (z5j (z0K m hs rows r)) (z1k (z0S hs rows z)) z:=by
 rintro⟨i,zs,h1,h2,h3⟩
 obtain⟨o,e,rfl⟩:=y53 h1
 obtain⟨hi,eo⟩:=z5h e
 cases o with
 | none=>cases h3
 | some ws=>
  obtain⟨rfl,c⟩:=z2X eo.symm
  have h3':z∈z0x (z0t rows (1+(i:Int))):=h3
  obtain⟨v,ev⟩:=y6x h3'
  by_cases hin:(1:Int)+(i:Int)∈hs
  ·rcases y2F (rows:=rows) (z:=z) hs rise with ⟨_,q⟩|⟨n,u,q1,q2,q3,q4⟩
   ·rw[q _ hin] at ev
    cases ev
   ·rw[q1] at h2
    have h2':n<(i:Int)+1:=h2
    rw[q4 _ hin (by lia)] at ev
    cases ev
  ·have ct:=c.resolve_left hin
   refine ns ?_
   unfold z0X
   rw[if_pos]
   refine jT.mpr (List.ne_nil_of_mem (a:=1+(i:Int)) ?_)
   unfold z4C
   rw[cK,cG,decide_eq_true_eq,decide_eq_true_eq]
   refine⟨z0U.mpr ?_,by lia,?_⟩
   ·rcases it.1 with q|⟨q,q0⟩
    ·have:=h60 _ q
     refine⟨by lia,hin,m,q,?_⟩
     have:(1:Int)+(i:Int)≠m:=fun e=>hin (e ▸ q)
     lia
    ·lia
   ·unfold z2q
    rw[if_neg ct]
    exact h3'
noncomputable def y8J(K:PySem.W.Frag):Sp:=fun vs H Q _=>∃(v:V) (c:List (List Str)) (num:Int) (z:Str),vs=[v,.int num,.str z]/\B2 H (z8y c) v/\c.length≤1000/\(InC c num z->Q (.bl true) H)/\(¬InC c num z->Q (.bl false) H)
theorem y0L(M:Bl mg)(F:Fun K "_law_in_course" "_law_in_course" z3a f fd):B4 P w K mg base CX0 1 f fd z3c (y8J K):=by
 have nd:=z4k.nd
 refine F.ok z4k (fun vs H Q E h=>?_) (fun cdv A outer s H vs Q E hr h=>?_)
 ·obtain⟨v,c,num,z,rfl,_⟩:=h
  rfl
 obtain⟨v,c,num,z,rfl,tc,c1000,qt,qf⟩:=h
 refine⟨_,(z04 (z0O bR rfl (z1b rfl M.range (z00 (z0b z09 rfl M.len bO (z00 (pv 0) z02)) z02)) (z0j (i:=3) nd rfl (Or.inl rfl)) (z05 (z0E (PW.pt (z3l (z0c z2p (z0u z1u (pv 3) z06) (pv 1) (z0o _)) (z2k (z0c z3W (pv 2) (z0B z0C (pv 0) (pv 3) (fun _ _=>rfl)) (by with_unfolding_all rfl))))) (z05 (z0i z1P)) z0l))) (z05 (z0i z1P))),?_⟩
 obtain⟨a,us,rfl,ea,_,tu⟩:=z0d (show B2 H (.tup (c.map L4)) v from tc)
 have lus:us.length=c.length:=by rw[tu.length,b9]
 refine(rdI rfl (ex2 a us ⟨rfl,.inr (SqT.of ea),(rdI rfl ⟨by lia,by lia,?_⟩)⟩))
 refine z13 (lo:=0) (n:=((us.length:Nat):Int).toNat) (fun i σ G=>∃(o3:Option V),G=H/\(∀(j:Nat) (zs:List Str),j<i->c[j]? = some zs->num<(j:Int)+1->z∉zs)/\σ=[some (.ref a),some (.int num),some (.str z),o3]) ⟨_,rfl,fun _ _ h=>absurd h (g0 _),rfl⟩ (fun i σ G hi hp=>?_) (fun σ G hp=>?_)
 ·obtain⟨o3,rfl,done,rfl⟩:=hp
  have hic:i<c.length:=by lia
  have ei:(0:Int)+(i:Int)=(i:Int):=eZ _
  have eci:c[i]? = some c[i]:=bD hic
  generalize c[i]=zs at eci
  obtain⟨u,eu,tu1⟩:=tu.get i (L4 zs) (by rw[bC,eci];rfl)
  obtain⟨b,ws,rfl,eb,_,tb⟩:=z0d (show B2 G (.tup (zs.map DV.str)) u from tu1)
  have ews:=z11 tb
  subst ews
  have atu:atI us ((0:Int)+(i:Int))=some (.ref b):=by rw[ei];exact z0R eu
  have more:(num<(i:Int)+1->z∉zs)->∀(j:Nat) (zs:List Str),j<i+1->c[j]? = some zs->num<(j:Int)+1->z∉zs:=fun h j zs' hj h1 h2=>by
   by_cases e:j=i
   ·subst e
    rw[eci] at h1
    cases h1
    exact h h2
   ·exact done j zs' (by lia) h1 h2
  refine(rdI rfl (ex2 _ _ ⟨rfl,rfl,(rdI rfl (ex2 _ _ ⟨rfl,rfl,(rdI rfl ?_)⟩))⟩))
  by_cases c1:num<(i:Int)+1
  ·rw[decide_eq_true (show num<0+(i:Int)+1 by lia)]
   refine F6 (rdI rfl (rdI rfl (rdI rfl (ex4 a _ _ _ ⟨rfl,rfl,SqT.of ea,atu,(ex2 b _ ⟨rfl,.inr (SqT.of eb),rfl,z18 zs,(rdI rfl ?_)⟩)⟩))))
   rw[if_neg bM,z7U]
   by_cases c2:z∈zs
   ·rw[decide_eq_true c2]
    exact F6 (qt ⟨i,zs,eci,c1,c2⟩)
   ·rw[decide_eq_false c2]
    exact B8 (rdI rfl ⟨more fun _=>c2,rfl⟩)
  ·rw[decide_eq_false (show ¬num<0+(i:Int)+1 by lia)]
   exact B8 (B8 (rdI rfl ⟨more fun h=>absurd h c1,rfl⟩))
 ·obtain⟨o3,rfl,done,rfl⟩:=hp
  refine qf fun⟨i,zs,h1,h2,h3⟩=>done i zs ?_ h1 h2 h3
  have:=(bV.mp h1).1
  lia
theorem y38{nm zs:List Str}(nd:nm.Nodup):zs.Sublist nm↔zs=nm.filter fun z=>decide (z∈zs):=by
 constructor
 ·intro h
  induction h with
  | slnil=>rfl
  | cons a h ih=>
   rw[dB] at nd
   rw[dM,if_neg (fun z=>nd.1 (h.subset (of_decide_eq_true z)))]
   exact ih nd.2
  | cons_cons a h ih=>
   rename_i l1 l2
   rw[dB] at nd
   rw[dM,if_pos (decide_eq_true cC)]
   congr 1
   refine(ih nd.2).trans (List.filter_congr fun z hz=>?_)
   rw[decide_eq_decide,bE]
   exact⟨.inr,fun h=>h.elim (fun e=>absurd (e ▸ hz) nd.1) id⟩
 ·intro h
  rw[h]
  exact List.filter_sublist
noncomputable def y1R(K:PySem.W.Frag):Sp:=fun vs H Q _=>∃(pn pc:Addr) (nm zs:List Str),vs=[.ref pn,.ref pc]/\SqT K H pn (nm.map V.str)/\nm.Nodup/\nm.length≤12/\SqT K H pc (zs.map V.str)/\∀H',B0 H H'->Q (.bl (decide (zs.Sublist nm))) H'
theorem y3Q(M:Bl mg)(F:Fun K "is_choice" "is_choice" z6H f fd):B4 P w K mg base CX0 1 f fd z7i (y1R K):=by
 have nd:=z96.nd
 refine F.ok z96 (fun vs H Q E h=>?_) (fun cdv A outer s H vs Q E hr h=>?_)
 ·obtain⟨pn,pc,nm,zs,rfl,_⟩:=h
  rfl
 obtain⟨pn,pc,nm,zs,rfl,hN,ndn,n12,hC,q⟩:=h
 refine⟨_,(z05 (z0i (z8f (y5q hr.P8) (pv 1) (z0s z0m rfl M.tuple bH (z00 (z15 ["name"] ["chosen"] [1] rfl (z0w rfl (by decide +kernel) rfl (by decide +kernel) rfl rfl) (z1L (pv 0)) (fun _ _ _ _ _=>(z0j (i:=0) (show((["name"]:List PySem.Str)++(["chosen"]:List PySem.Str)).Nodup from by decide +kernel) rfl (Or.inl rfl))) (z0y (by decide)) z0h (fun _ _ _ _ _=>(z2f (z0c (r:=rIn K false) z3W (pv 0) (pv 1) (by with_unfolding_all rfl)))) (fun _ _ _ _ _=>(pv 0))) z02)) (z0o _)))),?_⟩
 refine(rdI rfl (rdI rfl ⟨pn,rfl,⟨_,hN⟩,?_⟩))
 refine z1n (xs:=nm.map V.str) (fun i ys G=>G=H/\ys=((nm.take i).filter fun z=>decide (z∈zs)).map V.str) ⟨rfl,rfl⟩ (fun i ys G hi hp=>?_) (fun i y ys G hy hp=>?_) (fun ys G hp=>?_)
 ·obtain⟨rfl,rfl⟩:=hp
  refine⟨hN,z0f ?_⟩
  rw[b9]
  have:=c6 (fun z=>decide (z∈zs)) (nm.take i)
  rw[bG] at this
  lia
 ·obtain⟨rfl,rfl⟩:=hp
  rw[bC] at hy
  obtain⟨z,ez,rfl⟩:=bU.mp hy
  refine(rdI rfl (rdI rfl (ex2 pc _ ⟨rfl,.inr hC,rfl,z18 zs,(rdI rfl ?_)⟩)))
  rw[if_neg bM,z7U,z0n ez,dH,dM]
  by_cases c:z∈zs
  ·rw[decide_eq_true c,if_pos rfl,bF]
   exact F6 (rdI rfl ⟨rfl,rfl⟩)
  ·rw[decide_eq_false c,if_neg bM,fB,cR]
   exact B8 ⟨rfl,rfl⟩
 ·obtain⟨rfl,rfl⟩:=hp
  rw[b9,bT]
  intro D hD
  refine(ex2 D _ ⟨rfl,.inl ⟨SqL.of z03,fun t ht=>?_⟩⟩)
  have s1:=(z01 hD (.lst ((nm.filter fun z=>decide (z∈zs)).map V.str))).trans (z01 ht (.tup ((nm.filter fun z=>decide (z∈zs)).map V.str)))
  refine(ex4 pc t _ _ ⟨rfl,rfl,z69 s1 hC,SqT.of z03,z18 zs,z18 _,?_⟩)
  rw[z6Z]
  have:=q _ s1
  rw[decide_eq_decide.mpr (y38 ndn)] at this
  exact this
noncomputable def StO(nm:List Str)(o:Option (List Str))(zs:List Str):Bool:=match o with
 | none=>decide (zs.Sublist nm)
 | some ws=>decide (zs=ws)
noncomputable def y5e(K:PySem.W.Frag):Sp:=fun vs H Q _=>∃(pn pc:Addr) (v:V) (nm zs:List Str) (o:Option (List Str)),vs=[.ref pn,v,.ref pc]/\SqT K H pn (nm.map V.str)/\nm.Nodup/\nm.length≤12/\SqT K H pc (zs.map V.str)/\B2 H (O5 o) v/\∀H',B0 H H'->Q (.bl (StO nm o zs)) H'
theorem y65(M:Bl mg)(F:Fun K "may_stand" "may_stand" z6I f fd)(P5:Cal P w K mg base 1 "is_choice" z7i (y1R K)):B4 P w K mg base CX0 2 f fd z6L (y5e K):=by
 have nd:=z8E.nd
 refine F.ok z8E (fun vs H Q E h=>?_) (fun cdv A outer s H vs Q E hr h=>?_)
 ·obtain⟨pn,pc,v,nm,zs,o,rfl,_⟩:=h
  rfl
 obtain⟨pn,pc,v,nm,zs,o,rfl,hN,ndn,n12,hC,tv,q⟩:=h
 refine⟨_,(z05 (z0i (z56 (z7u (z8W (pv 1))) (z0e P5 (rm hr) rfl (z00 (pv 0) (z00 (pv 2) z02))) (z8f (y5q hr.P8) (pv 2) (pv 1) (z0o _))))),?_⟩
 cases o with
 | none=>
  have ev:v=.non:=by
   unfold O5 B2 at tv
   exact tv
  subst ev
  exact(rdI rfl (rdI rfl (F6 (rdI rfl (rdI rfl (ex4 pn pc nm zs ⟨rfl,hN,ndn,n12,hC,fun H' s'=>q H' s'⟩))))))
 | some ws=>
  obtain⟨b,us,rfl,eb,_,tb⟩:=z0d (show B2 H (.tup (ws.map DV.str)) v from tv)
  have e:=z11 tb
  subst e
  refine(rdI rfl (rdI rfl (B8 (rdI rfl (rdI rfl (ex4 pc b _ _ ⟨rfl,rfl,hC,SqT.of eb,z18 zs,z18 ws,?_⟩))))))
  rw[z6Z]
  exact q H (B0.refl _)
noncomputable def y70(Sh:ShP):Sp:=fun vs H Q _=>∃(x:Addr) (v:V) (fp:List Addr) (nm:List Str) (r:Int) (rows:List Row) (had:List Int) (m:Nat) (c:List (List Str)),vs=[.ref x,v]/\Sh H x fp nm r (fun n=>z0N rows n r) had/\E2 nm/\Rws nm rows/\rows.length≤60/\(∀n∈had,1≤n/\n≤rows.length)/\0≤r/\r≤10/\z3Q had m/\B2 H (z8y c) v/\
 (z7b nm (z0K m (z0a had) rows r) c->∀H',B0 H H'->Q (.bl true) H')/\(¬z7b nm (z0K m (z0a had) rows r) c->∀H',B0 H H'->Q (.bl false) H')
theorem y2d{nm:List Str}{rows:List Row}(R:Rws nm rows){m:Nat}{hs:List Int}{r:Int}{c:List (List Str)}(hl:c.length=(z0K m hs rows r).length) :
  z7b nm (z0K m hs rows r) c↔(((z0K m hs rows r).zip c).map fun p=>StO nm p.1 p.2).all id=true:=by
 rw[fP]
 constructor
 ·intro h b hb
  obtain⟨⟨o,zs⟩,hp,rfl⟩:=cM.mp hb
  obtain⟨i,hi,e⟩:=gR hp
  rw[List.getElem_zip] at e
  rw[List.length_zip] at hi
  have h1:(z0K m hs rows r)[i]? = some o:=by rw[bD (by lia)];exact congrArg some (congrArg Prod.fst e)
  have h2:c[i]? = some zs:=by rw[bD (by lia)];exact congrArg some (congrArg Prod.snd e)
  obtain⟨q1,q2⟩:=h.2 i o zs h1 h2
  show StO nm o zs=true
  cases o with
  | none=>exact decide_eq_true q1
  | some ws=>exact decide_eq_true (q2 ws rfl)
 ·intro h
  refine⟨hl,fun i o zs h1 h2=>?_⟩
  have hi1:=(bV.mp h1).1
  have hi2:=(bV.mp h2).1
  have hz:i<((z0K m hs rows r).zip c).length:=by rw[List.length_zip];lia
  have e:((z0K m hs rows r).zip c)[i]=(o,zs):=by
   rw[List.getElem_zip]
   rw[bD hi1] at h1
   rw[bD hi2] at h2
   rw[Option.some.inj h1,Option.some.inj h2]
  have hb:StO nm o zs=true:=h (StO nm o zs) (cM.mpr ⟨(o,zs),by rw[<- e];exact eX hz,rfl⟩)
  cases o with
  | none=>exact⟨of_decide_eq_true hb,fun _ h=>by cases h⟩
  | some ws=>
   have ew:zs=ws:=of_decide_eq_true hb
   refine⟨?_,fun _ h=>by cases h;exact ew⟩
   rw[ew,(z2X (z5h h1).2.symm).1]
   exact z8T R _
theorem y84{A0:Addr}(M:Bl mg)(T:D4 K mg A0)(F:Fun K "fits" "fits" y7o f fd)(F8:Cal P w K mg base 4 "known_sets" z4e (y1i (ShD K A0)))(P9:Cal P w K mg base 2 "may_stand" z6L (y5e K)):B4 P w K mg base CX0 5 f fd y7Q (y70 (ShD K A0)):=by
 have nd:=y6F.nd
 refine F.ok y6F (fun vs H Q E h=>?_) (fun cdv A outer s H vs Q E hr h=>?_)
 ·obtain⟨x,v,fp,nm,r,rows,had,m,c,rfl,_⟩:=h
  rfl
 obtain⟨x,v,fp,nm,r,rows,had,m,c,rfl,sh,gn,R,l60,hh,r0,r10,it,tc,qt,qf⟩:=h
 refine⟨_,(z04 (z0p (i:=2) nd rfl (Or.inl rfl) (z0e F8 (rm hr) rfl (z00 (pv 0) z02))) (z04 (z0E (z0c z7g (z0b z09 rfl M.len bO (z00 (pv 1) z02)) (z0b z09 rfl M.len bO (z00 (pv 2) z02)) (z0o _)) (z05 (z0i z1P)) z0l) (z05 (z0i (z0b (y5C rfl) rfl M.all PyProof.Rows.boot_all (z00 (z15 ["known","chosen"] ["shelf"] [0] rfl (z0w rfl (by decide +kernel) rfl (by decide +kernel) rfl rfl) (y8v rfl M.zip (z00 (pv 2) (z00 (pv 1) z02))) (fun _ _ _ _ _=>(z98 (K:=K) (n:=2) rfl rfl (z1f (z0j (i:=0) (show((["known","chosen"]:List PySem.Str)++(["shelf"]:List PySem.Str)).Nodup from by decide +kernel) rfl (Or.inl rfl)) (z1f (z0j (i:=1) (show((["known","chosen"]:List PySem.Str)++(["shelf"]:List PySem.Str)).Nodup from by decide +kernel) rfl (Or.inl rfl)) z4Q)))) (z8P (z1X (z0y (by decide)) z0h (z1X (z0y (by decide)) z0h z7d z1a) (z0P z0h z1a))) (z6x (z0P z0h (z0P z0h z1a))) (fun _ _ _ _ _=>z1E) (fun _ _ _ _ _=>(z0e P9 (rm hr) rfl (z00 (y7T (K:=K) rfl (pv 2) rfl) (z00 (pv 0) (z00 (pv 1) z02)))))) z02)))))),?_⟩
 have h60:∀n∈had,1≤n/\n≤60:=fun n hn=>by have:=hh n hn;lia
 have hm60:m≤60:=by have:=it.le (k:=60) (by decide) fun x hx=>(h60 x hx).2;lia
 obtain⟨dx,pn,fs,h1,h3,ln⟩:∃dx pn fs,H x=some (.ins A0 dx fs)/\H pn=some (.tup (nm.map V.str))/\fs.lookup ("names":Str)=some (V.ref pn):=by
  obtain⟨dx,pn,pd,fs,kvs,_,h1,_,h3,_,l1,_⟩:=sh
  exact⟨dx,pn,fs,h1,h3,l1⟩
 refine(rdI rfl (ex7 x fp nm r rows had m ⟨rfl,sh,gn,R,l60,hh,r0,r10,it,fun kv H1 s1 tk=>?_⟩))
 obtain⟨ak,us,rfl,eak,_,tus⟩:=z0d tk
 obtain⟨ac,ws,rfl,eac,_,tws⟩:=z0d (show B2 H (.tup (c.map L4)) v from tc)
 have lus:us.length=(z0K m (z0a had) rows r).length:=by rw[tus.length,b9]
 have lws:ws.length=c.length:=by rw[tws.length,b9]
 have lk:=z0W m (z0a had) rows r
 have w0C:=s1 _ _ eac
 refine(rdI rfl (ex2 ac _ ⟨rfl,.inr (SqT.of w0C),(rdI rfl ⟨ak,(rdI rfl ⟨.inr (SqT.of eak),rfl,(rdI rfl ?_)⟩)⟩)⟩))
 by_cases cl:c.length=(z0K m (z0a had) rows r).length
 case neg=>
  rw[decide_eq_false (fun e=>cl (by injection e with e;lia))]
  exact F6 (qf (fun h=>cl h.1) H1 s1)
 rw[decide_eq_true (by rw[lus,lws,cl])]
 refine B8 ?_
 refine(rdI rfl (rdI rfl (ex4 ak ac us ws ⟨rfl,SqT.of eak,SqT.of w0C,by lia,?_⟩)))
 refine y6m (xs:=us) (ys:=ws) (by lia) (fun i zs G=>B0 H1 G/\zs=((((z0K m (z0a had) rows r).zip c).take i).map fun p=>StO nm p.1 p.2).map V.bl) ⟨B0.refl _,rfl⟩ (fun i zs G hi hp=>?_) (fun i y1 y2 zs G T' e1 e2 hT hp=>?_) (fun zs G hp=>?_)
 ·obtain⟨g,rfl⟩:=hp
  refine⟨SqT.of (g _ _ eak),SqT.of (g _ _ w0C),z0f ?_⟩
  rw[b9,b9,bG]
  lia
 ·obtain⟨g,rfl⟩:=hp
  have gT:=g.trans (z01 hT (.tup [y1,y2]))
  obtain⟨d,ed,td⟩:=tus.at i y1 e1
  rw[bC] at ed
  obtain⟨o,eo,rfl⟩:=bU.mp ed
  obtain⟨d2,ed2,td2⟩:=tws.at i y2 e2
  rw[bC] at ed2
  obtain⟨zs2,ez2,rfl⟩:=bU.mp ed2
  obtain⟨b,vs2,rfl,eb,_,tb⟩:=z0d (show B2 H (.tup (zs2.map DV.str)) y2 from td2)
  have e:=z11 tb
  subst e
  have sG:=s1.trans gT
  have ez:((z0K m (z0a had) rows r).zip c)[i]? = some (o,zs2):=by
   rw[List.getElem?_zip_eq_some]
   exact⟨eo,ez2⟩
  refine(ex2 T' _ ⟨rfl,SqT.of z03,rfl,(ex2 _ _ ⟨rfl,(ex2 _ _ ⟨rfl,rfl,?_⟩)⟩)⟩)
  refine(rdI rfl (ex5 x A0 dx fs _ ⟨rfl,sG _ _ h1,T.cl,T.n_names,ln,(rdI rfl (rdI rfl (ex6 pn b y1 nm zs2 o ⟨rfl,SqT.of (sG _ _ h3),gn.nd,gn.hi,SqT.of (sG _ _ eb),B2.keep gT _ _ td,fun G2 g2=>⟨gT.trans g2,?_⟩⟩)))⟩))
  rw[z0n ez,bF,bF]
  rfl
 ·obtain⟨g,rfl⟩:=hp
  rw[cO (by rw[List.length_zip];lia)]
  intro D hD
  refine(ex2 D _ ⟨rfl,SqL.of z03,?_⟩)
  have sF:=s1.trans (g.trans (z01 hD (.lst ((((z0K m (z0a had) rows r).zip c).map fun p=>StO nm p.1 p.2).map V.bl))))
  by_cases cf:z7b nm (z0K m (z0a had) rows r) c
  ·rw[(y2d R cl).mp cf]
   exact qt cf _ sF
  ·rw[fI.mpr fun h=>cf ((y2d R cl).mpr h)]
   exact qf cf _ sF
structure Alt(nm:List Str)(hs:List Int)(rows:List Row)(r:Int)(C6:List Row):Prop where
 len:C6.length=rows.length
 R:Rws nm C6
 had:∀n∈hs,z0t C6 n=z0t rows n
 seen:∀n,1≤n->n≤(rows.length:Int)->z0F hs n r≠0->z0x (z0t C6 n)=z0x (z0t rows n)
noncomputable def y1Y(K:PySem.W.Frag):Sp:=fun vs H Q _=>∃(ln lr lh a:Addr) (nm:List Str) (us:List V) (rows:List Row) (hs ns:List Int) (r:Int),vs=[.ref ln,.ref lr,.ref lh,.int r,.ref a]/\SqL K H ln (nm.map V.str)/\E2 nm/\SqL K H lr us/\z08 H (rows.map N3) us/\rows.length≤60/\Rws nm rows/\
 SqL K H lh (hs.map V.int)/\(∀x∈hs,1≤x/\x≤(rows.length:Int))/\hs.length≤60/\0≤r/\SqL K H a (ns.map V.int)/\
 ∀(l2:Addr) (us2:List V) (C6:List Row) (H':Hp),H l2=none->B0 H H'->H' l2=some (.lst us2)->z08 H' (C6.map N3) us2->Alt nm hs rows r C6->Q (.ref l2) H'
noncomputable def y0l(K:PySem.W.Frag)(Bk:BkP):Sp:=fun vs H Q _=>∃(ln lr:Addr) (nm:List Str) (us:List V) (rows:List Row) (r:Int),vs=[.ref ln,.int r,.ref lr]/\SqL K H ln (nm.map V.str)/\E2 nm/\SqL K H lr us/\z08 H (rows.map N3) us/\rows.length≤60/\Rws nm rows/\0≤r/\r≤10/\
 ∀(x:Addr) (fp:List Addr) (H':Hp),(∀b∈fp,H b=none)->B0 H H'->Bk H' x fp nm r 2 rows (K5 rows.length)->Q (.ref x) H'
theorem y3c{α β:Type}{R:α->β->Prop}{xs:List α}{ys:List β}(h:Paired R xs ys)(i:Nat){x:α}{y:β}(hr:R x y):Paired R (xs.set i x) (ys.set i y):=by
 induction h generalizing i with
 | nil=>exact .nil
 | cons h t ih=>
  cases i with
  | zero=>exact .cons hr t
  | succ i=>exact .cons h (ih i)
theorem z08.set{H:Hp}:∀{ds:List DV}{xs:List V} (i:Nat) {d:DV}{x:V},z08 H ds xs->B2 H d x->z08 H (ds.set i d) (xs.set i x)
 | [],_,i,d,x,h,t=>by
  have:=z0G h
  subst this
  exact .nil
 | d0::ds,_,0,d,x,h,t=>by
  obtain⟨x0,r,rfl,h1,h2⟩:=z0g h
  exact .cons t h2
 | d0::ds,_,i+1,d,x,h,t=>by
  obtain⟨x0,r,rfl,h1,h2⟩:=z0g h
  exact .cons h1 (z08.set i h2 t)
theorem SqL.new{H H':Hp}{a:Addr}{xs:List V}{fp:List Addr}(f:∀b∈fp,H b=none)(s:z0A fp H H')(h:SqL K H a xs):SqL K H' a xs:=by
 rcases h with (h|⟨o,h⟩)|h
 ·exact .inl (.inl (s _ _ h fun m=>by rw[f _ m] at h;cases h))
 ·exact .inl (.inr ⟨o,s _ _ h fun m=>by rw[f _ m] at h;cases h⟩)
 ·exact .inr h
theorem y6R{n:Nat}{k:Int}(h0:0≤k)(h:k<(n:Int)):ixN n k=some k.toNat:=by
 unfold ixN
 rw[if_pos h0,if_pos h]
theorem y6t{nm:List Str}{rows:List Row}{w:Row}(R:Rws nm rows)(nd:nm.Nodup)(hw:w∈rows):GoodR nm w/\z1v nm w=w:=by
 have sb:=R.sub w hw
 exact⟨⟨sb.nodup nd,fun p hp=>sb.subset (gS hp),fun p hp=>R.val w hw p hp⟩,z5W nd sb⟩
theorem z6g{rows:List Row}{n:Int}(h1:1≤n)(h2:n≤(rows.length:Int)):rows[(n-1).toNat]? = some (z0t rows n):=by
 have:(n-1).toNat<rows.length:=by lia
 unfold z0t
 rw[bK,bD this]
 rfl
theorem y5g{rows:List Row}{n m:Int}{w:Row}(h1:1≤n)(h2:n≤(rows.length:Int))(m1:1≤m):z0t (rows.set (n-1).toNat w) m=if m=n then w else z0t rows m:=by
 unfold z0t
 rw[bK,bK,List.getElem?_set]
 by_cases e:m=n
 ·rw[if_pos e,if_pos (by lia),if_pos (by lia)]
  rfl
 ·rw[if_neg e,if_neg (by lia)]
theorem y2C(M:Bl mg)(F:Fun K "_law_written" "_law_written" z46 f fd){B1:Addr}{Bk:BkP}(O:W3 B1 ["write","deliver","latest","issue","deeds","deed","shelf"] Bk)
  (Y4:Mkr P w K mg base 8 B1 "Book" z3v (y2w K B1 Bk)) (O7:D9 P w K mg base 8 B1 "write" z5V (y11 K Bk)):B4 P w K mg base CX0 10 f fd z4a (y0l K Bk):=by
 have nd:=z5z.nd
 refine F.ok z5z (fun vs H Q E h=>?_) (fun cdv A outer s H vs Q E hr h=>?_)
 ·obtain⟨ln,lr,nm,us,rows,r,rfl,_⟩:=h
  rfl
 obtain⟨ln,lr,nm,us,rows,r,rfl,hN,gn,hR,tl,r60,R,r0,r10,q⟩:=h
 refine⟨_,(z04 (z0p (i:=3) nd rfl (Or.inl rfl) (y4o Y4 (rm hr) rfl (z00 (z0s z4N rfl M.list jB (z00 (pv 0) z02)) (z00 (pv 1) (z00 z06 z02))))) (z04 (z0O bR rfl (z16 (pv 2)) (z0j (i:=4) nd rfl (Or.inl rfl)) (z05 (z0D (z1I O7 (rm hr) (pv 3) (z00 (z0s z4N rfl M.list jB (z00 (pv 4) z02)) z02))))) (z05 (z0i (pv 3))))),?_⟩
 have lus:us.length=rows.length:=by rw[tl.length,b9]
 refine(rdI rfl (ex2 ln (nm.map V.str) ⟨rfl,.inl hN,fun l1 hl1=>(rdI rfl (fun x dx nx ndx ne=>?_))⟩))
 have mm1:=z8D (C:=B1) (z01 hl1 (.lst (nm.map V.str))) nx ndx
 refine(ex6 x dx l1 nm r 2 ⟨rfl,z03,ne,by rw[z0k ne,z03],.inl (SqL.of (y0m nx ndx z03)),gn,r0,r10,by decide,by decide,fun fp H5 hfp b5 bk5=>⟨rfl,?_⟩⟩)
 have s5:B0 H H5:=z8j b5 mm1 ((z01 hl1 _).free nx)
 have f5:∀b∈fp,H b=none:=fun b hb=>z6P mm1 ((z01 hl1 _).free nx) ((z01 hl1 _).free ndx) (hfp b hb)
 refine(rdI rfl ⟨lr,rfl,⟨_,s5.seq hR⟩,z1g (K:=K) (a:=lr) (xs:=us) (fun i σ G=>∃(fp':List Addr) (o:Option V),B0 H G/\Bk G x fp' nm r 2 (rows.take i) (K5 i)/\(∀b∈fp',H b=none)/\σ=[some (.ref ln),some (.int r),some (.ref lr),some (.ref x),o]) ⟨fp,none,s5,bk5,f5,rfl⟩ (fun i σ G _ ⟨_,_,g,_⟩=>g.seq hR) ?_ ?_⟩)
 ·rintro i u σ G hi ⟨fp',o,g,bk,ff,rfl⟩
  obtain⟨d,ed,td⟩:=(z08.keep g _ _ tl).at i u hi
  rw[bC] at ed
  obtain⟨wr,ew,rfl⟩:=bU.mp ed
  have hw:=bP ew
  have hi':i<rows.length:=(bV.mp ew).1
  obtain⟨ar,xs,rfl,er,_,tp⟩:=z0d td
  obtain⟨d2,g2,z2,w2⟩:=O.ins bk
  refine(rdI rfl (ex3 x d2 g2 ⟨rfl,z2,w2 _ (by simp),(rdI rfl (ex2 ar xs ⟨rfl,.inr (SqT.of er),fun l hl=>?_⟩))⟩))
  have sl:=z01 hl (.lst xs)
  have el:upd G l (.lst xs) l=some (.lst xs):=z03
  have nl:l∉fp':=fun m=>by
   obtain⟨o,e,_⟩:=O.own bk l m
   rw[hl] at e
   cases e
  have bk':=O.same bk sl
  have hts:=y2l (z08.keep sl _ _ tp)
  generalize upd G l (.lst xs)=G1 at sl el bk' hts
  obtain⟨good,ino⟩:=y6t R gn.nd hw
  have lti:(rows.take i).length=i:=by rw[bG];lia
  refine(ex9 x (.ref l) fp' nm r 2 (rows.take i) (K5 i) wr ⟨rfl,bk',(ex2 l xs ⟨rfl,.inl (SqL.of el),nl,HT.hand (O.S3 bk') hts⟩),good,y1Z R gn.hi wr hw,by lia,by rw[z7R];lia,fun fp2 H6 hf2 b6 bk6=>?_⟩)
  rw[ino,lti,<- z0n ew,<- y5t] at bk6
  have gl:=g.trans sl
  exact⟨fp2,_,(fun b o e=>b6 b o (gl _ _ e) fun m=>by rw[ff b m] at e;cases e),bk6,(fun b m=>(hf2 b m).elim (ff b) fun z=>gl.free z),rfl⟩
 ·rintro σ G ⟨fp',o,g,bk,ff,rfl⟩
  rw[lus,bT] at bk
  exact(rdI rfl (q x fp' G ff g bk))
theorem y3T(M:Bl mg)(F:Fun K "_law_second" "_law_second" z4W f fd)(C9:Cal P w K mg base 1 "_law_at" z58 (Z0 K))(J8:Cal P w K mg base 2 "_law_sets" z5e (y4s K))(E7:Cal P w K mg base 2 "_law_valued" z3m y0h)(C4:Cal P w K mg base 1 "_law_teller" z2h (z4E K)) :
  B4 P w K mg base CX0 4 f fd z54 (y1Y K):=by
 have nd:=z6u.nd
 refine F.ok z6u (fun vs H Q E h=>?_) (fun cdv A outer s H vs Q E hr h=>?_)
 ·obtain⟨ln,lr,lh,a,nm,us,rows,hs,ns,r,rfl,_⟩:=h
  rfl
 obtain⟨ln,lr,lh,a,nm,us,rows,hs,ns,r,rfl,hN,gn,hR,tl,r60,R,hL,hsr,h60l,r0,hS,q⟩:=h
 refine⟨_,(z04 (z0p (i:=5) nd rfl (Or.inl rfl) (z0e J8 (rm hr) rfl (z00 (pv 0) (z00 (z0e C9 (rm hr) rfl (z00 (pv 4) (z00 z06 z02))) (z00 (z0b z09 rfl M.len bO (z00 (pv 1) z02)) z02))))) (z04 (z0O bR rfl (z1b rfl M.range (z00 (z0b z09 rfl M.len bO (z00 (pv 1) z02)) z02)) (z0j (i:=6) nd rfl (Or.inl rfl)) (z05 (z0E (z0c z2p (z0e C4 (rm hr) rfl (z00 (pv 2) (z00 (z0u z1u (pv 6) z06) (z00 (pv 3) z02)))) z06 (z0o _)) (z05 (y6I (z15 ["_law_row_here"] [] [] rfl (z0w rfl (by decide +kernel) rfl (by decide +kernel) rfl rfl) (z1L (z0B z0Y (pv 1) (pv 6) (fun _ _=>rfl))) (fun _ _ _ _ _=>(z0j (i:=0) (show((["_law_row_here"]:List PySem.Str)++([]:List PySem.Str)).Nodup from by decide +kernel) rfl (Or.inl rfl))) (z0y (by decide)) z0h (fun _ _ _ _ _=>z1E) (fun _ _ _ _ _=>(z0B (r:=P2 K) z0C (pv 0) z06 (fun _ _=>rfl)))) (y72 (pv 5) (pv 6) y2e))) z0l))) (z04 (z0p (i:=7) nd rfl (Or.inl rfl) (z0e E7 (rm hr) rfl (z00 (pv 5) (z00 (z0e C9 (rm hr) rfl (z00 (pv 4) (z00 z06 z02))) z02)))) (z04 (z0O bR rfl (z16 (pv 2)) (z0j (i:=8) nd rfl (Or.inl rfl)) (z05 (y6I (z0B z0Y (pv 1) (z0u z23 (pv 8) z06) (fun _ _=>rfl)) (y72 (pv 7) (z0u z23 (pv 8) z06) y2e)))) (z05 (z0i (pv 7))))))),?_⟩
 have lus:us.length=rows.length:=by rw[tl.length,b9]
 have r12:=y1Z R gn.hi
 have h60:∀x∈hs,1≤x/\x≤60:=fun x hx=>by have:=hsr x hx;lia
 refine(rdI rfl (rdI rfl (ex3 a ns 7 ⟨rfl,hS,by decide,(rdI rfl (ex2 lr us ⟨rfl,.inl hR,(ex4 ln nm _ _ ⟨rfl,hN,gn.lo,gn.hi,by lia,by lia,fun l xs0 ss0 H1 nl s1 e1 st1 Q5 w0y=>?_⟩)⟩))⟩)))
 have Y6:ss0.length=rows.length:=by rw[Q5];lia
 refine(rdI rfl (ex2 lr us ⟨rfl,.inl (s1.seq hR),(rdI rfl ⟨by lia,by lia,?_⟩)⟩))
 refine z13 (lo:=0) (n:=((us.length:Nat):Int).toNat) (fun i σ G=>∃(xs:List V) (ss:List (List Str)) (o6:Option V),B0 H G/\G l=some (.lst xs)/\z2g G l xs ss/\ss.length=rows.length/\(∀z∈ss,z.Sublist nm)/\(∀j:Nat,j<i->z0F hs (j+1) r≠0->ss[j]? = some (z0x (z0t rows (j+1))))/\
   σ=[some (.ref ln),some (.ref lr),some (.ref lh),some (.int r),some (.ref a),some (.ref l),o6,none,none]) ⟨xs0,ss0,none,s1,e1,st1,Y6,w0y,fun _ h=>absurd h (g0 _),rfl⟩ (fun i σ G hi hp=>?_) (fun σ G hp=>?_)
 ·obtain⟨xs,ss,o6,g,eG,st,ls,sub,done,rfl⟩:=hp
  have hi':i<rows.length:=by lia
  have ei:(0:Int)+(i:Int)=(i:Int):=eZ _
  have ei1:(0:Int)+(i:Int)+1=(i:Int)+1:=by lia
  have lx:xs.length=ss.length:=st.length
  refine(rdI rfl (rdI rfl (ex2 _ _ ⟨rfl,rfl,(rdI rfl (ex4 lh hs _ r ⟨rfl,g.seq hL,h60,by lia,r0,fun G1 g1=>(ex2 _ _ ⟨rfl,rfl,(rdI rfl ?_)⟩)⟩))⟩)))
  rw[ei1]
  have t0:=z4R (ns:=hs) (n:=(i:Int)+1) (r:=r)
  have gg:=g.trans g1
  by_cases c:0<z0F hs ((i:Int)+1) r
  case neg=>
   rw[decide_eq_false c]
   refine B8 ⟨xs,ss,_,gg,g1 _ _ eG,L2.Paired.U3 st fun v z h=>z8F.keep g1 h,ls,sub,fun j hj ht=>?_,rfl⟩
   rcases Nat.lt_succ_iff_lt_or_eq.mp hj with h|h
   ·exact done j h ht
   ·subst h
    exact absurd (by lia) ht
  rw[decide_eq_true c]
  refine F6 ?_
  obtain⟨v,ev,av,tv⟩:=z2H (z08.keep gg _ _ tl) (k:=(i:Int)+1) (by lia) (by lia)
  obtain⟨ar,ws,rfl,er,_,tp⟩:=z0d tv
  have av':atI us ((0:Int)+(i:Int))=some (.ref ar):=by
   rw[ei]
   have:(i:Int)+1-1=(i:Int):=by lia
   rw[this] at av
   exact av
  have lw:ws.length=(z0t rows ((i:Int)+1)).length:=by rw[tp.length,b9]
  have w12:=z4L r12 ((i:Int)+1)
  refine(rdI rfl (rdI rfl (ex4 lr us _ _ ⟨rfl,rfl,gg.seq hR,av',ar,rfl,⟨_,SqT.of er⟩,?_⟩)))
  refine z1n (xs:=ws) (fun j ys H2=>H2=G1/\ys=((z0x (z0t rows ((i:Int)+1))).take j).map V.str) ⟨rfl,rfl⟩ (fun j ys H2 hj hp=>?_) (fun j y ys H2 hy hp=>?_) (fun ys H2 hp=>?_)
  ·obtain⟨rfl,rfl⟩:=hp
   refine⟨SqT.of er,z0f ?_⟩
   rw[b9,bG]
   lia
  ·obtain⟨rfl,rfl⟩:=hp
   obtain⟨pq,b,e1',rfl,e2⟩:=z1R tp j y hy
   refine(rdI rfl (ex4 b _ 0 _ ⟨rfl,rfl,SqT.of e2,rfl,rfl,?_⟩))
   have e3:(z0x (z0t rows ((i:Int)+1)))[j]? = some pq.1:=by
    unfold z0x
    rw[bC,e1']
    rfl
   rw[z0n e3,bF]
   rfl
  obtain⟨rfl,rfl⟩:=hp
  have ll:(z0x (z0t rows ((i:Int)+1))).take ws.length=z0x (z0t rows ((i:Int)+1)):=cO (by unfold z0x;rw[b9];lia)
  rw[ll]
  intro D hD
  have sD:=z01 hD (.lst ((z0x (z0t rows ((i:Int)+1))).map V.str))
  have eD:upd H2 D (.lst ((z0x (z0t rows ((i:Int)+1))).map V.str)) D=some (.lst ((z0x (z0t rows ((i:Int)+1))).map V.str)):=z03
  have el:=sD _ _ (g1 _ _ eG)
  have nD:D≠l:=fun e=>by rw[e,g1 _ _ eG] at hD;cases hD
  generalize upd H2 D (.lst ((z0x (z0t rows ((i:Int)+1))).map V.str))=G2 at sD eD el
  refine(rdI rfl (rdI rfl (ex4 l xs _ i ⟨rfl,rfl,el,?_,?_⟩)))
  ·rw[ei,y6R (by lia) (by lia)]
   rfl
  have stD:z2g G2 l xs ss:=L2.Paired.U3 st fun v z h=>z8F.keep (g1.trans sD) h
  refine⟨xs.set i (.ref D),ss.set i (z0x (z0t rows ((i:Int)+1))),_,z1y (gg.trans sD) nl,z03,?_,by rw[List.length_set];exact ls,fun z hz=>?_,fun j hj ht=>?_,rfl⟩
  ·exact L2.Paired.U3 (y3c stD i (x:=.ref D) (y:=z0x (z0t rows ((i:Int)+1))) ⟨D,rfl,nD,eD⟩) fun v z h=>z8F.over h
  ·rcases h8 hz with h|h
   ·exact sub z h
   ·rw[h]
    exact z8T R _
  ·rw[List.getElem?_set]
   rcases Nat.lt_succ_iff_lt_or_eq.mp hj with h|h
   ·rw[if_neg (by lia)]
    exact done j h ht
   ·subst h
    rw[if_pos rfl,if_pos (by lia)]
 obtain⟨xs,ss,o6,g,eG,st,ls,sub,done,rfl⟩:=hp
 have w1n:∀j:Nat,j<rows.length->z0F hs (j+1) r≠0->ss[j]? = some (z0x (z0t rows (j+1))):=fun j hj ht=>done j (by lia) ht
 refine(rdI rfl (rdI rfl (ex3 a ns 8 ⟨rfl,g.seq hS,by decide,(ex4 l xs ss _ ⟨rfl,eG,st,by lia,fun z hz=>cL (sub z hz).length_le gn.hi,fun l2 us2 C6 H2 nl2 s2 e2 t2 hm hv=>?_⟩)⟩)))
 have g2:=g.trans s2
 have l2r:C6.length=rows.length:=by
  have:=congrArg List.length hm
  rw[b9] at this
  lia
 have R2:Rws nm C6:=⟨fun w hw=>sub _ (by rw[<- hm];exact gS hw),hv⟩
 have sn2:∀n:Int,1≤n->n≤(rows.length:Int)->z0F hs n r≠0->z0x (z0t C6 n)=z0x (z0t rows n):=fun n n1 n2 ht=>by
  have e:=w1n (n-1).toNat (by lia) (by rw[show(((n-1).toNat:Nat):Int)+1=n by lia];exact ht)
  rw[show(((n-1).toNat:Nat):Int)+1=n by lia,<- hm,bC,z6g n1 (by lia)] at e
  exact Option.some.inj e
 have nl2H:H l2=none:=g.free nl2
 refine⟨_,rfl,lh,rfl,⟨_,g2.seq hL⟩,z1g (K:=K) (a:=lh) (xs:=hs.map V.int) (fun i σ G=>∃(us3:List V) (N5:List Row) (o8:Option V),B0 H G/\G l2=some (.lst us3)/\z08 G (N5.map N3) us3/\N5.length=rows.length/\Rws nm N5/\(∀n∈hs.take i,z0t N5 n=z0t rows n)/\(∀n:Int,1≤n->n≤(rows.length:Int)->z0F hs n r≠0->z0x (z0t N5 n)=z0x (z0t rows n))/\
   σ=[some (.ref ln),some (.ref lr),some (.ref lh),some (.int r),some (.ref a),some (.ref l),o6,some (.ref l2),o8]) ⟨us2,C6,none,g2,e2,t2,l2r,R2,(fun n h=>by rw[cT] at h;cases h),sn2,rfl⟩ (fun i σ G _ ⟨_,_,_,g,_⟩=>g.seq hL) ?_ ?_⟩
 ·rintro i y σ G hy ⟨us3,N5,o8,g3,e3,t3,l3,R3,hd3,sn3,rfl⟩
  rw[bC] at hy
  obtain⟨n,en,rfl⟩:=bU.mp hy
  have hn:=hsr n (bP en)
  obtain⟨v,ev,av,tv⟩:=z2H (z08.keep g3 _ _ tl) (k:=n) hn.1 hn.2
  have l3u:us3.length=N5.length:=by rw[t3.length,b9]
  refine(rdI rfl (rdI rfl (ex2 _ _ ⟨rfl,rfl,(ex4 lr us _ _ ⟨rfl,rfl,g3.seq hR,av,(rdI rfl (rdI rfl (ex2 _ _ ⟨rfl,rfl,(ex4 l2 us3 _ ((n-1).toNat) ⟨rfl,rfl,e3,y6R (by lia) (by lia),?_⟩)⟩)))⟩)⟩)))
  have hw:z0t rows n∈rows:=bP (z6g hn.1 hn.2)
  have rs:∀m:Int,1≤m->z0t (N5.set (n-1).toNat (z0t rows n)) m=if m=n then z0t rows n else z0t N5 m:=fun m m1=>y5g hn.1 (by lia) m1
  refine⟨_,N5.set (n-1).toNat (z0t rows n),_,z1y g3 nl2H,z03,?_,by rw[List.length_set];exact l3,⟨fun w hw'=>?_,fun w hw'=>?_⟩,fun m hm'=>?_,fun m m1 m2 ht=>?_,rfl⟩
  ·rw[List.map_set]
   exact z08.over e3 y0Y _ _ (z08.set _ t3 tv)
  ·rcases h8 hw' with h|h
   ·exact R3.sub w h
   ·rw[h]
    exact R.sub _ hw
  ·rcases h8 hw' with h|h
   ·exact R3.val w h
   ·rw[h]
    exact R.val _ hw
  ·have m1:1≤m:=(hsr m (jQ hm')).1
   rw[rs m m1]
   by_cases e:m=n
   ·rw[if_pos e,e]
   ·rw[if_neg e]
    rw[z0n en] at hm'
    rcases bS.mp hm' with h|h
    ·exact hd3 m h
    ·exact absurd (bB.mp h) e
  ·rw[rs m m1]
   by_cases e:m=n
   ·rw[if_pos e,e]
   ·rw[if_neg e]
    exact sn3 m m1 m2 ht
 ·rintro σ G ⟨us3,N5,o8,g3,e3,t3,l3,R3,hd3,sn3,rfl⟩
  rw[b9,bT] at hd3
  exact(rdI rfl (q l2 us3 N5 G nl2H g3 e3 t3 ⟨l3,R3,hd3,sn3⟩))
theorem y5L(o:Option (Int×Int)):(y01 o).deep≤1:=by
 cases o with
 | none=>
  refine z19 fun d hd=>?_
  rcases bE.mp hd with rfl|hd
  ·exact z1J _ _
  ·rw[bB.mp hd]
   unfold DV.deep
   exact cZ _
 | some p=>
  refine z19 fun d hd=>?_
  rcases bE.mp hd with rfl|hd
  ·exact z1J _ _
  ·rw[bB.mp hd]
   exact z1J _ _
noncomputable def z9z(K:PySem.W.Frag)(Sh:ShP):Sp:=fun vs H Q _=>∃(x ln lk lg:Addr) (z:Str) (vh:V) (fp:List Addr) (nm:List Str) (r:Int) (rows:List Row) (had:List Int) (m:Nat) (kz gz:List V),vs=[.ref x,.ref ln,.str z,.ref lk,.ref lg,vh]/\
 Sh H x fp nm r (fun n=>z0N rows n r) had/\z∈nm/\E2 nm/\Rws nm rows/\rows.length≤60/\(∀n∈had,1≤n/\n≤rows.length)/\0≤r/\r≤10/\z3Q had m/\
 SqL K H ln (nm.map V.str)/\H lk=some (.lst kz)/\z08 H ((z0K m (z0a had) rows r).map O5) kz/\H lg=some (.lst gz)/\z08 H (z3i (z0a had) rows r) gz/\B2 H (y01 (z0S (z0a had) rows z)) vh/\∀H',B0 H H'->Q (.bl true) H'
theorem y1k(M:Bl mg)(F:Fun K "_law_name_told" "_law_name_told" z36 f fd){Sh:ShP}(O:∀{H H' p fp zs r iss had},Sh H p fp zs r iss had->B0 H H'->Sh H' p fp zs r iss had)(D2:Cal P w K mg base 5 "_law_same" z21 (z94 5))
  (D6:Cal P w K mg base 2 "_law_state" z2Z (z9T K)) (F9:Cal P w K mg base 1 "_law_again" z4d (y1C K)) (L0:Cal P w K mg base 1 "_law_course" z4w (y23 K)) (F5:Cal P w K mg base 1 "_law_in_course" z3c (y8J K))
  (C1:Cal P w K mg base 8 "held_for" z2E (z33 Sh)) (J9:Cal P w K mg base 8 "set_again" z5b (z6Q Sh)) (C8:Cal P w K mg base 8 "state_of" z39 (z3O Sh)) (N2:Cal P w K mg base 8 "two_courses" z50 (y8H Sh)):B4 P w K mg base CX0 11 f fd z3e (z9z K Sh):=by
 have nd:=z4m.nd
 refine F.ok z4m (fun vs H Q E h=>?_) (fun cdv A outer s H vs Q E hr h=>?_)
 ·obtain⟨x,ln,lk,lg,z,vh,fp,nm,r,rows,had,m,kz,gz,rfl,_⟩:=h
  rfl
 obtain⟨x,ln,lk,lg,z,vh,fp,nm,r,rows,had,m,kz,gz,rfl,sh,hz,gn,R,r60,hadr,r0,r10,it,hN,eK,tK,eG,tG,tH,q⟩:=h
 refine⟨_,(z04 (z0p (i:=6) nd rfl (Or.inl rfl) (z0e D6 (rm hr) rfl (z00 (pv 4) (z00 (z0B z0C (pv 5) z06 (fun _ _=>rfl)) (z00 (pv 2) z02))))) (z04 (z0p (i:=7) nd rfl (Or.inl rfl) (z0e F9 (rm hr) rfl (z00 (pv 4) (z00 (z0B z0C (pv 5) z06 (fun _ _=>rfl)) (z00 (pv 2) z02))))) (z04 (z0E (z22 (z1Q (z0e D2 (rm hr) rfl (z00 (z0T (z00 (z0e C1 (rm hr) rfl (z00 (pv 0) (z00 (pv 2) z02))) (z00 (z0e J9 (rm hr) rfl (z00 (pv 0) (z00 (pv 2) z02))) z02))) (z00 (z0T (z00 (pv 5) (z00 (pv 7) z02))) z02))))) (z05 (z0i z1P)) z0l) (z04 (z0E (z22 (z1Q (z0e D2 (rm hr) rfl (z00 (z0e C8 (rm hr) rfl (z00 (pv 0) (z00 (pv 2) z02))) (z00 (pv 6) z02))))) (z05 (z0i z1P)) z0l) (z04 (z0p (i:=8) nd rfl (Or.inl rfl) (z0e N2 (rm hr) rfl (z00 (pv 0) (z00 (pv 2) z02)))) (z04 (z0E (z0c z7g (pv 6) z5B (z0o _)) (z05 (z0i (y3K (z8W (pv 8))))) z0l) (z04 (z0E (PW.pt (z37 (z22 (z1Q (z0b z0M rfl M.isinstance cH (z00 (pv 8) (z00 (z28 (v:=.ty "tuple") rfl M.tuple bH rfl) z02))))) (z25 (z0c z7g (z0b z09 rfl M.len bO (z00 (pv 8) z02)) z06 (z0o _))))) (z05 (z0i z1P)) z0l) (z04 (z0E (PW.pt (z37 (z22 (z1Q (z0e L0 (rm hr) rfl (z00 (z0B z0C (pv 8) z06 (fun _ _=>rfl)) (z00 (pv 1) (z00 (pv 3) z02)))))) (z25 (z22 (z1Q (z0e L0 (rm hr) rfl (z00 (z0B z0C (pv 8) z06 (fun _ _=>rfl)) (z00 (pv 1) (z00 (pv 3) z02))))))))) (z05 (z0i z1P)) z0l) (z05 (z0i (y74 (y6D (z0e F5 (rm hr) rfl (z00 (z0B z0C (pv 8) z06 (fun _ _=>rfl)) (z00 (z0B z0C (pv 5) z06 (fun _ _=>rfl)) (z00 (pv 2) z02))))) (y6Y (z0e F5 (rm hr) rfl (z00 (z0B z0C (pv 8) z06 (fun _ _=>rfl)) (z00 (z0B z0C (pv 5) z06 (fun _ _=>rfl)) (z00 (pv 2) z02)))))))))))))))),?_⟩
 obtain⟨ah,yh,rfl,eah,_⟩:=z3p tH
 refine(rdI rfl (rdI rfl (ex4 ah _ 0 _ ⟨rfl,rfl,SqT.of eah,rfl,(rdI rfl (ex7 lg gz (z0a had) rows r _ z ⟨rfl,SqL.of eG,tG,fun G1 g1=>?_⟩))⟩)))
 refine(rdI rfl (rdI rfl (ex4 ah _ 0 _ ⟨rfl,rfl,SqT.of (g1 _ _ eah),rfl,(rdI rfl (ex7 lg gz (z0a had) rows r _ z ⟨rfl,SqL.of (g1 _ _ eG),z08.keep g1 _ _ tG,fun va G2 g2 ta=>?_⟩))⟩)))
 have c2:=g1.trans g2
 refine(rdI rfl (rdI rfl (ex7 x z fp nm r rows had ⟨rfl,O sh c2,hz,gn,R,fun v1 G3 g3 t1=>?_⟩)))
 have c3:=c2.trans g3
 refine(rdI rfl (rdI rfl (ex7 x z fp nm r rows had ⟨rfl,O sh c3,hz,gn,R,r60,hadr,r0,r10,fun v2 G4 g4 t2=>?_⟩)))
 refine⟨le2,fun p1 hp1=>(rdI rfl (rdI rfl ⟨le2,fun p2 hp2=>?_⟩))⟩
 have sp1:=z01 hp1 (.tup [v1,v2])
 have sp2:=z01 hp2 (.tup [V.ref ah,va])
 have sp:=sp1.trans sp2
 have dst:∀d∈[y01 (z0S (z0a had) rows z),y2c (z0a had) rows r (z1k (z0S (z0a had) rows z)) z],d.deep≤2:=fun d hd=>by
  rcases bE.mp hd with rfl|hd
  ·exact cL (y5L _) (by decide)
  ·rw[bB.mp hd]
   refine z19 fun d hd=>?_
   obtain⟨n,_,rfl⟩:=cM.mp hd
   refine z19 fun d hd=>?_
   rcases bE.mp hd with rfl|hd
   ·exact z1J _ _
   ·rw[bB.mp hd]
    exact z1J _ _
 refine(ex2 (.ref p1) (.ref p2) ⟨rfl,(z3U (.tup [y01 (z0S (z0a had) rows z),y2c (z0a had) rows r (z1k (z0S (z0a had) rows z)) z]) _ _ (z0q (sp2 _ _ z03) (by show 2≤1000000;decide) (.cons (B2.keep (g4.trans sp) _ _ t1) (.cons (B2.keep sp _ _ t2) .nil))) (z0q z03 (by show 2≤1000000;decide) (.cons (B2.keep (c3.trans (g4.trans sp)) _ _ tH) (.cons (B2.keep (g3.trans (g4.trans sp)) _ _ ta) .nil)))).mono (cL (z19 dst) (by decide)),fun G5 g5=>(rdI rfl (B8 ?_))⟩)
 have c5:=c3.trans (g4.trans (sp.trans g5))
 refine(rdI rfl (rdI rfl (ex7 x z fp nm r rows had ⟨rfl,O sh c5,hz,gn,R,r60,hadr,r0,r10,fun G6 g6=>?_⟩)))
 refine(rdI rfl (ex2 _ _ ⟨rfl,.inl ⟨rfl,rfl⟩,fun G7 g7=>(rdI rfl (B8 ?_))⟩))
 have c7:=c5.trans (g6.trans g7)
 refine(rdI rfl (rdI rfl (ex8 x z fp nm r rows had m ⟨rfl,O sh c7,hz,gn,R,r60,hadr,r0,r10,it,fun hno G8 g8=>?_,fun hop d hd hdt v G8 g8 tv2=>?_⟩)))
 ·refine(rdI rfl ⟨rfl,(rdI rfl ?_)⟩)
  rw[decide_eq_false (fun e=>hno (V.str.inj e))]
  refine F6 (rdI rfl ?_)
  exact q _ (c7.trans g8)
 ·refine(rdI rfl ⟨rfl,(rdI rfl ?_)⟩)
  rw[decide_eq_true (congrArg V.str hop)]
  have c8:=c7.trans g8
  obtain⟨af,fs2,rfl,eaf,_,tf⟩:=z0d tv2
  obtain⟨y1,q1,rfl,t1',tf⟩:=z0g tf
  obtain⟨y2,q2,rfl,t2',tf⟩:=z0g tf
  have:=z0G tf
  subst this
  refine B8 (rdI rfl (ex4 _ _ _ _ ⟨rfl,.tup eaf,z5T,(rdI rfl (B8 (rdI rfl (ex2 af _ ⟨rfl,.inr (SqT.of eaf),rfl,(rdI rfl (B8 ?_))⟩))))⟩))
  have h60:∀n∈had,1≤n/\n≤60:=fun n hn=>by have:=hadr n hn;lia
  have memr:∀n,n∈z0a had↔n∈had:=fun n=>y0G (fun _=>Iff.rfl) h60 n
  have w0g:∀n∈z0a had,1≤n/\n≤60:=fun n hn=>h60 n ((memr n).mp hn)
  have itr:z3Q (z0a had) m:=it.same memr
  have m60:m≤60:=by have:=it.le (k:=60) (by decide) fun x hx=>(h60 x hx).2;lia
  have hdr:=y1W h60 it hd
  have hb:=z9K m (z0a had) rows r
  have lim:∀{c:List (List Str)},z7b nm (z0K m (z0a had) rows r) c->∀zs∈c,zs.length≤100:=fun {c} h zs hz=>by
   obtain⟨j,hj,e⟩:=gR hz
   have hk:j<(z0K m (z0a had) rows r).length:=by rw[<- h.1];exact hj
   have:=(h.2 j _ zs (bD hk) (by rw[bD hj,e])).1.length_le
   have:=gn.hi
   lia
  have fb:=y0H R m (z0a had) r
  have fa:=y3l R (m:=m) (hs:=z0a had) (r:=r) hz (by lia) (by lia) hd
  obtain⟨n0,hn0,hn1⟩:=y0B hop
  have hdn:=hdt n0 hn0
  refine(rdI rfl (ex4 af _ 0 _ ⟨rfl,rfl,SqT.of eaf,rfl,(rdI rfl (rdI rfl (ex7 y1 ln lk _ nm _ kz ⟨rfl,t1',lim fb,c8.seq hN,gn.nd,gn.hi,SqL.of (c8 _ _ eK),z08.keep c8 _ _ tK,by rw[z0W];lia,fun _ G9 g9=>?_,fun hn=>absurd fb hn⟩)))⟩))
  have c9:=c8.trans g9
  refine(rdI rfl (B8 (rdI rfl (ex4 af _ 1 _ ⟨rfl,rfl,SqT.of (g9 _ _ eaf),rfl,(rdI rfl (rdI rfl (ex7 y2 ln lk _ nm _ kz ⟨rfl,B2.keep g9 _ _ t2',lim fa,c9.seq hN,gn.nd,gn.hi,SqL.of (c9 _ _ eK),z08.keep c9 _ _ tK,by rw[z0W];lia,fun _ GA gA=>?_,fun hn=>absurd fa hn⟩)))⟩))))
  have cA:=c9.trans gA
  have gAA:=g9.trans gA
  refine(rdI rfl (B8 ?_))
  have eafA:=gAA _ _ eaf
  have eahA:=cA _ _ eah
  refine(rdI rfl (ex4 af _ 0 _ ⟨rfl,rfl,SqT.of eafA,rfl,(rdI rfl (ex4 ah _ 0 _ ⟨rfl,rfl,SqT.of eahA,rfl,(rdI rfl (ex4 y1 _ _ z ⟨rfl,B2.keep gAA _ _ t1',by lia,fun hin=>absurd hin (y5H (z1W had) w0g itr (by rw[hop];decide)),fun _=>(rdI rfl (rdI rfl (F6 ?_)))⟩))⟩))⟩))
  refine(rdI rfl (ex4 af _ 1 _ ⟨rfl,rfl,SqT.of eafA,rfl,(rdI rfl (ex4 ah _ 0 _ ⟨rfl,rfl,SqT.of eahA,rfl,(rdI rfl (ex4 y2 _ _ z ⟨rfl,B2.keep gAA _ _ t2',by rw[y0p (by lia) (by lia)];lia,fun _=>q _ cA,fun hn=>absurd (y5O (by lia) (by lia) (by lia)) hn⟩))⟩))⟩))
theorem y2G{m:Nat}{hs:List Int}{rows:List Row}{r:Int}(it:z3Q hs m)(h60:∀x∈hs,1≤x/\x≤60):(z0K m hs rows r).countP (fun o=>o.isNone)=(z1B hs r).length:=by
 unfold z0K
 rw[List.countP_map,List.countP_eq_length_filter]
 congr 1
 refine z1Z ((z1z _ _).filter _) ?_ fun x=>?_
 ·have:z1B hs r=(z1i hs).filter fun n=>decide (z0F hs n r=0):=by
   unfold z1B S0
   rw[List.filter_map,dR]
   exact List.map_id _
  rw[this]
  exact(z2t _).filter _
 ·rw[cK,z4x,z1e,z0U]
  show _/\(z1K hs rows r x).isNone=true↔_
  unfold z1K
  by_cases c:x∈hs\/z0F hs x r≠0
  ·rw[if_pos c]
   refine⟨fun h=>absurd h.2 bM,fun h=>?_⟩
   rcases c with c|c
   ·exact absurd c h.1.2.1
   ·exact absurd h.2 c
  ·rw[if_neg c]
   rw[not_or] at c
   refine⟨fun h=>⟨?_,Classical.not_not.mp c.2⟩,fun h=>⟨?_,rfl⟩⟩
   ·rcases it.1 with q|⟨_,q⟩
    ·have:=h60 _ q
     have:x≠(m:Int):=fun e=>c.1 (e ▸ q)
     exact⟨by lia,c.1,m,q,by lia⟩
    ·lia
   ·obtain⟨⟨h1,_,y,hy,h3⟩,_⟩:=h
    have:=it.2 y hy
    lia
theorem z81{H:Hp}:∀{ks:List (Option (List Str))}{xs:List V},z08 H (ks.map O5) xs->xs.countP y0C=ks.countP fun o=>o.isNone
 | [],xs,h=>by
  rw[z0G h]
  rfl
 | o::ks,xs,h=>by
  obtain⟨x,t,rfl,h1,h2⟩:=z0g h
  rw[fQ,fQ,z81 h2]
  cases o with
  | none=>
   have h1':B2 H .non x:=h1
   unfold B2 at h1'
   subst h1'
   rfl
  | some ws=>
   obtain⟨a,ys,rfl,_⟩:=z0d (show B2 H (.tup (ws.map DV.str)) x from h1)
   rfl
theorem z6s{l ms:List Int}(h1:l.Pairwise (· < ·))(h2:∀x∈l,1≤x/\x≤60)(e:∀x,x∈ms↔x∈l):z0a ms=l:=z1Z (z1W _) h1 fun x=>y0G e h2 x
theorem y0T{H:Hp}:∀(l:List Int),z08 H (l.map DV.int) (l.map V.int)
 | []=>.nil
 | i::l=>.cons (z0H i) (y0T l)
theorem y69(ns:List Int)(rows:List Row)(r:Int):(DV.tup (z3i ns rows r)).deep≤3:=z19 fun d hd=>by
 unfold z3i at hd
 obtain⟨n,_,rfl⟩:=cM.mp hd
 rw[y4y]
 refine z19 fun d hd=>?_
 rcases bE.mp hd with rfl|hd
 ·exact z1J _ _
 rcases bE.mp hd with rfl|hd
 ·exact z1J _ _
 rw[bB.mp hd]
 exact y28 _
noncomputable def z4u(hs:List Int)(r:Int)(rl rows:List Row):Prop:=(∀n∈hs,z0t rl n=z0t rows n)/\∀n,1≤n->(∃y∈hs,n<y)->z0F hs n r≠0->z0x (z0t rl n)=z0x (z0t rows n)
theorem z4u.refl(hs:List Int)(r:Int)(rows:List Row):z4u hs r rows rows:=⟨fun _ _=>rfl,fun _ _ _ _=>rfl⟩
theorem y7E{hs:List Int}{n r:Int}(h:z0F hs n r≠0):∃y∈hs,n<y:=Classical.byContradiction fun c=>h (z5c fun y hy hl _=>c ⟨y,hy,hl⟩)
theorem z4u.gaps{hs:List Int}{r:Int}{rl rows:List Row}(h:z4u hs r rl rows):z3i hs rl r=z3i hs rows r:=by
 unfold z3i
 refine eI fun n hn=>?_
 obtain⟨⟨a,_⟩,_,y,hy,b⟩:=z0U.mp hn
 unfold R9
 by_cases c:z0F hs n r=0
 ·rw[if_pos c,if_pos c]
 ·rw[if_neg c,if_neg c,h.2 n a ⟨y,hy,b⟩ c]
theorem z9L{rl rows:List Row}{z:Str}:∀(ms:List Int),(∀n∈ms,z0t rl n=z0t rows n)->z0S ms rl z=z0S ms rows z:=by
 have go:∀(ms:List Int) (acc:Option (Int×Int)),(∀n∈ms,z0t rl n=z0t rows n)->ms.foldl (fun acc n=>match J0 (z0t rl n) z with|some v=>some (n,v)|none=>acc) acc=ms.foldl (fun acc n=>match J0 (z0t rows n) z with|some v=>some (n,v)|none=>acc) acc:=by
  intro ms
  induction ms with
  | nil=>intro acc _;rfl
  | cons n t ih=>
   intro acc h
   rw[dI,dI,h n cC]
   exact ih _ fun k hk=>h k (bZ _ hk)
 exact fun ms h=>go ms none h
theorem z4u.known{hs:List Int}{r:Int}{rl rows:List Row}(h:z4u hs r rl rows)(m:Nat):z0K m hs rl r=z0K m hs rows r:=by
 unfold z0K
 refine eI fun n hn=>?_
 have hn:=z1e.mp hn
 unfold z1K
 by_cases c:n∈hs\/z0F hs n r≠0
 ·rw[if_pos c,if_pos c]
  rcases c with c|c
  ·rw[h.1 n c]
  ·rw[h.2 n hn.1 (y7E c) c]
 ·rw[if_neg c,if_neg c]
theorem z4u.again{hs:List Int}{r:Int}{rl rows:List Row}(h:z4u hs r rl rows)(num:Int)(z:Str):z4C hs rl r num z=z4C hs rows r num z:=by
 unfold z4C
 refine List.filter_congr fun n hn=>?_
 obtain⟨⟨a,_⟩,_,y,hy,b⟩:=z0U.mp hn
 have:z2q hs rl r n=z2q hs rows r n:=by
  unfold z2q
  by_cases c:z0F hs n r=0
  ·rw[if_pos c,if_pos c]
  ·rw[if_neg c,if_neg c,h.2 n a ⟨y,hy,b⟩ c]
 rw[this]
theorem z4u.state{hs:List Int}{r:Int}{rl rows:List Row}(h:z4u hs r rl rows)(num:Int)(z:Str):z0X hs rl r num z=z0X hs rows r num z:=by
 unfold z0X
 rw[h.again]
theorem z4u.table{hs:List Int}{r:Int}{rl rows:List Row}(h:z4u hs r rl rows)(e:z0a hs=hs)(nm:List Str):z7F nm hs rl r=z7F nm hs rows r:=by
 unfold z7F
 congr 1
 refine eI fun z _=>?_
 unfold X7
 rw[e,z9L hs h.1,h.state]
noncomputable def y15(K:PySem.W.Frag)(Sh:ShP):Sp:=fun vs H Q _=>∃(x ln lh lr:Addr) (fp:List Addr) (nm:List Str) (r:Int) (us:List V) (rl rows:List Row) (had hs:List Int),vs=[.ref x,.ref ln,.ref lh,.ref lr,.int r]/\
 Sh H x fp nm r (fun n=>z0N rows n r) had/\E2 nm/\Rws nm rows/\rows.length≤60/\(∀n∈had,1≤n/\n≤rows.length)/\0≤r/\r≤10/\H ln=some (.lst (nm.map V.str))/\H lh=some (.lst (hs.map V.int))/\hs.Pairwise (· < ·)/\(∀n,n∈had↔n∈hs)/\
 H lr=some (.lst us)/\z08 H (rl.map N3) us/\(∀n∈hs,n≤(rl.length:Int))/\(∀w∈rl,w.length≤12)/\z4u hs r rl rows/\∀H',B0 H H'->Q (.bl true) H'
theorem y3k(M:Bl mg)(F:Fun K "_law_all_told" "_law_all_told" z3u f fd){A0:Addr}{Sh:ShP}(OS:W2 A0 ["put","had","latest"] Sh)(D2:Cal P w K mg base 5 "_law_same" z21 (z94 5))
  (K1:Cal P w K mg base 2 "_law_gaps" z5g (y3D K)) (O9:Cal P w K mg base 2 "_law_known" z5S (y24 K)) (O0:Cal P w K mg base 3 "_law_table" z5E (y3J K)) (E5:Cal P w K mg base 1 "_law_doubled" z2T z3L)
  (K3:Cal P w K mg base 1 "_law_held" z5d (y1G K)) (D6:Cal P w K mg base 2 "_law_state" z2Z (z9T K)) (K6:Cal P w K mg base 11 "_law_name_told" z3e (z9z K Sh)) (Q0:Cal P w K mg base 3 "_law_plan" z78 (y6B K))
  (B3:D9 P w K mg base 7 A0 "had" z1l (z2Y Sh)) (M6:D9 P w K mg base 7 A0 "latest" z4c (z9r Sh)) (J1:Cal P w K mg base 8 "gaps_of" z6j (z7W Sh)) (Q1:Cal P w K mg base 8 "knowledge" z7c (y6C Sh))
  (E4:Cal P w K mg base 8 "course_count" z2U (y1s Sh)) (P6:S6 P w K mg base 8 "send_for" z4I (z6C Sh) [V.non]):B4 P w K mg base CX0 12 f fd z3E (y15 K Sh):=by
 have nd:=z53.nd
 refine F.ok z53 (fun vs H Q E h=>?_) (fun cdv A outer s H vs Q E hr h=>?_)
 ·obtain⟨x,ln,lh,lr,fp,nm,r,us,rl,rows,had,hs,rfl,_⟩:=h
  rfl
 obtain⟨x,ln,lh,lr,fp,nm,r,us,rl,rows,had,hs,rfl,sh,gn,R,r60,hadr,r0,r10,eN,eH,rise,mem,eR,tR,hup,r12,ag,q⟩:=h
 refine⟨_,(z04 (z0p (i:=5) nd rfl (Or.inl rfl) (z0e K1 (rm hr) rfl (z00 (pv 2) (z00 (pv 3) (z00 (pv 4) z02))))) (z04 (z0p (i:=6) nd rfl (Or.inl rfl) (z0e O9 (rm hr) rfl (z00 (pv 2) (z00 (pv 3) (z00 (pv 4) z02))))) (z04 (z0E (z22 (z1Q (z0e D2 (rm hr) rfl (z00 (z0T (z00 (z1M B3 (rm hr) (pv 0)) (z00 (z1M M6 (rm hr) (pv 0)) z02))) (z00 (z0T (z00 (z0s z0m rfl M.tuple bH (z00 (pv 2) z02)) (z00 (z0b (z30 rfl) rfl M.max dD (z00 (z0u z9m (pv 2) (z1d (z00 z06 z02))) z02)) z02))) z02))))) (z05 (z0i z1P)) z0l) (z04 (z0E (z22 (z1Q (z0e D2 (rm hr) rfl (z00 (z0T (z00 (z0e J1 (rm hr) rfl (z00 (pv 0) z02)) (z00 (z0e Q1 (rm hr) rfl (z00 (pv 0) z02)) z02))) (z00 (z0T (z00 (z0s z0m rfl M.tuple bH (z00 (pv 5) z02)) (z00 (z0e O0 (rm hr) rfl (z00 (pv 1) (z00 (pv 2) (z00 (pv 3) (z00 (pv 4) z02))))) z02))) z02))))) (z05 (z0i z1P)) z0l) (z04 (z0E (z22 (z1Q (z0e D2 (rm hr) rfl (z00 (z0e E4 (rm hr) rfl (z00 (pv 0) z02)) (z00 (z0e E5 (rm hr) rfl (z00 (z0u z4V (z2O bW PySem.F.slot_list_count PySem.F.type_list_count (y5r (eQ (Nat.add_le_add_left (by decide:1≤64) _) hr.units)) (pv 6) (z00 z9A z02)) (z0b z09 rfl M.len bO (z00 (pv 1) z02))) z02)) z02))))) (z05 (z0i z1P)) z0l) (z04 (z0p (i:=7) nd rfl (Or.inl rfl) z06) (z04 (z0O bR rfl (z16 (pv 1)) (z0j (i:=8) nd rfl (Or.inl rfl)) (z04 (z0p (i:=9) nd rfl (Or.inl rfl) (z0e K3 (rm hr) rfl (z00 (pv 2) (z00 (pv 3) (z00 (pv 8) z02))))) (z04 (z0E (z22 (z1Q (z0e K6 (rm hr) rfl (z00 (pv 0) (z00 (pv 1) (z00 (pv 8) (z00 (pv 6) (z00 (pv 5) (z00 (pv 9) z02))))))))) (z05 (z0i z1P)) z0l) (z05 (z0E (z0c z2F (z0e D6 (rm hr) rfl (z00 (pv 5) (z00 (z0B z0C (pv 9) z06 (fun _ _=>rfl)) (z00 (pv 8) z02)))) z5B (z0o _)) (z05 (z0p (i:=7) nd rfl (Or.inl rfl) (z0b (y5h rfl) rfl M.min fA (z00 (pv 7) (z00 (z0B z0C (pv 9) z06 (fun _ _=>rfl)) z02))))) z0l))))) (z05 (z0i (z0e Q0 (rm hr) rfl (z00 (y7M P6 (rm hr) rfl (z00 (pv 0) z02)) (z00 (pv 2) (z00 (pv 4) (z00 (pv 7) z02)))))))))))))),?_⟩
 have n12:=gn.hi
 have h60':∀n∈had,1≤n/\n≤60:=fun n hn=>by have:=hadr n hn;lia
 have h60:∀n∈hs,1≤n/\n≤60:=fun n hn=>h60' n ((mem n).mpr hn)
 have e1:z0a had=hs:=z6s rise h60 mem
 have e2:z0a hs=hs:=z6s rise h60 fun _=>Iff.rfl
 have w0x:hs.length≤60:=by rw[<- e2];exact z2D _
 have hnd:hs.Nodup:=rise.imp fun h=>Int.ne_of_lt h
 obtain⟨m,it⟩:=y71 hs h60
 have it':z3Q had m:=it.same mem
 have m60:(m:Int)≤60:=it.le (by decide) fun x hx=>(h60 x hx).2
 refine(rdI rfl (rdI rfl (rdI rfl (ex6 lh lr hs us rl r ⟨rfl,eH,h60,by lia,hup,SqL.of eR,tR,r12,r0,fun lg gz H1 nlg s1 eG tG=>?_⟩))))
 rw[ag.gaps] at tG
 refine(rdI rfl (rdI rfl (rdI rfl (ex7 lh lr hs us rl r m ⟨rfl,s1 _ _ eH,h60,by lia,hup,SqL.of (s1 _ _ eR),z08.keep s1 _ _ tR,r12,r0,it,fun lk kz H2 nlk s2 eK tK=>?_⟩))))
 rw[ag.known] at tK
 have s12:=s1.trans s2
 have eG2:=s2 _ _ eG
 have tG2:=z08.keep s2 _ _ tG
 have sh2:=OS.same sh s12
 have eH2:=s12 _ _ eH
 have eN2:=s12 _ _ eN
 have eR2:=s12 _ _ eR
 have tR2:=z08.keep s12 _ _ tR
 clear tR eR eN eH sh tG eG
 obtain⟨d3,g3,z3,w3⟩:=OS.ins sh2
 refine(rdI rfl (ex3 x d3 g3 ⟨rfl,z3,w3 _ (by simp),(ex6 x fp nm r _ _ ⟨rfl,sh2,fun lt G3 s3 e3=>?_⟩)⟩))
 rw[e1] at e3
 have sh3:=OS.same sh2 s3
 obtain⟨d4,g4,z4,w4⟩:=OS.ins sh3
 refine(rdI rfl (ex3 x d4 g4 ⟨rfl,z4,w4 _ (by simp),(ex6 x fp nm r _ _ ⟨rfl,sh3,fun G4 s4=>⟨(by show 2≤sizeLine;decide),fun t1 ht1=>?_⟩⟩)⟩))
 have s5:=z01 ht1 (.tup [V.ref lt,V.int (Q9 had)])
 have e5:upd G4 t1 (.tup [V.ref lt,V.int (Q9 had)]) t1=some (.tup [V.ref lt,V.int (Q9 had)]):=z03
 generalize upd G4 t1 (.tup [V.ref lt,V.int (Q9 had)])=G5 at s5 e5
 have c25:=s3.trans (s4.trans s5)
 have eo5:=c25 _ _ eH2
 refine(rdI rfl (ex2 lh _ ⟨rfl,.inl ⟨SqL.of eo5,fun t2 ht2=>(rdI rfl ⟨(by show 1≤sizeLine;decide),fun l0 hl0=>(ex4 lh l0 _ _ ⟨rfl,rfl,z01 hl0 _ _ _ (z01 ht2 _ _ _ eo5),z03,?_,fun lc hlc=>?_⟩)⟩)⟩⟩))
 ·rw[b9]
  exact dX (z0f (by show hs.length+1≤1000;lia))
 have s6:=(z01 ht2 (.tup (hs.map V.int))).trans ((z01 hl0 (.lst [V.int 0])).trans (z01 hlc (.lst (hs.map V.int++[V.int 0]))))
 have e6:upd (upd (upd G5 t2 (.tup (hs.map V.int))) l0 (.lst [V.int 0])) lc (.lst (hs.map V.int++[V.int 0])) t2=some (.tup (hs.map V.int)):=z01 hlc _ _ _ (z01 hl0 _ _ _ z03)
 have ec:upd (upd (upd G5 t2 (.tup (hs.map V.int))) l0 (.lst [V.int 0])) lc (.lst (hs.map V.int++[V.int 0])) lc=some (.lst ((hs++[0]).map V.int)):=by
  rw[z03,bF]
  rfl
 generalize upd (upd (upd G5 t2 (.tup (hs.map V.int))) l0 (.lst [V.int 0])) lc (.lst (hs.map V.int++[V.int 0]))=G6 at s6 e6 ec
 refine(ex2 lc (hs++[0]) ⟨rfl,.inl (SqL.of ec),by simp,fun mx hm top=>⟨(by show 2≤sizeLine;decide),fun t3 ht3=>?_⟩⟩)
 have em:mx=Q9 had:=by
  rcases bS.mp hm with h|h
  ·rw[<- e1] at h
   exact y2o h fun y hy=>top y (cQ _ (by rw[<- e1];exact hy))
  ·have h0:mx=0:=bB.mp h
   have none:hs=[]:=by
    cases e:hs with
    | nil=>rfl
    | cons y ys=>
     have hy:y∈hs:=by rw[e];exact cC
     have t1:=top y (cQ _ hy)
     have t2:=h60 y hy
     lia
   unfold Q9
   rw[e1,none,h0]
   rfl
 have tin:∀{X:Hp}{t:Addr},X t=some (.tup (hs.map V.int))->B2 X (.tup (hs.map DV.int)) (.ref t):=fun {X t} e=>z0q e (by rw[b9];lia) (y0T _)
 have s7:=z01 ht3 (.tup [V.ref t2,V.int mx])
 have T1:B2 (upd G6 t3 (.tup [V.ref t2,V.int mx])) (.tup [.tup (hs.map DV.int),.int (Q9 had)]) (.ref t1):=
  z0q (s7 _ _ (s6 _ _ e5)) (by show 2≤1000000;decide) (.cons (tin (s7 _ _ (s6 _ _ (s5 _ _ (s4 _ _ e3))))) (.cons (z0H _) .nil))
 have T2:B2 (upd G6 t3 (.tup [V.ref t2,V.int mx])) (.tup [.tup (hs.map DV.int),.int (Q9 had)]) (.ref t3):=
  z0q z03 (by show 2≤1000000;decide) (.cons (tin (s7 _ _ e6)) (.cons (by rw[em];exact z0H _) .nil))
 have dp:(DV.tup [.tup (hs.map DV.int),.int (Q9 had)]).deep≤2:=z19 fun d' hd'=>by
  rcases bE.mp hd' with rfl|hd'
  ·exact z19 fun d'' hd''=>by
    obtain⟨i,_,rfl⟩:=cM.mp hd''
    exact z1J _ _
  ·rw[bB.mp hd']
   exact z1J _ _
 refine(ex2 (.ref t1) (.ref t3) ⟨rfl,(z3U _ _ _ T1 T2).mono (cL dp (by decide)),fun G7 s8=>(rdI rfl (B8 ?_))⟩)
 have c7:=c25.trans (s6.trans (s7.trans s8))
 clear T1 T2 dp tin sh3 e6 ec e5 e3 s3 s4 s5 s6 s7 s8 c25 eo5 hm top em
 refine(rdI rfl (ex6 x fp nm r rows had ⟨rfl,OS.same sh2 c7,gn,R,r60,hadr,r0,r10,fun v1 G8 g8 tv1=>?_⟩))
 have c8:=c7.trans g8
 refine(rdI rfl (ex6 x fp nm r rows had ⟨rfl,OS.same sh2 c8,gn,R,r60,hadr,r0,r10,fun v2 G9 g9 tv2=>⟨le2,fun p1 hp1=>?_⟩⟩))
 rw[e1] at tv1 tv2
 have c9:=c8.trans g9
 have sp1:=z01 hp1 (.tup [v1,v2])
 have cA:=c9.trans sp1
 refine(rdI rfl (ex2 lg gz ⟨rfl,.inl ⟨SqL.of (cA _ _ eG2),fun p2 hp2=>?_⟩⟩))
 have sp2:=z01 hp2 (.tup gz)
 have cB:=cA.trans sp2
 refine(rdI rfl (rdI rfl (rdI rfl (rdI rfl (ex8 ln lh lr nm hs us rl r ⟨rfl,SqL.of (cB _ _ eN2),n12,cB _ _ eH2,by lia,hnd,h60,hup,SqL.of (cB _ _ eR2),z08.keep cB _ _ tR2,r12,r0,fun v3 GC gC tv3=>⟨le2,fun p3 hp3=>?_⟩⟩)))))
 rw[ag.table e2] at tv3
 have sp3:=z01 hp3 (.tup [V.ref p2,v3])
 have lgz:(z3i hs rows r).length≤1000000:=by
  unfold z3i
  rw[b9]
  exact cL (z2j hs) (by decide)
 have dst:∀d∈[DV.tup (z3i hs rows r),z7F nm hs rows r],d.deep≤3:=fun d hd=>by
  rcases bE.mp hd with rfl|hd
  ·exact y69 _ _ _
  ·rw[bB.mp hd]
   exact cL (y2Z _ _ _ _) (by decide)
 refine⟨.ref p1,.ref p3,rfl,(z3U (.tup [.tup (z3i hs rows r),z7F nm hs rows r]) _ _ (z0q (sp3 _ _ (gC _ _ (sp2 _ _ z03))) (by show 2≤1000000;decide) (.cons (B2.keep (g9.trans (sp1.trans (sp2.trans (gC.trans sp3)))) _ _ tv1) (.cons (B2.keep (sp1.trans (sp2.trans (gC.trans sp3))) _ _ tv2) .nil)))
  (z0q z03 (by show 2≤1000000;decide) (.cons (z0q (sp3 _ _ (gC _ _ z03)) lgz (z08.keep (cB.trans (gC.trans sp3)) _ _ tG2)) (.cons (B2.keep sp3 _ _ tv3) .nil)))).mono (cL (z19 dst) (by decide)),fun GD gD=>⟨_,rfl,B8 ?_⟩⟩
 have cD:=cB.trans (gC.trans (sp3.trans gD))
 clear tv1 tv2 tv3 sp1 sp2 sp3 gC gD cB cA c9 c8 g8 g9 c7 hp1 hp2 hp3 dst
 refine(rdI rfl (ex6 x fp nm r _ had ⟨rfl,OS.same sh2 cD,h60',fun GE gE=>?_⟩))
 have cE:=cD.trans gE
 rw[e1]
 have ck:kz.countP y0C=(z1B hs r).length:=(z81 tK).trans (y2G it h60)
 have lm':(nm.map V.str).length=nm.length:=b9 _
 have l60:=z3X hs r
 have lt:(z1B hs r).length*nm.length≤60*12:=Nat.mul_le_mul l60 n12
 have kin:∀y∈kz,y=.non\/∃a ys,y=.ref a/\SqT K GE a ys:=fun y hy=>by
  obtain⟨j,hj,e⟩:=gR hy
  obtain⟨d,ed,td⟩:=(z08.keep cE _ _ tK).at j y (by rw[bD hj,e])
  rw[bC] at ed
  obtain⟨o,_,rfl⟩:=bU.mp ed
  cases o with
  | none=>
   have td':B2 GE .non y:=td
   unfold B2 at td'
   exact .inl td'
  | some ws=>
   obtain⟨a,ys,rfl,ea,_⟩:=z0d (show B2 GE (.tup (ws.map DV.str)) y from td)
   exact .inr (ex2 a ys ⟨rfl,SqT.of ea⟩)
 refine(rdI rfl ⟨.inl ⟨rfl,_,SqL.of (cE _ _ eK)⟩,(ex2 lk kz ⟨rfl,rfl,SqL.of (cE _ _ eK),kin,(rdI rfl ⟨ln,(rdI rfl ⟨.inl (SqL.of (cE _ _ eN2)),(ex2 _ _ ⟨rfl,rfl,?_,(rdI rfl ⟨?_,?_,?_⟩)⟩)⟩)⟩)⟩)⟩)
 ·rw[ck]
  exact .inl ⟨by lia,by lia⟩
 ·exact Int.mul_nonneg (j0 _) (j0 _)
 ·rw[ck,lm',<- jR]
  lia
 rw[ck,lm',<- jR,fF]
 refine(ex2 _ _ ⟨rfl,.inl ⟨rfl,rfl⟩,fun GF gF=>(rdI rfl (B8 ?_))⟩)
 have cF:=cE.trans gF
 clear kin ck
 refine⟨_,rfl,ln,rfl,⟨_,SqL.of (cF _ _ eN2)⟩,z1g (K:=K) (a:=ln) (xs:=nm.map V.str) (fun i σ G=>∃o1 o2:Option V,B0 H2 G/\σ=[some (.ref x),some (.ref ln),some (.ref lh),some (.ref lr),some (.int r),some (.ref lg),some (.ref lk),some (.int (z8h (z5U hs rows r (nm.take i)))),o1,o2])
  ⟨none,none,cF,rfl⟩ (fun i σ G _ ⟨_,_,g,_⟩=>SqL.of (g _ _ eN2)) ?_ ?_⟩
 ·rintro i y σ G hi ⟨o1,o2,g,rfl⟩
  rw[bC] at hi
  obtain⟨z,hz,rfl⟩:=bU.mp hi
  have hzm:=bP hz
  refine(rdI rfl (rdI rfl (rdI rfl (ex6 lh lr hs us rl z ⟨rfl,SqL.of (g _ _ eH2),by lia,hnd,h60,hup,SqL.of (g _ _ eR2),z08.keep g _ _ tR2,fun hv G1 g1 th=>?_⟩))))
  rw[e2,z9L hs ag.1] at th
  have c1:=g.trans g1
  refine(rdI rfl (rdI rfl (rdI rfl (rdI rfl (rdI rfl (rdI rfl (ex14 x ln lk lg z hv fp nm r rows had m kz gz ⟨rfl,OS.same sh2 c1,hzm,gn,R,r60,hadr,r0,r10,it',SqL.of (c1 _ _ eN2),c1 _ _ eK,by rw[e1];exact z08.keep c1 _ _ tK,c1 _ _ eG2,by rw[e1];exact z08.keep c1 _ _ tG2,by rw[e1];exact th,fun G2 g2=>(rdI rfl (B8 ?_))⟩)))))))
  have c2:=c1.trans g2
  obtain⟨ah,yv,rfl,eh,_⟩:=z3p th
  refine(rdI rfl (rdI rfl (ex4 ah _ 0 _ ⟨rfl,rfl,SqT.of (g2 _ _ eh),rfl,(rdI rfl (ex7 lg gz hs rows r _ z ⟨rfl,SqL.of (c2 _ _ eG2),z08.keep c2 _ _ tG2,fun G3 g3=>⟨rfl,(rdI rfl ?_)⟩⟩))⟩)))
  have c3:=c2.trans g3
  rw[z0n hz,z9D]
  refine B9 (fun c=>?_) (fun c=>?_)
  ·have c':z0X hs rows r (z1k (z0S hs rows z)) z="open":=V.str.inj (z0I c)
   rw[if_pos c',y1F]
   exact(rdI rfl (rdI rfl (ex4 ah _ 0 _ ⟨rfl,rfl,SqT.of (g3 _ _ (g2 _ _ eh)),rfl,(ex2 _ _ ⟨rfl,_,_,c3,rfl⟩)⟩)))
  ·have c':¬z0X hs rows r (z1k (z0S hs rows z)) z="open":=fun e=>c (decide_eq_true (congrArg V.str e))
   rw[if_neg c',cR]
   exact⟨_,_,c3,rfl⟩
 ·rintro σ G ⟨o1,o2,g,rfl⟩
  rw[b9,bT]
  refine(rdI rfl (ex7 x none fp nm r rows had ⟨rfl,OS.same sh2 g,fun y hy=>hy,gn,R,r60,hadr,r0,r10,fun v G5 g5 p5=>?_⟩))
  rw[e1] at p5
  exact(rdI rfl (rdI rfl (rdI rfl (ex5 v lh hs r _ ⟨rfl,p5,g5 _ _ (g _ _ eH2),h60,by lia,r0,fun G6 g6=>q _ (s12.trans (g.trans (g5.trans g6)))⟩))))
theorem y5N{nm:List Str}{hs:List Int}{rows C6:List Row}{r:Int}{m:Nat}(al:Alt nm hs rows r C6)(hm:m≤rows.length):z7b nm (z0K m hs rows r) ((C6.take m).map z0x):=by
 have l2:=al.len
 refine⟨by rw[z0W,b9,bG];lia,fun i o zs h1 h2=>?_⟩
 obtain⟨hi,eo⟩:=z5h h1
 rw[bC,eB hi] at h2
 have e:=z6g (rows:=C6) (n:=1+(i:Int)) (by lia) (by lia)
 rw[show(1+(i:Int)-1).toNat=i by lia] at e
 rw[e] at h2
 cases h2
 refine⟨z8T al.R _,fun ws h=>?_⟩
 rw[h] at eo
 obtain⟨rfl,c⟩:=z2X eo.symm
 rcases c with c|c
 ·rw[al.had _ c]
 ·exact al.seen _ (by lia) (by lia) c
noncomputable def z6B(hs:List Int):List D7:=hs.map fun n=>(some 2,n)
theorem y2R(hs:List Int)(n:Int):z6B (hs++[n])=z6B hs++[(some 2,n)]:=by
 unfold z6B
 rw[bF]
 rfl
theorem y8r{hs:List Int}{m:Nat}(it:z3Q hs m)(h60:∀x∈hs,1≤x/\x≤60){mx:Int}(hmx:mx∈hs++[0])(top:∀y∈hs++[0],y≤mx):mx=(m:Int):=by
 have h0:=top 0 (cI _ (bB.mpr rfl))
 rcases bS.mp hmx with h|h
 ·have:=it.2 mx h
  rcases it.1 with q|⟨q,_⟩
  ·have:=top m (cQ _ q)
   lia
  ·rw[q] at h
   cases h
 ·have:=bB.mp h
  rcases it.1 with q|⟨_,q⟩
  ·have:=top m (cQ _ q)
   lia
  ·lia
theorem y0V(rows:List Row)(n r:Int):(z0N rows n r).deep≤4:=z19 fun d hd=>by
 rcases bE.mp hd with rfl|hd
 ·exact z1J _ _
 rcases bE.mp hd with rfl|hd
 ·refine z19 fun d hd=>?_
  obtain⟨p,_,rfl⟩:=cM.mp hd
  refine z19 fun d hd=>?_
  rcases bE.mp hd with rfl|hd
  ·exact z7S _ _
  ·rw[bB.mp hd]
   exact z1J _ _
 rw[bB.mp hd]
 refine z19 fun d hd=>?_
 obtain⟨k,_,rfl⟩:=cM.mp hd
 refine z19 fun d hd=>?_
 rcases bE.mp hd with rfl|hd
 ·exact z1J _ _
 ·rw[bB.mp hd]
  exact y28 _
theorem y7u{m:Nat}{us hs:List Int}(n:Int):n∈Q3 (K5 m++z6B us++N8 hs) 1↔n∈hs:=by
 rw[y22,bS,bS]
 unfold K5 z6B N8
 rw[cM,cM,cM]
 constructor
 ·rintro((⟨k,_,e⟩|⟨k,_,e⟩)|⟨k,hk,e⟩)
  ·cases e
  ·injection e with e _
   injection e with e
   exact absurd e (by decide)
  ·cases e
   exact hk
 ·exact fun h=>.inr ⟨n,h,rfl⟩
theorem Alt.agree{nm:List Str}{hs:List Int}{rows C6:List Row}{r:Int}(al:Alt nm hs rows r C6)(hup:∀x∈hs,x≤(rows.length:Int)):z4u hs r rows C6:=
 ⟨fun n hn=>(al.had n hn).symm,fun n h1 ⟨y,hy,h2⟩ h3=>(al.seen n h1 (by have:=hup y hy;lia) h3).symm⟩
theorem Alt.w0L{nm:List Str}{hs:List Int}{rows C6:List Row}{r n:Int}(al:Alt nm hs rows r C6)(h60:∀x∈hs,1≤x/\x≤60)(hup:∀x∈hs,x≤(rows.length:Int))(hn:n∈hs):z0N C6 n r=z0N rows n r:=by
 unfold z0N y47
 rw[al.had n hn]
 have e:(z5k n r).map (z9e C6)=(z5k n r).map (z9e rows):=?_
 ·rw[e]
 refine eI fun k hk=>?_
 unfold z5k at hk
 rw[cK,decide_eq_true_eq,z8r] at hk
 obtain⟨h1,h2⟩:=hk
 have:=hup n hn
 unfold z9e
 rw[al.seen k (by lia) (by lia) fun e=>absurd (by lia) (z9E h60 e n hn (by lia))]
theorem z4u.agc{hs:List Int}{r:Int}{rl rows:List Row}(h:z4u hs r rl rows)(k:Nat)(z:Str):agC k hs rl r z=agC k hs rows r z:=by
 unfold agC
 rw[z9L hs h.1,h.state]
theorem y6u{nm:List Str}{rows:List Row}(R:Rws nm rows){m:Nat}{hs:List Int}{r:Int}(hm:m≤rows.length):z7b nm (z0K m hs rows r) ((rows.take m).map z0x):=by
 refine⟨by rw[z0W,b9,bG];lia,fun i o zs h1 h2=>?_⟩
 obtain⟨hi,eo⟩:=z5h h1
 rw[bC,eB hi] at h2
 have e:=z6g (rows:=rows) (n:=1+(i:Int)) (by lia) (by lia)
 rw[show(1+(i:Int)-1).toNat=i by lia] at e
 rw[e] at h2
 cases h2
 refine⟨z8T R _,fun ws h=>?_⟩
 rw[h] at eo
 exact(z2X eo.symm).1.symm
theorem y8F(M:Bl mg)(F:Fun K "law" "law" w0I f fd){B1 A0:Addr}{Bk:BkP}{Sh:ShP}(O:W3 B1 ["write","deliver","latest","issue","deeds","deed","shelf"] Bk)(OS:W2 A0 ["put","had","latest"] Sh)
  (C9:Cal P w K mg base 1 "_law_at" z58 (Z0 K)) (E3:Cal P w K mg base 1 "_law_pick" z3T y2n) (N9:Cal P w K mg base 2 "_law_names" z5H (y4f K)) (M7:Cal P w K mg base 3 "_law_numbers" z47 (y0y K))
  (R4:Cal P w K mg base 2 "_law_had" z8t y8R) (M1:Cal P w K mg base 2 "_law_shuffled" z3A (y6P K)) (D2:Cal P w K mg base 6 "_law_same" z21 (z94 6)) (G0:Cal P w K mg base 1 "_law_whole" z48 y1j) (O1:Cal P w K mg base 1 "_law_issue" z68 (y4t K))
  (N4:Cal P w K mg base 4 "_law_second" z54 (y1Y K)) (K4:Cal P w K mg base 10 "_law_written" z4a (y0l K Bk)) (M4:Cal P w K mg base 12 "_law_all_told" z3E (y15 K Sh))
  (K9:Cal P w K mg base 8 "again_count" z4D (y2g Sh)) (Z3:Cal P w K mg base 8 "fits" y7Q (y70 Sh))
  (F2:D9 P w K mg base 8 B1 "deliver" z4g (z84 Bk)) (M5:D9 P w K mg base 8 B1 "issue" z64 (y0n Bk)) (E8:O2 P w K mg base 8 B1 "shelf" z3g (z6f Bk Sh) [V.non]):B4 P w K mg base CX0 14 f fd plaw (y5K K):=by
 have nd:=y8B.nd
 refine F.ok y8B (fun vs H Q E h=>?_) (fun cdv A outer s H vs Q E hr h=>?_)
 ·obtain⟨a,ns,rfl,_⟩:=h
  rfl
 obtain⟨a,ns,rfl,hS,h63,q⟩:=h
 refine⟨_,(z04 (z0p (i:=1) nd rfl (Or.inl rfl) (z0e N9 (rm hr) rfl (z00 (pv 0) z02))) (z04 (z0p (i:=2) nd rfl (Or.inl rfl) (z0e M7 (rm hr) rfl (z00 (pv 0) (z00 (pv 1) z02)))) (z04 (z0p (i:=3) nd rfl (Or.inl rfl) (z0e E3 (rm hr) rfl (z00 (z0e C9 (rm hr) rfl (z00 (pv 0) (z00 z06 z02))) (z00 z06 z02)))) (z04 (z0p (i:=4) nd rfl (Or.inl rfl) (z0e R4 (rm hr) rfl (z00 (z0e C9 (rm hr) rfl (z00 (pv 0) (z00 z06 z02))) (z00 (z0b z09 rfl M.len bO (z00 (pv 2) z02)) z02)))) (z04 (z0p (i:=5) nd rfl (Or.inl rfl) (z0e N4 (rm hr) rfl (z00 (pv 1) (z00 (pv 2) (z00 (pv 4) (z00 (pv 3) (z00 (pv 0) z02))))))) (z04 (z0p (i:=6) nd rfl (Or.inl rfl) (z0e K4 (rm hr) rfl (z00 (pv 1) (z00 (pv 3) (z00 (pv 2) z02))))) (z04 (z0p (i:=7) nd rfl (Or.inl rfl) (z0e K4 (rm hr) rfl (z00 (pv 1) (z00 (pv 3) (z00 (pv 5) z02))))) (z04 (z0O bR rfl (z3P rfl M.range (z00 z06 (z00 (z0u z1u (z0b z09 rfl M.len bO (z00 (pv 2) z02)) z06) z02))) (z0j (i:=8) nd rfl (Or.inl rfl)) (z05 (z0D (z1I F2 (rm hr) (pv 6) (z00 z06 (z00 (pv 8) z02)))))) (z04 (z0O bR rfl (z16 (pv 4)) (z0j (i:=8) nd rfl (Or.inl rfl)) (z04 (z0D (z1I F2 (rm hr) (pv 6) (z00 z06 (z00 (pv 8) z02)))) (z04 (z0p (i:=9) nd rfl (Or.inl rfl) (z0e O1 (rm hr) rfl (z00 (pv 2) (z00 (pv 8) (z00 (pv 3) z02))))) (z05 (z0E (z22 (z1Q (z0e D2 (rm hr) rfl (z00 (z0T (z00 (z1I M5 (rm hr) (pv 6) (z00 (pv 8) z02)) (z00 (z1I M5 (rm hr) (pv 7) (z00 (pv 8) z02)) z02))) (z00 (z0T (z00 (pv 9) (z00 (pv 9) z02))) z02))))) (z05 (z0i z1P)) z0l))))) (z04 (z0O bR rfl (z16 (z0e M1 (rm hr) rfl (z00 (pv 4) (z00 (z0e C9 (rm hr) rfl (z00 (pv 0) (z00 z06 z02))) z02)))) (z0j (i:=8) nd rfl (Or.inl rfl)) (z05 (z0D (z1I F2 (rm hr) (pv 7) (z00 z06 (z00 (pv 8) z02)))))) (z04 (z0O bR rfl (z16 (z1d (z00 (z7V E8 (rm hr) (pv 6) (z00 z06 z02)) (z00 (z7V E8 (rm hr) (pv 7) (z00 z06 z02)) z02)))) (z0j (i:=10) nd rfl (Or.inl rfl)) (z04 (z0E (z22 (z1Q (z0e M4 (rm hr) rfl (z00 (pv 10) (z00 (pv 1) (z00 (pv 4) (z00 (pv 2) (z00 (pv 3) z02)))))))) (z05 (z0i z1P)) z0l) (z05 (z0O bR rfl (z16 (z1d (z00 (pv 2) (z00 (pv 5) z02)))) (z0j (i:=11) nd rfl (Or.inl rfl)) (z04 (z0p (i:=12) nd rfl (Or.inl rfl) (z0s z0m rfl M.tuple bH (z00 (z15 ["_law_each"] [] [] rfl (z0w rfl (by decide +kernel) rfl (by decide +kernel) rfl rfl) (z16 (z3n y3N (pv 11) z4G (z4M (z0b (z30 rfl) rfl M.max dD (z00 (z0u z9m (pv 4) (z1d (z00 z06 z02))) z02))))) (fun _ _ _ _ _=>(z0j (i:=0) (show((["_law_each"]:List PySem.Str)++([]:List PySem.Str)).Nodup from by decide +kernel) rfl (Or.inl rfl))) (z0y (by decide)) z0h (fun _ _ _ _ _=>z1E) (fun _ _ _ _ _=>(z0s (z5o (K:=K) rfl) rfl M.tuple bH (z00 (z15 ["_law_row_here"] [] [] rfl (z0w rfl (by decide +kernel) rfl (by decide +kernel) rfl rfl) (y7S (K:=K) rfl (pv 0)) (fun _ _ _ _ _=>(z0j (i:=0) (show((["_law_row_here"]:List PySem.Str)++([]:List PySem.Str)).Nodup from by decide +kernel) rfl (Or.inl rfl))) (z0y (by decide)) z0h (fun _ _ _ _ _=>z1E) (fun _ _ _ _ _=>(z0B (r:=P2 K) z0C (pv 0) z06 (fun _ _=>rfl)))) z02)))) z02))) (z05 (z0E (z22 (z1Q (z0e D2 (rm hr) rfl (z00 (z0e Z3 (rm hr) rfl (z00 (pv 10) (z00 (pv 12) z02))) (z00 z1P z02))))) (z05 (z0i z1P)) z0l))))))) (z04 (z0O bR rfl (z16 (pv 1)) (z0j (i:=13) nd rfl (Or.inl rfl)) (z04 (z0p (i:=14) nd rfl (Or.inl rfl) (z0e K9 (rm hr) rfl (z00 (z7V E8 (rm hr) (pv 6) (z00 z06 z02)) (z00 (pv 13) z02)))) (z05 (z0E (PW.pt (z37 (z22 (z1Q (z0e G0 (rm hr) rfl (z00 (pv 14) z02)))) (z25 (z22 (z1Q (z0e D2 (rm hr) rfl (z00 (z0e K9 (rm hr) rfl (z00 (z7V E8 (rm hr) (pv 7) (z00 z06 z02)) (z00 (pv 13) z02))) (z00 (pv 14) z02)))))))) (z05 (z0i z1P)) z0l)))) (z05 (z0i z1P)))))))))))))),?_⟩
 refine(rdI rfl (ex2 a ns ⟨rfl,hS,fun ln nm H1 nln s1 eN n1 n12 N=>?_⟩))
 refine(rdI rfl (rdI rfl (ex4 a ln ns nm ⟨rfl,s1.seq hS,SqL.of eN,n1,n12,fun lr us rows H2 nlr s2 eR tl r60 R=>?_⟩)))
 have s12:=s1.trans s2
 refine(rdI rfl (ex3 a ns 4 ⟨rfl,s12.seq hS,by decide,(ex2 _ _ ⟨rfl,(by decide),fun r r0 r1=>?_⟩)⟩))
 have lus:us.length=rows.length:=by rw[tl.length,b9]
 have gn:E2 nm:=⟨n1,n12,N.nd⟩
 refine(rdI rfl (ex3 a ns 5 ⟨rfl,s12.seq hS,by decide,(rdI rfl (ex2 lr us ⟨rfl,.inl (SqL.of eR),(ex2 _ _ ⟨rfl,by lia,by lia,fun lh hs H3 nlh s3 eH rise C0 w0x=>?_⟩)⟩))⟩))
 have s13:=s12.trans s3
 have hsr:∀x∈hs,1≤x/\x≤(rows.length:Int):=fun x hx=>by have:=C0 x hx;lia
 have hup:∀x∈hs,x≤(rows.length:Int):=fun x hx=>(hsr x hx).2
 have h60:∀x∈hs,1≤x/\x≤60:=fun x hx=>by have:=hsr x hx;lia
 have eN3:=s3 _ _ (s2 _ _ eN)
 have eR3:=s3 _ _ eR
 have tl3:=z08.keep s3 _ _ tl
 have r12:=y1Z R n12
 refine(rdI rfl (rdI rfl (rdI rfl (rdI rfl (rdI rfl (w00 ln lr lh a nm us rows hs ns r ⟨rfl,SqL.of eN3,gn,SqL.of eR3,tl3,r60,R,SqL.of eH,hsr,w0x,r0,s13.seq hS,fun lo us2 C6 H4 nlo s4 eO tl2 al=>?_⟩))))))
 have l2:=al.len
 have r12':=y1Z al.R n12
 have lus2:us2.length=C6.length:=by rw[tl2.length,b9]
 have eN4:=s4 _ _ eN3
 refine(rdI rfl (rdI rfl (rdI rfl (ex6 ln lr nm us rows r ⟨rfl,SqL.of eN4,gn,s4.seq (SqL.of eR3),z08.keep s4 _ _ tl3,r60,R,r0,by lia,fun x fp H5 nf s5 bk=>?_⟩))))
 refine(rdI rfl (rdI rfl (rdI rfl (ex6 ln lo nm us2 C6 r ⟨rfl,s5.seq (SqL.of eN4),gn,s5.seq (SqL.of eO),z08.keep s5 _ _ tl2,by lia,al.R,r0,by lia,fun y fq H6 nfq s6 bq=>?_⟩))))
 have s46:=s5.trans s6
 have s36:=s4.trans s46
 have bk6:=O.same bk s6
 have apart:∀b∈fp,b∉fq:=fun b hb m=>by
  obtain⟨o,e,_⟩:=O.own bk b hb
  rw[nfq b m] at e
  cases e
 have X9:∀{b:Addr}{o:HO},H4 b=some o->b∉fp:=fun e m=>by rw[nf _ m] at e;cases e
 have outq:∀{b:Addr}{o:HO},H4 b=some o->b∉fq:=fun e m=>by rw[s5.free (nfq _ m)] at e;cases e
 have eH4:=s4 _ _ eH
 have eH6:=s46 _ _ eH4
 have hS6:=(s13.trans s36).seq hS
 obtain⟨m,it⟩:=y71 hs h60
 have mle:m≤rows.length:=by
  rcases it.1 with q|⟨_,q⟩
  ·have:=hup _ q
   lia
  ·lia
 have ag:=al.agree hup
 have nt6:z5L H6 fp:=O.S3 bk6
 have eR4:=s4 _ _ eR3
 have tl4:=z08.keep s4 _ _ tl3
 have eR6:=s46 _ _ eR4
 have tl6:=z08.keep s46 _ _ tl4
 have ul:((us.length:Nat):Int)=(rows.length:Int):=by rw[lus]
 refine(rdI rfl (ex2 lr us ⟨rfl,.inl (SqL.of eR6),(ex2 _ _ ⟨rfl,rfl,(ex2 _ _ ⟨rfl,⟨by decide,by decide,by lia,by lia⟩,?_⟩)⟩)⟩))
 refine z13 (lo:=1) (n:=(((us.length:Nat):Int)+1-1).toNat) (fun i σ G=>∃(o8:Option V),z0A fp H6 G/\Bk G x fp nm r 2 rows (K5 rows.length++z6B (upI 1 i))/\
   σ=[some (.ref a),some (.ref ln),some (.ref lr),some (.int r),some (.ref lh),some (.ref lo),some (.ref x),some (.ref y),o8,none,none,none,none,none,none]) ⟨_,.of (B0.refl _),(cR (K5 rows.length)).symm ▸ bk6,rfl⟩ (fun i σ G hi hp=>?_) (fun σ H7 hp=>?_)
 ·obtain⟨p8,bt,bk,rfl⟩:=hp
  have hi':i<rows.length:=by lia
  obtain⟨d2,g2,z2,w2⟩:=O.ins bk
  have ll:(K5 rows.length++z6B (upI 1 i)).length<400:=by
   rw[bN,z7R]
   unfold z6B
   rw[b9,z0L]
   lia
  refine(rdI rfl (ex3 x d2 g2 ⟨rfl,z2,w2 _ (by simp),(rdI rfl (ex9 x fp nm r 2 rows _ 2 _ ⟨rfl,bk,by decide,by decide,by lia,by lia,ll,fun G1 b1 bk1=>?_⟩))⟩))
  rw[eV,<- y2R,<- z5f] at bk1
  exact⟨_,fun b o e nb=>b1 b o (bt b o e nb) nb,bk1,rfl⟩
 obtain⟨p8,bt7,bk7,rfl⟩:=hp
 have en:(((us.length:Nat):Int)+1-1).toNat=rows.length:=by lia
 rw[en] at bk7
 have eH7:=bt7 _ _ eH6 (X9 eH4)
 refine⟨_,rfl,lh,rfl,⟨_,SqL.of eH7⟩,z1g (K:=K) (a:=lh) (xs:=hs.map V.int) (fun i σ G=>∃(o8 o9:Option V),z0A fp H6 G/\Bk G x fp nm r 2 rows (K5 rows.length++z6B (upI 1 rows.length)++N8 (hs.take i))/\
   σ=[some (.ref a),some (.ref ln),some (.ref lr),some (.int r),some (.ref lh),some (.ref lo),some (.ref x),some (.ref y),o8,o9,none,none,none,none,none]) ⟨_,_,bt7,(cR (K5 rows.length++z6B (upI 1 rows.length))).symm ▸ bk7,rfl⟩ (fun i σ G _ ⟨_,_,bt,_⟩=>SqL.of (bt _ _ eH6 (X9 eH4))) ?_ ?_⟩
 ·rintro i u σ G hi ⟨o8,o9,bt,bk,rfl⟩
  rw[bC] at hi
  obtain⟨n,en,rfl⟩:=bU.mp hi
  have hnm:=bP en
  have hn:=hsr n hnm
  obtain⟨d2,g2,z2,w2⟩:=O.ins bk
  have ll:(K5 rows.length++z6B (upI 1 rows.length)++N8 (hs.take i)).length<400:=by
   rw[bN,bN,z7R]
   unfold z6B N8
   rw[b9,b9,bG,z0L]
   lia
  refine(rdI rfl (ex3 x d2 g2 ⟨rfl,z2,w2 _ (by simp),(rdI rfl (ex9 x fp nm r 2 rows _ 1 n ⟨rfl,bk,by decide,by decide,hn.1,hn.2,ll,fun G1 b1 bk1=>?_⟩))⟩))
  rw[eV,<- y0E,<- z0n en] at bk1
  have bt1:z0A fp H6 G1:=fun b o e nb=>b1 b o (bt b o e nb) nb
  have bq1:=O.keep bq bt1 apart nt6
  have eR1:=bt1 _ _ eR6 (X9 eR4)
  have tl1:=z08.but bt1 nt6 _ _ tl6
  refine(rdI rfl (rdI rfl (rdI rfl (ex5 lr us rows n r ⟨rfl,SqL.of eR1,tl1,by lia,r12,hn.1,hn.2,fun v G2 g2 tv=>?_⟩))))
  have bk2:=O.same bk1 g2
  obtain⟨d3,g3,z3,w3⟩:=O.ins bk2
  refine(rdI rfl (ex3 x d3 g3 ⟨rfl,z3,w3 _ (by simp),(rdI rfl (ex8 x fp nm r 2 rows _ n ⟨rfl,bk2,hn.1,hn.2,fun v1 G3 g3 t1=>?_⟩))⟩))
  have bq3:=O.same bq1 (g2.trans g3)
  obtain⟨d4,g4,z4,w4⟩:=O.ins bq3
  refine(rdI rfl (ex3 y d4 g4 ⟨rfl,z4,w4 _ (by simp),(rdI rfl (ex8 y fq nm r 2 C6 _ n ⟨rfl,bq3,hn.1,by lia,fun v2 G4 g4 t2=>⟨le2,fun p1 hp1=>(rdI rfl (rdI rfl ⟨le2,fun p2 hp2=>?_⟩))⟩⟩))⟩))
  rw[al.w0L h60 hup hnm] at t2
  have sp1:=z01 hp1 (.tup [v1,v2])
  have sp2:=z01 hp2 (.tup [v,v])
  have sp:=sp1.trans sp2
  have dst:∀d∈[z0N rows n r,z0N rows n r],d.deep≤4:=fun d hd=>by
   rcases bE.mp hd with rfl|hd
   ·exact y0V _ _ _
   ·rw[bB.mp hd]
    exact y0V _ _ _
  have tv':=B2.keep (g3.trans (g4.trans sp)) _ _ tv
  refine(ex2 (.ref p1) (.ref p2) ⟨rfl,(z3U (.tup [z0N rows n r,z0N rows n r]) _ _ (z0q (sp2 _ _ z03) (by show 2≤1000000;decide) (.cons (B2.keep (g4.trans sp) _ _ t1) (.cons (B2.keep sp _ _ t2) .nil))) (z0q z03 (by show 2≤1000000;decide) (.cons tv' (.cons tv' .nil)))).mono (cL (z19 dst) (by decide)),fun G5 g5=>(rdI rfl (B8 ?_))⟩)
  have c5:=g2.trans (g3.trans (g4.trans (sp.trans g5)))
  exact⟨_,_,bt1.then c5,O.same bk1 c5,rfl⟩
 rintro σ H8 ⟨o8,o9,bt8,bk8,rfl⟩
 rw[b9,bT] at bk8
 have bq8:=O.keep bq bt8 apart nt6
 have hS8:SqL K H8 a (ns.map V.int):=SqL.new nf (fun b o e nb=>bt8 b o (s46 b o e) nb) ((s13.trans s4).seq hS)
 have eH8:=bt8 _ _ eH6 (X9 eH4)
 have g8:∀{b:Addr}{o:HO},H4 b=some o->H8 b=some o:=fun e=>bt8 _ _ (s46 _ _ e) (X9 e)
 have tl8:∀{ds:List DV}{xs:List V},z08 H4 ds xs->z08 H8 ds xs:=fun h=>z08.but bt8 nt6 _ _ (z08.keep s46 _ _ h)
 refine(rdI rfl (rdI rfl (ex3 a ns 6 ⟨rfl,hS8,by decide,(ex3 lh hs _ ⟨rfl,SqL.of eH8,w0x,fun ls ts H9 nls s9 eT memT lenT=>?_⟩)⟩)))
 have tsr:∀x∈ts,1≤x/\x≤(rows.length:Int):=fun x hx=>hsr x ((memT x).mp hx)
 have kls:ls∉fq:=fun mm=>by
  obtain⟨o,e,_⟩:=O.own bq8 ls mm
  rw[nls] at e
  cases e
 have bq9:=O.same bq8 s9
 have nt9:z5L H9 fq:=O.S3 bq9
 refine⟨ls,rfl,⟨_,SqL.of eT⟩,z1g (K:=K) (a:=ls) (xs:=ts.map V.int) (fun i σ G=>∃(o8:Option V),z0A fq H9 G/\Bk G y fq nm r 2 C6 (K5 C6.length++N8 (ts.take i))/\
   σ=[some (.ref a),some (.ref ln),some (.ref lr),some (.int r),some (.ref lh),some (.ref lo),some (.ref x),some (.ref y),o8,o9,none,none,none,none,none]) ⟨_,.of (B0.refl _),by rw[cT];exact(cR (K5 C6.length)).symm ▸ bq9,rfl⟩ (fun i σ G _ ⟨_,bt,_⟩=>SqL.of (bt _ _ eT kls)) ?_ ?_⟩
 ·rintro i u σ G hi ⟨o8,bt,bk,rfl⟩
  rw[bC] at hi
  obtain⟨n,en,rfl⟩:=bU.mp hi
  have hn:=tsr n (bP en)
  obtain⟨d2,g2,z2,w2⟩:=O.ins bk
  have ll:(K5 C6.length++N8 (ts.take i)).length<400:=by
   rw[bN,z7R]
   unfold N8
   rw[b9,bG]
   lia
  refine(rdI rfl (ex3 y d2 g2 ⟨rfl,z2,w2 _ (by simp),(rdI rfl (ex9 y fq nm r 2 C6 _ 1 n ⟨rfl,bk,by decide,by decide,hn.1,by lia,ll,fun G1 b1 bk1=>?_⟩))⟩))
  rw[eV,<- y0E,<- z0n en] at bk1
  exact⟨_,fun b o e nb=>b1 b o (bt b o e nb) nb,bk1,rfl⟩
 rintro σ HA ⟨q8,btA,bqA,rfl⟩
 rw[b9,bT] at bqA
 have bkA:=O.keep (O.same bk8 s9) btA (fun b m1 m2=>apart b m2 m1) nt9
 have gA:∀{b:Addr}{o:HO},H4 b=some o->HA b=some o:=fun e=>btA _ _ (s9 _ _ (g8 e)) (outq e)
 have tlA:∀{ds:List DV}{xs:List V},z08 H4 ds xs->z08 HA ds xs:=fun h=>z08.but btA nt9 _ _ (z08.keep s9 _ _ (tl8 h))
 have eHA:=gA eH4
 have eNA:=gA eN4
 have eRA:=gA eR4
 have eOA:=gA eO
 have tRA:=tlA tl4
 have tOA:=tlA tl2
 have gm1:∀n,n∈Q3 (K5 rows.length++z6B (upI 1 rows.length)++N8 hs) 1↔n∈hs:=fun n=>y7u n
 have gm2:∀n,n∈Q3 (K5 C6.length++N8 ts) 1↔n∈hs:=fun n=>(y8c n).trans (memT n)
 generalize K5 rows.length++z6B (upI 1 rows.length)++N8 hs=log1 at bkA gm1
 generalize K5 C6.length++N8 ts=log2 at bqA gm2
 have w0b:∀n∈Q3 log1 1,1≤n/\n≤(rows.length:Int):=fun n hn=>hsr n ((gm1 n).mp hn)
 have w07:∀n∈Q3 log2 1,1≤n/\n≤(C6.length:Int):=fun n hn=>by have:=hsr n ((gm2 n).mp hn);lia
 clear gA tlA g8 tl8 bk8 bq8 bq9 nt9 btA bt8 bt7 bk7 bk6 nt6 X9 outq apart s46 s36 bk bq s9 eT eR6 tl6 eH6 eH7 eH8 eR4 tl4 hS8 hS6 tl2 eO eN4 eH4
 obtain⟨d3,g3,z3,w3⟩:=O.ins bkA
 refine(rdI rfl (ex3 x d3 g3 ⟨rfl,z3,w3 _ (by simp),(ex9 x fp nm r 2 rows _ 1 none ⟨rfl,bkA,by decide,by decide,(fun d h=>by cases h),fun x5 f5 HB fn5 sB sh5=>?_⟩)⟩))
 rw[show log1.take (Option.getD none log1.length)=log1 from bT] at sh5
 have bqB:=O.same bqA sB
 obtain⟨d4,g4,z4,w4⟩:=O.ins bqB
 refine(rdI rfl (ex3 y d4 g4 ⟨rfl,z4,w4 _ (by simp),(ex9 y fq nm r 2 C6 _ 1 none ⟨rfl,bqB,by decide,by decide,(fun d h=>by cases h),fun x6 f6 HC fn6 sC sh6=>⟨(by show 2≤sizeLine;decide),fun lL hlL=>?_⟩⟩)⟩))
 rw[show log2.take (Option.getD none log2.length)=log2 from bT] at sh6
 have sD:=z01 hlL (.lst [V.ref x5,V.ref x6])
 have eL:upd HC lL (.lst [V.ref x5,V.ref x6]) lL=some (.lst [V.ref x5,V.ref x6]):=z03
 have w0l:=OS.same sh5 (sC.trans sD)
 have w0B:=OS.same sh6 sD
 have cD:=sB.trans (sC.trans sD)
 generalize upd HC lL (.lst [V.ref x5,V.ref x6])=HD at sD eL w0l w0B cD
 have two:∀(i:Nat) (v:V),[V.ref x5,V.ref x6][i]? = some v->∃(xs:Addr) (fs:List Addr) (RS:List Row) (hd:List Int),v=.ref xs/\Sh HD xs fs nm r (fun n=>z0N RS n r) hd/\Rws nm RS/\RS.length≤60/\(∀n∈hd,1≤n/\n≤(RS.length:Int))/\(∀n,n∈hd↔n∈hs)/\z4u hs r rows RS:=fun i v e=>by
  match i,e with
  | 0,e=>cases e;exact⟨x5,f5,rows,_,rfl,w0l,R,r60,w0b,gm1,z4u.refl _ _ _⟩
  | 1,e=>cases e;exact⟨x6,f6,C6,_,rfl,w0B,al.R,by lia,w07,gm2,ag⟩
 clear sh5 sh6 w0l w0B sD sC sB d3 g3 z3 w3 d4 g4 z4 w4 bqB
 have bkD:=O.same bkA cD
 have bqD:=O.same bqA cD
 have eHD:=cD _ _ eHA
 have eND:=cD _ _ eNA
 have eRD:=cD _ _ eRA
 have eOD:=cD _ _ eOA
 have tRD:=z08.keep cD _ _ tRA
 have tOD:=z08.keep cD _ _ tOA
 have cou:∀(i:Nat) (v:V),[V.ref lr,V.ref lo][i]? = some v->∃(l:Addr) (uc:List V) (RC:List Row),v=.ref l/\HD l=some (.lst uc)/\z08 HD (RC.map N3) uc/\m≤RC.length/\RC.length≤60/\(∀w∈RC,w.length≤12)/\z7b nm (z0K m hs rows r) ((RC.take m).map z0x):=fun i v e=>by
  match i,e with
  | 0,e=>cases e;exact⟨lr,us,rows,rfl,eRD,tRD,mle,r60,r12,y6u R mle⟩
  | 1,e=>cases e;exact⟨lo,us2,C6,rfl,eOD,tOD,by lia,by lia,r12',y5N al mle⟩
 clear bkA bqA eHA eNA eRA eOA tRA tOA cD
 refine⟨lL,rfl,⟨_,SqL.of eL⟩,z1g (K:=K) (a:=lL) (xs:=[V.ref x5,V.ref x6]) (fun _ σ G=>∃(o10 o11 o12:Option V),B0 HD G/\σ=[some (.ref a),some (.ref ln),some (.ref lr),some (.int r),some (.ref lh),some (.ref lo),some (.ref x),some (.ref y),q8,o9,o10,o11,o12,none,none]) ⟨_,_,_,B0.refl _,rfl⟩ (fun i σ G _ ⟨_,_,_,g,_⟩=>SqL.of (g _ _ eL)) ?_ ?_⟩
 ·rintro i u σ G hi ⟨o10,o11,o12,g,rfl⟩
  obtain⟨xs,fs,RS,hd,rfl,sh,RR,rs60,hdr,hdm,agr⟩:=two i u hi
  refine(rdI rfl (rdI rfl (rdI rfl (rdI rfl (rdI rfl (ex12 xs ln lh lr fs nm r us rows RS hd hs ⟨rfl,OS.same sh g,gn,RR,rs60,hdr,r0,by lia,g _ _ eND,g _ _ eHD,rise,hdm,g _ _ eRD,z08.keep g _ _ tRD,hup,r12,agr,fun G1 g1=>(rdI rfl (B8 ?_))⟩))))))
  have c1:=g.trans g1
  refine(rdI rfl (rdI rfl ⟨(by show 2≤sizeLine;decide),fun l2 hl2=>?_⟩))
  have s2':=z01 hl2 (.lst [V.ref lr,V.ref lo])
  have e2:upd G1 l2 (.lst [V.ref lr,V.ref lo]) l2=some (.lst [V.ref lr,V.ref lo]):=z03
  have c2:=c1.trans s2'
  generalize upd G1 l2 (.lst [V.ref lr,V.ref lo])=G2 at e2 c2
  refine⟨l2,rfl,⟨_,SqL.of e2⟩,z1g (K:=K) (a:=l2) (xs:=[V.ref lr,V.ref lo]) (fun _ σ G=>∃(o11 o12:Option V),B0 G2 G/\σ=[some (.ref a),some (.ref ln),some (.ref lr),some (.int r),some (.ref lh),some (.ref lo),some (.ref x),some (.ref y),q8,o9,some (.ref xs),o11,o12,none,none]) ⟨_,_,B0.refl _,rfl⟩ (fun i σ G _ ⟨_,_,g,_⟩=>SqL.of (g _ _ e2)) ?_ ?_⟩
  ·rintro j v σ G hj ⟨o11,o12,g,rfl⟩
   obtain⟨l,uc,RC,rfl,eC,tC,mC,c60,cw,fC⟩:=cou j v hj
   have c0:=c2.trans g
   have luc:uc.length=RC.length:=by rw[tC.length,b9]
   refine(rdI rfl (rdI rfl ⟨(by show 1≤sizeLine;decide),fun l0 hl0=>(ex4 lh l0 _ _ ⟨rfl,rfl,z01 hl0 _ _ _ (c0 _ _ eHD),z03,?_,fun lc hlc=>?_⟩)⟩))
   ·rw[b9]
    exact dX (z0f (by show hs.length+1≤1000;lia))
   have sX:=(z01 hl0 (.lst [V.int 0])).trans (z01 hlc (.lst (hs.map V.int++[V.int 0])))
   have ex:upd (upd G l0 (.lst [V.int 0])) lc (.lst (hs.map V.int++[V.int 0])) lc=some (.lst ((hs++[0]).map V.int)):=by
    rw[z03,bF]
    rfl
   generalize upd (upd G l0 (.lst [V.int 0])) lc (.lst (hs.map V.int++[V.int 0]))=G1 at sX ex
   refine(ex2 lc (hs++[0]) ⟨rfl,.inl (SqL.of ex),by simp,fun mx hmx top=>?_⟩)
   have:=y8r it h60 hmx top
   subst this
   have c1:=c0.trans sX
   refine(rdI rfl (ex2 l uc ⟨rfl,SqL.of (c1 _ _ eC),fun lq hlq=>?_⟩))
   rw[y2j (by lia)]
   have sq:=z01 hlq (.lst (uc.take m))
   have eq:upd G1 lq (.lst (uc.take m)) lq=some (.lst (uc.take m)):=z03
   generalize upd G1 lq (.lst (uc.take m))=G3 at sq eq
   have c3:=c1.trans sq
   have tC3:=z08.keep c3 _ _ tC
   have lt:(uc.take m).length=m:=by rw[bG];lia
   refine⟨lq,rfl,⟨_,SqL.of eq⟩,?_⟩
   refine z32 (xs:=uc.take m) (fun i ys G=>B0 G3 G/\z08 G ((((RC.take m).map z0x).take i).map L4) ys) ⟨B0.refl _,.nil⟩ (fun i ys G hi hp=>?_) (fun i u ys G hu hp=>?_) (fun ys G4 hp=>?_)
   ·obtain⟨gG,th⟩:=hp
    have:=th.length
    rw[b9,bG] at this
    exact⟨SqL.of (gG _ _ eq),z0f (by lia)⟩
   ·obtain⟨gG,th⟩:=hp
    have hi:i<m:=by
     have:=(bV.mp hu).1
     lia
    rw[eB hi] at hu
    obtain⟨d,ed,td⟩:=(z08.keep gG _ _ tC3).at i u hu
    rw[bC] at ed
    obtain⟨wr,ew,rfl⟩:=bU.mp ed
    have hw:=bP ew
    obtain⟨ar,xs,rfl,er,_,tp⟩:=z0d td
    have lx:xs.length=wr.length:=by rw[tp.length,b9]
    have w12:=cw wr hw
    refine(rdI rfl ⟨ar,rfl,⟨_,SqT.of er⟩,?_⟩)
    refine z1n (xs:=xs) (fun j ys2 H2=>H2=G/\ys2=((z0x wr).take j).map V.str) ⟨rfl,rfl⟩ (fun j ys2 H2 hj hp=>?_) (fun j y2 ys2 H2 hy hp=>?_) (fun ys2 H2 hp=>?_)
    ·obtain⟨rfl,rfl⟩:=hp
     refine⟨SqT.of er,z0f ?_⟩
     rw[b9,bG]
     lia
    ·obtain⟨rfl,rfl⟩:=hp
     obtain⟨pq,b,e1',rfl,e2'⟩:=z1R tp j y2 hy
     refine(rdI rfl (ex4 b _ 0 _ ⟨rfl,rfl,SqT.of e2',rfl,rfl,?_⟩))
     have e3:(z0x wr)[j]? = some pq.1:=by
      unfold z0x
      rw[bC,e1']
      rfl
     rw[z0n e3,bF]
     rfl
    obtain⟨rfl,rfl⟩:=hp
    have ll:(z0x wr).take xs.length=z0x wr:=cO (by unfold z0x;rw[b9];lia)
    rw[ll]
    intro D hD
    refine(ex2 D _ ⟨rfl,.inl ⟨SqL.of z03,fun t ht=>?_⟩⟩)
    have sT:=(z01 hD (.lst ((z0x wr).map V.str))).trans (z01 ht (.tup ((z0x wr).map V.str)))
    have lw:(z0x wr).length≤12:=by
     unfold z0x
     rw[b9]
     exact w12
    have eT:upd (upd H2 D (.lst ((z0x wr).map V.str))) t (.tup ((z0x wr).map V.str)) t=some (.tup ((z0x wr).map V.str)):=z03
    generalize upd (upd H2 D (.lst ((z0x wr).map V.str))) t (.tup ((z0x wr).map V.str))=H5 at sT eT
    refine⟨gG.trans sT,?_⟩
    have e4:((RC.take m).map z0x)[i]? = some (z0x wr):=by
     rw[bC,eB hi,ew]
     rfl
    rw[z0n e4,bF]
    exact(z08.keep sT _ _ th).snoc (z0q eT (by rw[b9];lia) (z20 _))
   obtain⟨gG,th⟩:=hp
   rw[lt,cO (by rw[b9,bG];lia)] at th
   intro D hD
   refine(ex2 D _ ⟨rfl,.inl ⟨SqL.of z03,fun t ht=>?_⟩⟩)
   have sT:=(z01 hD (.lst ys)).trans (z01 ht (.tup ys))
   have eT:upd (upd G4 D (.lst ys)) t (.tup ys) t=some (.tup ys):=z03
   generalize upd (upd G4 D (.lst ys)) t (.tup ys)=G5 at sT eT
   have c5:=c3.trans (gG.trans sT)
   have gg:=g.trans (sX.trans (sq.trans (gG.trans sT)))
   have itd:z3Q hd m:=it.same hdm
   have ehd:z0a hd=hs:=z6s rise h60 hdm
   refine(rdI rfl (rdI rfl (ex9 xs (.ref t) fs nm r RS hd m ((RC.take m).map z0x) ⟨rfl,OS.same sh c5,gn,RR,rs60,hdr,r0,by lia,itd,z0q eT (by rw[b9,b9,bG];lia) (z08.keep sT _ _ th),fun _ G6 g6=>?_,fun hn=>?_⟩)))
   ·exact(ex2 _ _ ⟨rfl,.inl ⟨rfl,rfl⟩,fun G7 g7=>(rdI rfl (B8 ⟨_,_,gg.trans (g6.trans g7),rfl⟩))⟩)
   ·rw[ehd,<- agr.known] at hn
    exact absurd fC hn
  ·rintro σ G ⟨o11,o12,g,rfl⟩
   exact⟨_,_,_,c2.trans g,rfl⟩
 ·rintro σ G ⟨o10,o11,o12,g,rfl⟩
  refine(rdI rfl ⟨ln,rfl,⟨_,SqL.of (g _ _ eND)⟩,z1g (K:=K) (a:=ln) (xs:=nm.map V.str) (fun _ σ G=>∃(o13 o14:Option V),B0 HD G/\σ=[some (.ref a),some (.ref ln),some (.ref lr),some (.int r),some (.ref lh),some (.ref lo),some (.ref x),some (.ref y),q8,o9,o10,o11,o12,o13,o14]) ⟨_,_,g,rfl⟩ (fun i σ G _ ⟨_,_,g,_⟩=>SqL.of (g _ _ eND)) ?_ ?_⟩)
  ·rintro i u σ G hy ⟨o13,o14,g,rfl⟩
   rw[bC] at hy
   obtain⟨z,ez,rfl⟩:=bU.mp hy
   have hz:=bP ez
   have bkG:=O.same bkD g
   obtain⟨d3,g3,z3,w3⟩:=O.ins bkG
   refine(rdI rfl (ex3 x d3 g3 ⟨rfl,z3,w3 _ (by simp),(ex9 x fp nm r 2 rows _ 1 none ⟨rfl,bkG,by decide,by decide,(fun d h=>by cases h),fun x7 f7 G1 fn7 g1 sh7=>?_⟩)⟩))
   rw[show log1.take (Option.getD none log1.length)=log1 from bT] at sh7
   refine(rdI rfl (ex7 x7 z f7 nm r rows _ ⟨rfl,sh7,hz,gn,R,r60,w0b,r0,by lia,fun G2 g2=>?_⟩))
   refine(rdI rfl (rdI rfl (rdI rfl (B8 ?_))))
   have c2:=g.trans (g1.trans g2)
   have bqG:=O.same bqD c2
   obtain⟨d4,g4,z4,w4⟩:=O.ins bqG
   refine(rdI rfl (ex3 y d4 g4 ⟨rfl,z4,w4 _ (by simp),(ex9 y fq nm r 2 C6 _ 1 none ⟨rfl,bqG,by decide,by decide,(fun d h=>by cases h),fun x8 f8 G3 fn8 g3 sh8=>?_⟩)⟩))
   rw[show log2.take (Option.getD none log2.length)=log2 from bT] at sh8
   refine(rdI rfl (ex7 x8 z f8 nm r C6 _ ⟨rfl,sh8,hz,gn,al.R,by lia,w07,r0,by lia,fun G4 g4=>?_⟩))
   rw[z6s rise h60 gm1,z6s rise h60 gm2,ag.agc]
   exact(rdI rfl (ex2 _ _ ⟨rfl,.inl ⟨rfl,rfl⟩,fun G5 g5=>(rdI rfl (B8 ⟨_,_,c2.trans (g3.trans (g4.trans g5)),rfl⟩))⟩))
  ·rintro σ G ⟨o13,o14,g,rfl⟩
   exact q _
end
theorem y8P{l:PySem.W.OpenLaw}{w:World}{K:PySem.W.Frag}{h:Heap}{mg:Str->Option Value}{fa:Addr}(X:K.In h)(G:h.Ns mainGlobals mg)(hfa:mg "law"=some (.ref fa))
  {f0 f1 f2 f3 f4 f5 f6 f7 f8 f9 f10 f11 f12 f13 f14 f15 f16 f17 f18 f19 f20 f21 f22 f23 f24 f25 f26 f27 f28 f29 f30 f31 f32 f33 f34 f35 f36 f37 f38 f39 f40 f41 f42 f43 f44 f45 f46 f47 f48 f49 f50 f51 f52 f53 f54 f55 f56 f57 f58 f59 f60 f61 f62 f63 f64 f65 f66 f67 f68 f69 f70 f71 f72 f73 f74 f75 f76 f77 f78 f79 f80 f81 f82 f83 f84 A6 A0 B1 T43 T53:Addr}{V4 V7 T4 V5 T7 U9 w1f w0H w1o w0h Y8:Tok}
  (cOffice:DfC K "Office" A6)
  (cShelf:DfC K "Shelf" A0)
  (cBook:DfC K "Book" B1)
  (nOffice_names:PySem.W.findIn K (.ref A6) "names"=some none)
  (nOffice_reach:PySem.W.findIn K (.ref A6) "reach"=some none)
  (nOffice_written:PySem.W.findIn K (.ref A6) "written"=some none)
  (nShelf_names:PySem.W.findIn K (.ref A0) "names"=some none)
  (nShelf_reach:PySem.W.findIn K (.ref A0) "reach"=some none)
  (nShelf_issues:PySem.W.findIn K (.ref A0) "issues"=some none)
  (nBook_office:PySem.W.findIn K (.ref B1) "office"=some none)
  (nBook_readers:PySem.W.findIn K (.ref B1) "readers"=some none)
  (nBook_done:PySem.W.findIn K (.ref B1) "done"=some none)
  (a0:DfT K "lacking_numbers" z2R .none f0)
  (a1:DfT K "reached_by" z5P .none f1)
  (a2:DfT K "teller_of" z77 .none f2)
  (a3:DfT K "lacking_with_tellers" z1S .none f3)
  (a4:DfT K "dark_numbers" z42 .none f4)
  (a5:DfT K "dark_numbers_behind" z26 .none f5)
  (a6:DfT K "refuse_bad_names" z2v .none f6)
  (a7:DfT K "refuse_bad_reach" z2s .none f7)
  (a8:DfT K "bulletin_names" z2W .none f8)
  (a9:DfT K "refuse_unknown_name" z27 .none f9)
  (a10:DfT K "held_for" z8N .none f10)
  (a11:DfT K "names_told_of" z3D .none f11)
  (a12:DfT K "gaps_of" y00 .none f12)
  (a13:DfT K "set_again" z76 .none f13)
  (a14:DfT K "state_of" z90 .none f14)
  (a15:DfT K "state_and_held" z31 .none f15)
  (a16:DfT K "knowledge" z6T .none f16)
  (a17:DfT K "tail_for" z8v .none f17)
  (a18:DfT K "refuse_bad_value" z2w .none f18)
  (a19:DfT K "refuse_bad_rows" z2L .none f19)
  (a20:DfT K "rows_in_order" z3C .none f20)
  (a21:DfT K "names_of_rows" z3I .none f21)
  (a22:DfM K A6 "__init__" "Office.__init__" z2M .none f22)
  (a23:DfM K A6 "refuse_writing" "Office.refuse_writing" z1G .none f23)
  (a24:DfM K A6 "write" "Office.write" z4b .none f24)
  (a25:DfM K A6 "latest" "Office.latest" z3H .none f25)
  (a26:DfM K A6 "issue" "Office.issue" z44 .none f26)
  (a27:DfM K A0 "__init__" "Shelf.__init__" z3f .none f27)
  (a28:DfM K A0 "put" "Shelf.put" z6J .none f28)
  (a29:DfM K A0 "had" "Shelf.had" z6X .none f29)
  (a30:DfM K A0 "latest" "Shelf.latest" z4h .none f30)
  (a31:DfM K A0 "rows_of" "Shelf.rows_of" z3y .none f31)
  (a32:DfM K A0 "tail_of" "Shelf.tail_of" z3x .none f32)
  (a33:DfT K "refuse_bad_readers" z2d .none f33)
  (a34:DfM K B1 "__init__" "Book.__init__" z3z .none f34)
  (a35:DfM K B1 "refuse_unknown_reader" "Book.refuse_unknown_reader" z1c .none f35)
  (a36:DfM K B1 "refuse_further_deed" "Book.refuse_further_deed" z1r .none f36)
  (a37:DfM K B1 "write" "Book.write" z5Z .none f37)
  (a38:DfM K B1 "deliver" "Book.deliver" z4f .none f38)
  (a39:DfM K B1 "latest" "Book.latest" z4X .none f39)
  (a40:DfM K B1 "issue" "Book.issue" z5X .none f40)
  (a41:DfM K B1 "deeds" "Book.deeds" z5R .none f41)
  (a42:DfM K B1 "deed" "Book.deed" z6G .none f42)
  (a43:DfM K B1 "shelf" "Book.shelf" z5Y (.ref T43) f43)
  (a44:DfT K "known_sets" z5K .none f44)
  (a45:DfT K "is_choice" z6H .none f45)
  (a46:DfT K "may_stand" z6I .none f46)
  (a47:DfT K "fits" y7o .none f47)
  (a48:DfT K "two_to_the" z61 .none f48)
  (a49:DfT K "course_count" z4j .none f49)
  (a50:DfT K "again_count" z4A .none f50)
  (a51:DfT K "two_courses" z4B .none f51)
  (a52:DfT K "fewest_numbers" z35 .none f52)
  (a53:DfT K "send_for" z8u (.ref T53) f53)
  (a54:DfT K "_law_at" y0a .none f54)
  (a55:DfT K "_law_pick" z71 .none f55)
  (a56:DfT K "_law_row" z8U .none f56)
  (a57:DfT K "_law_whole" z5F .none f57)
  (a58:DfT K "_law_same" z59 .none f58)
  (a59:DfT K "_law_named" z67 .none f59)
  (a60:DfT K "_law_doubled" z49 .none f60)
  (a61:DfT K "_law_sets" z6M .none f61)
  (a62:DfT K "_law_value" z65 .none f62)
  (a63:DfT K "_law_valued" z4Y .none f63)
  (a64:DfT K "_law_had" z88 .none f64)
  (a65:DfT K "_law_shuffled" z3t .none f65)
  (a66:DfT K "_law_issue" z5N .none f66)
  (a67:DfT K "_law_teller" z4U .none f67)
  (a68:DfT K "_law_gaps" z74 .none f68)
  (a69:DfT K "_law_held" z6V .none f69)
  (a70:DfT K "_law_again" z62 .none f70)
  (a71:DfT K "_law_state" z60 .none f71)
  (a72:DfT K "_law_table" z5G .none f72)
  (a73:DfT K "_law_dark" z79 .none f73)
  (a74:DfT K "_law_known" z5I .none f74)
  (a75:DfT K "_law_course" z4H .none f75)
  (a76:DfT K "_law_in_course" z3a .none f76)
  (a77:DfT K "_law_plan" z6O .none f77)
  (a78:DfT K "_law_numbers" z43 .none f78)
  (a79:DfT K "_law_names" z66 .none f79)
  (a80:DfT K "_law_name_told" z36 .none f80)
  (a81:DfT K "_law_all_told" z3u .none f81)
  (a82:DfT K "_law_second" z4W .none f82)
  (a83:DfT K "_law_written" z46 .none f83)
  (a84:DfT K "law" w0I .none f84)
  (d43:DfD K T43 #[Value.none])
  (d53:DfD K T53 #[Value.none])
  (zlen:PySem.W.nsIn K mainGlobals "len"=some none) (zrange:PySem.W.nsIn K mainGlobals "range"=some none) (ztuple:PySem.W.nsIn K mainGlobals "tuple"=some none) (zlist:PySem.W.nsIn K mainGlobals "list"=some none) (zmax:PySem.W.nsIn K mainGlobals "max"=some none) (zmin:PySem.W.nsIn K mainGlobals "min"=some none) (zsorted:PySem.W.nsIn K mainGlobals "sorted"=some none) (zisinstance:PySem.W.nsIn K mainGlobals "isinstance"=some none) (zbool:PySem.W.nsIn K mainGlobals "bool"=some none) (zint:PySem.W.nsIn K mainGlobals "int"=some none) (zstr:PySem.W.nsIn K mainGlobals "str"=some none) (zset:PySem.W.nsIn K mainGlobals "set"=some none) (zreversed:PySem.W.nsIn K mainGlobals "reversed"=some none) (zdict:PySem.W.nsIn K mainGlobals "dict"=some none) (zzip:PySem.W.nsIn K mainGlobals "zip"=some none) (zall:PySem.W.nsIn K mainGlobals "all"=some none) (vMOST_NAMES:PySem.W.nsIn K mainGlobals "MOST_NAMES"=some (some (.int 12 V4))) (vMOST_REACH:PySem.W.nsIn K mainGlobals "MOST_REACH"=some (some (.int 10 V7))) (vMOST_NUMBERS:PySem.W.nsIn K mainGlobals "MOST_NUMBERS"=some (some (.int 60 T4))) (vMOST_VALUE:PySem.W.nsIn K mainGlobals "MOST_VALUE"=some (some (.int 1000000 V5))) (vMOST_READERS:PySem.W.nsIn K mainGlobals "MOST_READERS"=some (some (.int 10 T7))) (vMOST_DEEDS:PySem.W.nsIn K mainGlobals "MOST_DEEDS"=some (some (.int 400 U9))) (vSURE:PySem.W.nsIn K mainGlobals "SURE"=some (some (.str "sure" w1f))) (vSTALE:PySem.W.nsIn K mainGlobals "STALE"=some (some (.str "stale" w0H))) (vOPEN:PySem.W.nsIn K mainGlobals "OPEN"=some (some (.str "open" w1o))) (vWRITE:PySem.W.nsIn K mainGlobals "WRITE"=some (some (.str "write" w0h))) (vDELIVER:PySem.W.nsIn K mainGlobals "DELIVER"=some (some (.str "deliver" Y8))) :
  ∃fd:FuncData,(∀(s:Shared) (v:Value),BindsTo s fd ⟨[v],[]⟩ [("_law_script",v)])/\∀base:Heap,K.In base->base.Ns mainGlobals mg->B4 l.prog w K mg base CX0 14 fa fd ["_law_script"] (y5K K):=by
 have M:Bl mg:=⟨cV X G zlen,cV X G zrange,cV X G ztuple,cV X G zlist,cV X G zmax,cV X G zmin,cV X G zsorted,cV X G zisinstance,cV X G zbool,cV X G zint,cV X G zstr,cV X G zset,cV X G zreversed,cV X G zdict,cV X G zzip,cV X G zall,⟨_,dF X G vMOST_NAMES⟩,⟨_,dF X G vMOST_REACH⟩,⟨_,dF X G vMOST_NUMBERS⟩,⟨_,dF X G vMOST_VALUE⟩,⟨_,dF X G vMOST_READERS⟩,⟨_,dF X G vMOST_DEEDS⟩,⟨_,dF X G vSURE⟩,⟨_,dF X G vSTALE⟩,⟨_,dF X G vOPEN⟩,⟨_,dF X G vWRITE⟩,⟨_,dF X G vDELIVER⟩⟩
 have F3:L6 K mg A6:=⟨cOffice.cls,cOffice.nm X G,nOffice_names,nOffice_reach,nOffice_written⟩
 have D3:D4 K mg A0:=⟨cShelf.cls,cShelf.nm X G,nShelf_names,nShelf_reach,nShelf_issues⟩
 have E9:L8 K mg B1:=⟨cBook.cls,cBook.nm X G,nBook_office,nBook_readers,nBook_done⟩
 obtain⟨_,Flacking_numbers⟩:=z0z X G a0
 obtain⟨_,Freached_by⟩:=z0z X G a1
 obtain⟨_,Fteller_of⟩:=z0z X G a2
 obtain⟨_,Flacking_with_tellers⟩:=z0z X G a3
 obtain⟨_,Fdark_numbers⟩:=z0z X G a4
 obtain⟨_,Fdark_numbers_behind⟩:=z0z X G a5
 obtain⟨_,Frefuse_bad_names⟩:=z0z X G a6
 obtain⟨_,Frefuse_bad_reach⟩:=z0z X G a7
 obtain⟨_,Fbulletin_names⟩:=z0z X G a8
 obtain⟨_,Frefuse_unknown_name⟩:=z0z X G a9
 obtain⟨_,Fheld_for⟩:=z0z X G a10
 obtain⟨_,Fnames_told_of⟩:=z0z X G a11
 obtain⟨_,Fgaps_of⟩:=z0z X G a12
 obtain⟨_,Fset_again⟩:=z0z X G a13
 obtain⟨_,Fstate_of⟩:=z0z X G a14
 obtain⟨_,Fstate_and_held⟩:=z0z X G a15
 obtain⟨_,Fknowledge⟩:=z0z X G a16
 obtain⟨_,Ftail_for⟩:=z0z X G a17
 obtain⟨_,Frefuse_bad_value⟩:=z0z X G a18
 obtain⟨_,Frefuse_bad_rows⟩:=z0z X G a19
 obtain⟨_,Frows_in_order⟩:=z0z X G a20
 obtain⟨_,Fnames_of_rows⟩:=z0z X G a21
 obtain⟨_,FOffice___init__⟩:=y1g cOffice a22
 obtain⟨_,FOffice_refuse_writing⟩:=z1T a23
 obtain⟨_,FOffice_write⟩:=z1T a24
 obtain⟨_,FOffice_latest⟩:=z1T a25
 obtain⟨_,FOffice_issue⟩:=z1T a26
 obtain⟨_,FShelf___init__⟩:=y1g cShelf a27
 obtain⟨_,FShelf_put⟩:=z1T a28
 obtain⟨_,FShelf_had⟩:=z1T a29
 obtain⟨_,FShelf_latest⟩:=z1T a30
 obtain⟨_,FShelf_rows_of⟩:=z1T a31
 obtain⟨_,FShelf_tail_of⟩:=z1T a32
 obtain⟨_,Frefuse_bad_readers⟩:=z0z X G a33
 obtain⟨_,FBook___init__⟩:=y1g cBook a34
 obtain⟨_,FBook_refuse_unknown_reader⟩:=z1T a35
 obtain⟨_,FBook_refuse_further_deed⟩:=z1T a36
 obtain⟨_,FBook_write⟩:=z1T a37
 obtain⟨_,FBook_deliver⟩:=z1T a38
 obtain⟨_,FBook_latest⟩:=z1T a39
 obtain⟨_,FBook_issue⟩:=z1T a40
 obtain⟨_,FBook_deeds⟩:=z1T a41
 obtain⟨_,FBook_deed⟩:=z1T a42
 obtain⟨_,FBook_shelf⟩:=y61 a43 d43
 have V2:=FBook_shelf.1.binds (ps:=["self","reader","deed"]) (ds:=[]) fun _ _ _ _ _ _ us hl=>w0n (p:=fun us=>∃k,bindArgs _ ⟨us,[]⟩=seqItems? _ >>= k/\k (some _)=pure (List.zip _ (us++[]))) hl fun _ _ _=>⟨_,rfl,rfl⟩
 have T8:=FBook_shelf.1.binds (ps:=["self","reader","deed"]) (ds:=[Value.none]) fun _ _ _ _ _ _ us hl=>w04 (p:=fun us=>∃k,bindArgs _ ⟨us,[]⟩=seqItems? _ >>= k/\k (some _)=pure (List.zip _ (us++[Value.none]))) (Nat.succ.inj (hl)) fun _ _=>⟨_,rfl,rfl⟩
 obtain⟨_,Fknown_sets⟩:=z0z X G a44
 obtain⟨_,Fis_choice⟩:=z0z X G a45
 obtain⟨_,Fmay_stand⟩:=z0z X G a46
 obtain⟨_,Ffits⟩:=z0z X G a47
 obtain⟨_,Ftwo_to_the⟩:=z0z X G a48
 obtain⟨_,Fcourse_count⟩:=z0z X G a49
 obtain⟨_,Fagain_count⟩:=z0z X G a50
 obtain⟨_,Ftwo_courses⟩:=z0z X G a51
 obtain⟨_,Ffewest_numbers⟩:=z0z X G a52
 obtain⟨_,Fsend_for⟩:=y7G X G a53 d53
 have Y0:=Fsend_for.1.binds (ps:=["shelf","name"]) (ds:=[]) fun _ _ _ _ _ _ us hl=>w04 (p:=fun us=>∃k,bindArgs _ ⟨us,[]⟩=seqItems? _ >>= k/\k (some _)=pure (List.zip _ (us++[]))) hl fun _ _=>⟨_,rfl,rfl⟩
 have W5:=Fsend_for.1.binds (ps:=["shelf","name"]) (ds:=[Value.none]) fun _ _ _ _ _ _ us hl=>Q5 (p:=fun us=>∃k,bindArgs _ ⟨us,[]⟩=seqItems? _ >>= k/\k (some _)=pure (List.zip _ (us++[Value.none]))) (Nat.succ.inj (hl)) fun _=>⟨_,rfl,rfl⟩
 obtain⟨_,F_law_at⟩:=z0z X G a54
 obtain⟨_,F_law_pick⟩:=z0z X G a55
 obtain⟨_,F_law_row⟩:=z0z X G a56
 obtain⟨_,F_law_whole⟩:=z0z X G a57
 obtain⟨_,F_law_same⟩:=z0z X G a58
 obtain⟨_,F_law_named⟩:=z0z X G a59
 obtain⟨_,F_law_doubled⟩:=z0z X G a60
 obtain⟨_,F_law_sets⟩:=z0z X G a61
 obtain⟨_,F_law_value⟩:=z0z X G a62
 obtain⟨_,F_law_valued⟩:=z0z X G a63
 obtain⟨_,F_law_had⟩:=z0z X G a64
 obtain⟨_,F_law_shuffled⟩:=z0z X G a65
 obtain⟨_,F_law_issue⟩:=z0z X G a66
 obtain⟨_,F_law_teller⟩:=z0z X G a67
 obtain⟨_,F_law_gaps⟩:=z0z X G a68
 obtain⟨_,F_law_held⟩:=z0z X G a69
 obtain⟨_,F_law_again⟩:=z0z X G a70
 obtain⟨_,F_law_state⟩:=z0z X G a71
 obtain⟨_,F_law_table⟩:=z0z X G a72
 obtain⟨_,F_law_dark⟩:=z0z X G a73
 obtain⟨_,F_law_known⟩:=z0z X G a74
 obtain⟨_,F_law_course⟩:=z0z X G a75
 obtain⟨_,F_law_in_course⟩:=z0z X G a76
 obtain⟨_,F_law_plan⟩:=z0z X G a77
 obtain⟨_,F_law_numbers⟩:=z0z X G a78
 obtain⟨_,F_law_names⟩:=z0z X G a79
 obtain⟨_,F_law_name_told⟩:=z0z X G a80
 obtain⟨_,F_law_all_told⟩:=z0z X G a81
 obtain⟨_,F_law_second⟩:=z0z X G a82
 obtain⟨_,F_law_written⟩:=z0z X G a83
 obtain⟨_,Flaw⟩:=z0z X G a84
 have e:=hfa.symm.trans Flaw.2
 cases e
 refine⟨_,y5n Flaw.1,fun base _ _=>?_⟩
 have W9:=y1V (P:=l.prog) (w:=w) (base:=base) M F_law_same.1 (b2 F_law_same.1) F_law_same.2
 have cal:=@calF l.prog w K mg base
 have mcl:=@mclF l.prog w K mg base
 have mkr:=@mkrF l.prog w K mg base
 have C9:=cal F_law_at (w1D M F_law_at.1) (b2 F_law_at.1)
 have E3:=cal F_law_pick (y7r F_law_pick.1) (b2 F_law_pick.1)
 have D1:=cal F_law_row (y8N M F_law_row.1) (b3 F_law_row.1)
 have C4:=cal F_law_teller (y2X M F_law_teller.1) (b3 F_law_teller.1)
 have G0:=cal F_law_whole (y5A M F_law_whole.1) (b1 F_law_whole.1)
 have O6:=cal F_law_named (y5U M F_law_named.1) (b2 F_law_named.1)
 have E5:=cal F_law_doubled (y39 M F_law_doubled.1) (b1 F_law_doubled.1)
 have O3:=cal F_law_value (y5E F_law_value.1) (b2 F_law_value.1)
 have O1:=cal F_law_issue (y5Z M F_law_issue.1) (b3 F_law_issue.1)
 have J4:=cal Frefuse_bad_names (y1M M Frefuse_bad_names.1) (b1 Frefuse_bad_names.1)
 have J2:=cal Frefuse_bad_reach (y1d M Frefuse_bad_reach.1) (b1 Frefuse_bad_reach.1)
 have N1:=mcl D3.cl FShelf_put (y8w (A0:=A0) M D3 FShelf_put.1) (b2 FShelf_put.1)
 have B3:=mcl D3.cl FShelf_had (y5F (A0:=A0) M D3 FShelf_had.1) (b1 FShelf_had.1)
 have K3:=cal F_law_held (y6j M F_law_held.1) (b3 F_law_held.1)
 have F9:=cal F_law_again (y5X M F_law_again.1) (b3 F_law_again.1)
 have O8:=cal Freached_by (y2M M Freached_by.1) (b2 Freached_by.1)
 have C5:=cal Frefuse_unknown_name (y8T M Frefuse_unknown_name.1) (b2 Frefuse_unknown_name.1)
 have J3:=cal Frefuse_bad_value (y3A M Frefuse_bad_value.1) (b1 Frefuse_bad_value.1)
 have L5:=cal Frows_in_order (y2H M Frows_in_order.1) (b2 Frows_in_order.1)
 have D8:=cal Fnames_of_rows (y6w M Fnames_of_rows.1) (b1 Fnames_of_rows.1)
 have L3:=mcl F3.cl FOffice_latest (y1e (A6:=A6) M F3 FOffice_latest.1) (b1 FOffice_latest.1)
 have C7:=mcl F3.cl FOffice_issue (y3f (A6:=A6) M F3 FOffice_issue.1) (b2 FOffice_issue.1)
 have F0:=cal Frefuse_bad_readers (z9U M Frefuse_bad_readers.1) (b1 Frefuse_bad_readers.1)
 have B5:=mcl E9.cl FBook_refuse_unknown_reader (y14 (B1:=B1) (A6:=A6) M E9 FBook_refuse_unknown_reader.1) (b2 FBook_refuse_unknown_reader.1)
 have B7:=mcl E9.cl FBook_refuse_further_deed (y33 (B1:=B1) (A6:=A6) M E9 FBook_refuse_further_deed.1) (b1 FBook_refuse_further_deed.1)
 have w05:=mcl E9.cl FBook_deeds (y3a (B1:=B1) (A6:=A6) M E9 FBook_deeds.1) (b1 FBook_deeds.1)
 have K0:=cal Flacking_numbers (y80 M Flacking_numbers.1) (b1 Flacking_numbers.1)
 have P4:=cal Fteller_of (y4S M Fteller_of.1) (b3 Fteller_of.1)
 have M3:=mcl D3.cl FShelf_tail_of (y4b (A0:=A0) M D3 FShelf_tail_of.1) (b2 FShelf_tail_of.1)
 have E1:=mcl D3.cl FShelf_rows_of (y5p (A0:=A0) M D3 FShelf_rows_of.1) (b2 FShelf_rows_of.1)
 have w0D:=mcl E9.cl FBook_deed (y5f (B1:=B1) (A6:=A6) M E9 FBook_deed.1) (b2 FBook_deed.1)
 have I0:=cal Ftwo_to_the (y8p M Ftwo_to_the.1) (b1 Ftwo_to_the.1)
 have L0:=cal F_law_course (y2J M F_law_course.1) (b3 F_law_course.1)
 have F5:=cal F_law_in_course (y0L M F_law_in_course.1) (b3 F_law_in_course.1)
 have P5:=cal Fis_choice (y3Q M Fis_choice.1) (b2 Fis_choice.1)
 have R4:=cal F_law_had (y8f M F_law_had.1 D1.up) (b2 F_law_had.1)
 have M1:=cal F_law_shuffled (y7z M F_law_shuffled.1 D1.up) (b2 F_law_shuffled.1)
 have J8:=cal F_law_sets (y7Y M F_law_sets.1 D1.up E5.up) (b3 F_law_sets.1)
 have E7:=cal F_law_valued (y3x M F_law_valued.1 D1.up O3.up) (b2 F_law_valued.1)
 have N9:=cal F_law_names (y6n F_law_names.1 C9.up E3.up O6.up) (b1 F_law_names.1)
 have D5:=cal Fbulletin_names (y1J M Fbulletin_names.1 J4.up J2.up) (b2 Fbulletin_names.1)
 have M6:=mcl D3.cl FShelf_latest (y3t (A0:=A0) M D3 FShelf_latest.1 B3.up) (b1 FShelf_latest.1)
 have K1:=cal F_law_gaps (y82 M F_law_gaps.1 C4.up) (b3 F_law_gaps.1)
 have D6:=cal F_law_state (y5c M F_law_state.1 F9.up) (b3 F_law_state.1)
 have R5:=cal Ftail_for (y7p M Ftail_for.1 O8.up) (b2 Ftail_for.1)
 have J5:=cal Frefuse_bad_rows (y2V M Frefuse_bad_rows.1 C5.up J3.up) (b2 Frefuse_bad_rows.1)
 have F2:=mcl E9.cl FBook_deliver (y0k (B1:=B1) (A6:=A6) M E9 FBook_deliver.1 C7.up B5.up B7.up) (b3 FBook_deliver.1)
 have C3:=cal Flacking_with_tellers (y8A M Flacking_with_tellers.1 K0.up P4.up) (b2 Flacking_with_tellers.1)
 have L7:=cal Fnames_told_of (y7B (A0:=A0) M D3 Fnames_told_of.1 M3.up) (b3 Fnames_told_of.1)
 have C1:=cal Fheld_for (y2T (A0:=A0) M D3 Fheld_for.1 C5.up B3.up E1.up) (b2 Fheld_for.1)
 have w03:=mcl E9.cl FBook_latest (y1x (B1:=B1) (A6:=A6) M E9 FBook_latest.1 L3.up) (b1 FBook_latest.1)
 have M5:=mcl E9.cl FBook_issue (y2I (B1:=B1) (A6:=A6) M E9 FBook_issue.1 C7.up) (b2 FBook_issue.1)
 have P7:=cal F_law_dark (y6h M F_law_dark.1 C4.up) (b2 F_law_dark.1)
 have O9:=cal F_law_known (y4g M F_law_known.1 C4.up) (b3 F_law_known.1)
 have P9:=cal Fmay_stand (y65 M Fmay_stand.1 P5.up) (b3 Fmay_stand.1)
 have M7:=cal F_law_numbers (y2N F_law_numbers.1 C9.up E3.up J8.up E7.up) (b2 F_law_numbers.1)
 have U0:=mkr D3.mgC FShelf___init__ (y3C (A0:=A0) M D3 FShelf___init__.1 D5.up) (b3 FShelf___init__.1)
 have O0:=cal F_law_table (y6l M F_law_table.1 K1.up K3.up D6.up) (b4 F_law_table.1)
 have U4:=mkr F3.mgC FOffice___init__ (y3H (A6:=A6) M F3 FOffice___init__.1 D5.up) (b3 FOffice___init__.1)
 have C2:=mcl F3.cl FOffice_refuse_writing (y30 (A6:=A6) M F3 FOffice_refuse_writing.1 J5.up) (b2 FOffice_refuse_writing.1)
 have D0:=cal Fdark_numbers (y7K M Fdark_numbers.1 C3.up) (b2 Fdark_numbers.1)
 have J1:=cal Fgaps_of (y4O (A0:=A0) M D3 Fgaps_of.1 B3.up C3.up L7.up) (b1 Fgaps_of.1)
 have Q0:=cal F_law_plan (y7c M F_law_plan.1 G0.up P7.up) (b4 F_law_plan.1)
 have N4:=cal F_law_second (y3T M F_law_second.1 C9.up J8.up E7.up C4.up) (b5 F_law_second.1)
 have M8:=mcl F3.cl FOffice_write (y37 (A6:=A6) M F3 FOffice_write.1 C2.up D8.up L5.up R5.up) (b2 FOffice_write.1)
 have Y4:=mkr E9.mgC FBook___init__ (y3o (B1:=B1) (A6:=A6) M E9 FBook___init__.1 U4.up F0.up) (b4 FBook___init__.1)
 have w0c:D9 l.prog w K mg base 6 B1 "shelf" z3g (z6f (BkD K B1 A6) (ShD K A0)):=.mk' E9.cl (z9i (B1:=B1) (A6:=A6) (A0:=A0) M E9 F3 FBook_shelf.1 C7.up B5.up U0.up N1.up) V2 FBook_shelf.2
 have E8:O2 l.prog w K mg base 6 B1 "shelf" z3g (z6f (BkD K B1 A6) (ShD K A0)) [V.non]:=.mk' (.cons rfl .nil) E9.cl (z9i (B1:=B1) (A6:=A6) (A0:=A0) M E9 F3 FBook_shelf.1 C7.up B5.up U0.up N1.up) T8 FBook_shelf.2
 have B6:=cal Fdark_numbers_behind (y5d M Fdark_numbers_behind.1 D0.up) (b3 Fdark_numbers_behind.1)
 have J9:=cal Fset_again (y1z (A0:=A0) M D3 Fset_again.1 C1.up J1.up) (b2 Fset_again.1)
 have E4:=cal Fcourse_count (y5G (A0:=A0) M D3 Fcourse_count.1 B3.up D0.up I0.up) (b1 Fcourse_count.1)
 have F8:=cal Fknown_sets (y6o (A0:=A0) M Fknown_sets.1 B3.up E1.up D8.up J1.up) (b1 Fknown_sets.1)
 have O7:=mcl E9.cl FBook_write (y2O (B1:=B1) (A6:=A6) M E9 FBook_write.1 C2.up M8.up B7.up) (b2 FBook_write.1)
 have C8:=cal Fstate_of (y3h (A0:=A0) M D3 Fstate_of.1 C1.up J9.up B3.up B6.up) (b2 Fstate_of.1)
 have F4:=cal Ffewest_numbers (y4K M Ffewest_numbers.1 B6.up) (b3 Ffewest_numbers.1)
 have Z3:=cal Ffits (y84 (A0:=A0) M D3 Ffits.1 F8.up P9.up) (b2 Ffits.1)
 have K7:=cal Fstate_and_held (y0q (A0:=A0) M Fstate_and_held.1 C1.up C8.up) (b2 Fstate_and_held.1)
 have w0K:Cal l.prog w K mg base 6 "send_for" z4I (z6C (ShD K A0)):=.mk' (z9n (A0:=A0) M D3 Fsend_for.1 C1.up C8.up B3.up F4.up) Y0 Fsend_for.1.kp Fsend_for.2
 have P6:S6 l.prog w K mg base 6 "send_for" z4I (z6C (ShD K A0)) [V.non]:=.mk' (.cons rfl .nil) (z9n (A0:=A0) M D3 Fsend_for.1 C1.up C8.up B3.up F4.up) W5 Fsend_for.1.kp Fsend_for.2
 have K9:=cal Fagain_count (y5m (A0:=A0) M D3 Fagain_count.1 C1.up C8.up B3.up E4.up I0.up B6.up) (b2 Fagain_count.1)
 have N2:=cal Ftwo_courses (z99 (A0:=A0) M D3 Ftwo_courses.1 C8.up F8.up B3.up D0.up) (b2 Ftwo_courses.1)
 have K4:=cal F_law_written (y2C (B1:=B1) (Bk:=(BkD K B1 A6)) M F_law_written.1 Z7 Y4.up O7.up) (b3 F_law_written.1)
 have Q1:=cal Fknowledge (y0x (A0:=A0) M D3 Fknowledge.1 K7.up) (b1 Fknowledge.1)
 have K6:=cal F_law_name_told (y1k (Sh:=(ShD K A0)) M F_law_name_told.1 F1.same (W9 5) D6.up F9.up L0.up F5.up C1.up J9.up C8.up N2.up) (b6 F_law_name_told.1)
 have M4:=cal F_law_all_told (y3k (A0:=A0) (Sh:=(ShD K A0)) M F_law_all_told.1 F1 (W9 5) K1.up O9.up O0.up E5.up K3.up D6.up K6.up Q0.up B3.up M6.up J1.up Q1.up E4.up P6.up) (b5 F_law_all_told.1)
 exact y8F M Flaw.1 Z7 F1 C9.up E3.up N9.up M7.up R4.up M1.up (W9 6) G0.up O1.up N4.up K4.up M4.up K9.up Z3.up F2.up M5.up E8.up
theorem walk{l:PySem.W.OpenLaw}{q:Program}{loose:List Str}{XP:(Str->Option Value)->Heap->Prop}{YP:World->Heap->Prop}{d:DefRec}{K:Params->PySem.W.Frag}(hn:l.most=some 63)(hdf:d.params.defaults=[])
  (hY:∀(w:World) (h:Heap),YP w h->(K w.params).In h)
  (F:∀(w:World) (mg:Str->Option Value) (fa:Addr) (h:Heap),(K w.params).In h->h.Ns mainGlobals mg->mg d.name=some (.ref fa)->
   ∃fd:FuncData,(∀(s:Shared) (u:Value),BindsTo s fd ⟨[u],[]⟩ [("_law_script",u)])/\∀base:Heap,(K w.params).In base->base.Ns mainGlobals mg->B4 l.prog w (K w.params) mg base CX0 14 fa fd ["_law_script"] (y5K (K w.params))) :
  PySem.W.WalkO q loose XP YP l.row.toRowW d [] (fun f vs=>PySem.call f vs):=
 L2.y7e (n:=63) (k:=14) (x:="_law_script") (CX:=fun _=>CX0) (sp:=fun w=>y5K (K w.params)) hn (by decide) hdf ⟨rfl,by decide,by decide⟩ hY F (fun _ _ a ns hl _ hS=>⟨a,ns,rfl,hS,hl,fun _=>rfl⟩) fun _ _ _ _ _ z=>z
theorem w1l{q:Program}{loose:List Str}{XP:(Str->Option Value)->Heap->Prop}{r:PySem.W.RowW}{d:DefRec}{kwd:List (Str×Expr)}{run:Value->List Value->Sem Value}{K:Params->PySem.W.Frag}{ks:List Addr}{n t:Nat}(e:∀P,ks=(K P).map (·.1))
  (W:PySem.W.WalkO q loose XP (fun w h=>(K w.params).In h) r d kwd run):PySem.W.WalkX q loose XP (PySem.W.X.obsZ ks) (PySem.W.X.valZ K n t) r d kwd run:=
 fun w s₀ s₁ mg mb G y a o pm cd doc dV kV h1 h2 h3 h4 h5 h6 args vals as L g1 g2 g3 g4 g5=>W w s₀ s₁ mg mb G (PySem.W.InK.keeps w s₀.heap s₁.heap (PySem.W.X.z_facts e y).2.1 L.keeps) a o pm cd doc dV kV h1 h2 h3 h4 h5 h6 args vals as g1 g2 g3 g4 g5
end My
namespace PySem.W.Fast
def tw10035690153396216184:=()
def tw10087971835630840005:=()
def tw10106599881605599201:=()
def tw10108309983137763234:=()
def tw10113706022556533906:=()
def tw10139790788210934628:=()
def tw101955605477046937:=()
def tw1019857765106165249:=()
def tw10210706306293747000:=()
def tw10216149697820479957:=()
def tw10271977915090415172:=()
def tw10291926662067591719:=()
def tw10310154293682903755:=()
def tw10349618321549462858:=()
def tw10387702167009274330:=()
def tw10460607463912066353:=()
def tw10471535002091541342:=()
def tw10652842978917852353:=()
def tw1066599443369157479:=()
def tw10668461712637336667:=()
def tw10685258980481926045:=()
def tw10713787032637458941:=()
def tw10746466524162104224:=()
def tw10757051259284430593:=()
def tw10808604465664709175:=()
def tw10828791704793385381:=()
def tw10847327250346524809:=()
def tw1090703552199234490:=()
def tw10944574230130775432:=()
def tw10952409191325860283:=()
def tw11015105061165034088:=()
def tw1103291183187202579:=()
def tw11082976715731882961:=()
def tw11085539756948813104:=()
def tw11086072554268014299:=()
def tw1114548523583217627:=()
def tw11147777217447764407:=()
def tw11163245231892579177:=()
def tw11191921664153228984:=()
def tw11217700185681032495:=()
def tw11236224528073586770:=()
def tw11245634737805476277:=()
def tw11359793206409139756:=()
def tw11402469929486776682:=()
def tw11434515681442783103:=()
def tw11540081940419526334:=()
def tw11573262227269880520:=()
def tw11581316876441545947:=()
def tw11617749089597464117:=()
def tw11629675369367511998:=()
def tw1167755055033545801:=()
def tw116850201947977003:=()
def tw11693587442302080379:=()
def tw11705328201860008555:=()
def tw1174277496360701951:=()
def tw1175194862021050195:=()
def tw11785290803373744857:=()
def tw11793735792280981035:=()
def tw11805022783635739311:=()
def tw11842628755644810206:=()
def tw11938908797287181171:=()
def tw11979095156953673311:=()
def tw12045007728148579841:=()
def tw12065768066871185483:=()
def tw12080549099310354282:=()
def tw12089138704498660423:=()
def tw12106367515116580580:=()
def tw12113034693983899987:=()
def tw12184015879903917329:=()
def tw12189944877931101196:=()
def tw12227757826414130076:=()
def tw12264829528796160182:=()
def tw12284384999367299129:=()
def tw12306703895163070190:=()
def tw12309617329254225126:=()
def tw12408667627868745059:=()
def tw12423686339088178651:=()
def tw12427611826690471937:=()
def tw12454648996285632932:=()
def tw12502452168228375920:=()
def tw12510358712177151712:=()
def tw12543530361229693516:=()
def tw12573305496232829079:=()
def tw12575181088973492885:=()
def tw12616955456482346278:=()
def tw12646970556440923721:=()
def tw1266543278399867457:=()
def tw12705944333806355036:=()
def tw12733424994575026075:=()
def tw12807400258134334860:=()
def tw12827095446470915459:=()
def tw12863769869307019487:=()
def tw12897350988149576895:=()
def tw12980600925771806159:=()
def tw12986954234191988900:=()
def tw13085479019845840791:=()
def tw13104654686058567311:=()
def tw13113711496780467558:=()
def tw13151800884618025976:=()
def tw13277465479760362831:=()
def tw13289015841870619197:=()
def tw1338793115821956113:=()
def tw13396774887211450225:=()
def tw13403692832048087935:=()
def tw13426816233449198656:=()
def tw13430923185781308206:=()
def tw13570420921305161531:=()
def tw13781264400059599216:=()
def tw13862992452712618038:=()
def tw13925202474931705196:=()
def tw13933562765900018050:=()
def tw13940348682431278240:=()
def tw13972929605967398886:=()
def tw13981417549335356855:=()
def tw14020604742893510115:=()
def tw14045628967147183833:=()
def tw1409539476755799790:=()
def tw14111106358030237181:=()
def tw14135324737174685873:=()
def tw14147030103042990841:=()
def tw14162892367251670955:=()
def tw1417867319259881325:=()
def tw14187659236865948977:=()
def tw14308693125620987517:=()
def tw14329852138292988646:=()
def tw14375333107462945147:=()
def tw14412985785877078392:=()
def tw14520384275877719718:=()
def tw14526529747421107594:=()
def tw14532201620110275626:=()
def tw14565235373832175625:=()
def tw14573841965836233963:=()
def tw14577233196277723376:=()
def tw14589811107885125645:=()
def tw14639642525787309503:=()
def tw14645934066586605100:=()
def tw14714245675393310436:=()
def tw14719695614213754767:=()
def tw14743509822586480593:=()
def tw14772438356674980862:=()
def tw1479566304819404174:=()
def tw14880976979510991144:=()
def tw14972603073700524568:=()
def tw149829682685392234:=()
def tw15113114824436320500:=()
def tw15137638713036696415:=()
def tw15150739021951798415:=()
def tw15166322657692931036:=()
def tw15172227081758957075:=()
def tw15193490047527947695:=()
def tw15200739297764906235:=()
def tw15205839914309396299:=()
def tw15241219820495976606:=()
def tw15274939414524943613:=()
def tw15290818975283681620:=()
def tw15315756424527789272:=()
def tw15324436496342019758:=()
def tw15331373954066028927:=()
def tw15356745953527879194:=()
def tw15364366303797136289:=()
def tw15456259176619413483:=()
def tw15466041250125475430:=()
def tw15508402080145718607:=()
def tw15524555248875519524:=()
def tw15583463608977407036:=()
def tw15585242209965386220:=()
def tw15645121327647667387:=()
def tw15654078120284573231:=()
def tw15696144008404153308:=()
def tw15731958704912054990:=()
def tw15783672624992178550:=()
def tw15799822283917382142:=()
def tw15811938012331447154:=()
def tw15837818475727602462:=()
def tw15887956316384717086:=()
def tw15900485025602649853:=()
def tw15917910121140857475:=()
def tw15921068467906890362:=()
def tw15934419030012080724:=()
def tw15934953985688377289:=()
def tw15951163163492898456:=()
def tw15952073523778652586:=()
def tw16048786262409742428:=()
def tw16061886333407869788:=()
def tw16209534833381286990:=()
def tw16266516457984610149:=()
def tw16272991455141746972:=()
def tw16306116946018467547:=()
def tw16378863414647394661:=()
def tw16388055945309916074:=()
def tw16463401829150696873:=()
def tw16569194671366213419:=()
def tw1659197007412663887:=()
def tw16606375344333877850:=()
def tw16633713088020695056:=()
def tw16648073346088383496:=()
def tw16651395273533657509:=()
def tw16745580974765526244:=()
def tw16809456575491124067:=()
def tw16857469418441369166:=()
def tw16910588895289336467:=()
def tw1691099114003857025:=()
def tw16962129744287183849:=()
def tw16963000701215315694:=()
def tw17042123552402533769:=()
def tw17051149506510209613:=()
def tw17071936619468788454:=()
def tw17105641398185608054:=()
def tw17191427486986084924:=()
def tw17210745977711093927:=()
def tw1723391500202540056:=()
def tw17243406470780023142:=()
def tw17263659856861485079:=()
def tw17270575260355337421:=()
def tw17295706945710321914:=()
def tw17360757969663824565:=()
def tw17457872071369041690:=()
def tw17466662381923605203:=()
def tw17480249688978240403:=()
def tw17490624502123768876:=()
def tw17496175566079962183:=()
def tw17541855804004409795:=()
def tw17549265626546416898:=()
def tw17564334450445486487:=()
def tw17726138050265091470:=()
def tw1773669151930034396:=()
def tw17742806488994763509:=()
def tw17775562223567478882:=()
def tw17796841027761722078:=()
def tw17845246209135248239:=()
def tw17860452833306895938:=()
def tw17887895588177473276:=()
def tw17898405389301985470:=()
def tw17918669219768469117:=()
def tw1806764069053623518:=()
def tw18104932992408047861:=()
def tw18110215723077579884:=()
def tw1813387066074273014:=()
def tw18149761771777790369:=()
def tw18163131105325958797:=()
def tw1817470111603137252:=()
def tw18175319090913264777:=()
def tw1823144208812159741:=()
def tw1840243224546375709:=()
def tw1846563844502750897:=()
def tw1857238301910206594:=()
def tw2033693277829895573:=()
def tw203641167836474213:=()
def tw2037201214074773539:=()
def tw2052308064830425040:=()
def tw2115587029222578935:=()
def tw2129581548334608341:=()
def tw2271759659847878317:=()
def tw2291152089051858186:=()
def tw22990702954605411:=()
def tw2303206864958371753:=()
def tw2310552430978356495:=()
def tw2326282561036997628:=()
def tw2340473060940003125:=()
def tw2342981812927085073:=()
def tw2392019622732449655:=()
def tw2401103912464698585:=()
def tw2433863392403576859:=()
def tw248291704560553236:=()
def tw2589463897564873656:=()
def tw2598581987407883993:=()
def tw2614462432808043093:=()
def tw2668881478757482835:=()
def tw2685047844362828483:=()
def tw2710235048284727155:=()
def tw2729671217683295625:=()
def tw2743001519412215215:=()
def tw2787634374901667431:=()
def tw2887624473301611749:=()
def tw2922766689777616817:=()
def tw2934402136966000328:=()
def tw3007530028005469319:=()
def tw3033925701228321771:=()
def tw3071736094812318943:=()
def tw3122484895881718416:=()
def tw3135055206224874104:=()
def tw3172186825293066273:=()
def tw3196441637124295423:=()
def tw3228832834120785597:=()
def tw3235818982815315871:=()
def tw3266666830133194973:=()
def tw3283681359226870333:=()
def tw3286670514012306912:=()
def tw3288685802176732595:=()
def tw328959445878012939:=()
def tw3398785567334906928:=()
def tw3414370755473105875:=()
def tw3416989847278519609:=()
def tw3469864149380253835:=()
def tw3548013343807442836:=()
def tw3558762774743299890:=()
def tw3597848595989138327:=()
def tw3632717776045153361:=()
def tw3664451711827387575:=()
def tw3666202673257742366:=()
def tw3669278431398703818:=()
def tw3682404368420097202:=()
def tw370390117217064164:=()
def tw3733140635955211871:=()
def tw3834699347091209376:=()
def tw3871891176183426170:=()
def tw3926313690381427511:=()
def tw392955620154476560:=()
def tw3991573580079209677:=()
def tw4006578459337583830:=()
def tw4068688774887923753:=()
def tw4111173007481992135:=()
def tw4111832593439150513:=()
def tw4125033698427703028:=()
def tw419482714974438706:=()
def tw4220914291778398195:=()
def tw4361043073402183213:=()
def tw4394104729321795921:=()
def tw4395143979462435756:=()
def tw4416911447767166108:=()
def tw4465559078707817236:=()
def tw4469682616741339748:=()
def tw4475788524177276771:=()
def tw4499764780032879779:=()
def tw4504876568926223880:=()
def tw4605382318239534731:=()
def tw4620433134970308912:=()
def tw466223199597135669:=()
def tw4684304721333409777:=()
def tw4746126306301477656:=()
def tw4770095055020955946:=()
def tw4785041609884776952:=()
def tw4837096768232854439:=()
def tw4877775505926964078:=()
def tw4922132071246092970:=()
def tw492837269962862438:=()
def tw4934748044726696722:=()
def tw4944488367061780699:=()
def tw4947579916606533974:=()
def tw5011348646333247980:=()
def tw5109170962781239546:=()
def tw5158238208927959223:=()
def tw5229196713602454226:=()
def tw5260179438943302810:=()
def tw5280723422497251876:=()
def tw5289152410422954176:=()
def tw5373794717704494959:=()
def tw5407686000960184370:=()
def tw543264936082340527:=()
def tw5522005329637465151:=()
def tw5543205100357479381:=()
def tw554339441839484918:=()
def tw5585933737337572357:=()
def tw5608453758432090744:=()
def tw5617696410996931946:=()
def tw564204966085014843:=()
def tw5647589890734830566:=()
def tw5681700883874496773:=()
def tw5683966850660698943:=()
def tw5701804270584776685:=()
def tw5765078301800097769:=()
def tw5780035707664542936:=()
def tw5793059348697198574:=()
def tw5813757324938261246:=()
def tw5838056272843056967:=()
def tw5879322137134888495:=()
def tw5966047322347606831:=()
def tw6008158817075439116:=()
def tw6071857458993445191:=()
def tw608000016616641760:=()
def tw6085169738687894335:=()
def tw6155512235916597530:=()
def tw6160265322184114006:=()
def tw6185922281696177147:=()
def tw6213531093404030504:=()
def tw6324393307045247884:=()
def tw639826922740803977:=()
def tw6402749341328045134:=()
def tw6437844228527996661:=()
def tw6453748425753511812:=()
def tw6480752524425807867:=()
def tw6539354999119652572:=()
def tw6568534732249600545:=()
def tw6667576964594712824:=()
def tw6687922602598320689:=()
def tw674108312952846919:=()
def tw6762727187255080727:=()
def tw6782345640572730551:=()
def tw6829085901425190713:=()
def tw684452389831444696:=()
def tw692890991530811728:=()
def tw6942493890759717816:=()
def tw6949014421580821392:=()
def tw6957405709420309090:=()
def tw6972025814070804990:=()
def tw6972704173808544044:=()
def tw6974034917699549339:=()
def tw6987876053241954627:=()
def tw6999893274520185912:=()
def tw7024669056708707107:=()
def tw7028078359238017182:=()
def tw703206473004152375:=()
def tw706682512503656579:=()
def tw7084398943635132140:=()
def tw7108614138811888591:=()
def tw7136598011445710251:=()
def tw7215755599481898133:=()
def tw72299426037711029:=()
def tw7246370605135153895:=()
def tw7311069815741512962:=()
def tw7425967731182006401:=()
def tw7459478650876075321:=()
def tw7464512867828071520:=()
def tw7476884676963756286:=()
def tw7498417051105767181:=()
def tw7526206085632473913:=()
def tw7580650738979239165:=()
def tw7621159112119370634:=()
def tw7777015226854567415:=()
def tw7804043529963538873:=()
def tw7814109842121255344:=()
def tw7830762343433221934:=()
def tw7835645203792372774:=()
def tw7856823874167006673:=()
def tw7870443617514737117:=()
def tw7892888125602911019:=()
def tw796244810951133666:=()
def tw7964831704249025111:=()
def tw798037596554305096:=()
def tw7995282653078514963:=()
def tw8008167466824211402:=()
def tw8050820112062721233:=()
def tw8089714208697909245:=()
def tw8104768641664619778:=()
def tw8112015101217943371:=()
def tw8130907994735502222:=()
def tw8134395373343849743:=()
def tw8204897811286988315:=()
def tw821500871845236764:=()
def tw8288312617937217940:=()
def tw8297641160728463859:=()
def tw8303371769654992217:=()
def tw8373574019435956989:=()
def tw8379618232990731558:=()
def tw8382540287093733005:=()
def tw8386370217586776016:=()
def tw84508150293451146:=()
def tw84526168464978812:=()
def tw8561302425070352768:=()
def tw857854461144198258:=()
def tw865108373915148194:=()
def tw8667448354248412730:=()
def tw8675880272968775888:=()
def tw871628254693282679:=()
def tw8725036922100139453:=()
def tw8725123711120295902:=()
def tw8757244438445097989:=()
def tw8761423835906869015:=()
def tw8777727768341624278:=()
def tw881448035721451640:=()
def tw8838351613592265858:=()
def tw8843948811114741812:=()
def tw8863718669274378422:=()
def tw8881229761949367150:=()
def tw8934911607299213924:=()
def tw8993517274391392668:=()
def tw9031152864551685445:=()
def tw90344155464309817:=()
def tw9082670129805375250:=()
def tw9091833256642968247:=()
def tw9096426342390570564:=()
def tw9161686676157408034:=()
def tw9167239111504935285:=()
def tw9285004017406656635:=()
def tw934760113975576596:=()
def tw9399466803799202051:=()
def tw9409088751520295138:=()
def tw9441278124611285072:=()
def tw9456987929200015742:=()
def tw9481523820781755270:=()
def tw9506908020847589578:=()
def tw9550261839481789120:=()
def tw9653581381326081832:=()
def tw9680949968304002284:=()
def tw969725465598997095:=()
def tw9740204985513779547:=()
def tw9745532047372638395:=()
def tw9793893171766943391:=()
def tw9805379832423087232:=()
def tw983563779179132267:=()
def tw9877713351606686486:=()
def tw9948131327903530598:=()
def tw9949372094934707844:=()
def tw9989573105800673029:=()
end PySem.W.Fast
open PySem PySem.W PyProof.Rows
set_option maxRecDepth 100000 in
set_option maxHeartbeats 0 in
theorem PySem.Challenge.cw_backissues_k44_whole_nothing_else_holds : PySem.Challenge.rw_backissues_k44_whole_nothing_else.Holds := by
 w_on; o_law; z_head; (case hw => w_witness2)
 k_fill
 refine My.w1l (fun _ => by kernel_rfl) ?_
 refine My.walk (l := PySem.Challenge.rw_backissues_k44_whole_nothing_else) rfl rfl (fun w h Y => Y) ?F
 case F =>
  intro w mg fa h KX G hmg
  refine' My.y8P KX G hmg ?cOffice ?cShelf ?cBook ?nOffice_names ?nOffice_reach ?nOffice_written ?nShelf_names ?nShelf_reach ?nShelf_issues ?nBook_office ?nBook_readers ?nBook_done ?a0 ?a1 ?a2 ?a3 ?a4 ?a5 ?a6 ?a7 ?a8 ?a9 ?a10 ?a11 ?a12 ?a13 ?a14 ?a15 ?a16 ?a17 ?a18 ?a19 ?a20 ?a21 ?a22 ?a23 ?a24 ?a25 ?a26 ?a27 ?a28 ?a29 ?a30 ?a31 ?a32 ?a33 ?a34 ?a35 ?a36 ?a37 ?a38 ?a39 ?a40 ?a41 ?a42 ?a43 ?a44 ?a45 ?a46 ?a47 ?a48 ?a49 ?a50 ?a51 ?a52 ?a53 ?a54 ?a55 ?a56 ?a57 ?a58 ?a59 ?a60 ?a61 ?a62 ?a63 ?a64 ?a65 ?a66 ?a67 ?a68 ?a69 ?a70 ?a71 ?a72 ?a73 ?a74 ?a75 ?a76 ?a77 ?a78 ?a79 ?a80 ?a81 ?a82 ?a83 ?a84 ?d43 ?d53 ?zlen ?zrange ?ztuple ?zlist ?zmax ?zmin ?zsorted ?zisinstance ?zbool ?zint ?zstr ?zset ?zreversed ?zdict ?zzip ?zall ?vMOST_NAMES ?vMOST_REACH ?vMOST_NUMBERS ?vMOST_VALUE ?vMOST_READERS ?vMOST_DEEDS ?vSURE ?vSTALE ?vOPEN ?vWRITE ?vDELIVER
  case' cOffice | cShelf | cBook => exact ⟨by k_is, by k_is, by k_is, by k_is, by k_is, by k_is, by k_is⟩
  case' nOffice_names | nOffice_reach | nOffice_written | nShelf_names | nShelf_reach | nShelf_issues | nBook_office | nBook_readers | nBook_done => k_is
  case' a0 | a1 | a2 | a3 | a4 | a5 | a6 | a7 | a8 | a9 | a10 | a11 | a12 | a13 | a14 | a15 | a16 | a17 | a18 | a19 | a20 | a21 | a33 | a44 | a45 | a46 | a47 | a48 | a49 | a50 | a51 | a52 | a53 | a54 | a55 | a56 | a57 | a58 | a59 | a60 | a61 | a62 | a63 | a64 | a65 | a66 | a67 | a68 | a69 | a70 | a71 | a72 | a73 | a74 | a75 | a76 | a77 | a78 | a79 | a80 | a81 | a82 | a83 | a84 => exact ⟨by k_is, _, _, _, _, _, _, _, _, _, by k_is, by k_is, by k_is⟩
  case' a22 | a23 | a24 | a25 | a26 | a27 | a28 | a29 | a30 | a31 | a32 | a34 | a35 | a36 | a37 | a38 | a39 | a40 | a41 | a42 | a43 => exact ⟨by k_is, by k_is, _, _, _, _, _, _, _, _, _, by k_is, by k_is, by k_is⟩
  case' d43 | d53 => exact ⟨_, _, _, _, by k_is⟩
  case' zlen | zrange | ztuple | zlist | zmax | zmin | zsorted | zisinstance | zbool | zint | zstr | zset | zreversed | zdict | zzip | zall | vMOST_NAMES | vMOST_REACH | vMOST_NUMBERS | vMOST_VALUE | vMOST_READERS | vMOST_DEEDS | vSURE | vSTALE | vOPEN | vWRITE | vDELIVER => k_is