import PyProof.Rows.All
import Wide.All
import OpenK.AllK
import Wide.FinOn
import Lean
import PyProof.EqAt
import PyProof.EqKinds
import PyProof.TupleCall
import PyProof.WalksMore
import PyProof.ListRange
import PyProof.NeKinds
import PyProof.SliceStr2
import PyProof.StrOps2
import PyProof.Rows.SetFrom
import PyProof.MinMaxWalk
import KE.KRevIter
import KE.KDictList
import PyProof.AttrMiss
import PyProof.IsiH_list
import PyProof.IsiH_tuple
import KE.KDictOf
import PyProof.ZipIter
import PyProof.TupleIter
import PySem.Challenge.RW_backissues_k34_whole_any_order
set_option Elab.async false
set_option linter.all false
set_option maxHeartbeats 4000000
set_option maxRecDepth 100000
abbrev b7:=@List.length_map
abbrev b8:=@List.mem_singleton
abbrev b9:=@PySem.Heap.get?_push_of_some
abbrev bA:=@List.mem_cons
abbrev bB:=@List.getElem?_map
abbrev bC:=@List.getElem?_eq_getElem
abbrev bD:=@List.map_append
abbrev bE:=@Nat.le_refl
abbrev bF:=@List.size_toArray
abbrev bG:=@List.length_append
abbrev bH:=@List.length_take
abbrev bI:=@PyProof.Rows.boot_tuple
abbrev bJ:=@Bool.false_ne_true
abbrev bK:=@PySem.boot_len
abbrev bL:=@List.getD_eq_getElem?_getD
abbrev bM:=@PySem.Heap.get?_push_size
abbrev bN:=@List.mem_append
abbrev bO:=@List.mem_of_getElem?
abbrev bP:=@PySem.Heap.lt_size
abbrev bQ:=@PySem.PassesOwn.never
abbrev bR:=@PySem.F.plainAttrs_list
abbrev bS:=@List.mem_cons_of_mem
abbrev bT:=@List.take_length
abbrev bU:=@List.mem_cons_self
abbrev bV:=@PySem.F.slot_list_append
abbrev bW:=@List.getElem?_eq_some_iff
abbrev bX:=@PySem.F.type_list_append
abbrev bY:=@Bool.and_eq_true
abbrev bZ:=@PyProof.Rows.boot_isinstance
abbrev c6:=@List.mem_append_right
abbrev cG:=@Option.map_eq_some_iff
abbrev cH:=@List.length_cons
abbrev cI:=@List.mem_filter
abbrev cJ:=@List.length_filter_le
abbrev cK:=@Nat.ne_of_lt
abbrev cL:=@List.take_of_length_le
abbrev cM:=@Nat.le_trans
abbrev cN:=@PySem.Around.under_plainId
abbrev cO:=@List.mem_map
abbrev cP:=@List.map_cons
abbrev cQ:=@PySem.W.mg_none_of
abbrev cR:=@List.mem_append_left
abbrev cS:=@List.take_zero
abbrev cT:=@List.pairwise_append
abbrev cU:=@Nat.lt_of_lt_of_le
abbrev cV:=@Nat.zero_le
abbrev cW:=@PySem.Heap.get?_update_other
abbrev cX:=@Int.emod_lt_of_pos
abbrev cY:=@List.append_nil
abbrev cZ:=@List.exists_cons_of_length_eq_add_one
abbrev d5:=@Int.emod_nonneg
abbrev d6:=@List.length_drop
abbrev d7:=@Bool.eq_iff_iff
abbrev d8:=@PyProof.Rows.slot_tuple_getitem
abbrev d9:=@PySem.W.mg_of
abbrev dA:=@List.nodup_iff_pairwise_ne
abbrev dB:=@List.foldl_cons
abbrev dC:=@PySem.F.plain_max_loop
abbrev dD:=@PySem.F.plain_min_loop
abbrev dE:=@Ne.symm
abbrev dF:=@List.getElem?_append_left
abbrev dG:=@List.pairwise_map
abbrev dH:=@List.length_singleton
abbrev dI:=@PyProof.Rows.boot_max
abbrev dJ:=@List.map_map
abbrev dL:=@PySem.W.kia_one
abbrev dM:=@List.nodup_cons
abbrev dN:=@List.find?_cons
abbrev dO:=@Nat.lt_succ_self
abbrev dP:=@Nat.lt_irrefl
abbrev dQ:=@Nat.le_of_lt
abbrev dR:=@List.filterMap_cons
abbrev dS:=@List.length_reverse
abbrev dU:=@List.eq_nil_of_length_eq_zero
abbrev dW:=@List.filter_append
abbrev dX:=@List.not_mem_nil
abbrev dY:=@List.pairwise_singleton
abbrev dZ:=@List.map_congr_left
abbrev eB:=@List.getElem?_append_right
abbrev eF:=@Nat.lt_of_le_of_lt
abbrev eI:=@PySem.Heap.get?_update_self
abbrev eJ:=@Int.le_refl
abbrev eM:=@List.filter_cons
abbrev eQ:=@PyProof.Rows.callWith_type1
abbrev eS:=@Bool.false_eq_true
abbrev eU:=@Int.zero_add
abbrev eV:=@PyProof.Rows.boot_min
abbrev eX:=@Nat.lt_succ_of_lt
abbrev eY:=@List.take_add_one
abbrev eZ:=@PySem.F.slot_tuple_getattribute
abbrev fA:=@List.pairwise_iff_getElem
abbrev fB:=@List.mem_range
abbrev fE:=@List.drop_zero
abbrev fF:=@PySem.F.called_set
abbrev fG:=@PySem.F.slot_list_getattribute
abbrev fH:=@List.countP_cons
abbrev fI:=@PyProof.Rows.boot_sorted
abbrev fJ:=@PySem.mem_of_lookup
abbrev fK:=@PySem.F.plain_list_iadd
abbrev fL:=@List.all_cons
abbrev fM:=@List.any_cons
abbrev fN:=@Bool.true_and
abbrev fO:=@List.filter_nil
abbrev fP:=@PySem.F.entry_max_loop
abbrev fQ:=@PySem.F.entry_min_loop
abbrev fR:=@List.foldl_append
abbrev fS:=@List.append_assoc
abbrev fT:=@Bool.eq_false_iff
abbrev fU:=@Bool.false_and
abbrev fV:=@PySem.Heap.size_push
abbrev fW:=@List.idxOf_lt_length_of_mem
abbrev fX:=@List.getElem_mem
abbrev fZ:=@List.mem_reverse
abbrev g0:=@List.reverse_reverse
abbrev gB:=@Nat.le_succ
abbrev gG:=@Array.length_toList
abbrev gH:=@List.length_take_le
abbrev gI:=@List.getElem?_range
abbrev gJ:=@Nat.min_eq_left
abbrev gK:=@Nat.not_lt_zero
abbrev gL:=@List.mem_of_find?_eq_some
abbrev gM:=@Nat.ne_of_gt
abbrev gN:=@PySem.F.args_tuple_add_2
abbrev gO:=@Nat.pos_of_ne_zero
abbrev gP:=@PySem.F.slot_list_insert
abbrev gQ:=@Nat.sub_zero
abbrev gR:=@List.pairwise_cons
abbrev gS:=@List.any_map
abbrev gT:=@Int.natCast_nonneg
abbrev gU:=@List.getElem?_replicate
abbrev gX:=@PySem.F.entry_tuple_add
abbrev gY:=@PyProof.Rows.F.plain_set_update_loop
abbrev gZ:=@List.length_eq_zero_iff
abbrev h8:=@List.length_range
abbrev h9:=@List.nodup_append
abbrev hE:=@PySem.F.slot_tuple_add
abbrev hJ:=@PyProof.Rows.boot_bool
abbrev hU:=@PyProof.Rows.boot_list
abbrev hV:=@PyProof.Rows.boot_dict
abbrev hW:=@Nat.min_le_right
abbrev hZ:=@List.lookup_cons
abbrev j0:=@List.any_eq_true
abbrev j3:=@PySem.W.methodCall_KW
abbrev j4:=@List.length_replicate
abbrev j5:=@List.getElem?_reverse
abbrev j6:=@PyProof.Rows.boot_int
abbrev j7:=@PyProof.Rows.boot_str
abbrev j8:=@List.take_append_drop
abbrev j9:=@List.pairwise_reverse
abbrev jA:=@List.getElem?_set_ne
abbrev jB:=@List.mem_of_mem_take
abbrev jC:=@Int.natCast_mul
abbrev jD:=@PySem.W.plainGet_of
abbrev jE:=@List.length_pos_iff
abbrev jF:=@PySem.Heap.SameBut.update
abbrev jG:=@List.mem_map_of_mem
abbrev jH:=@List.getElem_attach
abbrev jI:=@PySem.Paired.snoc
abbrev jJ:=@PySem.W.callWith_K
abbrev jK:=@List.filterMap_map
abbrev jL:=@List.find?_eq_none
abbrev jM:=@List.getElem_idxOf
abbrev jN:=@List.any_eq_false
abbrev jO:=@Int.toNat_natCast
abbrev jP:=@List.reverse_cons
abbrev jQ:=@Bool.not_eq_true'
abbrev jR:=@List.Sublist.refl
abbrev jS:=@Nat.le_of_not_lt
abbrev jT:=@Nat.zero_add
abbrev jU:=@List.all_map
abbrev jV:=@List.all_eq_true
abbrev jW:=@List.nil_sublist
abbrev jX:=@List.map_reverse
namespace L2
open PySem PySem.Spec PyProof.Rows
abbrev Key:=Sum Int Str
def y0F:Key->Value->Bool
 | .inl k,v=>Value.isInt k v
 | .inr x,v=>Value.isStrOf x v
def keyH(w:World):Key->Int
 | .inl k=>hashInt k
 | .inr x=>hashStr w x
theorem z1c:∀{k:Key}{v:Value},y0F k v=true->(∃i t,k=Sum.inl i/\v=Value.int i t)\/(∃x t,k=Sum.inr x/\v=Value.str x t)
 | .inl i,v,h=>by
  obtain⟨t,e⟩:=Value.isInt_shape (k:=i) (v:=v) h
  exact .inl ⟨i,t,rfl,e⟩
 | .inr x,v,h=>by
  obtain⟨t,e⟩:=Value.isStrOf_shape (x:=x) (v:=v) h
  exact .inr ⟨x,t,rfl,e⟩
theorem y3J(i:Int)(t:Tok):y0F (.inl i) (.int i t)=true:=by simp[y0F,Value.isInt]
theorem y45(x:Str)(t:Tok):y0F (.inr x) (.str x t)=true:=by simp[y0F,Value.isStrOf]
theorem y7z(a b:Int):decide ((Sum.inl a:Key)=Sum.inl b)=(a == b):=by
 by_cases e:a=b
 ·subst e;simp
 ·have h:¬(Sum.inl a:Key)=Sum.inl b:=fun q=>e (Sum.inl.inj q)
  rw[decide_eq_false h]
  exact(beq_eq_false_iff_ne.mpr e).symm
theorem y7B(a b:Str):decide ((Sum.inr a:Key)=Sum.inr b)=decide (a=b):=by
 by_cases e:a=b
 ·subst e;simp
 ·have h:¬(Sum.inr a:Key)=Sum.inr b:=fun q=>e (Sum.inr.inj q)
  rw[decide_eq_false h,decide_eq_false e]
theorem y7C(a:Int)(b:Str):decide ((Sum.inl a:Key)=Sum.inr b)=false:=decide_eq_false (fun q=>nomatch q)
theorem y7E(a:Str)(b:Int):decide ((Sum.inr a:Key)=Sum.inl b)=false:=decide_eq_false (fun q=>nomatch q)
def z1v(prog:Program)(w:World):PySem.KeyKind prog w Key where
 is:=y0F
 hash:=keyH w
 inj:=fun v a b ha hb=>by
  rcases z1c ha with ⟨i,t,rfl,rfl⟩|⟨x,t,rfl,rfl⟩
  ·rcases z1c hb with ⟨j,u,rfl,e⟩|⟨y,u,rfl,e⟩
   ·injection e with e1 _;rw[e1]
   ·exact nomatch e
  ·rcases z1c hb with ⟨j,u,rfl,e⟩|⟨y,u,rfl,e⟩
   ·exact nomatch e
   ·injection e with e1 _;rw[e1]
 byValue:=fun k v h=>by
  rcases z1c h with ⟨i,t,rfl,rfl⟩|⟨x,t,rfl,rfl⟩<;>rfl
 pyHash:=fun hv h=>by
  rcases z1c hv with ⟨i,t,rfl,rfl⟩|⟨x,t,rfl,rfl⟩
  ·exact wpAny_pyHash_int h
  ·exact wpAny_pyHash_str h
 eqBool:=fun hu hv h=>by
  rcases z1c hu with ⟨i,t,rfl,rfl⟩|⟨x,t,rfl,rfl⟩
  ·rcases z1c hv with ⟨j,u,rfl,rfl⟩|⟨y,u,rfl,rfl⟩
   ·rw[y7z] at h;exact wpAny_eqBool_int h
   ·rw[y7C] at h;exact SeqAt.EqAt.int_str i t y u _ _ _ _ h
  ·rcases z1c hv with ⟨j,u,rfl,rfl⟩|⟨y,u,rfl,rfl⟩
   ·rw[y7E] at h;exact SeqAt.EqAt.str_int x t j u _ _ _ _ h
   ·rw[y7B] at h;exact wpAny_eqBool_str h
 «strs»:=fun k x t v h=>by
  rcases z1c h with ⟨i,u,rfl,e⟩|⟨y,u,rfl,e⟩
  ·exact nomatch e
  ·injection e with e1 _
   subst e1
   cases v<;>rfl
theorem y17(prog:Program)(w:World)(i:Int)(t:Tok):(z1v prog w).is (.inl i) (.int i t)=true:=y3J i t
theorem y16(prog:Program)(w:World)(x:Str)(t:Tok):(z1v prog w).is (.inr x) (.str x t)=true:=y45 x t
inductive V where
 | non|bl (b:Bool)|int (i:Int)|str (x:Str)|byt (b:Array UInt8)|flt (b:UInt64)|ref (a:Addr)|ty (n:String)
 deriving DecidableEq
def RelV:V->Value->Prop
 | .non,u=>u=Value.none
 | .bl b,u=>u=Value.bool b
 | .int i,u=>∃t,u=Value.int i t
 | .str x,u=>∃t,u=Value.str x t
 | .byt b,u=>∃t,u=Value.bytes b t
 | .flt b,u=>∃t,u=Value.float b t
 | .ref a,u=>u=Value.ref a
 | .ty n,u=>u=Value.type n
abbrev Vals:List V->List Value->Prop:=Paired RelV
theorem Vals.length{xs:List V}{us:List Value}(r:Vals xs us):xs.length=us.length:=Paired.length r
theorem Vals.get:∀{xs:List V}{us:List Value}{i:Nat}{x:V},Vals xs us->xs[i]? = some x->∃u,us[i]? = some u/\RelV x u
 | _,_,_,_,.nil,e=>by simp at e
 | _,_,0,_,.cons r _,e=>by simp at e;subst e;exact⟨_,rfl,r⟩
 | _,_,i+1,x,.cons _ t,e=>by
  obtain⟨u,h1,h2⟩:=Vals.get (i:=i) (x:=x) t (by simpa using e)
  exact⟨u,by simpa using h1,h2⟩
theorem Vals.append:∀{xs ys:List V}{us ws:List Value},Vals xs us->Vals ys ws->Vals (xs++ys) (us++ws)
 | _,_,_,_,.nil,s=>s
 | _,_,_,_,.cons r t,s=>.cons r (Vals.append t s)
theorem Vals.take:∀{xs:List V}{us:List Value} (n:Nat),Vals xs us->Vals (xs.take n) (us.take n)
 | _,_,0,_=>.nil
 | _,_,_+1,.nil=>.nil
 | _,_,n+1,.cons r t=>.cons r (Vals.take n t)
theorem Vals.drop:∀{xs:List V}{us:List Value} (n:Nat),Vals xs us->Vals (xs.drop n) (us.drop n)
 | _,_,0,r=>r
 | _,_,_+1,.nil=>.nil
 | _,_,n+1,.cons _ t=>Vals.drop n t
def N3:Option V->Option Value->Prop
 | some v,some u=>RelV v u
 | none,none=>True
 | _,_=>False
def KV{κ:Type}:List (κ×V)->List (κ×Value)->Prop:=Paired fun(p:κ×V) (q:κ×Value)=>p.1=q.1/\RelV p.2 q.2
def kV:Key->V
 | .inl i=>.int i
 | .inr x=>.str x
inductive HO where
 /-- a list -/
 | lst (xs:List V)
 /-- a tuple (never changes) -/
 | tup (xs:List V)
 /-- a dict whose keys are ints and texts;one whose keys are tuples of ints and texts (the empty one is both) -/
 | dK (kvs:List (Key×V))|dT (kvs:List (List Key×V))
 /-- a set of ints: its members,its size -/
 | set (S:Int->Bool) (n:Nat)
 /-- an instance of the class at C,its dict at dx,its attributes -/
 | ins (C dx:Addr) (fs:List (Str×V))
 /-- the dict of the instance at x -/
 | own (x:Addr)
 /-- the dict of an exception -/
 | xd (fs:List (Str×V))
 /-- a bound method,f of x -/
 | met (f x:Addr)
 /-- a range object lo,lo+1,.. below hi -/
 | rng (lo hi:Int)
 /-- a thing that is known to the object (the script;a dict while a loop walks it): read,never written while it is so -/
 | frz (o:Obj) (u:HO)
 /-- a code object's table -/
 | tbl (ps:Array Value)
 /-- any other thing,by what is true of its one object (a def of one's own: SetO a S n:=HO.ext fun h=>..) -/
 | ext (φ:Heap->Prop)
abbrev Hp:=Addr->Option HO
def upd(H:Hp)(a:Addr)(o:HO):Hp:=fun b=>if b=a then some o else H b
def PlT(h:Heap)(a:Addr)(items:Array Value):Prop:=∃o,h.get? a=some o/\o.cls=.type "tuple"/\(∃n,o.data=.seq items n)/\o.dict=none
theorem PlT.tup{h:Heap}{a:Addr}{items:Array Value}(p:PlT h a items):IsTup h a items:=let ⟨o,e,c,d,_⟩:=p;⟨o,e,c,d⟩
theorem PlT.new(h:Heap)(items:Array Value):PlT (h.push { cls:=.type "tuple",data:=.seq items }) h.objs.size items:=⟨_,bM _ rfl,rfl,⟨_,rfl⟩,rfl⟩
theorem z03{H:Hp}{a:Addr}{o:HO}:upd H a o a=some o:=by unfold upd;rw[if_pos rfl]
theorem z0k{H:Hp}{a b:Addr}{o:HO}(h:b≠a):upd H a o b=H b:=by unfold upd;rw[if_neg h]
theorem z5f{H:Hp}{a:Addr}{o u:HO}:upd (upd H a o) a u=upd H a u:=by
 funext b;unfold upd;split<;>rfl
theorem z4W{H:Hp}{a b:Addr}{o u:HO}(h:H a=some o)(h':H b=some u)(d:o≠u):a≠b:=by
 intro e;subst e;rw[h] at h';exact d (Option.some.inj h')
theorem z0q{H:Hp}{a b:Addr}{o:HO}(h:H a=some o)(h':H b=none):a≠b:=by
 intro e;subst e;rw[h] at h';cases h'
section
variable(P:Program)(w:World)
def z1B(H:Hp)(h:Heap)(a:Addr):HO->Prop
 | .lst xs=>xs.length≤sizeLine/\∃(its:List Value) (n:Nat),Vals xs its/\h.get? a=some { cls:=.type "list",data:=.seq its.toArray n }
 | .tup xs=>xs.length≤sizeLine/\∃its:List Value,Vals xs its/\PlT h a its.toArray
 | .dK kvs=>kvs.length≤sizeLine/\(a == sysModules)=false/\∃vs,KV kvs vs/\h.DictOf (z1v P w) a vs
 | .dT kvs=>kvs.length≤sizeLine/\(a == sysModules)=false/\∃xs:List (List Key×Addr×Value),
   Paired (fun(p:List Key×V) (q:List Key×Addr×Value)=>p.1=q.1/\H q.2.1=some (.tup (p.1.map kV))/\RelV p.2 q.2.2) kvs xs/\
   ∃o es ep,h.get? a=some o/\o.ExactDict/\o.data=.dict es ep/\es.toList=xs.map (entryOfKey (tupleKind (z1v P w)))/\(xs.map (·.1)).Nodup
 | .set S n=>h.SetOf (intKind P w) a S n
 | .ins C dx fs=>H dx=some (.own a)/\fs.length≤1000/\dx≠a/\h.get? a=some (PySem.W.instObj C dx)/\
   ∃mA,h.Ns1 dx mA/\(∀f,N3 (fs.lookup f) (mA f))/\PySem.Within mA (fs.map (·.1))
 | .own _=>∃o,h.get? a=some o
 | .xd fs=>∃mA,h.Ns1 a mA/\∀f,N3 (fs.lookup f) (mA f)
 | .rng lo hi=>∃t u v,h.get? a=some { cls:=.type "range",data:=.fields #[.int lo t,.int hi u,.int 1 v] }
 | .frz o u=>h.get? a=some o/\z1B H h a u
 | .tbl ps=>h.get? a=some { cls:=.none,data:=.fields ps }
 | .met f x=>h.get? a=some (PySem.W.methodObj (.ref f) (.ref x))
 | .ext φ=>φ h/\(∃o,h.get? a=some o)/\∀h1 h2:Heap,φ h1->(∀o,h1.get? a=some o->h2.get? a=some o)->φ h2
def HOk(H:Hp)(h:Heap):Prop:=∀a o,H a=some o->z1B P w H h a o
end
section
variable{P:Program}{w:World}{H H':Hp}{h h':Heap}{a:Addr}{o:HO}
theorem z1B.lt(x:z1B P w H h a o):a<h.objs.size:=by
 cases o with
 | lst xs=>obtain⟨_,_,_,_,e⟩:=x;exact bP e
 | tup xs=>obtain⟨_,_,_,o,e,_⟩:=x;exact bP e
 | dK kvs=>obtain⟨_,_,_,_,o,_,_,e,_⟩:=x;exact bP e
 | dT kvs=>obtain⟨_,_,_,_,o,_,_,e,_⟩:=x;exact bP e
 | set S n=>obtain⟨o,_,_,_,e,_⟩:=x;exact bP e
 | ins C dx fs=>obtain⟨_,_,_,e,_⟩:=x;exact bP e
 | own y=>obtain⟨_,e⟩:=x;exact bP e
 | xd fs=>obtain⟨_,⟨_,_,_,e,_⟩,_⟩:=x;exact bP e
 | rng lo hi=>obtain⟨_,_,_,e⟩:=x;exact bP e
 | frz ob u=>obtain⟨e,_⟩:=x;exact bP e
 | tbl ps=>exact bP (show h.get? a=some _ from x)
 | met f y=>exact bP (show h.get? a=some _ from x)
 | ext φ=>obtain⟨_,⟨_,e⟩,_⟩:=x;exact bP e
theorem Paired.V6{α β:Type}{F G:α->β->Prop}:∀{l₁:List α}{l₂:List β},Paired F l₁ l₂->(∀a b,F a b->G a b)->Paired G l₁ l₂
 | _,_,.nil,_=>.nil
 | _,_,.cons r t,f=>.cons (f _ _ r) (Paired.V6 t f)
theorem z1B.W0(x:z1B P w H h a o)(k:∀b u,(b=a\/H b=some (.own a))->h.get? b=some u->h'.get? b=some u)
  (ho:∀b,H b=some (.own a)->H' b=some (.own a)) (ht:∀b xs,H b=some (.tup xs)->H' b=some (.tup xs)):z1B P w H' h' a o:=by
 induction o with
 | lst xs=>obtain⟨z,its,n,r,e⟩:=x;exact⟨z,its,n,r,k _ _ (.inl rfl) e⟩
 | tup xs=>obtain⟨z,its,r,ob,e,c⟩:=x;exact⟨z,its,r,ob,k _ _ (.inl rfl) e,c⟩
 | dK kvs=>obtain⟨z,y,vs,r,ob,es,ep,e,c⟩:=x;exact⟨z,y,vs,r,ob,es,ep,k _ _ (.inl rfl) e,c⟩
 | dT kvs=>
  obtain⟨z,y,xs,r,ob,es,ep,e,c⟩:=x
  exact⟨z,y,xs,Paired.V6 r fun p q z=>⟨z.1,ht _ _ z.2.1,z.2.2⟩,ob,es,ep,k _ _ (.inl rfl) e,c⟩
 | set S n=>obtain⟨ob,es,ep,t,e,c⟩:=x;exact⟨ob,es,ep,t,k _ _ (.inl rfl) e,c⟩
 | ins C dx fs=>
  obtain⟨d,z,ne,e,mA,⟨od,es,ep,e2,c⟩,r⟩:=x
  exact⟨ho _ d,z,ne,k _ _ (.inl rfl) e,mA,⟨od,es,ep,k _ _ (.inr d) e2,c⟩,r⟩
 | own y=>obtain⟨ob,e⟩:=x;exact⟨ob,k _ _ (.inl rfl) e⟩
 | xd fs=>obtain⟨mA,⟨od,es,ep,e,c⟩,r⟩:=x;exact⟨mA,⟨od,es,ep,k _ _ (.inl rfl) e,c⟩,r⟩
 | rng lo hi=>obtain⟨t,u,v,e⟩:=x;exact⟨t,u,v,k _ _ (.inl rfl) e⟩
 | frz ob u ih=>obtain⟨e,q⟩:=x;exact⟨k _ _ (.inl rfl) e,ih q⟩
 | tbl ps=>
  have e:h.get? a=some { cls:=.none,data:=.fields ps }:=x
  show h'.get? a=some { cls:=.none,data:=.fields ps }
  exact k a _ (.inl rfl) e
 | met f y=>
  have e:h.get? a=some (PySem.W.methodObj (.ref f) (.ref y)):=x
  show h'.get? a=some (PySem.W.methodObj (.ref f) (.ref y))
  exact k a _ (.inl rfl) e
 | ext φ=>obtain⟨p,⟨o,e⟩,st⟩:=x;exact⟨st _ _ p fun o q=>k _ _ (.inl rfl) q,⟨o,k _ _ (.inl rfl) e⟩,st⟩
theorem HOk.lt(x:HOk P w H h)(e:H a=some o):a<h.objs.size:=(x a o e).lt
theorem HOk.fresh(x:HOk P w H h)(e:h.objs.size≤a):H a=none:=by
 cases q:H a with
 | none=>rfl
 | some u=>exact absurd (cU (x.lt q) e) (dP _)
theorem HOk.kept(x:HOk P w H h)(k:∀b u,h.get? b=some u->h'.get? b=some u):HOk P w H h':=fun a o e=>
 (x a o e).W0 (fun b u _ q=>k b u q) (fun _ q=>q) fun _ _ q=>q
theorem HOk.laid(x:HOk P w H h)(k:∀b u,h.get? b=some u->h'.get? b=some u)(hp:h.objs.size≤a)(new:z1B P w (upd H a o) h' a o):HOk P w (upd H a o) h':=fun b u e=>by
 have hn:=x.fresh hp
 by_cases hb:b=a
 ·subst hb;rw[z03] at e;cases e;exact new
 ·rw[z0k hb] at e
  exact(x b u e).W0 (fun c v _ q=>k c v q) (fun c q=>by rw[z0k (z0q q hn)];exact q) fun c xs q=>by rw[z0k (z0q q hn)];exact q
end
def Rd(H:Hp)(a:Addr)(u:HO):Prop:=H a=some u\/∃o,H a=some (.frz o u)
theorem Rd.ok{P:Program}{w:World}{H:Hp}{h:Heap}{a:Addr}{u:HO}(r:Rd H a u)(x:HOk P w H h):z1B P w H h a u:=by
 rcases r with r|⟨o,r⟩
 ·exact x a u r
 ·obtain⟨_,q⟩:=x a _ r
  exact q
def Mut:Option HO->Prop
 | some (.lst _)=>True
 | some (.dK _)=>True
 | some (.dT _)=>True
 | some (.set _ _)=>True
 | some (.ins _ _ _)=>True
 | some (.ext _)=>True
 | _=>False
section
variable{P:Program}{w:World}{H:Hp}{h h':Heap}{x e:Addr}{o':HO}
theorem HOk.write(ok:HOk P w H h)(mu:Mut (H x))(he:e=x\/H e=some (.own x))(k:∀b u,b≠e->h.get? b=some u->h'.get? b=some u)(heo:∃u,h'.get? e=some u)
  (new:z1B P w (upd H x o') h' x o'):HOk P w (upd H x o') h':=fun b u q=>by
 have nown:∀c y,H c=some (.own y)->c≠x:=fun c y r z=>by subst z;rw[r] at mu;exact mu
 have ntup:∀c xs,H c=some (.tup xs)->c≠x:=fun c xs r z=>by subst z;rw[r] at mu;exact mu
 by_cases hb:b=x
 ·subst hb;rw[z03] at q;cases q;exact new
 ·rw[z0k hb] at q
  by_cases hbe:b=e
  ·have q':H b=some (.own x):=by
    rcases he with z|z
    ·exact absurd (hbe.trans z) hb
    ·rw[hbe];exact z
   rw[q] at q';cases q'
   obtain⟨v,hv⟩:=heo
   exact⟨v,by rw[hbe];exact hv⟩
  ·refine(ok b u q).W0 (fun c v hc r=>k c v ?_ r) (fun c r=>by rw[z0k (nown c b r)];exact r) fun c xs r=>by rw[z0k (ntup c xs r)];exact r
   rcases hc with rfl|hc
   ·exact hbe
   ·rintro rfl
    rcases he with z|z
    ·exact nown c b hc z
    ·rw[hc] at z;cases z;exact hb rfl
end
structure Un(fs ex:List Addr)(H H':Hp)(h h':Heap):Prop where
 keep:∀b o,h.get? b=some o->H b=none->b∉fs->b∉ex->h'.get? b=some o
 slot:∀b o,h.get? b=some o->H b=none->b∈fs->b∉ex->∃sl,h'.get? b=some { o with slots:=sl }
 free:∀b o,h.get? b=some o->H b=none->b∉ex->H' b=none
 there:∀b o,h.get? b=some o->b∉ex->∃o',h'.get? b=some o'
 T6:∀b xs,H b=some (.tup xs)->H' b=some (.tup xs)
 S1:∀b o u,H b=some (.frz o u)->H' b=some (.frz o u)
 T9:∀b ps,H b=some (.tbl ps)->∃more,H' b=some (.tbl (ps++more))
section
variable{fs fs' ex ex':List Addr}{H H1 H2:Hp}{h h1 h2 h':Heap}{a x e:Addr}{o:HO}
theorem Un.any(u:Un fs ex H H1 h h1){b:Addr}{ob:Obj}(q:h.get? b=some ob)(n:H b=none)(hx:b∉ex):∃sl,h1.get? b=some { ob with slots:=sl }:=by
 by_cases hb:b∈fs
 ·exact u.slot b ob q n hb hx
 ·exact⟨ob.slots,u.keep b ob q n hb hx⟩
theorem Un.kept(k:∀b u,h.get? b=some u->h'.get? b=some u):Un fs ex H H h h':=
 ⟨fun b ob q _ _ _=>k b ob q,fun b ob q _ _ _=>⟨ob.slots,k b ob q⟩,fun _ _ _ n _=>n,fun b ob q _=>⟨ob,k b ob q⟩,fun _ _ q=>q,fun _ _ _ q=>q,fun _ ps q=>⟨#[],by rw[q];simp⟩⟩
theorem Un.refl:Un fs ex H H h h:=Un.kept fun _ _ q=>q
theorem Un.laid(k:∀b u,h.get? b=some u->h'.get? b=some u)(hp:h.objs.size≤a)(hn:H a=none):Un fs ex H (upd H a o) h h' where
 keep:=fun b u q _ _ _=>k b u q
 slot:=fun b u q _ _ _=>⟨u.slots,k b u q⟩
 free:=fun b u q n _=>by rw[z0k (cK (cU (bP q) hp))];exact n
 there:=fun b u q _=>⟨u,k b u q⟩
 T6:=fun b xs q=>by rw[z0k (z0q q hn)];exact q
 S1:=fun b u xs q=>by rw[z0k (z0q q hn)];exact q
 T9:=fun b ps q=>⟨#[],by rw[z0k (z0q q hn),q];simp⟩
theorem Un.write(mu:Mut (H x))(he:e=x\/H e=some (.own x))(k:∀b u,b≠e->h.get? b=some u->h'.get? b=some u)(heo:∃u,h'.get? e=some u):Un fs ex H (upd H x o) h h':=by
 have hx:∀b,H b=none->b≠x:=fun b n z=>by subst z;rw[n] at mu;exact mu
 have hb:∀b,H b=none->b≠e:=fun b n z=>by
  subst z
  rcases he with r|r
  ·exact hx b n r
  ·rw[n] at r;cases r
 have hm:∀b u,H b=some u->¬Mut (some u)->b≠x:=fun b u q nm z=>by subst z;rw[q] at mu;exact nm mu
 refine⟨fun b u q n _ _=>k b u (hb b n) q,fun b u q n _ _=>⟨u.slots,k b u (hb b n) q⟩,fun b u q n _=>by rw[z0k (hx b n)];exact n,fun b u q _=>?_,
  fun b xs q=>by rw[z0k (hm b _ q fun z=>z)];exact q,fun b u xs q=>by rw[z0k (hm b _ q fun z=>z)];exact q,fun b ps q=>⟨#[],by rw[z0k (hm b _ q fun z=>z),q];simp⟩⟩
 by_cases hbe:b=e
 ·subst hbe;exact heo
 ·exact⟨u,k b u hbe q⟩
end
def trk(h:Heap)(H:Hp):List Addr:=(List.range h.objs.size).filter fun a=>(H a).isSome
def S3(h:Heap)(H:Hp):Heap:=PySem.W.hideAll h (trk h H)
theorem y3O(h:Heap)(H:Hp):(S3 h H).objs.size=h.objs.size:=PySem.W.hideAll_size _ _
theorem y4V{h:Heap}{H:Hp}{b:Addr}{o:Obj}(e:h.get? b=some o)(n:H b=none):(S3 h H).get? b=some o:=
 PySem.W.hideAll_get _ e fun hm=>by
  have q:(H b).isSome=true:=(cI.mp hm).2
  rw[n] at q;simp at q
theorem y6v{h:Heap}{H:Hp}{b:Addr}{o:Obj}(e:(S3 h H).get? b=some o):h.get? b=some o/\H b=none:=by
 have e':h.get? b=some o:=PySem.W.of_hideAll (trk h H) e
 refine⟨e',?_⟩
 cases q:H b with
 | none=>rfl
 | some x=>
  have hm:b∈trk h H:=cI.mpr ⟨fB.mpr (bP e'),by simp[q]⟩
  have z:(S3 h H).get? b=none:=PySem.W.hideAll_none (trk h H) hm
  rw[z] at e;cases e
def y6c(g h:Heap)(L:Addr):List (Addr×Obj):=(List.range h.objs.size).filterMap fun a=>if a=L\/(g.get? a).isSome=true then none else (h.get? a).map fun o=>(a,o)
def rest(g h:Heap)(L d:Addr):List (Addr×Obj):=(y6c g h L).filter fun p=>decide (p.1≠d)
structure Mod(K:PySem.W.Frag)(mg:Str->Option Value)(base:Heap):Prop where
 kin:K.In base
 glob:base.Ns mainGlobals mg
 blt:∃mb,base.Ns builtinsNs mb/\∀x:Str,x≠"__name__"->mb x=bootBuiltins x
 nolimit:base.NoLimit
structure Cx where
 prog:Program
 w:World
 K:PySem.W.Frag
 mg:Str->Option Value
 base:Heap
 A:Around
 N:List Str
 s₀:Shared
 H₀:Hp
 env:Env
 outer:List Env
 stack:List Env
 ex:List Addr
 fn:Str->Bool
 calm:Bool
 pn:List (Addr×Obj)
 xe:Value->Shared->Prop
def frs(l:List Env):List Addr:=l.filterMap (·.frame)
abbrev Cx.fs(X:Cx):List Addr:=frs X.outer
def Vis(sc:Scope)(x:Str):Prop:=sc.names.lookup x=some .local\/sc.names.lookup x=some .cell\/sc.names.lookup x=some .free
def Loc(sc:Scope)(x:Str):Prop:=sc.names.lookup x=some .local\/sc.names.lookup x=some .cell
def Look(env:Env)(h:Heap)(m:Str->Option Value)(x:Str)(u:Value):Prop:=
 (env.kindOf x=some .local/\m x=some u)\/((env.kindOf x=some .cell\/env.kindOf x=some .free)/\∃c,env.cells.lookup x=some c/\h.IsCell c (some u))
structure Cx.Ok(X:Cx):Prop where
 mod:Mod X.K X.mg X.base
 kind:X.env.scope.kind=.function
 glob:X.env.globals=mainGlobals
 blt:X.env.builtins=builtinsNs
 above:X.s₀.heap.objs.size≤X.env.locals
 inj:∀x y c,X.env.cells.lookup x=some c->X.env.cells.lookup y=some c->x=y
 has:∀x,(X.env.kindOf x=some .cell\/X.env.kindOf x=some .free)->∃c,X.env.cells.lookup x=some c
 cab:∀x c,X.fn x=true->X.env.cells.lookup x=some c->X.s₀.heap.objs.size≤c
 hd:X.calm=true->X.A.handled=none
 frames:X.A.frames=some X.stack
 stk:X.stack=X.outer\/(X.stack=X.env::X.outer/\X.env.frame=some X.env.locals)
 exf:∀b∈X.ex,b≠X.env.locals/\∀x c,X.env.cells.lookup x=some c->c≠b
 bs:∀b o,X.base.get? b=some o->X.s₀.heap.get? b=some o/\X.H₀ b=none
 bsz:X.base.objs.size≤X.s₀.heap.objs.size
 noex:∀b o,X.base.get? b=some o->b∉X.ex
 exfs:∀b∈X.ex,b∉X.fs
 Q1:X.s₀.heap.FunFrames X.base X.outer
 frf:∀b∈X.fs,X.H₀ b=none
structure Inv(X:Cx)(pins:List (Addr×Obj))(σ:List (Option V))(H:Hp)(s:Shared):Prop where
 ok:X.Ok
 os:s.os=X.s₀.os
 bare:AllBare s.gens
 base:Un X.fs X.ex X.H₀ H X.s₀.heap s.heap
 loc:∃m,s.heap.Ns X.env.locals m/\∀(i:Nat) (x:Str) (v:V),X.N[i]? = some x->σ[i]? = some (some v)->Vis X.env.scope x->∃u,RelV v u/\Look X.env s.heap m x u
 cell:∀x c,X.env.cells.lookup x=some c->∃v,s.heap.IsCell c v
 free:H X.env.locals=none
 freeC:∀x c,X.env.cells.lookup x=some c->H c=none
 pin:∀p∈X.pn++pins,s.heap.get? p.1=some p.2/\H p.1=none/\p.1≠X.env.locals/\p.1∉X.fs/\∀v,p.2.data≠.cell v
 hok:HOk X.prog X.w H s.heap
 len:σ.length=X.N.length
section
variable{X:Cx}{pins:List (Addr×Obj)}{σ:List (Option V)}{H H':Hp}{s:Shared}{h':Heap}
theorem Cx.Ok.nofr(ok:X.Ok){b:Addr}{o:Obj}(e:X.base.get? b=some o):b∉X.fs:=fun hb=>by
 have:=(ok.Q1.mem hb).1
 rw[e] at this;cases this
theorem Inv.bs(I:Inv X pins σ H s):∀b o,X.base.get? b=some o->s.heap.get? b=some o/\H b=none:=fun b o e=>
 ⟨I.base.keep b o (I.ok.bs b o e).1 (I.ok.bs b o e).2 (I.ok.nofr e) (I.ok.noex b o e),I.base.free b o (I.ok.bs b o e).1 (I.ok.bs b o e).2 (I.ok.noex b o e)⟩
theorem Inv.bk(I:Inv X pins σ H s):∀b o,X.base.get? b=some o->s.heap.get? b=some o:=fun b o e=>(I.bs b o e).1
theorem Inv.mod(I:Inv X pins σ H s):Mod X.K X.mg X.base:=I.ok.mod
theorem Inv.kIn(I:Inv X pins σ H s):X.K.In s.heap:=I.ok.mod.kin.keeps I.bk
theorem Inv.fr(I:Inv X pins σ H s):∃m,Fr X.base X.env.locals s.heap m:=
 let ⟨m,hn,_⟩:=I.loc
 ⟨m,hn,I.bk,cM I.ok.bsz I.ok.above⟩
theorem Inv.lt(I:Inv X pins σ H s):X.env.locals<s.heap.objs.size:=let ⟨_,hn,_⟩:=I.loc;hn.lt
theorem Inv.sz(I:Inv X pins σ H s):X.s₀.heap.objs.size≤s.heap.objs.size:=cM I.ok.above (dQ I.lt)
theorem Inv.nofs(I:Inv X pins σ H s){a:Addr}(h:s.heap.objs.size≤a):a∉X.fs:=fun hb=>by
 obtain⟨_,o,ho,_⟩:=I.ok.Q1.mem hb
 exact absurd (cU (bP ho) (cM I.sz h)) (dP _)
theorem Inv.cne(I:Inv X pins σ H s):∀x c,X.env.cells.lookup x=some c->c≠X.env.locals:=fun x c e z=>by
 obtain⟨v,o,ho,hd⟩:=I.cell x c e
 obtain⟨m,⟨o',es,ep,ho',hd',_⟩,_⟩:=I.loc
 rw[z,ho'] at ho;cases ho;rw[hd'] at hd;cases hd
theorem Inv.Q1(I:Inv X pins σ H s):s.heap.FunFrames X.base X.outer:=by
 have all:∀(l:List Env),(∀b∈frs l,b∈X.fs)->X.s₀.heap.FunFrames X.base l->s.heap.FunFrames X.base l:=by
  intro l
  induction l with
  | nil=>intro _ _;trivial
  | cons env r ih=>
   intro hs hl
   obtain⟨hk,⟨L,o,hf,hn,ho,hd⟩,hr⟩:=hl
   have hL:L∈X.fs:=hs L (by unfold frs;rw[dR,hf];exact bU)
   obtain⟨sl,e⟩:=I.base.slot L o ho (I.ok.frf L hL) hL fun z=>I.ok.exfs L z hL
   exact⟨hk,⟨L,_,hf,hn,e,hd⟩,ih (fun b hb=>hs b (by unfold frs;rw[dR,hf];exact bS _ hb)) hr⟩
 exact all X.outer (fun _ hb=>hb) I.ok.Q1
theorem Inv.stack(I:Inv X pins σ H s):s.heap.FunFrames X.base X.stack:=by
 rcases I.ok.stk with e|⟨e,hf⟩
 ·rw[e];exact I.Q1
 ·rw[e]
  obtain⟨m,hn,_⟩:=I.loc
  refine .cons (by rw[I.ok.kind];decide) hf hn ?_ I.Q1
  exact Heap.get?_none_of_le (cM I.ok.bsz I.ok.above)
theorem Inv.Q4(I:Inv X pins σ H s):∀b∈frs X.stack,b∈X.env.locals::X.fs:=fun b hb=>by
 rcases I.ok.stk with e|⟨e,hf⟩
 ·rw[e] at hb;exact bS _ hb
 ·rw[e] at hb
  unfold frs at hb
  rw[dR,hf] at hb
  exact hb
theorem Inv.V0(I:Inv X pins σ H s):∀b∈frs X.stack,H b=none:=fun b hb=>by
 rcases bA.mp (I.Q4 b hb) with e|hb
 ·rw[e];exact I.free
 ·obtain⟨_,o,ho,_⟩:=I.ok.Q1.mem hb
  exact I.base.free b o ho (I.ok.frf b hb) fun z=>I.ok.exfs b z hb
theorem Inv.step{g':Array GenState}{t':Nat}{d':Drawn}{ch:List Addr}(I:Inv X pins σ H s)
  (hch:∀b∈ch,(b∈X.ex\/X.s₀.heap.objs.size≤b)/\b≠X.env.locals/\(∀x c,X.env.cells.lookup x=some c->c≠b)/\∀p∈X.pn++pins,p.1≠b)
  (keep:∀b o,b≠X.env.locals->b∉X.fs->b∉ch->s.heap.get? b=some o->H b=none->h'.get? b=some o)
  (slot:∀b o,b≠X.env.locals->b∈X.fs->b∉ch->s.heap.get? b=some o->H b=none->∃sl,h'.get? b=some { o with slots:=sl }) (free:∀b o,b∉ch->s.heap.get? b=some o->H b=none->H' b=none)
  (there:∀b o,b∉ch->s.heap.get? b=some o->∃o',h'.get? b=some o')
  (T6:∀b xs,H b=some (.tup xs)->H' b=some (.tup xs)) (S1:∀b o u,H b=some (.frz o u)->H' b=some (.frz o u)) (T9:∀b ps,H b=some (.tbl ps)->∃more,H' b=some (.tbl (ps++more)))
  (ns:∀m,s.heap.Ns X.env.locals m->h'.Ns X.env.locals m) (hok:HOk X.prog X.w H' h') (hg:AllBare g') :
  Inv X pins σ H' { s with heap:=h',gens:=g',drawn:=d',toks:=t' }:=by
 have neL:∀b o,X.s₀.heap.get? b=some o->b≠X.env.locals:=fun b o e=>cK (cU (bP e) I.ok.above)
 have neC:∀b o,X.s₀.heap.get? b=some o->b∉X.ex->b∉ch:=fun b o e hx hb=>by
  rcases(hch b hb).1 with z|z
  ·exact hx z
  ·exact absurd (cU (bP e) z) (dP _)
 have cellK:∀x c,X.env.cells.lookup x=some c->∀v,s.heap.IsCell c v->h'.IsCell c v:=fun x c e v ⟨o,ho,hd⟩=>by
  have nch:c∉ch:=fun z=>(hch c z).2.2.1 x c e rfl
  by_cases hc:c∈X.fs
  ·obtain⟨sl,q⟩:=slot c o (I.cne x c e) hc nch ho (I.freeC x c e)
   exact⟨_,q,hd⟩
  ·exact⟨o,keep c o (I.cne x c e) hc nch ho (I.freeC x c e),hd⟩
 refine⟨I.ok,I.os,hg,⟨fun b o e n hb hx=>?_,fun b o e n hb hx=>?_,fun b o e n hx=>?_,fun b o e hx=>?_,fun b xs e=>T6 b xs (I.base.T6 b xs e),fun b o xs e=>S1 b o xs (I.base.S1 b o xs e),fun b ps e=>?_⟩,?_,fun x c e=>?_,?_,fun x c e=>?_,fun p hp=>?_,hok,I.len⟩
 ·exact keep b o (neL b o e) hb (neC b o e hx) (I.base.keep b o e n hb hx) (I.base.free b o e n hx)
 ·obtain⟨sl,e1⟩:=I.base.slot b o e n hb hx
  obtain⟨sl',e2⟩:=slot b _ (neL b o e) hb (neC b o e hx) e1 (I.base.free b o e n hx)
  exact⟨sl',e2⟩
 ·obtain⟨o',e1⟩:=I.base.there b o e hx
  exact free b o' (neC b o e hx) e1 (I.base.free b o e n hx)
 ·obtain⟨o',e1⟩:=I.base.there b o e hx
  exact there b o' (neC b o e hx) e1
 ·obtain⟨m1,e1⟩:=I.base.T9 b ps e
  obtain⟨m2,e2⟩:=T9 b _ e1
  exact⟨m1++m2,by rw[e2,Array.append_assoc]⟩
 ·obtain⟨m,hn,hl⟩:=I.loc
  refine⟨m,ns m hn,fun i x v e1 e2 e3=>?_⟩
  obtain⟨u,r,l⟩:=hl i x v e1 e2 e3
  refine⟨u,r,?_⟩
  rcases l with l|⟨k,c,e,z⟩
  ·exact .inl l
  ·exact .inr ⟨k,c,e,cellK x c e _ z⟩
 ·obtain⟨v,z⟩:=I.cell x c e
  exact⟨v,cellK x c e v z⟩
 ·obtain⟨m,⟨o,_,_,ho,_⟩,_⟩:=I.loc
  exact free _ o (fun z=>(hch _ z).2.1 rfl) ho I.free
 ·obtain⟨v,o,ho,hd⟩:=I.cell x c e
  exact free c o (fun z=>(hch c z).2.2.1 x c e rfl) ho (I.freeC x c e)
 ·obtain⟨e,n,ne,nf,d⟩:=I.pin p hp
  have nch:p.1∉ch:=fun z=>(hch p.1 z).2.2.2 p hp rfl
  exact⟨keep p.1 p.2 ne nf nch e n,free p.1 p.2 nch e n,ne,nf,d⟩
theorem Inv.un{t':Nat}(I:Inv X pins σ H s)(u:Un X.fs [] H H' s.heap h')(hok:HOk X.prog X.w H' h'):Inv X pins σ H' { s with heap:=h',toks:=t' }:=by
 obtain⟨m,⟨o,es,ep,ho,r⟩,_⟩:=id I.loc
 obtain⟨sl,hL⟩:=u.any ho I.free (by simp)
 exact I.step (g':=s.gens) (d':=s.drawn) (ch:=[]) (fun _ z=>nomatch z) (fun b o _ hb _ e n=>u.keep b o e n hb (by simp)) (fun b o _ hb _ e n=>u.slot b o e n hb (by simp)) (fun b o _ e n=>u.free b o e n (by simp)) (fun b o _ e=>u.there b o e (by simp)) u.T6 u.S1 u.T9 (fun m' hm=>by
  obtain⟨o',es',ep',ho',r'⟩:=hm
  rw[ho] at ho';cases ho'
  exact⟨_,es',ep',hL,r'⟩) hok I.bare
theorem Inv.call{g':Array GenState}{t':Nat}{d':Drawn}{ch:List Addr}(I:Inv X pins σ H s)(u:Un (frs X.stack) ch H H' s.heap h')(hok:HOk X.prog X.w H' h')(hg:AllBare g')
  (hch:∀b∈ch,(b∈X.ex\/X.s₀.heap.objs.size≤b)/\b≠X.env.locals/\(∀x c,X.env.cells.lookup x=some c->c≠b)/\∀p∈X.pn++pins,p.1≠b) :
  Inv X pins σ H' { s with heap:=h',gens:=g',drawn:=d',toks:=t' }:=by
 obtain⟨m,⟨o,es,ep,ho,r⟩,_⟩:=id I.loc
 obtain⟨sl,hL⟩:=u.any ho I.free fun z=>(hch _ z).2.1 rfl
 exact I.step (ch:=ch) hch (fun b o hL hb hc e n=>u.keep b o e n (fun z=>(bA.mp (I.Q4 b z)).elim hL hb) hc) (fun b o _ _ hc e n=>u.any e n hc) (fun b o hc e n=>u.free b o e n hc) (fun b o hc e=>u.there b o e hc) u.T6 u.S1 u.T9 (fun m' hm=>by
  obtain⟨o',es',ep',ho',r'⟩:=hm
  rw[ho] at ho';cases ho'
  exact⟨_,es',ep',hL,r'⟩) hok hg
theorem Inv.turned{t':Nat}{it:Addr}(I:Inv X pins σ H s)(k:∀b o,b≠it->s.heap.get? b=some o->h'.get? b=some o)(hn:H it=none)(hL:it≠X.env.locals)
  (h1:it∈X.ex\/X.s₀.heap.objs.size≤it) (h2:∀x c,X.env.cells.lookup x=some c->c≠it) (h3:∀p∈X.pn++pins,p.1≠it):Inv X pins σ H { s with heap:=h',toks:=t' }:=by
 have nit:∀b u,H b=some u->b≠it:=fun b u e z=>by rw[z,hn] at e;cases e
 refine I.step (g':=s.gens) (d':=s.drawn) (ch:=[it]) (fun b hb=>?_) (fun b o _ _ hc e _=>k b o (fun z=>hc (by simp[z])) e) (fun b o _ _ hc e _=>⟨o.slots,k b o (fun z=>hc (by simp[z])) e⟩) (fun _ _ _ _ n=>n)
  (fun b o hc e=>⟨o,k b o (fun z=>hc (by simp[z])) e⟩) (fun _ _ e=>e) (fun _ _ _ e=>e) (fun b ps e=>⟨#[],by rw[e];simp⟩) (fun m hm=>?_) (fun b u e=>?_) I.bare
 ·have e:b=it:=by simpa using hb
  subst e
  exact⟨h1,hL,h2,h3⟩
 ·obtain⟨o,es,ep,ho,r⟩:=hm
  exact⟨o,es,ep,k _ o (dE hL) ho,r⟩
 ·refine(I.hok b u e).W0 (fun c v hc q=>k c v ?_ q) (fun _ q=>q) fun _ _ q=>q
  rcases hc with z|z
  ·rw[z];exact nit b u e
  ·exact nit c _ z
theorem Inv.tok(I:Inv X pins σ H s)(t:Nat):Inv X pins σ H { s with toks:=t }:=I.un (h':=s.heap) (t':=t) Un.refl I.hok
theorem Inv.kept{t':Nat}(I:Inv X pins σ H s)(k:∀b u,s.heap.get? b=some u->h'.get? b=some u):Inv X pins σ H { s with heap:=h',toks:=t' }:=I.un (Un.kept k) (I.hok.kept k)
theorem Inv.laid{a:Addr}{o:HO}{t':Nat}(I:Inv X pins σ H s)(k:∀b u,s.heap.get? b=some u->h'.get? b=some u)(hp:s.heap.objs.size≤a)(new:z1B X.prog X.w (upd H a o) h' a o) :
  Inv X pins σ (upd H a o) { s with heap:=h',toks:=t' }:=I.un (Un.laid k hp (I.hok.fresh hp)) (I.hok.laid k hp new)
theorem Inv.write{x e:Addr}{o:HO}{t':Nat}(I:Inv X pins σ H s)(mu:Mut (H x))(he:e=x\/H e=some (.own x))(k:∀b u,b≠e->s.heap.get? b=some u->h'.get? b=some u)(heo:∃u,h'.get? e=some u)
  (new:z1B X.prog X.w (upd H x o) h' x o):Inv X pins σ (upd H x o) { s with heap:=h',toks:=t' }:=I.un (Un.write mu he k heo) (I.hok.write mu he k heo new)
theorem Inv.weak{σ':List (Option V)}(I:Inv X pins σ H s)(hl:σ'.length=σ.length)(w:∀(i:Nat) v,σ'[i]? = some (some v)->σ[i]? = some (some v)):Inv X pins σ' H s:=
 ⟨I.ok,I.os,I.bare,I.base,let ⟨m,hn,hl'⟩:=I.loc;⟨m,hn,fun i x v e1 e2 e3=>hl' i x v e1 (w i v e2) e3⟩,I.cell,I.free,I.freeC,I.pin,I.hok,hl.trans I.len⟩
theorem Inv.O7{pins':List (Addr×Obj)}(I:Inv X pins σ H s)(h:∀p∈pins',s.heap.get? p.1=some p.2/\H p.1=none/\p.1≠X.env.locals/\p.1∉X.fs/\∀v,p.2.data≠.cell v):Inv X pins' σ H s:=
 ⟨I.ok,I.os,I.bare,I.base,I.loc,I.cell,I.free,I.freeC,fun p hp=>(bN.mp hp).elim (fun z=>I.pin p (cR _ z)) (h p),I.hok,I.len⟩
theorem y1V{N:List Str}(hN:N.Nodup){i j:Nat}{x:Str}(a:N[i]? = some x)(b:N[j]? = some x):i=j:=by
 obtain⟨h1,e1⟩:=bW.mp a
 obtain⟨h2,e2⟩:=bW.mp b
 exact(List.getElem_inj hN).mp (e1.trans e2.symm)
theorem y4r{M:Model}{A:Around}{E:Value->Shared->Prop}{i:Nat}{x:Str}{v:V}{u:Value}{Q:Unit->Shared->Prop}(I:Inv X pins σ H s)(hN:X.N.Nodup)(hi:X.N[i]? = some x)(hx:Loc X.env.scope x)(r:RelV v u)
  (h:∀s',Inv X pins (σ.set i (some v)) H s'->(∃a,Heap.SameBut a s.heap s'.heap/\(a=X.env.locals\/X.env.cells.lookup x=some a))->Q () s') (hf:X.fn x=true\/X.env.scope.names.lookup x=some .local:=by first|exact .inl rfl|exact .inr rfl|assumption):wpAny M A (storeName X.env x u) Q E s:=by
 obtain⟨m,hn,hl⟩:=id I.loc
 have hcls:(X.env.scope.kind == .class || (X.env.scope.kind == .module && X.env.locals != X.env.globals))=false:=by rw[I.ok.kind];rfl
 have hiσ:i<σ.length:=by rw[I.len];exact(bW.mp hi).1
 have cne:=I.cne
 have tracked:∀{a:Addr}{h':Heap},(∃o,s.heap.get? a=some o/\H a=none)->Heap.SameBut a s.heap h'->HOk X.prog X.w H h':=fun {a h'} ha hs b ob e=>by
  obtain⟨_,_,hfree⟩:=ha
  refine(I.hok b ob e).W0 (fun c w' hc q=>(hs.2 c ?_).trans q) (fun _ q=>q) fun _ _ q=>q
  rintro rfl
  rcases hc with rfl|hc
  ·rw[hfree] at e;cases e
  ·rw[hfree] at hc;cases hc
 rcases hx with hk|hk
 ·refine wpAny_storeName_local hk hn (fun h' hn' hs=>?_) hcls
  obtain⟨oL,_,_,hoL,_⟩:=id hn
  refine h _ ⟨I.ok,I.os,I.bare,⟨fun b o e n hb hx=>?_,fun b o e n hb hx=>?_,I.base.free,fun b o e hx=>?_,I.base.T6,I.base.S1,I.base.T9⟩,⟨_,hn',fun j y v' e1 e2 e3=>?_⟩,fun y c e=>?_,I.free,I.freeC,fun p hp=>?_,tracked ⟨oL,hoL,I.free⟩ hs,by simpa using I.len⟩ ⟨_,hs,.inl rfl⟩
  ·exact(hs.2 b (cK (cU (bP e) I.ok.above))).trans (I.base.keep b o e n hb hx)
  ·obtain⟨sl,e1⟩:=I.base.slot b o e n hb hx
   exact⟨sl,(hs.2 b (cK (cU (bP e) I.ok.above))).trans e1⟩
  ·obtain⟨o',e1⟩:=I.base.there b o e hx
   exact⟨o',(hs.2 b (cK (cU (bP e) I.ok.above))).trans e1⟩
  ·by_cases hj:j=i
   ·subst hj
    rw[hi] at e1;cases e1
    rw[List.getElem?_set_self hiσ] at e2
    cases e2
    exact⟨u,r,.inl ⟨hk,by simp⟩⟩
   ·rw[jA (dE hj)] at e2
    obtain⟨u',r',q⟩:=hl j y v' e1 e2 e3
    refine⟨u',r',?_⟩
    rcases q with ⟨k,e⟩|⟨k,c,e,z⟩
    ·refine .inl ⟨k,?_⟩
     have:y≠x:=fun e=>hj (y1V hN e1 (e ▸ hi))
     simp[this,e]
    ·exact .inr ⟨k,c,e,z.sameBut hs (cne y c e)⟩
  ·obtain⟨w',z⟩:=I.cell y c e
   exact⟨w',z.sameBut hs (cne y c e)⟩
  ·obtain⟨e,n,ne,nf,d⟩:=I.pin p hp
   exact⟨(hs.2 p.1 ne).trans e,n,ne,nf,d⟩
 ·have hfn:X.fn x=true:=by
   rcases hf with z|z
   ·exact z
   ·rw[z] at hk;cases hk
  obtain⟨c,hc⟩:=I.ok.has x (.inl hk)
  obtain⟨w',z⟩:=I.cell x c hc
  refine wpAny_storeName_cell I.ok.kind hk hc z (fun h' hc' hs=>?_)
  obtain⟨oc,hoc,hocd⟩:=id z
  refine h { s with heap:=h' } ⟨I.ok,I.os,I.bare,⟨fun b o e n hb hx=>?_,fun b o e n hb hx=>?_,I.base.free,fun b o e hx=>?_,I.base.T6,I.base.S1,I.base.T9⟩,⟨m,hn.sameBut hs (dE (cne x c hc)),fun j y v' e1 e2 e3=>?_⟩,fun y c' e=>?_,I.free,I.freeC,fun p hp=>?_,tracked ⟨oc,hoc,I.freeC x c hc⟩ hs,by simpa using I.len⟩ ⟨c,hs,.inr hc⟩
  ·exact(hs.2 b (cK (cU (bP e) (I.ok.cab x c hfn hc)))).trans (I.base.keep b o e n hb hx)
  ·obtain⟨sl,e1⟩:=I.base.slot b o e n hb hx
   exact⟨sl,(hs.2 b (cK (cU (bP e) (I.ok.cab x c hfn hc)))).trans e1⟩
  ·obtain⟨o',e1⟩:=I.base.there b o e hx
   exact⟨o',(hs.2 b (cK (cU (bP e) (I.ok.cab x c hfn hc)))).trans e1⟩
  ·by_cases hj:j=i
   ·subst hj
    rw[hi] at e1;cases e1
    rw[List.getElem?_set_self hiσ] at e2
    cases e2
    exact⟨u,r,.inr ⟨.inl hk,c,hc,hc'⟩⟩
   ·rw[jA (dE hj)] at e2
    obtain⟨u',r',q⟩:=hl j y v' e1 e2 e3
    refine⟨u',r',?_⟩
    rcases q with q|⟨k,c',e,z'⟩
    ·exact .inl q
    ·refine .inr ⟨k,c',e,z'.sameBut hs ?_⟩
     rintro rfl
     exact hj (y1V hN e1 (I.ok.inj _ _ _ e hc ▸ hi))
  ·by_cases hcc:c'=c
   ·subst hcc;exact⟨_,hc'⟩
   ·obtain⟨w2,z2⟩:=I.cell y c' e
    exact⟨w2,z2.sameBut hs hcc⟩
  ·obtain⟨e,n,ne,nf,d⟩:=I.pin p hp
   refine⟨(hs.2 p.1 ?_).trans e,n,ne,nf,d⟩
   intro q
   rw[q,hoc] at e
   have q':oc=p.2:=Option.some.inj e
   exact d w' (by rw[<- q'];exact hocd)
theorem y1P{M:Model}{A:Around}{E:Value->Shared->Prop}{i:Nat}{x:Str}{v:V}{u:Value}{Q:Unit->Shared->Prop}(I:Inv X pins σ H s)(hN:X.N.Nodup)(hi:X.N[i]? = some x)(hx:Loc X.env.scope x)(r:RelV v u)
  (h:∀s',Inv X pins (σ.set i (some v)) H s'->Q () s') (hf:X.fn x=true\/X.env.scope.names.lookup x=some .local:=by first|exact .inl rfl|exact .inr rfl|assumption):wpAny M A (storeName X.env x u) Q E s:=
 y4r I hN hi hx r (fun s' I' _=>h s' I') hf
theorem Inv.w1c{s':Shared}{ch:List Addr}(I:Inv X pins σ H s)(ho:s'.os=s.os)(u:Un (frs X.stack) ch H H' s.heap s'.heap)(hok:HOk X.prog X.w H' s'.heap)(hg:AllBare s'.gens)
  (hch:∀b∈ch,(b∈X.ex\/X.s₀.heap.objs.size≤b)/\b≠X.env.locals/\(∀x c,X.env.cells.lookup x=some c->c≠b)/\∀p∈X.pn++pins,p.1≠b):Inv X pins σ H' s':=by
 obtain⟨h',g',d',t',o'⟩:=s'
 have e:o'=s.os:=ho
 subst e
 exact I.call (g':=g') (t':=t') (d':=d') u hok hg hch
end
abbrev XK:=Value->Option Addr->Hp->Prop
abbrev St:=List (Option V)
abbrev VK:=V->Hp->Prop
abbrev TE:=St->Hp->VK->Prop
abbrev TT:=St->Hp->(Bool->Hp->Prop)->Prop
abbrev TA:=St->Hp->(List V->Hp->Prop)->Prop
structure Ends where
 nx:St->Hp->Prop
 rt:VK
 bk:St->Hp->Prop:=fun _ _=>False
 ct:St->Hp->Prop:=fun _ _=>False
abbrev TS:=Ends->St->Hp->Prop
def EP(X:Cx)(pins:List (Addr×Obj))(σ:St)(Q:VK)(u:Value)(s':Shared):Prop:=∃v H',Inv X pins σ H' s'/\RelV v u/\Q v H'
def TP(X:Cx)(pins:List (Addr×Obj))(σ:St)(Q:Bool->Hp->Prop)(b:Bool)(s':Shared):Prop:=∃H',Inv X pins σ H' s'/\Q b H'
def AP(X:Cx)(pins:List (Addr×Obj))(σ:St)(Q:List V->Hp->Prop)(us:List Value)(s':Shared):Prop:=∃vs H',Inv X pins σ H' s'/\Vals vs us/\Q vs H'
def SP(X:Cx)(pins:List (Addr×Obj))(D:Ends)(f:Flow)(s':Shared):Prop:=
 match f with
 | .next=>∃σ' H',Inv X pins σ' H' s'/\D.nx σ' H'
 | .brk=>∃σ' H',Inv X pins σ' H' s'/\D.bk σ' H'
 | .cont=>∃σ' H',Inv X pins σ' H' s'/\D.ct σ' H'
 | .ret u=>∃v σ' H',Inv X pins σ' H' s'/\RelV v u/\D.rt v H'
def PE(X:Cx)(e:Expr)(t:TE):Prop:=
 ∀(pins:List (Addr×Obj)) (s:Shared) (σ:St) (H:Hp) (Q:VK),Inv X pins σ H s->t σ H Q->wpAny (model X.prog X.w) X.A (eval e X.env) (EP X pins σ Q) X.xe s
def PT(X:Cx)(e:Expr)(t:TT):Prop:=
 ∀(pins:List (Addr×Obj)) (s:Shared) (σ:St) (H:Hp) (Q:Bool->Hp->Prop),Inv X pins σ H s->t σ H Q->wpAny (model X.prog X.w) X.A (isTrue e X.env (eval e X.env)) (TP X pins σ Q) X.xe s
def PW(X:Cx)(e:Expr)(t:TT):Prop:=
 ∀(whole:Sem Value) (pins:List (Addr×Obj)) (s:Shared) (σ:St) (H:Hp) (Q:Bool->Hp->Prop),Inv X pins σ H s->t σ H Q->wpAny (model X.prog X.w) X.A (isTrue e X.env whole) (TP X pins σ Q) X.xe s
theorem PW.pt{X:Cx}{e:Expr}{t:TT}(h:PW X e t):PT X e t:=h _
def PA(X:Cx)(es:List Expr)(t:TA):Prop:=
 ∀(pos:Pos) (pins:List (Addr×Obj)) (s:Shared) (σ:St) (H:Hp) (Q:List V->Hp->Prop),Inv X pins σ H s->t σ H Q->wpAny (model X.prog X.w) X.A (spliced (backTo pos (starEach es X.env))) (AP X pins σ Q) X.xe s
def PS(X:Cx)(st:Stmt)(t:TS):Prop:=
 ∀(pins:List (Addr×Obj)) (s:Shared) (σ:St) (H:Hp) (D:Ends),Inv X pins σ H s->t D σ H->wpAny (model X.prog X.w) X.A (exec st X.env) (SP X pins D) X.xe s
def PSs(X:Cx)(st:List Stmt)(t:TS):Prop:=
 ∀(pins:List (Addr×Obj)) (s:Shared) (σ:St) (H:Hp) (D:Ends),Inv X pins σ H s->t D σ H->wpAny (model X.prog X.w) X.A (execs st X.env) (SP X pins D) X.xe s
theorem thn{α:Type}{t:Sem α}{Q Q':α->Shared->Prop}{M:Model}{A:Around}{E:Value->Shared->Prop}{s:Shared}(h:wpAny M A t Q E s)(hQ:∀a s,Q a s->Q' a s):wpAny M A t Q' E s:=wpAny_mono h hQ fun _ _ x=>x
section
variable{X:Cx}
def T5(i:Nat):TE:=fun σ H Q=>∃v,σ[i]? = some (some v)/\Q v H
def tC(v:V):TE:=fun _ H Q=>Q v H
theorem y7f{i:Nat}{x:Str}{pos:Pos}(hN:X.N[i]? = some x)(hv:Vis X.env.scope x)(hd:(x == ("__debug__":Str))=false:=by decide)(hcd:(x == ("__classdict__":Str))=false:=by decide):PE X (.Name x pos) (T5 i):=by
 intro pins s σ H Q I h
 obtain⟨v,e,h⟩:=h
 obtain⟨m,hn,hl⟩:=I.loc
 obtain⟨u,r,l⟩:=hl i x v hN e hv
 have fin:EP X pins σ Q u s:=⟨v,H,I,r,h⟩
 rcases l with ⟨hk,hm⟩|⟨hk,c,hc,V4⟩
 ·exact wpAny_Name (wpAny_loadName_local I.ok.kind hk hn hm fin) hd
 ·rcases hk with hk|hk
  ·exact wpAny_Name (wpAny_loadName_cell I.ok.kind hk hc V4 fin) hd
  ·exact wpAny_Name (wpAny_loadName_free I.ok.kind hk hc V4 fin hcd) hd
theorem z06{i j pos}:PE X (.Constant (.int i) j pos) (tC (.int i)):=fun _ _ _ H _ I h=>wpAny_Constant_int ⟨.int i,H,I.tok _,⟨_,rfl⟩,h⟩
theorem z1W{b j pos}:PE X (.Constant (.bool b) j pos) (tC (.bl b)):=fun _ _ _ H _ I h=>Constant_bool ⟨.bl b,H,I,rfl,h⟩
theorem z8P{j pos}:PE X (.Constant .none j pos) (tC .non):=fun _ _ _ H _ I h=>Constant_none ⟨.non,H,I,rfl,h⟩
theorem z58{x j pos}:PE X (.Constant (.str x) j pos) (tC (.str x)):=fun _ _ _ H _ I h=>Calls.Constant_str ⟨.str x,H,I.tok _,⟨_,rfl⟩,h⟩
def Gl(X:Cx)(x:Str):Prop:=X.env.kindOf x=some .globalImplicit
theorem y19{E:Value->Shared->Prop}{pins:List (Addr×Obj)}{s:Shared}{σ:St}{H:Hp}{x:Str}{u:Value}{pos:Pos}{Q:Value->Shared->Prop}(I:Inv X pins σ H s)(hg:Gl X x)(hm:X.mg x=some u)(h:Q u s)
  (hd:(x == ("__debug__":Str))=false:=by decide):wpAny (model X.prog X.w) X.A (eval (.Name x pos) X.env) Q E s:=
 Calls.Name_function_global I.ok.kind hg (Calls.loadGlobal_global (by rw[I.ok.glob];exact I.mod.glob.keeps I.bk) hm h) hd
theorem z79{E:Value->Shared->Prop}{pins:List (Addr×Obj)}{s:Shared}{σ:St}{H:Hp}{x:Str}{u:Value}{pos:Pos}{Q:Value->Shared->Prop}(I:Inv X pins σ H s)(hg:Gl X x)(hm:X.mg x=none)(hv:bootBuiltins x=some u)(h:Q u s)
  (hn:x≠"__name__":=by decide) (hd:(x == ("__debug__":Str))=false:=by decide):wpAny (model X.prog X.w) X.A (eval (.Name x pos) X.env) Q E s:=by
 obtain⟨mb,h1,h2⟩:=I.mod.blt
 exact Calls.Name_function_global I.ok.kind hg (Calls.loadGlobal_builtin (by rw[I.ok.glob];exact I.mod.glob.keeps I.bk) hm (by rw[I.ok.blt];exact h1.keeps I.bk) ((h2 x hn).trans hv) h) hd
theorem y36{x:Str}{v:V}{u:Value}{pos:Pos}(hg:Gl X x)(hm:X.mg x=some u)(r:RelV v u)(hd:(x == ("__debug__":Str))=false:=by decide):PE X (.Name x pos) (tC v):=
 fun _ _ _ H _ I h=>y19 I hg hm ⟨v,H,I,r,h⟩ hd
theorem z1S{x:Str}{v:V}{u:Value}{pos:Pos}(hg:Gl X x)(hm:X.mg x=none)(hv:bootBuiltins x=some u)(r:RelV v u)(hn:x≠"__name__":=by decide)(hd:(x == ("__debug__":Str))=false:=by decide):PE X (.Name x pos) (tC v):=
 fun _ _ _ H _ I h=>z79 I hg hm hv ⟨v,H,I,r,h⟩ hn hd
variable{a b:Expr}{ta tb:TE}{pos:Pos}
def PC(X:Cx)(op:CmpOp)(a b:Expr)(t:TE):Prop:=
 ∀(pins:List (Addr×Obj)) (s:Shared) (σ:St) (H:Hp) (Q:VK),Inv X pins σ H s->t σ H Q->
  wpAny (model X.prog X.w) X.A (eval a X.env) (fun v s₁=>wpAny (model X.prog X.w) X.A (eval b X.env) (fun u s₂=>wpAny (model X.prog X.w) X.A (compareOp op v u) (EP X pins σ Q) X.xe s₂) X.xe s₁) X.xe s
theorem y1A(b:Expr){op:CmpOp}(h:op≠.In)(h2:op≠.NotIn):behindInMarks op b=false:=by
 have e1:(op == CmpOp.In)=false:=by cases op<;>first|rfl|exact absurd rfl h
 have e2:(op == CmpOp.NotIn)=false:=by cases op<;>first|rfl|exact absurd rfl h2
 cases b<;>simp[behindInMarks,e1,e2]
def Z6(ta:TE):TE:=fun σ H Q=>ta σ H fun x H1=>Q (.bl (decide (x=.non))) H1
def w0D(ta:TE):TE:=fun σ H Q=>ta σ H fun x H1=>Q (.bl (!decide (x=.non))) H1
theorem RelV.S7{x:V}{v:Value}(r:RelV x v):(v == Value.none)=decide (x=.non):=by
 cases x with
 | non=>cases r;rfl
 | bl _=>cases r;rfl
 | int _=>obtain⟨t,rfl⟩:=r;rfl
 | str _=>obtain⟨t,rfl⟩:=r;rfl
 | byt _=>obtain⟨t,rfl⟩:=r;rfl
 | flt _=>obtain⟨t,rfl⟩:=r;rfl
 | ref _=>cases r;rfl
 | ty _=>cases r;rfl
theorem z8R{j pos'}(ha:PE X a ta):PC X .Is a (.Constant .none j pos') (Z6 ta):=by
 intro pins s σ H Q I h
 refine thn (ha pins s σ H _ I h) fun v s1 hz=>?_
 obtain⟨x,H1,I1,r1,q1⟩:=hz
 exact Constant_none (is_none_gen ⟨.bl _,H1,I1,by rw[r1.S7];rfl,q1⟩)
theorem y6r{j pos'}(ha:PE X a ta):PC X .IsNot a (.Constant .none j pos') (w0D ta):=by
 intro pins s σ H Q I h
 refine thn (ha pins s σ H _ I h) fun v s1 hz=>?_
 obtain⟨x,H1,I1,r1,q1⟩:=hz
 exact Constant_none (isnot_none_gen ⟨.bl _,H1,I1,by rw[r1.S7];rfl,q1⟩)
def tB(t:TE):TT:=fun σ H Q=>t σ H fun x H1=>∃c,x=.bl c/\Q c H1
theorem y3r{op:CmpOp}{t:TE}(h:PC X op a b t)(h1:behindInMarks op b=false:=by first|exact y1A _ (by decide) (by decide)|rfl):PE X (.Compare a [op] [b] pos) t:=fun pins s σ H Q I hw=>wpAny_Compare1 (h pins s σ H Q I hw) h1
theorem z8r{op:CmpOp}{t:TE}(h:PC X op a b t)(h1:behindInMarks op b=false:=by first|exact y1A _ (by decide) (by decide)|rfl):PT X (.Compare a [op] [b] pos) (tB t):=by
 intro pins s σ H Q I hw
 refine wpAny_isTrue_Compare1 (thn (h pins s σ H _ I hw) fun v s1 h1=>thn h1 fun u s2 h2=>thn h2 fun c s3 hz=>?_) h1
 obtain⟨x,H1,I1,r1,q1⟩:=hz
 obtain⟨d,rfl,q⟩:=q1
 cases r1
 exact wpAny_truthy_bool ⟨H1,I1,q⟩
theorem z24{e:Expr}{t:TE}(h:PE X e t)(he:∀whole,isTrue e X.env whole=(do let v <- whole;standAt e.pos;holding [v] (truthy v)):=by intro _;rfl):PT X e (tB t):=by
 intro pins s σ H Q I hw
 refine isTrue_plain (thn (h pins s σ H _ I hw) fun v s1 hz=>?_) (he _)
 obtain⟨x,H1,I1,r1,q1⟩:=hz
 obtain⟨d,rfl,q⟩:=q1
 cases r1
 exact wpAny_truthy_bool ⟨H1,I1,q⟩
variable{tA tB':TT}{rest:List Expr}
def tAnd(t u:TT):TT:=fun σ H Q=>t σ H fun c H1=>if c=true then u σ H1 Q else Q false H1
def tOr(t u:TT):TT:=fun σ H Q=>t σ H fun c H1=>if c=true then Q true H1 else u σ H1 Q
def tNot(t:TT):TT:=fun σ H Q=>t σ H fun c H1=>Q (!c) H1
theorem z2j(ha:PT X a tA):PW X (.BoolOp .And [a] pos) tA:=by
 intro wh pins s σ H Q I h
 refine isTrue_and (thn (ha pins s σ H Q I h) fun c s1 e=>?_)
 cases c with
 | true=>exact isTrue_and_nil e
 | false=>exact e
theorem z1T(ha:PT X a tA):PW X (.BoolOp .Or [a] pos) tA:=by
 intro wh pins s σ H Q I h
 refine isTrue_or (thn (ha pins s σ H Q I h) fun c s1 e=>?_)
 cases c with
 | false=>exact isTrue_or_nil e
 | true=>exact e
theorem z3c(ha:PT X a tA)(hb:PW X (.BoolOp .And (b::rest) pos) tB'):PW X (.BoolOp .And (a::b::rest) pos) (tAnd tA tB'):=by
 intro wh pins s σ H Q I h
 refine isTrue_and (thn (ha pins s σ H _ I h) fun c s1 hz=>?_)
 obtain⟨H1,I1,q1⟩:=hz
 cases c with
 | true=>exact hb wh pins s1 σ H1 Q I1 q1
 | false=>exact⟨H1,I1,q1⟩
theorem z3a(ha:PT X a tA)(hb:PW X (.BoolOp .Or (b::rest) pos) tB'):PW X (.BoolOp .Or (a::b::rest) pos) (tOr tA tB'):=by
 intro wh pins s σ H Q I h
 refine isTrue_or (thn (ha pins s σ H _ I h) fun c s1 hz=>?_)
 obtain⟨H1,I1,q1⟩:=hz
 cases c with
 | true=>exact⟨H1,I1,q1⟩
 | false=>exact hb wh pins s1 σ H1 Q I1 q1
theorem z2c(ha:PT X a tA):PT X (.UnaryOp .Not a pos) (tNot tA):=by
 intro pins s σ H Q I h
 exact isTrue_not (ha pins s σ H (fun c H1=>Q (!c) H1) I h)
def w0G(ta tb:TE):TE:=fun σ H Q=>ta σ H fun x H1=>∃c,x=.bl c/\if c=true then tb σ H1 Q else Q (.bl false) H1
def w1i(ta:TE):TE:=fun σ H Q=>ta σ H fun x H1=>∃c,x=.bl c/\Q (.bl (!c)) H1
theorem y5S{op}{t:TE}(h:PE X a t):PE X (.BoolOp op [a] pos) t:=fun pins s σ H Q I hw=>BoolOp_one (h pins s σ H Q I hw)
theorem y5W(ha:PE X a ta)(hb:PE X (.BoolOp .And (b::rest) pos) tb):PE X (.BoolOp .And (a::b::rest) pos) (w0G ta tb):=by
 intro pins s σ H Q I h
 refine BoolOp_and (thn (ha pins s σ H _ I h) fun v s1 hz=>?_)
 obtain⟨x,H1,I1,r1,q1⟩:=hz
 obtain⟨c,rfl,q1⟩:=q1
 cases r1
 refine wpAny_truthy_bool ?_
 cases c with
 | true=>exact hb pins s1 σ H1 Q I1 q1
 | false=>exact⟨.bl false,H1,I1,rfl,q1⟩
theorem y63(ha:PE X a ta):PE X (.UnaryOp .Not a pos) (w1i ta):=by
 intro pins s σ H Q I h
 refine UnaryOp_ (thn (ha pins s σ H _ I h) fun v s1 hz=>?_)
 obtain⟨x,H1,I1,r1,q1⟩:=hz
 obtain⟨c,rfl,q1⟩:=q1
 cases r1
 exact not_of (wpAny_truthy_bool ⟨.bl (!c),H1,I1,rfl,q1⟩)
def tIf(t:TT)(ta tb:TE):TE:=fun σ H Q=>t σ H fun c H1=>if c=true then ta σ H1 Q else tb σ H1 Q
theorem z60{c:Expr}(hc:PT X c tA)(ha:PE X a ta)(hb:PE X b tb):PE X (.IfExp c a b pos) (tIf tA ta tb):=by
 intro pins s σ H Q I h
 refine wpAny_IfExp (thn (hc pins s σ H _ I h) fun d s1 hz=>?_)
 obtain⟨H1,I1,q1⟩:=hz
 cases d with
 | true=>exact ha pins s1 σ H1 Q I1 q1
 | false=>exact hb pins s1 σ H1 Q I1 q1
end
def SqL(K:PySem.W.Frag)(H:Hp)(a:Addr)(xs:List V):Prop:=
 Rd H a (.lst xs)\/
  ∃(o:Obj) (its:Array Value) (n:Nat),K.lookup a=some o/\o.cls=.type "list"/\o.dict=none/\o.data=.seq its n/\its.size≤sizeLine/\Vals xs its.toList
def SqT(K:PySem.W.Frag)(H:Hp)(a:Addr)(xs:List V):Prop:=
 Rd H a (.tup xs)\/
  ∃(o:Obj) (its:Array Value) (n:Nat),K.lookup a=some o/\o.cls=.type "tuple"/\o.data=.seq its n/\its.size≤sizeLine/\Vals xs its.toList
def absV:Value->Option V
 | .none=>some .non
 | .bool b=>some (.bl b)
 | .int i _=>some (.int i)
 | .str x _=>some (.str x)
 | .bytes b _=>some (.byt b)
 | .float b _=>some (.flt b)
 | .ref a=>some (.ref a)
 | .type n=>some (.ty n)
 | _=>none
theorem RelV.abs{x:V}{u:Value}(r:RelV x u):absV u=some x:=by
 cases x with
 | non=>cases r;rfl
 | bl _=>cases r;rfl
 | int _=>obtain⟨t,rfl⟩:=r;rfl
 | str _=>obtain⟨t,rfl⟩:=r;rfl
 | byt _=>obtain⟨t,rfl⟩:=r;rfl
 | flt _=>obtain⟨t,rfl⟩:=r;rfl
 | ref _=>cases r;rfl
 | ty _=>cases r;rfl
theorem RelV.inj{x y:V}{u:Value}(r:RelV x u)(q:RelV y u):x=y:=Option.some.inj (r.abs.symm.trans q.abs)
theorem Vals.inj:∀{xs ys:List V}{us:List Value},Vals xs us->Vals ys us->xs=ys
 | _,_,_,.nil,.nil=>rfl
 | _,_,_,.cons r t,.cons r' t'=>by rw[r.inj r',Vals.inj t t']
section
variable{X:Cx}{pins:List (Addr×Obj)}{σ:St}{H:Hp}{s:Shared}{a:Addr}{xs ys:List V}
theorem SqL.of{K:PySem.W.Frag}(h:H a=some (.lst xs)):SqL K H a xs:=.inl (.inl h)
theorem SqT.of{K:PySem.W.Frag}(h:H a=some (.tup xs)):SqT K H a xs:=.inl (.inl h)
theorem Inv.list(I:Inv X pins σ H s)(h:SqL X.K H a xs):∃its:List Value,Vals xs its/\PlainL s.heap a its.toArray/\xs.length≤sizeLine:=by
 rcases h with h|⟨o,its,n,hk,hc,hd,hs,hz,r⟩
 ·obtain⟨z,its,n,r,e⟩:=h.ok I.hok
  exact⟨its,r,⟨_,n,e,rfl,rfl,rfl⟩,z⟩
 ·refine⟨its.toList,r,⟨o,n,I.kIn a o hk,hc,hd,by simpa using hs⟩,?_⟩
  have e:=r.length
  simp only[gG] at e
  omega
theorem Inv.tuple(I:Inv X pins σ H s)(h:SqT X.K H a xs):∃its:List Value,Vals xs its/\IsTup s.heap a its.toArray/\xs.length≤sizeLine:=by
 rcases h with h|⟨o,its,n,hk,hc,hs,hz,r⟩
 ·obtain⟨z,its,r,p⟩:=h.ok I.hok
  exact⟨its,r,PlT.tup p,z⟩
 ·refine⟨its.toList,r,⟨o,I.kIn a o hk,hc,n,by simpa using hs⟩,?_⟩
  have e:=r.length
  simp only[gG] at e
  omega
theorem Inv.W4(I:Inv X pins σ H s)(h:SqL X.K H a xs)(h':SqL X.K H a ys):xs=ys:=by
 obtain⟨its,r,⟨o,n,e,_,_,d⟩,_⟩:=I.list h
 obtain⟨its',r',⟨o',n',e',_,_,d'⟩,_⟩:=I.list h'
 rw[e] at e';cases e'
 rw[d] at d'
 injection d' with d1 _
 have:its=its':=by simpa using congrArg Array.toList d1
 subst this
 exact r.inj r'
theorem Inv.R7(I:Inv X pins σ H s)(h:SqT X.K H a xs)(h':SqT X.K H a ys):xs=ys:=by
 obtain⟨its,r,⟨o,e,_,n,d⟩,_⟩:=I.tuple h
 obtain⟨its',r',⟨o',e',_,n',d'⟩,_⟩:=I.tuple h'
 rw[e] at e';cases e'
 rw[d] at d'
 injection d' with d1 _
 have:its=its':=by simpa using congrArg Array.toList d1
 subst this
 exact r.inj r'
end
abbrev Cx.R1(X:Cx)(E:Value->Shared->Prop):Cx:={ X with xe:=E }
abbrev Cx.nox(X:Cx):Cx:=X.R1 fun _ _=>False
theorem Cx.Ok.R1{X:Cx}(ok:X.Ok)(E:Value->Shared->Prop):(X.R1 E).Ok:=
 ⟨ok.mod,ok.kind,ok.glob,ok.blt,ok.above,ok.inj,ok.has,ok.cab,ok.hd,ok.frames,ok.stk,ok.exf,ok.bs,ok.bsz,ok.noex,ok.exfs,ok.Q1,ok.frf⟩
theorem Cx.Ok.L9{X:Cx}{E:Value->Shared->Prop}(ok:(X.R1 E).Ok):X.Ok:=
 ⟨ok.mod,ok.kind,ok.glob,ok.blt,ok.above,ok.inj,ok.has,ok.cab,ok.hd,ok.frames,ok.stk,ok.exf,ok.bs,ok.bsz,ok.noex,ok.exfs,ok.Q1,ok.frf⟩
section
variable{X:Cx}{pins:List (Addr×Obj)}{σ:St}{H:Hp}{s:Shared}{E:Value->Shared->Prop}
theorem Inv.R1(I:Inv X pins σ H s)(E:Value->Shared->Prop):Inv (X.R1 E) pins σ H s:=⟨I.ok.R1 E,I.os,I.bare,I.base,I.loc,I.cell,I.free,I.freeC,I.pin,I.hok,I.len⟩
theorem Inv.L9(I:Inv (X.R1 E) pins σ H s):Inv X pins σ H s:=⟨I.ok.L9,I.os,I.bare,I.base,I.loc,I.cell,I.free,I.freeC,I.pin,I.hok,I.len⟩
theorem SP.L9{D:Ends}{f:Flow}{s':Shared}(h:SP (X.R1 E) pins D f s'):SP X pins D f s':=by
 cases f with
 | next=>obtain⟨σ',H',I,q⟩:=h;exact⟨σ',H',I.L9,q⟩
 | brk=>obtain⟨σ',H',I,q⟩:=h;exact⟨σ',H',I.L9,q⟩
 | cont=>obtain⟨σ',H',I,q⟩:=h;exact⟨σ',H',I.L9,q⟩
 | ret u=>obtain⟨v,σ',H',I,r,q⟩:=h;exact⟨v,σ',H',I.L9,r,q⟩
theorem PSs.nox{st:List Stmt}{t:TS}(h:PSs X.nox st t):PSs X st t:=fun pins s σ H D I hw=>
 wpAny_mono (h pins s σ H D (I.R1 _) hw) (fun _ _ q=>q.L9) fun _ _ z=>False.elim z
end
section
variable{X:Cx}{st:Stmt}{rest:List Stmt}{t u:TS}{e:Expr}{te:TE}{pos:Pos}
def w1b:TS:=fun D σ H=>D.nx σ H
def tSeq(t u:TS):TS:=fun D σ H=>t { D with nx:=u D } σ H
theorem z0l:PSs X [] w1b:=fun _ _ σ H _ I h=>wpAny_execs_nil ⟨σ,H,I,h⟩
theorem z04(h1:PS X st t)(h2:PSs X rest u):PSs X (st::rest) (tSeq t u):=by
 intro pins s σ H D I h
 refine wpAny_execs_cons (thn (h1 pins s σ H { D with nx:=u D } I h) fun f s1 q=>?_)
 cases f with
 | next=>
  obtain⟨σ',H',I',q⟩:=q
  exact h2 pins s1 σ' H' D I' q
 | ret v=>exact q
 | brk=>exact q
 | cont=>exact q
theorem z05(h1:PS X st t):PSs X [st] t:=by
 intro pins s σ H D I h
 refine wpAny_execs_cons (thn (h1 pins s σ H D I h) fun f s1 q=>?_)
 cases f with
 | next=>exact wpAny_execs_nil q
 | ret v=>exact q
 | brk=>exact q
 | cont=>exact q
theorem Inv.quiet{pins:List (Addr×Obj)}{σ:St}{H:Hp}{s:Shared}(I:Inv X pins σ H s):interactive X.env=false:=by simp[interactive,I.ok.kind]
def w0n(te:TE):TS:=fun D σ H=>te σ H fun _ H1=>D.nx σ H1
theorem z0C(he:PE X e te)(hs:swapsWith e none pos.line X.env=pure false:=by rfl):PS X (.Expr e pos) (w0n te):=by
 intro pins s σ H D I h
 exact wpAny_Expr_any (thn (he pins s σ H _ I h) fun v s1 ⟨x,H1,I1,r1,q1⟩=>⟨σ,H1,I1,q1⟩) I.quiet hs
def tRet(te:TE):TS:=fun D σ H=>te σ H D.rt
theorem z0f(he:PE X e te):PS X (.Return (some e) pos) (tRet te):=by
 intro pins s σ H D I h
 exact wpAny_Return_some (thn (he pins s σ H _ I h) fun v s1 ⟨x,H1,I1,r1,q1⟩=>⟨x,σ,H1,I1,r1,q1⟩)
def tIfS(c:TT)(t u:TS):TS:=fun D σ H=>c σ H fun b H1=>if b=true then t D σ H1 else u D σ H1
theorem z0D{c:Expr}{a b:List Stmt}{tc:TT}(hc:PT X c tc)(ha:PSs X a t)(hb:PSs X b u):PS X (.If c a b pos) (tIfS tc t u):=by
 intro pins s σ H D I h
 refine wpAny_If (thn (hc pins s σ H _ I h) fun d s1 hz=>?_)
 obtain⟨H1,I1,q1⟩:=hz
 cases d with
 | true=>exact ha pins s1 σ H1 D I1 q1
 | false=>exact hb pins s1 σ H1 D I1 q1
def y75:TS:=fun _ _ _=>False
theorem z1x:PS X st y75:=fun _ _ _ _ _ _ h=>h.elim
end
abbrev TG:=V->St->Hp->(St->Hp->Prop)->Prop
abbrev TGs:=List V->St->Hp->(St->Hp->Prop)->Prop
def PG(X:Cx)(target:Expr)(t:TG):Prop:=
 ∀(pins:List (Addr×Obj)) (s:Shared) (σ:St) (H:Hp) (v:V) (u:Value) (Q:St->Hp->Prop),Inv X pins σ H s->RelV v u->t v σ H Q->
  wpAny (model X.prog X.w) X.A (assign target X.env u) (fun _ s'=>∃σ' H',Inv X pins σ' H' s'/\Q σ' H') X.xe s
def PGs(X:Cx)(ts:List Expr)(t:TGs):Prop:=
 ∀(pins:List (Addr×Obj)) (s:Shared) (σ:St) (H:Hp) (vs:List V) (us:List Value) (Q:St->Hp->Prop),Inv X pins σ H s->Vals vs us->t vs σ H Q->
  wpAny (model X.prog X.w) X.A (assignInOrder ((assignEach ts X.env).map (·.2)) us) (fun _ s'=>∃σ' H',Inv X pins σ' H' s'/\Q σ' H') X.xe s
section
variable{X:Cx}{pos:Pos}
def y48(i:Nat):TG:=fun v σ H Q=>Q (σ.set i (some v)) H
theorem z0j{i:Nat}{x:Str}(hN:X.N.Nodup)(hi:X.N[i]? = some x)(hx:Loc X.env.scope x)(hf:X.fn x=true\/X.env.scope.names.lookup x=some .local:=by first|exact .inl rfl|exact .inr rfl|assumption):PG X (.Name x pos) (y48 i):=by
 intro pins s σ H v u Q I r h
 exact wpAny_assign_Name (y1P I hN hi hx r (fun s' I'=>⟨_,H,I',h⟩) hf)
def Z8:TGs:=fun vs σ H Q=>vs=[]/\Q σ H
def y6Z(t:TG)(u:TGs):TGs:=fun vs σ H Q=>∃v r,vs=v::r/\t v σ H fun σ' H'=>u r σ' H' Q
theorem z5l:PGs X [] Z8:=by
 intro pins s σ H vs us Q I r h
 obtain⟨e,h⟩:=h
 subst e
 cases r
 exact assignInOrder_nil ⟨σ,H,I,h⟩
theorem z1m{e:Expr}{es:List Expr}{t:TG}{u:TGs}(h1:PG X e t)(h2:PGs X es u)
  (hs:(assignEach (e::es) X.env).map (·.2)=assign e X.env::(assignEach es X.env).map (·.2):=by rfl):PGs X (e::es) (y6Z t u):=by
 intro pins s σ H vs us Q I r h
 obtain⟨v,vr,e1,h⟩:=h
 subst e1
 cases r with
 | cons r rr=>
  rw[hs]
  refine assignInOrder_cons (thn (h1 pins s σ H _ _ _ I r h) fun _ s1 hz=>?_)
  obtain⟨σ1,H1,I1,q1⟩:=hz
  exact h2 pins s1 σ1 H1 _ _ Q I1 rr q1
def X8(K:PySem.W.Frag)(n:Nat)(t:TGs):TG:=fun v σ H Q=>∃a xs,v=.ref a/\SqT K H a xs/\xs.length=n/\t xs σ H Q
theorem y5J{es:List Expr}{k:Nat}{t:TGs}{n:Nat}(hc:X.calm=true)(h:PGs X es t)
  (hn:(assignEach es X.env).length=n:=by rfl) (hst:(assignEach es X.env).findIdx? (·.1)=none:=by rfl):PG X (.Tuple es k pos) (X8 X.K n t):=by
 intro pins s σ H v u Q I r hw
 obtain⟨a,xs,e1,hq,hl,hw⟩:=hw
 subst e1
 cases r
 obtain⟨its,rv,ht,hz⟩:=I.tuple hq
 refine assign_Tuple_tuple (I.ok.hd hc) ht (by simp[hn,<- hl,rv.length]) hst fun h' hx=>?_
 have I1:Inv X pins σ H { s with heap:=h' }:=I.kept (t':=s.toks) fun b o e=>hx b o (cK (bP e)) e
 exact h pins _ σ H xs _ Q I1 (by simpa using rv) hw
def tAsg(te:TE)(g:TG):TS:=fun D σ H=>te σ H fun x H1=>g x σ H1 D.nx
theorem z0p{i:Nat}{x:Str}{e:Expr}{te:TE}{pos':Pos}(hN:X.N.Nodup)(hi:X.N[i]? = some x)(hx:Loc X.env.scope x)(he:PE X e te)(hs:swapsWith e (some (.Name x pos')) pos.line X.env=pure false:=by rfl)(hf:X.fn x=true\/X.env.scope.names.lookup x=some .local:=by first|exact .inl rfl|exact .inr rfl|assumption) :
  PS X (.Assign [.Name x pos'] e pos) (tAsg te (y48 i)):=by
 intro pins s σ H D I h
 refine wpAny_Assign_Name (thn (he pins s σ H _ I h) fun v s1 hz=>?_) hs
 obtain⟨y,H1,I1,r1,q1⟩:=hz
 exact y1P I1 hN hi hx r1 (fun s2 I2=>⟨_,H1,I2,q1⟩) hf
end
section
variable{X:Cx}{pos:Pos}
end
structure It where
 go:Nat->Hp->Prop
 yld:Nat->Hp->V->Hp->Prop
 stop:Nat->Hp->Prop
def Q0(X:Cx)(pins:List (Addr×Obj))(H:Hp)(b:Addr):Prop:=
 H b=none/\b≠X.env.locals/\b∉X.fs/\(b∈X.ex\/X.s₀.heap.objs.size≤b)/\(∀x c,X.env.cells.lookup x=some c->c≠b)/\∀p∈X.pn++pins,p.1≠b
theorem Inv.S8{X:Cx}{pins:List (Addr×Obj)}{σ:St}{H H':Hp}{s:Shared}{b:Addr}(I:Inv X pins σ H s)(hb:s.heap.objs.size≤b)(hn:H' b=none):Q0 X pins H' b:=by
 refine⟨hn,gM (cU I.lt hb),I.nofs hb,.inr (cM I.sz hb),fun x c e z=>?_,fun p hp z=>?_⟩
 ·obtain⟨v,q⟩:=I.cell x c e
  exact absurd (cU q.lt (by rw[z];exact hb)) (dP _)
 ·exact absurd (cU (bP (I.pin p hp).1) (by rw[z];exact hb)) (dP _)
structure Turn(P:Program)(w:World)(K:PySem.W.Frag)(tg:Expr)(J:It)(fp:List Addr)(it:Addr)(tn:Nat->Heap->Prop):Prop where
 mem:it∈fp
 obj:∀i h,tn i h->∀b∈fp,∃o,h.get? b=some o/\∀v,o.data≠.cell v
 keep:∀i h h',tn i h->(∀b∈fp,∀o,h.get? b=some o->h'.get? b=some o)->tn i h'
 item:∀(X:Cx),X.prog=P->X.w=w->X.K=K->X.calm=true->∀(i:Nat) (pins:List (Addr×Obj)) (s:Shared) (σ:St) (H:Hp) (E:Value->Shared->Prop),Inv X pins σ H s->(∀b∈fp,Q0 X pins H b)->tn i s.heap->J.go i H->
  wpAny (model P w) X.A (pyNext (.ref it)) (fun r s1=>∃u,r=some u/\
   wpAny (model P w) X.A (letOwnedTupleGo tg (.ref it) u) (fun _ s2=>∃x H',Inv X pins σ H' s2/\RelV x u/\J.yld i H x H'/\tn (i+1) s2.heap/\∀b∈fp,H' b=none) E s1) E s
 done:∀(X:Cx),X.prog=P->X.w=w->X.K=K->X.calm=true->∀(i:Nat) (pins:List (Addr×Obj)) (s:Shared) (σ:St) (H:Hp) (E:Value->Shared->Prop),Inv X pins σ H s->(∀b∈fp,Q0 X pins H b)->tn i s.heap->J.stop i H->
  wpAny (model P w) X.A (pyNext (.ref it)) (fun r s1=>r=none/\Inv X pins σ H s1) E s
 self:∀(A:Around) (i:Nat) (s:Shared) (Q:Value->Shared->Prop) (E:Value->Shared->Prop),tn i s.heap->Q (.ref it) s->wpAny (model P w) A (pyIter (.ref it)) Q E s
abbrev TI:=St->Hp->(It->Hp->Prop)->Prop
def PIE(X:Cx)(pins:List (Addr×Obj))(σ:St)(tg:Expr)(R:It->Hp->Prop)(itv:Value)(s2:Shared):Prop:=
 ∃(it:Addr) (fp:List Addr) (tn:Nat->Heap->Prop) (J:It) (H':Hp),itv=.ref it/\Inv X pins σ H' s2/\Turn X.prog X.w X.K tg J fp it tn/\tn 0 s2.heap/\(∀b∈fp,Q0 X pins H' b)/\R J H'
def PI(X:Cx)(tg iter:Expr)(wi:TI):Prop:=
 ∀(pins:List (Addr×Obj)) (s:Shared) (σ:St) (H:Hp) (R:It->Hp->Prop),Inv X pins σ H s->wi σ H R->
  wpAny (model X.prog X.w) X.A (eval iter X.env) (fun v s1=>wpAny (model X.prog X.w) X.A (pyIter v) (PIE X pins σ tg R) X.xe s1) X.xe s
theorem y57 {M : Model} {A : Around} {E : Value -> Shared -> Prop} {s : Shared} {tg : Expr} {it : Addr} {u : Value} {o : Obj} {n : String} {vs : Array Value} {Q : Unit -> Shared -> Prop} (ho : s.heap.get? it = some o) (hc : o.cls = .type n) (hd : o.data = .fields vs)
    (hn : ["enumerate", "zip", "dict_itemiterator", "dict_reverseitemiterator", "odict_iterator", "itertools.zip_longest", "itertools.pairwise"].contains n = false) (hQ : Q () s) : wpAny M A (letOwnedTupleGo tg (.ref it) u) Q E s := by
  unfold letOwnedTupleGo
  cases tg <;> first
    | exact wpAny_pure hQ
    | (cases u <;> first
        | exact wpAny_pure hQ
        | (refine wpAny_bind (wpAny_load ho ?_)
           rw [hc, hd]
           show wpAny M A (if (["enumerate", "zip", "dict_itemiterator", "dict_reverseitemiterator", "odict_iterator", "itertools.zip_longest", "itertools.pairwise"].contains n && vs[0]? == some (rawInt _)) = true then _ else _) Q E s
           rw [if_neg (by intro h; rw [hn, fU] at h; cases h)]
           exact wpAny_pure hQ))
def Itl(K:PySem.W.Frag)(a:Addr):It:=
 ⟨fun i H=>∃xs x,SqL K H a xs/\xs[i]? = some x,fun i H x H'=>H'=H/\∀xs,SqL K H a xs->xs[i]? = some x,fun i H=>∃xs,SqL K H a xs/\xs.length≤i⟩
def Itt(K:PySem.W.Frag)(a:Addr):It:=
 ⟨fun i H=>∃xs x,SqT K H a xs/\xs[i]? = some x,fun i H x H'=>H'=H/\∀xs,SqT K H a xs->xs[i]? = some x,fun i H=>∃xs,SqT K H a xs/\xs.length≤i⟩
def Itr(lo:Int)(n:Nat):It:=⟨fun i _=>i<n,fun i H x H'=>H'=H/\x=.int (lo+i),fun i _=>n≤i⟩
theorem y0r{P:Program}{w:World}{K:PySem.W.Frag}{tg:Expr}(a it:Addr):Turn P w K tg (Itl K a) [it] it (fun i h=>h.IsListIter it a i) where
 mem:=by simp
 obj:=fun i h st b hb=>by
  have e:b=it:=by simpa using hb
  subst e
  obtain⟨o,e,c,d⟩:=st
  exact⟨o,e,fun v z=>by rw[d] at z;cases z⟩
 keep:=fun i h h' st k=>st.at fun o e=>k it (by simp) o e
 item:=by
  intro X hP hw hK hc i pins s σ H E I hf st hg
  subst hP hw hK
  obtain⟨xs,x,hq,hx⟩:=hg
  obtain⟨its,rv,p,hz⟩:=I.list hq
  obtain⟨u,hu,ru⟩:=rv.get hx
  obtain⟨f0,f1,f2,f3,f4,f5⟩:=hf it (by simp)
  refine wpAny_pyNext_list_item st p.isList (x:=u) (by simpa using hu) fun h' st' sb=>?_
  have I1:Inv X pins σ H { s with heap:=h' }:=I.turned (t':=s.toks) (fun b o hb e=>(sb.2 b hb).trans e) f0 f1 f3 f4 f5
  obtain⟨o,e,c,d⟩:=id st'
  exact⟨u,rfl,y57 (s:={ s with heap:=h' }) e c d (by decide) ⟨x,H,I1,ru,⟨rfl,fun ys hy=>by rw[I.W4 hy hq];exact hx⟩,st',fun b hb=>(hf b hb).1⟩⟩
 done:=by
  intro X hP hw hK hc i pins s σ H E I hf st hg
  subst hP hw hK
  obtain⟨xs,hq,hx⟩:=hg
  obtain⟨its,rv,p,hz⟩:=I.list hq
  obtain⟨f0,f1,f2,f3,f4,f5⟩:=hf it (by simp)
  have hl:=rv.length
  exact wpAny_pyNext_list_end (I.ok.hd hc) st p.isList (by simp;omega) fun h' eb=>⟨rfl,I.turned (t':=s.toks) (fun b o hb e=>eb b o hb e) f0 f1 f3 f4 f5⟩
 self:=fun _ _ _ _ _ st h=>wpAny_pyIter_listiter st h
theorem z90{P:Program}{w:World}{K:PySem.W.Frag}{tg:Expr}(a it:Addr):Turn P w K tg (Itt K a) [it] it (fun i h=>h.IsTupleIter it a i) where
 mem:=by simp
 obj:=fun i h st b hb=>by
  have e:b=it:=by simpa using hb
  subst e
  obtain⟨o,e,c,d⟩:=st
  exact⟨o,e,fun v z=>by rw[d] at z;cases z⟩
 keep:=fun i h h' st k=>st.at fun o e=>k it (by simp) o e
 item:=by
  intro X hP hw hK hc i pins s σ H E I hf st hg
  subst hP hw hK
  obtain⟨xs,x,hq,hx⟩:=hg
  obtain⟨its,rv,p,hz⟩:=I.tuple hq
  obtain⟨u,hu,ru⟩:=rv.get hx
  obtain⟨f0,f1,f2,f3,f4,f5⟩:=hf it (by simp)
  refine wpAny_pyNext_tuple_item st (show s.heap.IsTuple a its.toArray from p) (x:=u) (by simpa using hu) fun h' st' sb=>?_
  have I1:Inv X pins σ H { s with heap:=h' }:=I.turned (t':=s.toks) (fun b o hb e=>(sb.2 b hb).trans e) f0 f1 f3 f4 f5
  obtain⟨o,e,c,d⟩:=id st'
  exact⟨u,rfl,y57 (s:={ s with heap:=h' }) e c d (by decide) ⟨x,H,I1,ru,⟨rfl,fun ys hy=>by rw[I.R7 hy hq];exact hx⟩,st',fun b hb=>(hf b hb).1⟩⟩
 done:=by
  intro X hP hw hK hc i pins s σ H E I hf st hg
  subst hP hw hK
  obtain⟨xs,hq,hx⟩:=hg
  obtain⟨its,rv,p,hz⟩:=I.tuple hq
  obtain⟨f0,f1,f2,f3,f4,f5⟩:=hf it (by simp)
  have hl:=rv.length
  exact wpAny_pyNext_tuple_end (I.ok.hd hc) st (show s.heap.IsTuple a its.toArray from p) (by simp;omega) fun h' eb=>⟨rfl,I.turned (t':=s.toks) (fun b o hb e=>eb b o hb e) f0 f1 f3 f4 f5⟩
 self:=fun _ _ _ _ _ st h=>wpAny_pyIter_tupleiter st h
theorem y2d{P:Program}{w:World}{K:PySem.W.Frag}{tg:Expr}(it:Addr)(lo:Int)(n:Nat):Turn P w K tg (Itr lo n) [it] it (fun i h=>IsRangeIter h it (lo+(i:Nat)*1) ((n:Int)-(i:Nat)) 1) where
 mem:=by simp
 obj:=fun i h st b hb=>by
  have e:b=it:=by simpa using hb
  subst e
  exact⟨_,st,fun v z=>by
   have z':Data.fields _=Data.cell v:=z
   cases z'⟩
 keep:=fun i h h' st k=>k it (by simp) _ st
 item:=by
  intro X hP hw hK hc i pins s σ H E I hf st hg
  subst hP hw hK
  obtain⟨f0,f1,f2,f3,f4,f5⟩:=hf it (by simp)
  have W:=Walks.range (prog:=X.prog) (w:=X.w) (I.ok.hd hc) it lo 1 n
  refine W.item i s _ _ hg st fun v h' tk hv st' kk=>?_
  obtain⟨t,rfl⟩:=hv
  have I1:Inv X pins σ H { s with heap:=h',toks:=tk }:=I.turned (fun b o hb e=>kk b o (by simpa using hb) e) f0 f1 f3 f4 f5
  refine⟨_,rfl,y57 (s:={ s with heap:=h',toks:=tk }) (n:="range_iterator") st' rfl rfl (by decide) ⟨.int (lo+i),H,I1,⟨t,?_⟩,⟨rfl,rfl⟩,st',fun b hb=>(hf b hb).1⟩⟩
  rw[Int.mul_one]
 done:=by
  intro X hP hw hK hc i pins s σ H E I hf st hg
  subst hP hw hK
  obtain⟨f0,f1,f2,f3,f4,f5⟩:=hf it (by simp)
  exact wpAny_pyNext_range_end (I.ok.hd hc) st (by have:n≤i:=hg;omega) fun h' eb=>⟨rfl,I.turned (t':=s.toks) (fun b o hb e=>eb b o hb e) f0 f1 f3 f4 f5⟩
 self:=fun _ _ _ _ _ st h=>wpAny_pyIter_rangeiter st h
section
variable{X:Cx}{tg:Expr}
def w0q(K:PySem.W.Frag)(tl:TE):TI:=fun σ H R=>tl σ H fun x H1=>∃a,x=.ref a/\(∃xs,SqL K H1 a xs)/\R (Itl K a) H1
def iTup(K:PySem.W.Frag)(tl:TE):TI:=fun σ H R=>tl σ H fun x H1=>∃a,x=.ref a/\(∃xs,SqT K H1 a xs)/\R (Itt K a) H1
theorem z1w{l:Expr}{tl:TE}(hl:PE X l tl):PI X tg l (w0q X.K tl):=by
 intro pins s σ H R I h
 refine thn (hl pins s σ H _ I h) fun v s1 hz=>?_
 obtain⟨x,H1,I1,r1,q1⟩:=hz
 obtain⟨a,e,⟨xs,hq⟩,q⟩:=q1
 subst e
 cases r1
 obtain⟨its,rv,p,hz⟩:=I1.list hq
 refine wpAny_pyIter_list p.isList ?_
 refine⟨s1.heap.objs.size,[s1.heap.objs.size],_,_,H1,rfl,I1.kept (t':=s1.toks) fun b o e=>b9 _ e,y0r a _,⟨_,bM _ rfl,rfl,rfl⟩,fun b hb=>?_,q⟩
 have e:b=s1.heap.objs.size:=by simpa using hb
 subst e
 exact I1.S8 (bE _) (I1.hok.fresh (bE _))
theorem z23{l:Expr}{tl:TE}(hl:PE X l tl):PI X tg l (iTup X.K tl):=by
 intro pins s σ H R I h
 refine thn (hl pins s σ H _ I h) fun v s1 hz=>?_
 obtain⟨x,H1,I1,r1,q1⟩:=hz
 obtain⟨a,e,⟨xs,hq⟩,q⟩:=q1
 subst e
 cases r1
 obtain⟨its,rv,p,hz⟩:=I1.tuple hq
 refine wpAny_pyIter_tuple (show s1.heap.IsTuple a its.toArray from p) ?_
 refine⟨s1.heap.objs.size,[s1.heap.objs.size],_,_,H1,rfl,I1.kept (t':=s1.toks) fun b o e=>b9 _ e,z90 a _,⟨_,bM _ rfl,rfl,rfl⟩,fun b hb=>?_,q⟩
 have e:b=s1.heap.objs.size:=by simpa using hb
 subst e
 exact I1.S8 (bE _) (I1.hok.fresh (bE _))
theorem y1r{pins:List (Addr×Obj)}{σ:St}{H:Hp}{s:Shared}{R:It->Hp->Prop}{E:Value->Shared->Prop}{lo hi:Int}{t u v:Tok}{tk:Nat}(I:Inv X pins σ H s)(h1:-(2^62)≤lo)(h2:lo<2^62)(h3:-(2^62)≤hi)(h4:hi<2^62)
  (q:R (Itr lo (hi-lo).toNat) H):wpAny (model X.prog X.w) X.A (pyIter (.ref s.heap.objs.size)) (PIE X pins σ tg R) E { s with heap:=s.heap.push { cls:=.type "range",data:=.fields #[.int lo t,.int hi u,.int 1 v] },toks:=tk }:=by
 refine wpAny_pyIter_range (IsRange.new ..) (small_one h1 h2 h3 h4) ?_
 have I1:Inv X pins σ H { s with heap:=s.heap.push { cls:=.type "range",data:=.fields #[.int lo t,.int hi u,.int 1 v] },toks:=tk }:=I.kept fun b o e=>b9 _ e
 refine⟨(s.heap.push { cls:=.type "range",data:=.fields #[.int lo t,.int hi u,.int 1 v] }).objs.size,[(s.heap.push { cls:=.type "range",data:=.fields #[.int lo t,.int hi u,.int 1 v] }).objs.size],_,_,H,rfl,
  I1.kept (t':=tk) fun b o e=>b9 _ e,y2d _ lo (hi-lo).toNat,?_,fun b hb=>?_,q⟩
 ·have e1:lo+((0:Nat):Int)*1=lo:=by simp
  have e2:(((hi-lo).toNat:Nat):Int)-((0:Nat):Int)=Builtin.Range.rangeSize lo hi 1:=by rw[rangeSize_one];split<;>omega
  show IsRangeIter _ _ (lo+((0:Nat):Int)*1) ((((hi-lo).toNat:Nat):Int)-((0:Nat):Int)) 1
  rw[e1,e2]
  exact bM _ rfl
 ·have e:b=(s.heap.push { cls:=.type "range",data:=.fields #[.int lo t,.int hi u,.int 1 v] }).objs.size:=by simpa using hb
  subst e
  exact I1.S8 (bE _) (I1.hok.fresh (bE _))
def w0p(ta:TA):TI:=fun σ H R=>ta σ H fun vs H1=>∃j:Int,vs=[.int j]/\-(2^62)≤j/\j<2^62/\R (Itr 0 j.toNat) H1
def w0A(ta:TA):TI:=fun σ H R=>ta σ H fun vs H1=>∃i j:Int,vs=[.int i,.int j]/\(-(2^62)≤i/\i<2^62/\-(2^62)≤j/\j<2^62)/\R (Itr i (j-i).toNat) H1
theorem z0T{a:Expr}{ta:TA}{p pos:Pos}(hg:Gl X "range")(hm:X.mg "range"=none)(ha:PA X [a] ta)(hs:starEach [a] X.env=[(false,eval a X.env)]:=by rfl):PI X tg (.Call (.Name "range" p) [a] [] pos) (w0p ta):=by
 intro pins s σ H R I h
 refine Call_ (z79 I hg hm boot_range (eQ (thn (ha pos pins s σ H _ I h) fun us s1 hz=>?_) hs rfl))
 obtain⟨vs,H1,I1,r1,q1⟩:=hz
 obtain⟨j,e,q1,q2,q⟩:=q1
 subst e
 cases r1 with
 | cons r rr=>
  cases rr
  obtain⟨t,rfl⟩:=r
  exact call_range_1 (y1r I1 (by omega) (by omega) q1 q2 (by simpa using q))
theorem z4G{a b:Expr}{ta:TA}{p pos:Pos}(hg:Gl X "range")(hm:X.mg "range"=none)(ha:PA X [a,b] ta)(hs:starEach [a,b] X.env=[(false,eval a X.env),(false,eval b X.env)]:=by rfl)(hs2:starEach [b] X.env=[(false,eval b X.env)]:=by rfl) :
  PI X tg (.Call (.Name "range" p) [a,b] [] pos) (w0A ta):=by
 intro pins s σ H R I h
 refine Call_ (z79 I hg hm boot_range (eQ (thn (ha pos pins s σ H _ I h) fun us s1 ⟨vs,H1,I1,r1,q1⟩=>?_) (by rw[hs,hs2]) (by rw[hs2];rfl)))
 obtain⟨i,j,e,⟨q1,q2,q3,q4⟩,q⟩:=q1
 subst e
 cases r1 with
 | cons r rr=>
  cases rr with
  | cons r' rr=>
   cases rr
   obtain⟨t,rfl⟩:=r
   obtain⟨t',rfl⟩:=r'
   exact call_range_2 (y1r I1 q1 q2 q3 q4 q)
def tFor(wi:TI)(g:TG)(tb:TS):TS:=fun D σ H=>wi σ H fun J H1=>∃W:Nat->Nat->St->Hp->Prop,(∃m,W 0 m σ H1)/\∀i m σ H,W i m σ H->
 (J.stop i H/\D.nx σ H)\/(J.go i H/\∃N:St->Hp->Prop,(∀σ' H',N σ' H'->∃m',m'<m/\W (i+1) m' σ' H')/\∀x H',J.yld i H x H'->g x σ H' fun σ2 H2=>tb { D with nx:=N,ct:=N,bk:=D.nx } σ2 H2)
def y0x(fp:List Addr)(h:Heap):List (Addr×Obj):=fp.filterMap fun b=>(h.get? b).map fun o=>(b,o)
theorem z4N{fp:List Addr}{h:Heap}{b:Addr}{o:Obj}(hb:b∈fp)(e:h.get? b=some o):(b,o)∈y0x fp h:=List.mem_filterMap.mpr ⟨b,hb,by rw[e];rfl⟩
theorem y3Z{fp:List Addr}{h:Heap}{p:Addr×Obj}(hp:p∈y0x fp h):p.1∈fp/\h.get? p.1=some p.2:=by
 obtain⟨b,hb,e⟩:=List.mem_filterMap.mp hp
 cases q:h.get? b with
 | none=>rw[q] at e;cases e
 | some o=>
  rw[q] at e
  have e':(b,o)=p:=Option.some.inj e
  subst e'
  exact⟨hb,q⟩
theorem Inv.pinned{pins:List (Addr×Obj)}{σ:St}{H:Hp}{s:Shared}{fp:List Addr}(I:Inv X pins σ H s)(hf:∀b∈fp,Q0 X pins H b)(ho:∀b∈fp,∃o,s.heap.get? b=some o/\∀v,o.data≠.cell v):Inv X (pins++y0x fp s.heap) σ H s:=
 I.O7 fun p hp=>(bN.mp hp).elim (fun z=>I.pin p (c6 _ z)) fun z=>by
  obtain⟨hb,e⟩:=y3Z z
  obtain⟨f0,f1,f2,_⟩:=hf p.1 hb
  obtain⟨o,e',d⟩:=ho p.1 hb
  rw[e] at e';cases e'
  exact⟨e,f0,f1,f2,d⟩
theorem Inv.O1{pins pl:List (Addr×Obj)}{σ:St}{H:Hp}{s:Shared}(I:Inv X (pins++pl) σ H s):Inv X pins σ H s:=I.O7 fun p hp=>I.pin p (c6 _ (cR _ hp))
theorem z0P{iter:Expr}{body:List Stmt}{wi:TI}{g:TG}{tb:TS}{pos:Pos}(hp:PassesOwn (model X.prog X.w) X.A X.env X.xe)(hc:X.calm=true)(hi:PI X tg iter wi)(hg:PG X tg g)(hb:PSs X body tb)
  (hs:∀x,foldedSetIterable iter X.env x=pure x:=by intro _;rfl):PS X (.For tg iter body [] pos) (tFor wi g tb):=by
 intro pins s σ H D I h
 refine wpAny_For (thn (hi pins s σ H _ I h) fun v s1 h1=>thn h1 fun itv s2 h2=>?_) hs
 obtain⟨it,fp,tn,J,H2,e,I2,T,st2,f2,W,⟨m0,w0⟩,turn⟩:=h2
 subst e
 have w0a:∀{H':Hp},(∀b∈fp,H' b=none)->∀b∈fp,Q0 X pins H' b:=fun hn b hb=>⟨hn b hb,(f2 b hb).2⟩
 refine codeAny_forLoop_any (fun n s'=>∃i σ' H',Inv X pins σ' H' s'/\tn i s'.heap/\(∀b∈fp,H' b=none)/\W i n σ' H') ?_ m0 ⟨0,σ,H2,I2,st2,fun b hb=>(f2 b hb).1,w0⟩
 rintro n s3 ⟨i,σ3,H3,I3,st3,fr3,w3⟩
 rcases turn i n σ3 H3 w3 with ⟨stop,qn⟩|⟨go,N,hN,step⟩
 ·refine wpAny_passesOwn hp (thn (T.done X rfl rfl rfl hc i pins s3 σ3 H3 X.xe I3 (w0a fr3) st3 stop) fun r s4 hz=>?_)
  obtain⟨hr,I4⟩:=hz
  subst hr
  exact wpAny_execs_nil ⟨σ3,H3,I4,qn⟩
 ·refine wpAny_passesOwn hp (thn (T.item X rfl rfl rfl hc i pins s3 σ3 H3 X.xe I3 (w0a fr3) st3 go) fun r s4 hz=>?_)
  obtain⟨u,hr,h4⟩:=hz
  subst hr
  refine wpAny_passesOwn hp (thn h4 fun _ s5 hz=>?_)
  obtain⟨x,H5,I5,r5,y5,st5,fr5⟩:=hz
  have I5':=I5.pinned (w0a fr5) (T.obj _ _ st5)
  refine wpAny_passesOwn hp (thn (hg _ s5 σ3 H5 x u _ I5' r5 (step x H5 y5)) fun _ s6 hz=>?_)
  obtain⟨σ6,H6,I6,q6⟩:=hz
  refine wpAny_passesOwn hp (thn (hb _ s6 σ6 H6 _ I6 q6) fun f s7 q7=>?_)
  have again:∀{σ7:St}{H7:Hp},Inv X (pins++y0x fp s5.heap) σ7 H7 s7->N σ7 H7->∃m,m<n/\∃i σ' H',Inv X pins σ' H' s7/\tn i s7.heap/\(∀b∈fp,H' b=none)/\W i m σ' H':=fun {σ7 H7} I7 n7=>by
   obtain⟨m',hm,w7⟩:=hN σ7 H7 n7
   refine⟨m',hm,i+1,σ7,H7,I7.O1,T.keep _ _ _ st5 fun b hb o e=>(I7.pin (b,o) (c6 _ (c6 _ (z4N hb e)))).1,fun b hb=>?_,w7⟩
   obtain⟨o,e,d⟩:=T.obj _ _ st5 b hb
   exact(I7.pin (b,o) (c6 _ (c6 _ (z4N hb e)))).2.1
  cases f with
  | next=>obtain⟨σ7,H7,I7,n7⟩:=q7;exact again I7 n7
  | cont=>obtain⟨σ7,H7,I7,n7⟩:=q7;exact again I7 n7
  | brk=>obtain⟨σ7,H7,I7,q7⟩:=q7;exact⟨σ7,H7,I7.O1,q7⟩
  | ret v=>obtain⟨x7,σ7,H7,I7,r7,q7⟩:=q7;exact⟨x7,σ7,H7,I7.O1,r7,q7⟩
end
theorem z1Y{K:PySem.W.Frag}{a:Addr}{xs:List V}{g:TG}{tb:TS}{D:Ends}{σ:St}{H:Hp}(Pv:Nat->St->Hp->Prop)(h0:Pv 0 σ H)(hl:∀i σ H,i≤xs.length->Pv i σ H->SqL K H a xs)
  (hs:∀i x σ H,xs[i]? = some x->Pv i σ H->g x σ H fun σ2 H2=>tb { D with nx:=Pv (i+1),ct:=Pv (i+1),bk:=D.nx } σ2 H2) (hd:∀σ H,Pv xs.length σ H->D.nx σ H) :
  ∃W:Nat->Nat->St->Hp->Prop,(∃m,W 0 m σ H)/\∀i m σ H,W i m σ H->
   ((Itl K a).stop i H/\D.nx σ H)\/((Itl K a).go i H/\∃N:St->Hp->Prop,(∀σ' H',N σ' H'->∃m',m'<m/\W (i+1) m' σ' H')/\∀x H',(Itl K a).yld i H x H'->g x σ H' fun σ2 H2=>tb { D with nx:=N,ct:=N,bk:=D.nx } σ2 H2):=by
 refine⟨fun i m σ H=>m=xs.length-i/\i≤xs.length/\Pv i σ H,⟨xs.length,by simp,cV _,h0⟩,?_⟩
 rintro i m σ H ⟨rfl,hi,p⟩
 have q:=hl i σ H hi p
 by_cases hlt:i<xs.length
 ·refine .inr ⟨⟨xs,xs[i],q,by simp[hlt]⟩,Pv (i+1),fun σ' H' p'=>⟨xs.length-(i+1),by omega,rfl,hlt,p'⟩,fun x H' y=>?_⟩
  obtain⟨e,y⟩:=y
  subst e
  exact hs i x σ _ (y xs q) p
 ·have e:i=xs.length:=by omega
  subst e
  exact .inl ⟨⟨xs,q,bE _⟩,hd σ H p⟩
theorem z4A{K:PySem.W.Frag}{a:Addr}{xs:List V}{g:TG}{tb:TS}{D:Ends}{σ:St}{H:Hp}(Pv:Nat->St->Hp->Prop)(h0:Pv 0 σ H)(hl:∀i σ H,i≤xs.length->Pv i σ H->SqT K H a xs)
  (hs:∀i x σ H,xs[i]? = some x->Pv i σ H->g x σ H fun σ2 H2=>tb { D with nx:=Pv (i+1),ct:=Pv (i+1),bk:=D.nx } σ2 H2) (hd:∀σ H,Pv xs.length σ H->D.nx σ H) :
  ∃W:Nat->Nat->St->Hp->Prop,(∃m,W 0 m σ H)/\∀i m σ H,W i m σ H->
   ((Itt K a).stop i H/\D.nx σ H)\/((Itt K a).go i H/\∃N:St->Hp->Prop,(∀σ' H',N σ' H'->∃m',m'<m/\W (i+1) m' σ' H')/\∀x H',(Itt K a).yld i H x H'->g x σ H' fun σ2 H2=>tb { D with nx:=N,ct:=N,bk:=D.nx } σ2 H2):=by
 refine⟨fun i m σ H=>m=xs.length-i/\i≤xs.length/\Pv i σ H,⟨xs.length,by simp,cV _,h0⟩,?_⟩
 rintro i m σ H ⟨rfl,hi,p⟩
 have q:=hl i σ H hi p
 by_cases hlt:i<xs.length
 ·refine .inr ⟨⟨xs,xs[i],q,by simp[hlt]⟩,Pv (i+1),fun σ' H' p'=>⟨xs.length-(i+1),by omega,rfl,hlt,p'⟩,fun x H' y=>?_⟩
  obtain⟨e,y⟩:=y
  subst e
  exact hs i x σ _ (y xs q) p
 ·have e:i=xs.length:=by omega
  subst e
  exact .inl ⟨⟨xs,q,bE _⟩,hd σ H p⟩
theorem z0U{lo:Int}{n:Nat}{g:TG}{tb:TS}{D:Ends}{σ:St}{H:Hp}(Pv:Nat->St->Hp->Prop)(h0:Pv 0 σ H)
  (hs:∀i σ H,i<n->Pv i σ H->g (.int (lo+i)) σ H fun σ2 H2=>tb { D with nx:=Pv (i+1),ct:=Pv (i+1),bk:=D.nx } σ2 H2) (hd:∀σ H,Pv n σ H->D.nx σ H) :
  ∃W:Nat->Nat->St->Hp->Prop,(∃m,W 0 m σ H)/\∀i m σ H,W i m σ H->
   ((Itr lo n).stop i H/\D.nx σ H)\/((Itr lo n).go i H/\∃N:St->Hp->Prop,(∀σ' H',N σ' H'->∃m',m'<m/\W (i+1) m' σ' H')/\∀x H',(Itr lo n).yld i H x H'->g x σ H' fun σ2 H2=>tb { D with nx:=N,ct:=N,bk:=D.nx } σ2 H2):=by
 refine⟨fun i m σ H=>m=n-i/\i≤n/\Pv i σ H,⟨n,by simp,cV _,h0⟩,?_⟩
 rintro i m σ H ⟨rfl,hi,p⟩
 by_cases hlt:i<n
 ·refine .inr ⟨hlt,Pv (i+1),fun σ' H' p'=>⟨n-(i+1),by omega,rfl,hlt,p'⟩,fun x H' y=>?_⟩
  obtain⟨e,y⟩:=y
  subst e y
  exact hs i σ _ hlt p
 ·have e:i=n:=by omega
  subst e
  exact .inl ⟨bE _,hd σ H p⟩
abbrev R2:=V->V->Hp->VK->Prop
def OpR(X:Cx)(f:Value->Value->Sem Value)(r:R2):Prop:=
 ∀(pins:List (Addr×Obj)) (s:Shared) (σ:St) (H:Hp) (x y:V) (v u:Value) (Q:VK),Inv X pins σ H s->RelV x v->RelV y u->r x y H Q->
  wpAny (model X.prog X.w) X.A (f v u) (EP X pins σ Q) X.xe s
def UnR(X:Cx)(f:Value->Sem Value)(r:V->Hp->VK->Prop):Prop:=
 ∀(pins:List (Addr×Obj)) (s:Shared) (σ:St) (H:Hp) (x:V) (v:Value) (Q:VK),Inv X pins σ H s->RelV x v->r x H Q->
  wpAny (model X.prog X.w) X.A (f v) (EP X pins σ Q) X.xe s
def z40(X:Cx)(f:Value)(r:List V->Hp->VK->Prop):Prop:=
 ∀(pins:List (Addr×Obj)) (s:Shared) (σ:St) (H:Hp) (xs:List V) (us:List Value) (Q:VK),Inv X pins σ H s->Vals xs us->r xs H Q->
  wpAny (model X.prog X.w) X.A (call f us) (EP X pins σ Q) X.xe s
def tOp(r:R2)(ta tb:TE):TE:=fun σ H Q=>ta σ H fun x H1=>tb σ H1 fun y H2=>r x y H2 Q
def tUn(r:V->Hp->VK->Prop)(ta:TE):TE:=fun σ H Q=>ta σ H fun x H1=>r x H1 Q
def rI(C:Int->Int->Prop)(g:Int->Int->V):R2:=fun x y H Q=>∃i j,x=.int i/\y=.int j/\C i j/\Q (g i j) H
def rI0(g:Int->Int->V):R2:=fun x y H Q=>∃i j,x=.int i/\y=.int j/\Q (g i j) H
def rU(g:Int->V):V->Hp->VK->Prop:=fun x H Q=>∃i,x=.int i/\Q (g i) H
section
variable{X:Cx}{a b c:Expr}{ta tb tc:TE}{pos:Pos}
theorem w0c(ha:PE X a ta)(hb:PE X b tb){pins:List (Addr×Obj)}{s:Shared}{σ:St}{H:Hp}{R:V->V->Hp->Prop}(I:Inv X pins σ H s)
  (h:ta σ H fun x H1=>tb σ H1 fun y H2=>R x y H2) {Q:Value->Shared->Prop}{f:Value->Value->Sem Value}
  (hf:∀v u s2 x y H2,Inv X pins σ H2 s2->RelV x v->RelV y u->R x y H2->wpAny (model X.prog X.w) X.A (f v u) Q X.xe s2) :
  wpAny (model X.prog X.w) X.A (eval a X.env) (fun v s₁=>wpAny (model X.prog X.w) X.A (eval b X.env) (fun u s₂=>wpAny (model X.prog X.w) X.A (f v u) Q X.xe s₂) X.xe s₁) X.xe s:=by
 refine thn (ha pins s σ H _ I h) fun v s1 hz=>?_
 obtain⟨x,H1,I1,r1,q1⟩:=hz
 refine thn (hb pins s1 σ H1 _ I1 q1) fun u s2 hz=>?_
 obtain⟨y,H2,I2,r2,q2⟩:=hz
 exact hf v u s2 x y H2 I2 r1 r2 q2
theorem z0t{op:Operator}{r:R2}(ho:OpR X (binaryOp op) r)(ha:PE X a ta)(hb:PE X b tb):PE X (.BinOp a op b pos) (tOp r ta tb):=by
 intro pins s σ H Q I h
 exact wpAny_BinOp (w0c ha hb I h fun v u s2 x y H2 I2 rx ry q=>ho pins s2 σ H2 x y v u Q I2 rx ry q)
theorem y6G{op:UnaryOp}{r:V->Hp->VK->Prop}(ho:UnR X (unaryOp op) r)(ha:PE X a ta):PE X (.UnaryOp op a pos) (tUn r ta):=by
 intro pins s σ H Q I h
 exact UnaryOp_ (thn (ha pins s σ H _ I h) fun v s1 ⟨x,H1,I1,r1,q1⟩=>ho pins s1 σ H1 x v Q I1 r1 q1)
theorem opI{f:Value->Value->Sem Value}{C:Int->Int->Prop}{g:Int->Int->Int}
  (rule:∀(i j:Int) (t u:Tok) (s:Shared) (Q:Value->Shared->Prop) (E:Value->Shared->Prop),C i j->Q (.int (g i j) s.toks) { s with toks:=s.toks+1 }->wpAny (model X.prog X.w) X.A (f (.int i t) (.int j u)) Q E s) :
  OpR X f (rI C fun i j=>.int (g i j)):=by
 intro pins s σ H x y v u Q I rx ry h
 obtain⟨i,j,rfl,rfl,hc,q⟩:=h
 obtain⟨t,rfl⟩:=rx
 obtain⟨t',rfl⟩:=ry
 exact rule i j t t' s _ _ hc ⟨.int (g i j),H,I.tok _,⟨_,rfl⟩,q⟩
theorem opI0{f:Value->Value->Sem Value}{g:Int->Int->Int}
  (rule:∀(i j:Int) (t u:Tok) (s:Shared) (Q:Value->Shared->Prop) (E:Value->Shared->Prop),Q (.int (g i j) s.toks) { s with toks:=s.toks+1 }->wpAny (model X.prog X.w) X.A (f (.int i t) (.int j u)) Q E s) :
  OpR X f (rI0 fun i j=>.int (g i j)):=by
 intro pins s σ H x y v u Q I rx ry h
 obtain⟨i,j,rfl,rfl,q⟩:=h
 obtain⟨t,rfl⟩:=rx
 obtain⟨t',rfl⟩:=ry
 exact rule i j t t' s _ _ ⟨.int (g i j),H,I.tok _,⟨_,rfl⟩,q⟩
theorem Y2{f:Value->Value->Sem Value}{g:Int->Int->Bool}
  (rule:∀(i j:Int) (t u:Tok) (s:Shared) (Q:Value->Shared->Prop) (E:Value->Shared->Prop),Q (.bool (g i j)) s->wpAny (model X.prog X.w) X.A (f (.int i t) (.int j u)) Q E s) :
  OpR X f (rI0 fun i j=>.bl (g i j)):=by
 intro pins s σ H x y v u Q I rx ry h
 obtain⟨i,j,rfl,rfl,q⟩:=h
 obtain⟨t,rfl⟩:=rx
 obtain⟨t',rfl⟩:=ry
 exact rule i j t t' s _ _ ⟨.bl (g i j),H,I,rfl,q⟩
def CDiv(i j:Int):Prop:=0<j/\j<1073741824
def w04(i j:Int):Prop:=(-(2^64)<i/\i<2^64)\/(-(2^64)<j/\j<2^64)
theorem w04.ok{i j:Int}(h:w04 i j):IntMulOk i j:=by
 rcases h with ⟨h1,h2⟩|⟨h1,h2⟩
 ·exact .of_left (intBits_le_64 h1 h2)
 ·exact .of_right (intBits_le_64 h1 h2)
theorem z1g:OpR X (binaryOp .Add) (rI0 fun i j=>.int (i+j)):=opI0 fun _ _ _ _ _ _ _ q=>add_int q
theorem z31:OpR X (binaryOp .Sub) (rI0 fun i j=>.int (i-j)):=opI0 fun _ _ _ _ _ _ _ q=>sub_int q
theorem z4c:OpR X (binaryOp .Mult) (rI w04 fun i j=>.int (i*j)):=opI fun _ _ _ _ _ _ _ hc q=>mul_int q hc.ok
theorem z1t:OpR X (binaryOp .FloorDiv) (rI CDiv fun i j=>.int (i / j)):=opI fun i j _ _ _ _ _ hc q=>by
 have h1:(0:Int)<j:=hc.1
 have h2:j<1073741824:=hc.2
 exact floordiv_int (by omega) (by rw[Int.fdiv_eq_ediv_of_nonneg i (by omega)];exact q) (.inl (PyProof.noPylong_small (by omega)))
theorem z1h:OpR X (binaryOp .Mod) (rI (fun _ j=>0<j) fun i j=>.int (i%j)):=opI fun i j _ _ _ _ _ hc q=>by
 have h1:(0:Int)<j:=hc
 exact mod_int' (by omega) (by rw[Int.fmod_eq_emod_of_nonneg i (by omega)];exact q)
theorem unI{f:Value->Sem Value}{g:Int->Int}
  (rule:∀(i:Int) (t:Tok) (s:Shared) (Q:Value->Shared->Prop) (E:Value->Shared->Prop),Q (.int (g i) s.toks) { s with toks:=s.toks+1 }->wpAny (model X.prog X.w) X.A (f (.int i t)) Q E s) :
  UnR X f (rU fun i=>.int (g i)):=by
 intro pins s σ H x v Q I rx h
 obtain⟨i,rfl,q⟩:=h
 obtain⟨t,rfl⟩:=rx
 exact rule i t s _ _ ⟨.int (g i),H,I.tok _,⟨_,rfl⟩,q⟩
theorem y4y:UnR X (unaryOp .USub) (rU fun i=>.int (-i)):=unI fun _ _ _ _ _ q=>neg_int q
end
def w00:V->V->Bool
 | .non,.non=>true|.non,.int _=>true|.int _,.non=>true|.non,.bl _=>true|.bl _,.non=>true|.non,.str _=>true|.str _,.non=>true
 | .int _,.int _=>true|.bl _,.bl _=>true|.str _,.str _=>true|.byt _,.byt _=>true
 | .int _,.str _=>true|.str _,.int _=>true|.bl _,.str _=>true|.str _,.bl _=>true
 | _,_=>false
def rEq:R2:=fun x y H Q=>w00 x y=true/\Q (.bl (decide (x=y))) H
def rNe:R2:=fun x y H Q=>w00 x y=true/\Q (.bl (!decide (x=y))) H
theorem y3v{i j:Int}:decide (V.int i=V.int j)=(i == j):=by
 rw[d7]
 simp
theorem y5O{i j:Bool}:decide (V.bl i=V.bl j)=(i == j):=by
 rw[d7]
 simp
theorem y2Z{i j:Str}:decide (V.str i=V.str j)=(i == j):=by
 rw[d7]
 simp
theorem y32{i j:Array UInt8}:decide (V.byt i=V.byt j)=(i.toList == j.toList):=by
 rw[d7]
 cases i
 cases j
 simp
section
variable{X:Cx}{a b c:Expr}{ta tb tc:TE}{pos:Pos}
theorem z17{pins:List (Addr×Obj)}{σ:St}{H:Hp}{s:Shared}{Q:VK}{k k':Bool}(I:Inv X pins σ H s)(q:Q (.bl k) H)(e:k=k'):EP X pins σ Q (.bool k') s:=by
 subst e
 exact⟨.bl k,H,I,rfl,q⟩
theorem z2L:OpR X (compareOp .Eq) rEq:=by
 intro pins s σ H x y v u Q I rx ry h
 obtain⟨hs,q⟩:=h
 cases x with
 | non=>
  cases rx
  cases y with
  | non=>cases ry;exact PySem.EqNone.eq_none_none (z17 I q (by simp))
  | bl j=>cases ry;exact PySem.EqNone.eq_none_bool (z17 I q (by simp))
  | int j=>obtain⟨t',rfl⟩:=ry;exact PySem.EqNone.eq_none_int (z17 I q (by simp))
  | str j=>obtain⟨t',rfl⟩:=ry;exact PySem.EqNone.eq_none_str (z17 I q (by simp))
  | _=>exact absurd (show false=true from hs) bJ
 | bl i=>
  cases rx
  cases y with
  | non=>cases ry;exact PySem.EqNone.eq_bool_none (z17 I q (by simp))
  | bl j=>cases ry;exact eq_bool (z17 I q y5O)
  | str j=>obtain⟨t',rfl⟩:=ry;exact PySem.EqMixed.eq_bool_str (z17 I q (by simp))
  | _=>exact absurd (show false=true from hs) bJ
 | int i=>
  obtain⟨t,rfl⟩:=rx
  cases y with
  | non=>cases ry;exact PySem.EqNone.eq_int_none (z17 I q (by simp))
  | int j=>obtain⟨t',rfl⟩:=ry;exact eq_int (z17 I q y3v)
  | str j=>obtain⟨t',rfl⟩:=ry;exact PySem.EqMixed.eq_int_str (z17 I q (by simp))
  | _=>exact absurd (show false=true from hs) bJ
 | str i=>
  obtain⟨t,rfl⟩:=rx
  cases y with
  | non=>cases ry;exact PySem.EqNone.eq_str_none (z17 I q (by simp))
  | bl j=>cases ry;exact PySem.EqMixed.eq_str_bool (z17 I q (by simp))
  | int j=>obtain⟨t',rfl⟩:=ry;exact PySem.EqMixed.eq_str_int (z17 I q (by simp))
  | str j=>obtain⟨t',rfl⟩:=ry;exact eq_str (z17 I q y2Z)
  | _=>exact absurd (show false=true from hs) bJ
 | byt i=>
  obtain⟨t,rfl⟩:=rx
  cases y with
  | byt j=>obtain⟨t',rfl⟩:=ry;exact PySem.W.eq_bytes (z17 I q y32)
  | _=>exact absurd (show false=true from hs) bJ
 | _=>cases y<;>exact absurd (show false=true from hs) bJ
theorem z7l:OpR X (compareOp .NotEq) rNe:=by
 intro pins s σ H x y v u Q I rx ry h
 obtain⟨hs,q⟩:=h
 cases x with
 | non=>
  cases rx
  cases y with
  | non=>cases ry;exact PySem.EqNone.ne_none_none (z17 I q (by simp))
  | bl j=>cases ry;exact PySem.EqNone.ne_none_bool (z17 I q (by simp))
  | int j=>obtain⟨t',rfl⟩:=ry;exact PySem.EqNone.ne_none_int (z17 I q (by simp))
  | str j=>obtain⟨t',rfl⟩:=ry;exact PySem.EqNone.ne_none_str (z17 I q (by simp))
  | _=>exact absurd (show false=true from hs) bJ
 | bl i=>
  cases rx
  cases y with
  | non=>cases ry;exact PySem.EqNone.ne_bool_none (z17 I q (by simp))
  | bl j=>cases ry;exact ne_bool (z17 I q (congrArg not y5O))
  | str j=>obtain⟨t',rfl⟩:=ry;exact PySem.EqMixed.ne_bool_str (z17 I q (by simp))
  | _=>exact absurd (show false=true from hs) bJ
 | int i=>
  obtain⟨t,rfl⟩:=rx
  cases y with
  | non=>cases ry;exact PySem.EqNone.ne_int_none (z17 I q (by simp))
  | int j=>obtain⟨t',rfl⟩:=ry;exact ne_int (z17 I q (congrArg not y3v))
  | str j=>obtain⟨t',rfl⟩:=ry;exact PySem.EqMixed.ne_int_str (z17 I q (by simp))
  | _=>exact absurd (show false=true from hs) bJ
 | str i=>
  obtain⟨t,rfl⟩:=rx
  cases y with
  | non=>cases ry;exact PySem.EqNone.ne_str_none (z17 I q (by simp))
  | bl j=>cases ry;exact PySem.EqMixed.ne_str_bool (z17 I q (by simp))
  | int j=>obtain⟨t',rfl⟩:=ry;exact PySem.EqMixed.ne_str_int (z17 I q (by simp))
  | str j=>obtain⟨t',rfl⟩:=ry;exact ne_str (z17 I q (congrArg not y2Z))
  | _=>exact absurd (show false=true from hs) bJ
 | byt i=>
  obtain⟨t,rfl⟩:=rx
  cases y with
  | byt j=>obtain⟨t',rfl⟩:=ry;exact PySem.W.ne_bytes (z17 I q (congrArg not y32))
  | _=>exact absurd (show false=true from hs) bJ
 | _=>cases y<;>exact absurd (show false=true from hs) bJ
theorem z8x:OpR X (compareOp .Lt) (rI0 fun i j=>.bl (decide (i<j))):=Y2 fun _ _ _ _ _ _ _ q=>lt_int q
theorem y2q:OpR X (compareOp .LtE) (rI0 fun i j=>.bl (decide (i≤j))):=Y2 fun _ _ _ _ _ _ _ q=>le_int q
theorem z2k:OpR X (compareOp .Gt) (rI0 fun i j=>.bl (decide (j<i))):=Y2 fun _ _ _ _ _ _ _ q=>gt_int q
theorem y3q:OpR X (compareOp .GtE) (rI0 fun i j=>.bl (decide (j≤i))):=Y2 fun _ _ _ _ _ _ _ q=>ge_int q
theorem z0m(b:Expr){op:CmpOp}(h:op≠.In:=by decide)(h2:op≠.NotIn:=by decide):behindInMarks op b=false:=by
 have e1:(op == CmpOp.In)=false:=by cases op<;>first|rfl|exact absurd rfl h
 have e2:(op == CmpOp.NotIn)=false:=by cases op<;>first|rfl|exact absurd rfl h2
 cases b<;>simp[behindInMarks,e1,e2]
theorem y18{op:CmpOp}{r:R2}(ho:OpR X (compareOp op) r)(ha:PE X a ta)(hb:PE X b tb)(hm:behindInMarks op b=false):PE X (.Compare a [op] [b] pos) (tOp r ta tb):=by
 intro pins s σ H Q I h
 exact wpAny_Compare1 (w0c ha hb I h fun v u s2 x y H2 I2 rx ry q=>ho pins s2 σ H2 x y v u Q I2 rx ry q) hm
def w0s(t:TE):TT:=fun σ H Q=>t σ H fun x H'=>∃k,x=.bl k/\Q k H'
theorem z0a{op:CmpOp}{r:R2}(ho:OpR X (compareOp op) r)(ha:PE X a ta)(hb:PE X b tb)(hm:behindInMarks op b=false):PT X (.Compare a [op] [b] pos) (w0s (tOp r ta tb)):=by
 intro pins s σ H Q I h
 refine wpAny_isTrue_Compare1 (thn (ha pins s σ H _ I h) fun v s1 ⟨x,H1,I1,r1,q1⟩=>thn (hb pins s1 σ H1 _ I1 q1) fun u s2 ⟨y,H2,I2,r2,q2⟩=>
  thn (ho pins s2 σ H2 x y v u _ I2 r1 r2 q2) fun c s3 ⟨z,H3,I3,r3,k,e,q3⟩=>?_) hm
 subst e
 cases r3
 exact wpAny_truthy_bool ⟨H3,I3,q3⟩
theorem z7h:(sizeLine:Nat)<2^63:=by rw[sizeLine_eq];decide
theorem z98:OpR X (binaryOp .Add) (fun x y H Q=>∃i j,x=.str i/\y=.str j/\i.length+j.length≤sizeLine/\Q (.str (i++j)) H):=by
 intro pins s σ H x y v u Q I rx ry h
 obtain⟨i,j,rfl,rfl,hz,q⟩:=h
 obtain⟨t,rfl⟩:=rx
 obtain⟨t',rfl⟩:=ry
 exact add_str (fun t' tk=>⟨.str (i++j),H,I.tok _,⟨_,rfl⟩,q⟩) hz
theorem z4X{x:V}{us:List Value}(r:Vals [x] us):∃u,us=[u]/\RelV x u:=by
 cases r with
 | cons r1 r2=>cases r2;exact⟨_,rfl,r1⟩
theorem y3s{x y:V}{us:List Value}(r:Vals [x,y] us):∃u w',us=[u,w']/\RelV x u/\RelV y w':=by
 cases r with
 | cons r1 r2=>
  cases r2 with
  | cons r3 r4=>cases r4;exact⟨_,_,rfl,r1,r3⟩
theorem y3M(hc:X.calm=true):z40 X (.builtin "max") (fun xs H Q=>∃i j,xs=[.int i,.int j]/\Q (.int (if j > i then j else i)) H):=by
 intro pins s σ H xs us Q I r h
 obtain⟨i,j,rfl,q⟩:=h
 obtain⟨u,w',rfl,⟨t,rfl⟩,⟨t',rfl⟩⟩:=y3s r
 refine max_two_ints (I.ok.hd hc) fun h' tk k=>⟨_,H,I.kept k,?_,q⟩
 by_cases hj:j > i
 ·rw[if_pos hj,if_pos hj];exact⟨_,rfl⟩
 ·rw[if_neg hj,if_neg hj];exact⟨_,rfl⟩
theorem y3L(hc:X.calm=true):z40 X (.builtin "min") (fun xs H Q=>∃i j,xs=[.int i,.int j]/\Q (.int (if j<i then j else i)) H):=by
 intro pins s σ H xs us Q I r h
 obtain⟨i,j,rfl,q⟩:=h
 obtain⟨u,w',rfl,⟨t,rfl⟩,⟨t',rfl⟩⟩:=y3s r
 refine min_two_ints (I.ok.hd hc) fun h' tk k=>⟨_,H,I.kept k,?_,q⟩
 by_cases hj:j<i
 ·rw[if_pos hj,if_pos hj];exact⟨_,rfl⟩
 ·rw[if_neg hj,if_neg hj];exact⟨_,rfl⟩
end
structure U7(h:Heap)(x dx C:Addr)(mA:Str->Option Value):Prop where
 obj:h.get? x=some (PySem.W.instObj C dx)
 ns:h.Ns1 dx mA
 ne:dx≠x
theorem y37{h:Heap}{dx:Addr}{mA:Str->Option Value}(n:h.Ns1 dx mA):∃od,h.get? dx=some od/\∀name,PySem.W.lookIn name od=some (mA name):=by
 obtain⟨o,es,ep,ho,hd,hk,_,hm⟩:=n
 refine⟨o,ho,fun name=>?_⟩
 have e:=hm name
 unfold nsFind findBy at e
 rw[<- Array.find?_toList] at e
 unfold PySem.W.lookIn
 rw[hd]
 dsimp only
 split
 ·rename_i y q
  rw[q] at e
  exact congrArg some e
 ·rename_i q
  rw[q] at e
  have a:es.toList.any (·.refKey)=false:=by
   rw[jN]
   intro y hy
   obtain⟨z,t,hkey⟩:=hk y (Array.mem_toList_iff.mp hy)
   simp[DictEntry.refKey,hkey]
  have a':¬es.toList.any (·.refKey)=true:=by rw[a];exact bJ
  rw[if_neg a']
  exact congrArg some e
theorem U7.look{h:Heap}{x dx C:Addr}{mA:Str->Option Value}(I:U7 h x dx C mA):∃od,PySem.W.InstAt h x (PySem.W.instObj C dx) C (some od)/\∀name,PySem.W.lookIn name od=some (mA name):=
 let ⟨od,ho,hl⟩:=y37 I.ns
 ⟨od,⟨I.obj,rfl,rfl,ho⟩,hl⟩
section
variable{prog:Program}{w:World}{A:Around}{E:Value->Shared->Prop}{s:Shared}{K:PySem.W.Frag}{x dx C f:Addr}{mA:Str->Option Value}{name:Str}{v:Value}
theorem y6z{expr:Bool}{Q:Value->Shared->Prop}(X:K.In s.heap)(I:U7 s.heap x dx C mA)(hg:PySem.W.plainGet K C name=true)(hh:PySem.W.hasDictIn K C=true)
  (ha:PySem.W.findIn K (.ref C) name=some none) (hv:mA name=some v) (hv':PySem.W.handedIn v=true) (h:Q v { s with toks:=s.toks+1 }) :
  wpAny (model prog w) A (getAttr (.ref x) name expr) Q E s:=by
 obtain⟨od,J,hl⟩:=I.look
 exact PySem.W.get_value X J (jD hg).1 (PySem.W.findObj_own hh ha rfl (by rw[hl,hv])) hv' h
theorem y4M{pl:Sem Bool}{Q:Value×List Value->Shared->Prop}(X:K.In s.heap)(I:U7 s.heap x dx C mA)(hg:PySem.W.plainGet K C name=true)
  (hf:PySem.W.findIn K (.ref C) name=some (some (.ref f))) (ht:PySem.W.isFn K (.ref f)=true) (hv:mA name=none) (h:Q (.ref f,[.ref x]) s) :
  wpAny (model prog w) A (getMethod (.ref x) name pl) Q E s:=by
 obtain⟨od,J,hl⟩:=I.look
 exact PySem.W.method_fn X J (jD hg).1 (jD hg).2 hf (beq_iff_eq.mp ht) (by show(PySem.W.lookIn name od).map (·.isSome)=some false;rw[hl,hv];rfl) h
theorem y6U{ns:List Str}{Q:Unit->Shared->Prop}(X:K.In s.heap)(I:U7 s.heap x dx C mA)
  (hs:PySem.W.findIn K (.ref C) "__setattr__"=some (some (.builtin "object.__setattr__"))) (hp:PySem.W.plainOver K C=true) (ht:PySem.W.takerIn K C name=some none) (hh:PySem.W.hasDictIn K C=true)
  (hw:PySem.Within mA ns) (hsz:ns.length≤sizeLine)
  (h:∀h',U7 h' x dx C (fun y=>if y=name then some v else mA y)->Heap.SameBut dx s.heap h'->Q () { s with heap:=h',toks:=s.toks+2 }) :
  wpAny (model prog w) A (setAttr (.ref x) name v) Q E s:=by
 obtain⟨od,J,hl⟩:=I.look
 refine PySem.W.set_plain X J hs (PySem.W.osa_open (s:={ s with toks:=s.toks+1 }) (r:=none) X J hp ht fun b=>?_)
 obtain⟨cd,hc,hd'⟩:=PySem.W.any_some hh
 have hx:s.heap.get? x=some ⟨.ref C,some dx,.plain,#[]⟩:=I.obj
 refine wpAny_bind (wpAny_pure (wpAny_bind (wpAny_bind (wpAny_loadPart hx (wpAny_bind (PySem.W.Looks.here (s:={ s with toks:=s.toks+1 }) (PySem.W.looks_clsIn X hc) ?_))))))
 rw[hd']
 refine wpAny_pure (a:=some dx) (wpAny_bind (wpAny_pure (wpAny_bind ?_)))
 refine wpAny_nsSet1 (s:={ s with toks:=s.toks+1 }) I.ns fun h' hn2 hs2=>?_
 obtain⟨oD,esD,epD,hoD,hdD,hcD⟩:=hn2.count (PySem.Within.cons name v hw)
 refine wpAny_bind (wpAny_lookBehind hoD (by rw[hdD];exact pastItsLine_dict (cM hcD (by rw[cH];omega))) ?_)
 exact wpAny_pure (h _ ⟨(hs2.2 _ (dE I.ne)).trans I.obj,hn2,I.ne⟩ hs2)
theorem y4Y{R:Result->Shared->Prop}{vs:List Value}{kw:List (Str×Value)}(X:K.In s.heap)(hm:PySem.W.makesIn K C=true)
  (hi:PySem.W.findIn K (.ref C) "__init__"=some (some (.ref f))) (hf:PySem.W.typeIn K (.ref f)=some (.type "function"))
  (h:codeAny (model prog w) (A.under (.builtin "type.__call__" ⟨.ref C::vs,kw⟩)) (.call (.ref f) ⟨.ref (s.heap.objs.size+1)::vs,kw⟩) (PySem.W.InitBack (s.heap.objs.size+1) R)
   { s with heap:=(s.heap.push PySem.W.emptyDict).push (PySem.W.instObj C s.heap.objs.size) }) :
  codeAny (model prog w) A (.call (.ref C) ⟨vs,kw⟩) R s:=by
 obtain⟨hh,g,d,t,os⟩:=s
 exact PySem.W.make_core (PySem.W.makes_of X hm) (PySem.W.looks_findIn X hi) (fun self=>PySem.W.bind_fn X self hf) (.inl rfl) h
end
def J1(f:Str)(v:V):List (Str×V)->List (Str×V)
 | []=>[(f,v)]
 | (g,x)::r=>if g=f then (g,v)::r else (g,x)::J1 f v r
theorem z0s(f g:Str)(v:V):∀fs:List (Str×V),(J1 f v fs).lookup g=if g=f then some v else fs.lookup g
 | []=>by
  show List.lookup g [(f,v)]=_
  by_cases h:g=f
  ·have hb:(g == f)=true:=beq_iff_eq.mpr h
   simp only[List.lookup,hb,if_pos h]
  ·have hb:(g == f)=false:=beq_eq_false_iff_ne.mpr h
   simp only[List.lookup,hb,if_neg h]
 | (k,x)::r=>by
  have ih:=z0s f g v r
  rw[show J1 f v ((k,x)::r)=(if k=f then (k,v)::r else (k,x)::J1 f v r) from rfl]
  by_cases hk:k=f
  ·rw[if_pos hk]
   by_cases h:g=k
   ·have hb:(g == k)=true:=beq_iff_eq.mpr h
    simp only[List.lookup,hb,if_pos (h.trans hk)]
   ·have hb:(g == k)=false:=beq_eq_false_iff_ne.mpr h
    simp only[List.lookup,hb,if_neg (fun e:g=f=>h (e.trans hk.symm))]
  ·rw[if_neg hk]
   by_cases h:g=k
   ·have hb:(g == k)=true:=beq_iff_eq.mpr h
    simp only[List.lookup,hb,if_neg (fun e:g=f=>hk (h.symm.trans e))]
   ·have hb:(g == k)=false:=beq_eq_false_iff_ne.mpr h
    simp only[List.lookup,hb]
    exact ih
theorem z8h(f:Str)(v:V):∀fs:List (Str×V),f∈(J1 f v fs).map (·.1)/\∀g,g∈fs.map (·.1)->g∈(J1 f v fs).map (·.1)
 | []=>⟨by simp[J1],fun g h=>by simp at h⟩
 | (k,x)::r=>by
  obtain⟨i1,i2⟩:=z8h f v r
  rw[show J1 f v ((k,x)::r)=(if k=f then (k,v)::r else (k,x)::J1 f v r) from rfl]
  by_cases hk:k=f
  ·rw[if_pos hk]
   subst hk
   exact⟨by simp,fun g h=>by simpa using h⟩
  ·rw[if_neg hk]
   refine⟨?_,fun g h=>?_⟩
   ·rw[cP]
    exact bS _ i1
   ·rw[cP] at h ⊢
    rcases bA.mp h with e|e
    ·exact bA.mpr (.inl e)
    ·exact bS _ (i2 g e)
theorem z1D(f:Str)(v:V):∀fs:List (Str×V),(J1 f v fs).length≤fs.length+1
 | []=>by simp[J1]
 | (k,x)::r=>by
  have ih:=z1D f v r
  rw[show J1 f v ((k,x)::r)=(if k=f then (k,v)::r else (k,x)::J1 f v r) from rfl]
  by_cases hk:k=f
  ·rw[if_pos hk,cH,cH];omega
  ·rw[if_neg hk,cH,cH];omega
theorem N3.some_of{v:V}{o:Option Value}(r:N3 (some v) o):∃u,o=some u/\RelV v u:=by
 cases o with
 | none=>exact(show False from r).elim
 | some u=>exact⟨u,rfl,r⟩
theorem N3.none_of{o:Option Value}(r:N3 none o):o=none:=by
 cases o with
 | none=>rfl
 | some u=>exact(show False from r).elim
theorem y3y{v:V}{u:Value}(r:RelV v u):PySem.W.handedIn u=true:=by
 cases v with
 | non=>cases (show u=Value.none from r);rfl
 | bl b=>cases (show u=Value.bool b from r);rfl
 | int i=>obtain⟨t,e⟩:=(show ∃t,u=Value.int i t from r);cases e;rfl
 | str x=>obtain⟨t,e⟩:=(show ∃t,u=Value.str x t from r);cases e;rfl
 | byt b=>obtain⟨t,e⟩:=(show ∃t,u=Value.bytes b t from r);cases e;rfl
 | flt b=>obtain⟨t,e⟩:=(show ∃t,u=Value.float b t from r);cases e;rfl
 | ref a=>cases (show u=Value.ref a from r);rfl
 | ty n=>cases (show u=Value.type n from r);rfl
section
variable{P:Program}{w:World}{H H':Hp}{h h':Heap}{a C dx:Addr}{fs fs':List (Str×V)}
theorem z9v(hok:HOk P w H h)(e:H a=some (.ins C dx fs)):∃mA,U7 h a dx C mA/\(∀f,N3 (fs.lookup f) (mA f))/\PySem.Within mA (fs.map (·.1))/\fs.length≤1000/\H dx=some (.own a):=by
 obtain⟨d,z,ne,ob,mA,n,r,q⟩:=(show z1B P w H h a (.ins C dx fs) from hok a _ e)
 exact⟨mA,⟨ob,n,ne⟩,r,q,z,d⟩
end
structure Cls(K:PySem.W.Frag)(C:Addr):Prop where
 pg:PySem.W.plainGet K C Str.empty=true
 hd:PySem.W.hasDictIn K C=true
 po:PySem.W.plainOver K C=true
 sa:PySem.W.findIn K (.ref C) "__setattr__"=some (some (.builtin "object.__setattr__"))
theorem Cls.get{K:PySem.W.Frag}{C:Addr}(c:Cls K C)(f:Str):PySem.W.plainGet K C f=true:=c.pg
def z2W(K:PySem.W.Frag)(C:Addr)(f:Str):Prop:=PySem.W.findIn K (.ref C) f=some none
theorem z2W.w1h{K:PySem.W.Frag}{C:Addr}{f:Str}(n:z2W K C f):PySem.W.takerIn K C f=some none:=by
 unfold PySem.W.takerIn
 rw[show PySem.W.findIn K (.ref C) f=some none from n]
 rfl
structure Meth(K:PySem.W.Frag)(C:Addr)(m:Str)(f:Addr):Prop where
 at_:PySem.W.findIn K (.ref C) m=some (some (.ref f))
 fn:PySem.W.isFn K (.ref f)=true
 kp:PySem.W.keepIn K (.ref f)=true
section
variable{X:Cx}{pins:List (Addr×Obj)}{σ:St}{H:Hp}{s:Shared}{a C dx:Addr}{fs:List (Str×V)}{f:Str}{v:V}{A:Around}{E:Value->Shared->Prop}
theorem y2s{b:Bool}{Q:Value->Shared->Prop}(I:Inv X pins σ H s)(e:H a=some (.ins C dx fs))(c:Cls X.K C)(n:z2W X.K C f)(l:fs.lookup f=some v)
  (h:∀u s',Inv X pins σ H s'->RelV v u->Q u s'):wpAny (model X.prog X.w) A (getAttr (.ref a) f b) Q E s:=by
 obtain⟨mA,O,r,_,_,_⟩:=z9v I.hok e
 obtain⟨u,hu,ru⟩:=N3.some_of (v:=v) (o:=mA f) (by rw[<- l];exact r f)
 exact y6z I.kIn O (c.get f) c.hd n hu (y3y ru) (h u _ (I.tok _) ru)
theorem z6L{m:Str}{g:Addr}{pl:Sem Bool}{Q:Value×List Value->Shared->Prop}(I:Inv X pins σ H s)(e:H a=some (.ins C dx fs))(c:Cls X.K C)(k:Meth X.K C m g)(l:fs.lookup m=none)
  (h:Q (.ref g,[.ref a]) s):wpAny (model X.prog X.w) A (getMethod (.ref a) m pl) Q E s:=by
 obtain⟨mA,O,r,_,_,_⟩:=z9v I.hok e
 have hn:mA m=none:=N3.none_of (by rw[<- l];exact r m)
 exact y4M I.kIn O (c.get m) k.at_ k.fn hn h
theorem y1Y{y:V}{u:Value}{Q:Unit->Shared->Prop}(I:Inv X pins σ H s)(e:H a=some (.ins C dx fs))(c:Cls X.K C)(n:z2W X.K C f)(hl:fs.length<1000)(ry:RelV y u)
  (h:∀s',Inv X pins σ (upd H a (.ins C dx (J1 f y fs))) s'->Q () s'):wpAny (model X.prog X.w) A (setAttr (.ref a) f u) Q E s:=by
 obtain⟨mA,O,r,wi,_,ho⟩:=z9v I.hok e
 have hz:(fs.map (·.1)).length≤sizeLine:=by rw[b7,sizeLine_eq];omega
 refine y6U I.kIn O c.sa c.po n.w1h c.hd wi hz fun h' O' sb=>h _ ?_
 have hd:∃o,h'.get? dx=some o:=let ⟨o,_,_,e',_⟩:=O'.ns;⟨o,e'⟩
 refine I.write (x:=a) (e:=dx) (by rw[e];exact True.intro) (.inr ho) (fun b q hb z=>(sb.2 b hb).trans z) hd ?_
 refine⟨by rw[z0k O.ne];exact ho,?_,O.ne,O'.obj,_,O'.ns,fun g=>?_,fun g hg=>?_⟩
 ·have:=z1D f y fs;omega
 ·show N3 ((J1 f y fs).lookup g) (if g=f then some u else mA g)
  rw[z0s]
  by_cases q:g=f
  ·rw[if_pos q,if_pos q];exact ry
  ·rw[if_neg q,if_neg q];exact r g
 ·by_cases q:g=f
  ·rw[q];exact(z8h f y fs).1
  ·refine(z8h f y fs).2 g (wi g fun z=>hg ?_)
   show(if g=f then some u else mA g)=none
   rw[if_neg q];exact z
theorem Inv.made(I:Inv X pins σ H s):Inv X pins σ (upd (upd H s.heap.objs.size (.own (s.heap.objs.size+1))) (s.heap.objs.size+1) (.ins C s.heap.objs.size []))
  { s with heap:=(s.heap.push PySem.W.emptyDict).push (PySem.W.instObj C s.heap.objs.size) }:=by
 have e1:(s.heap.push PySem.W.emptyDict).get? s.heap.objs.size=some PySem.W.emptyDict:=bM s.heap rfl
 have e2:((s.heap.push PySem.W.emptyDict).push (PySem.W.instObj C s.heap.objs.size)).get? (s.heap.objs.size+1)=some (PySem.W.instObj C s.heap.objs.size):=by
  have:=bM (s.heap.push PySem.W.emptyDict) (o:=PySem.W.instObj C s.heap.objs.size) rfl
  rwa [fV] at this
 have e3:(s.heap.push PySem.W.emptyDict).Ns s.heap.objs.size (fun _=>none):=⟨PySem.W.emptyDict,#[],_,e1,rfl,(fun e he=>absurd he (by simp)),fun _=>rfl⟩
 have I1:=I.laid (a:=s.heap.objs.size) (o:=.own (s.heap.objs.size+1)) (h':=s.heap.push PySem.W.emptyDict) (t':=s.toks) (fun b u q=>b9 _ q) (bE _) ⟨_,e1⟩
 refine I1.laid (a:=s.heap.objs.size+1) (o:=.ins C s.heap.objs.size []) (t':=s.toks) (fun b u q=>b9 _ q) (Nat.le_of_eq (fV _ _)) ?_
 have ne:s.heap.objs.size≠s.heap.objs.size+1:=cK (dO _)
 refine⟨by rw[z0k ne,z03],cV _,ne,e2,fun _=>none,(Heap.Ns1.of_empty e3).at fun o q=>b9 _ q,fun _=>True.intro,fun y hy=>absurd rfl hy⟩
theorem y6t{prog:Program}{w:World}{env:Env}{e:Expr}{f:Str}{pos:Pos}{s:Shared}{Q:Value->Shared->Prop}(hb:attributeBase e f env (eval e env)=eval e env)
  (h:wpAny (model prog w) A (eval e env) (fun o s₁=>wpAny (model prog w) A (getAttr o f true) Q E s₁) E s):wpAny (model prog w) A (eval (.Attribute e f pos) env) Q E s:=
 Attribute_any_ h (by rw[arm_eval_Attribute,hb])
end
def w0g(K:PySem.W.Frag)(ta:TE)(f:Str):TE:=fun σ H Q=>ta σ H fun x H1=>∃a C dx fs v,x=.ref a/\H1 a=some (.ins C dx fs)/\Cls K C/\z2W K C f/\fs.lookup f=some v/\Q v H1
def sFld(K:PySem.W.Frag)(ta tv:TE)(f:Str):TS:=fun D σ H=>tv σ H fun y H1=>ta σ H1 fun x H2=>∃a C dx fs,x=.ref a/\H2 a=some (.ins C dx fs)/\Cls K C/\z2W K C f/\fs.length<1000/\
 D.nx σ (upd H2 a (.ins C dx (J1 f y fs)))
section
variable{X:Cx}{o e value:Expr}{f:Str}{pos pos' tpos:Pos}{ta tv:TE}
theorem z0I(he:PE X e ta)(hb:attributeBase e f X.env (eval e X.env)=eval e X.env):PE X (.Attribute e f pos) (w0g X.K ta f):=by
 intro pins s σ H Q I h
 refine y6t hb (thn (he pins s σ H _ I h) fun u s1 hz=>?_)
 obtain⟨x,H1,I1,rx,a,C,dx,fs,v,ex,ea,c,n,l,q⟩:=hz
 subst ex
 obtain rfl:u=Value.ref a:=rx
 exact y2s I1 ea c n l fun u' s2 I2 ru=>⟨v,H1,I2,ru,q⟩
theorem z6f(ha:PE X o ta)(hv:PE X value tv)(hs:swapsWith value (some (.Attribute o f pos')) pos.line X.env=pure false):PS X (.Assign [.Attribute o f pos'] value pos) (sFld X.K ta tv f):=by
 intro pins s σ H D I h
 refine plainObj_wpAny_Assign_Attribute (thn (hv pins s σ H _ I h) fun u s1 ⟨y,H1,I1,ry,q⟩=>thn (ha pins s1 σ H1 _ I1 q) fun ov s2 hz=>?_) hs
 obtain⟨x,H2,I2,rx,a,C,dx,fs,ex,ea,c,n,l,q2⟩:=hz
 subst ex
 obtain rfl:ov=Value.ref a:=rx
 exact y1Y I2 ea c n l ry fun s3 I3=>⟨σ,_,I3,q2⟩
theorem y6x{pl:Sem Bool}{m:Str}{apos:Pos}{args:List Expr}{pins:List (Addr×Obj)}{s:Shared}{σ:St}{H:Hp}{Q:Value->Shared->Prop}{te:TE}(he:PE X e te)(I:Inv X pins σ H s)
  (h:te σ H fun x H1=>∃a C dx fs g,x=.ref a/\H1 a=some (.ins C dx fs)/\Cls X.K C/\Meth X.K C m g/\fs.lookup m=none/\
   ∀s1,Inv X pins σ H1 s1->wpAny (model X.prog X.w) X.A (callWith pos (.ref g) [.ref a] (backTo pos (starEach args X.env)) (backToKw pos (keywordEach [] X.env))) Q X.xe s1)
  (ht:eval (.Call (.Attribute e m apos) args [] pos) X.env=(do
   let ov <- eval e X.env
   standAt apos.atName
   let (f,first) <- holding [ov] (getMethod ov m pl)
   callWith pos f first (backTo pos (starEach args X.env)) (backToKw pos (keywordEach [] X.env)))) :
  wpAny (model X.prog X.w) X.A (eval (.Call (.Attribute e m apos) args [] pos) X.env) Q X.xe s:=by
 refine j3 (pl:=pl) (thn (he pins s σ H _ I h) fun u s1 hz=>?_) ht
 obtain⟨x,H1,I1,rx,a,C,dx,fs,g,ex,ea,c,k,l,q⟩:=hz
 subst ex
 obtain rfl:u=Value.ref a:=rx
 exact z6L I1 ea c k l (q s1 I1)
end
section
variable{X:Cx}{pins:List (Addr×Obj)}{σ:St}{H:Hp}{s:Shared}{A:Around}{E:Value->Shared->Prop}{Q:Value->Shared->Prop}{c:Value}{b:Bool}
inductive O5(K:PySem.W.Frag)(H:Hp):V->Value->Prop where
 | non:O5 K H .non (.type "NoneType")
 | bl (x:Bool):O5 K H (.bl x) (.type "bool")
 | int (i:Int):O5 K H (.int i) (.type "int")
 | str (x:Str):O5 K H (.str x) (.type "str")
 | flt (x:UInt64):O5 K H (.flt x) (.type "float")
 | lst {a:Addr}{xs:List V} (e:H a=some (.lst xs)):O5 K H (.ref a) (.type "list")
 | frz {a:Addr}{o:Obj}{xs:List V} (e:H a=some (.frz o (.lst xs))):O5 K H (.ref a) (.type "list")
 | tup {a:Addr}{xs:List V} (e:H a=some (.tup xs)):O5 K H (.ref a) (.type "tuple")
 | dK {a:Addr}{kvs:List (Key×V)} (e:H a=some (.dK kvs)):O5 K H (.ref a) (.type "dict")
 | dT {a:Addr}{kvs:List (List Key×V)} (e:H a=some (.dT kvs)):O5 K H (.ref a) (.type "dict")
 | ins {a C dx:Addr}{fs:List (Str×V)} (e:H a=some (.ins C dx fs)) (cl:Cls K C) (ha:PySem.W.findIn K (.ref C) "__class__"=some (some (.builtin "object.__class__")))
   (hn:PySem.W.specialIn K (.builtin "object.__class__") "__get__"=some (some (.builtin "getset_descriptor.__get__"))) (htk:PySem.W.takesIn K (.builtin "object.__class__")=some true)
   (hm:PySem.W.mroIn K C (.type "object")=some true):O5 K H (.ref a) (.ref C)
theorem y3g{x:V}{u t:Value}(I:Inv X pins σ H s)(rx:RelV x u)(ty:O5 X.K H x t)(e:PySem.W.kitOne X.K t c=some b)(h:∀tk,Q (.bool b) { s with toks:=tk }) :
  wpAny (model X.prog X.w) A (call (.builtin "isinstance") [u,c]) Q E s:=by
 cases ty with
 | non=>cases (show u=Value.none from rx);exact dL PySem.W.kitx_none I.kIn True.intro e (fun z=>nomatch z) h
 | bl y=>cases (show u=Value.bool y from rx);exact dL PySem.W.kitx_bool I.kIn True.intro e (fun z=>nomatch z) h
 | int i=>obtain⟨t,q⟩:=(show ∃t,u=Value.int i t from rx);cases q;exact dL PySem.W.kitx_int I.kIn True.intro e (fun z=>nomatch z) h
 | str y=>obtain⟨t,q⟩:=(show ∃t,u=Value.str y t from rx);cases q;exact dL PySem.W.kitx_str I.kIn True.intro e (fun z=>nomatch z) h
 | flt y=>obtain⟨t,q⟩:=(show ∃t,u=Value.float y t from rx);cases q;exact dL PySem.W.kitx_float I.kIn True.intro e (fun z=>nomatch z) h
 | @lst a xs ea=>
  cases (show u=Value.ref a from rx)
  obtain⟨_,_,n,_,h1⟩:=(show z1B X.prog X.w H s.heap a (.lst xs) from I.hok a _ ea)
  exact dL PySem.W.kitx_list I.kIn ⟨_,h1,rfl⟩ e (fun z=>nomatch z) h
 | @frz a ob xs ea=>
  cases (show u=Value.ref a from rx)
  obtain⟨_,_,_,n,_,h1⟩:=(show z1B X.prog X.w H s.heap a (.frz ob (.lst xs)) from I.hok a _ ea)
  exact dL PySem.W.kitx_list I.kIn ⟨_,h1,rfl⟩ e (fun z=>nomatch z) h
 | @tup a xs ea=>
  cases (show u=Value.ref a from rx)
  obtain⟨_,_,_,p⟩:=(show z1B X.prog X.w H s.heap a (.tup xs) from I.hok a _ ea)
  obtain⟨o,h1,h2,_⟩:=p
  exact dL PySem.W.kitx_tuple I.kIn ⟨o,h1,h2⟩ e (fun z=>nomatch z) h
 | @dK a kvs ea=>
  cases (show u=Value.ref a from rx)
  obtain⟨_,_,vs,_,p⟩:=(show z1B X.prog X.w H s.heap a (.dK kvs) from I.hok a _ ea)
  obtain⟨o,es,ep,h1,h2,_⟩:=p
  exact dL PySem.W.kitx_dict I.kIn ⟨o,h1,h2.1⟩ e (fun z=>nomatch z) h
 | @dT a kvs ea=>
  cases (show u=Value.ref a from rx)
  obtain⟨_,_,xs,_,o,es,ep,h1,h2,_⟩:=(show z1B X.prog X.w H s.heap a (.dT kvs) from I.hok a _ ea)
  exact dL PySem.W.kitx_dict I.kIn ⟨o,h1,h2.1⟩ e (fun z=>nomatch z) h
 | @ins a C dx fs ea cl ha hn htk hm=>
  cases (show u=Value.ref a from rx)
  obtain⟨mA,O,_⟩:=z9v I.hok ea
  obtain⟨od,J,_⟩:=O.look
  exact dL (PySem.W.kitx_own (cl.get _) cl.hd ha hn htk hm) I.kIn J e (fun z=>nomatch z) h
end
structure D4(k:Nat)(A:Around):Prop where
 hd:A.handled=none
 dp:A.depth+3*k+5<recursionLimit
 un:A.units+16*k+200<cLine
theorem D4.mono{j k:Nat}{A:Around}(r:D4 k A)(h:j≤k):D4 j A:=⟨r.hd,by have:=r.dp;omega,by have:=r.un;omega⟩
theorem D4.deeper{k:Nat}{A:Around}(r:D4 (k+1) A)(env:Env):D4 k (A.deeper env):=
 ⟨r.hd,by have:=r.dp;show A.depth+1+3*k+5<_;omega,by have:=r.un;show A.units+3+16*k+200<_;omega⟩
theorem y25{A:Around}{C:Addr}{us:List Value}{kw:List (Str×Value)}:(A.under (.builtin "type.__call__" ⟨.ref C::us,kw⟩)).depth=A.depth+1:=by
 first|rfl|simp[Around.under,Code.weight,Code.isCreation,Code.isGuard,Code.isCaller,Code.frames,Code.isFrame,guardIds]
theorem y2x{A:Around}{C:Addr}{us:List Value}{kw:List (Str×Value)}:(A.under (.builtin "type.__call__" ⟨.ref C::us,kw⟩)).units=A.units+1:=by
 first|rfl|simp[Around.under,Code.cUnits,Code.frames,Code.isFrame]
theorem D4.make{k:Nat}{A:Around}(r:D4 (k+1) A)(C:Addr)(us:List Value)(kw:List (Str×Value)):D4 k (A.under (.builtin "type.__call__" ⟨.ref C::us,kw⟩)):=
 ⟨r.hd,by have:=r.dp;rw[y25];omega,by have:=r.un;rw[y2x];omega⟩
theorem D4.depth{k:Nat}{A:Around}(r:D4 k A):A.depth<recursionLimit:=by have:=r.dp;omega
theorem D4.units{k:Nat}{A:Around}(r:D4 k A):A.units+64<cLine:=by have:=r.un;omega
theorem D4.Q6{k:Nat}{A:Around}(r:D4 k A):A.units<cLine:=by have:=r.un;omega
def V7:TA:=fun _ H Q=>Q [] H
def y5B(ta:TE)(tr:TA):TA:=fun σ H Q=>ta σ H fun x H1=>tr σ H1 fun xs H2=>Q (x::xs) H2
section
variable{X:Cx}{e:Expr}{es:List Expr}{te:TE}{t:TA}{pos:Pos}
theorem z02:PA X [] V7:=fun _ _ _ _ H Q I h=>Calls.spliced_nil ⟨[],H,I,.nil,h⟩
theorem z00(ha:PE X e te)(hr:PA X es t)(hs:starEach (e::es) X.env=(false,eval e X.env)::starEach es X.env:=by rfl):PA X (e::es) (y5B te t):=by
 intro pos pins s σ H Q I h
 rw[hs]
 show wpAny _ _ (spliced ((false,eval e X.env)::backTo pos (starEach es X.env))) _ _ s
 refine Calls.spliced_cons (thn (ha pins s σ H _ I h) fun u s1 hz=>?_)
 obtain⟨x,H1,I1,r1,q1⟩:=hz
 exact thn (hr pos pins s1 σ H1 _ I1 q1) fun us s2 ⟨xs,H2,I2,r2,q2⟩=>⟨x::xs,H2,I2,.cons r1 r2,q2⟩
def tTup(t:TA):TE:=fun σ H Q=>t σ H fun xs H1=>xs.length≤sizeLine/\∀p,H1 p=none->Q (.ref p) (upd H1 p (.tup xs))
def tLst(t:TA):TE:=fun σ H Q=>t σ H fun xs H1=>xs.length≤sizeLine/\∀p,H1 p=none->Q (.ref p) (upd H1 p (.lst xs))
theorem z0Q{x1}(h:PA X es t):PE X (.Tuple es x1 pos) (tTup t):=by
 intro pins s σ H Q I hq
 refine wpAny_Tuple_spliced (thn (h pos pins s σ H _ I hq) fun us s1 ⟨xs,H1,I1,r,z,q⟩=>⟨by rw[<- r.length];exact z,?_⟩)
 have hf:H1 s1.heap.objs.size=none:=I1.hok.fresh (bE _)
 refine⟨.ref s1.heap.objs.size,upd H1 s1.heap.objs.size (.tup xs),I1.laid (t':=s1.toks) (fun b u e=>b9 _ e) (bE _) ?_,rfl,q _ hf⟩
 exact⟨z,us,r,⟨_,bM _ rfl,rfl,⟨_,rfl⟩,rfl⟩⟩
theorem z1i(h:PA X es t):PE X (.List es pos) (tLst t):=by
 intro pins s σ H Q I hq
 refine wpAny_List_spliced (thn (h pos pins s σ H _ I hq) fun us s1 ⟨xs,H1,I1,r,z,q⟩=>⟨by rw[<- r.length];exact z,?_⟩)
 have hf:H1 s1.heap.objs.size=none:=I1.hok.fresh (bE _)
 refine⟨.ref s1.heap.objs.size,upd H1 s1.heap.objs.size (.lst xs),I1.laid (t':=s1.toks) (fun b u e=>b9 _ e) (bE _) ?_,rfl,q _ hf⟩
 exact⟨z,us,0,r,bM _ rfl⟩
end
abbrev Sp:=List V->Hp->VK->XK->Prop
abbrev CXT:=List Env->Hp->Shared->XK->Value->Shared->Prop
structure U9(P:Program)(w:World)(K:PySem.W.Frag)(mg:Str->Option Value)(base:Heap)(A:Around)(outer:List Env)(s:Shared)(H:Hp):Prop where
 frames:A.frames=some outer
 mod:Mod K mg base
 bs:∀b o,base.get? b=some o->s.heap.get? b=some o/\H b=none
 bsz:base.objs.size≤s.heap.objs.size
 Q1:s.heap.FunFrames base outer
 frf:∀b∈frs outer,H b=none
 hok:HOk P w H s.heap
 bare:AllBare s.gens
def CE(outer:List Env)(P:Program)(w:World)(H:Hp)(s:Shared)(Q:VK)(u:Value)(s':Shared):Prop:=
 ∃v H',s'.os=s.os/\AllBare s'.gens/\Un (frs outer) [] H H' s.heap s'.heap/\HOk P w H' s'.heap/\RelV v u/\Q v H'
def CR(CX:CXT)(outer:List Env)(P:Program)(w:World)(H:Hp)(s:Shared)(Q:VK)(E:XK)(r:Result)(s':Shared):Prop:=
 match r with
 | .ok (.ret u)=>CE outer P w H s Q u s'
 | .ok _=>False
 | .error e=>CX outer H s E e s'
structure A7(P:Program)(w:World)(K:PySem.W.Frag)(mg:Str->Option Value)(base:Heap)(CX:CXT)(k:Nat)(f:Addr)(fd:FuncData)(ps:List Str)(sp:Sp):Prop where
 len:∀vs H Q E,sp vs H Q E->vs.length=ps.length
 run:∀(A:Around) (outer:List Env) (s:Shared) (H:Hp) (args:Args) (us:List Value) (vs:List V) (Q:VK) (E:XK),D4 k A->U9 P w K mg base A outer s H->BindsTo s fd args (ps.zip us)->Vals vs us->sp vs H Q E->
  codeAny (model P w) A (.call (.ref f) args) (CR CX outer P w H s Q E) s
theorem A7.mono{P:Program}{w:World}{K:PySem.W.Frag}{mg:Str->Option Value}{base:Heap}{CX:CXT}{j k:Nat}{f:Addr}{fd:FuncData}{ps:List Str}{sp:Sp}(F:A7 P w K mg base CX j f fd ps sp)(h:j≤k) :
  A7 P w K mg base CX k f fd ps sp:=⟨F.len,fun A outer s H args us vs Q E hr=>F.run A outer s H args us vs Q E (hr.mono h)⟩
theorem U9.make{P:Program}{w:World}{K:PySem.W.Frag}{mg:Str->Option Value}{base:Heap}{A:Around}{outer:List Env}{s:Shared}{H:Hp}(e:U9 P w K mg base A outer s H)(C:Addr)(us:List Value)(kw:List (Str×Value)) :
  U9 P w K mg base (A.under (.builtin "type.__call__" ⟨.ref C::us,kw⟩)) outer s H:=⟨by first|exact e.frames|(simpa [Around.under,Code.envs,Code.isFrame,pushEnvs] using e.frames),e.mod,e.bs,e.bsz,e.Q1,e.frf,e.hok,e.bare⟩
section
variable{X:Cx}{pins:List (Addr×Obj)}{σ:St}{H:Hp}{s s':Shared}
theorem Inv.env0(I:Inv X pins σ H s):U9 X.prog X.w X.K X.mg X.base X.A X.stack s H:=
 ⟨I.ok.frames,I.ok.mod,I.bs,cM I.ok.bsz I.sz,I.stack,I.V0,I.hok,I.bare⟩
theorem Inv.after{Q:VK}{u:Value}(I:Inv X pins σ H s)(h:CE X.stack X.prog X.w H s Q u s'):EP X pins σ Q u s':=by
 obtain⟨v,H',os,bare,un,hok,r,q⟩:=h
 obtain⟨hh,g,d,t,os'⟩:=s'
 obtain rfl:os'=s.os:=os
 exact⟨v,H',I.call (h':=hh) (g':=g) (d':=d) (t':=t) (ch:=[]) un hok bare (fun b z=>absurd z (by simp)),r,q⟩
end
def y6W(sp:Sp)(dvs:List V)(E:XK)(t:TA):TE:=fun σ H Q=>t σ H fun vs H1=>sp (vs++dvs) H1 Q E
def y2L(C:Addr)(m:Str)(sp:Sp)(dvs:List V)(E:XK)(ta:TE)(t:TA):TE:=fun σ H Q=>ta σ H fun x H1=>∃a dx fs,x=.ref a/\H1 a=some (.ins C dx fs)/\fs.lookup m=none/\
 t σ H1 fun vs H2=>sp (x::(vs++dvs)) H2 Q E
def y7b(C:Addr)(sp:Sp)(dvs:List V)(E:XK)(t:TA):TE:=fun σ H Q=>t σ H fun vs H1=>∀x dx,H1 x=none->H1 dx=none->dx≠x->
 sp (.ref x::(vs++dvs)) (upd (upd H1 dx (.own x)) x (.ins C dx [])) (fun v H2=>v=.non/\Q (.ref x) H2) E
def z21(K:PySem.W.Frag)(fd:FuncData)(ps:List Str)(ds:List Value):Prop:=
 ∀(s:Shared) (us:List Value),K.In s.heap->(us++ds).length=ps.length->BindsTo s fd ⟨us,[]⟩ (ps.zip (us++ds))
theorem z21.all{K:PySem.W.Frag}{fd:FuncData}{ps:List Str}(h:∀us:List Value,us.length=ps.length->bindArgs fd ⟨us,[]⟩=pure (ps.zip us)):z21 K fd ps []:=fun s us _ hl=>by
 rw[cY] at hl ⊢
 exact .of_eq (h us hl)
def z7R(CX:CXT)(X:Cx)(E:XK):Prop:=∀(pins:List (Addr×Obj)) (σ:St) (H:Hp) (s:Shared) (e:Value) (s':Shared),Inv X pins σ H s->CX X.stack H s E e s'->X.xe e s'
section
variable{X:Cx}{CX:CXT}{k:Nat}{f C:Addr}{fd:FuncData}{ps:List Str}{sp:Sp}{dvs:List V}{ds:List Value}{E:XK}{x m:Str}{p pos apos:Pos}{e o:Expr}{es:List Expr}{ta:TE}{t:TA}
theorem y4u{pins:List (Addr×Obj)}{σ:St}{H:Hp}{s:Shared}{Q:VK}{us:List Value}{vs:List V}(F:A7 X.prog X.w X.K X.mg X.base CX k f fd ps sp)(hr:D4 k X.A)(hb:z21 X.K fd ps ds)(hd:Vals dvs ds)(hx:z7R CX X E)
  (I:Inv X pins σ H s) (r:Vals vs us) (h:sp (vs++dvs) H Q E):wpAny (model X.prog X.w) X.A (call (.ref f) us) (EP X pins σ Q) X.xe s:=by
 have r2:Vals (vs++dvs) (us++ds):=r.append hd
 have hl:(us++ds).length=ps.length:=by rw[<- r2.length];exact F.len _ _ _ _ h
 refine wpAny_call (codeAny_mono (F.run X.A X.stack s H ⟨us,[]⟩ (us++ds) (vs++dvs) Q E hr I.env0 (hb s us I.kIn hl) r2 h) fun r s' hq=>?_)
 cases r with
 | error e=>exact hx pins σ H s e s' I hq
 | ok fl=>
  cases fl with
  | ret u=>exact I.after hq
  | next=>exact False.elim hq
  | brk=>exact False.elim hq
  | cont=>exact False.elim hq
theorem y38(F:A7 X.prog X.w X.K X.mg X.base CX k f fd ps sp)(hr:D4 k X.A)(hg:Gl X x)(hm:X.mg x=some (.ref f))(hk:PySem.W.keepIn X.K (.ref f)=true)(hb:z21 X.K fd ps ds)(hd:Vals dvs ds)(hx:z7R CX X E)
  (ha:PA X (e::es) t) (hdb:(x == ("__debug__":Str))=false:=by decide) (he:starEach (e::es) X.env=(false,eval e X.env)::starEach es X.env:=by rfl) (hpl:(backTo pos (starEach es X.env)).any (·.1)=false:=by rfl) :
  PE X (.Call (.Name x p) (e::es) [] pos) (y6W sp dvs E t):=by
 intro pins s σ H Q I h
 refine wpAny_Call_Name_kw (y19 I hg hm ?_ hdb)
 refine jJ (h₀:=X.base) I.ok.mod.kin hk (thn (ha pos pins s σ H _ I h) fun us s1 ⟨vs,H1,I1,r,q⟩=>⟨I1.kIn,?_⟩) he hpl
 exact y4u F hr hb hd hx I1 r q
theorem y4g{pl:Sem Bool}(he:PE X o ta)(c:Cls X.K C)(hm:Meth X.K C m f)(F:A7 X.prog X.w X.K X.mg X.base CX k f fd ps sp)(hr:D4 k X.A)(hb:z21 X.K fd ps ds)(hd:Vals dvs ds)(hx:z7R CX X E)(ha:PA X (e::es) t)
  (hst:starEach (e::es) X.env=(false,eval e X.env)::starEach es X.env:=by rfl) (hpl:(backTo pos (starEach es X.env)).any (·.1)=false:=by rfl)
  (ht:eval (.Call (.Attribute o m apos) (e::es) [] pos) X.env=(do
   let ov <- eval o X.env
   standAt apos.atName
   let (f,first) <- holding [ov] (getMethod ov m pl)
   callWith pos f first (backTo pos (starEach (e::es) X.env)) (backToKw pos (keywordEach [] X.env))):=by rfl) :
  PE X (.Call (.Attribute o m apos) (e::es) [] pos) (y2L C m sp dvs E ta t):=by
 intro pins s σ H Q I h
 refine j3 (pl:=pl) (thn (he pins s σ H _ I h) fun u s1 hz=>?_) ht
 obtain⟨x,H1,I1,rx,a,dx,fs,ex,ea,l,q⟩:=hz
 subst ex
 obtain rfl:u=Value.ref a:=rx
 refine z6L I1 ea c hm l ?_
 refine jJ (first:=[.ref a]) (h₀:=X.base) I.ok.mod.kin hm.kp (thn (ha pos pins s1 σ H1 _ I1 q) fun us s2 ⟨vs,H2,I2,r,q2⟩=>⟨I2.kIn,?_⟩) hst hpl
 exact y4u (us:=.ref a::us) (vs:=.ref a::vs) F hr hb hd hx I2 (.cons rfl r) q2
theorem y4L{pl:Sem Bool}(he:PE X o ta)(c:Cls X.K C)(hm:Meth X.K C m f)(F:A7 X.prog X.w X.K X.mg X.base CX k f fd ps sp)(hr:D4 k X.A)(hb:z21 X.K fd ps ds)(hd:Vals dvs ds)(hx:z7R CX X E)
  (ht:eval (.Call (.Attribute o m apos) [] [] pos) X.env=(do
   let ov <- eval o X.env
   standAt apos.atName
   let (f,first) <- holding [ov] (getMethod ov m pl)
   callWith pos f first (backTo pos (starEach [] X.env)) (backToKw pos (keywordEach [] X.env))):=by rfl) :
  PE X (.Call (.Attribute o m apos) [] [] pos) (y2L C m sp dvs E ta V7):=by
 intro pins s σ H Q I h
 refine j3 (pl:=pl) (thn (he pins s σ H _ I h) fun u s1 hz=>?_) ht
 obtain⟨x,H1,I1,rx,a,dx,fs,ex,ea,l,q⟩:=hz
 subst ex
 obtain rfl:u=Value.ref a:=rx
 refine z6L I1 ea c hm l ?_
 exact PySem.W.callWith_K0 (first:=[.ref a]) I1.kIn hm.kp (y4u (us:=[.ref a]) (vs:=[.ref a]) F hr hb hd hx I1 (.cons rfl .nil) q)
structure Mk(K:PySem.W.Frag)(C f:Addr):Prop where
 makes:PySem.W.makesIn K C=true
 init:PySem.W.findIn K (.ref C) "__init__"=some (some (.ref f))
 fn:PySem.W.isFn K (.ref f)=true
 kp:PySem.W.keepIn K (.ref C)=true
theorem y5o{pins:List (Addr×Obj)}{σ:St}{H:Hp}{s:Shared}{Q:VK}{us:List Value}{vs:List V}(M:Mk X.K C f)(F:A7 X.prog X.w X.K X.mg X.base CX k f fd ps sp)(hr:D4 (k+1) X.A)(hb:z21 X.K fd ps ds)(hd:Vals dvs ds)
  (hx:z7R CX X E) (I:Inv X pins σ H s) (r:Vals vs us)
  (h:∀x dx,H x=none->H dx=none->dx≠x->sp (.ref x::(vs++dvs)) (upd (upd H dx (.own x)) x (.ins C dx [])) (fun v H2=>v=.non/\Q (.ref x) H2) E) :
  wpAny (model X.prog X.w) X.A (call (.ref C) us) (EP X pins σ Q) X.xe s:=by
 have hq:=h (s.heap.objs.size+1) s.heap.objs.size (I.hok.fresh (gB _)) (I.hok.fresh (bE _)) (cK (dO _))
 have I2:=Inv.made (C:=C) I
 have r2:Vals (V.ref (s.heap.objs.size+1)::(vs++dvs)) (Value.ref (s.heap.objs.size+1)::(us++ds)):=.cons rfl (r.append hd)
 have hl:(Value.ref (s.heap.objs.size+1)::us++ds).length=ps.length:=by
  have e:=r2.length
  rw[F.len _ _ _ _ hq] at e
  exact e.symm
 refine wpAny_call (y4Y (f:=f) I.kIn M.makes M.init (beq_iff_eq.mp M.fn) (codeAny_mono (F.run _ X.stack _ _ ⟨Value.ref (s.heap.objs.size+1)::us,[]⟩ (Value.ref (s.heap.objs.size+1)::(us++ds)) _ _ E (hr.make C us [])
  (I2.env0.make C us []) (hb _ (Value.ref (s.heap.objs.size+1)::us) I2.kIn hl) r2 hq) fun r s' hq'=>?_))
 cases r with
 | error e=>exact hx pins σ _ _ e s' I2 hq'
 | ok fl=>
  cases fl with
  | ret u=>
   obtain⟨v,H',I3,rv,ev,q3⟩:=I2.after hq'
   subst ev
   exact⟨rv,⟨V.ref (s.heap.objs.size+1),H',I3,rfl,q3⟩⟩
  | next=>exact False.elim hq'
  | brk=>exact False.elim hq'
  | cont=>exact False.elim hq'
theorem y6B(M:Mk X.K C f)(F:A7 X.prog X.w X.K X.mg X.base CX k f fd ps sp)(hr:D4 (k+1) X.A)(hg:Gl X x)(hm:X.mg x=some (.ref C))(hb:z21 X.K fd ps ds)(hd:Vals dvs ds)(hx:z7R CX X E)
  (ha:PA X (e::es) t) (hdb:(x == ("__debug__":Str))=false:=by decide) (he:starEach (e::es) X.env=(false,eval e X.env)::starEach es X.env:=by rfl) (hpl:(backTo pos (starEach es X.env)).any (·.1)=false:=by rfl) :
  PE X (.Call (.Name x p) (e::es) [] pos) (y7b C sp dvs E t):=by
 intro pins s σ H Q I h
 refine wpAny_Call_Name_kw (y19 I hg hm ?_ hdb)
 refine jJ (h₀:=X.base) I.ok.mod.kin M.kp (thn (ha pos pins s σ H _ I h) fun us s1 ⟨vs,H1,I1,r,q⟩=>⟨I1.kIn,?_⟩) he hpl
 exact y5o M F hr hb hd hx I1 r q
end
def PK(X:Cx)(kws:List Keyword)(t:TA):Prop:=
 ∀(pos:Pos) (pins:List (Addr×Obj)) (s:Shared) (σ:St) (H:Hp) (Q:List V->Hp->Prop),Inv X pins σ H s->t σ H Q->wpAny (model X.prog X.w) X.A (evalAll ((backToKw pos (keywordEach kws X.env)).map (·.2))) (AP X pins σ Q) X.xe s
section
variable{X:Cx}{CX:CXT}{k:Nat}{f C:Addr}{fd:FuncData}{ps ks:List Str}{sp:Sp}{E:XK}{x m:Str}{p pos apos kpos:Pos}{e o:Expr}{es:List Expr}{kws:List Keyword}{te ta:TE}{t tk:TA}{nm:Option Str}
theorem y1J:PK X [] V7:=fun _ _ _ _ H Q I h=>wpAny_evalAll_nil ⟨[],H,I,.nil,h⟩
theorem z9g(ha:PE X e te)(hr:PK X kws t):PK X (⟨nm,e,kpos⟩::kws) (y5B te t):=by
 intro pos pins s σ H Q I h
 show wpAny _ _ (evalAll ((do let v <- eval e X.env;standAt pos;pure v)::(backToKw pos (keywordEach kws X.env)).map (·.2))) _ _ s
 refine wpAny_evalAll_cons (wpAny_bind (thn (ha pins s σ H _ I h) fun u s1 ⟨x,H1,I1,r1,q1⟩=>wpAny_bind (wpAny_standAt (wpAny_pure ?_))))
 exact thn (hr pos pins s1 σ H1 _ I1 q1) fun us s2 ⟨xs,H2,I2,r2,q2⟩=>⟨x::xs,H2,I2,.cons r1 r2,q2⟩
variable{g:List Value->List Value->List Value}{gV:List V->List V->List V}
end
structure A2(N P:List Str)(sc:Scope):Prop where
 kind:sc.kind=.function
 co:sc.isCoroutine=false
 gen:sc.isGenerator=false
 nd:N.Nodup
 pre:N.take P.length=P
 par:∀x∈P,sc.names.lookup x=some .local\/sc.names.lookup x=some .cell
 nofree:∀y∈sc.names,y.2≠.free
theorem y0B{kindOf:Str->Option NameKind}{x:Str}:∀{binds:List (Str×Value)}{m:Str->Option Value},(∀v,(x,v)∉binds)->bindL kindOf binds m x=m x
 | [],_,_=>rfl
 | (n,v)::r,m,h=>by
  unfold bindL
  rw[y0B fun w hw=>h w (bS _ hw)]
  split
  ·have:x≠n:=by rintro rfl;exact h v bU
   simp[this]
  ·rfl
theorem y0q{kindOf:Str->Option NameKind}{x:Str}:∀{binds:List (Str×Value)}{m:Str->Option Value},(∀v,(x,v)∉binds)->bindC kindOf binds m x=m x
 | [],_,_=>rfl
 | (n,v)::r,m,h=>by
  unfold bindC
  rw[y0q fun w hw=>h w (bS _ hw)]
  split
  ·rfl
  ·have:x≠n:=by rintro rfl;exact h v bU
   simp[this]
theorem y09{kindOf:Str->Option NameKind}{x:Str}{v:Value}:∀{P:List Str}{vs:List Value}{i:Nat}{m:Str->Option Value},P.Nodup->P[i]? = some x->vs[i]? = some v->kindOf x=some .local->
  bindL kindOf (P.zip vs) m x=some v
 | [],_,_,_,_,h,_,_=>by simp at h
 | _::_,[],_,_,_,_,h,_=>by simp at h
 | p::P,w::vs,0,m,nd,h1,h2,hk=>by
  simp at h1 h2;subst h1;subst h2
  show bindL kindOf ((p,w)::P.zip vs) m p=_
  unfold bindL
  rw[y0B fun v hv=>(dM.mp nd).1 (List.of_mem_zip hv).1,if_pos hk]
  simp
 | p::P,w::vs,i+1,m,nd,h1,h2,hk=>by
  show bindL kindOf ((p,w)::P.zip vs) m x=_
  unfold bindL
  exact y09 (i:=i) (dM.mp nd).2 (by simpa using h1) (by simpa using h2) hk
theorem y0j{kindOf:Str->Option NameKind}{x:Str}{v:Value}:∀{P:List Str}{vs:List Value}{i:Nat}{m:Str->Option Value},P.Nodup->P[i]? = some x->vs[i]? = some v->kindOf x≠some .local->
  bindC kindOf (P.zip vs) m x=some v
 | [],_,_,_,_,h,_,_=>by simp at h
 | _::_,[],_,_,_,_,h,_=>by simp at h
 | p::P,w::vs,0,m,nd,h1,h2,hk=>by
  simp at h1 h2;subst h1;subst h2
  show bindC kindOf ((p,w)::P.zip vs) m p=_
  unfold bindC
  rw[y0q fun v hv=>(dM.mp nd).1 (List.of_mem_zip hv).1,if_neg hk]
  simp
 | p::P,w::vs,i+1,m,nd,h1,h2,hk=>by
  show bindC kindOf ((p,w)::P.zip vs) m x=_
  unfold bindC
  exact y0j (i:=i) (dM.mp nd).2 (by simpa using h1) (by simpa using h2) hk
def z6d(N:List Str)(vs:List V):St:=vs.map some++List.replicate (N.length-vs.length) none
def U8(CX:CXT)(P:Program)(w:World)(K:PySem.W.Frag)(mg:Str->Option Value)(base:Heap)(N:List Str)(qual:Str)(scope:Scope)(f:Addr)(cd:Value)(A:Around)(outer:List Env)(s:Shared)(H:Hp)(E:XK):Cx where
 prog:=P
 w:=w
 K:=K
 mg:=mg
 base:=base
 A:=A.deeper (envOfC qual scope s.heap.objs.size f cd)
 N:=N
 s₀:=s
 H₀:=H
 env:=envOfC qual scope s.heap.objs.size f cd
 outer:=outer
 stack:=envOfC qual scope s.heap.objs.size f cd::outer
 ex:=[]
 calm:=true
 fn:=fun _=>true
 pn:=[]
 xe:=fun e s'=>wpAny (model P w) (A.deeper (envOfC qual scope s.heap.objs.size f cd)) (leaving (envOfC qual scope s.heap.objs.size f cd) e) (fun _ s''=>CX outer H s E e s'') (fun e' s''=>CX outer H s E e' s'') s'
theorem y1F{sc:Scope}{n:Nat}{x:Str}(h:sc.names.lookup x=some .cell):∃c,(cellsFrom n sc.names []).lookup x=some c:=by
 have q:=PySem.W.cellsFrom_some sc.names n [] (.inl h)
 exact Option.isSome_iff_exists.mp q
theorem y3x{CX:CXT}{P:Program}{w:World}{K:PySem.W.Frag}{mg:Str->Option Value}{base:Heap}{N ps:List Str}{qual:Str}{scope:Scope}{f:Addr}{cd:Value}{A:Around}{outer:List Env}{s s1:Shared}{H:Hp}{E:XK}{us:List Value}{vs:List V}
  (S:A2 N ps scope) (hd:A.handled=none) (e0:U9 P w K mg base A outer s H) (hl:vs.length=ps.length) (r:Vals vs us)
  (x:InCallC s s.heap.objs.size (bindL (envOfC qual scope s.heap.objs.size f cd).kindOf (ps.zip us) fun _=>none) (cellsFrom (s.heap.objs.size+1) scope.names []) (bindC (envOfC qual scope s.heap.objs.size f cd).kindOf (ps.zip us) fun _=>none) s1) :
  Inv (U8 CX P w K mg base N qual scope f cd A outer s H E) [] (z6d N vs) H s1:=by
 have hpl:ps.length≤N.length:=by have:=congrArg List.length S.pre;rw[bH] at this;omega
 obtain⟨h1,tk,rfl,hk⟩:=x.done
 have noA:∀b:Addr,b∉(U8 CX P w K mg base N qual scope f cd A outer s H E).ex:=fun b z=>absurd (show b∈([]:List Addr) from z) (by simp)
 refine⟨⟨e0.mod,S.kind,rfl,rfl,bE _,fun y z c h1 h2=>?_,fun y hy=>?_,fun y c _ h=>?_,fun _=>hd,Around.frames_deeper e0.frames,.inr ⟨rfl,rfl⟩,fun b z=>absurd z (noA b),e0.bs,e0.bsz,fun b _ _=>noA b,fun b z=>absurd z (noA b),e0.Q1,e0.frf⟩,
  rfl,e0.bare,Un.kept hk,⟨_,x.toInCall.ns,fun i y v h1 h2 h3=>?_⟩,fun y c h=>⟨_,x.cell y c h⟩,e0.hok.fresh (bE _),fun y c h=>?_,fun p hp=>absurd (show p∈([]:List (Addr×Obj)) from hp) (by simp),e0.hok.kept hk,?_⟩
 ·exact name_of_addr x.apart (fJ h1) (fJ h2)
 ·have hy:scope.names.lookup y=some .cell\/scope.names.lookup y=some .free:=hy
  rcases hy with hy|hy
  ·exact y1F hy
  ·exact absurd rfl (S.nofree _ (fJ hy))
 ·exact dQ (x.above y c (fJ h))
 ·have hi:i<vs.length:=by
   unfold z6d at h2
   by_cases hi:i<vs.length
   ·exact hi
   ·rw[eB (by simpa using hi)] at h2
    rw[gU] at h2
    split at h2<;>cases h2
  have ha:vs[i]? = some v:=by
   unfold z6d at h2
   rw[dF (by simpa using hi),bB] at h2
   cases e:vs[i]? with
   | none=>rw[e] at h2;cases h2
   | some a=>rw[e] at h2;cases h2;rfl
  obtain⟨u,hu,rv⟩:=r.get ha
  have hp:ps[i]? = some y:=by
   rw[<- S.pre,List.getElem?_take_of_lt (by omega)];exact h1
  have ndP:ps.Nodup:=by rw[<- S.pre];exact S.nd.sublist (List.take_sublist _ _)
  refine⟨u,rv,?_⟩
  rcases S.par y (bO hp) with k|k
  ·exact .inl ⟨k,y09 ndP hp hu k⟩
  ·obtain⟨c,e⟩:=y1F (n:=s.heap.objs.size+1) k
   refine .inr ⟨.inl k,c,e,?_⟩
   have q:=x.cell y c e
   rw[y0j ndP hp hu (by show scope.names.lookup y≠_;rw[k];decide)] at q
   exact q
 ·exact e0.hok.fresh (dQ (x.above y c (fJ h)))
 ·unfold z6d
  show _=N.length
  rw[bG,b7,j4]
  omega
theorem y7r{CX:CXT}{P:Program}{w:World}{K:PySem.W.Frag}{mg:Str->Option Value}{base:Heap}{k:Nat}{f:Addr}{name qual:Str}{params:Arguments}{body:List Stmt}{scope:Scope}{dV kV doc pm cdv ct oc:Value}{an od:Option Addr}
  {osl:Array (Option Value)}{N ps:List Str}{sp:Sp} (lk:K.lookup f=some ⟨oc,od,.func (PySem.W.fnOf name qual params body scope dV kV doc pm an cdv ct),osl⟩) (hcd:PySem.W.codeIn K cdv qual=true) (S:A2 N ps scope)
  (len:∀vs H Q E,sp vs H Q E->vs.length=ps.length)
  (T8:∀(A:Around) (outer:List Env) (s:Shared) (H:Hp) (vs:List V) (Q:VK) (E:XK),D4 k (A.deeper (envOfC qual scope s.heap.objs.size f cdv))->sp vs H Q E->
   ∃t,PSs (U8 CX P w K mg base N qual scope f cdv A outer s H E) body t/\t { nx:=fun _ H'=>Q .non H',rt:=Q } (z6d N vs) H) :
  A7 P w K mg base CX (k+1) f (PySem.W.fnOf name qual params body scope dV kV doc pm an cdv ct) ps sp:=by
 refine⟨len,fun A outer s H args us vs Q E hr e0 hb r hsp=>?_⟩
 have hl:=len _ _ _ _ hsp
 have KX:K.In s.heap:=e0.mod.kin.keeps fun b o e=>(e0.bs b o e).1
 have lim:s.heap.NoLimit:=e0.mod.nolimit.keeps fun b o e=>(e0.bs b o e).1
 have w1g:∀y∈ps.zip us,scope.names.lookup y.1=some .local\/(scope.names.lookup y.1=some .cell/\((cellsFrom (s.heap.objs.size+1) scope.names []).lookup y.1).isSome=true):=fun⟨n,v⟩ hy=>by
  rcases S.par n (List.of_mem_zip hy).1 with q|q
  ·exact .inl q
  ·exact .inr ⟨q,PySem.W.cellsFrom_some _ _ _ (.inl q)⟩
 refine codeAny_call_function hr.depth (KX _ _ lk) rfl S.co S.gen rfl (PySem.W.codeRec_of KX hcd) (hb _ _ _ _ ?_)
 refine wpAny_newFunctionEnv_cells S.kind w1g fun env he s1 x=>?_
 subst he
 refine⟨lim.keeps x.toInCall.keep,codeAny_func ?_⟩
 obtain⟨t,ht,hq⟩:=T8 A outer s H vs Q E (hr.deeper _) hsp
 have I:Inv (U8 CX P w K mg base N qual scope f cdv A outer s H E) [] (z6d N vs) H s1:=y3x S hr.hd e0 hl r x
 refine wpAny_mono (ht [] s1 (z6d N vs) H _ I hq) (fun fl s' hs=>?_) fun e s' hs=>hs
 have fin:∀{σ':St}{H':Hp}{v:V}{u:Value},Inv (U8 CX P w K mg base N qual scope f cdv A outer s H E) [] σ' H' s'->RelV v u->Q v H'->CE outer P w H s Q u s':=
  fun {σ' H' v u} J rv q=>⟨v,H',J.os,J.bare,J.base,J.hok,rv,q⟩
 cases fl with
 | ret u=>
  obtain⟨v,σ',H',J,rv,q⟩:=hs
  exact fin J rv q
 | next=>
  obtain⟨σ',H',J,q⟩:=hs
  exact fin (v:=V.non) (u:=Value.none) J rfl q
 | brk=>
  obtain⟨_,_,_,q⟩:=hs
  exact False.elim q
 | cont=>
  obtain⟨_,_,_,q⟩:=hs
  exact False.elim q
section
variable{X:Cx}{x:Str}{p pos:Pos}{e:Expr}{es:List Expr}{t:TA}{id T:String}{r:List V->Hp->VK->Prop}
def tCB(r:List V->Hp->VK->Prop)(t:TA):TE:=fun σ H Q=>t σ H fun vs H1=>r vs H1 Q
theorem z0b(hc:z40 X (.builtin id) r)(hg:Gl X x)(hm:X.mg x=none)(hv:bootBuiltins x=some (.builtin id))(ha:PA X (e::es) t)(hn:x≠"__name__":=by decide)(hdb:(x == ("__debug__":Str))=false:=by decide)
  (he:starEach (e::es) X.env=(false,eval e X.env)::starEach es X.env:=by rfl) (hpl:(backTo pos (starEach es X.env)).any (·.1)=false:=by rfl):PE X (.Call (.Name x p) (e::es) [] pos) (tCB r t):=by
 intro pins s σ H Q I h
 refine wpAny_Call_Name_kw (z79 I hg hm hv ?_ hn hdb)
 exact PyProof.Rows.callWith_builtin1 (thn (ha pos pins s σ H _ I h) fun us s1 ⟨vs,H1,I1,r1,q1⟩=>hc pins s1 σ H1 vs us Q I1 r1 q1) he hpl
theorem z0u(hc:z40 X (.type T) r)(hg:Gl X x)(hm:X.mg x=none)(hv:bootBuiltins x=some (.type T))(ha:PA X (e::es) t)(hn:x≠"__name__":=by decide)(hdb:(x == ("__debug__":Str))=false:=by decide)
  (he:starEach (e::es) X.env=(false,eval e X.env)::starEach es X.env:=by rfl) (hpl:(backTo pos (starEach es X.env)).any (·.1)=false:=by rfl):PE X (.Call (.Name x p) (e::es) [] pos) (tCB r t):=by
 intro pins s σ H Q I h
 refine wpAny_Call_Name_kw (z79 I hg hm hv ?_ hn hdb)
 exact eQ (thn (ha pos pins s σ H _ I h) fun us s1 ⟨vs,H1,I1,r1,q1⟩=>hc pins s1 σ H1 vs us Q I1 r1 q1) he hpl
end
end L2
namespace HT
open PySem PyProof.Rows
section
open PySem.SeqAt
open PySem.AutoSeq1 (wpAny_loadPart')
open PySem.MeetsSeq PySem.MeetsSeq2 PySem.MeetsSeq3
end
section
variable{prog:Program}{w:World}{A:Around}{E:Value->Shared->Prop}{s:Shared}
theorem y3d{t b:Addr}{vs ws:List Value}{Q:Value->Shared->Prop}(ht:IsTup s.heap t vs.toArray)(hb:IsTup s.heap b ws.toArray)(hv:vs≠[])
  (h1:ws=[]->Q (.ref t) s) (h2:ws≠[]->Q (.ref s.heap.objs.size) { s with heap:=s.heap.push { cls:=.type "tuple",data:=.seq (vs++ws).toArray } })
  (hsz:vs.length+ws.length≤sizeLine):wpAny (model prog w) A (binaryOp .Add (.ref t) (.ref b)) Q E s:=by
 obtain⟨⟨cls,dd,data,sl⟩,ho,hc,n,hd⟩:=id ht
 obtain⟨⟨cls2,dd2,data2,sl2⟩,ho2,hc2,n2,hd2⟩:=id hb
 simp only at hc hd hc2 hd2
 subst hc hd hc2 hd2
 have e:vs.toArray++ws.toArray=(vs++ws).toArray:=by simp
 by_cases hw:ws=[]
 ·exact concat_meets ⟨_,ho,rfl⟩ ⟨_,ho2,rfl⟩ noFill_tuple_add seq_tuple_add hE gX (gN _ _)
   (tuple_addW1 t b vs.toArray ws.toArray n n2 dd dd2 sl sl2 (by simpa using hv) (by simp[hw])) ⟨ho,ho2,h1 hw⟩
 ·refine concat_meets ⟨_,ho,rfl⟩ ⟨_,ho2,rfl⟩ noFill_tuple_add seq_tuple_add hE gX (gN _ _)
   (tuple_addW2 t b vs.toArray ws.toArray n n2 dd dd2 sl sl2 (by simpa using hv) (by simpa using hw) (by rw[bF,bF];exact hsz)) ⟨ho,ho2,?_⟩
  rw[e]
  exact h2 hw
def sIx(n d:Nat):Option Int->Nat
 | none=>d
 | some v=>if v<0 then (v+(n:Int)).toNat else min v.toNat n
theorem z9j(n d k:Nat):sIx n d (some (k:Int))=min k n:=by
 show(if (k:Int)<0 then ((k:Int)+(n:Int)).toNat else min (k:Int).toNat n)=min k n
 rw[if_neg (by omega),jO]
theorem y5L(n d:Nat)(hd:d≤n)(o:Option Int):sIx n d o≤n:=by
 cases o with
 | none=>exact hd
 | some v=>
  show(if v<0 then (v+(n:Int)).toNat else min v.toNat n)≤n
  by_cases hv:v<0
  ·rw[if_pos hv];omega
  ·rw[if_neg hv];exact hW _ _
theorem y4h(v:Int)(n d:Nat):(if v<0 then max (v+(n:Int)) 0 else min v (n:Int))=((sIx n d (some v):Nat):Int):=by
 show(if v<0 then max (v+(n:Int)) 0 else min v (n:Int))=(((if v<0 then (v+(n:Int)).toNat else min v.toNat n):Nat):Int)
 by_cases hv:v<0
 ·simp only[if_pos hv];omega
 ·simp only[if_neg hv];omega
theorem y27(lo hi:Option Int)(n:Nat):Builtin.Slice.sliceAdjust lo hi 1 (n:Int)=(((sIx n 0 lo:Nat):Int),((sIx n n hi:Nat):Int)):=by
 have h1:¬((1:Int)<0):=by omega
 unfold Builtin.Slice.sliceAdjust
 simp only[h1,if_false]
 refine Prod.ext ?_ ?_
 ·cases lo with
  | none=>rfl
  | some v=>exact y4h v n 0
 ·cases hi with
  | none=>rfl
  | some v=>exact y4h v n n
theorem y2u(i j:Nat):Builtin.Slice.slicePlaces (i:Int) (j:Int) 1=j-i:=by
 unfold Builtin.Slice.slicePlaces
 have h1:(1:Int) > 0:=by omega
 simp only[h1,if_true,Int.ediv_one]
 split<;>omega
theorem z8L{v:Value}{o:Option Int}{Q:Option Int->Shared->Prop}(p:IsPart v o)(h:Q o s):wpAny (model prog w) A (Builtin.Slice.slicePartIndex v) Q E s:=by
 cases p with
 | none=>exact slicePart_none h
 | int i t=>exact slicePart_int h
theorem z4a{sl:Addr}{vl vu:Value}{lo hi:Option Int}{n:Nat}{Q:Int×Int×Nat->Shared->Prop}(hs:s.heap.IsSliceOf sl vl vu .none)(pl:IsPart vl lo)(pu:IsPart vu hi)
  (h:Q (((sIx n 0 lo:Nat):Int),1,sIx n n hi-sIx n 0 lo) s):wpAny (model prog w) A (Builtin.Slice.sliceApplied (.ref sl) (pure (n:Int))) Q E s:=by
 obtain⟨os,hos,hcs,hds⟩:=id hs
 unfold Builtin.Slice.sliceApplied Builtin.Slice.sliceFields
 refine wpAny_bind (wpAny_bind (wpAny_field hos hds (x:=vl) rfl (wpAny_bind (wpAny_field hos hds (x:=vu) rfl (wpAny_bind (wpAny_field hos hds (x:=.none) rfl (wpAny_pure ?_)))))))
 refine wpAny_bind (slicePart_none ?_)
 show wpAny _ _ (if ((1:Int) == 0)=true then _ else _) _ _ s
 rw[if_neg (by decide)]
 refine wpAny_bind (z8L pl (wpAny_bind (z8L pu (wpAny_bind (wpAny_pure ?_)))))
 show wpAny _ _ (match Builtin.Slice.sliceAdjust lo hi 1 (n:Int) with|(lo,hi)=>pure (lo,(1:Int),Builtin.Slice.slicePlaces lo hi 1)) _ _ s
 rw[y27 lo hi n]
 show wpAny _ _ (pure (((sIx n 0 lo:Nat):Int),(1:Int),Builtin.Slice.slicePlaces ((sIx n 0 lo:Nat):Int) ((sIx n n hi:Nat):Int) 1)) _ _ s
 rw[y2u]
 exact wpAny_pure h
theorem y4T(xs:Array Value)(i k:Nat):((List.range k).filterMap fun(m:Nat)=>xs[((i:Int)+(m:Int)*1).toNat]?).toArray=((xs.toList.drop i).take k).toArray:=by
 have e:(fun(m:Nat)=>xs[((i:Int)+(m:Int)*1).toNat]?)=fun m=>xs[i+m]? := by
  funext m
  have:((i:Int)+(m:Int)*1).toNat=i+m:=by omega
  rw[this]
 rw[e]
 have:=pick_run xs i k
 rw[jK] at this
 have e2:((fun x=>xs[x]?) ∘ fun x=>i+x)=fun m=>xs[i+m]? := rfl
 rw[e2] at this
 rw[this]
theorem z6n{t sl:Addr}{items:Array Value}{vl vu:Value}{lo hi:Option Int}{Q:Value->Shared->Prop}(ht:IsTup s.heap t items)(hs:s.heap.IsSliceOf sl vl vu .none)(pl:IsPart vl lo)(pu:IsPart vu hi)
  (hw:¬(sIx items.size 0 lo=0/\sIx items.size items.size hi=items.size))
  (h:Q (.ref s.heap.objs.size) { s with heap:=s.heap.push { cls:=.type "tuple",data:=.seq ((items.toList.drop (sIx items.size 0 lo)).take (sIx items.size items.size hi-sIx items.size 0 lo)).toArray } })
  (hsz:items.size≤sizeLine):wpAny (model prog w) A (getItem (.ref t) (.ref sl)) Q E s:=by
 have V5:sizeOk (.seq ((items.toList.drop (sIx items.size 0 lo)).take (sIx items.size items.size hi-sIx items.size 0 lo)).toArray):=by
  show((items.toList.drop (sIx items.size 0 lo)).take (sIx items.size items.size hi-sIx items.size 0 lo)).toArray.size≤sizeLine
  rw[bF,bH,d6,gG]
  omega
 have hj:sIx items.size items.size hi≤items.size:=y5L _ _ (bE _) hi
 obtain⟨os,hos,hcs,hds⟩:=id hs
 have hTs:s.TypeIs (.ref sl) "slice":=⟨os,hos,hcs⟩
 unfold getItem
 try with_reducible refine wpAny_holding ?_
 first|refine wpAny_bind (wpAny_pure ?_)|skip
 refine wpAny_bind (wpAny_sequenceKey ht.typeIs (by decide) ?_)
 refine wpAny_bind (wpAny_callSpecial?_slot (name:=Str.ofString "__getitem__") ht.typeIs d8
  (wpAny_call_entry d8 ht.typeIs entry_tuple_getitem ?_ (args_tuple_getitem _ _)))
 show wpAny _ _ (Builtin.Tuple.tupleItemsOf (.ref t) >>= _) _ _ s
 refine wpAny_bind (tupleItemsOf_ ht ?_)
 refine wpAny_bind (wpAny_typeOf hTs ?_)
 rw[if_pos (by decide)]
 refine wpAny_bind (z4a hs pl pu ?_)
 have hno:¬((((sIx items.size 0 lo:Nat):Int) == 0 && (1:Int) == 1 && (sIx items.size items.size hi-sIx items.size 0 lo) == items.size)=true):=by
  intro q
  rw[bY,bY] at q
  have q1:((sIx items.size 0 lo:Nat):Int)=0:=eq_of_beq q.1.1
  have q2:sIx items.size items.size hi-sIx items.size 0 lo=items.size:=eq_of_beq q.2
  exact hw ⟨by omega,by omega⟩
 show wpAny _ _ (if (((sIx items.size 0 lo:Nat):Int) == 0 && (1:Int) == 1 && (sIx items.size items.size hi-sIx items.size 0 lo) == items.size)=true then _ else _) _ _ s
 rw[if_neg hno,y4T]
 first
  | exact wpAny_bind (m:=Builtin.Tuple.tupleExact _) (wpAny_newObj_type (wpAny_pure ⟨_,rfl,wpAny_pure h⟩) V5)
  | exact wpAny_bind (m:=Builtin.Tuple.tupleExact _) (wpAny_newObj_type (wpAny_bind (wpAny_pure (wpAny_pure ⟨_,rfl,wpAny_pure h⟩))) V5)
  | exact wpAny_bind (wpAny_bind (m:=Builtin.Tuple.tupleExact _) (wpAny_newObj_type (wpAny_pure (wpAny_pure ⟨_,rfl,wpAny_pure h⟩)) V5))
  | exact wpAny_bind (wpAny_bind (m:=Builtin.Tuple.tupleExact _) (wpAny_newObj_type (wpAny_pure ⟨_,rfl,wpAny_pure h⟩) V5))
end
end HT
namespace L2
open PySem PySem.Spec PyProof.Rows
abbrev TO:=St->Hp->(Option Int->Hp->Prop)->Prop
def PO(X:Cx)(e:Option Expr)(t:TO):Prop:=
 ∀(pins:List (Addr×Obj)) (s:Shared) (σ:St) (H:Hp) (Q:Option Int->Hp->Prop),Inv X pins σ H s->t σ H Q->
  wpAny (model X.prog X.w) X.A (evalPart e X.env) (fun u s'=>∃o H',Inv X pins σ H' s'/\IsPart u o/\Q o H') X.xe s
def y6T:TO:=fun _ H Q=>Q none H
def w16(t:TE):TO:=fun σ H Q=>t σ H fun x H1=>∃i,x=.int i/\Q (some i) H1
theorem y2g{ns:List Int}:∀{us:List Value},Vals (ns.map V.int) us->IntsAre us ns:=by
 induction ns with
 | nil=>intro us r;rw[List.map_nil] at r;cases r;exact .nil
 | cons n ns ih=>
  intro us r
  rw[cP] at r
  cases r with
  | cons r1 r2=>
   obtain⟨t,e⟩:=r1
   subst e
   exact .cons n t (ih r2)
section
variable{X:Cx}{e:Expr}{te:TE}{lo hi:Option Expr}{tl th:TO}{pos p2:Pos}
theorem z5q:PO X none y6T:=by
 intro pins s σ H Q I h
 rw[evalPart_none]
 exact wpAny_pure ⟨none,H,I,.none,h⟩
theorem z5k(h:PE X e te):PO X (some e) (w16 te):=by
 intro pins s σ H Q I hw
 rw[evalPart_some]
 refine thn (h pins s σ H _ I hw) fun u s1 hz=>?_
 obtain⟨x,H1,I1,r1,q1⟩:=hz
 obtain⟨i,rfl,q⟩:=q1
 obtain⟨t,rfl⟩:=r1
 exact⟨some i,H1,I1,.int i t,q⟩
def SlR(X:Cx)(r:V->Option Int->Option Int->Hp->VK->Prop):Prop:=
 ∀(pins:List (Addr×Obj)) (s:Shared) (σ:St) (H:Hp) (x:V) (v vl vu:Value) (lo hi:Option Int) (sl:Addr) (Q:VK),Inv X pins σ H s->RelV x v->s.heap.IsSliceOf sl vl vu .none->IsPart vl lo->IsPart vu hi->r x lo hi H Q->
  ∃T id,typeLookup (.type T) "__getitem__"=pure (some (.builtin id))/\s.TypeIs v T/\wpAny (model X.prog X.w) X.A (getItem v (.ref sl)) (EP X pins σ Q) X.xe s
def tSl(r:V->Option Int->Option Int->Hp->VK->Prop)(te:TE)(tl th:TO):TE:=fun σ H Q=>te σ H fun x H1=>tl σ H1 fun l H2=>th σ H2 fun u H3=>r x l u H3 Q
theorem z3U{r:V->Option Int->Option Int->Hp->VK->Prop}(hr:SlR X r)(he:PE X e te)(hl:PO X lo tl)(hu:PO X hi th):PE X (.Subscript e (.Slice lo hi none p2) pos) (tSl r te tl th):=by
 intro pins s σ H Q I h
 refine Subscript_ (thn (he pins s σ H _ I h) fun v s1 hz=>?_)
 obtain⟨x,H1,I1,r1,q1⟩:=hz
 refine wpAny_Slice (thn (hl pins s1 σ H1 _ I1 q1) fun vl s2 ⟨l,H2,I2,pl,q2⟩=>thn (hu pins s2 σ H2 _ I2 q2) fun vu s3 hz=>?_)
 obtain⟨u,H3,I3,pu,q3⟩:=hz
 rw[evalPart_none]
 refine wpAny_pure ?_
 have I4:Inv X pins σ H3 { s3 with heap:=s3.heap.push { cls:=.type "slice",data:=.fields #[vl,vu,.none] } }:=I3.kept (t':=s3.toks) fun b ob q=>b9 _ q
 obtain⟨T,id,hT,ht,hg⟩:=hr pins { s3 with heap:=s3.heap.push { cls:=.type "slice",data:=.fields #[vl,vu,.none] } } σ H3 x v vl vu l u s3.heap.objs.size Q I4 r1 (Heap.IsSliceOf.new ..) pl pu q3
 show wpAny (model X.prog X.w) X.A (subscriptTail e (.Slice lo hi none p2) v (.ref s3.heap.objs.size)) (EP X pins σ Q) X.xe { s3 with heap:=s3.heap.push { cls:=.type "slice",data:=.fields #[vl,vu,.none] } }
 exact tail_any (ops:=[.ref s3.heap.objs.size,v]) ht hT hg (by with_unfolding_all rfl)
def L8(xs:List V)(lo hi:Option Int):List V:=(xs.drop (HT.sIx xs.length 0 lo)).take (HT.sIx xs.length xs.length hi-HT.sIx xs.length 0 lo)
theorem z7Z(xs:List V)(lo hi:Option Int):(L8 xs lo hi).length≤xs.length:=by
 unfold L8
 rw[bH,d6]
 omega
def rSlT(K:PySem.W.Frag):V->Option Int->Option Int->Hp->VK->Prop:=fun x lo hi H Q=>∃a xs,x=.ref a/\SqT K H a xs/\
 ¬(HT.sIx xs.length 0 lo=0/\HT.sIx xs.length xs.length hi=xs.length)/\∀p,H p=none->Q (.ref p) (upd H p (.tup (L8 xs lo hi)))
theorem y5K:SlR X (rSlT X.K):=by
 intro pins s σ H x v vl vu lo hi sl Q I rx hs pl pu h
 obtain⟨a,xs,rfl,hx,hw,q⟩:=h
 cases rx
 obtain⟨its,r,ht,hz⟩:=I.tuple hx
 have hlen:its.toArray.size=xs.length:=by rw[bF];exact r.length.symm
 refine⟨"tuple",_,d8.lookup,ht.typeIs,?_⟩
 refine HT.z6n ht hs pl pu (by rw[hlen];exact hw) ?_ (by rw[hlen];exact hz)
 rw[hlen]
 refine⟨.ref s.heap.objs.size,_,I.laid (t':=s.toks) (o:=.tup (L8 xs lo hi)) (fun b ob q=>b9 _ q) (bE _) ?_,rfl,q _ (I.hok.fresh (bE _))⟩
 exact⟨cM (z7Z xs lo hi) hz,_,(r.drop (HT.sIx xs.length 0 lo)).take (HT.sIx xs.length xs.length hi-HT.sIx xs.length 0 lo),PlT.new _ _⟩
def y7d(K:PySem.W.Frag):R2:=fun x y H Q=>∃a b xs ys,x=.ref a/\y=.ref b/\SqT K H a xs/\SqT K H b ys/\xs≠[]/\xs.length+ys.length≤sizeLine/\
 (ys=[]->Q (.ref a) H)/\(ys≠[]->∀p,H p=none->Q (.ref p) (upd H p (.tup (xs++ys))))
theorem Vals.O4{xs:List V}{us:List Value}(r:Vals xs us):us=[]↔xs=[]:=by
 cases r with
 | nil=>simp
 | cons _ _=>simp
theorem y6l:OpR X (binaryOp .Add) (y7d X.K):=by
 intro pins s σ H x y v u Q I rx ry h
 obtain⟨a,b,xs,ys,rfl,rfl,ha,hb,hx,hz,q1,q2⟩:=h
 cases rx
 cases ry
 obtain⟨its,r1,p1,_⟩:=I.tuple ha
 obtain⟨L0,r2,p2,_⟩:=I.tuple hb
 refine HT.y3d p1 p2 (fun z=>hx (r1.O4.mp z)) (fun z=>⟨.ref a,H,I,rfl,q1 (r2.O4.mp z)⟩) (fun z=>?_) (by rw[<- r1.length,<- r2.length];exact hz)
 refine⟨.ref s.heap.objs.size,_,I.laid (t':=s.toks) (o:=.tup (xs++ys)) (fun b ob q=>b9 _ q) (bE _) ?_,rfl,q2 (fun w=>z (r2.O4.mpr w)) _ (I.hok.fresh (bE _))⟩
 exact⟨by rw[bG];exact hz,_,r1.append r2,PlT.new _ _⟩
end
def ixN(n:Nat)(i:Int):Option Nat:=if 0≤i then (if i<n then some i.toNat else none) else if -(n:Int)≤i then some (i+n).toNat else none
def atI{α:Type}(xs:List α)(i:Int):Option α:=(ixN xs.length i).bind fun j=>xs[j]?
theorem y6e{n:Nat}{i:Int}{j:Nat}(h:ixN n i=some j):seqIndex? i n=some j/\j<n/\-(n:Int)≤i/\i<n:=by
 unfold ixN at h
 by_cases h0:0≤i
 ·rw[if_pos h0] at h
  by_cases h1:i<n
  ·rw[if_pos h1] at h
   have e:i.toNat=j:=Option.some.inj h
   exact⟨by rw[seqIndex_of h0 h1,e],by omega,by omega,h1⟩
  ·rw[if_neg h1] at h;cases h
 ·rw[if_neg h0] at h
  by_cases h1:-(n:Int)≤i
  ·rw[if_pos h1] at h
   have e:(i+n).toNat=j:=Option.some.inj h
   exact⟨by rw[seqIndex_neg (by omega) h1,e],by omega,h1,by omega⟩
  ·rw[if_neg h1] at h;cases h
theorem y1a{α:Type}{xs:List α}{i:Int}{v:α}(h:atI xs i=some v):∃j,seqIndex? i xs.length=some j/\xs[j]? = some v/\j<xs.length/\-(xs.length:Int)≤i/\i<xs.length:=by
 unfold atI at h
 cases e:ixN xs.length i with
 | none=>rw[e] at h;cases h
 | some j=>
  rw[e] at h
  obtain⟨h1,h2,h3,h4⟩:=y6e e
  exact⟨j,h1,h,h2,h3,h4⟩
theorem z0K{α:Type}{xs:List α}{j:Nat}{v:α}(h:xs[j]? = some v):atI xs (j:Int)=some v:=by
 have hj:j<xs.length:=(bW.mp h).1
 have e:ixN xs.length (j:Int)=some j:=by
  unfold ixN
  rw[if_pos (by omega),if_pos (by omega)];simp
 unfold atI;rw[e];exact h
theorem y52{α:Type}(xs:List α)(v:α):atI (xs++[v]) (-1)=some v:=by
 have hl:(xs++[v]).length=xs.length+1:=by simp
 have e:ixN (xs++[v]).length (-1)=some xs.length:=by
  unfold ixN
  rw[hl,if_neg (by decide),if_pos (by omega)]
  congr 1
  omega
 unfold atI
 rw[e]
 show(xs++[v])[xs.length]? = some v
 simp
def y6D(b:Expr):Prop:=∀o i,subscripted b false o i=operate [o,i] (getItem o i)
def IxR(X:Cx)(r:R2):Prop:=
 ∀(value slice:Expr) (pins:List (Addr×Obj)) (s:Shared) (σ:St) (H:Hp) (x y:V) (v u:Value) (Q:VK),Inv X pins σ H s->RelV x v->RelV y u->r x y H Q->
  subscripted slice false v u=operate [v,u] (getItem v u)->wpAny (model X.prog X.w) X.A (subscriptTail value slice v u) (EP X pins σ Q) X.xe s
def MtR(X:Cx)(id:String)(r:V->List V->Hp->VK->Prop):Prop:=
 ∀(pins:List (Addr×Obj)) (s:Shared) (σ:St) (H:Hp) (x:V) (xs:List V) (v:Value) (us:List Value) (Q:VK),Inv X pins σ H s->RelV x v->Vals xs us->r x xs H Q->
  wpAny (model X.prog X.w) X.A (call (.builtin id) (v::us)) (EP X pins σ Q) X.xe s
section
variable{X:Cx}{a b:Expr}{ta tb:TE}{pos:Pos}
theorem IxR.or{r r':R2}(h:IxR X r)(h':IxR X r'):IxR X (fun x y H Q=>r x y H Q\/r' x y H Q):=by
 intro value slice pins s σ H x y v u Q I rx ry q hs
 rcases q with q|q
 ·exact h value slice pins s σ H x y v u Q I rx ry q hs
 ·exact h' value slice pins s σ H x y v u Q I rx ry q hs
theorem z0z{r:R2}(hr:IxR X r)(ha:PE X a ta)(hb:PE X b tb)(hs:y6D b):PE X (.Subscript a b pos) (tOp r ta tb):=by
 intro pins s σ H Q I h
 exact Subscript_ (w0c ha hb I h fun v u s2 x y H2 I2 rx ry q=>hr a b pins s2 σ H2 x y v u Q I2 rx ry q (hs _ _))
def w03(K:PySem.W.Frag):R2:=fun x y H Q=>∃p xs i v,x=.ref p/\y=.int i/\SqL K H p xs/\atI xs i=some v/\Q v H
def P4(K:PySem.W.Frag):R2:=fun x y H Q=>∃p xs i v,x=.ref p/\y=.int i/\SqT K H p xs/\atI xs i=some v/\Q v H
def rIxS:R2:=fun x y H Q=>∃z i c,x=.str z/\y=.int i/\z.length≤sizeLine/\atI z.cps.toList i=some c/\Q (.str ⟨#[c]⟩) H
theorem z0V:IxR X (w03 X.K):=by
 intro value slice pins s σ H x y v u Q I rx ry h hs
 obtain⟨p,xs,i,z,rfl,rfl,hq,he,q⟩:=h
 cases rx
 obtain⟨t,rfl⟩:=ry
 obtain⟨its,r,pl,hz⟩:=I.list hq
 obtain⟨j,h1,h2,h3,h4,h5⟩:=y1a he
 obtain⟨w,ew,rw'⟩:=r.get h2
 have hl:=r.length
 have hn:=z7h
 have fin:EP X pins σ Q w s:=⟨z,H,I,rw',q⟩
 by_cases h0:0≤i
 ·have hj:i.toNat=j:=by
   rw[seqIndex_of h0 h5] at h1
   exact Option.some.inj h1
  exact item_listR pl.isList h0 (by omega) (by rw[hj];simpa using ew) fin hs
 ·have hj:(i+(its.toArray.size:Int)).toNat=j:=by
   rw[seqIndex_neg (by omega) h4] at h1
   rw[bF,<- hl]
   exact Option.some.inj h1
  exact subscriptTail_builtinR (x:=w) pl.isList.typeIs slot_list_getitem.lookup
   (wpAny_getItem_list_neg (Q:=fun r s'=>r=w/\EP X pins σ Q r s') pl.isList (by omega) (by rw[bF]<;>omega) (by omega) (by rw[hj];simpa using ew) ⟨rfl,fin⟩) hs
theorem z0A:IxR X (P4 X.K):=by
 intro value slice pins s σ H x y v u Q I rx ry h hs
 obtain⟨p,xs,i,z,rfl,rfl,hq,he,q⟩:=h
 cases rx
 obtain⟨t,rfl⟩:=ry
 obtain⟨its,r,pl,hz⟩:=I.tuple hq
 obtain⟨j,h1,h2,h3,h4,h5⟩:=y1a he
 obtain⟨w,ew,rw'⟩:=r.get h2
 have hl:=r.length
 have hn:=z7h
 have fin:EP X pins σ Q w s:=⟨z,H,I,rw',q⟩
 exact subscriptTail_builtinR (x:=w) pl.typeIs slot_tuple_getitem.lookup
  (getItem_tuple (j:=j) (Q:=fun r s'=>r=w/\EP X pins σ Q r s') pl (by omega) (by omega) (by rw[bF,<- hl];exact h1) (by simpa using ew) ⟨rfl,fin⟩) hs
theorem y2G:IxR X rIxS:=by
 intro value slice pins s σ H x y v u Q I rx ry h hs
 obtain⟨z,i,c,rfl,rfl,hz,he,q⟩:=h
 obtain⟨t,rfl⟩:=rx
 obtain⟨t',rfl⟩:=ry
 obtain⟨j,h1,h2,h3,h4,h5⟩:=y1a he
 have hl:z.cps.toList.length=z.length:=by simp[Str.length]
 rw[hl] at h1 h4 h5
 have hn:=z7h
 exact tail_any (typeIs_str s z t) slot_str_getitem.lookup (getItem_str (c:=c) (by
  have e1:decide (i < -(2^63:Int))=false:=decide_eq_false (by omega)
  have e2:decide (i≥2^63)=false:=decide_eq_false (by omega)
  rw[e1,e2,Bool.or_false]) (by rw[h1];simpa using h2) ⟨.str ⟨#[c]⟩,H,I.tok _,⟨_,rfl⟩,q⟩) hs
def rIx(K:PySem.W.Frag):R2:=fun x y H Q=>w03 K x y H Q\/P4 K x y H Q\/rIxS x y H Q
theorem y78:IxR X (rIx X.K):=z0V.or (z0A.or y2G)
theorem z6U(lo hi:Option Int)(n:Nat):(sliceBounds lo hi none n).1=((HT.sIx n 0 lo:Nat):Int)/\(sliceBounds lo hi none n).2.1=((HT.sIx n n hi:Nat):Int)/\(sliceBounds lo hi none n).2.2=1:=by
 refine⟨?_,?_,rfl⟩
 ·cases lo with
  | none=>simp[sliceBounds,HT.sIx]
  | some i=>
   simp only[sliceBounds,HT.sIx,Option.getD_none,show(1:Int) > 0 by decide,if_true]
   by_cases h:i<0
   ·simp only[h,if_true]<;>omega
   ·simp only[h,if_false]<;>omega
 ·cases hi with
  | none=>simp[sliceBounds,HT.sIx]
  | some i=>
   simp only[sliceBounds,HT.sIx,Option.getD_none,show(1:Int) > 0 by decide,if_true]
   by_cases h:i<0
   ·simp only[h,if_true]<;>omega
   ·simp only[h,if_false]<;>omega
theorem z9c(its:List Value)(lo hi:Option Int):slicePick its.toArray lo hi none=((its.drop (HT.sIx its.length 0 lo)).take (HT.sIx its.length its.length hi-HT.sIx its.length 0 lo)).toArray:=by
 obtain⟨h1,h2,h3⟩:=z6U lo hi its.toArray.size
 unfold slicePick
 rw[h1,h2,h3]
 simp only[sliceRange_one,pick_run,bF]<;>rfl
def rSlL(K:PySem.W.Frag):V->Option Int->Option Int->Hp->VK->Prop:=fun x lo hi H Q=>∃a xs,x=.ref a/\SqL K H a xs/\∀p,H p=none->Q (.ref p) (upd H p (.lst (L8 xs lo hi)))
theorem y6u:SlR X (rSlL X.K):=by
 intro pins s σ H x v vl vu lo hi sl Q I rx hs pl pu h
 obtain⟨a,xs,rfl,hx,q⟩:=h
 cases rx
 obtain⟨its,r,ht,hz⟩:=I.list hx
 have hlen:=r.length
 refine⟨"list",_,slot_list_getitem.lookup,ht.isList.typeIs,?_⟩
 refine wpAny_getItem_list_slice ht.isList hs pl pu .none (by simp) ?_ (by rw[bF]<;>omega)
 rw[z9c,<- hlen]
 refine⟨.ref s.heap.objs.size,_,I.laid (t':=s.toks) (o:=.lst (L8 xs lo hi)) (fun b ob q=>b9 _ q) (bE _) ?_,rfl,q _ (I.hok.fresh (bE _))⟩
 exact⟨cM (z7Z xs lo hi) hz,_,0,(r.drop (HT.sIx xs.length 0 lo)).take (HT.sIx xs.length xs.length hi-HT.sIx xs.length 0 lo),bM _ rfl⟩
def z27:V->Bool
 | .non=>true
 | .bl _=>true
 | .int _=>true
 | .str _=>true
 | _=>false
def eqV:V->V->Bool
 | .non,.non=>true
 | .bl a,.bl b=>a == b
 | .bl a,.int b=>(if a then 1 else 0) == b
 | .int a,.bl b=>a == (if b then 1 else 0)
 | .int a,.int b=>a == b
 | .str a,.str b=>a == b
 | _,_=>false
theorem y2N{A:Around}{s:Shared}{y x:V}{u v:Value}(ry:RelV y u)(rx:RelV x v)(fy:z27 y=true)(fx:z27 x=true):SeqAt.EqAt A s u v (eqV y x):=by
 cases y with
 | non=>
  cases ry
  cases x with
  | non=>cases rx;exact SeqAt.EqAt.same _
  | bl b=>cases rx;exact SeqAt.EqAt.none_bool b
  | int b=>obtain⟨t,rfl⟩:=rx;exact SeqAt.EqAt.none_int b t
  | str b=>obtain⟨t,rfl⟩:=rx;exact SeqAt.EqAt.none_str b t
  | _=>exact absurd (show false=true from fx) bJ
 | bl a=>
  cases ry
  cases x with
  | non=>cases rx;exact SeqAt.EqAt.bool_none a
  | bl b=>cases rx;exact SeqAt.EqAt.bool_bool a b
  | int b=>obtain⟨t,rfl⟩:=rx;exact SeqAt.EqAt.bool_int a b t
  | str b=>obtain⟨t,rfl⟩:=rx;exact SeqAt.EqAt.bool_str a b t
  | _=>exact absurd (show false=true from fx) bJ
 | int a=>
  obtain⟨t',rfl⟩:=ry
  cases x with
  | non=>cases rx;exact SeqAt.EqAt.int_none a t'
  | bl b=>cases rx;exact SeqAt.EqAt.int_bool a t' b
  | int b=>obtain⟨t,rfl⟩:=rx;exact SeqAt.EqAt.int_int a t' b t
  | str b=>obtain⟨t,rfl⟩:=rx;exact SeqAt.EqAt.int_str a t' b t
  | _=>exact absurd (show false=true from fx) bJ
 | str a=>
  obtain⟨t',rfl⟩:=ry
  cases x with
  | non=>cases rx;exact SeqAt.EqAt.str_none a t'
  | bl b=>cases rx;exact SeqAt.EqAt.str_bool a t' b
  | int b=>obtain⟨t,rfl⟩:=rx;exact SeqAt.EqAt.str_int a t' b t
  | str b=>obtain⟨t,rfl⟩:=rx;exact SeqAt.EqAt.str_str a t' b t
  | _=>exact absurd (show false=true from fx) bJ
 | _=>exact absurd (show false=true from fy) bJ
def eqU(x:V)(u:Value):Bool:=match u with
 | .none=>eqV .non x
 | .bool b=>eqV (.bl b) x
 | .int i _=>eqV (.int i) x
 | .str z _=>eqV (.str z) x
 | _=>false
theorem y1H{x y:V}{u:Value}(r:RelV y u)(f:z27 y=true):eqU x u=eqV y x:=by
 cases y with
 | non=>cases r;rfl
 | bl b=>cases r;rfl
 | int i=>obtain⟨t,rfl⟩:=r;rfl
 | str z=>obtain⟨t,rfl⟩:=r;rfl
 | _=>exact absurd (show false=true from f) bJ
theorem z8y{x:V}:∀{xs:List V}{us:List Value},Vals xs us->xs.all z27=true->us.any (eqU x)=xs.any fun y=>eqV y x
 | _,_,.nil,_=>rfl
 | y::xs,u::us,.cons r t,f=>by
  rw[fL,bY] at f
  rw[fM,fM,y1H r f.1,z8y t f.2]
theorem z4M{A:Around}{s:Shared}{x:V}{v:Value}(rx:RelV x v)(fx:z27 x=true):∀{xs:List V}{us:List Value},Vals xs us->xs.all z27=true->∀u∈us,SeqAt.EqAt A s u v (eqU x u)
 | _,_,.nil,_=>fun u hu=>by cases hu
 | y::xs,u::us,.cons r t,f=>fun u' hu=>by
  rw[fL,bY] at f
  rcases bA.mp hu with rfl|hu
  ·rw[y1H r f.1];exact y2N r rx f.1 fx
  ·exact z4M rx fx t f.2 u' hu
def inV(x:V)(xs:List V):Bool:=xs.any fun y=>eqV y x
def rIn(K:PySem.W.Frag)(neg:Bool):R2:=fun x y H Q=>∃p xs,y=.ref p/\(SqL K H p xs\/SqT K H p xs)/\z27 x=true/\xs.all z27=true/\Q (.bl (if neg then !inV x xs else inV x xs)) H
theorem z4p:OpR X (compareOp .In) (rIn X.K false):=by
 intro pins s σ H x y v u Q I rx ry h
 obtain⟨p,xs,rfl,hq,fx,fs,q⟩:=h
 cases ry
 rcases hq with hq|hq
 ·obtain⟨its,r,pl,hz⟩:=I.list hq
  refine SeqAt.in_listAt (eqU x) pl.isList (fun w hw=>z4M rx fx r fs w (by simpa using hw)) ⟨.bl _,H,I,rfl,?_⟩
  rw[show its.toArray.any (eqU x)=its.any (eqU x) by simp,z8y r fs]
  exact q
 ·obtain⟨its,r,pl,hz⟩:=I.tuple hq
  refine SeqAt.in_tupleAt (eqU x) pl (fun w hw=>z4M rx fx r fs w (by simpa using hw)) ⟨.bl _,H,I,rfl,?_⟩
  rw[show its.toArray.any (eqU x)=its.any (eqU x) by simp,z8y r fs]
  exact q
theorem z1q:OpR X (compareOp .NotIn) (rIn X.K true):=by
 intro pins s σ H x y v u Q I rx ry h
 obtain⟨p,xs,rfl,hq,fx,fs,q⟩:=h
 cases ry
 rcases hq with hq|hq
 ·obtain⟨its,r,pl,hz⟩:=I.list hq
  refine SeqAt.notIn_listAt (eqU x) pl.isList (fun w hw=>z4M rx fx r fs w (by simpa using hw)) ⟨.bl _,H,I,rfl,?_⟩
  rw[show its.toArray.any (eqU x)=its.any (eqU x) by simp,z8y r fs]
  exact q
 ·obtain⟨its,r,pl,hz⟩:=I.tuple hq
  refine SeqAt.notIn_tupleAt (eqU x) pl (fun w hw=>z4M rx fx r fs w (by simpa using hw)) ⟨.bl _,H,I,rfl,?_⟩
  rw[show its.toArray.any (eqU x)=its.any (eqU x) by simp,z8y r fs]
  exact q
theorem z09:z40 X (.builtin "len") (fun xs H Q=>∃p ys,xs=[.ref p]/\(SqL X.K H p ys\/SqT X.K H p ys)/\Q (.int ys.length) H):=by
 intro pins s σ H xs us Q I r h
 obtain⟨p,ys,rfl,hq,q⟩:=h
 obtain⟨u,rfl,rx⟩:=z4X r
 cases rx
 have hn:=z7h
 rcases hq with hq|hq
 ·obtain⟨its,r',pl,hz⟩:=I.list hq
  have hlen:=r'.length
  exact Calls.call_len_list pl.isList (by simp only[bF]<;>omega) ⟨.int ys.length,H,I.tok _,⟨s.toks+1,by rw[bF,hlen]⟩,q⟩
 ·obtain⟨its,r',pl,hz⟩:=I.tuple hq
  have hlen:=r'.length
  exact len_tuple pl (by simp only[bF]<;>omega) ⟨.int ys.length,H,I.tok _,⟨s.toks+1,by rw[bF,hlen]⟩,q⟩
theorem y07:z40 X (.builtin "len") (fun xs H Q=>∃z,xs=[.str z]/\z.length≤sizeLine/\Q (.int z.length) H):=by
 intro pins s σ H xs us Q I r h
 obtain⟨z,rfl,hz,q⟩:=h
 obtain⟨u,rfl,t,rfl⟩:=z4X r
 have hn:=z7h
 exact len_str (by omega) ⟨.int z.length,H,I.tok _,⟨_,rfl⟩,q⟩
theorem z4h:z40 X (.type "list") (fun xs H Q=>∃p ys,xs=[.ref p]/\(SqL X.K H p ys\/SqT X.K H p ys)/\∀l,H l=none->Q (.ref l) (upd H l (.lst ys))):=by
 intro pins s σ H xs us Q I r h
 obtain⟨p,ys,rfl,hq,q⟩:=h
 obtain⟨u,rfl,rx⟩:=z4X r
 cases rx
 have fin:∀(its:List Value),Vals ys its->ys.length≤sizeLine->∀(h':Heap) (c':Nat),(∀b o',s.heap.get? b=some o'->h'.get? b=some o')->
   h'.get? s.heap.objs.size=some { cls:=.type "list",dict:=none,data:=.seq its.toArray c',slots:=#[] }->EP X pins σ Q (.ref s.heap.objs.size) { s with heap:=h' }:=fun its r' hz h' c' kp e=>
  ⟨.ref s.heap.objs.size,_,I.laid (t':=s.toks) kp (bE _) (show z1B X.prog X.w _ h' _ (.lst ys) from⟨hz,its,c',r',e⟩),rfl,q _ (I.hok.fresh (bE _))⟩
 rcases hq with hq|hq
 ·obtain⟨its,r',pl,hz⟩:=I.list hq
  have hlen:=r'.length
  obtain⟨o,ho,hc,n,hd⟩:=pl.isList
  exact call_list_seq p (.inl rfl) ho hc hd (fun h' c' kp e=>fin its r' hz h' c' kp e) (by simp only[bF]<;>omega)
 ·obtain⟨its,r',pl,hz⟩:=I.tuple hq
  have hlen:=r'.length
  obtain⟨o,ho,hc,n,hd⟩:=pl
  exact call_list_seq p (.inr rfl) ho hc hd (fun h' c' kp e=>fin its r' hz h' c' kp e) (by simp only[bF]<;>omega)
theorem z0o:z40 X (.type "tuple") (fun xs H Q=>∃p ys,xs=[.ref p]/\((SqL X.K H p ys/\∀l,H l=none->Q (.ref l) (upd H l (.tup ys)))\/(SqT X.K H p ys/\Q (.ref p) H))):=by
 intro pins s σ H xs us Q I r h
 obtain⟨p,ys,rfl,h⟩:=h
 obtain⟨u,rfl,rx⟩:=z4X r
 cases rx
 rcases h with ⟨hq,q⟩|⟨hq,q⟩
 ·obtain⟨its,r',pl,hz⟩:=I.list hq
  have hlen:=r'.length
  refine call_tuple_list pl.isList (fun h' kp=>?_) (by simp only[bF]<;>omega)
  have I1:Inv X pins σ H { s with heap:=h' }:=I.kept (t':=s.toks) kp
  have I2:Inv X pins σ (upd H h'.objs.size (.tup ys)) { s with heap:=h'.push { cls:=.type "tuple",data:=.seq its.toArray } }:=
   I1.laid (t':=s.toks) (fun b o e=>b9 _ e) (bE _) (show z1B X.prog X.w _ _ _ (.tup ys) from⟨hz,its,r',PlT.new _ _⟩)
  exact⟨.ref h'.objs.size,_,I2,rfl,q _ (I1.hok.fresh (bE _))⟩
 ·obtain⟨its,r',pl,hz⟩:=I.tuple hq
  exact call_tuple_same pl ⟨.ref p,H,I,rfl,q⟩
def tyV(K:PySem.W.Frag)(T:String)(x:V)(H:Hp):Prop:=match x with
 | .str _=>T="str"
 | .int _=>T="int"
 | .ref p=>(T="list"/\∃xs,SqL K H p xs)\/(T="tuple"/\∃o,K.lookup p=some o/\o.cls=.type "tuple"/\o.dict=none)\/
   (T="dict"/\((∃kvs,H p=some (.dK kvs))\/∃kvs,H p=some (.dT kvs)))\/(T="set"/\∃S n,H p=some (.set S n))
 | _=>False
theorem y7F{pins:List (Addr×Obj)}{σ:St}{H:Hp}{s:Shared}{T:String}{x:V}{v:Value}(I:Inv X pins σ H s)(r:RelV x v)(ty:tyV X.K T x H) :
  s.TypeIs v T/\∀a,v=.ref a->∃ob,s.heap.get? a=some ob/\ob.dict=none:=by
 cases x with
 | str z=>
  obtain⟨t,rfl⟩:=r
  cases (show T="str" from ty)
  exact⟨typeIs_str s z t,fun _ e=>nomatch e⟩
 | int i=>
  obtain⟨t,rfl⟩:=r
  cases (show T="int" from ty)
  exact⟨typeIs_int s i t,fun _ e=>nomatch e⟩
 | ref p=>
  cases r
  rcases ty with ⟨rfl,xs,hq⟩|⟨rfl,o,hk,hc,hd⟩|⟨rfl,hk⟩|⟨rfl,S,n,hk⟩
  ·obtain⟨its,_,pl,_⟩:=I.list hq
   refine⟨pl.isList.typeIs,fun a e=>?_⟩
   cases e
   obtain⟨o,n,e,c,hd,_⟩:=pl
   exact⟨o,e,hd⟩
  ·refine⟨⟨o,I.kIn p o hk,hc⟩,fun a e=>?_⟩
   cases e
   exact⟨o,I.kIn _ o hk,hd⟩
  ·have z:∃o,s.heap.get? p=some o/\o.ExactDict:=by
    rcases hk with ⟨kvs,hk⟩|⟨kvs,hk⟩
    ·obtain⟨_,_,_,_,o,_,_,e,ex,_⟩:=I.hok p _ hk
     exact⟨o,e,ex⟩
    ·obtain⟨_,_,_,_,o,_,_,e,ex,_⟩:=I.hok p _ hk
     exact⟨o,e,ex⟩
   obtain⟨o,e,ex⟩:=z
   refine⟨⟨o,e,ex.1⟩,fun a e2=>?_⟩
   cases e2
   exact⟨o,e,ex.2.1⟩
  ·obtain⟨o,_,_,_,e,ex,_⟩:=I.hok p _ hk
   refine⟨⟨o,e,ex.1⟩,fun a e2=>?_⟩
   cases e2
   exact⟨o,e,ex.2.1⟩
 | _=>exact False.elim ty
def tBM(K:PySem.W.Frag)(T:String)(r:V->List V->Hp->VK->Prop)(to:TE)(t:TA):TE:=fun σ H Q=>to σ H fun x H1=>tyV K T x H1/\t σ H1 fun xs H2=>r x xs H2 Q
variable{o e:Expr}{es:List Expr}{to:TE}{t:TA}{name:Str}{apos T7:Pos}{T id:String}{r:V->List V->Hp->VK->Prop}
theorem z2N(pa:PlainAttrs T)(slot:Slot T name id)(hty:typeOf (.builtin id)=pure (.type "method_descriptor"))(hm:MtR X id r)(ho:PE X o to)(ha:PA X (e::es) t)
  (w0E:attributeBase o name X.env (eval o X.env)=eval o X.env:=by rfl)
  (hfew:((backTo T7 (starEach (e::es) X.env)).all (fun x=>!x.1) && (backToKw T7 (keywordEach [] X.env)).all (fun x=>x.1.isSome)
   && decide ((e::es).length+([]:List Keyword).length+(if ([]:List Keyword).isEmpty then 0 else 1)<30))=true:=by rfl)
  (w0S:(apos.endLine == T7.line)=true:=by rfl) (hs:starEach (e::es) X.env=(false,eval e X.env)::starEach es X.env:=by rfl) (R0:(backTo T7 (starEach es X.env)).any (·.1)=false:=by rfl) :
  PE X (.Call (.Attribute o name apos) (e::es) [] T7) (tBM X.K T r to t):=by
 intro pins s σ H Q I h
 refine wpAny_Call_method_late w0E hfew w0S rfl (thn (ho pins s σ H _ I h) fun v s1 hz=>?_)
 obtain⟨x,H1,I1,r1,ty,q1⟩:=hz
 obtain⟨h1,h2⟩:=y7F I1 r1 ty
 refine⟨T,id,pa,slot,hty,h1,h2,?_⟩
 have hA:=ha T7 pins s1 σ H1 _ I1 q1
 rw[hs] at hA ⊢
 refine Calls.callWith_builtin (by show(false || (backTo T7 (starEach es X.env)).any (·.1))=false;rw[R0]<;>rfl) (Calls.evalArgs_plain ?_)
 exact thn hA fun us s2 ⟨vs,H2,I2,r2,q2⟩=>hm pins s2 σ H2 x vs v us Q I2 r1 r2 q2
end
def MtM(X:Cx)(id:String)(r:V->List V->Hp->VK->Prop):Prop:=
 ∀(pins:List (Addr×Obj)) (s:Shared) (σ:St) (H:Hp) (x:V) (xs:List V) (v:Value) (us:List Value) (Q:VK),Inv X pins σ H s->RelV x v->Vals xs us->r x xs H Q->
  wpAny (model X.prog X.w) X.A (call (.builtin id) (v::us)) (EP X pins σ Q) X.xe s
theorem Vals.one:∀{x:V}{us:List Value},Vals [x] us->∃u,us=[u]/\RelV x u
 | _,_,.cons r .nil=>⟨_,rfl,r⟩
theorem Vals.two:∀{x y:V}{us:List Value},Vals [x,y] us->∃u v,us=[u,v]/\RelV x u/\RelV y v
 | _,_,_,.cons r (.cons q .nil)=>⟨_,_,rfl,r,q⟩
theorem Vals.reverse{xs:List V}{us:List Value}(h:Vals xs us):Vals xs.reverse us.reverse:=by
 induction h with
 | nil=>exact .nil
 | cons r t ih=>rw[jP,jP];exact Vals.append ih (.cons r .nil)
section
variable{X:Cx}{pins:List (Addr×Obj)}{σ:St}{H:Hp}{s:Shared}{l b:Addr}{xs ys zs:List V}
theorem Inv.Z0{its its':List Value}{n:Nat}{f:Array Value->Array Value}{t':Nat}(I:Inv X pins σ H s)(hH:H l=some (.lst xs))
  (e:s.heap.get? l=some { cls:=.type "list",data:=.seq its.toArray n }) (hf:f its.toArray=its'.toArray) (hv:Vals ys its') (hz:ys.length≤sizeLine) :
  Inv X pins σ (upd H l (.lst ys)) { s with heap:=s.heap.update l (Obj.mapSeq f),toks:=t' }:=by
 have q:=PySem.IsL.update e f
 rw[hf] at q
 refine I.write (x:=l) (e:=l) (by rw[hH];exact trivial) (.inl rfl) (fun b' u hb hu=>(cW s.heap (Obj.mapSeq f) (dE hb)).trans hu) ⟨_,q⟩ ?_
 exact⟨hz,its',_,hv,q⟩
theorem Inv.lnew{its:List Value}{t':Nat}(I:Inv X pins σ H s)(hv:Vals ys its)(hz:ys.length≤sizeLine) :
  Inv X pins σ (upd H s.heap.objs.size (.lst ys)) { s with heap:=s.heap.push { cls:=.type "list",data:=.seq its.toArray },toks:=t' }:=
 I.laid (fun _ _ q=>b9 _ q) (bE _) ⟨hz,its,0,hv,bM _ rfl⟩
theorem Inv.fresh(I:Inv X pins σ H s):H s.heap.objs.size=none:=I.hok.fresh (bE _)
theorem Inv.W3(I:Inv X pins σ H s)(hH:H l=some (.lst xs)):xs.length≤sizeLine/\∃(its:List Value) (n:Nat),Vals xs its/\xs.length=its.length/\s.heap.get? l=some { cls:=.type "list",data:=.seq its.toArray n }:=by
 obtain⟨z,its,n,r,e⟩:=I.hok l _ hH
 exact⟨z,its,n,r,r.length,e⟩
theorem y5t{n:Nat}(h:n≤sizeLine):Builtin.List.listTooLong n=false:=by
 unfold Builtin.List.listTooLong
 exact decide_eq_false (by omega)
end
section
variable{X:Cx}
def y6g:V->List V->Hp->VK->Prop:=fun x vs H Q=>∃l xs y,x=.ref l/\vs=[y]/\H l=some (.lst xs)/\xs.length<sizeLine/\Q .non (upd H l (.lst (xs++[y])))
theorem z0L:MtM X "list.append" y6g:=by
 intro pins s σ H x vs v us Q I rx rv h
 obtain⟨l,xs,y,rfl,rfl,hH,hz,q⟩:=h
 cases rx
 obtain⟨u,rfl,ru⟩:=rv.one
 obtain⟨z,its,n,r,hl,e⟩:=I.W3 hH
 refine call_meets F.slot_list_append ⟨_,e,rfl⟩ F.entry_list_append (F.args_list_append_2 _ _) (PySem.list_append l its.toArray n u (by rw[bF];omega)) ⟨e,?_⟩
 refine⟨.non,_,I.Z0 (its':=its++[u]) hH e (by simp) (r.append (.cons ru .nil)) ?_,rfl,q⟩
 rw[bG,dH]
 omega
def y6I:V->List V->Hp->VK->Prop:=fun x vs H Q=>∃l b xs zs,x=.ref l/\vs=[.ref b]/\H l=some (.lst xs)/\H b=some (.lst zs)/\xs.length+zs.length≤sizeLine/\Q .non (upd H l (.lst (xs++zs)))
theorem y7y:MtM X "list.extend" y6I:=by
 intro pins s σ H x vs v us Q I rx rv h
 obtain⟨l,b,xs,zs,rfl,rfl,hH,hB,hz,q⟩:=h
 cases rx
 obtain⟨u,rfl,ru⟩:=rv.one
 cases ru
 obtain⟨z,its,n,r,hl,e⟩:=I.W3 hH
 obtain⟨z2,L0,n2,r2,hl2,e2⟩:=I.W3 hB
 have hsz:its.toArray.size+L0.toArray.size≤sizeLine:=by rw[bF,bF];omega
 have w0u:¬(!its.toArray.isEmpty && Builtin.List.listTooLong (its.toArray.size+L0.toArray.size))=true:=by
  rw[y5t hsz,Bool.and_false]
  exact bJ
 refine call_meets F.slot_list_extend ⟨_,e,rfl⟩ F.entry_list_extend (F.args_list_extend_2 _ _)
  (AutoSeq1.list_extend_list_list_0 l its.toArray n b L0.toArray n2 w0u (by rw[bF];omega) (by omega)) ⟨e,e2,?_⟩
 refine⟨.non,_,I.Z0 (its':=its++L0) hH e (by simp) (r.append r2) ?_,rfl,q⟩
 rw[bG]
 omega
def rCat:R2:=fun x y H Q=>∃l b xs zs,x=.ref l/\y=.ref b/\H l=some (.lst xs)/\H b=some (.lst zs)/\xs.length+zs.length≤sizeLine/\∀p,H p=none->Q (.ref p) (upd H p (.lst (xs++zs)))
theorem z94:OpR X (binaryOp .Add) rCat:=by
 intro pins s σ H x y v u Q I rx ry h
 obtain⟨l,b,xs,zs,rfl,rfl,hH,hB,hz,q⟩:=h
 cases rx
 cases ry
 obtain⟨z,its,n,r,hl,e⟩:=I.W3 hH
 obtain⟨z2,L0,n2,r2,hl2,e2⟩:=I.W3 hB
 refine PySem.P.add_list e e2 ?_ (by rw[bF,bF];omega)
 have ea:its.toArray++L0.toArray=(its++L0).toArray:=by simp
 rw[ea]
 exact⟨.ref _,_,I.lnew (t':=s.toks) (r.append r2) (by rw[bG];omega),rfl,q _ I.fresh⟩
end
section
variable{prog:Program}{w:World}{A:Around}{E:Value->Shared->Prop}{s:Shared}
end
section
variable{X:Cx}
end
end L2
namespace Att
open PySem PySem.W PySem.Calls PyProof.Rows
theorem z8u{P:Params}{h:Heap}:∀(ns:List Int) (vs:List Value),WellAll P h vs (ns.map WData.int)->IntsAre vs ns:=by
 intro ns
 induction ns with
 | nil=>
  intro vs w
  rw[List.map_nil] at w
  cases w
  exact .nil
 | cons n ns ih=>
  intro vs w
  rw[cP] at w
  cases w with
  | cons a b=>
   cases a
   exact .cons _ _ (ih _ b)
theorem y3e{l:OpenLaw}{n:Nat}(hn:l.most=some n){P:Params}{h:Heap}{args:List WData}{vals:List Value}
  (Y1:l.row.toRowW.claim.pre args=true) (hwl:WellAll P h vals args) :
  ∃a vs ns,vals=[Value.ref a]/\args=[WData.list (ns.map WData.int)]/\h.get? a=some { cls:=.type "list",data:=.seq vs.toArray }/\IntsAre vs ns/\ns.length≤n:=by
 have hsh:WShape.hasAll [] args [.list .int]=true:=(pre_splitW Y1).1
 have hc:l.pre.holds [] { args:=args }=true:=(pre_splitW Y1).2
 obtain⟨d,r,rfl,h1,h2⟩:=hasAllW_cons hsh
 obtain rfl:=hasAllW_nil h2
 obtain⟨xs,rfl,h3⟩:=hasW_list h1
 obtain⟨ns,rfl⟩:=items_int h3
 have hlen:ns.length≤n:=by
  unfold OpenLaw.pre at hc
  have h4:(WTm.not (.lt (.lit (.int (n:Int))) (.len (.arg 0)))).holds [] { args:=[.list (ns.map .int)] }=true:=by
   have h4:=(holds_andW hc).1
   rw[hn] at h4
   exact h4
  have h5:=condW_of h4 (w_not (w_lt w_lit (w_len_list (w_arg rfl))))
  rw[b7] at h5
  refine jS fun q=>?_
  have q':(n:Int)<((ns.length:Nat):Int):=by omega
  first
   | (rw[decide_eq_true q'] at h5;exact absurd h5 (by decide))
   | (simp at h5;omega)
 cases hwl with
 | cons w1 w2=>
  cases w2
  cases w1 with
  | list ho B3=>exact⟨_,_,ns,rfl,rfl,ho,z8u ns _ B3,hlen⟩
theorem y3u(l:OpenLaw)(args:List WData):l.row.toRowW.claim.post args (.bool true) args=true:=
 postW_of (r:=l.row.toRowW) (X:=(true == true))
  (show WShape.has [] (.bool true) .bool=true by first|rfl|decide|simp[WShape.has,WShape.arms,WShape.armsAll])
  (show(WTm.eq .res (.lit (.bool true))).value [] { args:=args,res:=some (.bool true),after:=args }=some (.bool (true == true)) from w_eq_bool (w_res rfl) w_lit) rfl
theorem y0Q{l:OpenLaw}{n:Nat}{q:Program}{loose:List Str}{XP:(Str->Option Value)->Heap->Prop}{YP:World->Heap->Prop}{d:DefRec}
  (hn:l.most=some n) (hdf:d.params.defaults=[])
  (call:∀(w:World) (s₀ s₁:Shared) (mg mb:Str->Option Value) (fa:Addr) (o:Obj) (pm cd doc:Value) (a:Addr) (vs:List Value) (ns:List Int),
   Ground q loose [] XP w s₀ mg mb s₁.heap->YP w s₁.heap->
   s₁.heap.get? fa=some o->o.data=.func (docDef d.name d.params d.body d.scope pm cd doc)->s₁.heap.CodeRec cd d.name->mg d.name=some (.ref fa)->
   s₁.heap.get? a=some { cls:=.type "list",data:=.seq vs.toArray }->IntsAre vs ns->ns.length≤n->s₁.gens=#[]->
   codeAny (model l.prog w) callerA (.call (.ref fa) ⟨[.ref a],[]⟩) (fun r s'=>r=.ok (.ret (.bool true))/\OldK s₁.heap s'.heap/\s'.os=s₁.os/\AllBare s'.gens) s₁) :
  WalkO q loose XP YP l.row.toRowW d [] (fun f vs=>PySem.call f vs):=by
 intro w s₀ s₁ mg mb G Y fa o pm cd doc dV kV ho hd hcd hD hmg hg args vals as Y1 hlay hrd hwl hlo
 obtain rfl:dV=.none:=Dflts.none hD hdf
 obtain rfl:kV=.none:=Dflts.noKw hD
 obtain⟨a,vs,ns,rfl,rfl,hobj,hints,hlen⟩:=y3e hn Y1 hwl
 refine enter_call (codeAny_mono (call w s₀ s₁ mg mb fa o pm cd doc a vs ns G Y ho (fd_plain hd) hcd hmg hobj hints hlen hg) fun r s' hq=>?_)
 obtain⟨rfl,h2,h3,h4⟩:=hq
 exact⟨.inl ⟨.bool true,.bool true,[],rfl,fun _=>rfl,.bool true,y3u l _,fun _=>⟨List.Pairwise.nil,fun _ hm=>(nomatch hm)⟩⟩,h2,h3,h4⟩
section
variable{prog:Program}{w:World}{A:Around}{E:Value->Shared->Prop}{s:Shared}{K:Frag}
end
end Att
namespace L2
open PySem PySem.Spec PyProof.Rows
theorem z5T:∀{vs:List Value}{ns:List Int},IntsAre vs ns->Vals (ns.map V.int) vs
 | _,_,.nil=>.nil
 | _,_,.cons n t h=>.cons ⟨t,rfl⟩ (z5T h)
def Z4(H:Hp):Prop:=∀b,H b=none\/∃o xs,H b=some (.frz o (.lst xs))
theorem y58{P:Program}{w:World}{K:PySem.W.Frag}{mg mb:Str->Option Value}{CX:CXT}{k:Nat}{fa a:Addr}{fd:FuncData}{x:Str}{sp:Sp}{s₁:Shared}{vs:List Value}{ns:List Int}
  (KX:K.In s₁.heap) (hns:s₁.heap.Ns mainGlobals mg) (hb:s₁.heap.Ns builtinsNs mb) (hbb:∀x:Str,x≠"__name__"->mb x=bootBuiltins x) (hlim:s₁.heap.NoLimit) (hg:s₁.gens=#[])
  (ha:s₁.heap.get? a=some { cls:=.type "list",data:=.seq vs.toArray }) (hi:IntsAre vs ns) (hl:ns.length≤sizeLine) (hr:D4 k callerA)
  (F:∀base:Heap,K.In base->base.Ns mainGlobals mg->A7 P w K mg base CX k fa fd [x] sp) (w0F:∀(s:Shared) (u:Value),BindsTo s fd ⟨[u],[]⟩ [(x,u)])
  (hsp:∀H:Hp,Z4 H->SqL K H a (ns.map V.int)->sp [.ref a] H (fun v _=>v=.bl true) fun _ _ _=>False)
  (hCX:∀H e s',CX [] H s₁ (fun _ _ _=>False) e s'->False) :
  codeAny (model P w) callerA (.call (.ref fa) ⟨[.ref a],[]⟩) (fun r s'=>r=.ok (.ret (.bool true))/\OldK s₁.heap s'.heap/\s'.os=s₁.os/\AllBare s'.gens) s₁:=by
 have rv:=z5T hi
 have lenV:=hi.length
 have core:∀H:Hp,Z4 H->SqL K H a (ns.map V.int)->HOk P w H s₁.heap->(∀b,H b≠none->b=a)->(H a≠none->K.lookup a=none)->
   codeAny (model P w) callerA (.call (.ref fa) ⟨[.ref a],[]⟩) (fun r s'=>r=.ok (.ret (.bool true))/\OldK s₁.heap s'.heap/\s'.os=s₁.os/\AllBare s'.gens) s₁:=by
  intro H hO hS hok hA hK
  have V1:∀{b:Addr}{o:Obj},s₁.heap.get? b=some o->H b=none->(S3 s₁.heap H).get? b=some o:=fun e n=>y4V e n
  have noA:∀{b:Addr}{o:Obj}{es:Array DictEntry}{ep:Nat},s₁.heap.get? b=some o->o.data=.dict es ep->H b=none:=fun {b o es ep} e d=>by
   cases q:H b with
   | none=>rfl
   | some u=>
    have e':b=a:=hA b (by rw[q];simp)
    subst e'
    rw[ha] at e;cases e
    have d':Data.seq vs.toArray _=Data.dict es ep:=d
    cases d'
  have nsK:∀{b:Addr}{m:Str->Option Value},s₁.heap.Ns b m->(S3 s₁.heap H).Ns b m:=fun {b m} ⟨o,es,ep,e,d,r⟩=>⟨o,es,ep,V1 e (noA e d),d,r⟩
  have hKb:K.In (S3 s₁.heap H):=fun b o e=>V1 (KX b o e) (by
   cases q:H b with
   | none=>rfl
   | some u=>
    have e':b=a:=hA b (by rw[q];simp)
    subst e'
    rw[hK (by rw[q];simp)] at e;cases e)
  have hM:Mod K mg (S3 s₁.heap H):=⟨hKb,nsK hns,⟨mb,nsK hb,hbb⟩,let ⟨mc,h1,h2⟩:=hlim;⟨mc,nsK h1,h2⟩⟩
  have e0:U9 P w K mg (S3 s₁.heap H) callerA [] s₁ H:=⟨rfl,hM,fun b o e=>y6v e,Nat.le_of_eq (y3O _ _),trivial,fun b hb=>absurd (show b∈([]:List Addr) from hb) (by simp),hok,.of_eq hg⟩
  refine codeAny_mono ((F _ hKb (nsK hns)).run callerA [] s₁ H ⟨[.ref a],[]⟩ [.ref a] [.ref a] _ _ hr e0 (w0F s₁ (.ref a)) (.cons rfl .nil) (hsp H hO hS)) fun r s' h=>?_
  cases r with
  | error e=>exact(hCX H e s' h).elim
  | ok fl=>
   cases fl with
   | next=>exact False.elim h
   | brk=>exact False.elim h
   | cont=>exact False.elim h
   | ret u=>
    obtain⟨v,H',os,bare,un,hok',r',q⟩:=h
    have q':v=.bl true:=q
    subst q'
    obtain rfl:u=Value.bool true:=r'
    refine⟨rfl,OldK.of_keep fun b o e=>?_,os,bare⟩
    cases q:H b with
    | none=>exact un.keep b o e q (by intro z;exact absurd (show b∈([]:List Addr) from z) (by simp)) (by simp)
    | some u=>
     rcases hO b with z|⟨ob,xs,z⟩
     ·rw[q] at z;cases z
     ·have z2:=un.S1 b ob _ z
      obtain⟨e1,_⟩:=hok b _ z
      obtain⟨e2,_⟩:=hok' b _ z2
      rw[e] at e1;cases e1
      exact e2
 cases hk:K.lookup a with
 | some o=>
  have e:=KX a o hk
  rw[ha] at e
  cases e
  refine core (fun _=>none) (fun _=>.inl rfl) (.inr ⟨_,vs.toArray,_,hk,rfl,rfl,rfl,by rw[bF,lenV];exact hl,by simpa using rv⟩) (fun b u z=>by have z':(none:Option HO)=some u:=z;cases z') (fun b z=>absurd rfl z) fun z=>absurd rfl z
 | none=>
  refine core (fun b=>if b=a then some (.frz { cls:=.type "list",data:=.seq vs.toArray } (.lst (ns.map V.int))) else none) (fun b=>?_) (.inl (.inr ⟨{ cls:=.type "list",data:=.seq vs.toArray },if_pos rfl⟩)) (fun b u z=>?_) (fun b z=>?_) fun _=>hk
  ·by_cases hb:b=a
   ·exact .inr ⟨_,_,if_pos hb⟩
   ·exact .inl (if_neg hb)
  ·by_cases hb:b=a
   ·have z':=(if_pos hb).symm.trans z
    cases z'
    subst hb
    exact⟨ha,by rw[b7];exact hl,vs,_,rv,ha⟩
   ·have z':=(if_neg hb).symm.trans z
    cases z'
  ·by_cases hb:b=a
   ·exact hb
   ·exact absurd (if_neg hb) z
theorem y6Q{l:PySem.W.OpenLaw}{n k:Nat}{q:Program}{loose:List Str}{XP:(Str->Option Value)->Heap->Prop}{YP:World->Heap->Prop}{d:DefRec}{K:Params->PySem.W.Frag}{CX:World->CXT}{sp:World->Sp}{x:Str}
  (hn:l.most=some n) (hn2:n≤sizeLine) (hdf:d.params.defaults=[]) (hr:D4 k callerA)
  (hY:∀(w:World) (h:Heap),YP w h->(K w.params).In h)
  (F:∀(w:World) (mg:Str->Option Value) (fa:Addr) (h:Heap),(K w.params).In h->h.Ns mainGlobals mg->mg d.name=some (.ref fa)->
   ∃fd:FuncData,(∀(s:Shared) (u:Value),BindsTo s fd ⟨[u],[]⟩ [(x,u)])/\
    ∀base:Heap,(K w.params).In base->base.Ns mainGlobals mg->A7 l.prog w (K w.params) mg base (CX w) k fa fd [x] (sp w))
  (hsp:∀(w:World) (H:Hp) (a:Addr) (ns:List Int),ns.length≤n->Z4 H->SqL (K w.params) H a (ns.map V.int)->sp w [.ref a] H (fun v _=>v=.bl true) fun _ _ _=>False)
  (hCX:∀(w:World) (H:Hp) (s:Shared) (e:Value) (s':Shared),CX w [] H s (fun _ _ _=>False) e s'->False) :
  PySem.W.WalkO q loose XP YP l.row.toRowW d [] (fun f vs=>PySem.call f vs):=by
 refine Att.y0Q hn hdf fun w s₀ s₁ mg mb fa o pm cd doc a vs ns G Y ho hd hcd hmg hobj hints hlen hg=>?_
 have KX:=hY w _ Y
 obtain⟨fd,hb,hF⟩:=F w mg fa _ KX G.T.g hmg
 exact y58 KX G.T.g G.T.b G.T.builtins G.T.nolimit hg hobj hints (cM hlen hn2) hr hF hb (fun H hO hS=>hsp w H a ns hlen hO hS) fun H e s'=>hCX w H s₁ e s'
def z1d(s:Stmt)(j:Nat):Stmt:=match s with
 | .ClassDef _ _ _ body _ _ _ _ _ _ _=>body.getD j (.Pass ⟨0,0,0,0⟩)
 | _=>.Pass ⟨0,0,0,0⟩
def z1H(s:Stmt):Arguments:=match s with
 | .FunctionDef _ a _ _ _ _ _ _ _ _=>a
 | _=>{ posonlyargs:=[],args:=[],vararg:=none,kwonlyargs:=[],kw_defaults:=[],kwarg:=none,defaults:=[] }
def z1r(s:Stmt):List Stmt:=match s with
 | .FunctionDef _ _ b _ _ _ _ _ _ _=>b
 | _=>[]
def z07(s:Stmt):Scope:=match s with
 | .FunctionDef _ _ _ _ _ _ sc _ _ _=>sc
 | _=>{ kind:=.function,names:=[],isGenerator:=false,isCoroutine:=false }
abbrev CX0:CXT:=fun _ _ _ _ _ _=>False
abbrev E0:XK:=fun _ _ _=>False
theorem y28{X:Cx}:z7R CX0 X E0:=fun _ _ _ _ _ _ _ h=>h.elim
structure Fun(K:PySem.W.Frag)(x qual:Str)(st:Stmt)(f:Addr)(fd:FuncData):Prop where
 ex:∃(oc:Value) (od:Option Addr) (kV doc pm:Value) (an:Option Addr) (cdv ct:Value) (osl:Array (Option Value)),
  fd=PySem.W.fnOf x qual (z1H st) (z1r st) (z07 st) .none kV doc pm an cdv ct/\K.lookup f=some ⟨oc,od,.func fd,osl⟩/\PySem.W.codeIn K cdv qual=true
 kp:PySem.W.keepIn K (.ref f)=true
section
variable{P:Program}{w:World}{K:PySem.W.Frag}{mg:Str->Option Value}{base:Heap}
theorem Fun.ok{x qual:Str}{st:Stmt}{f:Addr}{fd:FuncData}{N ps:List Str}{k:Nat}{sp:Sp}(F:Fun K x qual st f fd)(S:A2 N ps (z07 st))(len:∀vs H Q E,sp vs H Q E->vs.length=ps.length)
  (T8:∀(cdv:Value) (A:Around) (outer:List Env) (s:Shared) (H:Hp) (vs:List V) (Q:VK) (E:XK),D4 k (A.deeper (envOfC qual (z07 st) s.heap.objs.size f cdv))->sp vs H Q E->
   ∃t,PSs (U8 CX0 P w K mg base N qual (z07 st) f cdv A outer s H E).nox (z1r st) t/\t { nx:=fun _ H'=>Q .non H',rt:=Q } (z6d N vs) H):A7 P w K mg base CX0 (k+1) f fd ps sp:=by
 obtain⟨oc,od,kV,doc,pm,an,cdv,ct,osl,rfl,lk,hcd⟩:=F.ex
 refine y7r lk hcd S len fun A outer s H vs Q E hr hsp=>?_
 obtain⟨t,h,q⟩:=T8 cdv A outer s H vs Q E hr hsp
 exact⟨t,h.nox,q⟩
theorem Fun.binds{x qual:Str}{st:Stmt}{f:Addr}{fd:FuncData}{ps:List Str}(F:Fun K x qual st f fd)
  (h:∀(kV doc pm:Value) (an:Option Addr) (cdv ct:Value) (us:List Value),us.length=ps.length->bindArgs (PySem.W.fnOf x qual (z1H st) (z1r st) (z07 st) .none kV doc pm an cdv ct) ⟨us,[]⟩=pure (ps.zip us)):z21 K fd ps []:=by
 obtain⟨oc,od,kV,doc,pm,an,cdv,ct,osl,rfl,lk,hcd⟩:=F.ex
 exact .all (h kV doc pm an cdv ct)
theorem y7p{x qual:Str}{st:Stmt}{f:Addr}{oc:Value}{od an:Option Addr}{osl:Array (Option Value)}{kV doc pm cdv ct:Value}(l:K.lookup f=some ⟨oc,od,.func (PySem.W.fnOf x qual (z1H st) (z1r st) (z07 st) .none kV doc pm an cdv ct),osl⟩)
  (c:PySem.W.codeIn K cdv qual=true) (k:PySem.W.keepIn K (.ref f)=true):Fun K x qual st f (PySem.W.fnOf x qual (z1H st) (z1r st) (z07 st) .none kV doc pm an cdv ct):=⟨⟨oc,od,kV,doc,pm,an,cdv,ct,osl,rfl,l,c⟩,k⟩
end
theorem y0g{A:Around}{k:Nat}(hr:D4 k A):A.units+1<cLine:=eF (Nat.add_le_add_left (by decide:1≤64) _) hr.units
theorem z0e{n:Nat}(h:n≤1000):n<sizeLine:=eF h (by decide)
section
variable{X:Cx}
theorem pv(i:Nat){x:Str}{pos:Pos}(hN:X.N[i]? = some x:=by rfl)(hv:Vis X.env.scope x:=by first|exact Or.inl rfl|exact Or.inr (Or.inl rfl)|exact Or.inr (Or.inr rfl))(hd:(x == ("__debug__":Str))=false:=by decide)
  (hcd:(x == ("__classdict__":Str))=false:=by decide):PE X (.Name x pos) (T5 i):=y7f hN hv hd hcd
end
theorem B1{A B:Prop}(h:B):if false=true then A else B:=by
 rw[if_neg bJ]
 exact h
theorem F4{A B:Prop}(h:A):if true=true then A else B:=by
 rw[if_pos rfl]
 exact h
theorem B0{c A B:Prop}[Decidable c](h1:c->A)(h2:¬c->B):if c then A else B:=by
 by_cases h:c
 ·rw[if_pos h]
  exact h1 h
 ·rw[if_neg h]
  exact h2 h
theorem y7e{c A B:Prop}[Decidable c](hc:c)(h:B):if (!decide c)=true then A else B:=by
 rw[decide_eq_true hc]
 exact B1 h
def A3(H H':Hp):Prop:=∀b o,H b=some o->H' b=some o
theorem A3.refl(H:Hp):A3 H H:=fun _ _ h=>h
theorem A3.trans{H H1 H2:Hp}(a:A3 H H1)(b:A3 H1 H2):A3 H H2:=fun c o h=>b c o (a c o h)
theorem A3.free{H H':Hp}(e:A3 H H'){l:Addr}(h:H' l=Option.none):H l=Option.none:=by
 cases q:H l with
 | none=>rfl
 | some o=>
  rw[e l o q] at h
  cases h
theorem A3.seq{K:PySem.W.Frag}{H H':Hp}{a:Addr}{xs:List V}(e:A3 H H')(h:SqL K H a xs):SqL K H' a xs:=by
 rcases h with (h|⟨o,h⟩)|h
 ·exact .inl (.inl (e _ _ h))
 ·exact .inl (.inr ⟨o,e _ _ h⟩)
 ·exact .inr h
abbrev noE:Value->Shared->Prop:=fun _ _=>False
theorem y0P{prog:Program}{w:World}{A:Around}{R:Result->Shared->Prop}{s:Shared}{elt target iter:Expr}{ifs:List Expr}{scope:Scope}{pos:Pos}{it acc:Value}{env:Env}(I:Nat->Shared->Prop)
  (turn:∀n s,I n s->wpAny (model prog w) A (pyNext it) (fun r s1=>match r with
   | none=>R (.ok .next) s1
   | some v=>wpAny (model prog w) A (letOwnedTupleGo target it v) (fun _ s0=>wpAny (model prog w) A (assign target env v) (fun _ s2=>
     wpAny (model prog w) A (forIn ifs true fun c r=>if r=true then do let ok <- isTrue c env (eval c env);pure (ForInStep.yield ok) else pure (ForInStep.yield r)) (fun ok s3=>
      if ok=true then wpAny (model prog w) A (eval elt env) (fun x s4=>
       wpAny (model prog w) A (call (.builtin "list.append") [acc,x]) (fun _ s5=>∃m,m<n/\I m s5) noE s4) noE s3
      else ∃m,m<n/\I m s3) noE s2) noE s0) noE s1) noE s)
  (n:Nat) (h:I n s):codeAny (model prog w) A (.compLoop (.ListComp elt [⟨target,iter,ifs,0⟩] scope pos) 0 it acc env) R s:=by
 refine codeAny_loop rfl I (fun n s hI=>?_) n h
 show wpAny _ A ((compTurn (.ListComp elt [⟨target,iter,ifs,0⟩] scope pos) 0 it acc env).onRaise (fun x=>do noteFrame x env;theTreesLotGoes x)) _ _ s
 refine wpAny_noted ?_
 rw[compTurn_list]
 refine wpAny_bind (wpAny_standAt (wpAny_bind (wpAny_mono (turn n s hI) (fun r s1 h1=>?_) fun _ _ z=>False.elim z)))
 cases r with
 | none=>exact wpAny_pure h1
 | some v=>
  refine wpAny_bind (wpAny_mono h1 (fun _ s0 h0=>?_) fun _ _ z=>False.elim z)
  refine wpAny_bind (wpAny_mono h0 (fun _ s2 h2=>wpAny_bind (wpAny_mono h2 (fun ok s3 h3=>?_) fun _ _ z=>False.elim z)) fun _ _ z=>False.elim z)
  cases ok with
  | false=>exact wpAny_pure ⟨rfl,h3⟩
  | true=>
   exact wpAny_bind (wpAny_bind (wpAny_mono h3 (fun x s4 h4=>wpAny_bind (wpAny_mono h4 (fun _ s5 h5=>wpAny_pure (wpAny_pure ⟨rfl,h5⟩)) fun _ _ z=>False.elim z)) fun _ _ z=>False.elim z))
def z7S(cells:List (Str×Addr)):List (Str×NameKind)->List (Str×Addr)->Option (List (Str×Addr))
 | [],acc=>some acc
 | (n,k)::r,acc=>if k == .free then (match cells.lookup n with
   | some a=>z7S cells r ((n,a)::acc)
   | none=>none) else z7S cells r acc
theorem z6F{env:Env}:∀(names:List (Str×NameKind)) (acc cl:List (Str×Addr)),z7S env.cells names acc=some cl->
  (forIn names acc fun(x:Str×NameKind) (cs:List (Str×Addr))=>match x with
   | (name,kind)=>if (kind == NameKind.free)=true then do let c <- cellOf env name;pure (ForInStep.yield ((name,c)::cs)) else pure (ForInStep.yield cs):Sem (List (Str×Addr)))=pure cl
 | [],acc,cl,h=>by
  have h':acc=cl:=Option.some.inj h
  subst h'
  rfl
 | (n,k)::r,acc,cl,h=>by
  rw[List.forIn_cons]
  unfold z7S at h
  by_cases hk:(k == NameKind.free)=true
  ·rw[if_pos hk] at h
   cases e:env.cells.lookup n with
   | none=>rw[e] at h;cases h
   | some a=>
    rw[e] at h
    have ih:=z6F r ((n,a)::acc) cl h
    have hc:cellOf env n=pure a:=by unfold cellOf;rw[e]
    dsimp only
    rw[if_pos hk,hc]
    simpa using ih
  ·rw[if_neg hk] at h
   have ih:=z6F r acc cl h
   dsimp only
   rw[if_neg hk]
   simpa using ih
theorem z6T{scope:Scope}{env:Env}{cl:List (Str×Addr)}(h:z7S env.cells scope.names []=some cl):closureFor scope env=pure cl:=by
 have q:=z6F (env:=env) scope.names [] cl h
 unfold closureFor
 simpa using q
theorem z7A{cells:List (Str×Addr)}:∀{names:List (Str×NameKind)}{acc cl:List (Str×Addr)},z7S cells names acc=some cl->
  (∀x c,acc.lookup x=some c->cells.lookup x=some c)->∀x c,cl.lookup x=some c->cells.lookup x=some c
 | [],acc,cl,h,ha,x,c,e=>by
  have h':acc=cl:=Option.some.inj h
  subst h'
  exact ha x c e
 | (n,k)::r,acc,cl,h,ha,x,c,e=>by
  unfold z7S at h
  by_cases hk:(k == NameKind.free)=true
  ·rw[if_pos hk] at h
   cases q:cells.lookup n with
   | none=>rw[q] at h;cases h
   | some a=>
    rw[q] at h
    refine z7A (names:=r) (acc:=(n,a)::acc) h (fun y d z=>?_) x c e
    rw[hZ] at z
    cases hy:y == n with
    | true=>
     rw[hy] at z
     have z':a=d:=Option.some.inj z
     rw[<- z',beq_iff_eq.mp hy]
     exact q
    | false=>
     rw[hy] at z
     exact ha y d z
  ·rw[if_neg hk] at h
   exact z7A (names:=r) (acc:=acc) h ha x c e
theorem z69{cells:List (Str×Addr)}:∀{names:List (Str×NameKind)}{acc cl:List (Str×Addr)},z7S cells names acc=some cl->
  ∀x,((∃c,acc.lookup x=some c)\/(x,NameKind.free)∈names)->∃c,cl.lookup x=some c
 | [],acc,cl,h,x,hx=>by
  have h':acc=cl:=Option.some.inj h
  subst h'
  rcases hx with hx|hx
  ·exact hx
  ·cases hx
 | (n,k)::r,acc,cl,h,x,hx=>by
  unfold z7S at h
  by_cases hk:(k == NameKind.free)=true
  ·rw[if_pos hk] at h
   cases q:cells.lookup n with
   | none=>rw[q] at h;cases h
   | some a=>
    rw[q] at h
    refine z69 (names:=r) (acc:=(n,a)::acc) h x ?_
    rcases hx with ⟨c,hx⟩|hx
    ·left
     rw[hZ]
     cases hy:x == n with
     | true=>exact⟨a,rfl⟩
     | false=>exact⟨c,hx⟩
    ·rcases bA.mp hx with e|e
     ·left
      have e1:x=n:=congrArg Prod.fst e
      rw[hZ,e1,beq_self_eq_true]
      exact⟨a,rfl⟩
     ·exact .inr e
  ·rw[if_neg hk] at h
   refine z69 (names:=r) (acc:=acc) h x ?_
   rcases hx with hx|hx
   ·exact .inl hx
   ·rcases bA.mp hx with e|e
    ·have e2:NameKind.free=k:=congrArg Prod.snd e
     exact absurd (by rw[<- e2];rfl) hk
    ·exact .inr e
theorem z80{α β:Type}[BEq α][LawfulBEq α]:∀{l:List (α×β)}{x:α}{b:β},l.lookup x=some b->(x,b)∈l
 | [],x,b,h=>by cases h
 | (a,c)::r,x,b,h=>by
  rw[hZ] at h
  cases hx:x == a with
  | true=>
   rw[hx] at h
   have h':c=b:=Option.some.inj h
   rw[beq_iff_eq.mp hx,h']
   exact bU
  | false=>
   rw[hx] at h
   exact bS _ (z80 h)
theorem z6V{scope:Scope}{env:Env}(V4:∀y∈scope.names,y.2≠.cell){x:Str}(h:(relabel scope env).names.lookup x=some .cell\/(relabel scope env).names.lookup x=some .free):(x,NameKind.free)∈scope.names:=by
 have go:∀k,(relabel scope env).names.lookup x=some k->(k=.cell\/k=.free)->(x,NameKind.free)∈scope.names:=fun k h hk=>by
  have m:=z80 h
  obtain⟨⟨n,k'⟩,hm,e⟩:=cO.mp m
  dsimp only at e
  by_cases c:(k' == NameKind.free && env.scope.kind == .function && env.kindOf n == some .cell)=true
  ·rw[if_pos c] at e
   have e1:n=x:=congrArg Prod.fst e
   have c1:(k' == NameKind.free)=true:=by
    rw[bY,bY] at c
    exact c.1.1
   have c2:k'=.free:=eq_of_beq c1
   rw[<- e1,<- c2]
   exact hm
  ·rw[if_neg c] at e
   have e1:n=x:=congrArg Prod.fst e
   have e2:k'=k:=congrArg Prod.snd e
   rcases hk with z|z
   ·exact absurd (e2.trans z) (V4 _ hm)
   ·rw[<- e1,<- z,<- e2]
    exact hm
 rcases h with h|h
 ·exact go _ h (.inl rfl)
 ·exact go _ h (.inr rfl)
def z45(X:Cx)(scope:Scope)(cl:List (Str×Addr))(N:List Str)(C:Addr)(s3:Shared)(H1:Hp)(ex:List Addr)(pins:List (Addr×Obj)):Cx:=
 { X with N:=N,s₀:=s3,H₀:=H1,env:=compEnvC scope cl C X.env,outer:=X.stack,ex:=ex,fn:=fun _=>false,pn:=X.pn++pins,xe:=noE }
def z8z(own:Nat)(ix:List Nat)(σ:St):St:=List.replicate own none++ix.map fun i=>(σ[i]?).join
structure F6(X:Cx)(scope:Scope)(cl:List (Str×Addr))(own E3:List Str)(ix:List Nat):Prop where
 U3:z7S X.env.cells scope.names []=some cl
 cell:∀y∈scope.names,y.2≠.cell
 kind:scope.kind=.function
 names:∀y∈scope.names,y.2=.local->scope.names.lookup y.1=some .local
 capn:E3.length=ix.length
 cap:∀(j i:Nat) (x:Str),E3[j]? = some x->ix[j]? = some i->X.N[i]? = some x/\X.env.kindOf x≠some .local/\Vis X.env.scope x/\((relabel scope X.env).names.lookup x=some .cell\/(relabel scope X.env).names.lookup x=some .free)
theorem Inv.w0y{X:Cx}{pins:List (Addr×Obj)}{σ:St}{H:Hp}{s:Shared}{D:Addr}{o:HO}(I:Inv X pins σ H s)(f:Q0 X pins H D)(new:z1B X.prog X.w (upd H D o) s.heap D o):Inv X pins σ (upd H D o) s:=by
 obtain⟨f0,f1,f2,f3,f4,f5⟩:=f
 have q:=I.step (H':=upd H D o) (h':=s.heap) (g':=s.gens) (t':=s.toks) (d':=s.drawn) (ch:=[D]) (fun b hb=>by
   have e:b=D:=by simpa using hb
   subst e
   exact⟨f3,f1,f4,f5⟩)
  (fun _ _ _ _ _ e _=>e) (fun b ob _ _ _ e _=>⟨ob.slots,e⟩) (fun b ob hb _ n=>by
   have e:b≠D:=fun z=>hb (by simp[z])
   rw[z0k e];exact n)
  (fun b ob _ e=>⟨ob,e⟩) (fun b xs e=>by rw[z0k (z0q e f0)];exact e) (fun b ob u e=>by rw[z0k (z0q e f0)];exact e)
  (fun b ps e=>⟨#[],by rw[z0k (z0q e f0),e];simp⟩) (fun _ hm=>hm) (fun b u e=>by
   by_cases hb:b=D
   ·subst hb
    rw[z03] at e
    cases e
    exact new
   ·rw[z0k hb] at e
    exact(I.hok b u e).W0 (fun _ _ _ q=>q) (fun c q=>by rw[z0k (z0q q f0)];exact q) fun c xs q=>by rw[z0k (z0q q f0)];exact q) I.bare
 exact q
section
variable{X:Cx}{scope:Scope}{cl:List (Str×Addr)}{own E3:List Str}{ix:List Nat}
theorem F6.look(S:F6 X scope cl own E3 ix):∀x c,cl.lookup x=some c->X.env.cells.lookup x=some c:=
 z7A S.U3 fun x c e=>by cases e
theorem y5q{pins:List (Addr×Obj)}{σ:St}{H1:Hp}{s3:Shared}{h1:Heap}{ex:List Addr}{m:Str->Option Value}{tk:Nat}(S:F6 X scope cl own E3 ix)(I:Inv X pins σ H1 s3)
  (hex:∀b∈ex,b<s3.heap.objs.size/\b≠X.env.locals/\b∉X.fs/\(b∈X.ex\/X.s₀.heap.objs.size≤b)/\∀x c,X.env.cells.lookup x=some c->c≠b)
  (hn:h1.Ns s3.heap.objs.size m) (hk:∀b o,s3.heap.get? b=some o->h1.get? b=some o) :
  Inv (z45 X scope cl (own++E3) s3.heap.objs.size s3 H1 ex pins) [] (z8z own.length ix σ) H1 { s3 with heap:=h1,toks:=tk }:=by
 have stkN:∀b∈frs X.stack,b<s3.heap.objs.size:=fun b hb=>by
  obtain⟨_,o,ho,_⟩:=I.stack.mem hb
  exact bP ho
 have lt0:∀b o,X.base.get? b=some o->b<X.s₀.heap.objs.size:=fun b o e=>bP (I.ok.bs b o e).1
 refine⟨⟨I.ok.mod,S.kind,I.ok.glob,I.ok.blt,bE _,?_,?_,?_,I.ok.hd,I.ok.frames,.inl rfl,?_,I.bs,cM I.ok.bsz I.sz,?_,?_,I.stack,I.V0⟩,rfl,I.bare,?_,?_,?_,?_,?_,?_,?_,?_⟩
 ·intro x y c e1 e2
  exact I.ok.inj x y c (S.look x c e1) (S.look y c e2)
 ·intro x hx
  exact z69 S.U3 x (.inr (z6V S.cell hx))
 ·intro x c hf
  exact absurd hf bJ
 ·intro b hb
  obtain⟨l,a1,a2,a3,a4⟩:=hex b hb
  exact⟨cK l,fun x c e=>a4 x c (S.look x c e)⟩
 ·intro b o e hb
  obtain⟨l,a1,a2,a3,a4⟩:=hex b hb
  rcases a3 with z|z
  ·exact I.ok.noex b o e z
  ·exact absurd (cU (lt0 b o e) z) (dP _)
 ·intro b hb hf
  obtain⟨l,a1,a2,a3,a4⟩:=hex b hb
  rcases bA.mp (I.Q4 b hf) with z|z
  ·exact a1 z
  ·exact a2 z
 ·exact Un.kept hk
 ·refine⟨m,hn,fun i x v e1 e2 e3=>?_⟩
  have e2':(List.replicate own.length none++ix.map fun i=>(σ[i]?).join:St)[i]? = some (some v):=e2
  have e1':(own++E3)[i]? = some x:=e1
  by_cases hi:i<own.length
  ·rw[dF (by simpa using hi),gU,if_pos hi] at e2'
   cases e2'
  ·have hi':own.length≤i:=jS hi
   rw[eB (by simpa using hi'),j4,bB] at e2'
   rw[eB hi'] at e1'
   cases q:ix[i-own.length]? with
   | none=>rw[q] at e2';cases e2'
   | some k=>
    rw[q] at e2'
    have X9:(σ[k]?).join=some v:=Option.some.inj e2'
    have e4:σ[k]? = some (some v):=by
     cases z:σ[k]? with
     | none=>rw[z] at X9;cases X9
     | some u=>rw[z] at X9;rw[show u=some v from X9]
    obtain⟨n1,n2,n3,n4⟩:=S.cap (i-own.length) k x e1' q
    obtain⟨mX,_,hl⟩:=I.loc
    obtain⟨u,r,l⟩:=hl k x v n1 e4 n3
    refine⟨u,r,?_⟩
    rcases l with ⟨kl,_⟩|⟨_,c,ec,ic⟩
    ·exact absurd kl n2
    ·obtain⟨c',ec'⟩:=z69 S.U3 x (.inr (z6V S.cell n4))
     have e5:=S.look x c' ec'
     rw[ec] at e5
     cases e5
     exact .inr ⟨n4,c,ec',ic.keeps hk⟩
 ·intro x c e
  obtain⟨v,q⟩:=I.cell x c (S.look x c e)
  exact⟨v,q.keeps hk⟩
 ·exact I.hok.fresh (bE _)
 ·intro x c e
  exact I.freeC x c (S.look x c e)
 ·intro p hp
  have hp':p∈X.pn++pins:=by
   have:p∈(X.pn++pins)++[]:=hp
   rwa [cY] at this
  obtain⟨e,n,ne,nf,d⟩:=I.pin p hp'
  refine⟨hk _ _ e,n,cK (bP e),fun z=>?_,d⟩
  rcases bA.mp (I.Q4 p.1 z) with z|z
  ·exact ne z
  ·exact nf z
 ·exact I.hok.kept hk
 ·show(List.replicate own.length none++ix.map fun i=>(σ[i]?).join:St).length=(own++E3).length
  rw[bG,j4,b7,bG,S.capn]
def PTs(X:Cx)(ifs:List Expr)(t:TT):Prop:=
 ∀(pins:List (Addr×Obj)) (s:Shared) (σ:St) (H:Hp) (Q:Bool->Hp->Prop),Inv X pins σ H s->t σ H Q->
  wpAny (model X.prog X.w) X.A (forIn ifs true fun c r=>if r=true then do let ok <- isTrue c X.env (eval c X.env);pure (ForInStep.yield ok) else pure (ForInStep.yield r)) (TP X pins σ Q) X.xe s
def tYes:TT:=fun _ H Q=>Q true H
theorem z2g:PTs X [] tYes:=fun _ _ _ H _ I h=>wpAny_tests_nil ⟨H,I,h⟩
theorem z2d{c:Expr}{t:TT}(hc:PT X c t):PTs X [c] t:=fun pins s σ H Q I h=>wpAny_tests_one (hc pins s σ H Q I h)
def z5Z(n:Nat)(σ σ':St):Prop:=σ'.length=σ.length/\∀i,n≤i->σ'[i]? = σ[i]?
def U2(n:Nat)(g:TG):Prop:=∀v σ H Q,g v σ H Q->g v σ H fun σ' H'=>Q σ' H'/\z5Z n σ σ'
def y2Q(n:Nat)(g:TGs):Prop:=∀vs σ H Q,g vs σ H Q->g vs σ H fun σ' H'=>Q σ' H'/\z5Z n σ σ'
theorem z5Z.refl(n:Nat)(σ:St):z5Z n σ σ:=⟨rfl,fun _ _=>rfl⟩
theorem z5Z.trans{n:Nat}{a b c:St}(x:z5Z n a b)(y:z5Z n b c):z5Z n a c:=⟨y.1.trans x.1,fun i h=>(y.2 i h).trans (x.2 i h)⟩
theorem z0w{n i:Nat}(h:i<n):U2 n (y48 i):=fun v σ H Q q=>⟨q,by simp,fun j hj=>jA (by omega)⟩
theorem z7M{n:Nat}:y2Q n Z8:=fun vs σ H Q q=>⟨q.1,q.2,z5Z.refl n σ⟩
def z9U(g:TG):Prop:=∀v σ H (Q Q':St->Hp->Prop),(∀σ' H',Q σ' H'->Q' σ' H')->g v σ H Q->g v σ H Q'
def z92(g:TGs):Prop:=∀vs σ H (Q Q':St->Hp->Prop),(∀σ' H',Q σ' H'->Q' σ' H')->g vs σ H Q->g vs σ H Q'
theorem z0h{i:Nat}:z9U (y48 i):=fun _ _ _ _ _ f q=>f _ _ q
theorem z1k:z92 Z8:=fun _ _ _ _ _ f q=>⟨q.1,f _ _ q.2⟩
theorem z0R{t:TG}{u:TGs}(a:z9U t)(b:z92 u):z92 (y6Z t u):=fun vs σ H Q Q' f q=>by
 obtain⟨v,r,e,q⟩:=q
 exact⟨v,r,e,a _ _ _ _ _ (fun σ' H' z=>b _ _ _ _ _ f z) q⟩
theorem z7p{K:PySem.W.Frag}{n:Nat}{t:TGs}(a:z92 t):z9U (X8 K n t):=fun v σ H Q Q' f q=>by
 obtain⟨p,xs,e,h1,h2,q⟩:=q
 exact⟨p,xs,e,h1,h2,a _ _ _ _ _ f q⟩
theorem z2b{n:Nat}{t:TG}{u:TGs}(a:U2 n t)(m:z9U t)(b:y2Q n u)(m':z92 u):y2Q n (y6Z t u):=fun vs σ H Q q=>by
 obtain⟨v,r,e,q⟩:=q
 refine⟨v,r,e,m _ _ _ _ _ (fun σ' H' z=>?_) (a _ _ _ _ q)⟩
 exact m' _ _ _ _ _ (fun σ2 H2 y=>⟨y.1,z.2.trans y.2⟩) (b _ _ _ _ z.1)
theorem z9D{K:PySem.W.Frag}{n k:Nat}{t:TGs}(a:y2Q n t):U2 n (X8 K k t):=fun v σ H Q q=>by
 obtain⟨p,xs,e,h1,h2,q⟩:=q
 exact⟨p,xs,e,h1,h2,a _ _ _ _ q⟩
def z1C(g:TG)(tc:TT)(te:TE)(σ0:St)(x:V)(H:Hp)(ys:List V)(N:List V->Hp->Prop):Prop:=
 g x σ0 H fun σ2 H2=>tc σ2 H2 fun b H3=>if b=true then te σ2 H3 fun y H4=>N (ys++[y]) H4 else N ys H3
def y7G(own:Nat)(ix:List Nat)(wi:TI)(g:TG)(tc:TT)(te:TE)(σ:St)(H:Hp)(F:List V->Hp->Prop):Prop:=
 wi σ H fun J H1=>∃W:Nat->Nat->List V->Hp->Prop,(∃m,W 0 m [] H1)/\∀i m ys H,W i m ys H->
  (J.stop i H/\F ys H)\/(J.go i H/\ys.length<sizeLine/\∃N:List V->Hp->Prop,(∀zs H',N zs H'->∃m',m'<m/\W (i+1) m' zs H')/\
   ∀x H',J.yld i H x H'->z1C g tc te (z8z own ix σ) x H' ys N)
theorem z99{elt iter tg:Expr}{ifs:List Expr}{pos:Pos}{pins:List (Addr×Obj)}{σ:St}{s2:Shared}{itv:Value}{g:TG}{tc:TT}{te:TE}{F:List V->Hp->Prop}{RR:Value->Addr->Result->Shared->Prop}{E:Value->Shared->Prop}
  (S:F6 X scope cl own E3 ix) (hc:X.calm=true)
  (hg:∀C s3 H1 ex pn,PG (z45 X scope cl (own++E3) C s3 H1 ex pn) tg g) (og:U2 own.length g) (mg:z9U g)
  (ht:∀C s3 H1 ex pn,PTs (z45 X scope cl (own++E3) C s3 H1 ex pn) ifs tc)
  (he:∀C s3 H1 ex pn,PE (z45 X scope cl (own++E3) C s3 H1 ex pn) elt te)
  (h:PIE X pins σ tg (fun J H1=>∃W:Nat->Nat->List V->Hp->Prop,(∃m,W 0 m [] H1)/\∀i m ys H,W i m ys H->
   (J.stop i H/\F ys H)\/(J.go i H/\ys.length<sizeLine/\∃N:List V->Hp->Prop,(∀zs H',N zs H'->∃m',m'<m/\W (i+1) m' zs H')/\
    ∀x H',J.yld i H x H'->z1C g tc te (z8z own.length ix σ) x H' ys N)) itv s2)
  (hRR:∀D C m H' ys s',Inv X pins σ (upd H' D (.lst ys)) s'->Q0 X pins (upd H' D (.lst ys)) C->s'.heap.Ns C m->H' D=none->F ys H'->RR (.ref D) C (.ok .next) s') :
  wpAny (model X.prog X.w) X.A (newList []) (fun acc s3=>wpAny (model X.prog X.w) X.A (newFunctionEnv scope X.env.globals cl [] X.env.qual none .none (some X.env)) (fun cenv s4=>
   codeAny (model X.prog X.w) X.A (.compStart (.ListComp elt [⟨tg,iter,ifs,0⟩] scope pos) 0 itv acc { cenv with scope:=relabel scope X.env }) (RR acc cenv.locals) s4) E s3) E s2:=by
 obtain⟨it,fp,tn,J,H1,e,I2,T,st2,f2,W,⟨m0,w0⟩,turn⟩:=h
 subst e
 refine wpAny_newObj_type (wpAny_newFunctionEnv S.cell (by intro y hy;simp at hy) (fun h1 hns1 hsb1=>?_) S.kind)
 dsimp only at hns1 hsb1 ⊢
 generalize hH2:s2.heap.push { cls:=.type "list",dict:=none,data:=.seq ([]:List Value).toArray }=h2 at hns1 hsb1 ⊢
 have X1:∀b o,s2.heap.get? b=some o->h2.get? b=some o:=fun b o e=>hH2 ▸ b9 _ e
 have sz2:h2.objs.size=s2.heap.objs.size+1:=by rw[<- hH2,fV]
 have hDC:s2.heap.objs.size≠h2.objs.size:=by omega
 have V3:∀b o,h2.get? b=some o->h1.get? b=some o:=fun b o e=>hsb1.extBut b o (cK (bP e)) (b9 _ e)
 have w0P:h2.get? s2.heap.objs.size=some { cls:=.type "list",dict:=none,data:=.seq ([]:List Value).toArray }:=hH2 ▸ bM _ rfl
 have I3:Inv X pins σ H1 { s2 with heap:=h2,toks:=s2.toks }:=I2.kept X1
 have fD:Q0 X pins H1 s2.heap.objs.size:=I2.S8 (bE _) I2.fresh
 have fDs:∀{H':Hp},H' s2.heap.objs.size=none->Q0 X pins H' s2.heap.objs.size:=fun hn=>⟨hn,fD.2⟩
 have fpLt:∀b∈fp,b<s2.heap.objs.size:=fun b hb=>by
  obtain⟨o,e,_⟩:=T.obj _ _ st2 b hb
  exact bP e
 have hDfp:s2.heap.objs.size∉fp:=fun z=>dP _ (fpLt _ z)
 have Z1:∀b∈s2.heap.objs.size::fp,b<h2.objs.size/\b≠X.env.locals/\b∉X.fs/\(b∈X.ex\/X.s₀.heap.objs.size≤b)/\∀x c,X.env.cells.lookup x=some c->c≠b:=fun b hb=>by
  rcases bA.mp hb with rfl|hb
  ·exact⟨by omega,fD.2.1,fD.2.2.1,fD.2.2.2.1,fD.2.2.2.2.1⟩
  ·have:=fpLt b hb
   obtain⟨_,a1,a2,a3,a4,_⟩:=f2 b hb
   exact⟨by rw[sz2];exact eX this,a1,a2,a3,a4⟩
 have I4:Inv (z45 X scope cl (own++E3) h2.objs.size { s2 with heap:=h2,toks:=s2.toks } H1 (s2.heap.objs.size::fp) pins) [] (z8z own.length ix σ) H1 { s2 with heap:=h1,toks:=s2.toks+([]:List (Str×Value)).length }:=
  y5q S I3 Z1 hns1 V3
 generalize hX:z45 X scope cl (own++E3) h2.objs.size { s2 with heap:=h2,toks:=s2.toks } H1 (s2.heap.objs.size::fp) pins=Y at I4
 have HG:PG Y tg g:=by rw[<- hX];exact hg _ _ _ _ _
 have HT:PTs Y ifs tc:=by rw[<- hX];exact ht _ _ _ _ _
 have HE:PE Y elt te:=by rw[<- hX];exact he _ _ _ _ _
 have eP:Y.prog=X.prog:=by rw[<- hX];rfl
 have eW:Y.w=X.w:=by rw[<- hX];rfl
 have eK:Y.K=X.K:=by rw[<- hX];rfl
 have eA:Y.A=X.A:=by rw[<- hX];rfl
 have eC:Y.calm=true:=by rw[<- hX];exact hc
 have eE:Y.xe=noE:=by rw[<- hX];rfl
 have W7:Y.env=compEnvC scope cl h2.objs.size X.env:=by rw[<- hX];rfl
 have eEx:Y.ex=s2.heap.objs.size::fp:=by rw[<- hX];rfl
 have ePn:Y.pn=X.pn++pins:=by rw[<- hX];rfl
 have eFs:Y.fs=frs X.stack:=by rw[<- hX];rfl
 have Z5:∀x c,Y.env.cells.lookup x=some c->X.env.cells.lookup x=some c:=fun x c e=>by
  rw[W7] at e
  exact S.look x c e
 have Z2:Y.env.locals=h2.objs.size:=by rw[W7];rfl
 have fY:∀{pl:List (Addr×Obj)}{H':Hp}{b:Addr},b∈s2.heap.objs.size::fp->H' b=none->(∀p∈pl,p.1≠b)->Q0 Y pl H' b:=fun {pl H' b} hb hn hpl=>by
  obtain⟨l,a1,a2,a3,a4⟩:=Z1 b hb
  refine⟨hn,by rw[Z2];exact cK l,fun z=>?_,.inl (by rw[eEx];exact hb),fun x c e=>a4 x c (Z5 x c e),fun p hp=>?_⟩
  ·rw[eFs] at z
   rcases bA.mp (I3.Q4 b z) with z|z
   ·exact a1 z
   ·exact a2 z
  ·rcases bN.mp hp with z|z
   ·rw[ePn] at z
    rcases bA.mp hb with rfl|hb
    ·exact fD.2.2.2.2.2 p z
    ·exact(f2 b hb).2.2.2.2.2 p z
   ·exact hpl p z
 let IV:Nat->Shared->Prop:=fun n s'=>∃i ys its c H',Inv Y [] (z8z own.length ix σ) H' s'/\tn i s'.heap/\(∀b∈fp,H' b=none)/\H' s2.heap.objs.size=none/\Vals ys its/\
  s'.heap.get? s2.heap.objs.size=some { cls:=.type "list",data:=.seq its.toArray c }/\ys.length≤sizeLine/\W i n ys H'
 have loop:∀s3:Shared,s3={ s2 with heap:=h1,toks:=s2.toks+([]:List (Str×Value)).length }->
   codeAny (model X.prog X.w) X.A (.compLoop (.ListComp elt [⟨tg,iter,ifs,0⟩] scope pos) 0 (.ref it) (.ref s2.heap.objs.size) (compEnvC scope cl h2.objs.size X.env)) (RR (.ref s2.heap.objs.size) h2.objs.size) s3:=by
  rintro s3 rfl
  refine y0P IV ?_ m0 ⟨0,[],[],_,H1,I4,T.keep _ _ _ st2 fun b _ o e=>V3 b o (X1 b o e),fun b hb=>(f2 b hb).1,I2.fresh,.nil,V3 _ _ w0P,cV _,w0⟩
  rintro n s5 ⟨i,ys,its,c,H5,I5,st5,fr5,nD5,v5,gD5,z5,w5⟩
  have I5p:Inv Y [(s2.heap.objs.size,{ cls:=.type "list",data:=.seq its.toArray c })] (z8z own.length ix σ) H5 s5:=I5.O7 fun p hp=>by
   have e:p=(s2.heap.objs.size,{ cls:=.type "list",data:=.seq its.toArray c }):=by simpa using hp
   subst e
   obtain⟨_,b1,b2,_⟩:=fY (pl:=[]) (H':=H5) (b:=s2.heap.objs.size) bU nD5 (fun p hp=>nomatch hp)
   exact⟨gD5,nD5,b1,b2,fun v z=>by cases z⟩
  have fps:∀{H':Hp},(∀b∈fp,H' b=none)->∀b∈fp,Q0 Y [(s2.heap.objs.size,{ cls:=.type "list",data:=.seq its.toArray c })] H' b:=fun hn b hb=>
   fY (bS _ hb) (hn b hb) fun p hp=>by
    have e:p=(s2.heap.objs.size,{ cls:=.type "list",data:=.seq its.toArray c }):=by simpa using hp
    subst e
    exact fun z=>hDfp (by have z':s2.heap.objs.size=b:=z;rw[z'];exact hb)
  rcases turn i n ys H5 w5 with ⟨stop,fin⟩|⟨go,hlen,N,hN,step⟩
  ·have q:=T.done Y eP eW eK eC i _ s5 _ H5 noE I5p (fps fr5) st5 stop
   rw[eA] at q
   refine thn q fun r s6 ⟨hr,I6⟩=>?_
   subst hr
   have gD6:=(I6.pin (s2.heap.objs.size,{ cls:=.type "list",data:=.seq its.toArray c }) (c6 _ (by simp))).1
   have u6:Un (frs X.stack) (s2.heap.objs.size::fp) H1 H5 h2 s6.heap:=by
    have:=I6.base
    rw[eFs,eEx] at this
    rw[<- hX] at this
    exact this
   have os6:s6.os=s2.os:=by
    have:=I6.os
    rw[<- hX] at this
    exact this
   have hok6:HOk X.prog X.w H5 s6.heap:=by
    have:=I6.hok
    rw[eP,eW] at this
    exact this
   have J6:Inv X pins σ H5 s6:=I3.w1c (s':=s6) os6 u6 hok6 I6.bare fun b hb=>by
    obtain⟨l,a1,a2,a3,a4⟩:=Z1 b hb
    refine⟨a3,a1,a4,?_⟩
    rcases bA.mp hb with rfl|hb
    ·exact fD.2.2.2.2.2
    ·exact(f2 b hb).2.2.2.2.2
   have J7:Inv X pins σ (upd H5 s2.heap.objs.size (.lst ys)) s6:=J6.w0y (fDs nD5) ⟨z5,its,c,v5,gD6⟩
   obtain⟨mC,hC,_⟩:=I6.loc
   rw[Z2] at hC
   have nC:H5 h2.objs.size=none:=by
    have:=I6.free
    rw[Z2] at this
    exact this
   refine hRR _ _ mC H5 ys s6 J7 (I3.S8 (bE _) ?_) hC nD5 fin
   show upd H5 s2.heap.objs.size (.lst ys) h2.objs.size=none
   rw[z0k (dE hDC)]
   exact nC
  ·have q:=T.item Y eP eW eK eC i _ s5 _ H5 noE I5p (fps fr5) st5 go
   rw[eA] at q
   refine thn q fun r s6 ⟨u,hr,h6⟩=>?_
   subst hr
   refine thn h6 fun _ s7 ⟨x,H7,I7,r7,y7,st7,fr7⟩=>?_
   have I7p:=I7.pinned (fps fr7) (T.obj _ _ st7)
   have st:=og _ _ _ _ (step x H7 y7)
   have q2:=HG _ s7 _ H7 x u _ I7p r7 st
   rw[eE,eP,eW,eA,W7] at q2
   refine thn q2 fun _ s8 ⟨σ8,H8,I8,q8,fr8⟩=>?_
   have q3:=HT _ s8 σ8 H8 _ I8 q8
   rw[eE,eP,eW,eA,W7] at q3
   refine thn q3 fun ok s9 ⟨H9,I9,q9⟩=>?_
   have back:∀{H':Hp}{s':Shared},Inv Y ([(s2.heap.objs.size,({ cls:=.type "list",data:=.seq its.toArray c }:Obj))]++y0x fp s7.heap) σ8 H' s'->
     Inv Y [] (z8z own.length ix σ) H' s'/\tn (i+1) s'.heap/\(∀b∈fp,H' b=none)/\H' s2.heap.objs.size=none/\s'.heap.get? s2.heap.objs.size=some { cls:=.type "list",data:=.seq its.toArray c }:=fun {H' s'} I'=>by
    have pD:=I'.pin (s2.heap.objs.size,{ cls:=.type "list",data:=.seq its.toArray c }) (c6 _ (cR _ (by simp)))
    refine⟨(I'.O7 (pins':=[]) fun p hp=>nomatch hp).weak fr8.1.symm fun j v e=>?_,T.keep _ _ _ st7 fun b hb o e=>(I'.pin (b,o) (c6 _ (c6 _ (z4N hb e)))).1,fun b hb=>?_,pD.2.1,pD.1⟩
    ·by_cases hj:j<own.length
     ·have e':(List.replicate own.length none++ix.map fun i=>(σ[i]?).join:St)[j]? = some (some v):=e
      rw[dF (by simpa using hj),gU,if_pos hj] at e'
      cases e'
     ·rw[fr8.2 j (jS hj)]
      exact e
    ·obtain⟨o,e,d⟩:=T.obj _ _ st7 b hb
     exact(I'.pin (b,o) (c6 _ (c6 _ (z4N hb e)))).2.1
   cases ok with
   | false=>
    obtain⟨m',hm,w9⟩:=hN _ _ (show N ys H9 from q9)
    obtain⟨b1,b2,b3,b4,b5⟩:=back I9
    exact⟨m',hm,i+1,ys,its,c,H9,b1,b2,b3,b4,v5,b5,z5,w9⟩
   | true=>
    have q9':te σ8 H9 fun y H4=>N (ys++[y]) H4:=q9
    have q4:=HE _ s9 σ8 H9 _ I9 q9'
    rw[eE,eP,eW,eA,W7] at q4
    refine thn q4 fun yv s10 ⟨y,H10,I10,r10,n10⟩=>?_
    obtain⟨b1,b2,b3,b4,b5⟩:=back I10
    obtain⟨m',hm,w10⟩:=hN _ _ n10
    have hl:=v5.length
    refine call_meets bV ⟨_,b5,rfl⟩ PySem.F.entry_list_append (PySem.F.args_list_append_2 _ _) (PySem.list_append s2.heap.objs.size its.toArray c yv (by rw[bF];omega)) ⟨b5,?_⟩
    have q5:=PySem.IsL.update b5 (fun a=>a.push yv)
    have e5:its.toArray.push yv=(its++[yv]).toArray:=by simp
    rw[e5] at q5
    have k5:∀b o,b≠s2.heap.objs.size->s10.heap.get? b=some o->(s10.heap.update s2.heap.objs.size (Obj.mapSeq fun a=>a.push yv)).get? b=some o:=fun b o hb e=>
     (cW s10.heap (Obj.mapSeq fun a=>a.push yv) (dE hb)).trans e
    obtain⟨f0,f1,f2',f3,f4,f5⟩:=fY (pl:=[]) (H':=H10) (b:=s2.heap.objs.size) bU b4 (fun p hp=>nomatch hp)
    have b1':=b1.turned (t':=s10.toks) k5 f0 f1 f3 f4 f5
    refine⟨m',hm,i+1,ys++[y],its++[yv],_,H10,b1',T.keep _ _ _ b2 fun b hb o e=>k5 b o (fun z=>hDfp (by rw[<- z];exact hb)) e,b3,b4,v5.append (.cons r10 .nil),q5,?_,w10⟩
    ·rw[bG,dH]
     omega
 exact codeAny_compStart_list (loop _ rfl) (T.self _ 0 _ _ _ (T.keep _ _ _ st2 fun b _ o e=>V3 b o (X1 b o e)) (loop _ rfl))
def y7D(own:Nat)(ix:List Nat)(wi:TI)(g:TG)(tc:TT)(te:TE):TE:=fun σ H Q=>y7G own ix wi g tc te σ H fun ys H'=>∀D,H' D=none->Q (.ref D) (upd H' D (.lst ys))
theorem z1e{elt iter tg:Expr}{ifs:List Expr}{pos:Pos}{wi:TI}{g:TG}{tc:TT}{te:TE}(own E3:List Str)(ix:List Nat)
  (hc:X.calm=true) (S:F6 X scope cl own E3 ix) (hi:PI X tg iter wi)
  (hg:∀C s3 H1 ex pn,PG (z45 X scope cl (own++E3) C s3 H1 ex pn) tg g) (og:U2 own.length g) (mg:z9U g)
  (ht:∀C s3 H1 ex pn,PTs (z45 X scope cl (own++E3) C s3 H1 ex pn) ifs tc)
  (he:∀C s3 H1 ex pn,PE (z45 X scope cl (own++E3) C s3 H1 ex pn) elt te)
  (hs:∀x,foldedSetIterable iter X.env x=pure x:=by intro _;rfl) :
  PE X (.ListComp elt [⟨tg,iter,ifs,0⟩] scope pos) (y7D own.length ix wi g tc te):=by
 intro pins s σ H Q I h
 rw[eval_ListComp]
 refine wpAny_comprehension_free (use:=none) rfl hs (z6T S.U3) S.kind S.names (thn (hi pins s σ H _ I h) fun v s1 h1=>thn h1 fun itv s2 h2=>?_)
 refine z99 (RR:=fun acc C=>compPost (model X.prog X.w) X.A X.xe none (EP X pins σ Q) acc C) S hc hg og mg ht he h2 ?_
 intro D C m H' ys s' I' fC hn hD fin
 refine⟨m,hn,fun h' sb=>?_⟩
 obtain⟨f0,f1,f2,f3,f4,f5⟩:=fC
 have I2:=I'.turned (t':=s'.toks) (h':=h') (it:=C) (fun b o hb e=>(sb.2 b hb).trans e) f0 f1 f3 f4 f5
 exact⟨.ref D,_,I2,rfl,fin D hD⟩
theorem z5J{elt iter tg:Expr}{ifs:List Expr}{pos pos' spos:Pos}{x:Str}{i:Nat}{wi:TI}{g:TG}{tc:TT}{te:TE}(own E3:List Str)(ix:List Nat)
  (hc:X.calm=true) (hN:X.N.Nodup) (hx:X.N[i]? = some x) (hl:Loc X.env.scope x) (S:F6 X scope cl own E3 ix) (hi:PI X tg iter wi)
  (hg:∀C s3 H1 ex pn,PG (z45 X scope cl (own++E3) C s3 H1 ex pn) tg g) (og:U2 own.length g) (mg:z9U g)
  (ht:∀C s3 H1 ex pn,PTs (z45 X scope cl (own++E3) C s3 H1 ex pn) ifs tc)
  (he:∀C s3 H1 ex pn,PE (z45 X scope cl (own++E3) C s3 H1 ex pn) elt te)
  (hsw:swapsWith (.ListComp elt [⟨tg,iter,ifs,0⟩] scope pos) (some (.Name x pos')) spos.line X.env=pure true:=by rfl)
  (hf:X.fn x=true\/X.env.scope.names.lookup x=some .local:=by first|exact .inl rfl|exact .inr rfl|assumption)
  (hs:∀x,foldedSetIterable iter X.env x=pure x:=by intro _;rfl) :
  PS X (.Assign [.Name x pos'] (.ListComp elt [⟨tg,iter,ifs,0⟩] scope pos) spos) (tAsg (y7D own.length ix wi g tc te) (y48 i)):=by
 intro pins s σ H D I h
 rw[exec_Assign_Name_used _ _ _ _ hsw]
 refine wpAny_bind (wpAny_standAt (wpAny_bind ?_))
 show wpAny _ X.A (do let _ <- comprehension (.ListComp elt [⟨tg,iter,ifs,0⟩] scope pos) scope X.env _ (newList []) false (eval iter X.env) (some (assign (.Name x pos') X.env))) _ _ s
 refine wpAny_bind (wpAny_mono (wpAny_comprehension_free (use:=some (assign (.Name x pos') X.env)) (Q:=fun _ s'=>SP X pins D .next s') rfl hs (z6T S.U3) S.kind S.names
  (thn (hi pins s σ H _ I h) fun v s1 h1=>thn h1 fun itv s2 h2=>?_)) (fun _ s' hq=>wpAny_pure (wpAny_pure hq)) fun _ _ e=>e)
 refine z99 (RR:=fun acc C=>compPost (model X.prog X.w) X.A X.xe (some (assign (.Name x pos') X.env)) (fun _ s'=>SP X pins D .next s') acc C) S hc hg og mg ht he h2 ?_
 intro D' C m H' ys s' I' fC hn hD fin
 obtain⟨f0,f1,f2,f3,f4,f5⟩:=fC
 obtain⟨oC,es,ep,hoC,hdC,hr⟩:=id hn
 show wpAny _ X.A (assign (.Name x pos') X.env (.ref D')) _ _ _
 have Ip:Inv X (pins++[(C,oC)]) σ (upd H' D' (.lst ys)) s':=I'.O7 fun p hp=>(bN.mp hp).elim (fun z=>I'.pin p (c6 _ z)) fun z=>by
  have e:p=(C,oC):=by simpa using z
  subst e
  exact⟨hoC,f0,f1,f2,fun v z=>by rw[hdC] at z;cases z⟩
 refine thn (z0j hN hx hl hf (pins++[(C,oC)]) s' σ _ (.ref D') (.ref D') _ Ip rfl (fin D' hD)) fun _ s3 ⟨σ3,H3,I3,q3⟩=>?_
 have pC:=I3.pin (C,oC) (c6 _ (c6 _ (by simp)))
 refine⟨m,⟨oC,es,ep,pC.1,hdC,hr⟩,fun h' sb=>?_⟩
 have I4:Inv X pins σ3 H3 s3:=I3.O1
 exact⟨σ3,H3,I4.turned (t':=s3.toks) (h':=h') (it:=C) (fun b o hb e=>(sb.2 b hb).trans e) pC.2.1 f1 f3 f4 f5,q3⟩
end
section
variable{prog:Program}{w:World}{A:Around}{R:Result->Shared->Prop}{I:Addr}{fp wr:List Addr}{n:Nat}{P:Nat->Value->Prop}{St:Nat->Heap->Prop}
theorem y5b(W:Walks prog w A.in1 I fp wr n P St)(bt:Nat->Nat->Bool)(Q2:CmpOf prog w A.in1 .Gt P bt)(S:Addr)(hSf:S∉fp)(kw:List (Str×Value)) :
  ∀(k j:Nat) (s:Shared) (vb:Value) (c:Nat),n-(j+1)=k->j+1≤n->St (j+1) s.heap->P (argBest bt j) vb->
  s.heap.get? S=some { cls:=.type "list",dict:=none,data:=.seq #[vb,vb] c,slots:=#[] }->
  (∀v h' tk,P (argBest bt (n-1)) v->(∀b o,b∉wr->b≠S->s.heap.get? b=some o->h'.get? b=some o)->R (.ok (.ret v)) { s with heap:=h',toks:=tk })->
  codeAny (model prog w) A (.builtin "max.loop" ⟨[.ref I,.none,.ref S],kw⟩) R s:=by
 have hSw:S∉wr:=fun h=>hSf (W.sub _ h)
 have K9:(toString "max"++toString ".loop":String)="max.loop":=by decide
 intro k
 induction k with
 | zero=>
  intro j s vb c hk hj hst hPb hS hR
  have hin:j+1=n:=by omega
  refine codeAny_builtin fP ?_
  rw[cN dC _]
  show wpAny _ A.in1 (seqItems? (.ref S) >>= _) _ _ s
  refine wpAny_bind (wpAny_seqItems hS rfl ?_)
  show wpAny _ A.in1 (tryCatch (pyNext (.ref I)) _ >>= _) _ _ s
  refine wpAny_bind (wpAny_tryCatch (W.done s _ _ (hin ▸ hst) fun h' tk hk'=>?_))
  have hS':=hk' S _ hSw hS
  show wpAny _ A.in1 (updateSeq S (fun _=>#[]) >>= _) _ _ _
  refine wpAny_bind ?_
  refine wpAny_updateSeq hS' rfl (wpAny_bind (wpAny_letGo (wpAny_pure ?_)))
  refine hR vb _ tk (by rw[<- hin];exact hPb) fun b o hbw hbS e=>(cW _ _ (dE hbS)).trans (hk' b o hbw e)
 | succ k ih=>
  intro j s vb c hk hj hst hPb hS hR
  have hlt:j+1<n:=by omega
  refine codeAny_builtin fP ?_
  rw[cN dC _]
  show wpAny _ A.in1 (seqItems? (.ref S) >>= _) _ _ s
  refine wpAny_bind (wpAny_seqItems hS rfl ?_)
  show wpAny _ A.in1 (tryCatch (pyNext (.ref I)) _ >>= _) _ _ s
  refine wpAny_bind (wpAny_tryCatch (W.item (j+1) s _ _ hlt hst fun v h' tk hP hst' hk'=>?_))
  have hS':=hk' S _ hSw hS
  show wpAny _ A.in1 (tryCatch (holding [v,v] (richCompare .Gt v vb >>= _)) _ >>= _) _ _ _
  refine wpAny_bind (wpAny_tryCatch (wpAny_holding (wpAny_bind (Q2 (j+1) (argBest bt j) v vb _ _ _ hP hPb ?_))))
  refine wpAny_bind (wpAny_holding (wpAny_truthy_bool ?_))
  refine wpAny_bind (wpAny_letGo (wpAny_pure ?_))
  cases hb:bt (j+1) (argBest bt j) with
  | true=>
   simp only[if_true]
   refine wpAny_bind ?_
   refine wpAny_updateSeq hS' rfl (wpAny_bind (wpAny_letGo ?_))
   rw[K9]
   refine wpAny_pure ⟨plainId_quiet dC _,ih (j+1) _ v _ (by omega) hlt (W.frame _ _ _ hst' fun b hbf o e=>?_) (by simp only[argBest,hb,if_true];exact hP) (eI _ hS' rfl)
    fun v' h'' tk'' hP' hk''=>?_⟩
   ·exact(cW _ _ (fun h:S=b=>hSf (by rw[h];exact hbf))).trans e
   ·exact hR v' h'' tk'' hP' fun b o hbw hbS e=>hk'' b o hbw hbS ((cW _ _ (dE hbS)).trans (hk' b o hbw e))
  | false=>
   simp only[eS,if_false]
   refine wpAny_bind (wpAny_letGo ?_)
   rw[K9]
   refine wpAny_pure ⟨plainId_quiet dC _,ih (j+1) _ vb c (by omega) hlt hst' (by simp only[argBest,hb,eS,if_false];exact hPb) hS' fun v' h'' tk'' hP' hk''=>?_⟩
   exact hR v' h'' tk'' hP' fun b o hbw hbS e=>hk'' b o hbw hbS (hk' b o hbw e)
theorem y3b(W:Walks prog w A.in1 I fp wr n P St)(bt:Nat->Nat->Bool)(Q2:CmpOf prog w A.in1 .Gt P bt)(S:Addr)(hSf:S∉fp)(kw:List (Str×Value))(hn:0<n){s:Shared}{c:Nat}(hst:St 0 s.heap)
  (hS:s.heap.get? S=some { cls:=.type "list",dict:=none,data:=.seq #[] c,slots:=#[] })
  (hR:∀v h' tk,P (argBest bt (n-1)) v->(∀b o,b∉wr->b≠S->s.heap.get? b=some o->h'.get? b=some o)->R (.ok (.ret v)) { s with heap:=h',toks:=tk }) :
  codeAny (model prog w) A (.builtin "max.loop" ⟨[.ref I,.none,.ref S],kw⟩) R s:=by
 have hSw:S∉wr:=fun h=>hSf (W.sub _ h)
 have K9:(toString "max"++toString ".loop":String)="max.loop":=by decide
 refine codeAny_builtin fP ?_
 rw[cN dC _]
 show wpAny _ A.in1 (seqItems? (.ref S) >>= _) _ _ s
 refine wpAny_bind (wpAny_seqItems hS rfl ?_)
 show wpAny _ A.in1 (tryCatch (pyNext (.ref I)) _ >>= _) _ _ s
 refine wpAny_bind (wpAny_tryCatch (W.item 0 s _ _ hn hst fun v h' tk hP hst' hk'=>?_))
 have hS':=hk' S _ hSw hS
 show wpAny _ A.in1 (updateSeq S (fun _=>#[v,v]) >>= _) _ _ _
 refine wpAny_bind ?_
 refine wpAny_updateSeq hS' rfl ?_
 rw[K9]
 refine wpAny_pure ⟨plainId_quiet dC _,y5b W bt Q2 S hSf kw _ 0 _ v _ rfl hn (W.frame _ _ _ hst' fun b hbf o e=>?_) hP (eI _ hS' rfl) fun v' h'' tk'' hP' hk''=>?_⟩
 ·exact(cW _ _ (fun h:S=b=>hSf (by rw[h];exact hbf))).trans e
 ·exact hR v' h'' tk'' hP' fun b o hbw hbS e=>hk'' b o hbw hbS ((cW _ _ (dE hbS)).trans (hk' b o hbw e))
theorem y5D(W:Walks prog w A.in1 I fp wr n P St)(S:Addr)(hSf:S∉fp)(kn:Str)(d:Value)(hn:n=0){s:Shared}{c:Nat}(hst:St 0 s.heap)
  (hS:s.heap.get? S=some { cls:=.type "list",dict:=none,data:=.seq #[] c,slots:=#[] })
  (hR:∀h' tk,(∀b o,b∉wr->s.heap.get? b=some o->h'.get? b=some o)->R (.ok (.ret d)) { s with heap:=h',toks:=tk }) :
  codeAny (model prog w) A (.builtin "max.loop" ⟨[.ref I,.none,.ref S],[(kn,d)]⟩) R s:=by
 refine codeAny_builtin fP ?_
 rw[cN dC _]
 show wpAny _ A.in1 (seqItems? (.ref S) >>= _) _ _ s
 refine wpAny_bind (wpAny_seqItems hS rfl ?_)
 show wpAny _ A.in1 (tryCatch (pyNext (.ref I)) _ >>= _) _ _ s
 refine wpAny_bind (wpAny_tryCatch (W.done s _ _ (hn ▸ hst) fun h' tk hk'=>?_))
 exact wpAny_bind (wpAny_rule (wpAny_pure (hR h' tk hk')))
theorem z7m(a v:Value):argsOk "max" ⟨[a],[(Str.ofString "default",v)]⟩:=by unfold argsOk;kernel_rfl
theorem y5i{x d:Value}{s:Shared}{E:Value->Shared->Prop}{Q:Value->Shared->Prop}
  (h:wpAny (model prog w) A.in1 (pyIter x) (fun it s2=>∃I fp wr n P St bt,it=.ref I/\Walks prog w A.in1 I fp wr n P St/\St 0 s2.heap/\(∀b∈fp,b<s2.heap.objs.size)/\CmpOf prog w A.in1 .Gt P bt/\
   (n=0->∀h' tk,(∀b o,b∉wr->s2.heap.get? b=some o->h'.get? b=some o)->Q d { s2 with heap:=h',toks:=tk })/\
   (0<n->∀v h' tk,P (argBest bt (n-1)) v->(∀b o,b∉wr->s2.heap.get? b=some o->h'.get? b=some o)->Q v { s2 with heap:=h',toks:=tk })) E s) :
  wpAny (model prog w) A (call (.builtin "max") [x] [(Str.ofString "default",d)]) Q E s:=by
 have K9:(toString "max"++toString ".loop":String)="max.loop":=by decide
 refine kmk_tree PySem.F.kind_max PySem.F.plain_max PySem.F.entry_max (z7m _ _) ?_
 show wpAny _ A.in1 (Builtin.Builtins.bindParams "max" ["key","default"] 0 ⟨[],[(Str.ofString "default",d)]⟩ >>= _) _ _ s
 refine wpAny_bind (wpAny_of_eq (show Builtin.Builtins.bindParams "max" ["key","default"] 0 ⟨[],[(Str.ofString "default",d)]⟩=pure [none,some d] from by kernel_rfl) ?_)
 refine wpAny_bind (wpAny_pure ?_)
 refine wpAny_bind (wpAny_mono h (fun it s2 h2=>?_) fun _ _ e=>e)
 obtain⟨I,fp,wr,n,P,St,bt,rfl,W,hst,hfp,Q2,hQ0,hQ⟩:=h2
 refine wpAny_bind (wpAny_newObj_type ?_)
 have hSf:s2.heap.objs.size∉fp:=fun hm=>dP _ (hfp _ hm)
 rw[K9]
 refine wpAny_pure ⟨plainId_quiet dC _,?_⟩
 by_cases hn:n=0
 ·exact y5D W s2.heap.objs.size hSf _ d hn (W.frame _ _ _ hst fun b _ o e=>b9 _ e) (bM _ rfl) fun h' tk hk=>hQ0 hn h' tk fun b o hbw e=>hk b o hbw (b9 _ e)
 ·exact y3b W bt Q2 s2.heap.objs.size hSf _ (gO hn) (W.frame _ _ _ hst fun b _ o e=>b9 _ e) (bM _ rfl) fun v h' tk hP hk=>
   hQ (gO hn) v h' tk hP fun b o hbw e=>hk b o hbw (cK (bP e)) (b9 _ e)
theorem y5p(W:Walks prog w A.in1 I fp wr n P St)(bt:Nat->Nat->Bool)(Q2:CmpOf prog w A.in1 .Lt P bt)(S:Addr)(hSf:S∉fp)(kw:List (Str×Value)) :
  ∀(k j:Nat) (s:Shared) (vb:Value) (c:Nat),n-(j+1)=k->j+1≤n->St (j+1) s.heap->P (argBest bt j) vb->
  s.heap.get? S=some { cls:=.type "list",dict:=none,data:=.seq #[vb,vb] c,slots:=#[] }->
  (∀v h' tk,P (argBest bt (n-1)) v->(∀b o,b∉wr->b≠S->s.heap.get? b=some o->h'.get? b=some o)->R (.ok (.ret v)) { s with heap:=h',toks:=tk })->
  codeAny (model prog w) A (.builtin "min.loop" ⟨[.ref I,.none,.ref S],kw⟩) R s:=by
 have hSw:S∉wr:=fun h=>hSf (W.sub _ h)
 have K9:(toString "min"++toString ".loop":String)="min.loop":=by decide
 intro k
 induction k with
 | zero=>
  intro j s vb c hk hj hst hPb hS hR
  have hin:j+1=n:=by omega
  refine codeAny_builtin fQ ?_
  rw[cN dD _]
  show wpAny _ A.in1 (seqItems? (.ref S) >>= _) _ _ s
  refine wpAny_bind (wpAny_seqItems hS rfl ?_)
  show wpAny _ A.in1 (tryCatch (pyNext (.ref I)) _ >>= _) _ _ s
  refine wpAny_bind (wpAny_tryCatch (W.done s _ _ (hin ▸ hst) fun h' tk hk'=>?_))
  have hS':=hk' S _ hSw hS
  show wpAny _ A.in1 (updateSeq S (fun _=>#[]) >>= _) _ _ _
  refine wpAny_bind ?_
  refine wpAny_updateSeq hS' rfl (wpAny_bind (wpAny_letGo (wpAny_pure ?_)))
  refine hR vb _ tk (by rw[<- hin];exact hPb) fun b o hbw hbS e=>(cW _ _ (dE hbS)).trans (hk' b o hbw e)
 | succ k ih=>
  intro j s vb c hk hj hst hPb hS hR
  have hlt:j+1<n:=by omega
  refine codeAny_builtin fQ ?_
  rw[cN dD _]
  show wpAny _ A.in1 (seqItems? (.ref S) >>= _) _ _ s
  refine wpAny_bind (wpAny_seqItems hS rfl ?_)
  show wpAny _ A.in1 (tryCatch (pyNext (.ref I)) _ >>= _) _ _ s
  refine wpAny_bind (wpAny_tryCatch (W.item (j+1) s _ _ hlt hst fun v h' tk hP hst' hk'=>?_))
  have hS':=hk' S _ hSw hS
  show wpAny _ A.in1 (tryCatch (holding [v,v] (richCompare .Lt v vb >>= _)) _ >>= _) _ _ _
  refine wpAny_bind (wpAny_tryCatch (wpAny_holding (wpAny_bind (Q2 (j+1) (argBest bt j) v vb _ _ _ hP hPb ?_))))
  refine wpAny_bind (wpAny_holding (wpAny_truthy_bool ?_))
  refine wpAny_bind (wpAny_letGo (wpAny_pure ?_))
  cases hb:bt (j+1) (argBest bt j) with
  | true=>
   simp only[if_true]
   refine wpAny_bind ?_
   refine wpAny_updateSeq hS' rfl (wpAny_bind (wpAny_letGo ?_))
   rw[K9]
   refine wpAny_pure ⟨plainId_quiet dD _,ih (j+1) _ v _ (by omega) hlt (W.frame _ _ _ hst' fun b hbf o e=>?_) (by simp only[argBest,hb,if_true];exact hP) (eI _ hS' rfl)
    fun v' h'' tk'' hP' hk''=>?_⟩
   ·exact(cW _ _ (fun h:S=b=>hSf (by rw[h];exact hbf))).trans e
   ·exact hR v' h'' tk'' hP' fun b o hbw hbS e=>hk'' b o hbw hbS ((cW _ _ (dE hbS)).trans (hk' b o hbw e))
  | false=>
   simp only[eS,if_false]
   refine wpAny_bind (wpAny_letGo ?_)
   rw[K9]
   refine wpAny_pure ⟨plainId_quiet dD _,ih (j+1) _ vb c (by omega) hlt hst' (by simp only[argBest,hb,eS,if_false];exact hPb) hS' fun v' h'' tk'' hP' hk''=>?_⟩
   exact hR v' h'' tk'' hP' fun b o hbw hbS e=>hk'' b o hbw hbS (hk' b o hbw e)
theorem y3t(W:Walks prog w A.in1 I fp wr n P St)(bt:Nat->Nat->Bool)(Q2:CmpOf prog w A.in1 .Lt P bt)(S:Addr)(hSf:S∉fp)(kw:List (Str×Value))(hn:0<n){s:Shared}{c:Nat}(hst:St 0 s.heap)
  (hS:s.heap.get? S=some { cls:=.type "list",dict:=none,data:=.seq #[] c,slots:=#[] })
  (hR:∀v h' tk,P (argBest bt (n-1)) v->(∀b o,b∉wr->b≠S->s.heap.get? b=some o->h'.get? b=some o)->R (.ok (.ret v)) { s with heap:=h',toks:=tk }) :
  codeAny (model prog w) A (.builtin "min.loop" ⟨[.ref I,.none,.ref S],kw⟩) R s:=by
 have hSw:S∉wr:=fun h=>hSf (W.sub _ h)
 have K9:(toString "min"++toString ".loop":String)="min.loop":=by decide
 refine codeAny_builtin fQ ?_
 rw[cN dD _]
 show wpAny _ A.in1 (seqItems? (.ref S) >>= _) _ _ s
 refine wpAny_bind (wpAny_seqItems hS rfl ?_)
 show wpAny _ A.in1 (tryCatch (pyNext (.ref I)) _ >>= _) _ _ s
 refine wpAny_bind (wpAny_tryCatch (W.item 0 s _ _ hn hst fun v h' tk hP hst' hk'=>?_))
 have hS':=hk' S _ hSw hS
 show wpAny _ A.in1 (updateSeq S (fun _=>#[v,v]) >>= _) _ _ _
 refine wpAny_bind ?_
 refine wpAny_updateSeq hS' rfl ?_
 rw[K9]
 refine wpAny_pure ⟨plainId_quiet dD _,y5p W bt Q2 S hSf kw _ 0 _ v _ rfl hn (W.frame _ _ _ hst' fun b hbf o e=>?_) hP (eI _ hS' rfl) fun v' h'' tk'' hP' hk''=>?_⟩
 ·exact(cW _ _ (fun h:S=b=>hSf (by rw[h];exact hbf))).trans e
 ·exact hR v' h'' tk'' hP' fun b o hbw hbS e=>hk'' b o hbw hbS ((cW _ _ (dE hbS)).trans (hk' b o hbw e))
theorem y5w(W:Walks prog w A.in1 I fp wr n P St)(S:Addr)(hSf:S∉fp)(kn:Str)(d:Value)(hn:n=0){s:Shared}{c:Nat}(hst:St 0 s.heap)
  (hS:s.heap.get? S=some { cls:=.type "list",dict:=none,data:=.seq #[] c,slots:=#[] })
  (hR:∀h' tk,(∀b o,b∉wr->s.heap.get? b=some o->h'.get? b=some o)->R (.ok (.ret d)) { s with heap:=h',toks:=tk }) :
  codeAny (model prog w) A (.builtin "min.loop" ⟨[.ref I,.none,.ref S],[(kn,d)]⟩) R s:=by
 refine codeAny_builtin fQ ?_
 rw[cN dD _]
 show wpAny _ A.in1 (seqItems? (.ref S) >>= _) _ _ s
 refine wpAny_bind (wpAny_seqItems hS rfl ?_)
 show wpAny _ A.in1 (tryCatch (pyNext (.ref I)) _ >>= _) _ _ s
 refine wpAny_bind (wpAny_tryCatch (W.done s _ _ (hn ▸ hst) fun h' tk hk'=>?_))
 exact wpAny_bind (wpAny_rule (wpAny_pure (hR h' tk hk')))
theorem z7k(a v:Value):argsOk "min" ⟨[a],[(Str.ofString "default",v)]⟩:=by unfold argsOk;kernel_rfl
theorem y4Z{x d:Value}{s:Shared}{E:Value->Shared->Prop}{Q:Value->Shared->Prop}
  (h:wpAny (model prog w) A.in1 (pyIter x) (fun it s2=>∃I fp wr n P St bt,it=.ref I/\Walks prog w A.in1 I fp wr n P St/\St 0 s2.heap/\(∀b∈fp,b<s2.heap.objs.size)/\CmpOf prog w A.in1 .Lt P bt/\
   (n=0->∀h' tk,(∀b o,b∉wr->s2.heap.get? b=some o->h'.get? b=some o)->Q d { s2 with heap:=h',toks:=tk })/\
   (0<n->∀v h' tk,P (argBest bt (n-1)) v->(∀b o,b∉wr->s2.heap.get? b=some o->h'.get? b=some o)->Q v { s2 with heap:=h',toks:=tk })) E s) :
  wpAny (model prog w) A (call (.builtin "min") [x] [(Str.ofString "default",d)]) Q E s:=by
 have K9:(toString "min"++toString ".loop":String)="min.loop":=by decide
 refine kmk_tree PySem.F.kind_min PySem.F.plain_min PySem.F.entry_min (z7k _ _) ?_
 show wpAny _ A.in1 (Builtin.Builtins.bindParams "min" ["key","default"] 0 ⟨[],[(Str.ofString "default",d)]⟩ >>= _) _ _ s
 refine wpAny_bind (wpAny_of_eq (show Builtin.Builtins.bindParams "min" ["key","default"] 0 ⟨[],[(Str.ofString "default",d)]⟩=pure [none,some d] from by kernel_rfl) ?_)
 refine wpAny_bind (wpAny_pure ?_)
 refine wpAny_bind (wpAny_mono h (fun it s2 h2=>?_) fun _ _ e=>e)
 obtain⟨I,fp,wr,n,P,St,bt,rfl,W,hst,hfp,Q2,hQ0,hQ⟩:=h2
 refine wpAny_bind (wpAny_newObj_type ?_)
 have hSf:s2.heap.objs.size∉fp:=fun hm=>dP _ (hfp _ hm)
 rw[K9]
 refine wpAny_pure ⟨plainId_quiet dD _,?_⟩
 by_cases hn:n=0
 ·exact y5w W s2.heap.objs.size hSf _ d hn (W.frame _ _ _ hst fun b _ o e=>b9 _ e) (bM _ rfl) fun h' tk hk=>hQ0 hn h' tk fun b o hbw e=>hk b o hbw (b9 _ e)
 ·exact y3t W bt Q2 s2.heap.objs.size hSf _ (gO hn) (W.frame _ _ _ hst fun b _ o e=>b9 _ e) (bM _ rfl) fun v h' tk hP hk=>
   hQ (gO hn) v h' tk hP fun b o hbw e=>hk b o hbw (cK (bP e)) (b9 _ e)
end
theorem z9z(f:Nat->Int):∀k,argBest (fun i j=>decide (f i > f j)) k≤k/\∀i,i≤k->f i≤f (argBest (fun i j=>decide (f i > f j)) k)
 | 0=>⟨bE _,fun i hi=>by rw[Nat.le_zero.mp hi];exact eJ _⟩
 | k+1=>by
  obtain⟨h1,h2⟩:=z9z f k
  unfold argBest
  by_cases c:f (k+1) > f (argBest (fun i j=>decide (f i > f j)) k)
  ·rw[if_pos (decide_eq_true c)]
   refine⟨bE _,fun i hi=>?_⟩
   by_cases e:i=k+1
   ·rw[e];exact eJ _
   ·have:=h2 i (by omega)
    omega
  ·rw[if_neg (by rw[decide_eq_false c];exact bJ)]
   refine⟨by omega,fun i hi=>?_⟩
   by_cases e:i=k+1
   ·rw[e];omega
   ·exact h2 i (by omega)
theorem z9x(f:Nat->Int):∀k,argBest (fun i j=>decide (f i<f j)) k≤k/\∀i,i≤k->f (argBest (fun i j=>decide (f i<f j)) k)≤f i
 | 0=>⟨bE _,fun i hi=>by rw[Nat.le_zero.mp hi];exact eJ _⟩
 | k+1=>by
  obtain⟨h1,h2⟩:=z9x f k
  unfold argBest
  by_cases c:f (k+1)<f (argBest (fun i j=>decide (f i<f j)) k)
  ·rw[if_pos (decide_eq_true c)]
   refine⟨bE _,fun i hi=>?_⟩
   by_cases e:i=k+1
   ·rw[e];exact eJ _
   ·have:=h2 i (by omega)
    omega
  ·rw[if_neg (by rw[decide_eq_false c];exact bJ)]
   refine⟨by omega,fun i hi=>?_⟩
   by_cases e:i=k+1
   ·rw[e];omega
   ·exact h2 i (by omega)
section
variable{X:Cx}
def SqI(K:PySem.W.Frag)(H:Hp)(p:Addr)(ns:List Int):Prop:=SqL K H p (ns.map V.int)\/SqT K H p (ns.map V.int)
theorem z3e{ns:List Int}{its:List Value}(r:Vals (ns.map V.int) its):∀(i:Nat) (v:Value),its.toArray[i]? = some v->∃t,v=.int (ns.getD i 0) t:=by
 intro i v e
 have e':its[i]? = some v:=by simpa using e
 have hi:i<its.length:=(bW.mp e').1
 have hl:=r.length
 rw[b7] at hl
 obtain⟨u,hu,ru⟩:=r.get (i:=i) (x:=.int (ns.getD i 0)) (by
  rw[bB,bL]
  have:ns[i]? = some ns[i]:=bC (by omega)
  rw[this];rfl)
 rw[e'] at hu
 cases hu
 exact ru
theorem z5W{pins:List (Addr×Obj)}{σ:St}{H:Hp}{s:Shared}{p:Addr}{ns:List Int}{A:Around}{E:Value->Shared->Prop}{Q:Value->Shared->Prop}(I:Inv X pins σ H s)(hh:A.handled=none)(hq:SqI X.K H p ns)
  (h:∀(it:Addr) (fp:List Addr) (St:Nat->Heap->Prop) (its:List Value) (s2:Shared),Vals (ns.map V.int) its->Walks X.prog X.w A it fp [it] its.toArray.size (fun i v=>its.toArray[i]? = some v) St->St 0 s2.heap->(∀b∈fp,b<s2.heap.objs.size)->
   (∀h' tk,(∀b o,b∉[it]->s2.heap.get? b=some o->h'.get? b=some o)->Inv X pins σ H { s2 with heap:=h',toks:=tk })->Q (.ref it) s2) :
  wpAny (model X.prog X.w) A (pyIter (.ref p)) Q E s:=by
 have back:∀(o:Obj) (h':Heap) (tk:Nat),(∀b ob,b∉[s.heap.objs.size]->(s.heap.push o).get? b=some ob->h'.get? b=some ob)->Inv X pins σ H { s with heap:=h',toks:=tk }:=fun o h' tk k=>
  I.kept fun b ob e=>k b ob (fun z=>absurd (bP e) (by rw[b8.mp z];exact dP _)) (b9 _ e)
 rcases hq with hq|hq
 ·obtain⟨its,r,pl,hz⟩:=I.list hq
  have hlt:p<s.heap.objs.size:=by obtain⟨_,e,_⟩:=pl.isList;exact bP e
  refine wpAny_pyIter_list pl.isList ?_
  refine h s.heap.objs.size [s.heap.objs.size,p] _ its _ r (Walks.list hh s.heap.objs.size p (cK hlt) its.toArray) ⟨⟨_,bM _ rfl,rfl,rfl⟩,pl.isList.push _⟩ (fun b hb=>?_) fun h' tk k=>back _ h' tk k
  show b<(s.heap.push _).objs.size
  rw[fV]
  rcases bA.mp hb with rfl|hb
  ·exact dO _
  ·rw[b8.mp hb];exact eX hlt
 ·obtain⟨its,r,pl,hz⟩:=I.tuple hq
  have hlt:p<s.heap.objs.size:=by obtain⟨_,e,_⟩:=pl;exact bP e
  refine wpAny_pyIter_tuple (show s.heap.IsTuple p its.toArray from pl) ?_
  refine h s.heap.objs.size [s.heap.objs.size,p] _ its _ r (Walks.tuple hh s.heap.objs.size p (cK hlt) its.toArray) ⟨⟨_,bM _ rfl,rfl,rfl⟩,?_⟩ (fun b hb=>?_) fun h' tk k=>back _ h' tk k
  ·obtain⟨o,e,c⟩:=(show s.heap.IsTuple p its.toArray from pl)
   exact⟨o,b9 _ e,c⟩
  ·show b<(s.heap.push _).objs.size
   rw[fV]
   rcases bA.mp hb with rfl|hb
   ·exact dO _
   ·rw[b8.mp hb];exact eX hlt
def y5N(K:PySem.W.Frag)(le:Int->Int->Prop)(ta td:TA):TE:=fun σ H Q=>ta σ H fun xs H1=>td σ H1 fun ds H2=>∃p ns d,xs=[.ref p]/\ds=[d]/\SqI K H2 p ns/\(ns=[]->Q d H2)/\∀m,m∈ns->(∀y∈ns,le y m)->Q (.int m) H2
theorem z7q{ns:List Int}{i:Nat}(h:i<ns.length):ns.getD i 0∈ns:=by
 rw[bL,bC h]
 exact fX h
theorem z7r{ns:List Int}{y:Int}(h:y∈ns):∃i,i<ns.length/\ns.getD i 0=y:=by
 obtain⟨i,hi,e⟩:=List.mem_iff_getElem.mp h
 refine⟨i,hi,?_⟩
 rw[bL,bC hi]
 exact e
theorem y2O{e:Expr}{p pos kp:Pos}{dx:Expr}{ta td:TA}(hc:X.calm=true)(hg:Gl X "max")(hm:X.mg "max"=none)(ha:PA X [e] ta)(hd:PK X [⟨some (Str.ofString "default"),dx,kp⟩] td)
  (he:backTo pos (starEach [e] X.env)=(false,eval e X.env)::backTo pos (starEach [] X.env):=by rfl)
  (R0:(backTo pos (starEach [e] X.env)).any (·.1)=false:=by rfl)
  (B3:(backToKw pos (keywordEach [⟨some (Str.ofString "default"),dx,kp⟩] X.env)).all (·.1.isSome)=true:=by rfl)
  (hkw:(backToKw pos (keywordEach [⟨some (Str.ofString "default"),dx,kp⟩] X.env)).any (·.1.isNone)=false:=by rfl) :
  PE X (.Call (.Name "max" p) [e] [⟨some (Str.ofString "default"),dx,kp⟩] pos) (y5N X.K (fun y m=>y≤m) ta td):=by
 intro pins s σ H Q I h
 refine wpAny_Call_Name_kw (z79 I hg hm dI ?_)
 refine PyProof.Rows.callWith_kw (thn (ha pos pins s σ H _ I h) fun us s1 ⟨vs,H1,I1,r,q⟩=>?_) he R0 B3 hkw
 refine thn (hd pos pins s1 σ H1 _ I1 q) fun ws s2 ⟨zs,H2,I2,rz,q2⟩=>?_
 obtain⟨a,ns,d,e1,e2,hq,q0,q1⟩:=q2
 subst e1 e2
 obtain⟨u,rfl,ru⟩:=z4X r
 cases ru
 obtain⟨dv,rfl,rd⟩:=z4X rz
 show wpAny _ X.A (call (.builtin "max") [.ref a] [(Str.ofString "default",dv)]) _ _ _
 refine y5i (z5W (A:=X.A.in1) I2 (I2.ok.hd hc) hq fun it fp St its s3 rv W st hfp back=>?_)
 have hl:=rv.length
 rw[b7] at hl
 refine⟨it,fp,[it],_,_,St,_,rfl,W,st,hfp,CmpOf.ints_gt (fun i=>ns.getD i 0) (z3e rv),fun hn h' tk k=>?_,fun hn v h' tk hv k=>?_⟩
 ·rw[bF] at hn
  exact⟨d,H2,back h' tk k,rd,q0 (dU (by omega))⟩
 ·rw[bF] at hn hv
  obtain⟨t,rfl⟩:=z3e rv _ _ hv
  obtain⟨b1,b2⟩:=z9z (fun i=>ns.getD i 0) (its.length-1)
  refine⟨.int _,H2,back h' tk k,⟨t,rfl⟩,q1 _ (z7q (by omega)) fun y hy=>?_⟩
  obtain⟨i,hi,rfl⟩:=z7r hy
  exact b2 i (by omega)
theorem y42{e:Expr}{p pos kp:Pos}{dx:Expr}{ta td:TA}(hc:X.calm=true)(hg:Gl X "min")(hm:X.mg "min"=none)(ha:PA X [e] ta)(hd:PK X [⟨some (Str.ofString "default"),dx,kp⟩] td)
  (he:backTo pos (starEach [e] X.env)=(false,eval e X.env)::backTo pos (starEach [] X.env):=by rfl)
  (R0:(backTo pos (starEach [e] X.env)).any (·.1)=false:=by rfl)
  (B3:(backToKw pos (keywordEach [⟨some (Str.ofString "default"),dx,kp⟩] X.env)).all (·.1.isSome)=true:=by rfl)
  (hkw:(backToKw pos (keywordEach [⟨some (Str.ofString "default"),dx,kp⟩] X.env)).any (·.1.isNone)=false:=by rfl) :
  PE X (.Call (.Name "min" p) [e] [⟨some (Str.ofString "default"),dx,kp⟩] pos) (y5N X.K (fun y m=>m≤y) ta td):=by
 intro pins s σ H Q I h
 refine wpAny_Call_Name_kw (z79 I hg hm eV ?_)
 refine PyProof.Rows.callWith_kw (thn (ha pos pins s σ H _ I h) fun us s1 ⟨vs,H1,I1,r,q⟩=>?_) he R0 B3 hkw
 refine thn (hd pos pins s1 σ H1 _ I1 q) fun ws s2 ⟨zs,H2,I2,rz,q2⟩=>?_
 obtain⟨a,ns,d,e1,e2,hq,q0,q1⟩:=q2
 subst e1 e2
 obtain⟨u,rfl,ru⟩:=z4X r
 cases ru
 obtain⟨dv,rfl,rd⟩:=z4X rz
 show wpAny _ X.A (call (.builtin "min") [.ref a] [(Str.ofString "default",dv)]) _ _ _
 refine y4Z (z5W (A:=X.A.in1) I2 (I2.ok.hd hc) hq fun it fp St its s3 rv W st hfp back=>?_)
 have hl:=rv.length
 rw[b7] at hl
 refine⟨it,fp,[it],_,_,St,_,rfl,W,st,hfp,CmpOf.ints_lt (fun i=>ns.getD i 0) (z3e rv),fun hn h' tk k=>?_,fun hn v h' tk hv k=>?_⟩
 ·rw[bF] at hn
  exact⟨d,H2,back h' tk k,rd,q0 (dU (by omega))⟩
 ·rw[bF] at hn hv
  obtain⟨t,rfl⟩:=z3e rv _ _ hv
  obtain⟨b1,b2⟩:=z9x (fun i=>ns.getD i 0) (its.length-1)
  refine⟨.int _,H2,back h' tk k,⟨t,rfl⟩,q1 _ (z7q (by omega)) fun y hy=>?_⟩
  obtain⟨i,hi,rfl⟩:=z7r hy
  exact b2 i (by omega)
def R8(i:Int)(n:Nat):List V:=(List.range n).map fun(k:Nat)=>V.int (i+(k:Int))
theorem y3c:z40 X (.type "range") (fun xs H Q=>∃i j,xs=[.int i,.int j]/\∀p,H p=none->Q (.ref p) (upd H p (.rng i j))):=by
 intro pins s σ H xs us Q I r h
 obtain⟨i,j,rfl,q⟩:=h
 obtain⟨u,w',rfl,⟨t,rfl⟩,⟨t',rfl⟩⟩:=y3s r
 refine call_range_2 ?_
 refine⟨.ref s.heap.objs.size,_,I.laid (fun b o e=>b9 _ e) (bE _) (show z1B X.prog X.w _ _ _ (.rng i j) from⟨t,t',s.toks,bM _ rfl⟩),rfl,q _ (I.hok.fresh (bE _))⟩
theorem z9A{prog:Program}{w:World}{A:Around}{E:Value->Shared->Prop}{s:Shared}{Q:List Value->Shared->Prop}{r:Addr}{a b c:Int}{t u v:Tok}{n:Nat}(hh:A.handled=none)(hr:IsRange s.heap r a b c t u v)(U1:Builtin.Range.small a b c=true)
  (hn:Builtin.Range.rangeSize a b c=n) (hlen:n≤2^24)
  (hQ:∀h' tk acc,(∀b o,s.heap.get? b=some o->h'.get? b=some o)->ItemsOf (fun i v=>∃t,v=.int (a+i*c) t) acc n->Q acc.toList { s with heap:=h',toks:=tk }) :
  wpAny (model prog w) A (collect (.ref r)) Q E s:=by
 unfold collect
 refine wpAny_bind (wpAny_runValue (codeAny_builtin PySem.F.entry_proto_collect ?_))
 rw[cN PySem.F.plain_proto_collect _]
 show wpAny _ A.in1 (newList [] >>= fun l=>again (.builtin "list.__iadd__" ⟨[l,.ref r],[]⟩)) _ _ s
 refine wpAny_bind (wpAny_newObj_type ?_)
 refine wpAny_pure ⟨plainId_quiet fK _,codeAny_builtin PySem.F.entry_list_iadd ?_⟩
 rw[cN fK _]
 show wpAny _ A.in1 (Builtin.List.listExtendWith (.ref s.heap.objs.size) (.ref r) (.ref s.heap.objs.size)) _ _ _
 have hS:(s.heap.push { cls:=.type "list",data:=.seq ([]:List Value).toArray }).get? s.heap.objs.size=some { cls:=.type "list",data:=.seq #[] 0 }:=bM _ rfl
 have fin:∀(r':Result) (s':Shared),(∃h' tk acc c',r'=.ok (.ret (.ref s.heap.objs.size))/\s'={ s with heap:=h',toks:=tk }/\(∀b o,s.heap.get? b=some o->h'.get? b=some o)/\
   h'.get? s.heap.objs.size=some { cls:=.type "list",dict:=none,data:=.seq acc c',slots:=#[] }/\ItemsOf (fun i v=>∃t,v=.int (a+i*c) t) acc n)->
   match r' with
   | Except.ok (Flow.ret v)=>wpAny (model prog w) A (match v with
     | Value.ref a=>do
      match (<- load a).data with
       | Data.seq xs _=>pure xs.toList
       | _=>unsupported "internal:collect"
     | _=>unsupported "internal:collect") Q E s'
   | Except.ok _=>False
   | Except.error e=>E e s':=by
  rintro r' s' ⟨h',tk,acc,c',rfl,rfl,hk,hS',hacc⟩
  show wpAny _ A (load s.heap.objs.size >>= _) _ _ _
  refine wpAny_bind (wpAny_load hS' ?_)
  exact wpAny_pure (hQ h' tk acc hk hacc)
 refine wpAny_mono (wpAny_extend_range (A:=A) (R:=fun r' s'=>∃h' tk acc c',r'=.ok (.ret (.ref s.heap.objs.size))/\s'={ s with heap:=h',toks:=tk }/\(∀b o,s.heap.get? b=some o->h'.get? b=some o)/\
   h'.get? s.heap.objs.size=some { cls:=.type "list",dict:=none,data:=.seq acc c',slots:=#[] }/\ItemsOf (fun i v=>∃t,v=.int (a+i*c) t) acc n)
  (s:={ s with heap:=s.heap.push { cls:=.type "list",data:=.seq ([]:List Value).toArray } }) hh (b9 _ hr) U1 hn hlen s.heap.objs.size _ 0 hS
  fun h' tk acc c' hk hS' hacc=>⟨h',tk,acc,c',rfl,rfl,fun b o e=>hk b o (cK (bP e)) (b9 _ e),hS',hacc⟩) (fun f s' h=>?_) (fun e s' h=>?_)
 ·cases f with
  | done f=>exact fin _ _ h
  | again c'=>exact⟨h.1,codeAny_mono h.2 fun r' s'' hr'=>fin _ _ hr'⟩
 ·obtain⟨_,_,_,_,e,_⟩:=h
  cases e
theorem z8d(r:Addr)(a b:Int)(t u v:Tok)(n:Nat)(U1:Builtin.Range.small a b 1=true)(hn:Builtin.Range.rangeSize a b 1=n)(hlen:n≤2^24) :
  Meets (Builtin.«tuple.__new__» ⟨[.type "tuple",.ref r],[]⟩)
   (fun A R s=>A.handled=none/\IsRange s.heap r a b 1 t u v/\∀(h':Heap) (tk:Nat) (acc:Array Value),(∀b o,s.heap.get? b=some o->h'.get? b=some o)->ItemsOf (fun i v=>∃t,v=.int (a+i*1) t) acc n->
    R (.ok (.ret (.ref h'.objs.size))) { s with heap:=h'.push { cls:=.type "tuple",data:=.seq acc },toks:=tk }):=
 .of_wp fun prog w A R s h=>by
  obtain⟨hp,g,d,tk0,os⟩:=s
  obtain⟨hh,hr,h⟩:=h
  have hsub:=sub_tuple_self
  have hinit:=init_tuple_lookup
  have hmh:=madeHere_tuple
  have hT:Shared.TypeIs ⟨hp,g,d,tk0,os⟩ (.ref r) "range":=⟨_,hr,rfl⟩
  have hh1:A.in1.handled=none:=hh
  wp_walk using wpAny_typeOf hT,z9A hh1 hr U1 hn hlen
  intro h' tk acc hk hacc
  show wpAny _ _ (Builtin.Tuple.tupleExact acc.toList.toArray >>= fun v=>ret v) _ _ _
  unfold Builtin.Tuple.tupleExact
  refine wpAny_bind (wpAny_newObj_type ?_ (show acc.toList.toArray.size≤sizeLine by simp only[Array.toArray_toList];rw[hacc.1,sizeLine_eq];omega))
  refine wpAny_pure ⟨_,rfl,?_⟩
  have e:acc.toList.toArray=acc:=by simp
  rw[e]
  exact h h' tk acc hk hacc
theorem y5u{a:Int}{acc:Array Value}{n:Nat}(h:ItemsOf (fun i v=>∃t,v=Value.int (a+(i:Int)*1) t) acc n):Vals (R8 a n) acc.toList:=by
 have go:∀(l:List Value) (k:Nat),(∀(j:Nat) (v:Value),l[j]? = some v->∃t,v=Value.int (a+((k+j:Nat):Int)) t)->Vals ((List.range' k l.length).map fun(j:Nat)=>V.int (a+(j:Int))) l:=by
  intro l
  induction l with
  | nil=>intro k _;exact .nil
  | cons x r ih=>
   intro k hx
   rw[cH,List.range'_succ,cP]
   refine .cons ?_ (ih (k+1) fun j v e=>?_)
   ·obtain⟨t,e⟩:=hx 0 x rfl
    exact⟨t,e⟩
   ·obtain⟨t,e'⟩:=hx (j+1) v (by simpa using e)
    refine⟨t,e'.trans ?_⟩
    congr 1
    omega
 have q:=go acc.toList 0 fun j v e=>by
  obtain⟨t,e'⟩:=h.2 j v (by simpa using e)
  exact⟨t,by rw[e'];congr 1;first|done|omega⟩
 unfold R8
 rw[List.range_eq_range']
 have hn:acc.toList.length=n:=by simpa using h.1
 rw[hn] at q
 exact q
theorem z8A(hc:X.calm=true):z40 X (.type "tuple") (fun xs H Q=>∃p i j,xs=[.ref p]/\H p=some (.rng i j)/\(-(2^62)≤i/\i<2^62/\-(2^62)≤j/\j<2^62)/\(j-i).toNat≤2^24/\
  ∀l,H l=none->Q (.ref l) (upd H l (.tup (R8 i (j-i).toNat)))):=by
 intro pins s σ H xs us Q I r h
 obtain⟨p,i,j,rfl,hp,⟨h1,h2,h3,h4⟩,hlen,q⟩:=h
 obtain⟨u,rfl,rx⟩:=z4X r
 cases rx
 obtain⟨t,u',v,e⟩:=(show z1B X.prog X.w H s.heap p (.rng i j) from I.hok p _ hp)
 have hn:Builtin.Range.rangeSize i j 1=(((j-i).toNat:Nat):Int):=by rw[rangeSize_one];split<;>omega
 refine callType_new PySem.F.called_tuple (by decide) (PySem.F.typeCall_tuple_1 _) (PySem.F.newCall_tuple_1 _) (fun obj=>PySem.F.args_object_init_2 obj _) PySem.F.entry_tuple_new
  (z8d p i j t u' v _ (small_one h1 h2 h3 h4) hn hlen) ⟨I.ok.hd hc,e,fun h' tk acc hk hacc=>⟨⟨_,bM _ rfl,rfl⟩,?_⟩⟩
 have I1:Inv X pins σ H { s with heap:=h',toks:=tk }:=I.kept hk
 have z:(R8 i (j-i).toNat).length≤sizeLine:=by unfold R8;rw[b7,h8,sizeLine_eq];omega
 have I2:Inv X pins σ (upd H h'.objs.size (.tup (R8 i (j-i).toNat))) { s with heap:=h'.push { cls:=.type "tuple",data:=.seq acc },toks:=tk }:=
  I1.laid (t':=tk) (fun b o e=>b9 _ e) (bE _) (show z1B X.prog X.w _ _ _ (.tup _) from⟨z,acc.toList,y5u hacc,by simpa using PlT.new h' acc⟩)
 exact⟨.ref h'.objs.size,_,I2,rfl,q _ (I1.hok.fresh (bE _))⟩
theorem Vals.ins{x:V}{u:Value}(r:RelV x u){xs:List V}{us:List Value}(h:Vals xs us)(k:Nat):Vals (xs.take k++x::xs.drop k) (us.take k++u::us.drop k):=
 (h.take k).append (.cons r (h.drop k))
def y6q:V->List V->Hp->VK->Prop:=fun x vs H Q=>∃l xs i y,x=.ref l/\vs=[.int i,y]/\H l=some (.lst xs)/\0≤i/\i≤xs.length/\xs.length<sizeLine/\Q .non (upd H l (.lst (xs.take i.toNat++y::xs.drop i.toNat)))
theorem y0y:MtM X "list.insert" y6q:=by
 intro pins s σ H x vs v us Q I rx rv h
 obtain⟨l,xs,i,y,rfl,rfl,hH,h0,h1,hz,q⟩:=h
 cases rx
 obtain⟨u,w',rfl,⟨t,rfl⟩,ry⟩:=rv.two
 obtain⟨z,its,n,r,hl,e⟩:=I.W3 hH
 have hn:=z7h
 have hs:sizeLine=16777216:=sizeLine_eq
 have fit:¬(!Builtin.List.listFitsIndex i)=true:=by
  rw[fitsIndex_both (by omega) (by omega)]
  decide
 refine call_meets gP ⟨_,e,rfl⟩ PySem.F.entry_list_insert (PySem.F.args_list_insert_3 _ _ _) (AutoSeq1.list_insert_list_int_val_1 l its.toArray n i t w' fit (by rw[bF];omega)) ⟨e,?_⟩
 refine⟨.non,_,I.Z0 (its':=its.take i.toNat++w'::its.drop i.toNat) hH e ?_ (Vals.ins ry r i.toNat) ?_,rfl,q⟩
 ·have e1:(if i<0 then (i+(its.toArray.size:Int)).toNat else min i.toNat its.toArray.size)=i.toNat:=by
   rw[if_neg (by omega),bF,gJ (by omega)]
  show((its.toArray.extract 0 (if i<0 then (i+(its.toArray.size:Int)).toNat else min i.toNat its.toArray.size)).push w'++its.toArray.extract (if i<0 then (i+(its.toArray.size:Int)).toNat else min i.toNat its.toArray.size))=_
  rw[e1]
  apply Array.toList_inj.mp
  simp
  rw[cL (by rw[d6];omega)]
 ·rw[bG,cH,bH,d6]
  omega
theorem z8s:z40 X (.builtin "sorted") (fun xs H Q=>∃(p:Addr) (ns:List Int),xs=[.ref p]/\SqL X.K H p (ns.map V.int)/\ns.length<64/\
  ∀(l:Addr) (ns':List Int),H l=none->ns'.Perm ns->ns'.Pairwise (·≤·)->Q (.ref l) (upd H l (.lst (ns'.map V.int)))):=by
 intro pins s σ H xs us Q I r h
 obtain⟨p,ns,rfl,hq,h64,q⟩:=h
 obtain⟨u,rfl,rx⟩:=z4X r
 cases rx
 obtain⟨its,rv,pl,hz⟩:=I.list hq
 have hl:=rv.length
 rw[b7] at hl hz
 refine sorted_ints pl.isList (y2g rv) (by omega) fun out ns' a1 a2 a3=>?_
 obtain⟨e,he⟩:=sortedAll_at s.heap its out
 have hlen:=a2.length_eq
 refine⟨.ref (s.heap.objs.size+1),_,I.laid (t':=s.toks) (fun b o e=>sortedAll_old e) (gB _) (show z1B X.prog X.w _ _ _ (.lst (ns'.map V.int)) from⟨?_,out.toList,e,z5T a1,?_⟩),rfl,q _ ns' (I.hok.fresh (gB _)) a2 a3⟩
 ·rw[b7,hlen];exact hz
 ·simpa using he
end
section
variable{X:Cx}{tg:Expr}
end
abbrev y08(J:It)(g:TG)(tc:TT)(te:TE)(σ0:St)(H1:Hp)(F:List V->Hp->Prop):Prop:=
 ∃W:Nat->Nat->List V->Hp->Prop,(∃m,W 0 m [] H1)/\∀i m ys H,W i m ys H->
  (J.stop i H/\F ys H)\/(J.go i H/\ys.length<sizeLine/\∃N:List V->Hp->Prop,(∀zs H',N zs H'->∃m',m'<m/\W (i+1) m' zs H')/\
   ∀x H',J.yld i H x H'->z1C g tc te σ0 x H' ys N)
theorem z3D{K:PySem.W.Frag}{a:Addr}{xs:List V}{g:TG}{tc:TT}{te:TE}{σ0:St}{H1:Hp}{F:List V->Hp->Prop}(Pv:Nat->List V->Hp->Prop)(h0:Pv 0 [] H1)
  (hl:∀i ys H,i≤xs.length->Pv i ys H->SqL K H a xs/\ys.length<sizeLine)
  (hs:∀i x ys H,xs[i]? = some x->Pv i ys H->z1C g tc te σ0 x H ys (Pv (i+1))) (hd:∀ys H,Pv xs.length ys H->F ys H):y08 (Itl K a) g tc te σ0 H1 F:=by
 refine⟨fun i m ys H=>m=xs.length-i/\i≤xs.length/\Pv i ys H,⟨xs.length,by simp,cV _,h0⟩,?_⟩
 rintro i m ys H ⟨rfl,hi,p⟩
 obtain⟨q,z⟩:=hl i ys H hi p
 by_cases hlt:i<xs.length
 ·refine .inr ⟨⟨xs,xs[i],q,by simp[hlt]⟩,z,Pv (i+1),fun zs H' p'=>⟨xs.length-(i+1),by omega,rfl,hlt,p'⟩,fun x H' y=>?_⟩
  obtain⟨e,y⟩:=y
  subst e
  exact hs i x ys _ (y xs q) p
 ·have e:i=xs.length:=by omega
  subst e
  exact .inl ⟨⟨xs,q,bE _⟩,hd ys H p⟩
theorem z1J{K:PySem.W.Frag}{a:Addr}{xs:List V}{g:TG}{tc:TT}{te:TE}{σ0:St}{H1:Hp}{F:List V->Hp->Prop}(Pv:Nat->List V->Hp->Prop)(h0:Pv 0 [] H1)
  (hl:∀i ys H,i≤xs.length->Pv i ys H->SqT K H a xs/\ys.length<sizeLine)
  (hs:∀i x ys H,xs[i]? = some x->Pv i ys H->z1C g tc te σ0 x H ys (Pv (i+1))) (hd:∀ys H,Pv xs.length ys H->F ys H):y08 (Itt K a) g tc te σ0 H1 F:=by
 refine⟨fun i m ys H=>m=xs.length-i/\i≤xs.length/\Pv i ys H,⟨xs.length,by simp,cV _,h0⟩,?_⟩
 rintro i m ys H ⟨rfl,hi,p⟩
 obtain⟨q,z⟩:=hl i ys H hi p
 by_cases hlt:i<xs.length
 ·refine .inr ⟨⟨xs,xs[i],q,by simp[hlt]⟩,z,Pv (i+1),fun zs H' p'=>⟨xs.length-(i+1),by omega,rfl,hlt,p'⟩,fun x H' y=>?_⟩
  obtain⟨e,y⟩:=y
  subst e
  exact hs i x ys _ (y xs q) p
 ·have e:i=xs.length:=by omega
  subst e
  exact .inl ⟨⟨xs,q,bE _⟩,hd ys H p⟩
theorem z8T{lo:Int}{n:Nat}{g:TG}{tc:TT}{te:TE}{σ0:St}{H1:Hp}{F:List V->Hp->Prop}(Pv:Nat->List V->Hp->Prop)(h0:Pv 0 [] H1)
  (hl:∀i ys H,i≤n->Pv i ys H->ys.length<sizeLine)
  (hs:∀i ys H,i<n->Pv i ys H->z1C g tc te σ0 (.int (lo+i)) H ys (Pv (i+1))) (hd:∀ys H,Pv n ys H->F ys H):y08 (Itr lo n) g tc te σ0 H1 F:=by
 refine⟨fun i m ys H=>m=n-i/\i≤n/\Pv i ys H,⟨n,by simp,cV _,h0⟩,?_⟩
 rintro i m ys H ⟨rfl,hi,p⟩
 have z:=hl i ys H hi p
 by_cases hlt:i<n
 ·refine .inr ⟨hlt,z,Pv (i+1),fun zs H' p'=>⟨n-(i+1),by omega,rfl,hlt,p'⟩,fun x H' y=>?_⟩
  obtain⟨e,y⟩:=y
  subst e y
  exact hs i ys _ hlt p
 ·have e:i=n:=by omega
  subst e
  exact .inl ⟨bE _,hd ys H p⟩
def z1U{α:Type}(p:α->Bool)(f:α->V)(zs:List α):List V:=(zs.filter p).map f
theorem z6M{α:Type}(p:α->Bool)(f:α->V)(zs:List α)(z:α):z1U p f (zs++[z])=if p z=true then z1U p f zs++[f z] else z1U p f zs:=by
 unfold z1U
 rw[dW,bD]
 cases h:p z<;>simp[h]
theorem z9t{α:Type}(p:α->Bool)(f:α->V)(zs:List α):(z1U p f zs).length≤zs.length:=by
 unfold z1U
 rw[b7]
 exact cJ _ _
theorem z0n{α:Type}{zs:List α}{i:Nat}{z:α}(h:zs[i]? = some z):zs.take (i+1)=zs.take i++[z]:=by
 rw[eY,h]
 rfl
theorem z8i{K:PySem.W.Frag}{a:Addr}{ns:List Int}{g:TG}{tc:TT}{te:TE}{σ0:St}{H1:Hp}{F:List V->Hp->Prop}(p:Int->Bool)(f:Int->V)(hq:SqL K H1 a (ns.map V.int))(hz:ns.length≤1000)
  (hs:∀n ys N,n∈ns->N (if p n=true then ys++[f n] else ys) H1->z1C g tc te σ0 (.int n) H1 ys N) (hd:F (z1U p f ns) H1):y08 (Itl K a) g tc te σ0 H1 F:=by
 refine z3D (xs:=ns.map V.int) (fun i ys H=>H=H1/\ys=z1U p f (ns.take i)) ⟨rfl,rfl⟩ (fun i ys H hi hp=>?_) (fun i x ys H hx hp=>?_) (fun ys H hp=>?_)
 ·obtain⟨rfl,rfl⟩:=hp
  refine⟨hq,z0e ?_⟩
  have h1:=z9t p f (ns.take i)
  have h2:=gH i ns
  have h3:(ns.take i).length≤ns.length:=by rw[bH];omega
  omega
 ·obtain⟨rfl,rfl⟩:=hp
  rw[bB] at hx
  cases e:ns[i]? with
  | none=>rw[e] at hx;cases hx
  | some n=>
   rw[e] at hx
   cases hx
   refine hs n _ _ (bO e) ⟨rfl,?_⟩
   rw[z0n e,z6M]
 ·obtain⟨rfl,rfl⟩:=hp
  rw[b7,bT]
  exact hd
theorem z6p{K:PySem.W.Frag}{a:Addr}{ns:List Int}{g:TG}{tc:TT}{te:TE}{σ0:St}{H1:Hp}{F:List V->Hp->Prop}(p:Int->Bool)(f:Int->V)(hq:SqT K H1 a (ns.map V.int))(hz:ns.length≤1000)
  (hs:∀n ys N,n∈ns->N (if p n=true then ys++[f n] else ys) H1->z1C g tc te σ0 (.int n) H1 ys N) (hd:F (z1U p f ns) H1):y08 (Itt K a) g tc te σ0 H1 F:=by
 refine z1J (xs:=ns.map V.int) (fun i ys H=>H=H1/\ys=z1U p f (ns.take i)) ⟨rfl,rfl⟩ (fun i ys H hi hp=>?_) (fun i x ys H hx hp=>?_) (fun ys H hp=>?_)
 ·obtain⟨rfl,rfl⟩:=hp
  refine⟨hq,z0e ?_⟩
  have h1:=z9t p f (ns.take i)
  have h3:(ns.take i).length≤ns.length:=by rw[bH];omega
  omega
 ·obtain⟨rfl,rfl⟩:=hp
  rw[bB] at hx
  cases e:ns[i]? with
  | none=>rw[e] at hx;cases hx
  | some n=>
   rw[e] at hx
   cases hx
   refine hs n _ _ (bO e) ⟨rfl,?_⟩
   rw[z0n e,z6M]
 ·obtain⟨rfl,rfl⟩:=hp
  rw[b7,bT]
  exact hd
def upI(lo:Int)(n:Nat):List Int:=(List.range n).map fun(k:Nat)=>lo+(k:Int)
theorem z62(lo:Int)(n:Nat):upI lo (n+1)=upI lo n++[lo+(n:Int)]:=by
 unfold upI
 rw[List.range_succ,bD]
 rfl
theorem z0M(lo:Int)(n:Nat):(upI lo n).length=n:=by unfold upI;rw[b7,h8]
theorem z13{lo:Int}{n:Nat}{x:Int}:x∈upI lo n↔lo≤x/\x<lo+n:=by
 unfold upI
 rw[cO]
 constructor
 ·rintro⟨k,hk,rfl⟩
  have:=fB.mp hk
  omega
 ·rintro⟨h1,h2⟩
  exact⟨(x-lo).toNat,fB.mpr (by omega),by omega⟩
theorem z7P{lo:Int}{n:Nat}{g:TG}{tc:TT}{te:TE}{σ0:St}{H1:Hp}{F:List V->Hp->Prop}(p:Int->Bool)(f:Int->V)(hz:n≤1000)
  (hs:∀k ys N,lo≤k->k<lo+n->N (if p k=true then ys++[f k] else ys) H1->z1C g tc te σ0 (.int k) H1 ys N) (hd:F (z1U p f (upI lo n)) H1):y08 (Itr lo n) g tc te σ0 H1 F:=by
 refine z8T (fun i ys H=>H=H1/\ys=z1U p f (upI lo i)) ⟨rfl,rfl⟩ (fun i ys H hi hp=>?_) (fun i ys H hx hp=>?_) (fun ys H hp=>?_)
 ·obtain⟨rfl,rfl⟩:=hp
  have h1:=z9t p f (upI lo i)
  rw[z0M] at h1
  exact z0e (by omega)
 ·obtain⟨rfl,rfl⟩:=hp
  refine hs _ _ _ (by omega) (by omega) ⟨rfl,?_⟩
  rw[z62,z6M]
 ·obtain⟨rfl,rfl⟩:=hp
  exact hd
section
variable{X:Cx}
theorem z53{α β:Type}{f g:α->Option β}:∀{l:List α},(∀x∈l,f x=g x)->l.filterMap f=l.filterMap g
 | [],_=>rfl
 | x::r,h=>by
  rw[dR,dR,h x bU,z53 fun y hy=>h y (bS _ hy)]
theorem y4K(its:List Value):slicePick its.toArray none none (some (-1))=its.reverse.toArray:=by
 have e1:sliceRange ((its.length:Int)-1) (-1) (-1)=(List.range its.length).map fun(k:Nat)=>its.length-1-k:=by
  unfold sliceRange
  have ec:(if (-1:Int) > 0 then (if ((its.length:Int)-1)<(-1) then ((-1)-((its.length:Int)-1)+(-1)-1) / (-1) else 0) else (if ((its.length:Int)-1) > (-1) then (((its.length:Int)-1)-(-1)-(-1)-1) / (-(-1)) else 0)).toNat=its.length:=by
   rw[if_neg (by decide)]
   by_cases h:((its.length:Int)-1) > (-1)
   ·rw[if_pos h]
    have e:(((its.length:Int)-1)-(-1)-(-1)-1) / (-(-1))=(its.length:Int):=by
     show(((its.length:Int)-1)-(-1)-(-1)-1) / 1=_
     rw[Int.ediv_one]
     omega
    rw[e]
    omega
   ·rw[if_neg h]
    omega
  dsimp only
  rw[ec]
  apply dZ
  intro k hk
  have:=fB.mp hk
  omega
 have e2:((List.range its.length).map fun(k:Nat)=>its.length-1-k).filterMap (fun i=>its.toArray[i]?)=its.reverse:=by
  rw[jK]
  have e3:(List.range its.length).filterMap ((fun i=>its.toArray[i]?) ∘ fun(k:Nat)=>its.length-1-k)=(List.range its.length).filterMap (fun k=>its.reverse[k]?):=by
   apply z53
   intro k hk
   have:=fB.mp hk
   show its.toArray[its.length-1-k]? = its.reverse[k]?
   rw[j5 this]
   simp
  rw[e3]
  have e4:∀(l:List Value),(List.range l.length).filterMap (fun k=>l[k]?)=l:=by
   intro l
   induction l with
   | nil=>rfl
   | cons x r ih=>
    rw[cH,List.range_succ_eq_map,dR]
    show x::_=_
    rw[jK]
    exact congrArg (x::·) ih
  have e5:=e4 its.reverse
  rw[dS] at e5
  exact e5
 unfold slicePick sliceBounds
 simp only[bF,Option.getD_some]
 rw[if_neg (by decide),if_neg (by decide),e1,e2]
def tRev(K:PySem.W.Frag)(te ts:TE):TE:=fun σ H Q=>te σ H fun x H1=>ts σ H1 fun st H2=>∃a xs,x=.ref a/\st=.int (-1)/\SqL K H2 a xs/\∀p,H2 p=none->Q (.ref p) (upd H2 p (.lst xs.reverse))
theorem y7K{e st:Expr}{te ts:TE}{p2 pos:Pos}(he:PE X e te)(hs:PE X st ts):PE X (.Subscript e (.Slice none none (some st) p2) pos) (tRev X.K te ts):=by
 intro pins s σ H Q I h
 refine Subscript_ (thn (he pins s σ H _ I h) fun v s1 ⟨x,H1,I1,r1,q1⟩=>?_)
 refine wpAny_Slice ?_
 rw[evalPart_none]
 refine wpAny_pure ?_
 refine wpAny_pure ?_
 rw[evalPart_some]
 refine thn (hs pins s1 σ H1 _ I1 q1) fun u s2 ⟨y,H2,I2,r2,q2⟩=>?_
 obtain⟨a,xs,rfl,rfl,hx,q⟩:=q2
 cases r1
 obtain⟨t,rfl⟩:=r2
 have I3:Inv X pins σ H2 { s2 with heap:=s2.heap.push { cls:=.type "slice",data:=.fields #[.none,.none,.int (-1) t] } }:=I2.kept (t':=s2.toks) fun b ob q=>b9 _ q
 obtain⟨its,r,ht,hz⟩:=I3.list hx
 have hlen:=r.length
 show wpAny (model X.prog X.w) X.A (subscriptTail e (.Slice none none (some st) p2) (.ref a) (.ref s2.heap.objs.size)) (EP X pins σ Q) X.xe { s2 with heap:=s2.heap.push { cls:=.type "slice",data:=.fields #[.none,.none,.int (-1) t] } }
 refine tail_any (ops:=[.ref a,.ref s2.heap.objs.size]) ht.isList.typeIs slot_list_getitem.lookup ?_ (by with_unfolding_all rfl)
 refine wpAny_getItem_list_slice ht.isList (Heap.IsSliceOf.new ..) .none .none (.int (-1) t) (by decide) ?_ (by rw[bF]<;>omega)
 rw[y4K]
 refine⟨.ref _,_,I3.laid (t':=s2.toks) (o:=.lst xs.reverse) (fun b ob q=>b9 _ q) (bE _) ?_,rfl,q _ (I3.hok.fresh (bE _))⟩
 exact⟨by rw[dS];exact hz,_,0,r.reverse,bM _ rfl⟩
theorem z0J:z40 X (.builtin "isinstance") (fun xs H Q=>∃x T t b,xs=[x,.ty T]/\O5 X.K H x t/\PySem.W.kitOne X.K t (.type T)=some b/\Q (.bl b) H):=by
 intro pins s σ H xs us Q I r h
 obtain⟨x,T,t,b,rfl,ty,e,q⟩:=h
 obtain⟨u,w',rfl,rx,ry⟩:=y3s r
 cases (show w'=Value.type T from ry)
 exact y3g I rx ty e fun tk=>⟨.bl b,H,I.tok _,rfl,q⟩
theorem y7g(hu:X.A.units<cLine):OpR X (compareOp .NotEq) (fun x y H Q=>∃a b xs,x=.ref a/\y=.ref b/\SqL X.K H a xs/\SqL X.K H b []/\Q (.bl (!xs.isEmpty)) H):=by
 intro pins s σ H x y v u Q I rx ry h
 obtain⟨a,b,xs,rfl,rfl,ha,hb,q⟩:=h
 cases rx
 cases ry
 obtain⟨its,r,pl,hz⟩:=I.list ha
 obtain⟨L0,r2,pl2,hz2⟩:=I.list hb
 cases r2
 have hl:=r.length
 cases xs with
 | nil=>
  cases r
  exact SeqAt.RcNeAt.lists (e:=fun _=>true) pl.isList pl2.isList rfl hu (fun j h1 _=>absurd h1 (gK _)) X.prog X.w X.xe _ ⟨.bl false,H,I,rfl,q⟩
 | cons x0 xr=>
  refine SeqAt.RcNeAt.lists_lengths pl.isList pl2.isList ?_ hu X.prog X.w X.xe _ ⟨.bl true,H,I,rfl,q⟩
  rw[bF,<- hl]
  rfl
end
def y1p(N:List Str)(kind:Str->Option NameKind)(rl:List (Str×NameKind)):List Str->List Nat->Bool
 | x::xs,i::is=>decide (N[i]? = some x) && (decide (kind x=some .cell) || decide (kind x=some .free)) && (decide (rl.lookup x=some .cell) || decide (rl.lookup x=some .free)) && y1p N kind rl xs is
 | _,_=>true
theorem y5T{N:List Str}{kind:Str->Option NameKind}{rl:List (Str×NameKind)}:∀{E3:List Str}{ix:List Nat},y1p N kind rl E3 ix=true->∀(j i:Nat) (x:Str),E3[j]? = some x->ix[j]? = some i->
  N[i]? = some x/\(kind x=some .cell\/kind x=some .free)/\(rl.lookup x=some .cell\/rl.lookup x=some .free)
 | [],_,_,j,i,x,e,_=>by simp at e
 | _::_,[],_,j,i,x,_,e=>by simp at e
 | y::ys,k::ks,h,j,i,x,e1,e2=>by
  unfold y1p at h
  rw[bY,bY,bY,Bool.or_eq_true,Bool.or_eq_true] at h
  obtain⟨⟨⟨h1,h2⟩,h3⟩,h4⟩:=h
  cases j with
  | zero=>
   simp at e1 e2
   subst e1 e2
   exact⟨of_decide_eq_true h1,h2.imp of_decide_eq_true of_decide_eq_true,h3.imp of_decide_eq_true of_decide_eq_true⟩
  | succ j=>exact y5T h4 j i x (by simpa using e1) (by simpa using e2)
theorem z0v{X:Cx}{scope:Scope}{cl:List (Str×Addr)}{own E3:List Str}{ix:List Nat}(U3:z7S X.env.cells scope.names []=some cl)(cell:∀y∈scope.names,y.2≠.cell)(kind:scope.kind=.function)
  (names:∀y∈scope.names,y.2=.local->scope.names.lookup y.1=some .local) (n:E3.length=ix.length) (cap:y1p X.N X.env.kindOf (relabel scope X.env).names E3 ix=true):F6 X scope cl own E3 ix:=
 ⟨U3,cell,kind,names,n,fun j i x e1 e2=>by
  obtain⟨a,b,c⟩:=y5T cap j i x e1 e2
  refine⟨a,fun z=>?_,b.elim (fun q=>.inr (.inl q)) (fun q=>.inr (.inr q)),c⟩
  rcases b with b|b<;>(rw[b] at z;cases z)⟩
theorem z9r{X:Cx}{K:PySem.W.Frag}{es:List Expr}{k:Nat}{t:TGs}{n:Nat}{pos:Pos}(hK:X.K=K)(hc:X.calm=true)(h:PGs X es t)
  (hn:(assignEach es X.env).length=n:=by rfl) (hst:(assignEach es X.env).findIdx? (·.1)=none:=by rfl):PG X (.Tuple es k pos) (X8 K n t):=by
 subst hK
 exact y5J hc h hn hst
structure Cal(P:Program)(w:World)(K:PySem.W.Frag)(mg:Str->Option Value)(base:Heap)(k:Nat)(x:Str)(ps:List Str)(sp:Sp):Prop where
 ex:∃(f:Addr) (fd:FuncData),A7 P w K mg base CX0 k f fd ps sp/\z21 K fd ps []/\PySem.W.keepIn K (.ref f)=true/\mg x=some (.ref f)
theorem Cal.mk'{P:Program}{w:World}{K:PySem.W.Frag}{mg:Str->Option Value}{base:Heap}{k:Nat}{x:Str}{ps:List Str}{sp:Sp}{f:Addr}{fd:FuncData}(a:A7 P w K mg base CX0 k f fd ps sp)(b:z21 K fd ps [])(c:PySem.W.keepIn K (.ref f)=true)(d:mg x=some (.ref f)) :
  Cal P w K mg base k x ps sp:=⟨⟨f,fd,a,b,c,d⟩⟩
theorem z0i{X:Cx}{k:Nat}{x:Str}{ps:List Str}{sp:Sp}{e:Expr}{es:List Expr}{t:TA}{p pos:Pos}(G:Cal X.prog X.w X.K X.mg X.base k x ps sp)(hr:D4 k X.A)(hg:Gl X x)(ha:PA X (e::es) t)
  (hdb:(x == ("__debug__":Str))=false:=by decide) (he:starEach (e::es) X.env=(false,eval e X.env)::starEach es X.env:=by rfl) (hpl:(backTo pos (starEach es X.env)).any (·.1)=false:=by rfl) :
  PE X (.Call (.Name x p) (e::es) [] pos) (y6W sp [] E0 t):=by
 obtain⟨f,fd,a,b,c,d⟩:=G.ex
 exact y38 a hr hg d c b .nil y28 ha hdb he hpl
def O3(z:Str)(lo hi:Option Int):Str:=⟨((z.cps.toList.drop (HT.sIx z.length 0 lo)).take (HT.sIx z.length z.length hi-HT.sIx z.length 0 lo)).toArray⟩
theorem z9C{x y:Str}(h:x.cps.toList=y.cps.toList):x=y:=by
 obtain⟨a⟩:=x
 obtain⟨b⟩:=y
 exact congrArg Str.mk (Array.toList_inj.mp h)
theorem z1G(z:Str):z.cps.toList.length=z.length:=by simp[Str.length]
theorem y0J(lo hi:Option Int)(n:Nat):Builtin.Str.strSliceIndices lo hi 1 n=(List.range (HT.sIx n n hi-HT.sIx n 0 lo)).map (fun k=>HT.sIx n 0 lo+k):=by
 obtain⟨h1,h2,h3⟩:=z6U lo hi n
 have e:Builtin.Str.strSliceIndices lo hi 1 n=sliceRange (sliceBounds lo hi none n).1 (sliceBounds lo hi none n).2.1 1:=by
  unfold Builtin.Str.strSliceIndices sliceBounds
  cases lo<;>cases hi<;>rfl
 rw[e,h1,h2,sliceRange_one]
theorem y53{z:Str}{t:Tok}{l u:Option (Int×Tok)}{Q:Value->Shared->Prop}{s:Shared}(hz:z.length≤sizeLine)(h:∀t' tk,Q (.str (O3 z (l.map (·.1)) (u.map (·.1))) t') { s with toks:=tk }):(sliceMade z t l u none).post Q s:=by
 have picked:slicePicked z l u none=(List.range (HT.sIx z.length z.length (u.map (·.1))-HT.sIx z.length 0 (l.map (·.1)))).map (fun k=>HT.sIx z.length 0 (l.map (·.1))+k):=y0J _ _ _
 have items:(slicePicked z l u none).filterMap (z.cps[·]?)=(O3 z (l.map (·.1)) (u.map (·.1))).cps.toList:=by
  rw[picked,pick_run]
  rfl
 have lh:=HT.y5L z.length z.length (bE _) (u.map (·.1))
 unfold sliceMade
 by_cases c:(((none:Option (Int×Tok)).map (·.1)).getD 1 == 1 && (slicePicked z l u none).length == z.length)=true
 ·rw[if_pos c]
  rw[bY] at c
  have c2:(slicePicked z l u none).length=z.length:=eq_of_beq c.2
  rw[picked,b7,h8] at c2
  have e:O3 z (l.map (·.1)) (u.map (·.1))=z:=by
   apply z9C
   show(z.cps.toList.drop _).take _=_
   by_cases hz0:z.length=0
   ·have:z.cps.toList=[]:=dU (by rw[z1G];exact hz0)
    rw[this]
    simp
   ·have e1:HT.sIx z.length 0 (l.map (·.1))=0:=by omega
    rw[e1,fE,cL]
    rw[z1G]
    omega
  have:=h t s.toks
  rw[e] at this
  exact this
 ·rw[if_neg c,items]
  refine⟨?_,?_⟩
  ·show(((O3 z (l.map (·.1)) (u.map (·.1))).cps.toList.toArray).size)≤sizeLine
   rw[bF]
   show((z.cps.toList.drop _).take _).length≤_
   rw[bH,d6,z1G]
   omega
  ·have:=h s.toks (s.toks+1)
   have e:(⟨(O3 z (l.map (·.1)) (u.map (·.1))).cps.toList.toArray⟩:Str)=O3 z (l.map (·.1)) (u.map (·.1)):=z9C (by simp)
   rw[e]
   exact this
section
variable{X:Cx}
theorem z7b{v:Value}{o:Option Int}(h:IsPart v o):∃p:Option (Int×Tok),v=partValue p/\p.map (·.1)=o:=by
 cases h with
 | none=>exact⟨none,rfl,rfl⟩
 | int i t=>exact⟨some (i,t),rfl,rfl⟩
def rSlS:V->Option Int->Option Int->Hp->VK->Prop:=fun x lo hi H Q=>∃z,x=.str z/\z.length≤sizeLine/\Q (.str (O3 z lo hi)) H
theorem y5U:SlR X rSlS:=by
 intro pins s σ H x v vl vu lo hi sl Q I rx hs pl pu h
 obtain⟨z,rfl,hz,q⟩:=h
 obtain⟨t,rfl⟩:=rx
 obtain⟨l,rfl,rfl⟩:=z7b pl
 obtain⟨u,rfl,rfl⟩:=z7b pu
 refine⟨"str",_,slot_str_getitem.lookup,typeIs_str s z t,?_⟩
 obtain⟨o,ho,hc,hd⟩:=hs
 refine wpAny_getItem_str_slice (l:=l) (u:=u) (st:=none) ⟨o,ho,hc,hd⟩ rfl (y53 hz fun t' tk=>?_)
 exact⟨.str _,H,I.tok _,⟨_,rfl⟩,q⟩
def X3(z:Str)(n:Nat):Str:=⟨(List.replicate n z.cps.toList).flatten.toArray⟩
theorem y1U(z:Array Nat):∀(n:Nat) (acc:Array Nat),(List.foldl (fun a b=>a++b) acc (List.replicate n z)).toList=acc.toList++(List.replicate n z.toList).flatten
 | 0,acc=>by simp
 | n+1,acc=>by
  rw[List.replicate_succ,dB,y1U z n]
  simp[List.replicate_succ]
theorem y2n:OpR X (binaryOp .Mult) (fun x y H Q=>∃z n,x=.str z/\y=.int n/\1≤n/\n≤1000/\z.length≤1000/\Q (.str (X3 z n.toNat)) H):=by
 intro pins s σ H x y v u Q I rx ry h
 obtain⟨z,n,rfl,rfl,h1,h2,hz,q⟩:=h
 obtain⟨t,rfl⟩:=rx
 obtain⟨t',rfl⟩:=ry
 have hs:sizeLine=16777216:=sizeLine_eq
 have hm:z.length*n.toNat≤1000*1000:=Nat.mul_le_mul hz (by omega)
 have fin:∀t' tk,EP X pins σ Q (.str (X3 z n.toNat) t') { s with toks:=tk }:=fun t' tk=>⟨.str _,H,I.tok _,⟨_,rfl⟩,q⟩
 refine PySem.P.mul_str ?_ (fun _ _=>?_) (fun _ _=>?_) ?_
 ·rw[decide_eq_false (show ¬n < -(2^63:Int) by omega),decide_eq_false (show ¬n≥2^63 by omega)]
  rfl
 ·have:(1000:Int)≤(2^63-1) / n:=by
   apply Int.le_ediv_of_mul_le (by omega)
   have:1000*n≤1000*1000:=Int.mul_le_mul_of_nonneg_left h2 (by decide)
   omega
  omega
 ·unfold Builtin.Str.tooLong
  exact decide_eq_false (by omega)
 ·rw[if_neg (by omega)]
  by_cases c:(n == 1 || z.length == 0)=true
  ·rw[if_pos c]
   have e:X3 z n.toNat=z:=by
    apply z9C
    show((List.replicate n.toNat z.cps.toList).flatten.toArray).toList=_
    rw[Bool.or_eq_true] at c
    rcases c with c|c
    ·have:n=1:=eq_of_beq c
     subst this
     simp
    ·have:z.length=0:=eq_of_beq c
     have:z.cps.toList=[]:=dU (by rw[z1G];exact this)
     rw[this]
     simp
   have:=fin t s.toks
   rw[e] at this
   exact this
  ·rw[if_neg c]
   have e:(⟨(List.replicate n.toNat z.cps).foldl (·++·) #[]⟩:Str)=X3 z n.toNat:=by
    apply z9C
    show(List.foldl (fun a b=>a++b) #[] (List.replicate n.toNat z.cps)).toList=((List.replicate n.toNat z.cps.toList).flatten.toArray).toList
    rw[y1U]
    simp
   refine⟨?_,?_⟩
   ·rw[e,<- z1G]
    show((List.replicate n.toNat z.cps.toList).flatten.toArray).toList.length≤sizeLine
    have:((List.replicate n.toNat z.cps.toList).flatten.toArray).toList.length=n.toNat*z.length:=by
     simp[List.length_flatten,List.map_replicate,z1G]
     rfl
    rw[this,Nat.mul_comm]
    omega
   ·rw[e]
    exact fin _ _
end
end L2
namespace L2
open PySem
inductive DV where
 | non|bl (b:Bool)|int (i:Int)|str (x:Str)|tup (l:List DV)
mutual
def A5(H:Hp):DV->V->Prop
 | .non,x=>x=.non
 | .bl b,x=>x=.bl b
 | .int i,x=>x=.int i
 | .str s,x=>x=.str s
 | .tup ds,x=>∃a xs,x=.ref a/\H a=some (.tup xs)/\xs.length≤1000000/\z08 H ds xs
def z08(H:Hp):List DV->List V->Prop
 | [],xs=>xs=[]
 | d::ds,xs=>∃x r,xs=x::r/\A5 H d x/\z08 H ds r
end
mutual
theorem A5.keep{H H':Hp}(s:A3 H H'):∀(d:DV) (x:V),A5 H d x->A5 H' d x
 | .non,_,h=>h
 | .bl _,_,h=>h
 | .int _,_,h=>h
 | .str _,_,h=>h
 | .tup ds,_,h=>by
  unfold A5 at h ⊢
  obtain⟨a,xs,e,h1,h2,h3⟩:=h
  exact⟨a,xs,e,s _ _ h1,h2,z08.keep s ds xs h3⟩
theorem z08.keep{H H':Hp}(s:A3 H H'):∀(ds:List DV) (xs:List V),z08 H ds xs->z08 H' ds xs
 | [],_,h=>h
 | d::ds,_,h=>by
  unfold z08 at h ⊢
  obtain⟨x,r,e,h1,h2⟩:=h
  exact⟨x,r,e,A5.keep s d x h1,z08.keep s ds r h2⟩
end
mutual
theorem A5.over{H:Hp}{l:Addr}{o o':HO}(hl:H l=some o)(hn:∀xs,o≠.tup xs):∀(d:DV) (x:V),A5 H d x->A5 (upd H l o') d x
 | .non,_,h=>h
 | .bl _,_,h=>h
 | .int _,_,h=>h
 | .str _,_,h=>h
 | .tup ds,_,h=>by
  unfold A5 at h ⊢
  obtain⟨a,xs,e,h1,h2,h3⟩:=h
  exact⟨a,xs,e,by rw[z0k (z4W h1 hl (fun z=>hn xs z.symm))];exact h1,h2,z08.over hl hn ds xs h3⟩
theorem z08.over{H:Hp}{l:Addr}{o o':HO}(hl:H l=some o)(hn:∀xs,o≠.tup xs):∀(ds:List DV) (xs:List V),z08 H ds xs->z08 (upd H l o') ds xs
 | [],_,h=>h
 | d::ds,_,h=>by
  unfold z08 at h ⊢
  obtain⟨x,r,e,h1,h2⟩:=h
  exact⟨x,r,e,A5.over hl hn d x h1,z08.over hl hn ds r h2⟩
end
theorem z08.length{H:Hp}:∀{ds:List DV}{xs:List V},z08 H ds xs->xs.length=ds.length
 | [],_,h=>by unfold z08 at h;rw[h];rfl
 | d::ds,_,h=>by
  unfold z08 at h
  obtain⟨x,r,rfl,_,h2⟩:=h
  rw[cH,cH,z08.length h2]
theorem z08.get{H:Hp}:∀{ds:List DV}{xs:List V},z08 H ds xs->∀(i:Nat) (d:DV),ds[i]? = some d->∃x,xs[i]? = some x/\A5 H d x
 | [],_,_,i,d,e=>by simp at e
 | d0::ds,_,h,0,d,e=>by
  unfold z08 at h
  obtain⟨x,r,rfl,h1,_⟩:=h
  simp at e
  subst e
  exact⟨x,rfl,h1⟩
 | d0::ds,_,h,i+1,d,e=>by
  unfold z08 at h
  obtain⟨x,r,rfl,_,h2⟩:=h
  obtain⟨y,e1,e2⟩:=z08.get h2 i d (by simpa using e)
  exact⟨y,by simpa using e1,e2⟩
theorem z08.at{H:Hp}:∀{ds:List DV}{xs:List V},z08 H ds xs->∀(i:Nat) (x:V),xs[i]? = some x->∃d,ds[i]? = some d/\A5 H d x
 | [],_,h,i,x,e=>by
  unfold z08 at h
  subst h
  simp at e
 | d0::ds,_,h,0,x,e=>by
  unfold z08 at h
  obtain⟨x0,r,rfl,h1,_⟩:=h
  simp at e
  subst e
  exact⟨d0,rfl,h1⟩
 | d0::ds,_,h,i+1,x,e=>by
  unfold z08 at h
  obtain⟨x0,r,rfl,_,h2⟩:=h
  obtain⟨y,e1,e2⟩:=z08.at h2 i x (by simpa using e)
  exact⟨y,by simpa using e1,e2⟩
theorem z08.nil{H:Hp}:z08 H [] []:=by unfold z08;rfl
theorem z08.cons{H:Hp}{d:DV}{ds:List DV}{x:V}{xs:List V}(h:A5 H d x)(t:z08 H ds xs):z08 H (d::ds) (x::xs):=by unfold z08;exact⟨x,xs,rfl,h,t⟩
theorem z08.snoc{H:Hp}:∀{ds:List DV}{xs:List V}{d:DV}{x:V},z08 H ds xs->A5 H d x->z08 H (ds++[d]) (xs++[x])
 | [],_,_,_,h,q=>by
  unfold z08 at h
  subst h
  exact z08.cons q .nil
 | d0::ds,_,_,_,h,q=>by
  unfold z08 at h
  obtain⟨x0,r,rfl,h1,h2⟩:=h
  exact z08.cons h1 (z08.snoc h2 q)
theorem z08.append{H:Hp}:∀{ds es:List DV}{xs ys:List V},z08 H ds xs->z08 H es ys->z08 H (ds++es) (xs++ys)
 | [],_,_,_,h,q=>by
  unfold z08 at h
  subst h
  exact q
 | d0::ds,_,_,_,h,q=>by
  unfold z08 at h
  obtain⟨x0,r,rfl,h1,h2⟩:=h
  exact z08.cons h1 (z08.append h2 q)
theorem z08.take{H:Hp}:∀{ds:List DV}{xs:List V} (n:Nat),z08 H ds xs->z08 H (ds.take n) (xs.take n)
 | _,_,0,_=>by rw[cS,cS];exact .nil
 | [],_,n+1,h=>by
  unfold z08 at h
  subst h
  exact .nil
 | d0::ds,_,n+1,h=>by
  unfold z08 at h
  obtain⟨x0,r,rfl,h1,h2⟩:=h
  exact z08.cons h1 (z08.take n h2)
theorem z0H{H:Hp}(i:Int):A5 H (.int i) (.int i):=by unfold A5;rfl
theorem z2w{H:Hp}(x:Str):A5 H (.str x) (.str x):=by unfold A5;rfl
theorem z7u{H:Hp}:A5 H .non .non:=by unfold A5;rfl
theorem z0r{H:Hp}{a:Addr}{xs:List V}{ds:List DV}(h:H a=some (.tup xs))(hl:ds.length≤1000000)(t:z08 H ds xs):A5 H (.tup ds) (.ref a):=by
 unfold A5
 exact⟨a,xs,rfl,h,by rw[t.length];exact hl,t⟩
theorem z2v{H:Hp}:∀(l:List Str),z08 H (l.map DV.str) (l.map V.str)
 | []=>.nil
 | i::r=>.cons (z2w i) (z2v r)
theorem z1b{H:Hp}:∀{l:List Str}{xs:List V},z08 H (l.map DV.str) xs->xs=l.map V.str
 | [],_,h=>by unfold z08 at h;exact h
 | i::r,_,h=>by
  rw[cP] at h
  unfold z08 at h
  obtain⟨x,t,rfl,h1,h2⟩:=h
  unfold A5 at h1
  rw[h1,z1b h2]
  rfl
theorem z0g{H:Hp}{ds:List DV}{x:V}(h:A5 H (.tup ds) x):∃a xs,x=.ref a/\H a=some (.tup xs)/\xs.length≤1000000/\z08 H ds xs:=by
 unfold A5 at h
 exact h
theorem z19{H:Hp}{i:Int}{x:V}(h:A5 H (.int i) x):x=.int i:=by unfold A5 at h;exact h
theorem z3h{H:Hp}{i:Str}{x:V}(h:A5 H (.str i) x):x=.str i:=by unfold A5 at h;exact h
theorem z0d{H:Hp}{d:DV}{ds:List DV}{xs:List V}(h:z08 H (d::ds) xs):∃x r,xs=x::r/\A5 H d x/\z08 H ds r:=by
 unfold z08 at h
 exact h
theorem z0E{H:Hp}{xs:List V}(h:z08 H [] xs):xs=[]:=by unfold z08 at h;exact h
mutual
def DV.deep:DV->Nat
 | .tup ds=>DV.P6 ds+1
 | _=>0
def DV.P6:List DV->Nat
 | []=>0
 | d::ds=>max d.deep (DV.P6 ds)
end
def y2a:V->Bool
 | .non=>true
 | .bl _=>true
 | .int _=>true
 | .str _=>true
 | _=>false
def z4U(H:Hp):Nat->V->V->Prop
 | 0,x,y=>x=y/\y2a x=true
 | n+1,x,y=>(x=y/\y2a x=true)\/∃(a b:Addr) (xs ys:List V),x=.ref a/\y=.ref b/\H a=some (.tup xs)/\H b=some (.tup ys)/\xs.length=ys.length/\ys.length≤1000000/\
   ∀(i:Nat) (u v:V),xs[i]? = some u->ys[i]? = some v->z4U H n u v
theorem z4U.keep{H H':Hp}(s:A3 H H'):∀{n:Nat}{x y:V},z4U H n x y->z4U H' n x y
 | 0,_,_,h=>h
 | n+1,x,y,h=>by
  rcases h with h|⟨a,b,xs,ys,e1,e2,h1,h2,hl,hm,h⟩
  ·exact .inl h
  ·exact .inr ⟨a,b,xs,ys,e1,e2,s _ _ h1,s _ _ h2,hl,hm,fun i u v hu hv=>z4U.keep s (h i u v hu hv)⟩
theorem z4U.up{H:Hp}:∀{n:Nat}{x y:V},z4U H n x y->z4U H (n+1) x y
 | 0,_,_,h=>.inl h
 | n+1,x,y,h=>by
  rcases h with h|⟨a,b,xs,ys,e1,e2,h1,h2,hl,hm,h⟩
  ·exact .inl h
  ·exact .inr ⟨a,b,xs,ys,e1,e2,h1,h2,hl,hm,fun i u v hu hv=>z4U.up (h i u v hu hv)⟩
theorem z4U.mono{H:Hp}{x y:V}{n m:Nat}(h:z4U H n x y)(hm:n≤m):z4U H m x y:=by
 induction hm with
 | refl=>exact h
 | step _ ih=>exact ih.up
mutual
theorem z4S{H:Hp}:∀(d:DV) (x y:V),A5 H d x->A5 H d y->z4U H d.deep x y
 | .non,x,y,h1,h2=>by
  unfold A5 at h1 h2
  subst h1 h2
  exact⟨rfl,rfl⟩
 | .bl _,x,y,h1,h2=>by
  unfold A5 at h1 h2
  subst h1 h2
  exact⟨rfl,rfl⟩
 | .int _,x,y,h1,h2=>by
  unfold A5 at h1 h2
  subst h1 h2
  exact⟨rfl,rfl⟩
 | .str _,x,y,h1,h2=>by
  unfold A5 at h1 h2
  subst h1 h2
  exact⟨rfl,rfl⟩
 | .tup ds,x,y,h1,h2=>by
  unfold A5 at h1 h2
  obtain⟨a,xs,rfl,a1,a2,a3⟩:=h1
  obtain⟨b,ys,rfl,b1,b2,b3⟩:=h2
  unfold DV.deep
  exact .inr ⟨a,b,xs,ys,rfl,rfl,a1,b1,by rw[a3.length,b3.length],b2,z8e ds xs ys a3 b3⟩
theorem z8e{H:Hp}:∀(ds:List DV) (xs ys:List V),z08 H ds xs->z08 H ds ys->∀(i:Nat) (u v:V),xs[i]? = some u->ys[i]? = some v->z4U H (DV.P6 ds) u v
 | [],xs,ys,h1,h2,i,u,v,e1,e2=>by
  unfold z08 at h1
  subst h1
  simp at e1
 | d::ds,xs,ys,h1,h2,0,u,v,e1,e2=>by
  unfold z08 at h1 h2
  obtain⟨x,r,rfl,a1,a2⟩:=h1
  obtain⟨y,t,rfl,b1,b2⟩:=h2
  simp at e1 e2
  subst e1 e2
  unfold DV.P6
  exact(z4S d x y a1 b1).mono (Nat.le_max_left _ _)
 | d::ds,xs,ys,h1,h2,i+1,u,v,e1,e2=>by
  unfold z08 at h1 h2
  obtain⟨x,r,rfl,a1,a2⟩:=h1
  obtain⟨y,t,rfl,b1,b2⟩:=h2
  unfold DV.P6
  exact(z8e ds r t a2 b2 i u v (by simpa using e1) (by simpa using e2)).mono (Nat.le_max_right _ _)
end
end L2
namespace L2
open PySem PySem.Spec PyProof.Rows
section
variable{κ:Type}[DecidableEq κ]
def K7(ks:List κ):List κ:=ks.foldl (fun acc k=>if k∈acc then acc else acc++[k]) []
theorem y4v(ks:List κ)(k:κ):K7 (ks++[k])=if k∈K7 ks then K7 ks else K7 ks++[k]:=by
 unfold K7
 rw[fR]
 rfl
theorem y3F{ks:List κ}{i:Nat}{k:κ}(h:ks[i]? = some k):K7 (ks.take (i+1))=if k∈K7 (ks.take i) then K7 (ks.take i) else K7 (ks.take i)++[k]:=by
 have e:ks.take (i+1)=ks.take i++[k]:=by rw[eY,h]<;>rfl
 rw[e,y4v]
theorem z89(k:κ):∀(ks acc:List κ),k∈ks.foldl (fun acc k=>if k∈acc then acc else acc++[k]) acc↔k∈acc\/k∈ks
 | [],acc=>by simp
 | x::r,acc=>by
  rw[dB,z89 k r]
  by_cases h:x∈acc
  ·rw[if_pos h,bA]
   constructor
   ·rintro(a|a)
    ·exact .inl a
    ·exact .inr (.inr a)
   ·rintro(a|rfl|a)
    ·exact .inl a
    ·exact .inl h
    ·exact .inr a
  ·rw[if_neg h,bN,b8,bA,or_assoc]
theorem y1o{k:κ}{ks:List κ}:k∈K7 ks↔k∈ks:=by unfold K7;rw[z89];simp
theorem z7Q:∀(ks acc:List κ),(ks.foldl (fun acc k=>if k∈acc then acc else acc++[k]) acc).length≤acc.length+ks.length
 | [],acc=>by simp
 | x::r,acc=>by
  rw[dB]
  refine cM (z7Q r _) ?_
  by_cases h:x∈acc
  ·rw[if_pos h,cH];omega
  ·rw[if_neg h,bG,cH,cH,List.length_nil];omega
theorem y1g(ks:List κ):(K7 ks).length≤ks.length:=by
 have:=z7Q ks []
 simpa [K7] using this
theorem z8I:∀(ks acc:List κ),(acc++ks).Nodup->ks.foldl (fun acc k=>if k∈acc then acc else acc++[k]) acc=acc++ks
 | [],acc,_=>by simp
 | x::r,acc,h=>by
  have hx:x∉acc:=fun hx=>by
   rw[h9] at h
   exact h.2.2 x hx x (bU) rfl
  rw[dB,if_neg hx,z8I r (acc++[x]) (by rw[fS];exact h),fS]
  rfl
theorem y2X{ks:List κ}(h:ks.Nodup):K7 ks=ks:=by
 have:=z8I ks [] (by simpa using h)
 simpa [K7] using this
end
section
variable{prog:Program}{w:World}{A:Around}{κ:Type}[DecidableEq κ]{kd:KeyKind prog w κ}{I:Addr}{fp wr:List Addr}{G:Array GenState->Array GenState->Prop}{n:Nat}{P:Nat->Value->Prop}{St:Nat->Shared->Prop}
abbrev z5O(kd:KeyKind prog w κ)(h:Heap)(a:Addr)(ks:List κ):Prop:=h.SetOf kd a (fun k=>decide (k∈ks)) (K7 ks).length
theorem z5O.at{h h':Heap}{a:Addr}{ks:List κ}(x:z5O kd h a ks)(e:∀o,h.get? a=some o->h'.get? a=some o):z5O kd h' a ks:=by
 obtain⟨o,es,ep,t,ho,r⟩:=x
 exact⟨o,es,ep,t,e o ho,r⟩
theorem z9e{R:Result->Shared->Prop}(W:WalksS prog w A.in1 I fp wr G n P St){a:Addr}(out:a∉fp){ks:List κ}(lk:ks.length=n)
  (vals:∀i v,P i v->∃k,ks[i]? = some k/\kd.is k v=true/\v.scannable=true) (few:n+1<scanBound) :
  ∀(todo i:Nat) (s:Shared),i+todo=n->St i s->z5O kd s.heap a (ks.take i)->
   (∀s',Moved (a::wr) G s s'->z5O kd s'.heap a ks->R (.ok (.ret .none)) s')->codeAny (model prog w) A (.builtin "set.update.loop" ⟨[.ref a,.ref I],[]⟩) R s
 | 0,i,s,ei,st,sx,fin=>by
  have e:ks.take i=ks:=cL (by omega)
  rw[e] at sx
  have ei':i=n:=by omega
  subst ei'
  refine codeAny_builtin F.entry_set_update_loop ?_
  rw[cN gY _]
  refine wpAny_bind (W.done s _ _ st fun s' mv=>wpAny_pure (fin s' (mv.mono fun b hb=>.tail _ hb) (sx.at fun o=>mv.heap a o fun q=>out (W.sub _ q))))
 | todo+1,i,s,ei,st,sx,fin=>by
  refine codeAny_builtin F.entry_set_update_loop ?_
  rw[cN gY _]
  refine wpAny_bind (W.item i s _ _ (by omega) st fun v s1 hv st1 mv=>?_)
  obtain⟨k,ek,iv,sc⟩:=vals i v hv
  have sx1:=sx.at (h':=s1.heap) fun o=>mv.heap a o fun q=>out (W.sub _ q)
  refine wpAny_bind (wpAny_holding (m:=setAdd a v) ?_)
  unfold setAdd
  refine wpAny_holding (wpAny_bind (kd.pyHash iv ?_))
  have lm:=y1g (ks.take i)
  rw[bH] at lm
  refine wpAny_setAddHashed_of (s:={ s1 with toks:=s1.toks+1 }) iv sc sx1 (by omega) fun h2 sb sx2=>?_
  have sx3:z5O kd h2 a (ks.take (i+1)):=by
   have e1:(fun k'=>decide (k'∈ks.take i) || decide (k'=k))=fun k'=>decide (k'∈ks.take (i+1)):=by
    funext k'
    rw[eY,ek]
    simp[Bool.decide_or]
   have e2:(if decide (k∈ks.take i)=true then (K7 (ks.take i)).length else (K7 (ks.take i)).length+1)=(K7 (ks.take (i+1))).length:=by
    rw[y3F ek]
    by_cases hk:k∈ks.take i
    ·rw[if_pos (decide_eq_true hk),if_pos (y1o.mpr hk)]
    ·rw[if_neg (by simpa using hk),if_neg (fun q=>hk (y1o.mp q)),bG]
     rfl
   rw[e1,e2] at sx2
   exact sx2
  have far:∀b,b≠a->h2.get? b=s1.heap.get? b:=fun b hb=>sb.2 b hb
  refine wpAny_pure ⟨plainId_quiet gY _,z9e W out lk vals few todo (i+1) _ (by omega) (W.frame _ s1 _ _ st1 (gB _) fun b hb o q=>?_) sx3 fun s3 mv3 sx4=>?_⟩
  ·rw[far b fun z=>out (z ▸ hb)];exact q
  ·refine fin s3 (.trans W.gtrans ((mv.mono fun b hb=>.tail _ hb).then_heap (gB _) fun b o hb q=>?_) mv3) sx4
   rw[far b fun z=>hb (z ▸ .head _)];exact q
end
namespace Ty
theorem y3P:isSubtype (.type "tuple") (.type "set")=pure false:=by rw[isSubtype_type];kernel_rfl
theorem z87:isSubtype (.type "tuple") (.type "frozenset")=pure false:=by rw[isSubtype_type];kernel_rfl
end Ty
abbrev O8(led:Bool):Obj:={ cls:=.type "set",dict:=none,data:=.set #[] 0 (.fresh 0 0 led) }
section
variable{prog:Program}{w:World}{A:Around}{E:Value->Shared->Prop}{s:Shared}{κ:Type}[DecidableEq κ]{kd:KeyKind prog w κ}
theorem y5k{T:String}{p:Addr}{o:Obj}{its:Array Value}{c0:Nat}{ks:List κ}{Q:Value->Shared->Prop}(hh:A.handled=none)(hp:s.heap.get? p=some o)(hc:o.cls=.type T)(hd:o.data=.seq its c0)(hT:T="list"\/T="tuple")
  (lk:ks.length=its.size) (vals:∀(i:Nat) v,its[i]? = some v->∃k,ks[i]? = some k/\kd.is k v=true/\v.scannable=true) (few:its.size+1<scanBound)
  (fin:∀(h':Heap) (t:Nat),z5O kd h' s.heap.objs.size ks->(∀b u,b<s.heap.objs.size->s.heap.get? b=some u->h'.get? b=some u)->Q (.ref s.heap.objs.size) { s with heap:=h',toks:=t }) :
  wpAny (model prog w) A (call (.type "set") [.ref p]) Q E s:=by
 obtain⟨c,tl,hmro⟩:=fF.mro
 have g1:=fF.made
 have g2:=fF.sub
 refine wpAny_call (codeAny_of_tree (wpAny_pure ⟨Code.quiet_builtin _ (by decide +kernel),codeAny_builtin F.entry_type_call ?_⟩))
 rw[Around.under_plain (weight_type_call_type "set" [.ref p] []) rfl]
 have g3:=fF.notType
 have g4:=fF.canCreate
 have g5:=F.typeCall_set_1 (.ref p)
 repeat (any_goals (first|assumption|wp_step))
 refine codeAny_mono (code_set_new_1 (.ref p) (E:=E) (Q₁:=fun u s1=>∃led,u=.ref s.heap.objs.size/\s1={ s with heap:=s.heap.push (O8 led) }) fun led=>⟨led,rfl,rfl⟩) fun r s1 q1=>?_
 rcases r with e|(_|_|_|u)
 all_goals try exact q1.elim
 all_goals try exact q1
 obtain⟨led,rfl,rfl⟩:=q1
 have at1:(s.heap.push (O8 led)).get? s.heap.objs.size=some (O8 led):=bM _ rfl
 have ty1:Shared.TypeIs { s with heap:=s.heap.push (O8 led) } (.ref s.heap.objs.size) "set":=⟨_,at1,rfl⟩
 have g6:=fF.init.lookup
 have g7:=fF.init.bind (.ref s.heap.objs.size)
 repeat (any_goals (first|assumption|wp_step))
 refine codeAny_mono (codeAny_call_builtin (R:=wants (fun r s2=>r=.none/\∃h' t,s2={ s with heap:=h',toks:=t }/\z5O kd h' s.heap.objs.size ks/\∀b u,b<s.heap.objs.size->s.heap.get? b=some u->h'.get? b=some u) E)
  fF.init.plain F.entry_set_init (check_set_init_1 ty1 ?_)) fun r s2 q2=>?_
 case _=>
  have hpS:p<s.heap.objs.size:=bP hp
  obtain⟨oc,od,oa,os⟩:=o
  simp only at hc hd
  subst hc;subst hd
  have hp1:(s.heap.push (O8 led)).get? p=some { cls:=.type T,dict:=od,data:=.seq its c0,slots:=os }:=b9 _ hp
  have f1:isSubtype (.type T) (.type "set")=pure false:=by rcases hT with rfl|rfl<;>first|exact F.sub_list_set|exact Ty.y3P
  have f2:isSubtype (.type T) (.type "frozenset")=pure false:=by rcases hT with rfl|rfl<;>first|exact F.sub_list_frozenset|exact Ty.z87
  have f3:(Value.type T == Value.type "dict")=false:=by rcases hT with rfl|rfl<;>decide
  have hh3:A.in1.in1.in1.handled=none:=by simp[hh]
  have sz:(s.heap.push (O8 led)).objs.size=s.heap.objs.size+1:=fV _ _
  have apart:p≠(s.heap.push (O8 led)).objs.size:=by rw[sz];exact cK (eX hpS)
  have out:s.heap.objs.size∉[(s.heap.push (O8 led)).objs.size,p]:=by rw[sz,bA,b8];exact fun z=>z.elim (cK (dO _)) (gM hpS)
  have z6d:∀x:Obj,z5O kd ((s.heap.push (O8 led)).push x) s.heap.objs.size (ks.take 0):=fun x=>by
   have z:=(setObjOf_fresh (knd:=kd) led).setOf (b9 x at1) (by unfold scanBound;omega)
   have e:(fun k:κ=>decide (k∈ks.take 0))=fun _=>false:=by funext k;simp
   show Heap.SetOf kd _ _ (fun k=>decide (k∈ks.take 0)) _
   rw[e]
   exact z
  have ends:∀(x:Obj) (s':Shared),Moved [s.heap.objs.size,(s.heap.push (O8 led)).objs.size] (fun a b=>b=a) { s with heap:=(s.heap.push (O8 led)).push x } s'->z5O kd s'.heap s.heap.objs.size ks->
    ∃h' t,s'={ s with heap:=h',toks:=t }/\z5O kd h' s.heap.objs.size ks/\∀b u,b<s.heap.objs.size->s.heap.get? b=some u->h'.get? b=some u:=fun x s' mv sx=>by
   obtain⟨h',g',d',t',o'⟩:=s'
   obtain rfl:g'=s.gens:=mv.gens
   obtain rfl:d'=s.drawn:=mv.drawn
   obtain rfl:o'=s.os:=mv.os
   exact⟨h',t',rfl,sx,fun b u hb q=>mv.heap b u (by rw[sz,bA,b8];exact fun z=>z.elim (cK hb) (cK (eX hb))) (b9 _ (b9 _ q))⟩
  unfold Builtin.«set.__init__» noKeywords Builtin.Frozenset.updateFrom
  generalize hPI:pyIter=PI
  wp_walk
  subst hPI
  rcases hT with rfl|rfl
  ·have hl:(s.heap.push (O8 led)).IsList p its:=⟨_,hp1,rfl,c0,rfl⟩
   refine wpAny_pyIter_list hl (wpAny_bind (wpAny_runValue ?_))
   refine z9e (kd:=kd) ((Walks.list hh3 _ p apart its).toS) out lk vals few its.size 0 _ (jT _) ⟨⟨_,bM _ rfl,rfl,rfl⟩,hl.push _⟩ (z6d _) fun s' mv sx=>?_
   exact wpAny_pure (wpAny_pure ⟨rfl,ends _ s' mv sx⟩)
  ·have hl:(s.heap.push (O8 led)).IsTuple p its:=⟨_,hp1,rfl,c0,rfl⟩
   refine wpAny_pyIter_tuple hl (wpAny_bind (wpAny_runValue ?_))
   refine z9e (kd:=kd) ((Walks.tuple hh3 _ p apart its).toS) out lk vals few its.size 0 _ (jT _) ⟨⟨_,bM _ rfl,rfl,rfl⟩,hl.push _⟩ (z6d _) fun s' mv sx=>?_
   exact wpAny_pure (wpAny_pure ⟨rfl,ends _ s' mv sx⟩)
 ·rcases r with e|(_|_|_|u)
  all_goals try exact q2.elim
  all_goals try exact q2
  obtain⟨rfl,h',t,rfl,sx,kp⟩:=q2
  repeat (any_goals (first|assumption|wp_step))
  exact fin _ _ sx kp
end
section
variable{X:Cx}
def Q9(P:Program)(w:World)(a:Addr)(zs:List Str):HO:=.ext fun h=>z5O (strKind P w) h a zs
theorem Q9.new{P:Program}{w:World}{H:Hp}{h:Heap}{a:Addr}{zs:List Str}(x:z5O (strKind P w) h a zs):z1B P w H h a (Q9 P w a zs):=by
 refine⟨x,?_,fun h1 h2 y e=>z5O.at y e⟩
 obtain⟨o,_,_,_,e,_⟩:=x
 exact⟨o,e⟩
theorem y1t:∀{zs:List Str}{us:List Value},Vals (zs.map V.str) us->∀(i:Nat) (v:Value),us[i]? = some v->∃(k:Str) (t:Tok),zs[i]? = some k/\v=.str k t
 | [],_,.nil,i,v,h=>by simp at h
 | z::zs,u::us,.cons r rs,0,v,h=>by
  simp at h
  subst h
  obtain⟨t,rfl⟩:=r
  exact⟨z,t,rfl,rfl⟩
 | z::zs,u::us,.cons r rs,i+1,v,h=>by
  simp at h
  obtain⟨k,t,a,b⟩:=y1t rs i v h
  exact⟨k,t,by simpa using a,b⟩
theorem z4Z(hc:X.calm=true):z40 X (.type "set") (fun xs H Q=>∃p zs,xs=[.ref p]/\(SqL X.K H p (zs.map V.str)\/SqT X.K H p (zs.map V.str))/\zs.length≤1000/\∀l,H l=none->Q (.ref l) (upd H l (Q9 X.prog X.w l zs))):=by
 intro pins s σ H xs us Q I r h
 obtain⟨p,zs,rfl,hq,hl,q⟩:=h
 obtain⟨u,rfl,rx⟩:=z4X r
 cases rx
 have go:∀(T:String) (o:Obj) (its:List Value) (c0:Nat),s.heap.get? p=some o->o.cls=.type T->o.data=.seq its.toArray c0->(T="list"\/T="tuple")->Vals (zs.map V.str) its->wpAny (model X.prog X.w) X.A (call (.type "set") [.ref p]) (EP X pins σ Q) X.xe s:=
  fun T o its c0 ho hcl hda hT rv=>by
   have ln:zs.length=its.length:=by have:=rv.length;rwa [b7] at this
   refine y5k (kd:=strKind X.prog X.w) (ks:=zs) (I.ok.hd hc) ho hcl hda hT (by simpa using ln) (fun i v hv=>?_) (by simp[scanBound];omega) fun h' t sx kp=>?_
   ·obtain⟨k,t,a,rfl⟩:=y1t rv i v (by simpa using hv)
    exact⟨k,a,strKind_is _ _ _ _,rfl⟩
   ·refine⟨.ref s.heap.objs.size,_,I.laid (a:=s.heap.objs.size) (o:=Q9 X.prog X.w s.heap.objs.size zs) (h':=h') (t':=t) (fun b u q1=>kp b u (bP q1) q1) (bE _) (Q9.new sx),rfl,q _ (I.hok.fresh (bE _))⟩
 rcases hq with hq|hq
 ·obtain⟨its,rv,pl,_⟩:=I.list hq
  obtain⟨o,ho,hcl,n,hda⟩:=pl.isList
  exact go "list" o its n ho hcl hda (.inl rfl) rv
 ·obtain⟨its,rv,pl,_⟩:=I.tuple hq
  obtain⟨o,ho,hcl,n,hda⟩:=pl
  exact go "tuple" o its n ho hcl hda (.inr rfl) rv
theorem z67:z40 X (.builtin "len") (fun xs H Q=>∃p zs,xs=[.ref p]/\H p=some (Q9 X.prog X.w p zs)/\zs.length≤1000/\Q (.int (K7 zs).length) H):=by
 intro pins s σ H xs us Q I r h
 obtain⟨p,zs,rfl,hp,hl,q⟩:=h
 obtain⟨u,rfl,rx⟩:=z4X r
 cases rx
 obtain⟨⟨o,es,ep,t,e1,e2,e3,_,_,_,e4,e5⟩,_⟩:=(show z1B X.prog X.w H s.heap p (Q9 X.prog X.w p zs) from I.hok p _ hp)
 have:=y1g zs
 exact PySem.call_len_set e1 e2 e3 e4 (by omega) ⟨.int (K7 zs).length,H,I.tok _,⟨s.toks+1,by rw[e5]⟩,q⟩
end
section
variable{κ:Type}[DecidableEq κ]
def K1(kvs:List (κ×V))(k:κ):Option V:=(kvs.find? fun kv=>decide (kv.1=k)).map (·.2)
def putK(kvs:List (κ×V))(k:κ)(v:V):List (κ×V):=
 if (kvs.any fun kv=>decide (kv.1=k))=true then kvs.map (fun kv=>if kv.1=k then (kv.1,v) else kv) else kvs++[(k,v)]
theorem z61{p:κ×V}{r:List (κ×V)}{k:κ}(e:p.1=k):K1 (p::r) k=some p.2:=by simp[K1,dN,e]
theorem z5Y{p:κ×V}{r:List (κ×V)}{k:κ}(e:¬p.1=k):K1 (p::r) k=K1 r k:=by simp[K1,dN,e]
theorem z7v(k:κ):∀kvs:List (κ×V),(kvs.any fun kv=>decide (kv.1=k))=(K1 kvs k).isSome
 | []=>rfl
 | p::r=>by
  rw[fM]
  by_cases e:p.1=k
  ·simp only[z61 e,decide_eq_true e,Bool.true_or,Option.isSome_some]
  ·rw[z5Y e,decide_eq_false e,Bool.false_or];exact z7v k r
theorem z8j(kvs:List (κ×V))(k:κ)(v:V):(putK kvs k v).length≤kvs.length+1:=by
 unfold putK
 split
 ·rw[b7];omega
 ·rw[bG,cH,List.length_nil];omega
theorem y1w{kvs:List (κ×V)}{k:κ}(v:V)(h:K1 kvs k=none):putK kvs k v=kvs++[(k,v)]:=by
 unfold putK
 rw[z7v,h]
 exact if_neg (by decide)
theorem N3.P2{o:Option V}{u:Option Value}(r:N3 o u):o.isSome=u.isSome:=by
 cases o with
 | none=>cases u with
  | none=>rfl
  | some _=>exact(show False from r).elim
 | some _=>cases u with
  | none=>exact(show False from r).elim
  | some _=>rfl
theorem KV.val{kvs:List (κ×V)}{vs:List (κ×Value)}(r:KV kvs vs)(k:κ):N3 (K1 kvs k) (valueAt vs k):=by
 unfold KV at r
 induction r with
 | nil=>exact True.intro
 | @cons p q ps qs h t ih=>
  obtain⟨h1,h2⟩:=h
  by_cases e:p.1=k
  ·have e':q.1=k:=h1.symm.trans e
   have b:valueAt (q::qs) k=some q.2:=by simp[valueAt,dN,e']
   rw[z61 e,b];exact h2
  ·have e':¬q.1=k:=fun z=>e (h1.trans z)
   have b:valueAt (q::qs) k=valueAt qs k:=by simp[valueAt,dN,e']
   rw[z5Y e,b];exact ih
theorem KV.any{kvs:List (κ×V)}{vs:List (κ×Value)}(r:KV kvs vs)(k:κ):(kvs.any fun kv=>decide (kv.1=k))=vs.any fun kv=>decide (kv.1=k):=by
 unfold KV at r
 induction r with
 | nil=>rfl
 | cons h t ih=>rw[fM,fM,ih,h.1]
theorem KV.w09{kvs:List (κ×V)}{vs:List (κ×Value)}(r:KV kvs vs)(k:κ){y:V}{u:Value}(ry:RelV y u) :
  KV (kvs.map fun kv=>if kv.1=k then (kv.1,y) else kv) (vs.map fun kv=>if kv.1=k then (kv.1,u) else kv):=by
 unfold KV at r ⊢
 induction r with
 | nil=>exact .nil
 | @cons p q ps qs h t ih=>
  rw[cP,cP]
  refine .cons ?_ ih
  obtain⟨h1,h2⟩:=h
  by_cases e:p.1=k
  ·rw[if_pos e,if_pos (h1.symm.trans e)];exact⟨h1,ry⟩
  ·rw[if_neg e,if_neg (fun z=>e (h1.trans z))];exact⟨h1,h2⟩
theorem KV.put{kvs:List (κ×V)}{vs:List (κ×Value)}(r:KV kvs vs)(k:κ){y:V}{u:Value}(ry:RelV y u):KV (putK kvs k y) (stored vs k u):=by
 unfold putK stored
 rw[r.any k]
 by_cases e:(vs.any fun kv=>decide (kv.1=k))=true
 ·rw[if_pos e,if_pos e];exact r.w09 k ry
 ·rw[if_neg e,if_neg e];exact jI r ⟨rfl,ry⟩
theorem KV.keys{kvs:List (κ×V)}{vs:List (κ×Value)}(r:KV kvs vs):kvs.map (·.1)=vs.map (·.1):=by
 unfold KV at r
 induction r with
 | nil=>rfl
 | cons h t ih=>rw[cP,cP,ih,h.1]
theorem KV.length{kvs:List (κ×V)}{vs:List (κ×Value)}(r:KV kvs vs):kvs.length=vs.length:=Paired.length r
end
theorem y2R{P:Program}{w:World}{k:Key}{u:Value}(r:RelV (kV k) u):(z1v P w).is k u=true:=by
 cases k with
 | inl i=>obtain⟨t,e⟩:=(show ∃t,u=Value.int i t from r);subst e;exact y17 P w i t
 | inr x=>obtain⟨t,e⟩:=(show ∃t,u=Value.str x t from r);subst e;exact y16 P w x t
theorem y0n{P:Program}{w:World}:∀{ks:List Key}{us:List Value},Vals (ks.map kV) us->ItemsAre (z1v P w) ks us
 | [],_,r=>by rw[List.map_nil] at r;cases r;exact .nil
 | k::ks,_,r=>by
  rw[cP] at r
  cases r with
  | cons h t=>exact .cons (y2R h) (y0n t)
abbrev KT(H:Hp):List (List Key×V)->List (List Key×Addr×Value)->Prop:=Paired fun p q=>p.1=q.1/\H q.2.1=some (.tup (p.1.map kV))/\RelV p.2 q.2.2
theorem KT.val{H:Hp}{kvs:List (List Key×V)}{xs:List (List Key×Addr×Value)}(r:KT H kvs xs)(k:List Key):N3 (K1 kvs k) ((atKey xs k).map (·.2)):=by
 induction r with
 | nil=>exact True.intro
 | @cons p q ps qs h t ih=>
  obtain⟨h1,_,h2⟩:=h
  by_cases e:p.1=k
  ·have e':q.1=k:=h1.symm.trans e
   have b:atKey (q::qs) k=some q.2:=by simp[atKey,dN,e']
   rw[z61 e,b];exact h2
  ·have e':¬q.1=k:=fun z=>e (h1.trans z)
   have b:atKey (q::qs) k=atKey qs k:=by simp[atKey,dN,e']
   rw[z5Y e,b];exact ih
theorem KT.w09{H:Hp}{kvs:List (List Key×V)}{xs:List (List Key×Addr×Value)}(r:KT H kvs xs)(k:List Key){y:V}{u:Value}(ry:RelV y u) :
  KT H (kvs.map fun kv=>if kv.1=k then (kv.1,y) else kv) (xs.map (putAt k u)):=by
 induction r with
 | nil=>exact .nil
 | @cons p q ps qs h t ih=>
  rw[cP,cP]
  refine .cons ?_ ih
  obtain⟨h1,h2,h3⟩:=h
  unfold putAt
  by_cases e:p.1=k
  ·rw[if_pos e,if_pos (h1.symm.trans e)];exact⟨h1,h2,ry⟩
  ·rw[if_neg e,if_neg (fun z=>e (h1.trans z))];exact⟨h1,h2,h3⟩
theorem KT.put{H:Hp}{kvs:List (List Key×V)}{xs:List (List Key×Addr×Value)}(r:KT H kvs xs)(k:List Key){b:Addr}{y:V}{u:Value}(hb:H b=some (.tup (k.map kV)))(ry:RelV y u) :
  KT H (putK kvs k y) (storedH xs k b u):=by
 have e:(kvs.any fun kv=>decide (kv.1=k))=(atKey xs k).isSome:=by
  rw[z7v,(r.val k).P2,Option.isSome_map]
 unfold putK storedH
 rw[e]
 by_cases q:(atKey xs k).isSome=true
 ·rw[if_pos q,if_pos q];exact r.w09 k ry
 ·rw[if_neg q,if_neg q];exact jI r ⟨rfl,hb,ry⟩
theorem KT.keeps{H H':Hp}{kvs:List (List Key×V)}{xs:List (List Key×Addr×Value)}(r:KT H kvs xs)(ht:∀b ys,H b=some (.tup ys)->H' b=some (.tup ys)):KT H' kvs xs:=
 Paired.V6 r fun _ _ z=>⟨z.1,ht _ _ z.2.1,z.2.2⟩
section
variable{P:Program}{w:World}{H:Hp}{h:Heap}{a:Addr}
theorem y7I{u:HO}(ok:HOk P w H h)(e:Rd H a u):z1B P w H h a u:=e.ok ok
theorem y5g{kvs:List (Key×V)}(ok:HOk P w H h)(e:Rd H a (.dK kvs)):kvs.length≤sizeLine/\(a == sysModules)=false/\∃vs,KV kvs vs/\h.DictOf (z1v P w) a vs:=
 show z1B P w H h a (.dK kvs) from y7I ok e
theorem y7i{kvs:List (Key×V)}(ok:HOk P w H h)(e:H a=some (.dK kvs)):kvs.length≤sizeLine/\(a == sysModules)=false/\∃vs,KV kvs vs/\h.DictOf (z1v P w) a vs:=y5g ok (.inl e)
theorem y1I{ks:List Key}(ok:HOk P w H h)(e:H a=some (.tup (ks.map kV))):(tupleKind (z1v P w)).is h ks a:=by
 obtain⟨_,its,r,o,h1,h2,⟨n,h3⟩,_⟩:=(show z1B P w H h a (.tup (ks.map kV)) from ok a _ e)
 exact⟨o,its.toArray,n,h1,h2,h3,by simpa using y0n r⟩
theorem y5e{kvs:List (List Key×V)}(ok:HOk P w H h)(e:Rd H a (.dT kvs)):kvs.length≤sizeLine/\(a == sysModules)=false/\
  ∃xs,KT H kvs xs/\h.DictOfH (tupleKind (z1v P w)) a xs:=by
 obtain⟨z,y,xs,r,o,es,ep,h1,h2,h3,h4,h5⟩:=(show z1B P w H h a (.dT kvs) from y7I ok e)
 refine⟨z,y,xs,r,o,es,ep,h1,h2,h3,h4,fun x hx=>?_,h5⟩
 have all:∀{l:List (List Key×V)}{m:List (List Key×Addr×Value)},KT H l m->∀x∈m,(tupleKind (z1v P w)).is h x.1 x.2.1:=by
  intro l m q
  induction q with
  | nil=>intro x hx;exact nomatch hx
  | @cons p q ps qs hq t ih=>
   intro x hx
   rcases bA.mp hx with e|hx
   ·subst e
    exact y1I ok (by rw[<- hq.1];exact hq.2.1)
   ·exact ih x hx
 exact all r x hx
theorem w0X{kvs:List (List Key×V)}(ok:HOk P w H h)(e:H a=some (.dT kvs)):kvs.length≤sizeLine/\(a == sysModules)=false/\
  ∃xs,KT H kvs xs/\h.DictOfH (tupleKind (z1v P w)) a xs:=y5e ok (.inl e)
end
def L7(H:Hp)(a:Addr)(y:V)(r:Option V):Prop:=
 (∃kvs k,Rd H a (.dK kvs)/\y=kV k/\r=K1 kvs k)\/∃kvs k b,Rd H a (.dT kvs)/\y=.ref b/\H b=some (.tup (k.map kV))/\r=K1 kvs k
def T4(H:Hp)(a:Addr)(y v:V)(H':Hp):Prop:=
 (∃kvs k,H a=some (.dK kvs)/\y=kV k/\kvs.length<sizeLine/\H'=upd H a (.dK (putK kvs k v)))\/
 ∃kvs k b,H a=some (.dT kvs)/\y=.ref b/\H b=some (.tup (k.map kV))/\kvs.length<sizeLine/\H'=upd H a (.dT (putK kvs k v))
theorem L7.k{H:Hp}{a:Addr}{kvs:List (Key×V)}{k:Key}(e:H a=some (.dK kvs)):L7 H a (kV k) (K1 kvs k):=.inl ⟨kvs,k,.inl e,rfl,rfl⟩
theorem T4.k{H:Hp}{a:Addr}{kvs:List (Key×V)}{k:Key}{v:V}(e:H a=some (.dK kvs))(hl:kvs.length<sizeLine):T4 H a (kV k) v (upd H a (.dK (putK kvs k v))):=.inl ⟨kvs,k,e,rfl,hl,rfl⟩
section
variable{X:Cx}{pins:List (Addr×Obj)}{σ:St}{H:Hp}{s:Shared}{a:Addr}{y v:V}{u r:Value}{o:Option V}{A:Around}{E:Value->Shared->Prop}
theorem Inv.big(I:Inv X pins σ H s):sysModules<s.heap.objs.size:=by
 have h:mainGlobals<s.heap.objs.size:=(I.mod.glob.keeps I.bk).lt
 exact Nat.lt_trans (by decide) h
theorem y2W{Q:Value->Shared->Prop}(hu:A.units+1<cLine)(I:Inv X pins σ H s)(g:L7 H a y (some v))(ry:RelV y u)(h:∀w' s',Inv X pins σ H s'->RelV v w'->Q w' s') :
  wpAny (model X.prog X.w) A (getItem (.ref a) u) Q E s:=by
 rcases g with ⟨kvs,k,e,ey,l⟩|⟨kvs,k,b,e,ey,eb,l⟩
 ·subst ey
  obtain⟨z,hd,vs,rel,dd⟩:=y5g I.hok e
  obtain⟨w',hw,rw'⟩:=N3.some_of (v:=v) (o:=valueAt vs k) (by rw[l];exact rel.val k)
  exact wpAny_getItem_of (y2R ry) dd.mapOf hw (h w' _ (I.tok _) rw')
 ·subst ey
  cases (show u=Value.ref b from ry)
  obtain⟨z,hd,xs,rel,dd⟩:=y5e I.hok e
  obtain⟨w',hw,rw'⟩:=N3.some_of (v:=v) (o:=(atKey xs k).map (·.2)) (by rw[l];exact rel.val k)
  obtain⟨p,hp,hp2⟩:=cG.mp hw
  refine wpAny_getItem_heap (tupleKind_room_in1 hu) (y1I I.hok eb) dd hp ?_
  rw[hp2]
  exact h w' _ (I.tok _) rw'
theorem d_in{Q:Value->Shared->Prop}(hu:A.units+1<cLine)(I:Inv X pins σ H s)(g:L7 H a y o)(ry:RelV y u)(h:∀s',Inv X pins σ H s'->Q (.bool o.isSome) s') :
  wpAny (model X.prog X.w) A (compareOp .In u (.ref a)) Q E s:=by
 rcases g with ⟨kvs,k,e,ey,l⟩|⟨kvs,k,b,e,ey,eb,l⟩
 ·subst ey
  obtain⟨z,hd,vs,rel,dd⟩:=y5g I.hok e
  refine wpAny_in_of (y2R ry) hd dd.mapOf ?_
  rw[<- (rel.val k).P2,<- l]
  exact h _ (I.tok _)
 ·subst ey
  cases (show u=Value.ref b from ry)
  obtain⟨z,hd,xs,rel,dd⟩:=y5e I.hok e
  refine wpAny_in_heap (tupleKind_room_in1 hu) (y1I I.hok eb) hd dd ?_
  have q:=(rel.val k).P2
  rw[Option.isSome_map] at q
  rw[<- q,<- l]
  exact h _ (I.tok _)
theorem y40{h':Heap}{t':Nat}{ob:HO}(I:Inv X pins σ H s)(mu:Mut (H a))(hs:Heap.SameBut a s.heap h')(he:∃q,h'.get? a=some q)(new:z1B X.prog X.w (upd H a ob) h' a ob) :
  Inv X pins σ (upd H a ob) { s with heap:=h',toks:=t' }:=
 I.write (x:=a) (e:=a) mu (.inl rfl) (fun b q hb z=>(hs.2 b hb).trans z) he new
theorem y5R{P:Program}{w:World}{H':Hp}{h':Heap}{kvs:List (Key×V)}{vs:List (Key×Value)}(z:kvs.length≤sizeLine)(hd:(a == sysModules)=false)(rel:KV kvs vs)(dd:h'.DictOf (z1v P w) a vs) :
  z1B P w H' h' a (.dK kvs):=⟨z,hd,vs,rel,dd⟩
theorem y47{H':Hp}{Q:Unit->Shared->Prop}(hu:A.units+1<cLine)(I:Inv X pins σ H s)(g:T4 H a y v H')(ry:RelV y u)(rv:RelV v r)(h:∀s',Inv X pins σ H' s'->Q () s') :
  wpAny (model X.prog X.w) A (setItem (.ref a) u r) Q E s:=by
 rcases g with ⟨kvs,k,e,ey,l,eH⟩|⟨kvs,k,b,e,ey,eb,l,eH⟩
 ·subst ey eH
  obtain⟨z,hd,vs,rel,dd⟩:=y7i I.hok e
  have hz:vs.length≤sizeLine:=by rw[<- rel.length];exact z
  have hl:(putK kvs k v).length≤sizeLine:=by have:=z8j kvs k v;omega
  refine wpAny_setItem_pairs (hsz:=hz) (y2R ry) dd fun h' dd' hs=>h _ ?_
  have he:∃q,h'.get? a=some q:=let ⟨q,_,_,hq,_⟩:=dd';⟨q,hq⟩
  exact y40 I (by rw[e];exact True.intro) hs he (y5R hl hd (rel.put k rv) dd')
 ·subst ey eH
  cases (show u=Value.ref b from ry)
  obtain⟨z,hd,xs,rel,dd⟩:=w0X I.hok e
  have hz:xs.length≤sizeLine:=by rw[<- Paired.length rel];exact z
  have hl:(putK kvs k v).length≤sizeLine:=by have:=z8j kvs k v;omega
  refine wpAny_setItem_heap (hsz:=hz) (tupleKind_room_in1 hu) (y1I I.hok eb) dd fun h' dd' hs=>h _ ?_
  obtain⟨q,es,ep,hq,h2,h3,h4,_,h5⟩:=dd'
  refine y40 I (by rw[e];exact True.intro) hs ⟨q,hq⟩ ⟨hl,hd,_,(rel.put k eb rv).keeps fun c ys ec=>?_,q,es,ep,hq,h2,h3,h4,h5⟩
  rw[z0k (z4W ec e (fun z=>nomatch z))]
  exact ec
end
section
variable{X:Cx}{pins:List (Addr×Obj)}{σ:St}{H:Hp}{s:Shared}{a:Addr}{kvs:List (Key×V)}{k:Key}{u:Value}{A:Around}{E:Value->Shared->Prop}
end
def NoSl(i:Expr):Prop:=∀ov iv,subscripted i false ov iv=operate [ov,iv] (getItem ov iv)
theorem y6K{prog:Program}{w:World}{A:Around}{E:Value->Shared->Prop}{s:Shared}{env:Env}{value slice:Expr}{pos:Pos}{T id:String}{Q:Value->Shared->Prop}
  (hl:typeLookup (.type T) "__getitem__"=pure (some (.builtin id))) (hs:NoSl slice)
  (h:wpAny (model prog w) A (eval value env) (fun o s₁=>wpAny (model prog w) A (eval slice env) (fun i s₂=>s₂.TypeIs o T/\wpAny (model prog w) A (getItem o i) Q E s₂) E s₁) E s) :
  wpAny (model prog w) A (eval (.Subscript value slice pos) env) Q E s:=by
 refine Subscript_ (wpAny_mono h (fun o s₁ h₁=>wpAny_mono h₁ (fun i s₂ h₂=>?_) fun _ _ x=>x) fun _ _ x=>x)
 obtain⟨hT,h₂⟩:=h₂
 unfold subscriptTail
 refine wpAny_bind ?_
 rw[getitemInPython_of_ne hT.not_modules]
 refine wpAny_bind (wpAny_specialOf hT hl ?_)
 have fin:wpAny (model prog w) A (subscripted slice false o i) (fun r s₃=>wpAny (model prog w) A (letTemporaryGo value o r >>= fun _=>pure r) Q E s₃) E s₂:=by
  rw[hs o i]
  exact wpAny_operating (wpAny_mono h₂ (fun r s₃ h₃=>wpAny_bind (wpAny_letTemporaryGo (wpAny_pure h₃))) fun _ _ x=>x)
 first
  | exact wpAny_pure (wpAny_bind fin)
  | exact wpAny_bind (wpAny_pure (wpAny_bind fin))
  | exact wpAny_bind fin
theorem y12{X:Cx}{pins:List (Addr×Obj)}{σ:St}{H:Hp}{s:Shared}{a:Addr}{y:V}{o:Option V}(I:Inv X pins σ H s)(g:L7 H a y o):s.TypeIs (.ref a) "dict":=by
 rcases g with ⟨kvs,k,e,_,_⟩|⟨kvs,k,b,e,_,_,_⟩
 ·obtain⟨_,_,vs,_,dd⟩:=y5g I.hok e
  exact dd.typeIs
 ·obtain⟨_,_,xs,_,dd⟩:=y5e I.hok e
  exact dd.typeIs
def w0t(td ty:TE):TE:=fun σ H Q=>td σ H fun x H1=>ty σ H1 fun y H2=>∃a v,x=.ref a/\L7 H2 a y (some v)/\Q v H2
def tDIn(ty td:TE):TE:=fun σ H Q=>ty σ H fun y H1=>td σ H1 fun x H2=>∃a o,x=.ref a/\L7 H2 a y o/\Q (.bl o.isSome) H2
def w0U(td ty tv:TE):TS:=fun D σ H=>tv σ H fun v H1=>td σ H1 fun x H2=>ty σ H2 fun y H3=>∃a H4,x=.ref a/\T4 H3 a y v H4/\D.nx σ H4
section
variable{X:Cx}{o i e value:Expr}{pos pos' tpos:Pos}{td ty tv:TE}
theorem z6P(hu:X.A.units+1<cLine)(ho:PE X o td)(hi:PE X i ty)(hs:NoSl i):PE X (.Subscript o i pos) (w0t td ty):=by
 intro pins s σ H Q I h
 refine y6K PySem.F.slot_dict_getitem.lookup hs (thn (ho pins s σ H _ I h) fun u s1 ⟨x,H1,I1,rx,q1⟩=>thn (hi pins s1 σ H1 _ I1 q1) fun iv s2 hz=>?_)
 obtain⟨y,H2,I2,ry,a,v,ex,g,q2⟩:=hz
 subst ex
 obtain rfl:u=Value.ref a:=rx
 exact⟨y12 I2 g,y2W hu I2 g ry fun w' s3 I3 rw'=>⟨v,H2,I3,rw',q2⟩⟩
theorem y4f(hu:X.A.units+1<cLine)(hi:PE X i ty)(ho:PE X o td):PC X .In i o (tDIn ty td):=by
 intro pins s σ H Q I h
 refine thn (hi pins s σ H _ I h) fun iv s1 ⟨y,H1,I1,ry,q1⟩=>thn (ho pins s1 σ H1 _ I1 q1) fun u s2 hz=>?_
 obtain⟨x,H2,I2,rx,a,ov,ex,g,q2⟩:=hz
 subst ex
 obtain rfl:u=Value.ref a:=rx
 exact d_in hu I2 g ry fun s3 I3=>⟨.bl ov.isSome,H2,I3,rfl,q2⟩
theorem y0M(hu:X.A.units+1<cLine)(ho:PE X o td)(hi:PE X i ty)(hv:PE X value tv)(hs:swapsWith value (some (.Subscript o i pos')) pos.line X.env=pure false) :
  PS X (.Assign [.Subscript o i pos'] value pos) (w0U td ty tv):=by
 intro pins s σ H D I h
 refine wpAny_Assign_Subscript (thn (hv pins s σ H _ I h) fun r s1 ⟨v,H1,I1,rv,q1⟩=>thn (ho pins s1 σ H1 _ I1 q1) fun u s2 ⟨x,H2,I2,rx,q2⟩=>thn (hi pins s2 σ H2 _ I2 q2) fun iv s3 hz=>?_) hs
 obtain⟨y,H3,I3,ry,a,H4,ex,g,q3⟩:=hz
 subst ex
 obtain rfl:u=Value.ref a:=rx
 exact y47 hu I3 g ry rv fun s4 I4=>⟨σ,H4,I4,q3⟩
end
theorem y4O{P:Program}{w:World}{H:Hp}(h:Heap)(hb:sysModules<h.objs.size):z1B P w H (h.push { cls:=.type "dict",data:=.dict #[] }) h.objs.size (.dK []):=
 ⟨cV _,beq_eq_false_iff_ne.mpr (dE (cK hb)),[],.nil,Heap.DictOf.new h⟩
def y7t:TE:=fun _ H Q=>∀p,H p=none->Q (.ref p) (upd H p (.dK []))
section
variable{X:Cx}{pos:Pos}
theorem y1u:PE X (.Dict [] [] pos) y7t:=fun pins s σ H Q I h=>
 wpAny_Dict_empty ⟨.ref s.heap.objs.size,_,I.laid (a:=s.heap.objs.size) (o:=.dK []) (t':=s.toks) (fun _ _ q=>b9 _ q) (bE _) (y4O s.heap I.big),rfl,h _ (I.hok.fresh (bE _))⟩
end
section
variable{X:Cx}{pins:List (Addr×Obj)}{σ:St}{H:Hp}{s:Shared}{a:Addr}{y d:V}{u r:Value}{o:Option V}{A:Around}{E:Value->Shared->Prop}
end
section
variable{X:Cx}{o e f:Expr}{apos T7:Pos}{td ty tx:TE}
end
section
variable{X:Cx}{pins:List (Addr×Obj)}{σ:St}{H:Hp}{s:Shared}{a:Addr}{kvs:List (Key×V)}{A:Around}{E:Value->Shared->Prop}
end
section
variable{X:Cx}{pins:List (Addr×Obj)}{σ:St}{H:Hp}{s:Shared}{a:Addr}{y:V}{u:Value}{A:Around}{E:Value->Shared->Prop}
end
structure D2(P:Program)(w:World)(K:PySem.W.Frag)(mg:Str->Option Value)(base:Heap)(k:Nat)(C:Addr)(m:Str)(ps:List Str)(sp:Sp):Prop where
 cl:Cls K C
 ex:∃(f:Addr) (fd:FuncData),A7 P w K mg base CX0 k f fd ps sp/\z21 K fd ps []/\Meth K C m f
theorem D2.mk'{P:Program}{w:World}{K:PySem.W.Frag}{mg:Str->Option Value}{base:Heap}{k:Nat}{C:Addr}{m:Str}{ps:List Str}{sp:Sp}{f:Addr}{fd:FuncData}(c:Cls K C)(a:A7 P w K mg base CX0 k f fd ps sp)(b:z21 K fd ps [])(d:Meth K C m f) :
  D2 P w K mg base k C m ps sp:=⟨c,f,fd,a,b,d⟩
section
variable{X:Cx}{k:Nat}{C:Addr}{m x:Str}{ps:List Str}{sp:Sp}{o e:Expr}{es:List Expr}{ta:TE}{t:TA}{p pos apos:Pos}{pl:Sem Bool}
theorem z2a(G:D2 X.prog X.w X.K X.mg X.base k C m ps sp)(hr:D4 k X.A)(he:PE X o ta)(ha:PA X (e::es) t)
  (hst:starEach (e::es) X.env=(false,eval e X.env)::starEach es X.env:=by rfl) (hpl:(backTo pos (starEach es X.env)).any (·.1)=false:=by rfl)
  (ht:eval (.Call (.Attribute o m apos) (e::es) [] pos) X.env=(do
   let ov <- eval o X.env
   standAt apos.atName
   let (f,first) <- holding [ov] (getMethod ov m pl)
   callWith pos f first (backTo pos (starEach (e::es) X.env)) (backToKw pos (keywordEach [] X.env))):=by rfl) :
  PE X (.Call (.Attribute o m apos) (e::es) [] pos) (y2L C m sp [] E0 ta t):=by
 obtain⟨f,fd,a,b,d⟩:=G.ex
 exact y4g he G.cl d a hr b .nil y28 ha hst hpl ht
theorem z1M(G:D2 X.prog X.w X.K X.mg X.base k C m ps sp)(hr:D4 k X.A)(he:PE X o ta)
  (ht:eval (.Call (.Attribute o m apos) [] [] pos) X.env=(do
   let ov <- eval o X.env
   standAt apos.atName
   let (f,first) <- holding [ov] (getMethod ov m pl)
   callWith pos f first (backTo pos (starEach [] X.env)) (backToKw pos (keywordEach [] X.env))):=by rfl) :
  PE X (.Call (.Attribute o m apos) [] [] pos) (y2L C m sp [] E0 ta V7):=by
 obtain⟨f,fd,a,b,d⟩:=G.ex
 exact y4L he G.cl d a hr b .nil y28 ht
end
structure Mkr(P:Program)(w:World)(K:PySem.W.Frag)(mg:Str->Option Value)(base:Heap)(k:Nat)(C:Addr)(x:Str)(ps:List Str)(sp:Sp):Prop where
 ex:∃(f:Addr) (fd:FuncData),A7 P w K mg base CX0 k f fd ps sp/\z21 K fd ps []/\Mk K C f/\mg x=some (.ref C)
theorem Mkr.mk'{P:Program}{w:World}{K:PySem.W.Frag}{mg:Str->Option Value}{base:Heap}{k:Nat}{C:Addr}{x:Str}{ps:List Str}{sp:Sp}{f:Addr}{fd:FuncData}(a:A7 P w K mg base CX0 k f fd ps sp)(b:z21 K fd ps [])(c:Mk K C f)(d:mg x=some (.ref C)) :
  Mkr P w K mg base k C x ps sp:=⟨f,fd,a,b,c,d⟩
section
variable{X:Cx}{k:Nat}{C:Addr}{m x:Str}{ps:List Str}{sp:Sp}{o e:Expr}{es:List Expr}{ta:TE}{t:TA}{p pos apos:Pos}
theorem y4j(G:Mkr X.prog X.w X.K X.mg X.base k C x ps sp)(hr:D4 (k+1) X.A)(hg:Gl X x)(ha:PA X (e::es) t)
  (hdb:(x == ("__debug__":Str))=false:=by decide) (he:starEach (e::es) X.env=(false,eval e X.env)::starEach es X.env:=by rfl) (hpl:(backTo pos (starEach es X.env)).any (·.1)=false:=by rfl) :
  PE X (.Call (.Name x p) (e::es) [] pos) (y7b C sp [] E0 t):=by
 obtain⟨f,fd,a,b,c,d⟩:=G.ex
 exact y6B c a hr hg d b .nil y28 ha hdb he hpl
theorem z2P{n:Int}(hg:Gl X x)(hm:∃t,X.mg x=some (.int n t))(hd:(x == ("__debug__":Str))=false:=by decide):PE X (.Name x pos) (tC (.int n)):=by
 obtain⟨t,e⟩:=hm
 exact y36 hg e ⟨t,rfl⟩ hd
end
def y5Q(K:PySem.W.Frag):List V->Hp->VK->Prop:=fun xs H Q=>∃p ys,xs=[.ref p]/\((SqL K H p ys/\∀l,H l=none->Q (.ref l) (upd H l (.tup ys)))\/(SqT K H p ys/\Q (.ref p) H))
section
variable{X:Cx}{K:PySem.W.Frag}
theorem z8D(h:X.K=K):z40 X (.type "tuple") (y5Q K):=by
 subst h
 exact z0o
end
section
variable{X:Cx}
def y7j(K:PySem.W.Frag)(le:Int->Int->Prop):List V->Hp->VK->Prop:=fun xs H Q=>∃p ns,xs=[.ref p]/\SqI K H p ns/\ns≠[]/\∀m,m∈ns->(∀y∈ns,le y m)->Q (.int m) H
theorem z3E(hc:X.calm=true):z40 X (.builtin "max") (y7j X.K fun y m=>y≤m):=by
 intro pins s σ H xs us Q I r h
 obtain⟨a,ns,rfl,hq,hn,q⟩:=h
 obtain⟨u,rfl,ru⟩:=z4X r
 cases ru
 refine call_max_walk (z5W (A:=X.A.in1) I (I.ok.hd hc) hq fun it fp St its s3 rv W st hfp back=>?_)
 have hl:=rv.length
 rw[b7] at hl
 have h0:0<its.length:=by
  rw[<- hl]
  exact jE.mpr hn
 refine⟨it,fp,[it],_,_,St,_,rfl,W,st,hfp,by rw[bF];exact h0,CmpOf.ints_gt (fun i=>ns.getD i 0) (z3e rv),fun v h' tk hv k=>?_⟩
 rw[bF] at hv
 obtain⟨t,rfl⟩:=z3e rv _ _ hv
 obtain⟨b1,b2⟩:=z9z (fun i=>ns.getD i 0) (its.length-1)
 refine⟨.int _,H,back h' tk k,⟨t,rfl⟩,q _ (z7q (by omega)) fun y hy=>?_⟩
 obtain⟨i,hi,rfl⟩:=z7r hy
 exact b2 i (by omega)
theorem z7W(hc:X.calm=true):z40 X (.builtin "min") (y7j X.K fun y m=>m≤y):=by
 intro pins s σ H xs us Q I r h
 obtain⟨a,ns,rfl,hq,hn,q⟩:=h
 obtain⟨u,rfl,ru⟩:=z4X r
 cases ru
 refine call_min_walk (z5W (A:=X.A.in1) I (I.ok.hd hc) hq fun it fp St its s3 rv W st hfp back=>?_)
 have hl:=rv.length
 rw[b7] at hl
 have h0:0<its.length:=by
  rw[<- hl]
  exact jE.mpr hn
 refine⟨it,fp,[it],_,_,St,_,rfl,W,st,hfp,by rw[bF];exact h0,CmpOf.ints_lt (fun i=>ns.getD i 0) (z3e rv),fun v h' tk hv k=>?_⟩
 rw[bF] at hv
 obtain⟨t,rfl⟩:=z3e rv _ _ hv
 obtain⟨b1,b2⟩:=z9x (fun i=>ns.getD i 0) (its.length-1)
 refine⟨.int _,H,back h' tk k,⟨t,rfl⟩,q _ (z7q (by omega)) fun y hy=>?_⟩
 obtain⟨i,hi,rfl⟩:=z7r hy
 exact b2 i (by omega)
theorem y67(hu:X.A.units<cLine):OpR X (compareOp .Eq) (fun x y H Q=>∃a b xs,x=.ref a/\y=.ref b/\SqL X.K H a xs/\SqL X.K H b []/\Q (.bl xs.isEmpty) H):=by
 intro pins s σ H x y v u Q I rx ry h
 obtain⟨a,b,xs,rfl,rfl,ha,hb,q⟩:=h
 cases rx
 cases ry
 obtain⟨its,r,pl,hz⟩:=I.list ha
 obtain⟨L0,r2,pl2,hz2⟩:=I.list hb
 cases r2
 have hl:=r.length
 cases xs with
 | nil=>
  cases r
  exact SeqAt.RcAt.lists (e:=fun _=>true) pl.isList pl2.isList rfl hu (fun j h1 _=>absurd h1 (gK _)) X.prog X.w X.xe _ ⟨.bl true,H,I,rfl,q⟩
 | cons x0 xr=>
  refine SeqAt.RcAt.lists_lengths pl.isList pl2.isList ?_ hu X.prog X.w X.xe _ ⟨.bl false,H,I,rfl,q⟩
  rw[bF,<- hl]
  rfl
end
end L2
namespace L2
open PySem
section
variable{prog:Program}{w:World}{A:Around}{E:Value->Shared->Prop}{s:Shared}{κ:Type}[DecidableEq κ]{kd:KeyKind prog w κ}{led:Bool}
end
end L2
namespace L2
open PySem PySem.Spec PyProof.Rows
namespace Ty
end Ty
section
variable{prog:Program}{w:World}{A:Around}{E:Value->Shared->Prop}{s:Shared}
end
namespace Ty
end Ty
section
variable{prog:Program}{w:World}{A:Around}{E:Value->Shared->Prop}{s:Shared}{κ:Type}[DecidableEq κ]{kd:KeyKind prog w κ}
end
section
variable{X:Cx}
end
theorem z2D:Slot "reversed" "__next__" "reversed.__next__":=
 .of (owner:="reversed") (n:="__next__") (by rw[typeLookup_type,builtinLookup_eq_fast];kernel_rfl) (by decide +kernel) (by decide +kernel) (by decide +kernel) (by first|exact .inl (by decide +kernel)|exact .inr (by decide +kernel)) (by rw[isSubtype_type];kernel_rfl)
theorem z7a:Slot "reversed" "__iter__" "reversed.__iter__":=
 .of (owner:="reversed") (n:="__iter__") (by rw[typeLookup_type,builtinLookup_eq_fast];kernel_rfl) (by decide +kernel) (by decide +kernel) (by decide +kernel) (by first|exact .inl (by decide +kernel)|exact .inr (by decide +kernel)) (by rw[isSubtype_type];kernel_rfl)
theorem y0f:Slot "reversed" "__init__" "object.__init__":=
 .of (owner:="object") (n:="__init__") (by rw[typeLookup_type,builtinLookup_eq_fast];kernel_rfl) (by decide +kernel) (by decide +kernel) (by decide +kernel) (by first|exact .inl (by decide +kernel)|exact .inr (by decide +kernel)) (by rw[isSubtype_type];kernel_rfl)
theorem z65:entryFor table "reversed.__next__"=some Builtin.«reversed.__next__»:=entryFor_of_tree (by kernel_rfl)
theorem z9B:entryFor table "reversed.__iter__"=some Builtin.«dict_keyiterator.__iter__»:=entryFor_alias (id':="dict_keyiterator.__iter__") (by kernel_rfl) (by first|rfl|decide +kernel|(unfold String.splitOn;simp +decide [String.splitOnAux])) (by decide +kernel) (by kernel_rfl)
theorem z7f(a:Value):argsOk "reversed.__next__" ⟨[a],[]⟩:=by unfold argsOk;kernel_rfl
theorem y0D(a:Value):argsOk "reversed.__iter__" ⟨[a],[]⟩:=by unfold argsOk;kernel_rfl
theorem z7I:TypeCalled "reversed" "reversed.__new__" "object.__init__":=
 ⟨by decide +kernel,by decide +kernel,⟨_,_,PySem.F.mro_reversed⟩,PySem.F.made_reversed,by decide +kernel,PySem.F.sub_reversed_self,y0f⟩
theorem z9u:typeLookup (.type "tuple") "__reversed__"=pure none:=by rw[typeLookup_type,builtinLookup_eq_fast];kernel_rfl
theorem y2b:isSubtype (.type "tuple") (.type "dict")=pure false:=by rw[isSubtype_type];kernel_rfl
abbrev z9w(t:Addr)(i:Int):Obj:={ cls:=.type "reversed",dict:=none,data:=.fields #[.ref t,rawInt i],slots:=#[] }
section
variable{prog:Program}{w:World}{A:Around}{E:Value->Shared->Prop}{s:Shared}
theorem y1b{t:Addr}{items:Array Value}{Q:Value->Shared->Prop}(ht:IsTup s.heap t items)(hf:(items.size:Int)<2^63)(h:∀tk,Q (.ref s.heap.objs.size) { s with heap:=s.heap.push (z9w t ((items.size:Int)-1)),toks:=tk }) :
  codeAny (model prog w) A (.call (.builtin "reversed.__new__") ⟨[.type "reversed",.ref t],[]⟩) (wants Q E) s:=by
 refine codeAny_of_tree ?_
 show wpAny _ A.in1 (do checkBuiltinCall "reversed.__new__" ⟨[.type "reversed",.ref t],[]⟩;again (.builtin "reversed.__new__" ⟨[.type "reversed",.ref t],[]⟩)) _ _ s
 refine wpAny_bind (wpAny_of_eq (PySem.F.newCall_reversed_1 _) (wpAny_pure ⟨plainId_quiet PySem.F.plain_reversed_new _,codeAny_builtin PySem.F.entry_reversed_new ?_⟩))
 rw[cN PySem.F.plain_reversed_new _]
 unfold Builtin.«reversed.__new__»
 refine wpAny_bind (wpAny_of_eq (newClass_reversed _) ?_)
 try dsimp only
 refine wpAny_bind (wpAny_of_eq (a:=()) (by first|rfl|kernel_rfl) ?_)
 refine wpAny_bind (wpAny_of_eq (a:=()) (by first|rfl|kernel_rfl) ?_)
 try dsimp only
 refine wpAny_bind (wpAny_specialOf ht.typeIs z9u ?_)
 try dsimp only
 refine wpAny_bind ?_
 show wpAny _ _ (isInstance (.ref t) (.type "dict") >>= fun b=>_) _ _ _
 refine wpAny_bind (wpAny_isInstance (T:="tuple") ht.typeIs y2b ?_)
 rw[if_neg (by decide)]
 refine wpAny_bind (wpAny_specialOf ht.typeIs slot_tuple_getitem.lookup ?_)
 dsimp only
 rw[if_pos (by decide +kernel)]
 refine wpAny_pure ?_
 rw[if_neg (by decide)]
 refine wpAny_bind (len_tuple ht hf ?_)
 refine wpAny_bind (wpAny_of_eq (a:=some (items.size:Int)) rfl ?_)
 dsimp only
 refine wpAny_bind ?_
 show wpAny _ _ (newObj (.type "reversed") (.fields #[.ref t,rawInt ((items.size:Int)-1)])) _ _ _
 exact wpAny_newObj_type (wpAny_pure (h _)) (by size_fits)
theorem y6O{t:Addr}{items:Array Value}{Q:Value->Shared->Prop}(ht:IsTup s.heap t items)(hf:(items.size:Int)<2^63)(h:∀tk,Q (.ref s.heap.objs.size) { s with heap:=s.heap.push (z9w t ((items.size:Int)-1)),toks:=tk }) :
  wpAny (model prog w) A (call (.type "reversed") [.ref t]) Q E s:=by
 refine callType_codes (Q₁:=fun obj s₁=>obj=.ref s.heap.objs.size/\∃tk,s₁={ s with heap:=s.heap.push (z9w t ((items.size:Int)-1)),toks:=tk }) z7I (PySem.F.typeCall_reversed_1 _) F.entry_object_init (y1b ht hf fun tk=>⟨rfl,tk,rfl⟩) ?_
 rintro obj s₁ ⟨rfl,tk,rfl⟩
 have ty:Shared.TypeIs { s with heap:=s.heap.push (z9w t ((items.size:Int)-1)),toks:=tk } (.ref s.heap.objs.size) "reversed":=⟨_,bM _ rfl,rfl⟩
 exact⟨ty,F.args_object_init_2 _ _,object_init_meets z7I.init.lookup z7I.made (by decide) _ _ _ _ _ ⟨ty,rfl,h tk⟩⟩
theorem y70{I t:Addr}{i:Nat}{items:Array Value}{x:Value}{Q:Option Value->Shared->Prop}(hI:s.heap.get? I=some (z9w t (i:Int)))(ht:IsTup s.heap t items)(hx:items[i]? = some x)(hz:(items.size:Int)<2^63)
  (hQ:∀h' tk,h'.get? I=some (z9w t ((i:Int)-1))->Heap.SameBut I s.heap h'->Q (some x) { s with heap:=h',toks:=tk }):wpAny (model prog w) A (pyNext (.ref I)) Q E s:=by
 have ty:s.TypeIs (.ref I) "reversed":=⟨_,hI,rfl⟩
 have hi:i<items.size:=(Array.getElem?_eq_some_iff.mp hx).1
 unfold pyNext
 refine wpAny_bind (wpAny_attempt (wpAny_callSpecial?_slot (name:=Str.ofString "__next__") ty z2D
  (wpAny_call_entry z2D ty z65 ?_ (z7f _))))
 unfold Builtin.«reversed.__next__»
 refine wpAny_bind (wpAny_of_eq (a:=(Value.ref I,[])) rfl ?_)
 try dsimp only
 refine wpAny_bind (wpAny_field hI rfl (x:=.ref t) rfl ?_)
 refine wpAny_bind (wpAny_field hI rfl (x:=rawInt (i:Int)) rfl ?_)
 show wpAny _ _ (if (i:Int)<0 then _ else _) _ _ s
 rw[if_neg (by omega)]
 refine wpAny_bind (wpAny_specialOf ht.typeIs slot_tuple_getitem.lookup ?_)
 rw[if_neg (by decide)]
 refine wpAny_bind (wpAny_mkInt ?_)
 refine wpAny_bind (wpAny_attempt (getItem_tuple (j:=i) (x:=x) ht (by omega) (by omega) ?_ hx ?_))
 ·exact seqIndex_of (by omega) (by omega)
 dsimp only
 refine wpAny_bind (wpAny_field hI rfl (x:=rawInt (i:Int)) rfl ?_)
 show wpAny _ _ (setField (.ref I) 1 (rawInt ((i:Int)-1)) >>= _) _ _ _
 refine wpAny_bind (wpAny_setField hI rfl (by simp) ?_)
 refine wpAny_pure ⟨x,rfl,wpAny_pure (hQ _ _ ?_ (jF ..))⟩
 exact eI _ hI rfl
theorem y7J{I t:Addr}{Q:Option Value->Shared->Prop}(hh:A.handled=none)(hI:s.heap.get? I=some (z9w t (-1)))
  (hQ:∀h',Heap.ExtBut I s.heap h'->Q none { s with heap:=h' }):wpAny (model prog w) A (pyNext (.ref I)) Q E s:=by
 have ty:s.TypeIs (.ref I) "reversed":=⟨_,hI,rfl⟩
 unfold pyNext
 refine wpAny_bind (wpAny_attempt (wpAny_callSpecial?_slot (name:=Str.ofString "__next__") ty z2D
  (wpAny_call_entry z2D ty z65 ?_ (z7f _))))
 unfold Builtin.«reversed.__next__»
 refine wpAny_bind (wpAny_of_eq (a:=(Value.ref I,[])) rfl ?_)
 try dsimp only
 refine wpAny_bind (wpAny_field hI rfl (x:=.ref t) rfl ?_)
 refine wpAny_bind (wpAny_field hI rfl (x:=rawInt (-1)) rfl ?_)
 show wpAny _ _ (if (-1:Int)<0 then _ else _) _ _ s
 rw[if_pos (by decide)]
 refine wpAny_bind (wpAny_rule ?_)
 refine wpAny_bind ?_
 show wpAny _ _ (setField (.ref I) 1 (rawInt (-1)) >>= fun _=>setField (.ref I) 0 .none) _ _ _
 refine wpAny_bind (wpAny_setField hI rfl (by simp) ?_)
 have g1:=eI (Obj.mapFields (·.setIfInBounds 1 (rawInt (-1)))) hI rfl
 have b1:Heap.SameBut I s.heap (s.heap.update I (Obj.mapFields (·.setIfInBounds 1 (rawInt (-1))))):=jF ..
 refine wpAny_setField (vs:=#[.ref t,rawInt (-1)]) g1 rfl (by simp) ?_
 have b2:Heap.SameBut I (s.heap.update I (Obj.mapFields (·.setIfInBounds 1 (rawInt (-1))))) ((s.heap.update I (Obj.mapFields (·.setIfInBounds 1 (rawInt (-1))))).update I (Obj.mapFields (·.setIfInBounds 0 .none))):=jF ..
 refine wpAny_bind ?_
 unfold Builtin.SmallTypes.stopIteration
 refine wpAny_bind ?_
 simp only[newExc,newTuple]
 refine wpAny_bind (wpAny_newObj_type ?_ (by size_fits))
 refine wpAny_bind (m:=firstArgMember _ _) (wpAny_of_eq (a:=Value.none) (by first|rfl|(simp only[firstArgMember];rfl)) (wpAny_newObj_type ?_ (by size_fits)))
 simp only[raiseNew]
 refine wpAny_bind (wpAny_handled ?_)
 rw[show A.in1.handled=none from hh]
 refine wpAny_bind (wpAny_pure (wpAny_throw ?_))
 refine wpAny_bind (wpAny_isInstance (T:="StopIteration") (b:=true) ⟨_,bM _ rfl,rfl⟩ isSubtype_stop ?_)
 exact wpAny_pure (hQ _ fun b o hb e=>b9 _ (b9 _ ((b2.2 b hb).trans ((b1.2 b hb).trans e))))
theorem y4B{I t:Addr}{i:Int}{Q:Value->Shared->Prop}(hI:s.heap.get? I=some (z9w t i))(h:Q (.ref I) s):wpAny (model prog w) A (pyIter (.ref I)) Q E s:=by
 have ty:s.TypeIs (.ref I) "reversed":=⟨_,hI,rfl⟩
 refine wpAny_pyIter_slot ty z7a (wpAny_call_entry z7a ty z9B ?_ (y0D _))
 show wpAny _ _ (ret (.ref I)) _ _ s
 exact wpAny_pure ⟨_,rfl,"reversed",_,ty,z2D.lookup,h⟩
end
def Itv(K:PySem.W.Frag)(a:Addr)(n:Nat):It:=
 ⟨fun i H=>i<n/\∃xs,SqT K H a xs/\xs.length=n,fun i H x H'=>H'=H/\∀xs,SqT K H a xs->xs.reverse[i]? = some x,fun i H=>n≤i⟩
theorem y5I{P:Program}{w:World}{K:PySem.W.Frag}{tg:Expr}(a it:Addr)(n:Nat):Turn P w K tg (Itv K a n) [it] it (fun i h=>i≤n/\h.get? it=some (z9w a ((n:Int)-1-(i:Int)))) where
 mem:=by simp
 obj:=fun i h st b hb=>by
  have e:b=it:=by simpa using hb
  subst e
  exact⟨_,st.2,fun v z=>by
   have z':Data.fields _=Data.cell v:=z
   cases z'⟩
 keep:=fun i h h' st k=>⟨st.1,k it (by simp) _ st.2⟩
 item:=by
  intro X hP hw hK hc i pins s σ H E I hf st hg
  subst hP hw hK
  obtain⟨hi,xs,hq,hn⟩:=hg
  obtain⟨its,rv,p,hz⟩:=I.tuple hq
  have ln:xs.length=its.length:=rv.length
  have hk:n-1-i<xs.length:=by omega
  obtain⟨u,hu,ru⟩:=rv.get (bC hk)
  obtain⟨f0,f1,f2,f3,f4,f5⟩:=hf it (by simp)
  have e1:(n:Int)-1-(i:Int)=((n-1-i:Nat):Int):=by omega
  have st1:=st.2
  rw[e1] at st1
  refine y70 st1 (show IsTup s.heap a its.toArray from p) (x:=u) (by simpa using hu) ?_ fun h' tk st' sb=>?_
  ·have:its.toArray.size=xs.length:=by simp[ln]
   rw[this]
   have:=eF hz z7h
   omega
  have I1:Inv X pins σ H { s with heap:=h',toks:=tk }:=I.turned (t':=tk) (fun b o hb e=>(sb.2 b hb).trans e) f0 f1 f3 f4 f5
  refine⟨u,rfl,y57 (s:={ s with heap:=h',toks:=tk }) st' rfl rfl (by decide) ⟨xs[n-1-i],H,I1,ru,⟨rfl,fun ys hy=>?_⟩,⟨hi,?_⟩,fun b hb=>(hf b hb).1⟩⟩
  ·rw[I.R7 hy hq,j5 (by omega),bC (by omega)]
   congr 2
   omega
  ·have e2:(n:Int)-1-((i+1:Nat):Int)=((n-1-i:Nat):Int)-1:=by omega
   rw[e2]
   exact st'
 done:=by
  intro X hP hw hK hc i pins s σ H E I hf st hg
  subst hP hw hK
  obtain⟨f0,f1,f2,f3,f4,f5⟩:=hf it (by simp)
  have hg':n≤i:=hg
  have st1:=st.2
  rw[show(n:Int)-1-(i:Int)=-1 by have:=st.1;omega] at st1
  exact y7J (I.ok.hd hc) st1 fun h' eb=>⟨rfl,I.turned (t':=s.toks) (fun b o hb e=>eb b o hb e) f0 f1 f3 f4 f5⟩
 self:=fun _ _ _ _ _ st h=>y4B st.2 h
section
variable{X:Cx}{tg:Expr}
def iRev(K:PySem.W.Frag)(ta:TA):TI:=fun σ H R=>ta σ H fun vs H1=>∃a xs,vs=[.ref a]/\SqT K H1 a xs/\R (Itv K a xs.length) H1
theorem y5M{e:Expr}{ta:TA}{p pos:Pos}(hg:Gl X "reversed")(hm:X.mg "reversed"=none)(ha:PA X [e] ta)(hs:starEach [e] X.env=[(false,eval e X.env)]:=by rfl):PI X tg (.Call (.Name "reversed" p) [e] [] pos) (iRev X.K ta):=by
 intro pins s σ H R I h
 refine Call_ (z79 I hg hm boot_reversed (eQ (thn (ha pos pins s σ H _ I h) fun us s1 ⟨vs,H1,I1,r1,q1⟩=>?_) hs rfl))
 obtain⟨a,xs,e,hq,q⟩:=q1
 subst e
 cases r1 with
 | cons r rr=>
  cases rr
  cases r
  obtain⟨its,rv,p,hz⟩:=I1.tuple hq
  have ln:(its.toArray.size:Int)=xs.length:=by simp[rv.length]
  refine y6O (show IsTup s1.heap a its.toArray from p) ?_ fun tk=>?_
  ·rw[ln]
   have:=eF hz z7h
   omega
  refine y4B (bM _ rfl) ?_
  refine⟨s1.heap.objs.size,[s1.heap.objs.size],_,_,H1,rfl,I1.kept (t':=tk) fun b o e=>b9 _ e,y5I a _ xs.length,⟨cV _,?_⟩,fun b hb=>?_,q⟩
  ·rw[show(xs.length:Int)-1-((0:Nat):Int)=(its.toArray.size:Int)-1 by rw[ln];simp]
   exact bM _ rfl
  ·have e:b=s1.heap.objs.size:=by simpa using hb
   subst e
   exact I1.S8 (bE _) (I1.hok.fresh (bE _))
end
theorem y5F{K:PySem.W.Frag}{a:Addr}{xs:List V}{g:TG}{tc:TT}{te:TE}{σ0:St}{H1:Hp}{F:List V->Hp->Prop}(Pv:Nat->List V->Hp->Prop)(h0:Pv 0 [] H1)
  (hl:∀i ys H,i≤xs.length->Pv i ys H->SqT K H a xs/\ys.length<sizeLine)
  (hs:∀i x ys H,xs.reverse[i]? = some x->Pv i ys H->z1C g tc te σ0 x H ys (Pv (i+1))) (hd:∀ys H,Pv xs.length ys H->F ys H):y08 (Itv K a xs.length) g tc te σ0 H1 F:=by
 refine⟨fun i m ys H=>m=xs.length-i/\i≤xs.length/\Pv i ys H,⟨xs.length,by simp,cV _,h0⟩,?_⟩
 rintro i m ys H ⟨rfl,hi,p⟩
 obtain⟨q,z⟩:=hl i ys H hi p
 by_cases hlt:i<xs.length
 ·refine .inr ⟨⟨hlt,xs,q,rfl⟩,z,Pv (i+1),fun zs H' p'=>⟨xs.length-(i+1),by omega,rfl,hlt,p'⟩,fun x H' y=>?_⟩
  obtain⟨e,y⟩:=y
  subst e
  exact hs i x ys _ (y xs q) p
 ·have e:i=xs.length:=by omega
  subst e
  exact .inl ⟨bE _,hd ys H p⟩
theorem y69{K:PySem.W.Frag}{a:Addr}{xs:List V}{g:TG}{tb:TS}{D:Ends}{σ:St}{H:Hp}(Pv:Nat->St->Hp->Prop)(h0:Pv 0 σ H)(hl:∀i σ H,i≤xs.length->Pv i σ H->SqT K H a xs)
  (hs:∀i x σ H,xs.reverse[i]? = some x->Pv i σ H->g x σ H fun σ2 H2=>tb { D with nx:=Pv (i+1),ct:=Pv (i+1),bk:=D.nx } σ2 H2) (hd:∀σ H,Pv xs.length σ H->D.nx σ H) :
  ∃W:Nat->Nat->St->Hp->Prop,(∃m,W 0 m σ H)/\∀i m σ H,W i m σ H->
   ((Itv K a xs.length).stop i H/\D.nx σ H)\/((Itv K a xs.length).go i H/\∃N:St->Hp->Prop,(∀σ' H',N σ' H'->∃m',m'<m/\W (i+1) m' σ' H')/\∀x H',(Itv K a xs.length).yld i H x H'->g x σ H' fun σ2 H2=>tb { D with nx:=N,ct:=N,bk:=D.nx } σ2 H2):=by
 refine⟨fun i m σ H=>m=xs.length-i/\i≤xs.length/\Pv i σ H,⟨xs.length,by simp,cV _,h0⟩,?_⟩
 rintro i m σ H ⟨rfl,hi',p⟩
 have q:=hl i σ H hi' p
 by_cases hlt:i<xs.length
 ·refine .inr ⟨⟨hlt,xs,q,rfl⟩,Pv (i+1),fun σ' H' p'=>⟨xs.length-(i+1),by omega,rfl,hlt,p'⟩,fun x H' y=>?_⟩
  obtain⟨e,y⟩:=y
  subst e
  exact hs i x σ _ (y xs q) p
 ·have e:i=xs.length:=by omega
  subst e
  exact .inl ⟨bE _,hd σ H p⟩
theorem len0{us:List Value}{p:List Value->Prop}(h:us.length=0)(k:p []):p us:=by rw[dU h];exact k
theorem P8{us:List Value}{p:List Value->Prop}(h:us.length=1)(k:∀a,p [a]):p us:=by
 obtain⟨a,r,rfl⟩:=cZ h
 exact len0 (p:=fun r=>p (a::r)) (Nat.succ.inj h) (k a)
theorem X7{us:List Value}{p:List Value->Prop}(h:us.length=2)(k:∀a b,p [a,b]):p us:=by
 obtain⟨a,r,rfl⟩:=cZ h
 exact P8 (p:=fun r=>p (a::r)) (Nat.succ.inj h) (k a)
theorem w08{us:List Value}{p:List Value->Prop}(h:us.length=3)(k:∀a b c,p [a,b,c]):p us:=by
 obtain⟨a,r,rfl⟩:=cZ h
 exact X7 (p:=fun r=>p (a::r)) (Nat.succ.inj h) (k a)
theorem len4{us:List Value}{p:List Value->Prop}(h:us.length=4)(k:∀a b c d,p [a,b,c,d]):p us:=by
 obtain⟨a,r,rfl⟩:=cZ h
 exact w08 (p:=fun r=>p (a::r)) (Nat.succ.inj h) (k a)
theorem len5{us:List Value}{p:List Value->Prop}(h:us.length=5)(k:∀a b c d e,p [a,b,c,d,e]):p us:=by
 obtain⟨a,r,rfl⟩:=cZ h
 exact len4 (p:=fun r=>p (a::r)) (Nat.succ.inj h) (k a)
theorem len6{us:List Value}{p:List Value->Prop}(h:us.length=6)(k:∀a b c d e f,p [a,b,c,d,e,f]):p us:=by
 obtain⟨a,r,rfl⟩:=cZ h
 exact len5 (p:=fun r=>p (a::r)) (Nat.succ.inj h) (k a)
theorem Cal.mono{P:Program}{w:World}{K:PySem.W.Frag}{mg:Str->Option Value}{base:Heap}{j k:Nat}{x:Str}{ps:List Str}{sp:Sp}(G:Cal P w K mg base j x ps sp)(h:j≤k):Cal P w K mg base k x ps sp:=by
 obtain⟨f,fd,a,b,c,d⟩:=G.ex
 exact⟨f,fd,a.mono h,b,c,d⟩
theorem D2.mono{P:Program}{w:World}{K:PySem.W.Frag}{mg:Str->Option Value}{base:Heap}{j k:Nat}{C:Addr}{m:Str}{ps:List Str}{sp:Sp}(G:D2 P w K mg base j C m ps sp)(h:j≤k):D2 P w K mg base k C m ps sp:=by
 obtain⟨f,fd,a,b,c⟩:=G.ex
 exact⟨G.cl,f,fd,a.mono h,b,c⟩
theorem Mkr.mono{P:Program}{w:World}{K:PySem.W.Frag}{mg:Str->Option Value}{base:Heap}{j k:Nat}{C:Addr}{x:Str}{ps:List Str}{sp:Sp}(G:Mkr P w K mg base j C x ps sp)(h:j≤k):Mkr P w K mg base k C x ps sp:=by
 obtain⟨f,fd,a,b,c,d⟩:=G.ex
 exact⟨f,fd,a.mono h,b,c,d⟩
theorem z26{X:Cx}{x z:Str}{pos:Pos}(hg:Gl X x)(hm:∃t,X.mg x=some (.str z t))(hd:(x == ("__debug__":Str))=false:=by decide):PE X (.Name x pos) (tC (.str z)):=by
 obtain⟨t,e⟩:=hm
 exact y36 hg e ⟨t,rfl⟩ hd
section
variable{X:Cx}
theorem z6Q{P:Program}{w:World}:∀{ns:List Int}{vs:List Value},vs.length=ns.length->(∀(j:Nat) (v:Value),vs[j]? = some v->∃k:Key,(ns.map Sum.inl)[j]? = some k/\(z1v P w).is k v=true)->IntsAre vs ns
 | [],[],_,_=>.nil
 | [],_::_,h,_=>by cases h
 | _::_,[],h,_=>by cases h
 | n::ns,v::vs,h,q=>by
  obtain⟨k,e,hk⟩:=q 0 v rfl
  cases e
  rcases z1c (show y0F (Sum.inl n) v=true from hk) with ⟨i,t,e1,rfl⟩|⟨x,t,e1,_⟩
  ·cases e1
   exact .cons n t (z6Q (Nat.succ.inj h) fun j u hu=>q (j+1) u hu)
  ·cases e1
theorem y0s{prog:Program}{w:World}{A:Around}{E:Value->Shared->Prop}{s:Shared}{R:List Value->Shared->Prop}{T:String}{r d:Addr}{n:Nat}{P:Nat->Value->Prop}{OK:Heap->Prop}(K:PySem.W.KdlSrc prog w T r d n P OK)(hh:A.handled=none)(hok:OK s.heap)(hn:n≤sizeLine)
  (fin:∀(h':Heap) (tk:Nat) (acc:Array Value),(∀b o,s.heap.get? b=some o->h'.get? b=some o)->s.heap.objs.size<h'.objs.size->ItemsOf P acc n->R acc.toList { s with heap:=h',toks:=tk }):wpAny (model prog w) A (collect (.ref r)) R E s:=by
 have hlt:=K.there _ hok
 unfold collect
 refine wpAny_bind (wpAny_runValue (codeAny_builtin entry_proto_collect' ?_))
 rw[cN PySem.F.plain_proto_collect _]
 refine(show wpAny _ A.in1 (newList [] >>= fun l=>again (.builtin "list.__iadd__" ⟨[l,.ref r],[]⟩)) _ _ s from wpAny_bind (wpAny_newObj_type (wpAny_pure ⟨plainId_quiet fK _,codeAny_builtin entry_list_iadd' ?_⟩)))
 rw[cN fK _]
 have g1:(s.heap.push { cls:=.type "list",data:=.seq ([]:List Value).toArray }).get? s.heap.objs.size=some { cls:=.type "list",data:=.seq #[] }:=bM _ rfl
 have ext:=PySem.W.kdl_extend (A:=A) (s:={ s with heap:=s.heap.push { cls:=.type "list",data:=.seq ([]:List Value).toArray } })
  (R:=fun(q:Result) (s':Shared)=>∃(h':Heap) (tk:Nat) (acc:Array Value) (c':Nat),q=.ok (.ret (.ref s.heap.objs.size))/\s'={ s with heap:=h',toks:=tk }/\(∀b o,s.heap.get? b=some o->h'.get? b=some o)/\
   h'.get? s.heap.objs.size=some { cls:=.type "list",dict:=none,data:=.seq acc c',slots:=#[] }/\ItemsOf P acc n)
  K hh (K.keep _ _ hok fun b _ o e=>b9 _ e) s.heap.objs.size (gM hlt.1) (gM hlt.2) (.ref s.heap.objs.size) 0 g1
  (fun h' tk acc c' k hS' so=>⟨h',tk,acc,c',rfl,rfl,fun b o e=>k b o (cK (bP e)) (b9 _ e),hS',so⟩) hn
 refine(show wpAny _ A.in1 (Builtin.List.listExtendWith (.ref s.heap.objs.size) (.ref r) (.ref s.heap.objs.size)) _ _ _ from wpAny_mono ext (fun f s' x=>?_) fun e s' x=>?_)
 ·cases f with
  | done f=>
   obtain⟨h',tk,acc,c',e,rfl,k,hS',so⟩:=x
   cases e
   exact(show wpAny _ A (load s.heap.objs.size >>= _) _ _ _ from wpAny_bind (wpAny_load hS' (wpAny_pure (fin h' tk _ k (bP hS') so))))
  | again c1=>
   refine⟨x.1,codeAny_mono x.2 fun q s2 y=>?_⟩
   obtain⟨h',tk,acc,c',rfl,rfl,k,hS',so⟩:=y
   exact(show wpAny _ A (load s.heap.objs.size >>= _) _ _ _ from wpAny_bind (wpAny_load hS' (wpAny_pure (fin h' tk _ k (bP hS') so))))
 ·obtain⟨_,_,_,_,e',_⟩:=x
  cases e'
theorem z48(hc:X.calm=true):z40 X (.builtin "sorted") (fun xs H Q=>∃(p:Addr) (kvs:List (Key×V)) (ns:List Int),xs=[.ref p]/\H p=some (.dK kvs)/\kvs.map (·.1)=ns.map Sum.inl/\ns.length<64/\
  ∀(l:Addr) (ms:List Int),H l=none->ms.Perm ns->ms.Pairwise (·≤·)->Q (.ref l) (upd H l (.lst (ms.map V.int)))):=by
 intro pins s σ H xs us Q I r h
 obtain⟨p,kvs,ns,rfl,hp,hk,h64,q⟩:=h
 obtain⟨u,rfl,rx⟩:=z4X r
 cases rx
 obtain⟨_,lo,kv,rk,dd⟩:=y7i I.hok hp
 obtain⟨ep,hat⟩:=dd.dictAt
 have lk:kv.length=ns.length:=by
  have e1:=rk.length
  have e2:=congrArg List.length hk
  rw[b7,b7] at e2
  omega
 refine Calls.call_function_entry kind_sorted plain_sorted entry_sorted (args_sorted1 _) ?_
 unfold Builtin.«sorted»
 refine wpAny_bind (m:=checkCount "sorted" 1 1 _) (wpAny_pure ?_)
 refine wpAny_bind (y0s (A:=X.A.in1) (PySem.W.kdl_dict (knd:=z1v X.prog X.w) (kvs:=kv) (ep:=ep) lo) (I.ok.hd hc) hat (by rw[sizeLine_eq];omega) fun h' tk acc kp slt items=>?_)
 have hi:IntsAre acc.toList ns:=z6Q (P:=X.prog) (w:=X.w) (by rw[gG,items.1,lk]) fun j v hv=>by
  obtain⟨k,x,e,ik⟩:=items.2 j v (by rw[<- Array.getElem?_toList];exact hv)
  refine⟨k,?_,ik⟩
  rw[<- hk,rk.keys,bB,e]
  rfl
 have lv:acc.toList.length<64:=by rw[IntsAre.length hi];exact h64
 refine wpAny_bind (wpAny_newList ?_ (by rw[sizeLine_eq];omega))
 have g1:(h'.push (seqObj "list" acc.toList.toArray 0)).get? h'.objs.size=some (seqObj "list" acc.toList.toArray 0):=bM _ rfl
 refine wpAny_bind (wpAny_holding (wpAny_call_entry slot_list_sort ⟨_,g1,rfl⟩ entry_list_sort (list_sort_tree g1 hi lv fun out ns' a1 a2 a3=>⟨_,rfl,?_⟩) (args_list_sort _)))
 refine wpAny_pure ⟨_,rfl,?_⟩
 obtain⟨e,he⟩:=sortedHeap_at (out:=out) g1
 have sle:s.heap.objs.size≤h'.objs.size:=dQ slt
 have old:∀b o,s.heap.get? b=some o->(sortedHeap (h'.push (seqObj "list" acc.toList.toArray 0)) h'.objs.size acc.toList out).get? b=some o:=fun b o e=>by
  have hb:=bP (kp b o e)
  rw[sortedHeap_old (cK hb) (by rw[size_push'];exact eX hb)]
  exact b9 _ (kp b o e)
 refine⟨.ref h'.objs.size,_,I.laid (a:=h'.objs.size) (o:=.lst (ns'.map V.int)) (t':=tk) old sle (show z1B X.prog X.w _ _ _ (.lst (ns'.map V.int)) from⟨?_,out.toList,e,z5T a1,?_⟩),rfl,q _ ns' (I.hok.fresh sle) a2 a3⟩
 ·rw[b7,a2.length_eq,sizeLine_eq]
  omega
 ·simpa using he
end
theorem z8E:typeLookup (.type "list") "keys"=pure none:=am_miss_of_fast (by kernel_rfl)
theorem z8m:typeLookup (.type "tuple") "keys"=pure none:=am_miss_of_fast (by kernel_rfl)
theorem y0A:typeLookup (.type "list") "__getattr__"=pure none:=by rw[typeLookup_type,builtinLookup_eq_fast];kernel_rfl
theorem z9F:typeLookup (.type "tuple") "__getattr__"=pure none:=by rw[typeLookup_type,builtinLookup_eq_fast];kernel_rfl
section
variable{prog:Program}{w:World}{A:Around}{E:Value->Shared->Prop}{s:Shared}
theorem y0h{a:Addr}{items:Array Value}{n:Nat}{sl:Array (Option Value)}{u:Tok}{R:Result->Shared->Prop}(hA:A.handled=none)(ho:s.heap.get? a=some ⟨.type "list",none,.seq items n,sl⟩)(h:∀h' tk e,Heap.NewAttrErr s.heap h' e (.ref a) "keys"->R (.error (.ref e)) { s with heap:=h',toks:=tk }) :
  wpAny (model prog w) A.in1 (Builtin.«object.__getattribute__» ⟨[.ref a,.str "keys" u],[]⟩) (fun fin s'=>match fin with|.done f=>R (.ok f) s'|.again c'=>c'.quiet=true/\codeAny (model prog w) A c' R s') (fun e s'=>R (.error e) s') s:=by
 obtain⟨hp,g,d,tk,os⟩:=s
 have hT:(⟨hp,g,d,tk,os⟩:Shared).TypeIs (.ref a) "list":=⟨_,ho,rfl⟩
 have f1:=z8E
 unfold Builtin.«object.__getattribute__»
 repeat (any_goals (first|assumption|wp_step))
 exact wpAny_raiseAttrError hA h (attrMsg_fits (by decide +kernel) (by decide +kernel))
theorem z9q{a:Addr}{items:Array Value}{n:Nat}{sl:Array (Option Value)}{u:Tok}{R:Result->Shared->Prop}(hA:A.handled=none)(ho:s.heap.get? a=some ⟨.type "tuple",none,.seq items n,sl⟩)(h:∀h' tk e,Heap.NewAttrErr s.heap h' e (.ref a) "keys"->R (.error (.ref e)) { s with heap:=h',toks:=tk }) :
  wpAny (model prog w) A.in1 (Builtin.«object.__getattribute__» ⟨[.ref a,.str "keys" u],[]⟩) (fun fin s'=>match fin with|.done f=>R (.ok f) s'|.again c'=>c'.quiet=true/\codeAny (model prog w) A c' R s') (fun e s'=>R (.error e) s') s:=by
 obtain⟨hp,g,d,tk,os⟩:=s
 have hT:(⟨hp,g,d,tk,os⟩:Shared).TypeIs (.ref a) "tuple":=⟨_,ho,rfl⟩
 have f1:=z8m
 unfold Builtin.«object.__getattribute__»
 repeat (any_goals (first|assumption|wp_step))
 exact wpAny_raiseAttrError hA h (attrMsg_fits (by decide +kernel) (by decide +kernel))
theorem z8B{a:Addr}{items:Array Value}{n:Nat}{sl:Array (Option Value)}{u:Tok}{R:Result->Shared->Prop}(hA:A.handled=none)(ho:s.heap.get? a=some ⟨.type "list",none,.seq items n,sl⟩)(h:∀h' tk e,Heap.NewAttrErr s.heap h' e (.ref a) "keys"->R (.error (.ref e)) { s with heap:=h',toks:=tk }) :
  codeAny (model prog w) A (.call (.builtin "list.__getattribute__") ⟨[.ref a,.str "keys" u],[]⟩) R s:=
 codeAny_call_builtin fG.plain F.entry_list_ga (fG.check _ _ _ _ _ _ _ _ (show s.TypeIs (.ref a) "list" from⟨_,ho,rfl⟩) (F.args_list_getattribute_2 _ _) (y0h (R:=R) hA ho h))
theorem z8C{a:Addr}{items:Array Value}{n:Nat}{sl:Array (Option Value)}{Q:Option Value->Shared->Prop}(hA:A.handled=none)(ho:s.heap.get? a=some ⟨.type "list",none,.seq items n,sl⟩)(h:∀h' tk,(∀b o,s.heap.get? b=some o->h'.get? b=some o)->Q none { s with heap:=h',toks:=tk }) :
  wpAny (model prog w) A (getAttr? (.ref a) "keys") Q E s:=by
 obtain⟨hp,g,d,tk,os⟩:=s
 have hT:∀tk',(⟨hp,g,d,tk',os⟩:Shared).TypeIs (.ref a) "list":=fun _=>⟨_,ho,rfl⟩
 have f1:=sub_AttributeError
 have f3:=fG.lookup
 have f4:=fG.bind (.ref a)
 have f5:=y0A
 unfold getAttr? getAttrBy? getAttrBy
 repeat (any_goals (first|assumption|exact hT _|wp_step))
 refine z8B (s:=⟨hp,g,d,tk+1,os⟩) hA ho fun h' tk' e hx=>?_
 obtain⟨t',u',he⟩:=hx.there
 show wpAny _ _ (getattributeRaised _ _ _ _ _ _ _) _ _ _
 unfold getattributeRaised
 repeat (any_goals (first|assumption|wp_step))
 exact h _ _ hx.keeps
theorem z7L{a:Addr}{items:Array Value}{n:Nat}{sl:Array (Option Value)}{u:Tok}{R:Result->Shared->Prop}(hA:A.handled=none)(ho:s.heap.get? a=some ⟨.type "tuple",none,.seq items n,sl⟩)(h:∀h' tk e,Heap.NewAttrErr s.heap h' e (.ref a) "keys"->R (.error (.ref e)) { s with heap:=h',toks:=tk }) :
  codeAny (model prog w) A (.call (.builtin "tuple.__getattribute__") ⟨[.ref a,.str "keys" u],[]⟩) R s:=
 codeAny_call_builtin eZ.plain F.entry_tuple_ga (eZ.check _ _ _ _ _ _ _ _ (show s.TypeIs (.ref a) "tuple" from⟨_,ho,rfl⟩) (F.args_tuple_getattribute_2 _ _) (z9q (R:=R) hA ho h))
theorem z88{a:Addr}{items:Array Value}{n:Nat}{sl:Array (Option Value)}{Q:Option Value->Shared->Prop}(hA:A.handled=none)(ho:s.heap.get? a=some ⟨.type "tuple",none,.seq items n,sl⟩)(h:∀h' tk,(∀b o,s.heap.get? b=some o->h'.get? b=some o)->Q none { s with heap:=h',toks:=tk }) :
  wpAny (model prog w) A (getAttr? (.ref a) "keys") Q E s:=by
 obtain⟨hp,g,d,tk,os⟩:=s
 have hT:∀tk',(⟨hp,g,d,tk',os⟩:Shared).TypeIs (.ref a) "tuple":=fun _=>⟨_,ho,rfl⟩
 have f1:=sub_AttributeError
 have f3:=eZ.lookup
 have f4:=eZ.bind (.ref a)
 have f5:=z9F
 unfold getAttr? getAttrBy? getAttrBy
 repeat (any_goals (first|assumption|exact hT _|wp_step))
 refine z7L (s:=⟨hp,g,d,tk+1,os⟩) hA ho fun h' tk' e hx=>?_
 obtain⟨t',u',he⟩:=hx.there
 show wpAny _ _ (getattributeRaised _ _ _ _ _ _ _) _ _ _
 unfold getattributeRaised
 repeat (any_goals (first|assumption|wp_step))
 exact h _ _ hx.keeps
end
theorem z52:entryFor table "dict.update.loop"=some Builtin.«dict.update.loop»:=entryFor_of_tree (by kernel_rfl)
theorem z1V:plainId "dict.update.loop"=true:=by decide +kernel
section
variable{prog:Program}{w:World}{A:Around}{κ:Type}[DecidableEq κ]{kd:KeyKind prog w κ}{I:Addr}{fp wr:List Addr}{G:Array GenState->Array GenState->Prop}{n:Nat}{P:Nat->Value->Prop}{St:Nat->Shared->Prop}
def y0z(kd:KeyKind prog w κ)(h:Heap)(v:Value)(kv:κ×Value)(out:List Addr):Prop:=∃(a:Addr) (o:Obj) (T:String) (k:Value) (c:Nat),v=.ref a/\h.get? a=some o/\o.cls=.type T/\(T="list"\/T="tuple")/\o.data=.seq #[k,kv.2] c/\kd.is kv.1 k=true/\a∉out
theorem z8f{R:Result->Shared->Prop}(W:WalksS prog w A.in1 I fp wr G n P St){d:Addr}(out:d∉fp){h0:Heap}{vs:List (κ×Value)}(lk:vs.length=n)
  (vals:∀i v,P i v->∃kv,vs[i]? = some kv/\y0z kd h0 v kv (d::wr)) (few:n≤1000) :
  ∀(todo i:Nat) (s:Shared),i+todo=n->St i s->s.heap.DictOf kd d (merged [] (vs.take i))->(∀b o,b∉d::wr->h0.get? b=some o->s.heap.get? b=some o)->
   (∀s',Moved (d::wr) G s s'->s'.heap.DictOf kd d (merged [] vs)->R (.ok (.ret .none)) s')->codeAny (model prog w) A (.builtin "dict.update.loop" ⟨[.ref d,.ref I,rawInt i,.none],[]⟩) R s
 | 0,i,s,ei,st,sx,kp,fin=>by
  have e:vs.take i=vs:=cL (by omega)
  rw[e] at sx
  have ei':i=n:=by omega
  subst ei'
  refine codeAny_builtin z52 ?_
  rw[cN z1V _]
  refine wpAny_bind (W.done s _ _ st fun s' mv=>wpAny_bind (wpAny_pure (wpAny_pure (fin s' (mv.mono fun b hb=>.tail _ hb) (sx.at fun o=>mv.heap d o fun q=>out (W.sub _ q))))))
 | todo+1,i,s,ei,st,sx,kp,fin=>by
  refine codeAny_builtin z52 ?_
  rw[cN z1V _]
  refine wpAny_bind (W.item i s _ _ (by omega) st fun v s1 hv st1 mv=>?_)
  obtain⟨⟨key,y⟩,ek,a,o,T,k,c,rfl,ho,hc,hT,hd,ik,na⟩:=vals i v hv
  have sx1:=sx.at (h':=s1.heap) fun o=>mv.heap d o fun q=>out (W.sub _ q)
  have ho1:s1.heap.get? a=some o:=mv.heap a o (fun q=>na (.tail _ q)) (kp a o na ho)
  have ty:s1.TypeIs (.ref a) T:=⟨o,ho1,hc⟩
  refine wpAny_bind (wpAny_holding (m:=(Builtin.Dict.pairItems (.ref a)).tryCatch _ >>= _) (wpAny_bind (wpAny_tryCatch ?_)))
  unfold Builtin.Dict.pairItems
  refine wpAny_bind (wpAny_typeOf ty ?_)
  rw[if_pos (by rcases hT with rfl|rfl<;>decide)]
  refine wpAny_bind (wpAny_seqItems ho1 hd (wpAny_pure ?_))
  show wpAny _ _ (holding [k,y] (dictSet d k y)) _ _ _
  have lm:=merged_length_le [] (vs.take i)
  rw[bH,List.length_nil] at lm
  refine wpAny_holding (wpAny_dictSet_pairs (hsz:=by rw[sizeLine_eq];omega) ik sx1 fun h2 sx2 sb=>?_)
  rw[<- merged_take_succ [] vs i (key,y) ek] at sx2
  have far:∀b,b≠d->h2.get? b=s1.heap.get? b:=fun b hb=>sb.2 b hb
  refine wpAny_pure ⟨plainId_quiet z1V _,z8f W out lk vals few todo (i+1) _ (by omega) (W.frame _ s1 _ _ st1 (gB _) fun b hb o q=>?_) sx2 (fun b o nb q=>?_) fun s3 mv3 sx4=>?_⟩
  ·rw[far b fun z=>out (z ▸ hb)];exact q
  ·rw[far b fun z=>nb (z ▸ .head _)]
   exact mv.heap b o (fun q=>nb (.tail _ q)) (kp b o nb q)
  ·refine fin s3 (.trans W.gtrans ((mv.mono fun b hb=>.tail _ hb).then_heap (gB _) fun b o hb q=>?_) mv3) sx4
   rw[far b fun z=>hb (z ▸ .head _)];exact q
end
section
variable{prog:Program}{w:World}{A:Around}{E:Value->Shared->Prop}{s:Shared}{κ:Type}[DecidableEq κ]{kd:KeyKind prog w κ}
theorem y6M{T:String}{p:Addr}{its:Array Value}{c0:Nat}{sl:Array (Option Value)}{vs:List (κ×Value)}{Q:Value->Shared->Prop}(hh:A.handled=none)(hp:s.heap.get? p=some ⟨.type T,none,.seq its c0,sl⟩)(hT:T="list"\/T="tuple")
  (lk:vs.length=its.size) (vals:∀(i:Nat) v,its[i]? = some v->∃kv,vs[i]? = some kv/\y0z kd s.heap v kv []) (few:its.size≤1000) (nd:(vs.map (·.1)).Nodup)
  (fin:∀(h':Heap) (t:Nat),h'.DictOf kd s.heap.objs.size vs->(∀b u,s.heap.get? b=some u->h'.get? b=some u)->Q (.ref s.heap.objs.size) { s with heap:=h',toks:=t }) :
  wpAny (model prog w) A (call (.type "dict") [.ref p]) Q E s:=by
 refine callType_codes (Q₁:=fun obj s₁=>obj=.ref s.heap.objs.size/\s₁={ s with heap:=s.heap.push { cls:=.type "dict",data:=.dict #[] } }) PySem.F.kt_called_dict (PySem.F.kt_typeCall_dict_1 _) F.entry_dict_init (kt_code_dict_new _ ⟨rfl,rfl⟩) ?_
 rintro obj s₁ ⟨rfl,rfl⟩
 have w0h:(s.heap.push { cls:=.type "dict",data:=.dict #[] }).DictOf kd s.heap.objs.size []:=Heap.DictOf.new s.heap
 have hp1:(s.heap.push { cls:=.type "dict",data:=.dict #[] }).get? p=some ⟨.type T,none,.seq its c0,sl⟩:=b9 _ hp
 have hpl:p<s.heap.objs.size:=bP hp
 refine⟨w0h.typeIs,F.args_dict_init_2 _ _,?_⟩
 unfold Builtin.«dict.__init__»
 refine wpAny_bind ?_
 unfold Builtin.Dict.selfAndRest
 refine wpAny_bind (wpAny_notOrdered_dict w0h.typeIs ?_)
 show wpAny _ _ (pure (s.heap.objs.size,[Value.ref p])) _ _ _
 refine wpAny_pure ?_
 show wpAny _ _ (Builtin.Dict.updateFrom "dict.__init__" s.heap.objs.size (.ref p) [] .none) _ _ _
 unfold Builtin.Dict.updateFrom
 refine wpAny_bind (wpAny_typeOf (T:=T) ⟨_,hp1,rfl⟩ ?_)
 rw[if_pos (by rcases hT with rfl|rfl<;>decide)]
 have main:∀(h1:Heap) (tk:Nat),(∀b o,(s.heap.push { cls:=.type "dict",data:=.dict #[] }).get? b=some o->h1.get? b=some o)->
   wpAny (model prog w) A.in1.in1 (do
    rule (toString "dict.__init__"++toString ".from-pairs")
    return <- again (.builtin "dict.update.loop" ⟨[.ref s.heap.objs.size,<- pyIter (.ref p),rawInt 0,.none],[]⟩))
    (fun fin s'=>match fin with|.done f=>wants (fun r s₂=>r=.none/\Q (.ref s.heap.objs.size) s₂) E (.ok f) s'|.again c'=>c'.quiet=true/\codeAny (model prog w) A.in1 c' (wants (fun r s₂=>r=.none/\Q (.ref s.heap.objs.size) s₂) E) s')
    (fun e s'=>wants (fun r s₂=>r=.none/\Q (.ref s.heap.objs.size) s₂) E (.error e) s') { s with heap:=h1,toks:=tk }:=by
  intro h1 tk k1
  have hd1:=w0h.keep k1
  have dlt:s.heap.objs.size<h1.objs.size:=by
   obtain⟨_,_,_,e,_⟩:=hd1
   exact bP e
  have hp2:=k1 _ _ hp1
  have apart:p≠h1.objs.size:=cK (bP hp2)
  have out:s.heap.objs.size∉[h1.objs.size,p]:=by rw[bA,b8];exact fun z=>z.elim (cK dlt) (gM hpl)
  have hh2:A.in1.in1.handled=none:=by simp[hh]
  have nin:∀{b:Addr}{o:Obj},s.heap.get? b=some o->b∉[s.heap.objs.size,h1.objs.size]:=fun e m=>by
   have hb:=bP e
   rcases bA.mp m with z|z
   ·exact absurd hb (by rw[z];exact dP _)
   ·rw[b8] at z
    exact absurd (Nat.lt_trans hb dlt) (by rw[z];exact dP _)
  have Y3:∀(i:Nat) v,its[i]? = some v->∃kv,vs[i]? = some kv/\y0z kd s.heap v kv [s.heap.objs.size,h1.objs.size]:=fun i v hv=>by
   obtain⟨kv,e,a,o,T,k,c,e1,e2,e3,e4,e5,e6,_⟩:=vals i v hv
   exact⟨kv,e,a,o,T,k,c,e1,e2,e3,e4,e5,e6,nin e2⟩
  have ends:∀(x:Obj) (s':Shared),Moved [s.heap.objs.size,h1.objs.size] (fun a b=>b=a) { s with heap:=h1.push x,toks:=tk } s'->s'.heap.DictOf kd s.heap.objs.size (merged [] vs)->Q (.ref s.heap.objs.size) s':=fun x s' mv sx=>by
   obtain⟨h',g',d',t',o'⟩:=s'
   obtain rfl:g'=s.gens:=mv.gens
   obtain rfl:d'=s.drawn:=mv.drawn
   obtain rfl:o'=s.os:=mv.os
   rw[merged_nil_of_nodup vs nd] at sx
   exact fin h' t' sx fun b u q=>mv.heap b u (nin q) (b9 _ (k1 _ _ (b9 _ q)))
  refine wpAny_bind (wpAny_rule ?_)
  rcases hT with rfl|rfl
  ·have hl:h1.IsList p its:=⟨_,hp2,rfl,c0,rfl⟩
   refine wpAny_bind (wpAny_pyIter_list hl (wpAny_pure ⟨plainId_quiet z1V _,?_⟩))
   exact z8f (kd:=kd) ((Walks.list hh2 _ p apart its).toS) out (h0:=s.heap) lk Y3 few its.size 0 _ (jT _) ⟨⟨_,bM _ rfl,rfl,rfl⟩,hl.push _⟩ (by rw[cS];exact hd1.push _) (fun b o _ q=>b9 _ (k1 _ _ (b9 _ q))) fun s' mv sx=>⟨rfl,ends _ s' mv sx⟩
  ·have hl:h1.IsTuple p its:=⟨_,hp2,rfl,c0,rfl⟩
   refine wpAny_bind (wpAny_pyIter_tuple hl (wpAny_pure ⟨plainId_quiet z1V _,?_⟩))
   exact z8f (kd:=kd) ((Walks.tuple hh2 _ p apart its).toS) out (h0:=s.heap) lk Y3 few its.size 0 _ (jT _) ⟨⟨_,bM _ rfl,rfl,rfl⟩,hl.push _⟩ (by rw[cS];exact hd1.push _) (fun b o _ q=>b9 _ (k1 _ _ (b9 _ q))) fun s' mv sx=>⟨rfl,ends _ s' mv sx⟩
 have hh2:A.in1.in1.handled=none:=by simp[hh]
 rcases hT with rfl|rfl
 ·refine wpAny_bind (z8C hh2 hp1 fun h1 tk k1=>?_)
  exact main h1 tk k1
 ·refine wpAny_bind (z88 hh2 hp1 fun h1 tk k1=>?_)
  exact main h1 tk k1
end
section
variable{X:Cx}
def y4a(K:PySem.W.Frag)(H:Hp)(u:V)(kv:Key×V):Prop:=∃a,u=.ref a/\(SqL K H a [kV kv.1,kv.2]\/SqT K H a [kV kv.1,kv.2])
def SqP(K:PySem.W.Frag)(H:Hp)(p:Addr)(ys:List V):Prop:=SqL K H p ys\/H p=some (.tup ys)
def y6d(K:PySem.W.Frag):List V->Hp->VK->Prop:=fun xs H Q=>∃p ys kvs,xs=[.ref p]/\SqP K H p ys/\Paired (y4a K H) ys kvs/\ys.length≤1000/\(kvs.map (·.1)).Nodup/\∀l,H l=none->Q (.ref l) (upd H l (.dK kvs))
theorem z8U{pins:List (Addr×Obj)}{σ:St}{H:Hp}{s:Shared}(I:Inv X pins σ H s):∀{ys:List V}{kvs:List (Key×V)}{its:List Value},Paired (y4a X.K H) ys kvs->Vals ys its->
  ∃vs,KV kvs vs/\vs.length=its.length/\∀(i:Nat) v,its[i]? = some v->∃kv,vs[i]? = some kv/\y0z (z1v X.prog X.w) s.heap v kv []
 | _,_,_,.nil,.nil=>⟨[],.nil,rfl,fun i v h=>by simp at h⟩
 | _::ys,kv::kvs,_::its,.cons ⟨a,e,hq⟩ t,.cons r rr=>by
  obtain⟨vs,k1,l1,p1⟩:=z8U I t rr
  subst e
  cases r
  have go:∀(T:String) (o:Obj) (us:List Value) (c:Nat),s.heap.get? a=some o->o.cls=.type T->(T="list"\/T="tuple")->o.data=.seq us.toArray c->Vals [kV kv.1,kv.2] us->
    ∃vs',KV (kv::kvs) vs'/\vs'.length=(Value.ref a::its).length/\∀(i:Nat) v,(Value.ref a::its)[i]? = some v->∃kv,vs'[i]? = some kv/\y0z (z1v X.prog X.w) s.heap v kv []:=fun T o us c h1 h2 h3 h4 h5=>by
   obtain⟨u1,u2,rfl,r1,r2⟩:=y3s h5
   refine⟨(kv.1,u2)::vs,.cons ⟨rfl,r2⟩ k1,by rw[cH,cH,l1],fun i v hv=>?_⟩
   cases i with
   | zero=>
    simp at hv
    subst hv
    exact⟨_,rfl,a,o,T,u1,c,rfl,h1,h2,h3,by simpa using h4,y2R r1,by simp⟩
   | succ i=>exact p1 i v (by simpa using hv)
  rcases hq with hq|hq
  ·obtain⟨us,rv,pl,_⟩:=I.list hq
   obtain⟨o,ho,hcl,n,hda⟩:=pl.isList
   exact go "list" o us n ho hcl (.inl rfl) hda rv
  ·obtain⟨us,rv,pl,_⟩:=I.tuple hq
   obtain⟨o,ho,hcl,n,hda⟩:=pl
   exact go "tuple" o us n ho hcl (.inr rfl) hda rv
theorem z4L{K:PySem.W.Frag}(hK:X.K=K)(hc:X.calm=true):z40 X (.type "dict") (y6d K):=by
 subst hK
 intro pins s σ H xs us Q I r h
 obtain⟨p,ys,kvs,rfl,hq,pr,hl,nd,q⟩:=h
 obtain⟨u,rfl,rx⟩:=z4X r
 cases rx
 have go:∀(T:String) (its:List Value) (c0:Nat) (sl:Array (Option Value)),s.heap.get? p=some ⟨.type T,none,.seq its.toArray c0,sl⟩->(T="list"\/T="tuple")->Vals ys its->wpAny (model X.prog X.w) X.A (call (.type "dict") [.ref p]) (EP X pins σ Q) X.xe s:=
  fun T its c0 sl ho hT rv=>by
   obtain⟨vs,k1,l1,p1⟩:=z8U I pr rv
   have ln:ys.length=its.length:=rv.length
   refine y6M (kd:=z1v X.prog X.w) (vs:=vs) (I.ok.hd hc) ho hT (by simpa using l1) (fun i v hv=>p1 i v (by simpa using hv)) (by simp;omega) (by rw[<- k1.keys];exact nd) fun h' t dd kp=>?_
   have big:=I.big
   refine⟨.ref s.heap.objs.size,_,I.laid (a:=s.heap.objs.size) (o:=.dK kvs) (h':=h') (t':=t) kp (bE _) (y5R ?_ ?_ k1 dd),rfl,q _ (I.hok.fresh (bE _))⟩
   ·have:=k1.length
    rw[sizeLine_eq]
    omega
   ·exact beq_false_of_ne (gM big)
 rcases hq with hq|hq
 ·obtain⟨its,rv,pl,_⟩:=I.list hq
  obtain⟨o,n,ho,hcl,hdi,hda⟩:=pl
  obtain⟨oc,od,oa,os⟩:=o
  simp only at hcl hdi hda
  subst hcl hdi hda
  exact go "list" its n os ho (.inl rfl) rv
 ·obtain⟨_,its,rv,o,ho,hcl,⟨n,hda⟩,hdi⟩:=(show z1B X.prog X.w H s.heap p (.tup ys) from I.hok p _ hq)
  obtain⟨oc,od,oa,os⟩:=o
  simp only at hcl hdi hda
  subst hcl hdi hda
  exact go "tuple" its n os ho (.inr rfl) rv
end
def SqS(K:PySem.W.Frag)(t:Bool)(H:Hp)(a:Addr)(xs:List V):Prop:=if t then SqL K H a xs else SqT K H a xs
theorem SqS.of{K:PySem.W.Frag}{H:Hp}{a:Addr}{xs:List V}(h:SqL K H a xs\/SqT K H a xs):∃t,SqS K t H a xs:=h.elim (fun q=>⟨true,q⟩) fun q=>⟨false,q⟩
theorem SqS.keep{K:PySem.W.Frag}{t:Bool}{H H':Hp}{a:Addr}{xs:List V}(s:A3 H H')(h:SqS K t H a xs):SqS K t H' a xs:=by
 cases t
 ·rcases(show SqT K H a xs from h) with (h|⟨o,h⟩)|h
  ·exact .inl (.inl (s _ _ h))
  ·exact .inl (.inr ⟨o,s _ _ h⟩)
  ·exact .inr h
 ·exact s.seq (show SqL K H a xs from h)
def Its(K:PySem.W.Frag)(t:Bool)(a:Addr):It:=if t then Itl K a else Itt K a
section
variable{X:Cx}{tg:Expr}
def iSeq(K:PySem.W.Frag)(tl:TE):TI:=fun σ H R=>tl σ H fun x H1=>∃a t,x=.ref a/\(∃xs,SqS K t H1 a xs)/\R (Its K t a) H1
theorem y3I{l:Expr}{tl:TE}(hl:PE X l tl):PI X tg l (iSeq X.K tl):=by
 intro pins s σ H R I h
 refine thn (hl pins s σ H _ I h) fun v s1 ⟨x,H1,I1,r1,q1⟩=>?_
 obtain⟨a,t,e,⟨xs,hq⟩,q⟩:=q1
 subst e
 cases r1
 cases t
 ·obtain⟨its,rv,p,hz⟩:=I1.tuple hq
  refine wpAny_pyIter_tuple (show s1.heap.IsTuple a its.toArray from p) ?_
  refine⟨s1.heap.objs.size,[s1.heap.objs.size],_,_,H1,rfl,I1.kept (t':=s1.toks) fun b o e=>b9 _ e,z90 a _,⟨_,bM _ rfl,rfl,rfl⟩,fun b hb=>?_,q⟩
  have e:b=s1.heap.objs.size:=by simpa using hb
  subst e
  exact I1.S8 (bE _) (I1.hok.fresh (bE _))
 ·obtain⟨its,rv,p,hz⟩:=I1.list hq
  refine wpAny_pyIter_list p.isList ?_
  refine⟨s1.heap.objs.size,[s1.heap.objs.size],_,_,H1,rfl,I1.kept (t':=s1.toks) fun b o e=>b9 _ e,y0r a _,⟨_,bM _ rfl,rfl,rfl⟩,fun b hb=>?_,q⟩
  have e:b=s1.heap.objs.size:=by simpa using hb
  subst e
  exact I1.S8 (bE _) (I1.hok.fresh (bE _))
end
theorem y1M{K:PySem.W.Frag}{t:Bool}{a:Addr}{xs:List V}{g:TG}{tc:TT}{te:TE}{σ0:St}{H1:Hp}{F:List V->Hp->Prop}(Pv:Nat->List V->Hp->Prop)(h0:Pv 0 [] H1)
  (hl:∀i ys H,i≤xs.length->Pv i ys H->SqS K t H a xs/\ys.length<sizeLine)
  (hs:∀i x ys H,xs[i]? = some x->Pv i ys H->z1C g tc te σ0 x H ys (Pv (i+1))) (hd:∀ys H,Pv xs.length ys H->F ys H):y08 (Its K t a) g tc te σ0 H1 F:=by
 cases t
 ·exact z1J Pv h0 hl hs hd
 ·exact z3D Pv h0 hl hs hd
theorem y6F{K:PySem.W.Frag}{t:Bool}{a:Addr}{xs:List V}{g:TG}{tb:TS}{D:Ends}{σ:St}{H:Hp}(Pv:Nat->St->Hp->Prop)(h0:Pv 0 σ H)(hl:∀i σ H,i≤xs.length->Pv i σ H->SqS K t H a xs)
  (hs:∀i x σ H,xs[i]? = some x->Pv i σ H->g x σ H fun σ2 H2=>tb { D with nx:=Pv (i+1),ct:=Pv (i+1),bk:=D.nx } σ2 H2) (hd:∀σ H,Pv xs.length σ H->D.nx σ H) :
  ∃W:Nat->Nat->St->Hp->Prop,(∃m,W 0 m σ H)/\∀i m σ H,W i m σ H->
   ((Its K t a).stop i H/\D.nx σ H)\/((Its K t a).go i H/\∃N:St->Hp->Prop,(∀σ' H',N σ' H'->∃m',m'<m/\W (i+1) m' σ' H')/\∀x H',(Its K t a).yld i H x H'->g x σ H' fun σ2 H2=>tb { D with nx:=N,ct:=N,bk:=D.nx } σ2 H2):=by
 cases t
 ·exact z4A Pv h0 hl hs hd
 ·exact z1Y Pv h0 hl hs hd
section
variable{prog:Program}{w:World}{A:Around}{E:Value->Shared->Prop}
theorem y03{it t:Addr}{items:Array Value}(hne:t≠it):∀(n i:Nat) (s:Shared) (Q:List Value->Shared->Prop),s.heap.IsListIter it t i->s.heap.IsList t items->i+n≤items.size->
  (∀h',h'.IsListIter it t (i+n)->Heap.SameBut it s.heap h'->Q ((items.toList.drop i).take n) { s with heap:=h' })->wpAny (model prog w) A (draw (.ref it) n) Q E s
 | 0,i,s,Q,hit,_,_,hQ=>by
  show wpAny _ _ (pure []) Q E s
  exact wpAny_pure (by simpa using hQ s.heap hit (Heap.SameBut.refl ..))
 | n+1,i,s,Q,hit,ht,hle,hQ=>by
  have hlt:i<items.size:=by omega
  show wpAny _ _ (pyNext (.ref it) >>= _) Q E s
  refine wpAny_bind (wpAny_pyNext_list_item hit ht (x:=items[i]) (by simp[hlt]) fun h₁ hit₁ hs₁=>?_)
  refine wpAny_bind (wpAny_holding (y03 hne n (i+1) _ _ hit₁ (ht.at fun o e=>(hs₁.2 t hne).trans e) (by omega) fun h₂ hit₂ hs₂=>wpAny_pure ?_))
  have hd:items.toList.drop i=items[i]::items.toList.drop (i+1):=by simp[List.drop_eq_getElem_cons,hlt]
  have:=hQ h₂ (by rw[show i+(n+1)=i+1+n by omega];exact hit₂) (hs₁.trans hs₂)
  rw[hd,List.take_succ_cons] at this
  exact this
theorem y1d{s:Shared}{t:Addr}{items:Array Value}{Q:List Value->Shared->Prop}(hh:A.handled=none)(ht:s.heap.IsList t items)
  (hQ:∀h',Heap.ExtBut s.heap.objs.size s.heap h'->Q items.toList { s with heap:=h' }):wpAny (model prog w) A (unpackItems (.ref t) items.size none) Q E s:=by
 have hlt:t≠s.heap.objs.size:=by obtain⟨o,ho,_⟩:=ht;exact cK (bP ho)
 unfold unpackItems
 refine wpAny_bind ?_
 unfold notIterableAtAll
 refine wpAny_bind (wpAny_specialOf ht.typeIs PySem.F.slot_list_iter.lookup ?_)
 refine wpAny_pure ?_
 simp only[eS,if_false]
 refine wpAny_bind (wpAny_holding (wpAny_pyIter_list ht ?_))
 refine wpAny_bind (wpAny_holding (y03 hlt items.size 0 _ _ ⟨_,bM _ rfl,rfl,rfl⟩ (ht.push _) (by omega) fun h₁ hit₁ hs₁=>?_))
 have B3:List.take items.size (List.drop 0 items.toList)=items.toList:=by
  rw[fE];exact cL (by simp)
 rw[B3]
 rw[if_neg (by simp)]
 have ht₁:h₁.IsList t items:=(ht.push _).at fun o e=>(hs₁.2 t hlt).trans e
 refine wpAny_bind (wpAny_holding (wpAny_pyNext_list_end hh hit₁ ht₁ (by simp) fun h₂ he₂=>?_))
 simp only[Option.isSome_none,eS,if_false]
 exact wpAny_pure (hQ h₂ fun b o hb e=>he₂ b o hb (hs₁.extBut b o hb (b9 _ e)))
theorem z6r{s:Shared}{env:Env}{elts:List Expr}{x1}{pos:Pos}{t:Addr}{items:Array Value}{Q:Unit->Shared->Prop}(hh:A.handled=none)(ht:s.heap.IsList t items)
  (hn:(assignEach elts env).length=items.size) (w19:(assignEach elts env).findIdx? (·.1)=none)
  (h:∀h',Heap.ExtBut s.heap.objs.size s.heap h'->wpAny (model prog w) A (assignInOrder ((assignEach elts env).map (·.2)) items.toList) Q E { s with heap:=h' }) :
  wpAny (model prog w) A (assign (.Tuple elts x1 pos) env (.ref t)) Q E s:=by
 rw[assign_Tuple]
 refine wpAny_bind (wpAny_standAt ?_)
 unfold unpack
 rw[hn,w19]
 exact wpAny_bind (wpAny_holding (y1d hh ht h))
end
def w05(K:PySem.W.Frag)(n:Nat)(t:TGs):TG:=fun v σ H Q=>∃a xs,v=.ref a/\(SqL K H a xs\/SqT K H a xs)/\xs.length=n/\t xs σ H Q
theorem y3S{X:Cx}{K:PySem.W.Frag}{es:List Expr}{k:Nat}{t:TGs}{n:Nat}{pos:Pos}(hK:X.K=K)(hc:X.calm=true)(h:PGs X es t)
  (hn:(assignEach es X.env).length=n:=by rfl) (hst:(assignEach es X.env).findIdx? (·.1)=none:=by rfl):PG X (.Tuple es k pos) (w05 K n t):=by
 subst hK
 intro pins s σ H v u Q I r hw
 obtain⟨a,xs,e1,hq,hl,hw⟩:=hw
 subst e1
 cases r
 rcases hq with hq|hq
 ·obtain⟨its,rv,ht,hz⟩:=I.list hq
  refine z6r (I.ok.hd hc) ht.isList (by simp[hn,<- hl,rv.length]) hst fun h' hx=>?_
  have I1:Inv X pins σ H { s with heap:=h' }:=I.kept (t':=s.toks) fun b o e=>hx b o (cK (bP e)) e
  exact h pins _ σ H xs _ Q I1 (by simpa using rv) hw
 ·obtain⟨its,rv,ht,hz⟩:=I.tuple hq
  refine assign_Tuple_tuple (I.ok.hd hc) ht (by simp[hn,<- hl,rv.length]) hst fun h' hx=>?_
  have I1:Inv X pins σ H { s with heap:=h' }:=I.kept (t':=s.toks) fun b o e=>hx b o (cK (bP e)) e
  exact h pins _ σ H xs _ Q I1 (by simpa using rv) hw
theorem y4H{K:PySem.W.Frag}{n:Nat}{t:TGs}(a:z92 t):z9U (w05 K n t):=fun v σ H Q Q' f q=>by
 obtain⟨p,xs,e,h1,h2,q⟩:=q
 exact⟨p,xs,e,h1,h2,a _ _ _ _ _ f q⟩
theorem y6n{K:PySem.W.Frag}{n k:Nat}{t:TGs}(a:y2Q n t):U2 n (w05 K k t):=fun v σ H Q q=>by
 obtain⟨p,xs,e,h1,h2,q⟩:=q
 exact⟨p,xs,e,h1,h2,a _ _ _ _ q⟩
theorem y1m{X:Cx}{K:PySem.W.Frag}(hK:X.K=K):OpR X (binaryOp .Add) (y7d K):=by
 subst hK
 exact y6l
section
variable{X:Cx}
end
structure R3(K:PySem.W.Frag)(x qual:Str)(st:Stmt)(f:Addr)(fd:FuncData)(T:Addr)(items:Array Value):Prop where
 ex:∃(oc:Value) (od:Option Addr) (kV doc pm:Value) (an:Option Addr) (cdv ct:Value) (osl:Array (Option Value)),
  fd=PySem.W.fnOf x qual (z1H st) (z1r st) (z07 st) (.ref T) kV doc pm an cdv ct/\K.lookup f=some ⟨oc,od,.func fd,osl⟩/\PySem.W.codeIn K cdv qual=true
 kp:PySem.W.keepIn K (.ref f)=true
 dt:∃(o:Obj) (n:Nat),K.lookup T=some o/\o.data=.seq items n
section
variable{P:Program}{w:World}{K:PySem.W.Frag}{mg:Str->Option Value}{base:Heap}
theorem R3.ok{x qual:Str}{st:Stmt}{f T:Addr}{items:Array Value}{fd:FuncData}{N ps:List Str}{k:Nat}{sp:Sp}(F:R3 K x qual st f fd T items)(S:A2 N ps (z07 st))(len:∀vs H Q E,sp vs H Q E->vs.length=ps.length)
  (T8:∀(cdv:Value) (A:Around) (outer:List Env) (s:Shared) (H:Hp) (vs:List V) (Q:VK) (E:XK),D4 k (A.deeper (envOfC qual (z07 st) s.heap.objs.size f cdv))->sp vs H Q E->
   ∃t,PSs (U8 CX0 P w K mg base N qual (z07 st) f cdv A outer s H E).nox (z1r st) t/\t { nx:=fun _ H'=>Q .non H',rt:=Q } (z6d N vs) H):A7 P w K mg base CX0 (k+1) f fd ps sp:=by
 obtain⟨oc,od,kV,doc,pm,an,cdv,ct,osl,rfl,lk,hcd⟩:=F.ex
 refine y7r lk hcd S len fun A outer s H vs Q E hr hsp=>?_
 obtain⟨t,h,q⟩:=T8 cdv A outer s H vs Q E hr hsp
 exact⟨t,h.nox,q⟩
theorem R3.binds{x qual:Str}{st:Stmt}{f T:Addr}{items:Array Value}{fd:FuncData}{ps:List Str}{ds:List Value}(F:R3 K x qual st f fd T items)
  (h:∀(kV doc pm:Value) (an:Option Addr) (cdv ct:Value) (us:List Value),us.length+ds.length=ps.length->∃k,bindArgs (PySem.W.fnOf x qual (z1H st) (z1r st) (z07 st) (.ref T) kV doc pm an cdv ct) ⟨us,[]⟩=seqItems? (.ref T) >>= k/\k (some items)=pure (ps.zip (us++ds))):z21 K fd ps ds:=by
 obtain⟨oc,od,kV,doc,pm,an,cdv,ct,osl,rfl,lk,hcd⟩:=F.ex
 obtain⟨o,n,lt,hs⟩:=F.dt
 intro s us KX hl
 rw[bG] at hl
 obtain⟨k,h1,h2⟩:=h kV doc pm an cdv ct us hl
 exact .of_defaults rfl (KX _ _ lt) hs h1 h2
theorem y6N{x qual:Str}{st:Stmt}{f T:Addr}{oc oct:Value}{od odt an:Option Addr}{osl oslt:Array (Option Value)}{items:Array Value}{n:Nat}{kV doc pm cdv ct:Value}(l:K.lookup f=some ⟨oc,od,.func (PySem.W.fnOf x qual (z1H st) (z1r st) (z07 st) (.ref T) kV doc pm an cdv ct),osl⟩)
  (lt:K.lookup T=some ⟨oct,odt,.seq items n,oslt⟩) (c:PySem.W.codeIn K cdv qual=true) (k:PySem.W.keepIn K (.ref f)=true):R3 K x qual st f (PySem.W.fnOf x qual (z1H st) (z1r st) (z07 st) (.ref T) kV doc pm an cdv ct) T items:=⟨⟨oc,od,kV,doc,pm,an,cdv,ct,osl,rfl,l,c⟩,k,_,n,lt,rfl⟩
end
structure Q5(P:Program)(w:World)(K:PySem.W.Frag)(mg:Str->Option Value)(base:Heap)(k:Nat)(x:Str)(ps:List Str)(sp:Sp)(dvs:List V):Prop where
 ex:∃(f:Addr) (fd:FuncData) (ds:List Value),A7 P w K mg base CX0 k f fd ps sp/\z21 K fd ps ds/\Vals dvs ds/\PySem.W.keepIn K (.ref f)=true/\mg x=some (.ref f)
theorem Q5.mk'{P:Program}{w:World}{K:PySem.W.Frag}{mg:Str->Option Value}{base:Heap}{k:Nat}{x:Str}{ps:List Str}{sp:Sp}{dvs:List V}{ds:List Value}{f:Addr}{fd:FuncData}(v:Vals dvs ds)(a:A7 P w K mg base CX0 k f fd ps sp)(b:z21 K fd ps ds)(c:PySem.W.keepIn K (.ref f)=true)(d:mg x=some (.ref f)) :
  Q5 P w K mg base k x ps sp dvs:=⟨⟨f,fd,ds,a,b,v,c,d⟩⟩
theorem Q5.mono{P:Program}{w:World}{K:PySem.W.Frag}{mg:Str->Option Value}{base:Heap}{j k:Nat}{x:Str}{ps:List Str}{sp:Sp}{dvs:List V}(G:Q5 P w K mg base j x ps sp dvs)(h:j≤k):Q5 P w K mg base k x ps sp dvs:=by
 obtain⟨f,fd,ds,a,b,v,c,d⟩:=G.ex
 exact⟨f,fd,ds,a.mono h,b,v,c,d⟩
theorem y6f{X:Cx}{k:Nat}{x:Str}{ps:List Str}{sp:Sp}{dvs:List V}{e:Expr}{es:List Expr}{t:TA}{p pos:Pos}(G:Q5 X.prog X.w X.K X.mg X.base k x ps sp dvs)(hr:D4 k X.A)(hg:Gl X x)(ha:PA X (e::es) t)
  (hdb:(x == ("__debug__":Str))=false:=by decide) (he:starEach (e::es) X.env=(false,eval e X.env)::starEach es X.env:=by rfl) (hpl:(backTo pos (starEach es X.env)).any (·.1)=false:=by rfl) :
  PE X (.Call (.Name x p) (e::es) [] pos) (y6W sp dvs E0 t):=by
 obtain⟨f,fd,ds,a,b,v,c,d⟩:=G.ex
 exact y38 a hr hg d c b v y28 ha hdb he hpl
structure M0(P:Program)(w:World)(K:PySem.W.Frag)(mg:Str->Option Value)(base:Heap)(k:Nat)(C:Addr)(m:Str)(ps:List Str)(sp:Sp)(dvs:List V):Prop where
 cl:Cls K C
 ex:∃(f:Addr) (fd:FuncData) (ds:List Value),A7 P w K mg base CX0 k f fd ps sp/\z21 K fd ps ds/\Vals dvs ds/\Meth K C m f
theorem M0.mk'{P:Program}{w:World}{K:PySem.W.Frag}{mg:Str->Option Value}{base:Heap}{k:Nat}{C:Addr}{m:Str}{ps:List Str}{sp:Sp}{dvs:List V}{ds:List Value}{f:Addr}{fd:FuncData}(v:Vals dvs ds)(c:Cls K C)(a:A7 P w K mg base CX0 k f fd ps sp)(b:z21 K fd ps ds)(d:Meth K C m f) :
  M0 P w K mg base k C m ps sp dvs:=⟨c,f,fd,ds,a,b,v,d⟩
theorem M0.mono{P:Program}{w:World}{K:PySem.W.Frag}{mg:Str->Option Value}{base:Heap}{j k:Nat}{C:Addr}{m:Str}{ps:List Str}{sp:Sp}{dvs:List V}(G:M0 P w K mg base j C m ps sp dvs)(h:j≤k):M0 P w K mg base k C m ps sp dvs:=by
 obtain⟨f,fd,ds,a,b,v,c⟩:=G.ex
 exact⟨G.cl,f,fd,ds,a.mono h,b,v,c⟩
theorem y56{X:Cx}{k:Nat}{C:Addr}{m:Str}{ps:List Str}{sp:Sp}{dvs:List V}{o e:Expr}{es:List Expr}{ta:TE}{t:TA}{pos apos:Pos}{pl:Sem Bool}(G:M0 X.prog X.w X.K X.mg X.base k C m ps sp dvs)(hr:D4 k X.A)(he:PE X o ta)(ha:PA X (e::es) t)
  (hst:starEach (e::es) X.env=(false,eval e X.env)::starEach es X.env:=by rfl) (hpl:(backTo pos (starEach es X.env)).any (·.1)=false:=by rfl)
  (ht:eval (.Call (.Attribute o m apos) (e::es) [] pos) X.env=(do
   let ov <- eval o X.env
   standAt apos.atName
   let (f,first) <- holding [ov] (getMethod ov m pl)
   callWith pos f first (backTo pos (starEach (e::es) X.env)) (backToKw pos (keywordEach [] X.env))):=by rfl) :
  PE X (.Call (.Attribute o m apos) (e::es) [] pos) (y2L C m sp dvs E0 ta t):=by
 obtain⟨f,fd,ds,a,b,v,d⟩:=G.ex
 exact y4g he G.cl d a hr b v y28 ha hst hpl ht
end L2
namespace HT
open PySem PySem.Spec PyProof.Rows L2
section
variable{prog:Program}{w:World}{A:Around}{E:Value->Shared->Prop}{s:Shared}
theorem z6N{t sl:Addr}{items:Array Value}{vl vu:Value}{lo hi:Option Int}{Q:Value->Shared->Prop}(ht:IsTup s.heap t items)(hs:s.heap.IsSliceOf sl vl vu .none)(pl:IsPart vl lo)(pu:IsPart vu hi)
  (hw:sIx items.size 0 lo=0/\sIx items.size items.size hi=items.size) (h:Q (.ref t) s):wpAny (model prog w) A (getItem (.ref t) (.ref sl)) Q E s:=by
 obtain⟨os,hos,hcs,hds⟩:=id hs
 have hTs:s.TypeIs (.ref sl) "slice":=⟨os,hos,hcs⟩
 unfold getItem
 try with_reducible refine wpAny_holding ?_
 first|refine wpAny_bind (wpAny_pure ?_)|skip
 refine wpAny_bind (wpAny_sequenceKey ht.typeIs (by decide) ?_)
 refine wpAny_bind (wpAny_callSpecial?_slot (name:=Str.ofString "__getitem__") ht.typeIs d8
  (wpAny_call_entry d8 ht.typeIs entry_tuple_getitem ?_ (args_tuple_getitem _ _)))
 show wpAny _ _ (Builtin.Tuple.tupleItemsOf (.ref t) >>= _) _ _ s
 refine wpAny_bind (tupleItemsOf_ ht ?_)
 refine wpAny_bind (wpAny_typeOf hTs ?_)
 rw[if_pos (by decide)]
 refine wpAny_bind (z4a hs pl pu ?_)
 have hyes:(((sIx items.size 0 lo:Nat):Int) == 0 && (1:Int) == 1 && (sIx items.size items.size hi-sIx items.size 0 lo) == items.size)=true:=by
  rw[hw.1,hw.2]
  simp
 show wpAny _ _ (if (((sIx items.size 0 lo:Nat):Int) == 0 && (1:Int) == 1 && (sIx items.size items.size hi-sIx items.size 0 lo) == items.size)=true then _ else _) _ _ s
 rw[if_pos hyes]
 refine wpAny_bind (m:=Builtin.Tuple.tupleIsExact _) (wpAny_bind (wpAny_typeOf ht.typeIs (wpAny_pure ?_)))
 rw[if_pos (by decide)]
 refine wpAny_bind (wpAny_rule ?_)
 exact wpAny_pure ⟨_,rfl,wpAny_pure h⟩
end
end HT
namespace L2
open PySem PySem.Spec PyProof.Rows
def z30:List V->List V->Bool
 | [],[]=>true
 | x::xs,y::ys=>eqV x y && z30 xs ys
 | _,_=>false
theorem z9J:∀xs ys:List V,((List.range (min xs.length ys.length)).all (fun j=>eqV (xs.getD j .non) (ys.getD j .non)) && xs.length == ys.length)=z30 xs ys
 | [],[]=>rfl
 | [],_::_=>rfl
 | _::_,[]=>rfl
 | x::xs,y::ys=>by
  have ih:=z9J xs ys
  unfold z30
  rw[<- ih,cH,cH,Nat.succ_min_succ,List.range_succ_eq_map,fL,jU,Bool.and_assoc]
  congr 1
  congr 1
  rw[d7]
  simp
theorem z9O:∀{x:V},z27 x=true->eqV x x=true:=fun {x} h=>by
 cases x with
 | non=>rfl
 | bl b=>exact beq_self_eq_true b
 | int i=>exact beq_self_eq_true i
 | str z=>exact beq_self_eq_true z
 | _=>exact absurd (show false=true from h) bJ
theorem z6E:∀{xs:List V},xs.all z27=true->z30 xs xs=true
 | [],_=>rfl
 | x::xs,h=>by
  rw[fL,bY] at h
  unfold z30
  rw[z9O h.1,z6E h.2]
  rfl
theorem z6o:∀{xs:List V}{us:List Value},Vals xs us->xs.all z27=true->∀(j:Nat) (h:j<us.length),RelV (xs.getD j .non) us[j]/\z27 (xs.getD j .non)=true
 | _,_,.nil,_,j,h=>absurd h (gK _)
 | x::xs,u::us,.cons r t,f,0,h=>by
  rw[fL,bY] at f
  exact⟨r,f.1⟩
 | x::xs,u::us,.cons r t,f,j+1,h=>by
  rw[fL,bY] at f
  exact z6o t f.2 j (Nat.lt_of_succ_lt_succ h)
def eqI:List Value->List V->Bool
 | [],[]=>true
 | u::us,x::xs=>eqU x u && eqI us xs
 | _,_=>false
theorem y4C:∀{ys:List V}{us:List Value} (xs:List V),Vals ys us->ys.all z27=true->eqI us xs=z30 ys xs
 | _,_,[],.nil,_=>rfl
 | _,_,_::_,.nil,_=>rfl
 | y::ys,u::us,[],.cons r t,f=>rfl
 | y::ys,u::us,x::xs,.cons r t,f=>by
  rw[fL,bY] at f
  unfold eqI z30
  rw[y1H r f.1,y4C xs t f.2]
section
variable{X:Cx}
theorem y4A{A:Around}{s:Shared}{a b:Addr}{its L0:List Value}{xs ys:List V}(pl:s.heap.IsTuple a its.toArray)(pl2:s.heap.IsTuple b L0.toArray)(r:Vals xs its)(r2:Vals ys L0)(f:xs.all z27=true)(f2:ys.all z27=true)(hu:A.units<cLine) :
  SeqAt.RcAt A s (.ref a) (.ref b) (z30 xs ys):=by
 have h:=SeqAt.RcAt.tuples (e:=fun j=>eqV (xs.getD j .non) (ys.getD j .non)) pl pl2 hu fun j h1 h2=>by
  rw[bF] at h1 h2
  obtain⟨q1,q2⟩:=z6o r f j h1
  obtain⟨q3,q4⟩:=z6o r2 f2 j h2
  exact y2N q1 q3 q2 q4
 rw[bF,bF,<- r.length,<- r2.length,z9J] at h
 exact h
def rEqT(K:PySem.W.Frag):R2:=fun x y H Q=>∃a b xs ys,x=.ref a/\y=.ref b/\SqT K H a xs/\SqT K H b ys/\xs.all z27=true/\ys.all z27=true/\Q (.bl (z30 xs ys)) H
theorem y7k(hu:X.A.units<cLine):OpR X (compareOp .Eq) (rEqT X.K):=by
 intro pins s σ H x y v u Q I rx ry h
 obtain⟨a,b,xs,ys,rfl,rfl,ha,hb,f1,f2,q⟩:=h
 cases rx
 cases ry
 obtain⟨its,r,pl,hz⟩:=I.tuple ha
 obtain⟨L0,r2,pl2,hz2⟩:=I.tuple hb
 exact y4A pl pl2 r r2 f1 f2 hu X.prog X.w X.xe _ ⟨.bl _,H,I,rfl,q⟩
def z3W(s:Shared)(xs:List V):Value->Bool
 | .ref b=>match s.heap.get? b with
  | some o=>match o.data with
   | .seq its _=>eqI its.toList xs
   | _=>false
  | none=>false
 | _=>false
def y6j(K:PySem.W.Frag):R2:=fun x y H Q=>∃a p xs us yss,x=.ref a/\y=.ref p/\SqT K H a xs/\xs.all z27=true/\SqL K H p us/\Paired (fun u ys=>∃b,u=.ref b/\SqT K H b ys/\ys.all z27=true) us yss/\Q (.bl (!yss.any fun ys=>z30 ys xs)) H
theorem y3W(hu:X.A.units+1<cLine):OpR X (compareOp .NotIn) (y6j X.K):=by
 intro pins s σ H x y v u Q I rx ry h
 obtain⟨a,p,xs,us,yss,rfl,rfl,ha,f1,hp,pr,q⟩:=h
 cases rx
 cases ry
 obtain⟨its,r,pl,hz⟩:=I.tuple ha
 obtain⟨L0,r2,pl2,hz2⟩:=I.list hp
 have item:∀(b:Addr) (ys:List V),SqT X.K H b ys->ys.all z27=true->z3W s xs (.ref b)=z30 ys xs/\SeqAt.EqAt X.A.in1 s (.ref b) (.ref a) (z30 ys xs):=fun b ys hb fb=>by
  obtain⟨its3,r3,pl3,hz3⟩:=I.tuple hb
  have e1:z3W s xs (.ref b)=z30 ys xs:=by
   obtain⟨o,ho,hc,n,hd⟩:=pl3
   unfold z3W
   simp only[ho,hd]
   exact y4C xs r3 fb
  refine⟨e1,?_⟩
  by_cases hne:b=a
  ·subst hne
   have e2:z30 ys xs=true:=by
    rw[<- e1]
    obtain⟨o,ho,hc,n,hd⟩:=pl
    unfold z3W
    simp only[ho,hd]
    rw[y4C xs r f1]
    exact z6E f1
   rw[e2]
   exact SeqAt.EqAt.same _
  ·exact SeqAt.EqAt.of_refs hne (y4A pl3 pl r3 r fb f1 hu)
 have all:∀{us:List V}{yss:List (List V)}{vs:List Value},Paired (fun u ys=>∃b,u=.ref b/\SqT X.K H b ys/\ys.all z27=true) us yss->Vals us vs->vs.any (z3W s xs)=yss.any (fun ys=>z30 ys xs)/\∀v∈vs,SeqAt.EqAt X.A.in1 s v (.ref a) (z3W s xs v):=by
  intro us yss vs pr
  induction pr generalizing vs with
  | nil=>
   intro r
   cases r
   exact⟨rfl,fun v hv=>(nomatch hv)⟩
  | cons h t ih=>
   intro r
   cases r with
   | cons r1 rt=>
    obtain⟨b,rfl,hb,fb⟩:=h
    cases r1
    obtain⟨i1,i2⟩:=ih rt
    obtain⟨j1,j2⟩:=item b _ hb fb
    refine⟨by rw[fM,fM,i1,j1],fun v hv=>?_⟩
    rcases bA.mp hv with rfl|hv
    ·rw[j1];exact j2
    ·exact i2 v hv
 obtain⟨a1,a2⟩:=all pr r2
 refine SeqAt.notIn_listAt (z3W s xs) pl2.isList (fun w hw=>a2 w (by simpa using hw)) ⟨.bl _,H,I,rfl,?_⟩
 rw[show L0.toArray.any (z3W s xs)=L0.any (z3W s xs) by simp,a1]
 exact q
end
def rSlA(K:PySem.W.Frag):V->Option Int->Option Int->Hp->VK->Prop:=fun x lo hi H Q=>∃a xs,x=.ref a/\SqT K H a xs/\((HT.sIx xs.length 0 lo=0/\HT.sIx xs.length xs.length hi=xs.length)->Q (.ref a) H)/\
 (¬(HT.sIx xs.length 0 lo=0/\HT.sIx xs.length xs.length hi=xs.length)->∀p,H p=none->Q (.ref p) (upd H p (.tup (L8 xs lo hi))))
theorem y30{X:Cx}:SlR X (rSlA X.K):=by
 intro pins s σ H x v vl vu lo hi sl Q I rx hs pl pu h
 obtain⟨a,xs,rfl,hx,q1,q2⟩:=h
 by_cases hw:HT.sIx xs.length 0 lo=0/\HT.sIx xs.length xs.length hi=xs.length
 ·cases rx
  obtain⟨its,r,ht,hz⟩:=I.tuple hx
  have hlen:its.toArray.size=xs.length:=by rw[bF];exact r.length.symm
  exact⟨"tuple",_,d8.lookup,ht.typeIs,HT.z6N ht hs pl pu (by rw[hlen];exact hw) ⟨.ref a,H,I,rfl,q1 hw⟩⟩
 ·exact y5K pins s σ H (.ref a) v vl vu lo hi sl Q I rx hs pl pu ⟨a,xs,rfl,hx,hw,q2 hw⟩
def rNeT(K:PySem.W.Frag):R2:=fun x y H Q=>∃a b xs ys,x=.ref a/\y=.ref b/\SqT K H a xs/\SqT K H b ys/\xs.all z27=true/\ys.all z27=true/\Q (.bl (!z30 xs ys)) H
theorem y7v{X:Cx}(hu:X.A.units<cLine):OpR X (compareOp .NotEq) (rNeT X.K):=by
 intro pins s σ H x y v u Q I rx ry h
 obtain⟨a,b,xs,ys,rfl,rfl,ha,hb,f1,f2,q⟩:=h
 cases rx
 cases ry
 obtain⟨its,r,pl,hz⟩:=I.tuple ha
 obtain⟨L0,r2,pl2,hz2⟩:=I.tuple hb
 have h:=SeqAt.RcNeAt.tuples (A:=X.A) (e:=fun j=>eqV (xs.getD j .non) (ys.getD j .non)) pl pl2 hu fun j h1 h2=>by
  rw[bF] at h1 h2
  obtain⟨q1,q2⟩:=z6o r f1 j h1
  obtain⟨q3,q4⟩:=z6o r2 f2 j h2
  exact y2N q1 q3 q2 q4
 rw[bF,bF,<- r.length,<- r2.length,z9J] at h
 exact h X.prog X.w X.xe _ ⟨.bl _,H,I,rfl,q⟩
section
variable{X:Cx}{tg:Expr}
end
end L2
namespace HT
open PySem PySem.Spec PyProof.Rows L2
section
variable{prog:Program}{w:World}{A:Around}{E:Value->Shared->Prop}{s:Shared}
theorem y4Q{t b:Addr}{vs ws:List Value}{Q:Value->Shared->Prop}(ht:IsTup s.heap t vs.toArray)(hb:IsTup s.heap b ws.toArray)(h0:vs=[]->Q (.ref b) s)
  (h1:vs≠[]->ws=[]->Q (.ref t) s) (h2:vs≠[]->ws≠[]->Q (.ref s.heap.objs.size) { s with heap:=s.heap.push { cls:=.type "tuple",data:=.seq (vs++ws).toArray } })
  (hsz:vs.length+ws.length≤sizeLine):wpAny (model prog w) A (binaryOp .Add (.ref t) (.ref b)) Q E s:=by
 by_cases hv:vs=[]
 ·obtain⟨⟨cls,dd,data,sl⟩,ho,hc,n,hd⟩:=id ht
  obtain⟨⟨cls2,dd2,data2,sl2⟩,ho2,hc2,n2,hd2⟩:=id hb
  simp only at hc hd hc2 hd2
  subst hc hd hc2 hd2
  exact concat_meets ⟨_,ho,rfl⟩ ⟨_,ho2,rfl⟩ noFill_tuple_add seq_tuple_add hE gX (gN _ _)
   (tuple_addW0 t b vs.toArray ws.toArray n n2 dd dd2 sl sl2 (by simp[hv])) ⟨ho,ho2,h0 hv⟩
 ·exact y3d ht hb hv (h1 hv) (h2 hv) hsz
end
end HT
namespace L2
open PySem PySem.Spec PyProof.Rows
section
variable{X:Cx}
def w0Q:R2:=fun x y H Q=>∃a b xs ys,x=.ref a/\y=.ref b/\H a=some (.tup xs)/\H b=some (.tup ys)/\xs.length+ys.length≤sizeLine/\∀p H',A3 H H'->H' p=some (.tup (xs++ys))->Q (.ref p) H'
theorem y44:OpR X (binaryOp .Add) w0Q:=by
 intro pins s σ H x y v u Q I rx ry h
 obtain⟨a,b,xs,ys,rfl,rfl,ha,hb,hz,q⟩:=h
 cases rx
 cases ry
 obtain⟨its,r1,p1,_⟩:=I.tuple (SqT.of ha)
 obtain⟨L0,r2,p2,_⟩:=I.tuple (SqT.of hb)
 refine HT.y4Q p1 p2 (fun z=>?_) (fun z0 z=>?_) (fun z0 z=>?_) (by rw[<- r1.length,<- r2.length];exact hz)
 ·refine⟨.ref b,H,I,rfl,q b H (A3.refl _) ?_⟩
  rw[r1.O4.mp z]
  exact hb
 ·refine⟨.ref a,H,I,rfl,q a H (A3.refl _) ?_⟩
  rw[r2.O4.mp z,cY]
  exact ha
 ·refine⟨.ref s.heap.objs.size,_,I.laid (t':=s.toks) (o:=.tup (xs++ys)) (fun b ob q=>b9 _ q) (bE _) ?_,rfl,q _ _ (fun c o e=>?_) z03⟩
  ·exact⟨by rw[bG];exact hz,_,r1.append r2,PlT.new _ _⟩
  ·rw[z0k (z0q e (I.hok.fresh (bE _)))]
   exact e
def rSlB:V->Option Int->Option Int->Hp->VK->Prop:=fun x lo hi H Q=>∃a xs,x=.ref a/\H a=some (.tup xs)/\∀p H',A3 H H'->H' p=some (.tup (L8 xs lo hi))->Q (.ref p) H'
theorem y4k:SlR X rSlB:=by
 intro pins s σ H x v vl vu lo hi sl Q I rx hs pl pu h
 obtain⟨a,xs,rfl,ha,q⟩:=h
 refine y30 pins s σ H (.ref a) v vl vu lo hi sl Q I rx hs pl pu ⟨a,xs,rfl,SqT.of ha,fun hw=>q a H (A3.refl _) ?_,fun _ p hp=>q p _ (fun c o e=>by rw[z0k (z0q e hp)];exact e) z03⟩
 have e:L8 xs lo hi=xs:=by
  unfold L8
  rw[hw.1,hw.2,fE,gQ,bT]
 rw[e]
 exact ha
def y73(K:PySem.W.Frag):V->List V->Hp->VK->Prop:=fun x vs H Q=>∃(l:Addr) (zs:List Str) (z:Str) (j:Nat),x=.ref l/\vs=[.str z]/\SqL K H l (zs.map V.str)/\zs[j]? = some z/\(∀m,m<j->zs[m]? ≠ some z)/\Q (.int (j:Nat)) H
theorem z1E(zs:List Str):(zs.map V.str).all z27=true:=by
 rw[jU,jV]
 intro z _
 rfl
theorem y2P:MtM X "list.index" (y73 X.K):=by
 intro pins s σ H x vs v us Q I rx rv h
 obtain⟨l,zs,z,j,rfl,rfl,hL,ej,hno,q⟩:=h
 cases rx
 obtain⟨u,rfl,ru⟩:=rv.one
 have ru0:=ru
 obtain⟨t,rfl⟩:=ru
 obtain⟨its,r,pl,hz⟩:=I.list hL
 have lr:=r.length
 rw[b7] at lr hz
 have hj:=(bW.mp ej).1
 have line:=sizeLine_eq
 have at_:∀(m:Nat) (hm:m<its.toArray.size),eqU (.str z) its.toArray[m]=decide (zs[m]? = some z):=fun m hm=>by
  have hm':m<its.length:=by rw[bF] at hm;exact hm
  obtain⟨q1,q2⟩:=z6o r (z1E zs) m hm'
  have eu:=y1H (x:=.str z) q1 q2
  have eg:(zs.map V.str).getD m .non=.str (zs[m]'(by omega)):=by
   rw[bL,bB,bC (show m<zs.length by omega)]
   rfl
  rw[eg] at eu
  rw[List.getElem_toArray,eu,bC (show m<zs.length by omega)]
  show(zs[m] == z)=decide (some zs[m]=some z)
  rw[d7,decide_eq_true_eq,beq_iff_eq,Option.some.injEq]
 obtain⟨⟨cls,dd,data,sl⟩,ho,hc,n,hd⟩:=id pl.isList
 simp only at hc hd
 subst hc hd
 have hjs:j<its.toArray.size:=by rw[bF];omega
 refine call_meets F.slot_list_index ⟨_,ho,rfl⟩ F.entry_list_index (F.args_list_index_2 _ _)
  (SeqAt.list_indexAt l its.toArray n dd sl (.str z t) (eqU (.str z)) j hjs (by omega) (by rw[at_ j hjs];exact decide_eq_true ej) (fun m hm hlt=>by rw[at_ m hm];exact decide_eq_false (hno m hlt)))
  ⟨ho,fun w hw=>z4M ru0 rfl r (z1E zs) w (by simpa using hw),?_⟩
 exact⟨.int j,H,I.tok _,⟨_,rfl⟩,q⟩
def z9Y:V->Bool
 | .non=>true
 | _=>false
def y3n:Value->Bool
 | .none=>true
 | _=>false
def y6a(K:PySem.W.Frag):V->List V->Hp->VK->Prop:=fun x vs H Q=>∃(l:Addr) (xs:List V),x=.ref l/\vs=[.non]/\SqL K H l xs/\(∀y∈xs,y=.non\/∃a ys,y=.ref a/\SqT K H a ys)/\Q (.int (xs.countP z9Y:Nat)) H
theorem y41(A:Around)(s:Shared):SeqAt.EqAt A s .none .none true:=SeqAt.EqAt.same _
theorem y4F(hu:X.A.units+1<cLine):MtM X "list.count" (y6a X.K):=by
 intro pins s σ H x vs v us Q I rx rv h
 obtain⟨l,xs,rfl,rfl,hL,hk,q⟩:=h
 cases rx
 obtain⟨u,rfl,ru⟩:=rv.one
 cases ru
 obtain⟨its,r,pl,hz⟩:=I.list hL
 have all:∀{xs:List V}{us:List Value},Vals xs us->(∀y∈xs,y=.non\/∃a ys,y=.ref a/\SqT X.K H a ys)->us.countP y3n=xs.countP z9Y/\∀v∈us,SeqAt.EqAt X.A.in1 s v .none (y3n v):=by
  intro xs us r
  induction r with
  | nil=>exact fun _=>⟨rfl,fun v hv=>(nomatch hv)⟩
  | cons r1 rt ih=>
   intro hk
   obtain⟨i1,i2⟩:=ih fun y hy=>hk y (bS _ hy)
   rcases hk _ bU with e|⟨a,ys,e,ha⟩
   ·subst e
    cases r1
    refine⟨by rw[fH,fH,i1];rfl,fun v hv=>?_⟩
    rcases bA.mp hv with rfl|hv
    ·exact y41 _ _
    ·exact i2 v hv
   ·subst e
    cases r1
    obtain⟨its3,r3,pl3,hz3⟩:=I.tuple ha
    refine⟨by rw[fH,fH,i1];rfl,fun v hv=>?_⟩
    rcases bA.mp hv with rfl|hv
    ·exact SeqAt.EqAt.tuple_none pl3 hu
    ·exact i2 v hv
 obtain⟨a1,a2⟩:=all r hk
 obtain⟨⟨cls,dd,data,sl⟩,ho,hc,n,hd⟩:=id pl.isList
 simp only at hc hd
 subst hc hd
 refine call_meets F.slot_list_count ⟨_,ho,rfl⟩ F.entry_list_count (F.args_list_count_2 _ _) (SeqAt.list_countAt l its.toArray n dd sl .none y3n) ⟨ho,fun w hw=>a2 w (by simpa using hw),?_⟩
 refine⟨.int (xs.countP z9Y:Nat),H,I.tok _,?_,q⟩
 rw[<- a1]
 exact⟨_,rfl⟩
end
def DfK(K:PySem.W.Frag)(x q:Str)(st:Stmt)(dV:Value)(f:Addr):Prop:=∃(oc:Value) (od:Option Addr) (kV doc pm:Value) (an:Option Addr) (cdv ct:Value) (osl:Array (Option Value)),
 K.lookup f=some ⟨oc,od,.func (PySem.W.fnOf x q (z1H st) (z1r st) (z07 st) dV kV doc pm an cdv ct),osl⟩/\PySem.W.codeIn K cdv q=true/\PySem.W.keepIn K (.ref f)=true
def DfT(K:PySem.W.Frag)(x:Str)(st:Stmt)(dV:Value)(f:Addr):Prop:=PySem.W.nsIn K mainGlobals x=some (some (.ref f))/\DfK K x x st dV f
def DfM(K:PySem.W.Frag)(C:Addr)(x q:Str)(st:Stmt)(dV:Value)(f:Addr):Prop:=PySem.W.findIn K (.ref C) x=some (some (.ref f))/\PySem.W.isFn K (.ref f)=true/\DfK K x q st dV f
def DfD(K:PySem.W.Frag)(T:Addr)(its:Array Value):Prop:=∃oct odt nt slt,K.lookup T=some ⟨oct,odt,.seq its nt,slt⟩
def DfC(K:PySem.W.Frag)(x:Str)(C:Addr):Prop:=PySem.W.nsIn K mainGlobals x=some (some (.ref C))/\PySem.W.plainGet K C Str.empty=true/\PySem.W.hasDictIn K C=true/\PySem.W.plainOver K C=true/\PySem.W.findIn K (.ref C) "__setattr__"=some (some (.builtin "object.__setattr__"))/\PySem.W.makesIn K C=true/\PySem.W.keepIn K (.ref C)=true
section
variable{K:PySem.W.Frag}{mg:Str->Option Value}{x q:Str}{st:Stmt}{f C T:Addr}{fd:FuncData}{its:Array Value}
theorem DfK.fn(h:DfK K x q st .none f):∃fd,Fun K x q st f fd:=by
 obtain⟨oc,od,kV,doc,pm,an,cdv,ct,osl,l,c,k⟩:=h
 exact⟨_,y7p l c k⟩
theorem DfK.fnD(h:DfK K x q st (.ref T) f)(d:DfD K T its):∃fd,R3 K x q st f fd T its:=by
 obtain⟨oc,od,kV,doc,pm,an,cdv,ct,osl,l,c,k⟩:=h
 obtain⟨_,_,_,_,d⟩:=d
 exact⟨_,y6N l d c k⟩
theorem z0x{h:Heap}(X:K.In h)(G:h.Ns mainGlobals mg)(a:DfT K x st .none f):∃fd,Fun K x x st f fd/\mg x=some (.ref f):=by
 obtain⟨fd,F⟩:=a.2.fn
 exact⟨fd,F,d9 X G a.1⟩
theorem y6H{h:Heap}(X:K.In h)(G:h.Ns mainGlobals mg)(a:DfT K x st (.ref T) f)(d:DfD K T its):∃fd,R3 K x x st f fd T its/\mg x=some (.ref f):=by
 obtain⟨fd,F⟩:=a.2.fnD d
 exact⟨fd,F,d9 X G a.1⟩
theorem z1F(a:DfM K C x q st .none f):∃fd,Fun K x q st f fd/\Meth K C x f:=by
 obtain⟨fd,F⟩:=a.2.2.fn
 exact⟨fd,F,a.1,a.2.1,F.kp⟩
theorem y51(a:DfM K C x q st (.ref T) f)(d:DfD K T its):∃fd,R3 K x q st f fd T its/\Meth K C x f:=by
 obtain⟨fd,F⟩:=a.2.2.fnD d
 exact⟨fd,F,a.1,a.2.1,F.kp⟩
theorem y0S{y:Str}(c:DfC K y C)(a:DfM K C "__init__" q st .none f):∃fd,Fun K "__init__" q st f fd/\Mk K C f:=by
 obtain⟨fd,F⟩:=a.2.2.fn
 exact⟨fd,F,c.2.2.2.2.2.1,a.1,a.2.1,c.2.2.2.2.2.2⟩
theorem DfC.cls{y:Str}(c:DfC K y C):Cls K C:=⟨c.2.1,c.2.2.1,c.2.2.2.1,c.2.2.2.2.1⟩
theorem DfC.nm{h:Heap}(X:K.In h)(G:h.Ns mainGlobals mg){y:Str}(c:DfC K y C):mg y=some (.ref C):=d9 X G c.1
theorem y2I{p:Str}(F:Fun K x q st f fd)(h:∀kV doc pm an cdv ct v,bindArgs (PySem.W.fnOf x q (z1H st) (z1r st) (z07 st) .none kV doc pm an cdv ct) ⟨[v],[]⟩=pure [(p,v)]:=by intros;rfl):∀(s:Shared) (v:Value),BindsTo s fd ⟨[v],[]⟩ [(p,v)]:=by
 obtain⟨oc,od,kV,doc,pm,an,cdv,ct,osl,rfl,l,c⟩:=F.ex
 exact fun s v=>.of_eq (h _ _ _ _ _ _ _)
theorem b0(F:Fun K x q st f fd)(h:∀kV doc pm an cdv ct,bindArgs (PySem.W.fnOf x q (z1H st) (z1r st) (z07 st) .none kV doc pm an cdv ct) ⟨[],[]⟩=pure (List.zip [] []):=by intros;rfl):z21 K fd [] []:=
 F.binds fun kV doc pm an cdv ct us hl=>len0 (p:=fun us=>bindArgs _ ⟨us,[]⟩=pure (List.zip _ us)) hl (h kV doc pm an cdv ct)
theorem b1{p1:Str}(F:Fun K x q st f fd)(h:∀kV doc pm an cdv ct a,bindArgs (PySem.W.fnOf x q (z1H st) (z1r st) (z07 st) .none kV doc pm an cdv ct) ⟨[a],[]⟩=pure (List.zip [p1] [a]):=by intros;rfl):z21 K fd [p1] []:=
 F.binds fun kV doc pm an cdv ct us hl=>P8 (p:=fun us=>bindArgs _ ⟨us,[]⟩=pure (List.zip _ us)) hl (h kV doc pm an cdv ct)
theorem b2{p1 p2:Str}(F:Fun K x q st f fd)(h:∀kV doc pm an cdv ct a b,bindArgs (PySem.W.fnOf x q (z1H st) (z1r st) (z07 st) .none kV doc pm an cdv ct) ⟨[a,b],[]⟩=pure (List.zip [p1,p2] [a,b]):=by intros;rfl):z21 K fd [p1,p2] []:=
 F.binds fun kV doc pm an cdv ct us hl=>X7 (p:=fun us=>bindArgs _ ⟨us,[]⟩=pure (List.zip _ us)) hl (h kV doc pm an cdv ct)
theorem b3{p1 p2 p3:Str}(F:Fun K x q st f fd)(h:∀kV doc pm an cdv ct a b c,bindArgs (PySem.W.fnOf x q (z1H st) (z1r st) (z07 st) .none kV doc pm an cdv ct) ⟨[a,b,c],[]⟩=pure (List.zip [p1,p2,p3] [a,b,c]):=by intros;rfl):z21 K fd [p1,p2,p3] []:=
 F.binds fun kV doc pm an cdv ct us hl=>w08 (p:=fun us=>bindArgs _ ⟨us,[]⟩=pure (List.zip _ us)) hl (h kV doc pm an cdv ct)
theorem b4{p1 p2 p3 p4:Str}(F:Fun K x q st f fd)(h:∀kV doc pm an cdv ct a b c d,bindArgs (PySem.W.fnOf x q (z1H st) (z1r st) (z07 st) .none kV doc pm an cdv ct) ⟨[a,b,c,d],[]⟩=pure (List.zip [p1,p2,p3,p4] [a,b,c,d]):=by intros;rfl):z21 K fd [p1,p2,p3,p4] []:=
 F.binds fun kV doc pm an cdv ct us hl=>len4 (p:=fun us=>bindArgs _ ⟨us,[]⟩=pure (List.zip _ us)) hl (h kV doc pm an cdv ct)
theorem b5{p1 p2 p3 p4 p5:Str}(F:Fun K x q st f fd)(h:∀kV doc pm an cdv ct a b c d e,bindArgs (PySem.W.fnOf x q (z1H st) (z1r st) (z07 st) .none kV doc pm an cdv ct) ⟨[a,b,c,d,e],[]⟩=pure (List.zip [p1,p2,p3,p4,p5] [a,b,c,d,e]):=by intros;rfl):z21 K fd [p1,p2,p3,p4,p5] []:=
 F.binds fun kV doc pm an cdv ct us hl=>len5 (p:=fun us=>bindArgs _ ⟨us,[]⟩=pure (List.zip _ us)) hl (h kV doc pm an cdv ct)
theorem b6{p1 p2 p3 p4 p5 p6:Str}(F:Fun K x q st f fd)(h:∀kV doc pm an cdv ct a b c d e g,bindArgs (PySem.W.fnOf x q (z1H st) (z1r st) (z07 st) .none kV doc pm an cdv ct) ⟨[a,b,c,d,e,g],[]⟩=pure (List.zip [p1,p2,p3,p4,p5,p6] [a,b,c,d,e,g]):=by intros;rfl):z21 K fd [p1,p2,p3,p4,p5,p6] []:=
 F.binds fun kV doc pm an cdv ct us hl=>len6 (p:=fun us=>bindArgs _ ⟨us,[]⟩=pure (List.zip _ us)) hl (h kV doc pm an cdv ct)
end
theorem calF(P:Program)(w:World)(K:PySem.W.Frag)(mg:Str->Option Value)(base:Heap){k:Nat}{x:Str}{ps:List Str}{sp:Sp}{st:Stmt}{f:Addr}{fd:FuncData}(F:Fun K x x st f fd/\mg x=some (.ref f))(a:A7 P w K mg base CX0 k f fd ps sp)(b:z21 K fd ps []):Cal P w K mg base k x ps sp:=.mk' a b F.1.kp F.2
theorem mclF(P:Program)(w:World)(K:PySem.W.Frag)(mg:Str->Option Value)(base:Heap){k:Nat}{C:Addr}{x q:Str}{ps:List Str}{sp:Sp}{st:Stmt}{f:Addr}{fd:FuncData}(c:Cls K C)(F:Fun K x q st f fd/\Meth K C x f)(a:A7 P w K mg base CX0 k f fd ps sp)(b:z21 K fd ps []):D2 P w K mg base k C x ps sp:=.mk' c a b F.2
theorem mkrF(P:Program)(w:World)(K:PySem.W.Frag)(mg:Str->Option Value)(base:Heap){k:Nat}{C:Addr}{x y q:Str}{ps:List Str}{sp:Sp}{st:Stmt}{f:Addr}{fd:FuncData}(c:mg x=some (.ref C))(F:Fun K y q st f fd/\Mk K C f)(a:A7 P w K mg base CX0 k f fd ps sp)(b:z21 K fd ps []):Mkr P w K mg base k C x ps sp:=.mk' a b F.2 c
theorem scp{N P:List Str}{sc:Scope}(h1:sc.kind=.function:=by rfl)(h2:sc.isCoroutine=false:=by rfl)(h3:sc.isGenerator=false:=by rfl)(h4:N.Nodup:=by decide +kernel)(h5:N.take P.length=P:=by rfl)
  (h6:∀x∈P,sc.names.lookup x=some .local\/sc.names.lookup x=some .cell:=by decide +kernel) (h7:∀y∈sc.names,y.2≠.free:=by decide +kernel):A2 N P sc:=⟨h1,h2,h3,h4,h5,h6,h7⟩
theorem rm{j k:Nat}{A:Around}(r:D4 k A)(h:j≤k:=by omega):D4 j A:=r.mono h
theorem Cal.up{P:Program}{w:World}{K:PySem.W.Frag}{mg:Str->Option Value}{base:Heap}{j k:Nat}{x:Str}{ps:List Str}{sp:Sp}(G:Cal P w K mg base j x ps sp)(h:j≤k:=by decide):Cal P w K mg base k x ps sp:=G.mono h
theorem Q5.up{P:Program}{w:World}{K:PySem.W.Frag}{mg:Str->Option Value}{base:Heap}{j k:Nat}{x:Str}{ps:List Str}{sp:Sp}{d:List V}(G:Q5 P w K mg base j x ps sp d)(h:j≤k:=by decide):Q5 P w K mg base k x ps sp d:=G.mono h
theorem D2.up{P:Program}{w:World}{K:PySem.W.Frag}{mg:Str->Option Value}{base:Heap}{j k:Nat}{C:Addr}{x:Str}{ps:List Str}{sp:Sp}(G:D2 P w K mg base j C x ps sp)(h:j≤k:=by decide):D2 P w K mg base k C x ps sp:=G.mono h
theorem M0.up{P:Program}{w:World}{K:PySem.W.Frag}{mg:Str->Option Value}{base:Heap}{j k:Nat}{C:Addr}{x:Str}{ps:List Str}{sp:Sp}{d:List V}(G:M0 P w K mg base j C x ps sp d)(h:j≤k:=by decide):M0 P w K mg base k C x ps sp d:=G.mono h
theorem Mkr.up{P:Program}{w:World}{K:PySem.W.Frag}{mg:Str->Option Value}{base:Heap}{j k:Nat}{C:Addr}{x:Str}{ps:List Str}{sp:Sp}(G:Mkr P w K mg base j C x ps sp)(h:j≤k:=by decide):Mkr P w K mg base k C x ps sp:=G.mono h
section
variable{X:Cx}{mg:Str->Option Value}
theorem le2:2≤sizeLine:=by decide
end
end L2
namespace HT
open PySem PySem.Spec PyProof.Rows L2
section
variable{prog:Program}{w:World}{A:Around}{E:Value->Shared->Prop}{s:Shared}
end
end HT
namespace L2
open PySem PySem.Spec PyProof.Rows
section
variable{X:Cx}{es:List Expr}{ec:Nat}{tp:Pos}
end
end L2
namespace My
open PySem L2
def top(i:Nat):Stmt:=PySem.Challenge.pw_backissues_k34_whole_any_order.main.body.getD i (.Pass ⟨0,0,0,0⟩)
abbrev z2o:Stmt:=top 20
abbrev z2u:Stmt:=top 21
abbrev z2T:Stmt:=top 22
abbrev z1R:Stmt:=top 23
abbrev z2E:Stmt:=top 25
abbrev z5d:Stmt:=top 26
abbrev z6H:Stmt:=top 27
abbrev z1I:Stmt:=top 28
abbrev z41:Stmt:=top 29
abbrev z1P:Stmt:=top 30
abbrev z7X:Stmt:=top 32
abbrev z2s:Stmt:=top 34
abbrev z2F:Stmt:=top 35
abbrev z3l:Stmt:=top 36
abbrev z3i:Stmt:=top 37
abbrev z2K:Stmt:=z1d (top 38) 0
abbrev z1u:Stmt:=z1d (top 38) 1
abbrev z3V:Stmt:=z1d (top 38) 2
abbrev z3p:Stmt:=z1d (top 38) 3
abbrev z42:Stmt:=z1d (top 38) 4
abbrev z2V:Stmt:=z1d (top 40) 0
abbrev z6v:Stmt:=z1d (top 40) 1
abbrev z6x:Stmt:=z1d (top 40) 2
abbrev z3N:Stmt:=z1d (top 40) 3
abbrev z3z:Stmt:=z1d (top 40) 4
abbrev z3w:Stmt:=z1d (top 40) 5
abbrev z22:Stmt:=top 44
abbrev z3x:Stmt:=z1d (top 45) 0
abbrev z14:Stmt:=z1d (top 45) 1
abbrev z1f:Stmt:=z1d (top 45) 2
abbrev z5v:Stmt:=z1d (top 45) 3
abbrev z3P:Stmt:=z1d (top 45) 4
abbrev z4D:Stmt:=z1d (top 45) 5
abbrev z5K:Stmt:=z1d (top 45) 6
abbrev z5B:Stmt:=z1d (top 45) 7
abbrev z6k:Stmt:=z1d (top 45) 8
abbrev z5i:Stmt:=z1d (top 45) 9
abbrev z81:Stmt:=top 50
abbrev z3q:Stmt:=top 51
abbrev z9y:Stmt:=top 52
abbrev z6I:Stmt:=top 53
abbrev z7J:Stmt:=top 54
abbrev z36:Stmt:=top 55
abbrev z6O:Stmt:=top 56
abbrev z5H:Stmt:=top 58
abbrev z5g:Stmt:=top 59
abbrev z3R:Stmt:=top 60
abbrev z4w:Stmt:=top 61
abbrev z2R:Stmt:=top 63
abbrev z7V:Stmt:=top 64
abbrev z9p:Stmt:=top 66
abbrev z6J:Stmt:=top 67
abbrev z7F:Stmt:=top 68
abbrev z5r:Stmt:=top 69
abbrev z4P:Stmt:=top 70
abbrev z5N:Stmt:=top 71
abbrev z3T:Stmt:=top 72
abbrev z6s:Stmt:=top 73
abbrev z5e:Stmt:=top 74
abbrev z4u:Stmt:=top 75
abbrev z8v:Stmt:=top 76
abbrev z3y:Stmt:=top 77
abbrev z4s:Stmt:=top 78
abbrev z6j:Stmt:=top 79
abbrev z6q:Stmt:=top 80
abbrev z5o:Stmt:=top 81
abbrev z5L:Stmt:=top 82
abbrev z5E:Stmt:=top 83
abbrev z6y:Stmt:=top 84
abbrev z5u:Stmt:=top 85
abbrev z4j:Stmt:=top 86
abbrev z2X:Stmt:=top 87
abbrev z6i:Stmt:=top 88
abbrev z3X:Stmt:=top 89
abbrev z5h:Stmt:=top 90
abbrev z2Q:Stmt:=top 91
abbrev z3s:Stmt:=top 92
abbrev w0f:Stmt:=top 93
abbrev z2r:List Str:=["names"]
abbrev z2q:List Str:=["reach"]
abbrev z2f:List Str:=["names","reach"]
abbrev z1l:List Str:=["names","name"]
abbrev z2J:List Str:=["had"]
abbrev z5x:List Str:=["number","reach"]
abbrev z6G:List Str:=["had","number","reach"]
abbrev z1a:List Str:=["had","reach"]
abbrev z2i:List Str:=["had","reach"]
abbrev z1j:List Str:=["had","reach","behind"]
abbrev z7Y:List Str:=["sets","reach"]
abbrev z2t:List Str:=["value"]
abbrev z2G:List Str:=["names","rows"]
abbrev z3o:List Str:=["names","rows"]
abbrev z2x:List Str:=["rows"]
abbrev z2H:List Str:=["self","names","reach"]
abbrev z15:List Str:=["self","rows"]
abbrev z3O:List Str:=["self","rows"]
abbrev z3r:List Str:=["self"]
abbrev z29:List Str:=["self","number"]
abbrev z2Z:List Str:=["self","names","reach"]
abbrev z6K:List Str:=["self","issue"]
abbrev z1n:List Str:=["self"]
abbrev z3L:List Str:=["self"]
abbrev z2z:List Str:=["self","number"]
abbrev z3v:List Str:=["self","number"]
abbrev z20:List Str:=["readers"]
abbrev z3m:List Str:=["self","names","reach","readers"]
abbrev z0O:List Str:=["self","reader"]
abbrev z0X:List Str:=["self"]
abbrev z5w:List Str:=["self","rows"]
abbrev z3Z:List Str:=["self","reader","number"]
abbrev z72:List Str:=["self"]
abbrev z7D:List Str:=["self","number"]
abbrev z7O:List Str:=["self"]
abbrev z8G:List Str:=["self","which"]
abbrev z2S:List Str:=["self","reader","deed"]
abbrev z2U:List Str:=["shelf","name"]
abbrev z3u:List Str:=["shelf","number","teller"]
abbrev z6g:List Str:=["shelf"]
abbrev z4T:List Str:=["shelf","name"]
abbrev z3F:List Str:=["shelf","name"]
abbrev z33:List Str:=["shelf","name"]
abbrev z6z:List Str:=["shelf"]
abbrev z5p:List Str:=["shelf"]
abbrev z5M:List Str:=["power"]
abbrev z3M:List Str:=["shelf"]
abbrev z4K:List Str:=["shelf","name"]
abbrev z2Y:List Str:=["had","reach","behind"]
abbrev z4J:List Str:=["shelf","name"]
abbrev z5P:List Str:=["_law_script","_law_k"]
abbrev z3I:List Str:=["_law_cell","_law_size"]
abbrev z3G:List Str:=["_law_cell","_law_many","_law_size"]
abbrev z5F:List Str:=["_law_found"]
abbrev z25:List Str:=["_law_found","_law_due"]
abbrev z5I:List Str:=["_law_cell","_law_many"]
abbrev z2O:List Str:=["_law_times"]
abbrev z6m:List Str:=["_law_names_here","_law_cell","_law_many"]
abbrev z5D:List Str:=["_law_figure","_law_place"]
abbrev z4q:List Str:=["_law_sets_here","_law_cell"]
abbrev z7T:List Str:=["_law_cell","_law_many"]
abbrev z3t:List Str:=["_law_row_here","_law_cell"]
abbrev z2A:List Str:=["_law_had_here","_law_number","_law_reach"]
abbrev z4R:List Str:=["_law_had_here","_law_rows","_law_reach"]
abbrev z4O:List Str:=["_law_had_here","_law_rows","_law_name"]
abbrev z3Q:List Str:=["_law_gaps_here","_law_number","_law_name"]
abbrev z37:List Str:=["_law_gaps_here","_law_number","_law_name"]
abbrev z5j:List Str:=["_law_names_here","_law_had_here","_law_rows","_law_reach"]
abbrev z6C:List Str:=["_law_had_here","_law_reach"]
abbrev z5t:List Str:=["_law_had_here","_law_rows","_law_reach"]
abbrev z4n:List Str:=["_law_found","_law_names_here","_law_known_here"]
abbrev z34:List Str:=["_law_course_here","_law_number","_law_name"]
abbrev z6D:List Str:=["_law_found","_law_had_here","_law_reach","_law_behind"]
abbrev z3Y:List Str:=["_law_script","_law_names_here"]
abbrev z5y:List Str:=["_law_script"]
abbrev z35:List Str:=["_law_shelf","_law_names_here","_law_name","_law_known_here","_law_gaps_here","_law_held_here"]
abbrev z3k:List Str:=["_law_shelf","_law_names_here","_law_had_here","_law_rows","_law_reach"]
abbrev plaw:List Str:=["_law_script"]
theorem z3f:A2 ["names"] z2r (z07 z2o):=scp
theorem z3d:A2 ["reach"] z2q (z07 z2u):=scp
theorem z46:A2 ["names","reach"] z2f (z07 z2T):=scp
theorem z2B:A2 ["names","name"] z1l (z07 z1R):=scp
theorem z3A:A2 ["had","latest"] z2J (z07 z2E):=scp
theorem z7j:A2 ["number","reach"] z5x (z07 z5d):=scp
theorem z83:A2 ["had","number","reach","tellers"] z6G (z07 z6H):=scp
theorem z2l:A2 ["had","reach"] z1a (z07 z1I):=scp
theorem z51:A2 ["had","reach"] z2i (z07 z41):=scp
theorem z2C:A2 ["had","reach","behind"] z1j (z07 z1P):=scp
theorem z8W:A2 ["sets","reach","number","ahead"] z7Y (z07 z7X):=scp
theorem z3b:A2 ["value"] z2t (z07 z2s):=scp
theorem z3B:A2 ["names","rows","set_names","name","value"] z2G (z07 z2F):=scp
theorem z4F:A2 ["names","rows","values"] z3o (z07 z3l):=scp
theorem z4l:A2 ["rows"] z2x (z07 z3i):=scp
theorem z3J:A2 ["self","names","reach"] z2H (z07 z2K):=scp
theorem z2h:A2 ["self","rows"] z15 (z07 z1u):=scp
theorem z54:A2 ["self","rows","number","sets"] z3O (z07 z3V):=scp
theorem z4o:A2 ["self"] z3r (z07 z3p):=scp
theorem z5a:A2 ["self","number"] z29 (z07 z42):=scp
theorem z47:A2 ["self","names","reach"] z2Z (z07 z2V):=scp
theorem z8t:A2 ["self","issue","number"] z6K (z07 z6v):=scp
theorem z8n:A2 ["self"] z1n (z07 z6x):=scp
theorem z5b:A2 ["self"] z3L (z07 z3N):=scp
theorem z4z:A2 ["self","number"] z2z (z07 z3z):=scp
theorem z4C:A2 ["self","number"] z3v (z07 z3w):=scp
theorem z2M:A2 ["readers"] z20 (z07 z22):=scp
theorem z4r:A2 ["self","names","reach","readers"] z3m (z07 z3x):=scp
theorem z1z:A2 ["self","reader"] z0O (z07 z14):=scp
theorem z1O:A2 ["self"] z0X (z07 z1f):=scp
theorem z75:A2 ["self","rows","number"] z5w (z07 z5v):=scp
theorem z57:A2 ["self","reader","number","getting","lacked"] z3Z (z07 z3P):=scp
theorem z66:A2 ["self"] z72 (z07 z4D):=scp
theorem z70:A2 ["self","number"] z7D (z07 z5K):=scp
theorem z7i:A2 ["self"] z7O (z07 z5B):=scp
theorem z8w:A2 ["self","which"] z8G (z07 z6k):=scp
theorem z6R:A2 ["self","reader","deed","behind","told","past"] z2S (z07 z5i):=scp
theorem z8X:A2 ["shelf","name","number","values"] z2U (z07 z81):=scp
theorem z4B:A2 ["shelf","number","teller"] z3u (z07 z3q):=scp
theorem z9T:A2 ["shelf","lacking"] z6g (z07 z9y):=scp
theorem z7B:A2 ["shelf","name","held_from"] z4T (z07 z6I):=scp
theorem z9a:A2 ["shelf","name","held_from","dark_behind"] z3F (z07 z7J):=scp
theorem z4e:A2 ["shelf","name"] z33 (z07 z36):=scp
theorem z82:A2 ["shelf"] z6z (z07 z6O):=scp
theorem z76:A2 ["shelf","sets","number","teller","names"] z5p (z07 z5H):=scp
theorem z7c:A2 ["power","product","step"] z5M (z07 z5g):=scp
theorem z59:A2 ["shelf","dark"] z3M (z07 z3R):=scp
theorem z6c:A2 ["shelf","name","not_again","latest_dark","again"] z4K (z07 z4w):=scp
theorem z4b:A2 ["had","reach","behind","fewest","apart","dark"] z2Y (z07 z2R):=scp
theorem z8K:A2 ["shelf","name","asked","held_from"] z4J (z07 z7V):=scp
theorem z9V:A2 ["_law_script","_law_k"] z5P (z07 z9p):=scp
theorem z7K:A2 ["_law_cell","_law_size","_law_once"] z3I (z07 z6J):=scp
theorem z8V:A2 ["_law_cell","_law_many","_law_size","_law_rest","_law_mixed","_law_figures","_law_k"] z3G (z07 z7F):=scp
theorem z6Y:A2 ["_law_found"] z5F (z07 z5r):=scp
theorem z7E:A2 ["_law_found","_law_due","_law_k"] z25 (z07 z4P):=scp
theorem z74:A2 ["_law_cell","_law_many","_law_signs","_law_turn","_law_stem","_law_spot"] z5I (z07 z5N):=scp
theorem z56:A2 ["_law_times","_law_many","_law_turn"] z2O (z07 z3T):=scp
theorem z8g:A2 ["_law_names_here","_law_cell","_law_many","_law_size","_law_sets_here","_law_figure","_law_mask","_law_chosen","_law_name"] z6m (z07 z6s):=scp
theorem z6S:A2 ["_law_figure","_law_place"] z5D (z07 z5e):=scp
theorem z6h:A2 ["_law_sets_here","_law_cell","_law_figures","_law_rows","_law_k","_law_one","_law_place"] z4q (z07 z4u):=scp
theorem z8J:A2 ["_law_cell","_law_many","_law_flags","_law_numbers_here","_law_number","_law_jump","_law_figure"] z7T (z07 z8v):=scp
theorem z4I:A2 ["_law_row_here","_law_cell","_law_figures","_law_told","_law_k"] z3t (z07 z3y):=scp
theorem z5V:A2 ["_law_had_here","_law_number","_law_reach","_law_above"] z2A (z07 z4s):=scp
theorem z7U:A2 ["_law_had_here","_law_rows","_law_reach","_law_gaps_here","_law_number","_law_teller_here"] z4R (z07 z6j):=scp
theorem z7z:A2 ["_law_had_here","_law_rows","_law_name","_law_held_here","_law_number","_law_row_here"] z4O (z07 z6q):=scp
theorem z78:A2 ["_law_gaps_here","_law_number","_law_name"] z3Q (z07 z5o):=scp
theorem z6W:A2 ["_law_gaps_here","_law_number","_law_name"] z37 (z07 z5L):=scp
theorem z7g:A2 ["_law_names_here","_law_had_here","_law_rows","_law_reach","_law_gaps_here","_law_table_here","_law_name","_law_held_here"] z5j (z07 z5E):=scp
theorem z8k:A2 ["_law_had_here","_law_reach","_law_dark_here","_law_number"] z6C (z07 z6y):=scp
theorem z77:A2 ["_law_had_here","_law_rows","_law_reach","_law_known_here","_law_number"] z5t (z07 z5u):=scp
theorem z5Q:A2 ["_law_found","_law_names_here","_law_known_here","_law_k","_law_places","_law_name","_law_j"] z4n (z07 z4j):=scp
theorem z4f:A2 ["_law_course_here","_law_number","_law_name","_law_k"] z34 (z07 z2X):=scp
theorem z8l:A2 ["_law_found","_law_had_here","_law_reach","_law_behind","_law_part","_law_k","_law_need","_law_number","_law_dark_here"] z6D (z07 z6i):=scp
theorem z50:A2 ["_law_script","_law_names_here","_law_many","_law_sets_here"] z3Y (z07 z3X):=scp
theorem z7e:A2 ["_law_script"] z5y (z07 z5h):=scp
theorem z4d:A2 ["_law_shelf","_law_names_here","_law_name","_law_known_here","_law_gaps_here","_law_held_here","_law_state_here","_law_again_here","_law_pair"] z35 (z07 z2Q):=scp
theorem z4i:A2 ["_law_shelf","_law_names_here","_law_had_here","_law_rows","_law_reach","_law_gaps_here","_law_known_here","_law_least","_law_name","_law_held_here"] z3k (z07 z3s):=scp
theorem y7A:A2 ["_law_script","_law_names_here","_law_rows","_law_reach","_law_had_here","_law_book","_law_one","_law_orders","_law_k","_law_reader","_law_shelf"] plaw (z07 w0f):=scp
structure J2(K:PySem.W.Frag)(mg:Str->Option Value)(C:Addr):Prop where
 cl:Cls K C
 mgC:mg "Office"=some (.ref C)
 n_names:z2W K C "names"
 n_reach:z2W K C "reach"
 n_written:z2W K C "written"
structure C8(K:PySem.W.Frag)(mg:Str->Option Value)(C:Addr):Prop where
 cl:Cls K C
 mgC:mg "Shelf"=some (.ref C)
 n_names:z2W K C "names"
 n_reach:z2W K C "reach"
 n_issues:z2W K C "issues"
structure J3(K:PySem.W.Frag)(mg:Str->Option Value)(C:Addr):Prop where
 cl:Cls K C
 mgC:mg "Book"=some (.ref C)
 n_office:z2W K C "office"
 n_readers:z2W K C "readers"
 n_done:z2W K C "done"
structure Bl(mg:Str->Option Value):Prop where
 len:mg "len"=none
 range:mg "range"=none
 tuple:mg "tuple"=none
 list:mg "list"=none
 max:mg "max"=none
 min:mg "min"=none
 sorted:mg "sorted"=none
 isinstance:mg "isinstance"=none
 bool:mg "bool"=none
 int:mg "int"=none
 str:mg "str"=none
 set:mg "set"=none
 reversed:mg "reversed"=none
 dict:mg "dict"=none
 zip:mg "zip"=none
 all:mg "all"=none
 MOST_NAMES:∃t,mg "MOST_NAMES"=some (.int 12 t)
 MOST_REACH:∃t,mg "MOST_REACH"=some (.int 10 t)
 MOST_NUMBERS:∃t,mg "MOST_NUMBERS"=some (.int 60 t)
 MOST_VALUE:∃t,mg "MOST_VALUE"=some (.int 1000000 t)
 MOST_READERS:∃t,mg "MOST_READERS"=some (.int 10 t)
 MOST_DEEDS:∃t,mg "MOST_DEEDS"=some (.int 400 t)
 WRITE:∃t,mg "WRITE"=some (.str "write" t)
 DELIVER:∃t,mg "DELIVER"=some (.str "deliver" t)
 SURE:∃t,mg "SURE"=some (.str "sure" t)
 STALE:∃t,mg "STALE"=some (.str "stale" t)
 OPEN:∃t,mg "OPEN"=some (.str "open" t)
theorem z01{H:Hp}{p:Addr}(h:H p=none)(o:HO):A3 H (upd H p o):=fun b u q=>by rw[z0k (z0q q h)];exact q
theorem z1Z{H H':Hp}{l:Addr}{o:HO}(hs:A3 H H')(hl:H l=none):A3 H (upd H' l o):=fun b u e=>by rw[z0k (z0q e hl)];exact hs b u e
theorem y10{n:Nat}(h:n≤1000):n≤sizeLine:=dQ (z0e h)
theorem z43{ns:List Int}{k:Int}(h0:0≤k)(h:k<(ns.length:Int)):atI (ns.map V.int) k=some (.int (ns.getD k.toNat 0)):=by
 have hk:k.toNat<ns.length:=by omega
 have ek:k=((k.toNat:Nat):Int):=by omega
 have q:atI (ns.map V.int) ((k.toNat:Nat):Int)=some (.int (ns.getD k.toNat 0)):=z0K (by
  rw[bB,bC hk,bL,bC hk]<;>rfl)
 rw[<- ek] at q
 exact q
theorem z7s{K:PySem.W.Frag}{H H':Hp}{a:Addr}{xs:List V}(e:A3 H H')(h:SqT K H a xs):SqT K H' a xs:=by
 rcases h with (h|⟨o,h⟩)|h
 ·exact .inl (.inl (e _ _ h))
 ·exact .inl (.inr ⟨o,e _ _ h⟩)
 ·exact .inr h
theorem z0F{p:Prop}[Decidable p](h:decide p=true):p:=of_decide_eq_true h
theorem z49{p:Prop}[Decidable p](h:¬decide p=true):¬p:=fun q=>h (decide_eq_true q)
section
variable{P:Program}{w:World}{K:PySem.W.Frag}{mg:Str->Option Value}{base:Heap}{f:Addr}{fd:FuncData}
theorem z1N:∀{l1 l2:List Int},l1.Pairwise (· < ·)->l2.Pairwise (· < ·)->(∀x,x∈l1↔x∈l2)->l1=l2
 | [],[],_,_,_=>rfl
 | [],y::_,_,_,h=>by have:=(h y).mpr bU;cases this
 | x::_,[],_,_,h=>by have:=(h x).mp bU;cases this
 | x::r,y::t,p1,p2,h=>by
  rw[gR] at p1 p2
  have e:x=y:=by
   rcases bA.mp ((h x).mp bU) with e|hx
   ·exact e
   ·rcases bA.mp ((h y).mpr bU) with e|hy
    ·exact e.symm
    ·have:=p1.1 y hy
     have:=p2.1 x hx
     omega
  subst e
  refine congrArg (x::·) (z1N p1.2 p2.2 fun z=>⟨fun hz=>?_,fun hz=>?_⟩)
  ·rcases bA.mp ((h z).mp (bS _ hz)) with e|q
   ·have:=p1.1 z hz
    omega
   ·exact q
  ·rcases bA.mp ((h z).mpr (bS _ hz)) with e|q
   ·have:=p2.1 z hz
    omega
   ·exact q
theorem z1s(lo:Int):∀n,(upI lo n).Pairwise (· < ·)
 | 0=>List.Pairwise.nil
 | n+1=>by
  rw[z62]
  refine cT.mpr ⟨z1s lo n,dY _ _,fun x hx y hy=>?_⟩
  have h1:=z13.mp hx
  rw[b8.mp hy]
  omega
theorem y6S(lo:Int)(n:Nat):R8 lo n=(upI lo n).map V.int:=by
 unfold R8 upI
 rw[dJ]
 rfl
def X5(K:PySem.W.Frag):Sp:=fun vs H Q _=>∃(a:Addr) (ns:List Int) (k:Int),vs=[.ref a,.int k]/\SqL K H a (ns.map V.int)/\0≤k/\Q (.int (ns.getD k.toNat 0)) H
theorem w0O(M:Bl mg)(F:Fun K "_law_at" "_law_at" z9p f fd):A7 P w K mg base CX0 1 f fd z5P (X5 K):=by
 have nd:=z9V.nd
 refine F.ok z9V (fun vs H Q E h=>?_) (fun cdv A outer s H vs Q E hr h=>?_)
 ·obtain⟨a,ns,k,rfl,_⟩:=h
  rfl
 obtain⟨a,ns,k,rfl,hS,h0,q⟩:=h
 refine⟨_,(z04 (z0D (z0a z8x (pv 1) (z0b z09 rfl M.len bK (z00 (pv 0) z02)) (z0m _)) (z05 (z0f (z0z z0V (pv 0) (pv 1) (fun _ _=>rfl)))) z0l) (z05 (z0f z06))),?_⟩
 have hl:(ns.map V.int).length=ns.length:=b7 _
 refine⟨_,rfl,_,rfl,a,_,rfl,.inl hS,_,_,rfl,rfl,_,rfl,?_⟩
 refine B0 (fun c=>?_) (fun c=>?_)
 ·have c':=z0F c
  rw[hl] at c'
  exact⟨_,rfl,_,rfl,a,_,_,_,rfl,rfl,hS,z43 h0 c',q⟩
 ·have c':=z49 c
  rw[hl] at c'
  have e:ns.getD k.toNat 0=0:=by rw[bL,List.getElem?_eq_none (by omega)];rfl
  rw[e] at q
  exact q
def y1W:Sp:=fun vs H Q _=>∃c n:Int,vs=[.int c,.int n]/\0<n/\∀r,0≤r->r<n->Q (.int r) H
theorem y6m(F:Fun K "_law_pick" "_law_pick" z6J f fd):A7 P w K mg base CX0 1 f fd z3I y1W:=by
 have nd:=z7K.nd
 refine F.ok z7K (fun vs H Q E h=>?_) (fun cdv A outer s H vs Q E hr h=>?_)
 ·obtain⟨c,n,rfl,_⟩:=h
  rfl
 obtain⟨c,n,rfl,hn,q⟩:=h
 refine⟨_,(z04 (z0D (z0a z2L (z0t z1h (pv 0) z06) z06 (z0m _)) (z05 (z0f (z0t z1h (z0t z1t (pv 0) z06) (pv 1)))) z0l) (z04 (z0p (i:=2) nd rfl (Or.inl rfl) (z0t z1h (z0t z4c (z0t z1t (pv 0) z06) z06) z06)) (z05 (z0f (z0t z1h (z0t z1h (z0t z4c (z0t z1g (pv 2) z06) z06) z06) (pv 1)))))),?_⟩
 refine⟨_,rfl,_,_,rfl,rfl,(by show(0:Int)<2;decide),rfl,_,rfl,?_⟩
 refine B0 (fun _=>?_) (fun _=>?_)
 ·exact⟨_,rfl,_,_,rfl,rfl,⟨by decide,by decide⟩,_,rfl,_,_,rfl,rfl,hn,q _ (d5 _ (by omega)) (cX _ hn)⟩
 ·refine⟨_,rfl,_,_,rfl,rfl,⟨by decide,by decide⟩,_,_,rfl,rfl,.inr ⟨by decide,by decide⟩,_,_,rfl,rfl,(by show(0:Int)<2147483647;decide),?_⟩
  refine⟨_,rfl,_,_,rfl,rfl,_,_,rfl,rfl,.inr ⟨by decide,by decide⟩,_,_,rfl,rfl,(by show(0:Int)<2147483647;decide),_,rfl,_,_,rfl,rfl,hn,?_⟩
  exact q _ (d5 _ (by omega)) (cX _ hn)
def z8O:Nat->Sp
 | 0=>fun _ _ _ _=>False
 | n+1=>fun vs H Q _=>∃x y,vs=[x,y]/\z4U H n x y/\∀H',A3 H H'->Q (.bl true) H'
theorem y39:A7 P w K mg base CX0 0 f fd z25 (z8O 0):=
 ⟨fun vs H Q E h=>h.elim,fun A outer s H args us vs Q E _ _ _ _ h=>h.elim⟩
def tyOf:V->String
 | .non=>"NoneType"
 | .bl _=>"bool"
 | .int _=>"int"
 | _=>"str"
theorem z4x{H:Hp}{x:V}(h:y2a x=true):O5 K H x (.type (tyOf x)):=by
 cases x with
 | non=>exact .non
 | bl b=>exact .bl b
 | int i=>exact .int i
 | str z=>exact .str z
 | _=>exact absurd h bJ
def kitB:V->String->Bool
 | .bl _,T=>T == "bool" || T == "int"
 | .int _,T=>T == "int"
 | .str _,T=>T == "str"
 | _,_=>false
theorem z3K(T:String)(hT:T="tuple"\/T="bool"\/T="int"\/T="str"){x:V}(h:y2a x=true):PySem.W.kitOne K (.type (tyOf x)) (.type T)=some (kitB x T):=by
 cases x with
 | non=>rcases hT with rfl|rfl|rfl|rfl<;>kernel_rfl
 | bl b=>rcases hT with rfl|rfl|rfl|rfl<;>kernel_rfl
 | int i=>rcases hT with rfl|rfl|rfl|rfl<;>kernel_rfl
 | str z=>rcases hT with rfl|rfl|rfl|rfl<;>kernel_rfl
 | _=>exact absurd h bJ
theorem y2f(x:V):kitB x "tuple"=false:=by cases x<;>rfl
theorem z5C:PySem.W.kitOne K (.type "tuple") (.type "tuple")=some true:=by kernel_rfl
theorem y62{xs:List V}{i:Nat}(h:i<xs.length):∃v,xs[i]? = some v/\atI xs (i:Int)=some v:=⟨xs[i],bC h,z0K (bC h)⟩
theorem y6y{x:V}(h:y2a x=true):w00 x x=true:=by
 cases x<;>first|rfl|exact absurd h bJ
theorem y6o{n:Nat}(M:Bl mg)(F:Fun K "_law_same" "_law_same" z4P f fd)(D5:Cal P w K mg base n "_law_same" z25 (z8O n)) :
  A7 P w K mg base CX0 (n+1) f fd z25 (z8O (n+1)):=by
 have nd:=z7E.nd
 refine F.ok z7E (fun vs H Q E h=>?_) (fun cdv A outer s H vs Q E hr h=>?_)
 ·obtain⟨x,y,rfl,_⟩:=h
  rfl
 obtain⟨x,y,rfl,ha,q⟩:=h
 refine⟨_,(z04 (z0D (z24 (z0b z0J rfl M.isinstance bZ (z00 (pv 1) (z00 (z1S (v:=.ty "tuple") rfl M.tuple bI rfl) z02)))) (z04 (z0D (PW.pt (z3a (z2c (z24 (z0b z0J rfl M.isinstance bZ (z00 (pv 0) (z00 (z1S (v:=.ty "tuple") rfl M.tuple bI rfl) z02))))) (z1T (z0a z7l (z0b z09 rfl M.len bK (z00 (pv 0) z02)) (z0b z09 rfl M.len bK (z00 (pv 1) z02)) (z0m _))))) (z05 (z0f z1W)) z0l) (z04 (z0P bQ rfl (z0T rfl M.range (z00 (z0b z09 rfl M.len bK (z00 (pv 1) z02)) z02)) (z0j (i:=2) nd rfl (Or.inl rfl)) (z05 (z0D (z2c (z24 (z0i D5 (rm hr) rfl (z00 (z0z z0A (pv 0) (pv 2) (fun _ _=>rfl)) (z00 (z0z z0A (pv 1) (pv 2) (fun _ _=>rfl)) z02))))) (z05 (z0f z1W)) z0l))) (z05 (z0f z1W)))) z0l) (z04 (z0D (PW.pt (z3a (z0a z7l (z0b z0J rfl M.isinstance bZ (z00 (pv 0) (z00 (z1S (v:=.ty "bool") rfl M.bool hJ rfl) z02))) (z0b z0J rfl M.isinstance bZ (z00 (pv 1) (z00 (z1S (v:=.ty "bool") rfl M.bool hJ rfl) z02))) (z0m _)) (z1T (z0a z7l (z0b z0J rfl M.isinstance bZ (z00 (pv 0) (z00 (z1S (v:=.ty "int") rfl M.int j6 rfl) z02))) (z0b z0J rfl M.isinstance bZ (z00 (pv 1) (z00 (z1S (v:=.ty "int") rfl M.int j6 rfl) z02))) (z0m _))))) (z05 (z0f z1W)) z0l) (z04 (z0D (PW.pt (z3a (z0a z7l (z0b z0J rfl M.isinstance bZ (z00 (pv 0) (z00 (z1S (v:=.ty "str") rfl M.str j7 rfl) z02))) (z0b z0J rfl M.isinstance bZ (z00 (pv 1) (z00 (z1S (v:=.ty "str") rfl M.str j7 rfl) z02))) (z0m _)) (z1T (z0a z7l (y3r (z8R (pv 0))) (y3r (z8R (pv 1))) (z0m _))))) (z05 (z0f z1W)) z0l) (z05 (z0f (y18 z2L (pv 0) (pv 1) (z0m _))))))),?_⟩
 have ha':(x=y/\y2a x=true)\/∃(m:Nat) (a b:Addr) (xs ys:List V),n=m+1/\x=.ref a/\y=.ref b/\H a=some (.tup xs)/\H b=some (.tup ys)/\xs.length=ys.length/\ys.length≤1000000/\
   ∀(i:Nat) (u v:V),xs[i]? = some u->ys[i]? = some v->z4U H m u v:=by
  cases n with
  | zero=>exact .inl ha
  | succ n=>
   rcases ha with ha|⟨a,b,xs,ys,e1,e2,h1,h2,hl,hm,hi⟩
   ·exact .inl ha
   ·exact .inr ⟨n,a,b,xs,ys,rfl,e1,e2,h1,h2,hl,hm,hi⟩
 rcases ha' with ⟨rfl,hs⟩|⟨m,a,b,xs,ys,rfl,rfl,rfl,h1,h2,hl,hm,hi⟩
 ·have k1:=z3K (K:=K) "tuple" (.inl rfl) hs
  have k2:=z3K (K:=K) "bool" (.inr (.inl rfl)) hs
  have k3:=z3K (K:=K) "int" (.inr (.inr (.inl rfl))) hs
  have k4:=z3K (K:=K) "str" (.inr (.inr (.inr rfl))) hs
  rw[y2f] at k1
  refine⟨_,rfl,_,_,_,_,rfl,z4x hs,k1,_,rfl,B1 ?_⟩
  refine⟨_,rfl,_,_,_,_,rfl,z4x hs,k2,_,rfl,_,_,_,_,rfl,z4x hs,k2,rfl,_,rfl,?_⟩
  rw[decide_eq_true rfl]
  refine B1 ⟨_,rfl,_,_,_,_,rfl,z4x hs,k3,_,rfl,_,_,_,_,rfl,z4x hs,k3,rfl,_,rfl,?_⟩
  rw[decide_eq_true rfl]
  refine B1 ?_
  refine⟨_,rfl,_,_,_,_,rfl,z4x hs,k4,_,rfl,_,_,_,_,rfl,z4x hs,k4,rfl,_,rfl,?_⟩
  rw[decide_eq_true rfl]
  refine B1 ⟨_,rfl,_,rfl,rfl,_,rfl,?_⟩
  rw[decide_eq_true rfl]
  refine B1 ?_
  refine⟨_,rfl,_,rfl,y6y hs,?_⟩
  rw[decide_eq_true rfl]
  exact q H (A3.refl H)
 ·refine⟨_,rfl,_,_,_,_,rfl,.tup h2,z5C,_,rfl,F4 ?_⟩
  refine⟨_,rfl,_,_,_,_,rfl,.tup h1,z5C,_,rfl,B1 ?_⟩
  refine⟨_,rfl,a,xs,rfl,.inr (SqT.of h1),_,rfl,b,ys,rfl,.inr (SqT.of h2),rfl,_,rfl,?_⟩
  rw[hl,decide_eq_true rfl]
  refine B1 ?_
  refine⟨_,rfl,b,ys,rfl,.inr (SqT.of h2),_,rfl,by omega,by omega,?_⟩
  refine z0U (lo:=0) (n:=ys.length) (fun _ σ H'=>A3 H H'/\∃o,σ=[some (.ref a),some (.ref b),o]) ⟨A3.refl H,_,rfl⟩ (fun i σ H' hi' hp=>?_) (fun σ H' hp=>?_)
  ·obtain⟨hS,o,rfl⟩:=hp
   obtain⟨u,hu,au⟩:=y62 (xs:=xs) (i:=i) (by omega)
   obtain⟨v,hv,av⟩:=y62 (xs:=ys) (i:=i) hi'
   have ei:(0:Int)+(i:Int)=(i:Int):=eU _
   refine⟨_,rfl,_,rfl,a,_,_,_,rfl,rfl,SqT.of (hS _ _ h1),(by rw[ei];exact au),_,rfl,_,rfl,b,_,_,_,rfl,rfl,SqT.of (hS _ _ h2),(by rw[ei];exact av),?_⟩
   refine⟨u,v,rfl,(hi i u v hu hv).keep hS,fun H2 hS2=>⟨_,rfl,?_⟩⟩
   exact B1 ⟨hS.trans hS2,_,rfl⟩
  ·obtain⟨hS,o,rfl⟩:=hp
   exact q H' hS
theorem y1X(M:Bl mg)(F:Fun K "_law_same" "_law_same" z4P f fd)(B:z21 K fd z25 [])(N:mg "_law_same"=some (.ref f)) :
  ∀n,Cal P w K mg base n "_law_same" z25 (z8O n)
 | 0=>.mk' y39 B F.kp N
 | n+1=>.mk' (y6o M F (y1X M F B N n)) B F.kp N
theorem z9k{ns:List Int}{n:Nat}(h:ns.length≤n)(hn:n≤1000):(ns.map V.int).length<sizeLine:=z0e (by rw[b7];omega)
def y4d:Sp:=fun vs H Q _=>∃c m z:Int,vs=[.int c,.int m,.int z]/\0≤m/\m≤900/\0<z/\z<1073741824/\
 ∀(l:Addr) (ns:List Int) (H':Hp),H l=none->A3 H H'->H' l=some (.lst (ns.map V.int))->ns.length=m.toNat->(∀x∈ns,0≤x/\x<z)->Q (.ref l) H'
theorem y74(M:Bl mg)(F:Fun K "_law_row" "_law_row" z7F f fd):A7 P w K mg base CX0 1 f fd z3G y4d:=by
 have nd:=z8V.nd
 refine F.ok z8V (fun vs H Q E h=>?_) (fun cdv A outer s H vs Q E hr h=>?_)
 ·obtain⟨c,m,z,rfl,_⟩:=h
  rfl
 obtain⟨c,m,z,rfl,m0,m1,z0,z1,q⟩:=h
 refine⟨_,(z04 (z0p (i:=3) nd rfl (Or.inl rfl) (z0t z1t (pv 0) z06)) (z04 (z0p (i:=4) nd rfl (Or.inl rfl) (z0t z1h (z0t z4c (pv 3) z06) z06)) (z04 (z0p (i:=5) nd rfl (Or.inl rfl) (z1i z02)) (z04 (z0P bQ rfl (z0T rfl M.range (z00 (pv 1) z02)) (z0j (i:=6) nd rfl (Or.inl rfl)) (z04 (z0p (i:=4) nd rfl (Or.inl rfl) (z0t z1h (z0t z1g (z0t z1g (z0t z4c (pv 4) z06) (pv 6)) z06) z06)) (z05 (z0D (z0a z2L (z0t z1h (pv 0) z06) z06 (z0m _)) (z04 (z0C (z2N bR bV bX z0L (pv 5) (z00 (z0t z1h (pv 3) (pv 2)) z02))) (z05 (z0p (i:=3) nd rfl (Or.inl rfl) (z0t z1t (pv 3) (pv 2))))) (z05 (z0C (z2N bR bV bX z0L (pv 5) (z00 (z0t z1h (z0t z1t (pv 4) z06) (pv 2)) z02)))))))) (z05 (z0f (pv 5))))))),?_⟩
 refine⟨_,rfl,_,_,rfl,rfl,⟨by decide,by decide⟩,?_⟩
 refine⟨_,rfl,_,_,rfl,rfl,.inr ⟨by decide,by decide⟩,_,_,rfl,rfl,(by show(0:Int)<2147483647;decide),?_⟩
 refine⟨(by show 0≤sizeLine;decide),fun l hl=>?_⟩
 refine⟨_,rfl,_,rfl,by omega,by omega,?_⟩
 refine z0U (lo:=0) (n:=m.toNat) (fun i σ H'=>∃(ns:List Int) (r mx:Int) (o:Option V),ns.length=i/\(∀x∈ns,0≤x/\x<z)/\H'=upd H l (.lst (ns.map V.int))/\
  σ=[some (.int c),some (.int m),some (.int z),some (.int r),some (.int mx),some (.ref l),o]) ⟨[],_,_,_,rfl,(fun _ h=>nomatch h),rfl,rfl⟩ (fun i σ H' hi hp=>?_) (fun σ H' hp=>?_)
 ·obtain⟨ns,r,mx,o,hlen,B3,rfl,rfl⟩:=hp
  refine⟨_,rfl,_,_,rfl,rfl,.inr ⟨by decide,by decide⟩,_,rfl,_,_,rfl,rfl,_,_,rfl,rfl,_,_,rfl,rfl,(by show(0:Int)<2147483647;decide),?_⟩
  refine⟨_,rfl,_,_,rfl,rfl,(by show(0:Int)<2;decide),rfl,_,rfl,?_⟩
  have grow:∀y:Int,(∀x∈ns++[y%z],0≤x/\x<z):=fun y x hx=>by
   rcases bN.mp hx with h|h
   ·exact B3 x h
   ·rw[b8.mp h]
    exact⟨d5 _ (by omega),cX _ z0⟩
  have put:∀y:Int,upd (upd H l (.lst (ns.map V.int))) l (.lst (ns.map V.int++[.int (y%z)]))=upd H l (.lst ((ns++[y%z]).map V.int)):=fun y=>by
   rw[z5f,bD]
   rfl
  refine B0 (fun _=>?_) (fun _=>?_)
  ·refine⟨_,rfl,.inl ⟨rfl,_,SqL.of z03⟩,_,rfl,_,rfl,_,_,rfl,rfl,z0,l,_,_,rfl,rfl,z03,z9k (n:=i) (by omega) (by omega),?_⟩
   refine⟨_,rfl,_,rfl,_,_,rfl,rfl,⟨z0,z1⟩,?_⟩
   exact⟨ns++[r%z],_,_,_,by rw[bG,hlen];rfl,grow r,put r,rfl⟩
  ·refine⟨_,rfl,.inl ⟨rfl,_,SqL.of z03⟩,_,rfl,_,_,rfl,rfl,⟨by decide,by decide⟩,_,rfl,_,_,rfl,rfl,z0,l,_,_,rfl,rfl,z03,z9k (n:=i) (by omega) (by omega),?_⟩
   exact⟨ns++[_%z],_,_,_,by rw[bG,hlen];rfl,grow _,put _,rfl⟩
 ·obtain⟨ns,r,mx,o,hlen,B3,rfl,rfl⟩:=hp
  exact⟨_,rfl,q l ns _ hl (z01 hl _) z03 hlen B3⟩
theorem z2y(x:Int)(ns:List Int):inV (.int x) (ns.map V.int)=decide (x∈ns):=by
 unfold inV
 rw[d7,gS,j0,decide_eq_true_eq]
 constructor
 ·rintro⟨y,hy,e⟩
  have e':(y == x)=true:=e
  rw[<- eq_of_beq e']
  exact hy
 ·intro h
  exact⟨x,h,show(x == x)=true from beq_self_eq_true x⟩
theorem z1X(ns:List Int):(ns.map V.int).all z27=true:=by
 rw[jU,jV]
 intro x _
 rfl
theorem y2Y{l:List Int}{x:Int}(h:l.Pairwise (· < ·))(hx:∀y∈l,y<x):(l++[x]).Pairwise (· < ·):=
 cT.mpr ⟨h,dY _ _,fun a ha b hb=>by rw[b8.mp hb];exact hx a ha⟩
theorem y3j{l:List Int}(h:l.Pairwise (· < ·)):(l.map fun x=>x+1).Pairwise (· < ·):=by
 rw[dG]
 exact h.imp fun {a b} h=>by omega
theorem y0e:∀{l:List Int},l.Pairwise (·≤·)->l.Nodup->l.Pairwise (· < ·)
 | [],_,_=>.nil
 | x::r,h,n=>by
  rw[gR] at h ⊢
  rw[dM] at n
  refine⟨fun y hy=>?_,y0e h.2 n.2⟩
  have:=h.1 y hy
  have:x≠y:=fun e=>n.1 (e ▸ hy)
  omega
def y7l:Sp:=fun vs H Q _=>∃c m:Int,vs=[.int c,.int m]/\0≤m/\m≤60/\
 ∀(l:Addr) (ns:List Int) (H':Hp),H l=none->A3 H H'->H' l=some (.lst (ns.map V.int))->ns.Pairwise (· < ·)->(∀x∈ns,1≤x/\x≤m)->ns.length≤60->Q (.ref l) H'
theorem y7w(M:Bl mg)(F:Fun K "_law_had" "_law_had" z8v f fd)(C0:Cal P w K mg base 1 "_law_row" z3G y4d):A7 P w K mg base CX0 2 f fd z7T y7l:=by
 have nd:=z8J.nd
 refine F.ok z8J (fun vs H Q E h=>?_) (fun cdv A outer s H vs Q E hr h=>?_)
 ·obtain⟨c,m,rfl,_⟩:=h
  rfl
 obtain⟨c,m,rfl,m0,m1,q⟩:=h
 refine⟨_,(z04 (z0D (z0a z2L (z0t z1h (pv 0) z06) z06 (z0m _)) (z04 (z0p (i:=2) nd rfl (Or.inr rfl) (z0i C0 (rm hr) rfl (z00 (z0t z1t (pv 0) z06) (z00 (pv 1) (z00 z06 z02))))) (z05 (z0f (z1e ["_law_k"] ["_law_flags"] [2] rfl (z0v rfl (by decide +kernel) rfl (by decide +kernel) rfl rfl) (z0T rfl M.range (z00 (pv 1) z02)) (fun _ _ _ _ _=>(z0j (i:=0) (show((["_law_k"]:List PySem.Str)++(["_law_flags"]:List PySem.Str)).Nodup from by decide +kernel) rfl (Or.inl rfl))) (z0w (by decide)) z0h (fun _ _ _ _ _=>(z2d (z0a z2L (z0z (r:=w03 K) z0V (pv 1) (pv 0) (fun _ _=>rfl)) z06 (z0m _)))) (fun _ _ _ _ _=>(z0t z1g (pv 0) z06)))))) z0l) (z04 (z0p (i:=3) nd rfl (Or.inl rfl) (z1i z02)) (z04 (z0D (z0a z2L (z0t z1h (pv 0) z06) z06 (z0m _)) (z04 (z0p (i:=4) nd rfl (Or.inl rfl) z06) (z04 (z0P bQ rfl (z1w (z0i C0 (rm hr) rfl (z00 (z0t z1t (pv 0) z06) (z00 (pv 1) (z00 z06 z02))))) (z0j (i:=5) nd rfl (Or.inl rfl)) (z04 (z0p (i:=4) nd rfl (Or.inl rfl) (z0t z1g (z0t z1g (pv 4) z06) (pv 5))) (z05 (z0D (z0a y2q (pv 4) (pv 1) (z0m _)) (z05 (z0C (z2N bR bV bX z0L (pv 3) (z00 (pv 4) z02)))) z0l)))) (z05 (z0f (pv 3))))) z0l) (z04 (z0P bQ rfl (z1w (z0i C0 (rm hr) rfl (z00 (z0t z1t (pv 0) z06) (z00 z06 (z00 (z0t z1g (pv 1) z06) z02))))) (z0j (i:=6) nd rfl (Or.inl rfl)) (z05 (z0D (PW.pt (z3c (z0a z2k (pv 6) z06 (z0m _)) (z2j (z0a z1q (pv 6) (pv 3) (by with_unfolding_all rfl))))) (z05 (z0C (z2N bR bV bX z0L (pv 3) (z00 (pv 6) z02)))) z0l))) (z05 (z0f (z0b z8s rfl M.sorted fI (z00 (pv 3) z02)))))))),?_⟩
 refine⟨_,rfl,_,_,rfl,rfl,(by show(0:Int)<3;decide),rfl,_,rfl,?_⟩
 refine B0 (fun _=>?_) (fun _=>?_)
 ·refine⟨_,rfl,_,_,rfl,rfl,⟨by decide,by decide⟩,_,rfl,_,m,2,rfl,m0,by omega,by decide,by decide,fun lf fs H1 nlf s1 e1 P8 all1=>?_⟩
  refine⟨_,rfl,_,rfl,by omega,by omega,?_⟩
  refine z7P (lo:=0) (n:=m.toNat) (fun k=>decide (fs.getD k.toNat 0=1)) (fun k=>.int (k+1)) (by omega) (fun k ys N k0 k1 hN=>?_) ?_
  ·refine⟨_,rfl,_,rfl,lf,_,_,_,rfl,rfl,SqL.of e1,z43 k0 (by omega),rfl,_,rfl,?_⟩
   refine B0 (fun c2=>?_) (fun c2=>?_)
   ·have c3:decide (fs.getD k.toNat 0=1)=true:=decide_eq_true (V.int.inj (z0F c2))
    rw[if_pos c3] at hN
    exact⟨_,rfl,_,_,rfl,rfl,hN⟩
   ·have c3:¬decide (fs.getD k.toNat 0=1)=true:=fun z=>c2 (decide_eq_true (congrArg V.int (z0F z)))
    rw[if_neg c3] at hN
    exact hN
  ·intro D hD
   have e:z1U (fun k=>decide (fs.getD k.toNat 0=1)) (fun k=>V.int (k+1)) (upI 0 m.toNat)=(((upI 0 m.toNat).filter fun k=>decide (fs.getD k.toNat 0=1)).map fun x=>x+1).map V.int:=by
    unfold z1U
    rw[dJ]
    rfl
   refine q D (((upI 0 m.toNat).filter fun k=>decide (fs.getD k.toNat 0=1)).map fun x=>x+1) _ (s1.free hD) (s1.trans (z01 hD _)) ?_ (y3j ((z1s 0 _).filter _)) (fun x hx=>?_) ?_
   ·rw[z03,e]
   ·obtain⟨y,hy,rfl⟩:=cO.mp hx
    have:=z13.mp (cI.mp hy).1
    omega
   ·rw[b7]
    have h:=cJ (fun k:Int=>decide (fs.getD k.toNat 0=1)) (upI 0 m.toNat)
    rw[z0M] at h
    omega
 ·refine⟨(by show 0≤sizeLine;decide),fun l hl=>?_⟩
  refine⟨_,rfl,_,_,rfl,rfl,(by show(0:Int)<3;decide),rfl,_,rfl,?_⟩
  refine B0 (fun _=>?_) (fun _=>?_)
  ·refine⟨_,rfl,_,_,rfl,rfl,⟨by decide,by decide⟩,_,rfl,_,m,15,rfl,m0,by omega,by decide,by decide,fun lf fs H1 nlf s1 e1 P8 all1=>?_⟩
   have nl:lf≠l:=fun z=>by rw[z,z03] at nlf;cases nlf
   refine⟨lf,rfl,⟨_,SqL.of e1⟩,?_⟩
   refine z1Y (xs:=fs.map V.int) (fun i σ H'=>∃(ns:List Int) (x:Int) (o1 o2 o3:Option V),ns.Pairwise (· < ·)/\(∀y∈ns,1≤y/\y≤m/\y≤x)/\0≤x/\ns.length≤i/\H' l=some (.lst (ns.map V.int))/\H' lf=some (.lst (fs.map V.int))/\A3 H H'/\
    σ=[some (.int c),some (.int m),o1,some (.ref l),some (.int x),o2,o3]) ⟨[],0,_,_,_,.nil,(fun _ h=>nomatch h),eJ 0,bE 0,s1 _ _ z03,e1,(z01 hl _).trans s1,rfl⟩ (fun i σ H' hi hp=>?_) (fun i x σ H' hx hp=>?_) (fun σ H' hp=>?_)
   ·obtain⟨ns,x,o1,o2,o3,_,_,_,_,_,h2,_⟩:=hp
    exact SqL.of h2
   ·obtain⟨ns,v,o1,o2,o3,p1,p2,p3,p4,p5,p6,p7,rfl⟩:=hp
    rw[bB] at hx
    cases ef:fs[i]? with
    | none=>rw[ef] at hx;cases hx
    | some j=>
     rw[ef] at hx
     cases hx
     have hj:=all1 j (bO ef)
     have hi:i<fs.length:=(bW.mp ef).1
     refine⟨_,rfl,_,_,rfl,rfl,_,rfl,_,_,rfl,rfl,?_⟩
     refine⟨_,rfl,_,rfl,_,_,rfl,rfl,_,rfl,?_⟩
     refine B0 (fun c2=>?_) (fun c2=>?_)
     ·have c3:=z0F c2
      refine⟨_,rfl,.inl ⟨rfl,_,SqL.of p5⟩,_,rfl,l,_,_,rfl,rfl,p5,z9k (n:=i) p4 (by omega),?_⟩
      refine⟨ns++[v+1+j],v+1+j,_,_,_,y2Y p1 fun y hy=>by have:=p2 y hy;omega,fun y hy=>?_,by omega,by rw[bG,dH];omega,?_,?_,z1Z p7 hl,rfl⟩
      ·rcases bN.mp hy with h|h
       ·have:=p2 y h;omega
       ·rw[b8.mp h];omega
      ·rw[z03,bD];rfl
      ·rw[z0k nl];exact p6
     ·exact⟨ns,v+1+j,_,_,_,p1,fun y hy=>by have:=p2 y hy;omega,by omega,by omega,p5,p6,p7,rfl⟩
   ·obtain⟨ns,x,o1,o2,o3,p1,p2,p3,p4,p5,p6,p7,rfl⟩:=hp
    rw[b7] at p4
    exact⟨_,rfl,q l ns _ hl p7 p5 p1 (fun y hy=>⟨(p2 y hy).1,(p2 y hy).2.1⟩) (by omega)⟩
  ·refine⟨_,rfl,_,_,rfl,rfl,⟨by decide,by decide⟩,_,rfl,_,_,rfl,rfl,_,4,m+1,rfl,by decide,by decide,by omega,by omega,fun lf fs H1 nlf s1 e1 P8 all1=>?_⟩
   have nl:lf≠l:=fun z=>by rw[z,z03] at nlf;cases nlf
   refine⟨lf,rfl,⟨_,SqL.of e1⟩,?_⟩
   refine z1Y (xs:=fs.map V.int) (fun i σ H'=>∃(ns:List Int) (o1 o2 o3 o4:Option V),ns.Nodup/\(∀y∈ns,1≤y/\y≤m)/\ns.length≤i/\H' l=some (.lst (ns.map V.int))/\H' lf=some (.lst (fs.map V.int))/\A3 H H'/\
    σ=[some (.int c),some (.int m),o1,some (.ref l),o2,o3,o4]) ⟨[],_,_,_,_,.nil,(fun _ h=>nomatch h),bE 0,s1 _ _ z03,e1,(z01 hl _).trans s1,rfl⟩ (fun i σ H' hi hp=>?_) (fun i x σ H' hx hp=>?_) (fun σ H' hp=>?_)
   ·obtain⟨ns,o1,o2,o3,o4,_,_,_,_,h2,_⟩:=hp
    exact SqL.of h2
   ·obtain⟨ns,o1,o2,o3,o4,p1,p2,p4,p5,p6,p7,rfl⟩:=hp
    rw[bB] at hx
    cases ef:fs[i]? with
    | none=>rw[ef] at hx;cases hx
    | some j=>
     rw[ef] at hx
     cases hx
     have hj:=all1 j (bO ef)
     have hi:i<fs.length:=(bW.mp ef).1
     have same:∃(ns':List Int) (o1 o2 o3 o4:Option V),ns'.Nodup/\(∀y∈ns',1≤y/\y≤m)/\ns'.length≤i+1/\H' l=some (.lst (ns'.map V.int))/\H' lf=some (.lst (fs.map V.int))/\A3 H H'/\
       ([some (.int c),some (.int m),o1,some (.ref l),o2,o3,o4]:St)=[some (.int c),some (.int m),o1,some (.ref l),o2,o3,o4]:=⟨ns,o1,o2,o3,o4,p1,p2,by omega,p5,p6,p7,rfl⟩
     refine⟨_,rfl,_,_,rfl,rfl,_,rfl,?_⟩
     refine B0 (fun c2=>?_) (fun c2=>?_)
     ·have c3:=z0F c2
      refine⟨_,rfl,_,rfl,l,_,rfl,.inl (SqL.of p5),rfl,z1X ns,_,rfl,?_⟩
      rw[if_pos rfl,z2y]
      refine B0 (fun c4=>?_) (fun c4=>?_)
      ·have c5:j∉ns:=fun z=>by rw[decide_eq_true z] at c4;exact absurd c4 bJ
       refine⟨_,rfl,.inl ⟨rfl,_,SqL.of p5⟩,_,rfl,l,_,_,rfl,rfl,p5,z9k (n:=i) p4 (by omega),?_⟩
       refine⟨ns++[j],_,_,_,_,?_,fun y hy=>?_,by rw[bG,dH];omega,?_,?_,z1Z p7 hl,rfl⟩
       ·rw[h9]
        exact⟨p1,dM.mpr ⟨dX,List.nodup_nil⟩,fun y hy z hz=>by rw[b8.mp hz];exact fun e=>c5 (e ▸ hy)⟩
       ·rcases bN.mp hy with h|h
        ·exact p2 y h
        ·rw[b8.mp h];omega
       ·rw[z03,bD];rfl
       ·rw[z0k nl];exact p6
      ·exact⟨ns,_,_,_,_,p1,p2,by omega,p5,p6,p7,rfl⟩
     ·refine B1 ?_
      exact⟨ns,_,_,_,_,p1,p2,by omega,p5,p6,p7,rfl⟩
   ·obtain⟨ns,o1,o2,o3,o4,p1,p2,p4,p5,p6,p7,rfl⟩:=hp
    rw[b7] at p4
    refine⟨_,rfl,l,ns,rfl,SqL.of p5,by omega,fun l2 ns2 hl2 perm srt=>?_⟩
    refine q l2 ns2 _ (p7.free hl2) (p7.trans (z01 hl2 _)) z03 (y0e srt (perm.nodup_iff.mpr p1)) (fun x hx=>p2 x (perm.mem_iff.mp hx)) ?_
    have:=perm.length_eq
    omega
def z16(ns:List Int):List Int:=(upI 1 60).filter fun x=>decide (x∉ns) && decide (∃y∈ns,x<y)
theorem z0N{ns:List Int}{x:Int}:x∈z16 ns↔(1≤x/\x<1+60)/\x∉ns/\∃y∈ns,x<y:=by
 unfold z16
 rw[cI,z13,bY,decide_eq_true_eq,decide_eq_true_eq]
 rfl
theorem z2p(ns:List Int):(z16 ns).Pairwise (· < ·):=(z1s 1 60).filter _
theorem z2e(ns:List Int):(z16 ns).length≤60:=by
 have h:=cJ (fun x=>decide (x∉ns) && decide (∃y∈ns,x<y)) (upI 1 60)
 rw[z0M] at h
 exact h
theorem y4b{ns:List Int}{m:Int}(hm:m∈ns)(B3:∀x∈ns,1≤x/\x≤60)(top:∀y∈ns,y≤m):(upI 1 (m+1-1).toNat).filter (fun x=>!decide (x∈ns))=z16 ns:=
 z1N ((z1s _ _).filter _) (z2p _) fun x=>by
  have hm':=B3 m hm
  rw[cI,z13,z0N,jQ,decide_eq_false_iff_not]
  constructor
  ·rintro⟨⟨a,b⟩,c⟩
   refine⟨by omega,c,m,hm,?_⟩
   have:x≠m:=fun e=>c (e ▸ hm)
   omega
  ·rintro⟨a,b,y,hy,c⟩
   have:=top y hy
   exact⟨by omega,b⟩
theorem y0u:z16 []=[]:=by
 refine z1N (z2p _) .nil fun x=>?_
 rw[z0N]
 constructor
 ·rintro⟨_,_,y,hy,_⟩
  cases hy
 ·intro h
  cases h
theorem SqI.keep{K:PySem.W.Frag}{H H':Hp}{a:Addr}{ns:List Int}(e:A3 H H')(h:SqI K H a ns):SqI K H' a ns:=by
 rcases h with h|h
 ·exact .inl (e.seq h)
 ·rcases h with (h|⟨o,h⟩)|h
  ·exact .inr (.inl (.inl (e _ _ h)))
  ·exact .inr (.inl (.inr ⟨o,e _ _ h⟩))
  ·exact .inr (.inr h)
theorem z97{c:Int->Bool}{t:Int}:∀{l:List Int},l.Pairwise (· < ·)->t∈l->c t=true->(∀y∈l,c y=true->t≤y)->l.find? c=some t
 | [],_,h,_,_=>by cases h
 | x::r,p,h,hc,hm=>by
  rw[gR] at p
  rw[dN]
  rcases bA.mp h with rfl|h
  ·rw[hc]
  ·cases e:c x with
   | true=>
    have h1:=p.1 t h
    have h2:=hm x bU e
    omega
   | false=>exact z97 p.2 h hc fun y hy=>hm y (bS _ hy)
theorem y3E{c:Int->Bool}{t:Int}:∀{l:List Int},l.Pairwise (· < ·)->l.find? c=some t->t∈l/\c t=true/\∀y∈l,c y=true->t≤y
 | [],_,h=>by cases h
 | x::r,p,h=>by
  rw[gR] at p
  rw[dN] at h
  cases e:c x with
  | true=>
   rw[e] at h
   have h':x=t:=Option.some.inj h
   subst h'
   refine⟨bU,e,fun y hy _=>?_⟩
   rcases bA.mp hy with rfl|hy
   ·exact eJ _
   ·have:=p.1 y hy
    omega
  | false=>
   rw[e] at h
   obtain⟨h1,h2,h3⟩:=y3E p.2 h
   refine⟨bS _ h1,h2,fun y hy hc=>?_⟩
   rcases bA.mp hy with rfl|hy
   ·rw[e] at hc
    cases hc
   ·exact h3 y hy hc
def y0W(ns:List Int)(n r:Int)(y:Int):Bool:=decide (n<y) && decide (y-r≤n) && decide (y∈ns)
def z0G(ns:List Int)(n r:Int):Int:=((upI 1 60).find? (y0W ns n r)).getD 0
theorem z4m{ns:List Int}{n r y:Int}:y0W ns n r y=true↔n<y/\y-r≤n/\y∈ns:=by
 unfold y0W
 rw[bY,bY,decide_eq_true_eq,decide_eq_true_eq,decide_eq_true_eq,and_assoc]
theorem y1j{ns:List Int}{n r t:Int}(B3:∀x∈ns,1≤x/\x≤60)(ht:t∈ns)(h1:n<t)(h2:t-r≤n)(hm:∀y∈ns,n<y->y-r≤n->t≤y):z0G ns n r=t:=by
 unfold z0G
 rw[z97 (z1s 1 60) (t:=t) (z13.mpr (by have:=B3 t ht;omega)) (z4m.mpr ⟨h1,h2,ht⟩) fun y _ hy=>by
  obtain⟨a,b,c⟩:=z4m.mp hy
  exact hm y c a b]
 rfl
theorem z4Q{ns:List Int}{n r:Int}(h:∀y∈ns,n<y->¬y-r≤n):z0G ns n r=0:=by
 unfold z0G
 have e:(upI 1 60).find? (y0W ns n r)=none:=jL.mpr fun y _ hy=>by
  obtain⟨a,b,c⟩:=z4m.mp hy
  exact h y c a b
 rw[e]
 rfl
def z63(K:PySem.W.Frag):Sp:=fun vs H Q _=>∃(p:Addr) (ns:List Int) (n r:Int),vs=[.ref p,.int n,.int r]/\SqL K H p (ns.map V.int)/\(∀x∈ns,1≤x/\x≤60)/\ns.length≤900/\0≤r/\
 ∀H',A3 H H'->Q (.int (z0G ns n r)) H'
theorem y2j(M:Bl mg)(F:Fun K "_law_teller" "_law_teller" z4s f fd):A7 P w K mg base CX0 1 f fd z2A (z63 K):=by
 have nd:=z5V.nd
 refine F.ok z5V (fun vs H Q E h=>?_) (fun cdv A outer s H vs Q E hr h=>?_)
 ·obtain⟨p,ns,n,r,rfl,_⟩:=h
  rfl
 obtain⟨p,ns,n,r,rfl,hS,B3,hlen,r0,q⟩:=h
 refine⟨_,(z04 (z5J (i:=3) ["_law_other"] ["_law_number"] [1] rfl nd rfl (Or.inl rfl) (z0v rfl (by decide +kernel) rfl (by decide +kernel) rfl rfl) (z1w (pv 0)) (fun _ _ _ _ _=>(z0j (i:=0) (show((["_law_other"]:List PySem.Str)++(["_law_number"]:List PySem.Str)).Nodup from by decide +kernel) rfl (Or.inl rfl))) (z0w (by decide)) z0h (fun _ _ _ _ _=>(z2d (z0a z2k (pv 0) (pv 1) (z0m _)))) (fun _ _ _ _ _=>(pv 0))) (z04 (z0D (PW.pt (z3a (z0a (y67 hr.Q6) (pv 3) (z1i z02) (z0m _)) (z1T (z0a z2k (z0t z31 (z0b (z7W rfl) rfl M.min eV (z00 (pv 3) z02)) (pv 1)) (pv 2) (z0m _))))) (z05 (z0f z06)) z0l) (z05 (z0f (z0b (z7W rfl) rfl M.min eV (z00 (pv 3) z02)))))),?_⟩
 refine⟨_,rfl,p,rfl,⟨_,hS⟩,?_⟩
 refine z8i (ns:=ns) (fun y=>decide (n<y)) (fun y=>.int y) hS (by omega) (fun y ys N hy hN=>?_) (fun D hD=>?_)
 ·refine⟨_,rfl,_,rfl,_,_,rfl,rfl,_,rfl,?_⟩
  refine B0 (fun c=>?_) (fun c=>?_)
  ·rw[if_pos c] at hN
   exact⟨_,rfl,hN⟩
  ·rw[if_neg c] at hN
   exact hN
 have eD:upd H D (.lst (z1U (fun y=>decide (n<y)) (fun y=>V.int y) ns)) D=some (.lst ((ns.filter fun y=>decide (n<y)).map V.int)):=z03
 have sD:=z01 hD (.lst (z1U (fun y=>decide (n<y)) (fun y=>V.int y) ns))
 generalize upd H D (.lst (z1U (fun y=>decide (n<y)) (fun y=>V.int y) ns))=H1 at eD sD
 have mem:∀y,y∈ns.filter (fun y=>decide (n<y))↔y∈ns/\n<y:=fun y=>by rw[cI,decide_eq_true_eq]
 generalize ns.filter (fun y=>decide (n<y))=ab at eD mem
 refine⟨_,rfl,(by show 0≤sizeLine;decide),fun e0 he0=>⟨D,e0,_,rfl,rfl,SqL.of (z01 he0 _ _ _ eD),SqL.of z03,_,rfl,?_⟩⟩
 have s2:=sD.trans (z01 he0 (.lst []))
 cases ab with
 | nil=>
  refine F4 ?_
  have e:z0G ns n r=0:=z4Q fun y hy h1 _=>by
   have:=(mem y).mpr ⟨hy,h1⟩
   cases this
  exact(by rw[<- e];exact q _ s2)
 | cons y0 yr=>
  refine B1 ?_
  have eL:=z01 he0 (.lst []) _ _ eD
  generalize upd H1 e0 (.lst [])=H2 at s2 eL
  refine⟨_,rfl,D,_,rfl,.inl (SqL.of eL),by simp,fun m hm hl=>⟨_,rfl,_,_,rfl,rfl,_,rfl,_,_,rfl,rfl,_,rfl,?_⟩⟩
  have hm':=(mem m).mp hm
  refine B0 (fun c=>?_) (fun c=>?_)
  ·have c':r<m-n:=z0F c
   have e:z0G ns n r=0:=z4Q fun y hy h1 h2=>by
    have:=hl y ((mem y).mpr ⟨hy,h1⟩)
    omega
   exact(by rw[<- e];exact q _ s2)
  ·have c':¬r<m-n:=z49 c
   refine⟨_,rfl,D,_,rfl,.inl (SqL.of eL),by simp,fun m2 hm2 hl2=>?_⟩
   have h2:=(mem m2).mp hm2
   have e:z0G ns n r=m2:=y1j B3 h2.1 h2.2 (by have:=hl2 m hm;omega) fun y hy h1 _=>hl2 y ((mem y).mpr ⟨hy,h1⟩)
   exact(by rw[<- e];exact q _ s2)
def y5X(K:PySem.W.Frag):Sp:=fun vs H Q _=>∃(r:Addr) (ns:List Int) (c:Int),vs=[.ref r,.int c]/\SqL K H r (ns.map V.int)/\ns.length≤60/\
 ∀(l:Addr) (ts:List Int) (H':Hp),H l=none->A3 H H'->H' l=some (.lst (ts.map V.int))->(∀x,x∈ts↔x∈ns)->ts.length≤2*ns.length->Q (.ref l) H'
theorem y31(ts:List Int)(i:Nat)(x:Int):(ts.map V.int).take i++V.int x::(ts.map V.int).drop i=(ts.take i++x::ts.drop i).map V.int:=by
 rw[bD,cP,List.map_take,List.map_drop]
theorem y0X{ts:List Int}{i:Nat}{x y:Int}:y∈ts.take i++x::ts.drop i↔y=x\/y∈ts:=by
 rw[bN,bA]
 constructor
 ·rintro(h|h|h)
  ·exact .inr (jB h)
  ·exact .inl h
  ·exact .inr (List.mem_of_mem_drop h)
 ·rintro(h|h)
  ·exact .inr (.inl h)
  ·rw[<- j8 i ts,bN] at h
   rcases h with h|h
   ·exact .inl h
   ·exact .inr (.inr h)
theorem y2M{ts:List Int}{i:Nat}{x:Int}(h:i≤ts.length):(ts.take i++x::ts.drop i).length=ts.length+1:=by
 rw[bG,cH,bH,d6]
 omega
theorem y6Y(M:Bl mg)(F:Fun K "_law_shuffled" "_law_shuffled" z3y f fd)(C0:Cal P w K mg base 1 "_law_row" z3G y4d):A7 P w K mg base CX0 2 f fd z3t (y5X K):=by
 have nd:=z4I.nd
 refine F.ok z4I (fun vs H Q E h=>?_) (fun cdv A outer s H vs Q E hr h=>?_)
 ·obtain⟨r,ns,c,rfl,_⟩:=h
  rfl
 obtain⟨r,ns,c,rfl,hS,hn,q⟩:=h
 refine⟨_,(z04 (z0p (i:=2) nd rfl (Or.inl rfl) (z0i C0 (rm hr) rfl (z00 (pv 1) (z00 (z0b z09 rfl M.len bK (z00 (pv 0) z02)) (z00 z06 z02))))) (z04 (z0p (i:=3) nd rfl (Or.inl rfl) (z1i z02)) (z04 (z0P bQ rfl (z0T rfl M.range (z00 (z0b z09 rfl M.len bK (z00 (pv 0) z02)) z02)) (z0j (i:=4) nd rfl (Or.inl rfl)) (z04 (z0C (z2N bR gP PySem.F.type_list_insert y0y (pv 3) (z00 (z0t z1h (z0z z0V (pv 2) (pv 4) (fun _ _=>rfl)) (z0t z1g (pv 4) z06)) (z00 (z0z z0V (pv 0) (pv 4) (fun _ _=>rfl)) z02)))) (z05 (z0D (z0a y3q (z0z z0V (pv 2) (pv 4) (fun _ _=>rfl)) z06 (z0m _)) (z05 (z0C (z2N bR gP PySem.F.type_list_insert y0y (pv 3) (z00 (z0t z1h (z0z z0V (pv 2) (pv 4) (fun _ _=>rfl)) (z0t z1g (pv 4) z06)) (z00 (z0z z0V (pv 0) (pv 4) (fun _ _=>rfl)) z02))))) z0l)))) (z05 (z0f (pv 3)))))),?_⟩
 have hl0:(ns.map V.int).length=ns.length:=b7 _
 refine⟨_,rfl,_,rfl,r,_,rfl,.inl hS,_,_,_,rfl,by omega,by omega,by decide,by decide,fun lf fs H1 nlf s1 e1 P8 all1=>?_⟩
 have w0x:fs.length=ns.length:=by rw[P8,hl0];rfl
 refine⟨(by show 0≤sizeLine;decide),fun l hl=>?_⟩
 have nl:lf≠l:=z0q e1 hl
 refine⟨_,rfl,r,_,rfl,.inl ((s1.trans (z01 hl _)).seq hS),_,rfl,by omega,by omega,?_⟩
 refine z0U (lo:=0) (n:=(((ns.map V.int).length:Nat):Int).toNat) (fun i σ H'=>∃(ts:List Int) (o:Option V),(∀x,x∈ts↔x∈ns.take i)/\i≤ts.length/\ts.length≤2*i/\H'=upd H1 l (.lst (ts.map V.int))/\
  σ=[some (.ref r),some (.int c),some (.ref lf),some (.ref l),o]) ⟨[],_,fun x=>Iff.rfl,bE 0,bE 0,rfl,rfl⟩ (fun i σ H' hi hp=>?_) (fun σ H' hp=>?_)
 ·obtain⟨ts,o,hm,hlo,hhi,rfl,rfl⟩:=hp
  have hi':i<ns.length:=by
   have:(((ns.map V.int).length:Nat):Int).toNat=ns.length:=by rw[hl0];rfl
   omega
  have ei:(0:Int)+(i:Int)=(i:Int):=eU _
  have hif:(i:Int)<(fs.length:Int):=by omega
  have gs:∀o:HO,A3 H1 (upd H1 l o):=fun o=>z01 hl o
  have Z9:∀{o:HO},SqL K (upd H1 l o) lf (fs.map V.int):=fun {o}=>SqL.of (gs o _ _ e1)
  have rget:∀{o:HO},SqL K (upd H1 l o) r (ns.map V.int):=fun {o}=>(s1.trans (gs o)).seq hS
  have atf:atI (fs.map V.int) ((0:Int)+(i:Int))=some (.int (fs.getD i 0)):=by
   rw[ei]
   exact z43 (ns:=fs) (k:=(i:Int)) (by omega) hif
  have atn:atI (ns.map V.int) ((0:Int)+(i:Int))=some (.int (ns.getD i 0)):=by
   rw[ei]
   exact z43 (ns:=ns) (k:=(i:Int)) (by omega) (by omega)
  have hget:ns[i]? = some (ns.getD i 0):=by
   rw[bL,bC hi']
   rfl
  have hmem:∀x,x∈ns.take (i+1)↔x=ns.getD i 0\/x∈ns.take i:=fun x=>by
   rw[z0n hget,bN,b8]
   exact Or.comm
  have b1:0≤fs.getD i 0%((0:Int)+(i:Int)+1)/\fs.getD i 0%((0:Int)+(i:Int)+1)≤(i:Int):=by
   have:=d5 (fs.getD i 0) (show(0:Int)+(i:Int)+1≠0 by omega)
   have:=cX (fs.getD i 0) (show(0:Int)<(0:Int)+(i:Int)+1 by omega)
   omega
  have b2:0≤fs.getD i 0%((0:Int)+(i:Int)+2)/\fs.getD i 0%((0:Int)+(i:Int)+2)≤(i:Int)+1:=by
   have:=d5 (fs.getD i 0) (show(0:Int)+(i:Int)+2≠0 by omega)
   have:=cX (fs.getD i 0) (show(0:Int)<(0:Int)+(i:Int)+2 by omega)
   omega
  have hlen:(ts.map V.int).length=ts.length:=b7 _
  refine⟨_,rfl,.inl ⟨rfl,_,SqL.of z03⟩,_,rfl,_,rfl,lf,_,_,_,rfl,rfl,Z9,atf,_,rfl,_,_,rfl,rfl,_,_,rfl,rfl,(by omega),_,rfl,_,rfl,r,_,_,_,rfl,rfl,rget,atn,l,_,_,_,rfl,rfl,z03,b1.1,by omega,z0e (by omega),?_⟩
  rw[z5f,y31]
  have Q3:=y2M (ts:=ts) (i:=(fs.getD i 0%((0:Int)+(i:Int)+1)).toNat) (x:=ns.getD i 0) (by omega)
  refine⟨_,rfl,_,rfl,lf,_,_,_,rfl,rfl,Z9,atf,_,_,rfl,rfl,_,rfl,?_⟩
  refine B0 (fun _=>?_) (fun _=>?_)
  ·refine⟨_,rfl,.inl ⟨rfl,_,SqL.of z03⟩,_,rfl,_,rfl,lf,_,_,_,rfl,rfl,Z9,atf,_,rfl,_,_,rfl,rfl,_,_,rfl,rfl,(by omega),_,rfl,_,rfl,r,_,_,_,rfl,rfl,rget,atn,l,_,_,_,rfl,rfl,z03,b2.1,?_,?_,?_⟩
   ·rw[b7,Q3]
    omega
   ·rw[b7,Q3]
    exact z0e (by omega)
   ·rw[z5f,y31]
    have Y6:=y2M (ts:=ts.take (fs.getD i 0%((0:Int)+(i:Int)+1)).toNat++ns.getD i 0::ts.drop (fs.getD i 0%((0:Int)+(i:Int)+1)).toNat) (i:=(fs.getD i 0%((0:Int)+(i:Int)+2)).toNat) (x:=ns.getD i 0) (by rw[Q3];omega)
    refine⟨_,_,fun x=>?_,?_,?_,rfl,rfl⟩
    ·rw[y0X,y0X,hmem,hm]
     constructor
     ·rintro(h|h|h)
      ·exact .inl h
      ·exact .inl h
      ·exact .inr h
     ·rintro(h|h)
      ·exact .inl h
      ·exact .inr (.inr h)
    ·rw[Y6,Q3]
     omega
    ·rw[Y6,Q3]
     omega
  ·refine⟨_,_,fun x=>?_,?_,?_,rfl,rfl⟩
   ·rw[y0X,hmem,hm]
   ·rw[Q3]
    omega
   ·rw[Q3]
    omega
 ·obtain⟨ts,o,hm,hlo,hhi,rfl,rfl⟩:=hp
  have e:(((ns.map V.int).length:Nat):Int).toNat=ns.length:=by rw[hl0];rfl
  rw[e] at hm hhi
  rw[bT] at hm
  exact⟨_,rfl,q l ts _ (s1.free hl) (s1.trans (z01 hl _)) z03 hm hhi⟩
def y3Y:Sp:=fun vs H Q _=>∃i:Int,vs=[.int i]/\Q (.bl true) H
theorem y55(M:Bl mg)(F:Fun K "_law_whole" "_law_whole" z5r f fd):A7 P w K mg base CX0 1 f fd z5F y3Y:=by
 have nd:=z6Y.nd
 refine F.ok z6Y (fun vs H Q E h=>?_) (fun cdv A outer s H vs Q E hr h=>?_)
 ·obtain⟨i,rfl,_⟩:=h
  rfl
 obtain⟨i,rfl,q⟩:=h
 refine⟨_,(z05 (z0f (y5W (z0b z0J rfl M.isinstance bZ (z00 (pv 0) (z00 (z1S (v:=.ty "int") rfl M.int j6 rfl) z02))) (y5S (y63 (z0b z0J rfl M.isinstance bZ (z00 (pv 0) (z00 (z1S (v:=.ty "bool") rfl M.bool hJ rfl) z02)))))))),?_⟩
 have k2:=z3K (K:=K) "bool" (.inr (.inl rfl)) (x:=.int i) rfl
 have k3:=z3K (K:=K) "int" (.inr (.inr (.inl rfl))) (x:=.int i) rfl
 refine⟨_,rfl,_,_,_,_,rfl,.int i,k3,_,rfl,?_⟩
 refine F4 ⟨_,rfl,_,_,_,_,rfl,.int i,k2,?_⟩
 exact⟨_,rfl,q⟩
def sgL:List Nat:=(("mM ~aA0.xX_9":Str).cps.toList)
theorem y0R:sgL.length=12:=by decide +kernel
theorem y4e:sgL.Nodup:=by decide +kernel
abbrev W9:Str:="a stranger of twenty"
abbrev z9E:Str:="a long stem of them"
structure Nms(nm:List Str):Prop where
 nd:nm.Nodup
 lo:∀x∈nm,1≤x.length
 hi:∀x∈nm,x.length≤20
 far:W9∉nm
theorem y0Z(a b:Str):(a++b).cps.toList=a.cps.toList++b.cps.toList:=by
 show(a.cps++b.cps).toList=_
 simp
theorem y72(c:Nat):(⟨#[c]⟩:Str).cps.toList=[c]:=rfl
theorem z4k{α β:Type}{g:α->β}:∀{l:List α},l.Nodup->(∀x∈l,∀y∈l,g x=g y->x=y)->(l.map g).Nodup
 | [],_,_=>List.nodup_nil
 | x::r,n,h=>by
  rw[dM] at n
  rw[cP,dM]
  refine⟨fun hm=>?_,z4k n.2 fun a ha b hb=>h a (bS _ ha) b (bS _ hb)⟩
  obtain⟨y,hy,e⟩:=cO.mp hm
  have:=h x bU y (bS _ hy) e.symm
  exact n.1 (this ▸ hy)
theorem z9X(lo:Int)(n:Nat):(upI lo n).Nodup:=(z1s lo n).imp fun {a b} h=>by omega
theorem y1l{t a b:Int}(ht:0≤t)(ht2:t<12)(a0:0≤a)(a1:a<12)(b0:0≤b)(b1:b<12)(h:(t+a)%12=(t+b)%12):a=b:=by omega
def W5(c:Nat)(t k:Int):Str:=X3 ⟨#[c]⟩ (1+(t+k)%12).toNat
theorem z5S(c:Nat)(t k:Int):(W5 c t k).length=(1+(t+k)%12).toNat:=by
 unfold W5
 rw[<- z1G]
 show((List.replicate _ [c]).flatten.toArray).toList.length=_
 simp
theorem y6V(c:Nat){t:Int}(h0:0≤t)(h1:t<12){m:Nat}(hm:m≤12):Nms ((upI 0 m).map (W5 c t)) where
 nd:=z4k (z9X _ _) fun a ha b hb e=>by
  have ha':=z13.mp ha
  have hb':=z13.mp hb
  have e2:=congrArg Str.length e
  rw[z5S,z5S] at e2
  exact y1l h0 h1 (by omega) (by omega) (by omega) (by omega) (by omega)
 lo:=fun x hx=>by
  obtain⟨k,hk,rfl⟩:=cO.mp hx
  rw[z5S]
  omega
 hi:=fun x hx=>by
  obtain⟨k,hk,rfl⟩:=cO.mp hx
  rw[z5S]
  omega
 far:=fun hx=>by
  obtain⟨k,hk,e⟩:=cO.mp hx
  have e2:=congrArg Str.length e
  rw[z5S] at e2
  have e3:W9.length=20:=by decide +kernel
  omega
def z9m(st:Str)(sp:Int)(t k:Int):Str:=O3 st none (some sp)++⟨#[sgL.getD ((t+k)%12).toNat 0]⟩++O3 st (some sp) none
theorem y1R{n d:Nat}{v:Int}(h0:0≤v)(h1:v≤n):HT.sIx n d (some v)=v.toNat:=by
 show(if v<0 then (v+(n:Int)).toNat else min v.toNat n)=_
 rw[if_neg (by omega),gJ (by omega)]
theorem y5Z(st:Str){sp:Int}(h0:0≤sp)(h1:sp≤st.length):(O3 st none (some sp)).cps.toList=st.cps.toList.take sp.toNat:=by
 show((st.cps.toList.drop 0).take (HT.sIx st.length st.length (some sp)-0))=_
 rw[y1R h0 h1,fE,gQ]
theorem y65(st:Str){sp:Int}(h0:0≤sp)(h1:sp≤st.length):(O3 st (some sp) none).cps.toList=st.cps.toList.drop sp.toNat:=by
 show((st.cps.toList.drop (HT.sIx st.length 0 (some sp))).take (st.length-HT.sIx st.length 0 (some sp)))=_
 rw[y1R h0 h1,cL]
 rw[d6,z1G]
 exact bE _
theorem z5R(st:Str){sp:Int}(h0:0≤sp)(h1:sp≤st.length)(t k:Int):(z9m st sp t k).cps.toList=st.cps.toList.take sp.toNat++sgL.getD ((t+k)%12).toNat 0::st.cps.toList.drop sp.toNat:=by
 unfold z9m
 rw[y0Z,y0Z,y5Z st h0 h1,y65 st h0 h1,y72,fS]
 rfl
theorem z7w(st:Str){sp:Int}(h0:0≤sp)(h1:sp≤st.length)(t k:Int):(z9m st sp t k).length=st.length+1:=by
 rw[<- z1G,z5R st h0 h1,bG,cH,bH,d6,z1G]
 omega
theorem y5d:∀s<20,∀i<12,z9E.cps.toList.take s++sgL.getD i 0::z9E.cps.toList.drop s≠W9.cps.toList:=by decide +kernel
theorem y4P{st:Str}(hst:st=""\/st="row"\/st=z9E){sp:Int}(h0:0≤sp)(h1:sp≤st.length){t:Int}(t0:0≤t)(t1:t<12){m:Nat}(hm:m≤12):Nms ((upI 0 m).map (z9m st sp t)) where
 nd:=z4k (z9X _ _) fun a ha b hb e=>by
  have ha':=z13.mp ha
  have hb':=z13.mp hb
  have e2:(z9m st sp t a).cps.toList=(z9m st sp t b).cps.toList:=congrArg (fun z:Str=>z.cps.toList) e
  rw[z5R st h0 h1,z5R st h0 h1] at e2
  have e3:=List.append_cancel_left e2
  have e4:sgL.getD ((t+a)%12).toNat 0=sgL.getD ((t+b)%12).toNat 0:=(List.cons.inj e3).1
  have l1:((t+a)%12).toNat<sgL.length:=by rw[y0R];omega
  have l2:((t+b)%12).toNat<sgL.length:=by rw[y0R];omega
  rw[bL,bC l1,bL,bC l2] at e4
  have e5:=(List.getElem_inj y4e).mp e4
  exact y1l t0 t1 (by omega) (by omega) (by omega) (by omega) (by omega)
 lo:=fun x hx=>by
  obtain⟨k,hk,rfl⟩:=cO.mp hx
  rw[z7w st h0 h1]
  omega
 hi:=fun x hx=>by
  obtain⟨k,hk,rfl⟩:=cO.mp hx
  rw[z7w st h0 h1]
  have l1:("":Str).length=0:=by decide +kernel
  have l2:("row":Str).length=3:=by decide +kernel
  have l3:z9E.length=19:=by decide +kernel
  rcases hst with rfl|rfl|rfl<;>omega
 far:=fun hx=>by
  obtain⟨k,hk,e⟩:=cO.mp hx
  have l1:("":Str).length=0:=by decide +kernel
  have l2:("row":Str).length=3:=by decide +kernel
  have l3:z9E.length=19:=by decide +kernel
  have l4:W9.length=20:=by decide +kernel
  have e2:=congrArg Str.length e
  rw[z7w st h0 h1] at e2
  rcases hst with rfl|rfl|rfl
  ·omega
  ·omega
  ·have e3:(z9m z9E sp t k).cps.toList=W9.cps.toList:=congrArg (fun z:Str=>z.cps.toList) e
   rw[z5R z9E h0 h1] at e3
   exact y5d sp.toNat (by omega) ((t+k)%12).toNat (by omega) e3
def y3R:Sp:=fun vs H Q _=>∃c m:Int,vs=[.int c,.int m]/\0≤m/\m≤12/\
 ∀(l:Addr) (nm:List Str) (H':Hp),H l=none->A3 H H'->H' l=some (.lst (nm.map V.str))->nm.length=m.toNat->Nms nm->Q (.ref l) H'
theorem y1S{f:Int->V}(l:List Int):z1U (fun _=>true) f l=l.map f:=by
 unfold z1U
 rw[List.filter_eq_self.mpr fun _ _=>rfl]
theorem y4J(M:Bl mg)(F:Fun K "_law_named" "_law_named" z5N f fd):A7 P w K mg base CX0 1 f fd z5I y3R:=by
 have nd:=z74.nd
 refine F.ok z74 (fun vs H Q E h=>?_) (fun cdv A outer s H vs Q E hr h=>?_)
 ·obtain⟨c,m,rfl,_⟩:=h
  rfl
 obtain⟨c,m,rfl,m0,m1,q⟩:=h
 refine⟨_,(z04 (z0p (i:=2) nd rfl (Or.inr rfl) z58) (z04 (z0p (i:=3) nd rfl (Or.inr rfl) (z0t z1h (z0t z1t (pv 0) z06) z06)) (z04 (z0D (z0a z2L (z0t z1h (pv 0) z06) z06 (z0m _)) (z05 (z0f (z1e ["_law_k"] ["_law_cell","_law_turn"] [0,3] rfl (z0v rfl (by decide +kernel) rfl (by decide +kernel) rfl rfl) (z0T rfl M.range (z00 (pv 1) z02)) (fun _ _ _ _ _=>(z0j (i:=0) (show((["_law_k"]:List PySem.Str)++(["_law_cell","_law_turn"]:List PySem.Str)).Nodup from by decide +kernel) rfl (Or.inl rfl))) (z0w (by decide)) z0h (fun _ _ _ _ _=>z2g) (fun _ _ _ _ _=>(z0t y2n (z0z y2G z58 (z0t z1h (z0t z1t (pv 1) z06) z06) (fun _ _=>rfl)) (z0t z1g z06 (z0t z1h (z0t z1g (pv 2) (pv 0)) z06))))))) z0l) (z04 (z0p (i:=4) nd rfl (Or.inr rfl) (z0z z0V (z1i (z00 z58 (z00 z58 (z00 z58 z02)))) (z0t z1h (pv 0) z06) (fun _ _=>rfl))) (z04 (z0p (i:=5) nd rfl (Or.inr rfl) (z0t z1h (z0t z1t (pv 0) z06) (z0t z1g (z0b y07 rfl M.len bK (z00 (pv 4) z02)) z06))) (z05 (z0f (z1e ["_law_k"] ["_law_stem","_law_signs","_law_spot","_law_turn"] [4,2,5,3] rfl (z0v rfl (by decide +kernel) rfl (by decide +kernel) rfl rfl) (z0T rfl M.range (z00 (pv 1) z02)) (fun _ _ _ _ _=>(z0j (i:=0) (show((["_law_k"]:List PySem.Str)++(["_law_stem","_law_signs","_law_spot","_law_turn"]:List PySem.Str)).Nodup from by decide +kernel) rfl (Or.inl rfl))) (z0w (by decide)) z0h (fun _ _ _ _ _=>z2g) (fun _ _ _ _ _=>(z0t z98 (z0t z98 (z3U y5U (pv 1) z5q (z5k (pv 3))) (z0z y2G (pv 2) (z0t z1h (z0t z1g (pv 4) (pv 0)) z06) (fun _ _=>rfl))) (z3U y5U (pv 1) (z5k (pv 3)) z5q))))))))))),?_⟩
 have t0:0≤c / 4%12:=d5 _ (by decide)
 have t1:c / 4%12<12:=cX _ (by decide)
 refine⟨_,rfl,_,_,rfl,rfl,⟨by decide,by decide⟩,_,_,rfl,rfl,(by show(0:Int)<12;decide),?_⟩
 refine⟨_,rfl,_,_,rfl,rfl,(by show(0:Int)<4;decide),rfl,_,rfl,?_⟩
 refine B0 (fun _=>?_) (fun cn=>?_)
 ·obtain⟨sg,hsg⟩:∃sg,atI (("a ~":Str).cps.toList) (c / 48%3)=some sg:=by
   have h0:0≤c / 48%3:=d5 _ (by decide)
   have h1:c / 48%3<3:=cX _ (by decide)
   have ek:c / 48%3=(((c / 48%3).toNat:Nat):Int):=by omega
   have hl:(("a ~":Str).cps.toList).length=3:=by decide +kernel
   rw[ek]
   exact⟨_,z0K (bC (by rw[hl];omega))⟩
  refine⟨_,rfl,_,rfl,by omega,by omega,?_⟩
  refine z7P (lo:=0) (n:=m.toNat) (fun _=>true) (fun k=>.str (W5 sg (c / 4%12) k)) (by omega) (fun k ys N k0 k1 hN=>?_) ?_
  ·refine⟨_,rfl,_,_,rfl,rfl,⟨by decide,by decide⟩,_,_,rfl,rfl,(by show(0:Int)<3;decide),_,_,sg,rfl,rfl,(by decide +kernel),hsg,?_⟩
   refine⟨_,rfl,_,rfl,_,_,rfl,rfl,_,_,rfl,rfl,(by show(0:Int)<12;decide),_,_,rfl,rfl,_,_,rfl,rfl,?_,?_,?_,?_⟩
   ·have:=d5 (c / 4%12+k) (show(12:Int)≠0 by decide)
    omega
   ·have:=cX (c / 4%12+k) (show(0:Int)<12 by decide)
    omega
   ·show 1≤1000
    decide
   ·exact hN
  ·intro D hD
   rw[y1S]
   refine q D ((upI 0 m.toNat).map (W5 sg (c / 4%12))) _ hD (z01 hD _) ?_ (by rw[b7,z0M]) (y6V sg t0 t1 (by omega))
   rw[z03,dJ]
   rfl
 ·have c4:c%4=0\/c%4=1\/c%4=2:=by
   have h1:=d5 c (show(4:Int)≠0 by decide)
   have h2:=cX c (show(0:Int)<4 by decide)
   have h3:c%4≠3:=fun e=>cn (decide_eq_true (congrArg V.int e))
   omega
  obtain⟨st,hat,hst⟩:∃st:Str,atI [V.str "",V.str "row",V.str "a long stem of them"] (c%4)=some (.str st)/\(st=""\/st="row"\/st=z9E):=by
   rcases c4 with e|e|e<;>rw[e]
   ·exact⟨_,rfl,.inl rfl⟩
   ·exact⟨_,rfl,.inr (.inl rfl)⟩
   ·exact⟨_,rfl,.inr (.inr rfl)⟩
  have stl:st.length≤19:=by
   have l1:("":Str).length=0:=by decide +kernel
   have l2:("row":Str).length=3:=by decide +kernel
   have l3:z9E.length=19:=by decide +kernel
   rcases hst with rfl|rfl|rfl<;>omega
  refine⟨(by show 3≤sizeLine;decide),fun p hp=>⟨_,rfl,_,_,rfl,rfl,(by show(0:Int)<4;decide),p,_,_,_,rfl,rfl,SqL.of z03,hat,?_⟩⟩
  refine⟨_,rfl,_,_,rfl,rfl,⟨by decide,by decide⟩,_,rfl,st,rfl,y10 (by omega),_,_,rfl,rfl,_,_,rfl,rfl,by omega,?_⟩
  have s0:0≤c / 48%((st.length:Int)+1):=d5 _ (by omega)
  have s1:c / 48%((st.length:Int)+1)≤(st.length:Int):=by
   have:=cX (c / 48) (show(0:Int)<(st.length:Int)+1 by omega)
   omega
  refine⟨_,rfl,_,rfl,by omega,by omega,?_⟩
  refine z7P (lo:=0) (n:=m.toNat) (fun _=>true) (fun k=>.str (z9m st (c / 48%((st.length:Int)+1)) (c / 4%12) k)) (by omega) (fun k ys N k0 k1 hN=>?_) ?_
  ·have i0:=d5 (c / 4%12+k) (show(12:Int)≠0 by decide)
   have i1:=cX (c / 4%12+k) (show(0:Int)<12 by decide)
   have hsg:atI (("mM ~aA0.xX_9":Str).cps.toList) ((c / 4%12+k)%12)=some (sgL.getD ((c / 4%12+k)%12).toNat 0):=by
    have ek:(c / 4%12+k)%12=((((c / 4%12+k)%12).toNat:Nat):Int):=by omega
    have l1:((c / 4%12+k)%12).toNat<sgL.length:=by rw[y0R];omega
    have q1:atI sgL ((((c / 4%12+k)%12).toNat:Nat):Int)=some (sgL.getD ((c / 4%12+k)%12).toNat 0):=z0K (by
     rw[bL,bC l1]
     rfl)
    rw[<- ek] at q1
    exact q1
   have la:(O3 st none (some (c / 48%((st.length:Int)+1)))).length≤19:=by
    rw[<- z1G,y5Z st s0 s1,bH,z1G]
    omega
   have lb:(O3 st (some (c / 48%((st.length:Int)+1))) none).length≤19:=by
    rw[<- z1G,y65 st s0 s1,d6,z1G]
    omega
   have lc:∀(x:Nat),(⟨#[x]⟩:Str).length=1:=fun _=>rfl
   have lab:∀(x:Nat),(O3 st none (some (c / 48%((st.length:Int)+1)))++(⟨#[x]⟩:Str)).length≤20:=fun x=>by
    rw[<- z1G,y0Z,bG,z1G,z1G,lc]
    omega
   refine⟨_,rfl,_,rfl,_,rfl,st,rfl,y10 (by omega),?_⟩
   refine⟨_,rfl,_,rfl,_,rfl,_,_,rfl,rfl,_,_,rfl,rfl,(by show(0:Int)<12;decide),_,_,_,rfl,rfl,(by decide +kernel),hsg,?_⟩
   refine⟨_,_,rfl,rfl,y10 (by rw[lc];omega),?_⟩
   refine⟨_,rfl,_,rfl,_,rfl,st,rfl,y10 (by omega),_,_,rfl,rfl,y10 (by have:=lab (sgL.getD ((c / 4%12+k)%12).toNat 0);omega),?_⟩
   exact hN
  ·intro D hD
   rw[y1S]
   refine q D ((upI 0 m.toNat).map (z9m st (c / 48%((st.length:Int)+1)) (c / 4%12))) _ ((z01 hp _).free hD) ((z01 hp _).trans (z01 hD _)) ?_ (by rw[b7,z0M]) (y4P hst s0 s1 t0 t1 (by omega))
   rw[z03,dJ]
   rfl
def z4E:Sp:=fun vs H Q _=>∃t:Int,vs=[.int t]/\0≤t/\t<1000000/\Q (.int (2^t.toNat)) H
theorem y1Z(M:Bl mg)(F:Fun K "_law_doubled" "_law_doubled" z3T f fd):A7 P w K mg base CX0 1 f fd z2O z4E:=by
 have nd:=z56.nd
 refine F.ok z56 (fun vs H Q E h=>?_) (fun cdv A outer s H vs Q E hr h=>?_)
 ·obtain⟨t,rfl,_⟩:=h
  rfl
 obtain⟨t,rfl,t0,t1,q⟩:=h
 refine⟨_,(z04 (z0p (i:=1) nd rfl (Or.inl rfl) z06) (z04 (z0P bQ rfl (z0T rfl M.range (z00 (pv 0) z02)) (z0j (i:=2) nd rfl (Or.inl rfl)) (z05 (z0p (i:=1) nd rfl (Or.inl rfl) (z0t z4c (pv 1) z06)))) (z05 (z0f (pv 1))))),?_⟩
 refine⟨_,rfl,_,rfl,by omega,by omega,?_⟩
 refine z0U (lo:=0) (n:=t.toNat) (fun i σ H'=>H'=H/\∃o,σ=[some (.int t),some (.int (2^i)),o]) ⟨rfl,_,rfl⟩ (fun i σ H' hi hp=>?_) (fun σ H' hp=>?_)
 ·obtain⟨rfl,o,rfl⟩:=hp
  refine⟨_,rfl,_,_,rfl,rfl,.inr ⟨by decide,by decide⟩,rfl,some (.int (0+(i:Int))),?_⟩
  rw[Int.pow_succ]
  rfl
 ·obtain⟨rfl,o,rfl⟩:=hp
  exact⟨_,rfl,q⟩
def z9R(H:Hp)(l:Addr)(v:V)(s:List Str):Prop:=∃a,v=.ref a/\a≠l/\H a=some (.lst (s.map V.str))
theorem z9R.keep{H H':Hp}(g:A3 H H'){l:Addr}{v:V}{s:List Str}(h:z9R H l v s):z9R H' l v s:=let ⟨a,e,n,q⟩:=h;⟨a,e,n,g _ _ q⟩
theorem z9R.over{H:Hp}{l:Addr}{o:HO}{v:V}{s:List Str}(h:z9R H l v s):z9R (upd H l o) l v s:=let ⟨a,e,n,q⟩:=h;⟨a,e,n,by rw[z0k n];exact q⟩
abbrev z2n(H:Hp)(l:Addr):List V->List (List Str)->Prop:=Paired (z9R H l)
theorem z2n.keep{H H':Hp}(g:A3 H H'){l:Addr}:∀{xs:List V}{ss:List (List Str)},z2n H l xs ss->z2n H' l xs ss
 | _,_,.nil=>.nil
 | _,_,.cons r t=>.cons (r.keep g) (z2n.keep g t)
theorem z2n.over{H:Hp}{l:Addr}{o:HO}:∀{xs:List V}{ss:List (List Str)},z2n H l xs ss->z2n (upd H l o) l xs ss
 | _,_,.nil=>.nil
 | _,_,.cons r t=>.cons r.over (z2n.over t)
theorem z2n.len{H:Hp}{l:Addr}:∀{xs:List V}{ss:List (List Str)},z2n H l xs ss->xs.length=ss.length
 | _,_,.nil=>rfl
 | _,_,.cons _ t=>by rw[cH,cH,z2n.len t]
theorem z2n.get{H:Hp}{l:Addr}:∀{xs:List V}{ss:List (List Str)},z2n H l xs ss->∀(i:Nat) (s:List Str),ss[i]? = some s->∃v,xs[i]? = some v/\z9R H l v s
 | _,_,.nil,i,s,e=>by simp at e
 | _,_,.cons r t,0,s,e=>by
  simp at e
  subst e
  exact⟨_,rfl,r⟩
 | _,_,.cons r t,i+1,s,e=>by
  obtain⟨v,h1,h2⟩:=z2n.get t i s (by simpa using e)
  exact⟨v,by simpa using h1,h2⟩
theorem z1E(ns:List Str):(ns.map V.str).all z27=true:=by
 rw[jU,jV]
 intro x _
 rfl
theorem y6C{ns:List Str}{k:Int}(h0:0≤k)(h:k<(ns.length:Int)):∃x,ns[k.toNat]? = some x/\atI (ns.map V.str) k=some (.str x):=by
 have hk:k.toNat<ns.length:=by omega
 have ek:k=((k.toNat:Nat):Int):=by omega
 have q:atI (ns.map V.str) ((k.toNat:Nat):Int)=some (.str ns[k.toNat]):=z0K (by rw[bB,bC hk];rfl)
 rw[<- ek] at q
 exact⟨_,bC hk,q⟩
def y5V(K:PySem.W.Frag):Sp:=fun vs H Q _=>∃(ln:Addr) (nm:List Str) (c m:Int),vs=[.ref ln,.int c,.int m]/\SqL K H ln (nm.map V.str)/\1≤nm.length/\nm.length≤12/\0≤m/\m≤900/\
 ∀(l:Addr) (xs:List V) (ss:List (List Str)) (H':Hp),H l=none->A3 H H'->H' l=some (.lst xs)->z2n H' l xs ss->ss.length=m.toNat->(∀s∈ss,s.Sublist nm)->Q (.ref l) H'
theorem two_pow_le{n:Nat}(h:n≤12):(1:Int)≤2^n/\(2:Int)^n≤4096:=by
 have:∀k≤12,(1:Int)≤2^k/\(2:Int)^k≤4096:=by decide
 exact this n h
theorem y6L(M:Bl mg)(F:Fun K "_law_sets" "_law_sets" z6s f fd)(C0:Cal P w K mg base 1 "_law_row" z3G y4d)(D3:Cal P w K mg base 1 "_law_doubled" z2O z4E) :
  A7 P w K mg base CX0 2 f fd z6m (y5V K):=by
 have nd:=z8g.nd
 refine F.ok z8g (fun vs H Q E h=>?_) (fun cdv A outer s H vs Q E hr h=>?_)
 ·obtain⟨ln,nm,c,m,rfl,_⟩:=h
  rfl
 obtain⟨ln,nm,c,m,rfl,hS,n1,n2,m0,m1,q⟩:=h
 refine⟨_,(z04 (z0p (i:=3) nd rfl (Or.inl rfl) (z0i D3 (rm hr) rfl (z00 (z0b z09 rfl M.len bK (z00 (pv 0) z02)) z02))) (z04 (z0p (i:=4) nd rfl (Or.inl rfl) (z1i z02)) (z04 (z0P bQ rfl (z1w (z0i C0 (rm hr) rfl (z00 (pv 1) (z00 (pv 2) (z00 (z0t z4c z06 (pv 3)) z02))))) (z0j (i:=5) nd rfl (Or.inl rfl)) (z04 (z0p (i:=6) nd rfl (Or.inl rfl) (z0t z1h (pv 5) (pv 3))) (z04 (z0p (i:=7) nd rfl (Or.inl rfl) (z1i z02)) (z04 (z0P bQ rfl (z1w (pv 0)) (z0j (i:=8) nd rfl (Or.inl rfl)) (z04 (z0D (z0a z2L (z0t z1h (pv 6) z06) z06 (z0m _)) (z05 (z0C (z2N bR bV bX z0L (pv 7) (z00 (pv 8) z02)))) z0l) (z05 (z0p (i:=6) nd rfl (Or.inl rfl) (z0t z1t (pv 6) z06))))) (z04 (z0D (z0a z2L (z0t z1t (pv 5) (pv 3)) z06 (z0m _)) (z05 (z0p (i:=7) nd rfl (Or.inl rfl) (z1i (z00 (z0z z0V (pv 0) (z0t z1h (pv 5) (z0b z09 rfl M.len bK (z00 (pv 0) z02))) (fun _ _=>rfl)) z02)))) z0l) (z04 (z0D (z0a z2L (z0t z1t (pv 5) (pv 3)) z06 (z0m _)) (z05 (z0p (i:=7) nd rfl (Or.inl rfl) (z1i z02))) z0l) (z04 (z0D (z0a z2L (z0t z1t (pv 5) (pv 3)) z06 (z0m _)) (z05 (z0p (i:=7) nd rfl (Or.inl rfl) (z0u z4h rfl M.list hU (z00 (pv 0) z02)))) z0l) (z05 (z0C (z2N bR bV bX z0L (pv 4) (z00 (pv 7) z02))))))))))) (z05 (z0f (pv 4)))))),?_⟩
 have hl0:(nm.map V.str).length=nm.length:=b7 _
 refine⟨_,rfl,ln,_,rfl,.inl hS,_,rfl,by omega,by omega,?_⟩
 have pw:=two_pow_le n2
 rw[hl0]
 have ez:(2:Int)^(((nm.length:Nat):Int).toNat)=2^nm.length:=rfl
 rw[ez]
 generalize hz:(2:Int)^nm.length=z at pw ⊢
 refine⟨(by show 0≤sizeLine;decide),fun l hl=>?_⟩
 refine⟨_,rfl,_,rfl,_,rfl,_,_,rfl,rfl,.inl ⟨by decide,by decide⟩,c,m,4*z,rfl,m0,m1,by omega,by omega,fun lf fs H1 nlf s1 e1 P8 all1=>?_⟩
 have sl:=z01 (H:=H) hl (.lst [])
 have nl:lf≠l:=fun e=>by rw[e,z03] at nlf;cases nlf
 have el1:H1 l=some (.lst []):=s1 _ _ z03
 refine⟨lf,rfl,⟨_,SqL.of e1⟩,?_⟩
 refine z1Y (xs:=fs.map V.int) (fun i σ H'=>∃(xs:List V) (ss:List (List Str)) (o1 o2 o3 o4:Option V),H' l=some (.lst xs)/\z2n H' l xs ss/\ss.length=i/\(∀s∈ss,s.Sublist nm)/\H' lf=some (.lst (fs.map V.int))/\A3 H H'/\
  σ=[some (.ref ln),some (.int c),some (.int m),some (.int z),some (.ref l),o1,o2,o3,o4]) ⟨[],[],_,_,_,_,el1,.nil,rfl,(fun _ h=>nomatch h),e1,sl.trans s1,rfl⟩ (fun i σ H' hi hp=>?_) (fun i x σ H' hx hp=>?_) (fun σ H' hp=>?_)
 ·obtain⟨xs,ss,o1,o2,o3,o4,_,_,_,_,h2,_⟩:=hp
  exact SqL.of h2
 ·obtain⟨xs,ss,o1,o2,o3,o4,p1,p2,p3,p4,p5,p6,rfl⟩:=hp
  rw[bB] at hx
  cases ef:fs[i]? with
  | none=>rw[ef] at hx;cases hx
  | some g=>
   rw[ef] at hx
   cases hx
   have hg:=all1 g (bO ef)
   have hi:i<fs.length:=(bW.mp ef).1
   have lx:=p2.len
   have cd:CDiv g z:=⟨by omega,by omega⟩
   refine⟨_,rfl,_,rfl,_,_,rfl,rfl,(by omega),?_⟩
   refine⟨(by show 0≤sizeLine;decide),fun a ha=>?_⟩
   have nal:a≠l:=fun e=>by rw[e,p1] at ha;cases ha
   have naf:a≠lf:=fun e=>by rw[e,p5] at ha;cases ha
   refine⟨_,rfl,ln,rfl,⟨_,(p6.trans (z01 ha _)).seq hS⟩,?_⟩
   refine z1Y (xs:=nm.map V.str) (fun k σ H2=>∃(ch:List Str) (mk:Int) (o4:Option V),ch.Sublist (nm.take k)/\H2=upd H' a (.lst (ch.map V.str))/\
    σ=[some (.ref ln),some (.int c),some (.int m),some (.int z),some (.ref l),some (.int g),some (.int mk),some (.ref a),o4]) ⟨[],_,_,jR _,rfl,rfl⟩ (fun k σ H2 hk hp=>?_) (fun k y σ H2 hy hp=>?_) (fun σ H2 hp=>?_)
   ·obtain⟨ch,mk,o4,_,rfl,_⟩:=hp
    exact(p6.trans (z01 ha _)).seq hS
   ·obtain⟨ch,mk,o4,hch,rfl,rfl⟩:=hp
    rw[bB] at hy
    cases en:nm[k]? with
    | none=>rw[en] at hy;cases hy
    | some nk=>
     rw[en] at hy
     cases hy
     have tk:=z0n en
     have hcl:ch.length≤12:=by
      have:=hch.length_le
      rw[bH] at this
      omega
     refine⟨_,rfl,_,_,rfl,rfl,(by show(0:Int)<2;decide),rfl,_,rfl,?_⟩
     refine B0 (fun _=>?_) (fun _=>?_)
     ·refine⟨_,rfl,.inl ⟨rfl,_,SqL.of z03⟩,_,rfl,a,_,_,rfl,rfl,z03,z0e (by rw[b7];omega),?_⟩
      refine⟨_,rfl,_,_,rfl,rfl,⟨by decide,by decide⟩,ch++[nk],_,some (.str nk),?_,?_,rfl⟩
      ·rw[tk]
       exact hch.append (jR _)
      ·rw[z5f,bD]
       rfl
     ·refine⟨_,rfl,_,_,rfl,rfl,⟨by decide,by decide⟩,ch,_,some (.str nk),?_,rfl,rfl⟩
      rw[tk]
      exact hch.trans (List.sublist_append_left _ _)
   ·obtain⟨ch,mk,o4,hch,rfl,rfl⟩:=hp
    rw[b7,bT] at hch
    have fin:∀(b:Addr) (cs:List Str) (H3:Hp) (o2 o4:Option V),cs.Sublist nm->b≠l->H3 b=some (.lst (cs.map V.str))->A3 (upd H' a (.lst (ch.map V.str))) H3->
      ∃(xs':List V) (ss':List (List Str)) (o1' o2' o3' o4':Option V),upd H3 l (.lst (xs++[.ref b])) l=some (.lst xs')/\z2n (upd H3 l (.lst (xs++[.ref b]))) l xs' ss'/\ss'.length=i+1/\(∀s∈ss',s.Sublist nm)/\
       upd H3 l (.lst (xs++[.ref b])) lf=some (.lst (fs.map V.int))/\A3 H (upd H3 l (.lst (xs++[.ref b])))/\
       ([some (.ref ln),some (.int c),some (.int m),some (.int z),some (.ref l),some (.int g),o2,some (.ref b),o4]:St)=[some (.ref ln),some (.int c),some (.int m),some (.int z),some (.ref l),o1',o2',o3',o4']:=by
     intro b cs H3 o2 o4 hcs hb hb3 g3
     have g4:A3 H' H3:=(z01 ha _).trans g3
     refine⟨_,ss++[cs],_,_,_,_,z03,?_,by rw[bG,p3];rfl,fun s' hs'=>?_,?_,z1Z (p6.trans g4) hl,rfl⟩
     ·exact jI (p2.keep g4).over ⟨b,rfl,hb,by rw[z0k hb];exact hb3⟩
     ·rcases bN.mp hs' with h|h
      ·exact p4 s' h
      ·rw[b8.mp h]
       exact hcs
     ·rw[z0k nl]
      exact g4 _ _ p5
    have el:∀{H3:Hp},A3 (upd H' a (.lst (ch.map V.str))) H3->H3 l=some (.lst xs):=fun {H3} g3=>g3 _ _ ((z01 ha _) _ _ p1)
    have app:∀{H3:Hp},A3 (upd H' a (.lst (ch.map V.str))) H3->xs.length<sizeLine:=fun _=>z0e (by omega)
    refine⟨_,rfl,_,rfl,_,_,rfl,rfl,cd,rfl,_,rfl,?_⟩
    refine B0 (fun d1=>?_) (fun d1=>?_)
    ·obtain⟨x1,hx1,ax1⟩:=y6C (ns:=nm) (k:=g%(((nm.map V.str).length:Nat):Int)) (d5 _ (by omega)) (by rw[hl0];exact cX _ (by omega))
     have q1:g / z=1:=V.int.inj (z0F d1)
     refine⟨_,rfl,_,rfl,_,rfl,ln,_,rfl,.inl ((p6.trans (z01 ha _)).seq hS),_,_,rfl,rfl,(by rw[hl0];omega),ln,_,_,_,rfl,rfl,(p6.trans (z01 ha _)).seq hS,ax1,(by show 1≤sizeLine;decide),fun b1 hb1=>?_⟩
     have g1:=z01 hb1 (.lst [.str x1])
     have sub1:[x1].Sublist nm:=List.singleton_sublist.mpr (bO hx1)
     refine⟨_,rfl,_,rfl,_,_,rfl,rfl,cd,rfl,_,rfl,?_⟩
     refine B0 (fun d=>absurd (show g / z=2 from V.int.inj (z0F d)) (by omega)) (fun _=>⟨_,rfl,_,rfl,_,_,rfl,rfl,cd,rfl,_,rfl,?_⟩)
     refine B0 (fun d=>absurd (show g / z=3 from V.int.inj (z0F d)) (by omega)) (fun _=>?_)
     refine⟨_,rfl,.inl ⟨rfl,_,SqL.of (el g1)⟩,_,rfl,l,_,_,rfl,rfl,el g1,app g1,?_⟩
     exact fin b1 [x1] _ _ _ sub1 (fun e=>by rw[e,(z01 ha (.lst (ch.map V.str))) _ _ p1] at hb1;cases hb1) z03 g1
    ·refine⟨_,rfl,_,rfl,_,_,rfl,rfl,cd,rfl,_,rfl,?_⟩
     refine B0 (fun d2=>?_) (fun d2=>?_)
     ·have q2:g / z=2:=V.int.inj (z0F d2)
      refine⟨(by show 0≤sizeLine;decide),fun b1 hb1=>?_⟩
      have g1:=z01 hb1 (.lst [])
      refine⟨_,rfl,_,rfl,_,_,rfl,rfl,cd,rfl,_,rfl,?_⟩
      refine B0 (fun d=>absurd (show g / z=3 from V.int.inj (z0F d)) (by omega)) (fun _=>?_)
      refine⟨_,rfl,.inl ⟨rfl,_,SqL.of (el g1)⟩,_,rfl,l,_,_,rfl,rfl,el g1,app g1,?_⟩
      exact fin b1 [] _ _ _ (jW _) (fun e=>by rw[e,(z01 ha (.lst (ch.map V.str))) _ _ p1] at hb1;cases hb1) z03 g1
     ·refine⟨_,rfl,_,rfl,_,_,rfl,rfl,cd,rfl,_,rfl,?_⟩
      refine B0 (fun d3=>?_) (fun d3=>?_)
      ·refine⟨_,rfl,ln,_,rfl,.inl ((p6.trans (z01 ha _)).seq hS),fun b1 hb1=>?_⟩
       have g1:=z01 hb1 (.lst (nm.map V.str))
       refine⟨_,rfl,.inl ⟨rfl,_,SqL.of (el g1)⟩,_,rfl,l,_,_,rfl,rfl,el g1,app g1,?_⟩
       exact fin b1 nm _ _ _ (jR _) (fun e=>by rw[e,(z01 ha (.lst (ch.map V.str))) _ _ p1] at hb1;cases hb1) z03 g1
      ·refine⟨_,rfl,.inl ⟨rfl,_,SqL.of (el (A3.refl _))⟩,_,rfl,l,_,_,rfl,rfl,el (A3.refl _),app (A3.refl _),?_⟩
       exact fin a ch _ _ _ hch nal z03 (A3.refl _)
 ·obtain⟨xs,ss,o1,o2,o3,o4,p1,p2,p3,p4,p5,p6,rfl⟩:=hp
  rw[b7] at p3
  exact⟨_,rfl,q l xs ss _ hl p6 p1 p2 (by rw[p3,P8]) p4⟩
abbrev Row:=List (Str×Int)
def z9o(p:Str×Int):DV:=.tup [.str p.1,.int p.2]
def N1(r:Row):DV:=.tup (r.map z9o)
theorem y46{H:Hp}{a:Addr}{x:Str}{z:Int}(h:H a=some (.tup [.str x,.int z])):A5 H (z9o (x,z)) (.ref a):=z0r h (by show 2≤1000000;decide) (.cons (z2w x) (.cons (z0H z) .nil))
theorem y33{xs:List V}:∀ys,HO.lst xs≠.tup ys:=fun _ e=>by cases e
def y3H:Sp:=fun vs H Q _=>∃g p:Int,vs=[.int g,.int p]/\∀r,0≤r->r≤1000000->Q (.int r) H
theorem y5m(F:Fun K "_law_value" "_law_value" z5e f fd):A7 P w K mg base CX0 1 f fd z5D y3H:=by
 have nd:=z6S.nd
 refine F.ok z6S (fun vs H Q E h=>?_) (fun cdv A outer s H vs Q E hr h=>?_)
 ·obtain⟨g,p,rfl,_⟩:=h
  rfl
 obtain⟨g,p,rfl,q⟩:=h
 refine⟨_,(z04 (z0D (z0a z2L (z0t z1t (pv 0) z06) z06 (z0m _)) (z05 (z0f (z0t z1h (z0t z1g (pv 0) (z0t z4c z06 (pv 1))) z06))) z0l) (z04 (z0D (z0a z2L (z0t z1t (pv 0) z06) z06 (z0m _)) (z05 (z0f (z0t z4c z06 (z0t z1h (z0t z1g (pv 0) (pv 1)) z06)))) z0l) (z05 (z0f (z0t z1h (z0t z1g (pv 0) (pv 1)) z06))))),?_⟩
 refine⟨_,rfl,_,_,rfl,rfl,⟨by decide,by decide⟩,rfl,_,rfl,?_⟩
 refine B0 (fun _=>?_) (fun _=>?_)
 ·refine⟨_,rfl,_,rfl,_,_,rfl,rfl,.inl ⟨by decide,by decide⟩,_,_,rfl,rfl,_,_,rfl,rfl,(by show(0:Int)<1000001;decide),?_⟩
  have h1:=d5 (g+7*p) (show(1000001:Int)≠0 by decide)
  have h2:=cX (g+7*p) (show(0:Int)<1000001 by decide)
  exact q _ h1 (by omega)
 ·refine⟨_,rfl,_,_,rfl,rfl,⟨by decide,by decide⟩,rfl,_,rfl,?_⟩
  have h1:=d5 (g+p) (show(2:Int)≠0 by decide)
  have h2:=cX (g+p) (show(0:Int)<2 by decide)
  refine B0 (fun _=>?_) (fun _=>?_)
  ·refine⟨_,rfl,_,rfl,_,_,rfl,rfl,_,_,rfl,rfl,(by show(0:Int)<2;decide),_,_,rfl,rfl,.inl ⟨by decide,by decide⟩,?_⟩
   exact q _ (by omega) (by omega)
  ·refine⟨_,rfl,_,rfl,_,_,rfl,rfl,_,_,rfl,rfl,(by show(0:Int)<2;decide),?_⟩
   exact q _ h1 (by omega)
structure Rws(nm:List Str)(rows:List Row):Prop where
 sub:∀r∈rows,(r.map Prod.fst).Sublist nm
 val:∀r∈rows,∀p∈r,0≤p.2/\p.2≤1000000
def y1B:Sp:=fun vs H Q _=>∃(l:Addr) (xs:List V) (ss:List (List Str)) (c:Int),vs=[.ref l,.int c]/\H l=some (.lst xs)/\z2n H l xs ss/\ss.length≤900/\(∀s∈ss,s.length≤12)/\
 ∀(lr:Addr) (us:List V) (rows:List Row) (H':Hp),H lr=none->A3 H H'->H' lr=some (.lst us)->z08 H' (rows.map N1) us->rows.map (fun r=>r.map Prod.fst)=ss->(∀r∈rows,∀p∈r,0≤p.2/\p.2≤1000000)->Q (.ref lr) H'
theorem y3G(M:Bl mg)(F:Fun K "_law_valued" "_law_valued" z4u f fd)(C0:Cal P w K mg base 1 "_law_row" z3G y4d)(M9:Cal P w K mg base 1 "_law_value" z5D y3H) :
  A7 P w K mg base CX0 2 f fd z4q y1B:=by
 have nd:=z6h.nd
 refine F.ok z6h (fun vs H Q E h=>?_) (fun cdv A outer s H vs Q E hr h=>?_)
 ·obtain⟨l,xs,ss,c,rfl,_⟩:=h
  rfl
 obtain⟨l,xs,ss,c,rfl,hL,hSs,n0,n1,q⟩:=h
 refine⟨_,(z04 (z0p (i:=2) nd rfl (Or.inl rfl) (z0i C0 (rm hr) rfl (z00 (pv 1) (z00 (z0b z09 rfl M.len bK (z00 (pv 0) z02)) (z00 z06 z02))))) (z04 (z0p (i:=3) nd rfl (Or.inl rfl) (z1i z02)) (z04 (z0P bQ rfl (z0T rfl M.range (z00 (z0b z09 rfl M.len bK (z00 (pv 0) z02)) z02)) (z0j (i:=4) nd rfl (Or.inl rfl)) (z04 (z0p (i:=5) nd rfl (Or.inl rfl) (z1i z02)) (z04 (z0P bQ rfl (z0T rfl M.range (z00 (z0b z09 rfl M.len bK (z00 (z0z z0V (pv 0) (pv 4) (fun _ _=>rfl)) z02)) z02)) (z0j (i:=6) nd rfl (Or.inl rfl)) (z05 (z0C (z2N bR bV bX z0L (pv 5) (z00 (z0Q (z00 (z0z z0V (z0z z0V (pv 0) (pv 4) (fun _ _=>rfl)) (pv 6) (fun _ _=>rfl)) (z00 (z0i M9 (rm hr) rfl (z00 (z0z z0V (pv 2) (pv 4) (fun _ _=>rfl)) (z00 (pv 6) z02))) z02))) z02))))) (z05 (z0C (z2N bR bV bX z0L (pv 3) (z00 (z0u z0o rfl M.tuple bI (z00 (pv 5) z02)) z02))))))) (z05 (z0f (pv 3)))))),?_⟩
 have hl0:=hSs.len
 refine⟨_,rfl,_,rfl,l,_,rfl,.inl (SqL.of hL),_,_,_,rfl,by omega,by omega,by decide,by decide,fun lf fs H1 nlf s1 e1 P8 all1=>?_⟩
 have w0x:fs.length=ss.length:=by rw[P8,hl0];rfl
 refine⟨(by show 0≤sizeLine;decide),fun lr hlr=>?_⟩
 have nr:lf≠lr:=z0q e1 hlr
 have nlr0:H lr=none:=s1.free hlr
 refine⟨_,rfl,l,_,rfl,.inl (SqL.of ((s1.trans (z01 hlr _)) _ _ hL)),_,rfl,by omega,by omega,?_⟩
 refine z0U (lo:=0) (n:=((xs.length:Nat):Int).toNat) (fun i σ H'=>∃(us:List V) (rows:List Row) (o1 o2 o3:Option V),H' lr=some (.lst us)/\z08 H' (rows.map N1) us/\rows.map (fun r=>r.map Prod.fst)=ss.take i/\(∀r∈rows,∀p∈r,0≤p.2/\p.2≤1000000)/\A3 H1 H'/\
  σ=[some (.ref l),some (.int c),some (.ref lf),some (.ref lr),o1,o2,o3]) ⟨[],[],_,_,_,z03,.nil,rfl,(fun _ h=>nomatch h),z01 hlr _,rfl⟩ (fun i σ H' hi hp=>?_) (fun σ H' hp=>?_)
 ·obtain⟨us,rows,o1,o2,o3,p1,p2,p3,p4,p5,rfl⟩:=hp
  have hi':i<ss.length:=by
   have:((xs.length:Nat):Int).toNat=xs.length:=rfl
   omega
  have ei:(0:Int)+(i:Int)=(i:Int):=eU _
  have es:ss[i]? = some ss[i]:=bC hi'
  generalize ss[i]=sI at es
  have hsI:=n1 sI (bO es)
  obtain⟨v,hv,a,rfl,na,ha⟩:=hSs.get i sI es
  have lus:=p2.length
  rw[b7] at lus
  have lrows:rows.length=i:=by
   have:=congrArg List.length p3
   rw[b7,bH] at this
   omega
  have atv:atI xs ((0:Int)+(i:Int))=some (.ref a):=by rw[ei];exact z0K hv
  have gl:∀{H2:Hp},A3 H' H2->H2 l=some (.lst xs)/\H2 a=some (.lst (sI.map V.str))/\H2 lf=some (.lst (fs.map V.int)):=fun {H2} g=>⟨(s1.trans (p5.trans g)) _ _ hL,(s1.trans (p5.trans g)) _ _ ha,(p5.trans g) _ _ e1⟩
  refine⟨(by show 0≤sizeLine;decide),fun lo hlo=>?_⟩
  have go:=z01 (H:=H') hlo (.lst [])
  refine⟨_,rfl,_,rfl,l,_,_,_,rfl,rfl,SqL.of (gl go).1,atv,a,_,rfl,.inl (SqL.of (gl go).2.1),_,rfl,by omega,by rw[b7];omega,?_⟩
  have hls:(sI.map V.str).length=sI.length:=b7 _
  refine z0U (lo:=0) (n:=(((sI.map V.str).length:Nat):Int).toNat) (fun j σ H2=>∃(zs:List V) (row:Row) (o3:Option V),H2 lo=some (.lst zs)/\z08 H2 (row.map z9o) zs/\row.map Prod.fst=sI.take j/\(∀p∈row,0≤p.2/\p.2≤1000000)/\A3 H' H2/\
   σ=[some (.ref l),some (.int c),some (.ref lf),some (.ref lr),some (.int (0+(i:Int))),some (.ref lo),o3]) ⟨[],[],_,z03,.nil,rfl,(fun _ h=>nomatch h),go,rfl⟩ (fun j σ H2 hj hp=>?_) (fun σ H2 hp=>?_)
  ·obtain⟨zs,row,o3,r1,r2,r3,r4,r5,rfl⟩:=hp
   have hj':j<sI.length:=by
    have:(((sI.map V.str).length:Nat):Int).toNat=sI.length:=by rw[hls];rfl
    omega
   have ej:(0:Int)+(j:Int)=(j:Int):=eU _
   have ex:sI[j]? = some sI[j]:=bC hj'
   generalize sI[j]=x at ex
   have atx:atI (sI.map V.str) ((0:Int)+(j:Int))=some (.str x):=by
    rw[ej]
    exact z0K (by rw[bB,ex];rfl)
   have atf:atI (fs.map V.int) ((0:Int)+(i:Int))=some (.int (fs.getD i 0)):=by
    rw[ei]
    exact z43 (ns:=fs) (k:=(i:Int)) (by omega) (by omega)
   have lrow:row.length=j:=by
    have:=congrArg List.length r3
    rw[b7,bH] at this
    omega
   have lz:=r2.length
   rw[b7] at lz
   refine⟨_,rfl,.inl ⟨rfl,_,SqL.of r1⟩,_,rfl,_,rfl,l,_,_,_,rfl,rfl,SqL.of (gl r5).1,atv,_,rfl,a,_,_,_,rfl,rfl,SqL.of (gl r5).2.1,atx,?_⟩
   refine⟨_,rfl,_,rfl,lf,_,_,_,rfl,rfl,SqL.of (gl r5).2.2,atf,_,rfl,_,_,rfl,fun z z0 z1=>⟨(by show 2≤sizeLine;decide),fun t ht=>?_⟩⟩
   have gt:=z01 (H:=H2) ht (.tup [.str x,.int z])
   refine⟨lo,zs,_,rfl,rfl,gt _ _ r1,z0e (by omega),?_⟩
   refine⟨_,row++[(x,z)],some (.int (0+(j:Int))),z03,?_,?_,fun p hp=>?_,z1Z (r5.trans gt) hlo,rfl⟩
   ·rw[bD]
    exact z08.over (gt _ _ r1) y33 _ _ (z08.snoc (z08.keep gt _ _ r2) (y46 z03))
   ·rw[bD,r3,z0n ex]
    rfl
   ·rcases bN.mp hp with h|h
    ·exact r4 p h
    ·rw[b8.mp h]
     exact⟨z0,z1⟩
  ·obtain⟨zs,row,o3,r1,r2,r3,r4,r5,rfl⟩:=hp
   have er:(((sI.map V.str).length:Nat):Int).toNat=sI.length:=by rw[hls];rfl
   rw[er,bT] at r3
   have lrow:row.length≤12:=by
    have:=congrArg List.length r3
    rw[b7] at this
    omega
   refine⟨_,rfl,.inl ⟨rfl,_,SqL.of (r5 _ _ p1)⟩,_,rfl,lo,_,rfl,.inl ⟨SqL.of r1,fun t ht=>?_⟩⟩
   have gt:=z01 (H:=H2) ht (.tup zs)
   have el:=(r5.trans gt) _ _ p1
   refine⟨lr,us,_,rfl,rfl,el,z0e (by omega),?_⟩
   refine⟨_,rows++[row],_,_,_,z03,?_,?_,fun r hr'=>?_,z1Z (p5.trans (r5.trans gt)) hlr,rfl⟩
   ·rw[bD]
    refine z08.over el y33 _ _ (z08.snoc (z08.keep (r5.trans gt) _ _ p2) (z0r z03 ?_ (z08.keep gt _ _ r2)))
    rw[b7]
    omega
   ·rw[bD,p3,z0n es]
    exact congrArg (ss.take i++·) (congrArg (fun z=>[z]) r3)
   ·rcases bN.mp hr' with h|h
    ·exact p4 r h
    ·rw[b8.mp h]
     exact r4
 ·obtain⟨us,rows,o1,o2,o3,p1,p2,p3,p4,p5,rfl⟩:=hp
  have er:((xs.length:Nat):Int).toNat=ss.length:=by rw[hl0];rfl
  rw[er,bT] at p3
  exact⟨_,rfl,q lr us rows _ nlr0 (s1.trans p5) p1 p2 p3 p4⟩
def y3N(K:PySem.W.Frag):Sp:=fun vs H Q _=>∃(a:Addr) (ns:List Int),vs=[.ref a]/\SqL K H a (ns.map V.int)/\
 ∀(l:Addr) (nm:List Str) (H':Hp),H l=none->A3 H H'->H' l=some (.lst (nm.map V.str))->1≤nm.length->nm.length≤12->Nms nm->Q (.ref l) H'
theorem y4U(F:Fun K "_law_names" "_law_names" z5h f fd)(C6:Cal P w K mg base 1 "_law_at" z5P (X5 K))(D1:Cal P w K mg base 1 "_law_pick" z3I y1W)
  (M8:Cal P w K mg base 1 "_law_named" z5I y3R):A7 P w K mg base CX0 2 f fd z5y (y3N K):=by
 have nd:=z7e.nd
 refine F.ok z7e (fun vs H Q E h=>?_) (fun cdv A outer s H vs Q E hr h=>?_)
 ·obtain⟨a,ns,rfl,_⟩:=h
  rfl
 obtain⟨a,ns,rfl,hS,q⟩:=h
 refine⟨_,(z05 (z0f (z0i M8 (rm hr) rfl (z00 (z0t z1t (z0i C6 (rm hr) rfl (z00 (pv 0) (z00 z06 z02))) z06) (z00 (z0t z1g z06 (z0i D1 (rm hr) rfl (z00 (z0t z1h (z0i C6 (rm hr) rfl (z00 (pv 0) (z00 z06 z02))) z06) (z00 z06 z02)))) z02))))),?_⟩
 refine⟨_,rfl,a,ns,0,rfl,hS,eJ 0,_,_,rfl,rfl,⟨by decide,by decide⟩,?_⟩
 refine⟨_,rfl,a,ns,0,rfl,hS,eJ 0,_,_,rfl,rfl,(by show(0:Int)<24;decide),_,_,rfl,(by decide),fun r h0 h1=>⟨_,_,rfl,rfl,?_⟩⟩
 exact⟨_,_,rfl,by omega,by omega,fun l nm H' nl g e len N=>q l nm H' nl g e (by omega) (by omega) N⟩
def y0c(K:PySem.W.Frag):Sp:=fun vs H Q _=>∃(a ln:Addr) (ns:List Int) (nm:List Str),vs=[.ref a,.ref ln]/\SqL K H a (ns.map V.int)/\SqL K H ln (nm.map V.str)/\1≤nm.length/\nm.length≤12/\
 ∀(lr:Addr) (us:List V) (rows:List Row) (H':Hp),H lr=none->A3 H H'->H' lr=some (.lst us)->z08 H' (rows.map N1) us->rows.length≤60->Rws nm rows->Q (.ref lr) H'
theorem y2h(F:Fun K "_law_numbers" "_law_numbers" z3X f fd)(C6:Cal P w K mg base 1 "_law_at" z5P (X5 K))(D1:Cal P w K mg base 1 "_law_pick" z3I y1W)
  (N4:Cal P w K mg base 2 "_law_sets" z6m (y5V K)) (L3:Cal P w K mg base 2 "_law_valued" z4q y1B):A7 P w K mg base CX0 3 f fd z3Y (y0c K):=by
 have nd:=z50.nd
 refine F.ok z50 (fun vs H Q E h=>?_) (fun cdv A outer s H vs Q E hr h=>?_)
 ·obtain⟨a,ln,ns,nm,rfl,_⟩:=h
  rfl
 obtain⟨a,ln,ns,nm,rfl,hS,hN,n1,n2,q⟩:=h
 refine⟨_,(z04 (z0p (i:=2) nd rfl (Or.inl rfl) (z0i D1 (rm hr) rfl (z00 (z0i C6 (rm hr) rfl (z00 (pv 0) (z00 z06 z02))) (z00 z06 z02)))) (z04 (z0p (i:=3) nd rfl (Or.inl rfl) (z0i N4 (rm hr) rfl (z00 (pv 1) (z00 (z0i C6 (rm hr) rfl (z00 (pv 0) (z00 z06 z02))) (z00 (pv 2) z02))))) (z05 (z0f (z0i L3 (rm hr) rfl (z00 (pv 3) (z00 (z0i C6 (rm hr) rfl (z00 (pv 0) (z00 z06 z02))) z02))))))),?_⟩
 refine⟨_,rfl,a,ns,1,rfl,hS,by decide,_,_,rfl,(by decide),fun r h0 h1=>?_⟩
 refine⟨_,rfl,_,rfl,a,ns,2,rfl,hS,by decide,_,rfl,ln,nm,_,r,rfl,hN,n1,n2,h0,by omega,fun l xs ss H1 nl g1 e1 st len sub=>?_⟩
 refine⟨_,rfl,_,rfl,a,ns,3,rfl,g1.seq hS,by decide,l,xs,ss,_,rfl,e1,st,by omega,fun s hs=>cM (sub s hs).length_le n2,fun lr us rows H2 nlr g2 e2 tl hm hv=>?_⟩
 refine q lr us rows H2 (g1.free nlr) (g1.trans g2) e2 tl ?_ ⟨fun r hr'=>?_,hv⟩
 ·have:=congrArg List.length hm
  rw[b7] at this
  omega
 ·have:r.map Prod.fst∈ss:=by rw[<- hm];exact jG hr'
  exact sub _ this
def K4(s:List Str):DV:=.tup (s.map DV.str)
def dnI(hi:Int)(j:Nat):List Int:=(List.range j).map fun(k:Nat)=>hi-(k:Int)
theorem y4s(hi:Int)(j:Nat):(dnI hi j).length=j:=by unfold dnI;rw[b7,h8]
theorem z9M{hi:Int}{j:Nat}{x:Int}:x∈dnI hi j↔hi-j<x/\x≤hi:=by
 unfold dnI
 rw[cO]
 constructor
 ·rintro⟨k,hk,rfl⟩
  have:=fB.mp hk
  omega
 ·rintro⟨h1,h2⟩
  exact⟨(hi-x).toNat,fB.mpr (by omega),by omega⟩
def z0S(r:Row):List Str:=r.map Prod.fst
def z0y(rows:List Row)(n:Int):Row:=rows.getD (n-1).toNat []
def y2r(rows:List Row)(k:Int):DV:=.tup [.int k,K4 (z0S (z0y rows k))]
def z6w(n r:Int):List Int:=(dnI (n-1) (n-1).toNat).filter fun k=>decide (n-k≤r)
def y5z(rows:List Row)(n r:Int):DV:=.tup ((z6w n r).map (y2r rows))
def z10(rows:List Row)(n r:Int):DV:=.tup [.int n,N1 (z0y rows n),y5z rows n r]
theorem z5X{H:Hp}{rows:List Row}{us:List V}(h:z08 H (rows.map N1) us){k:Int}(k0:1≤k)(k1:k≤rows.length):∃v,us[(k-1).toNat]? = some v/\atI us (k-1)=some v/\A5 H (N1 (z0y rows k)) v:=by
 have hk:(k-1).toNat<rows.length:=by omega
 obtain⟨v,e,t⟩:=h.get (k-1).toNat (N1 (z0y rows k)) (by
  unfold z0y
  rw[bB,bL,bC hk]
  rfl)
 have ek:k-1=(((k-1).toNat:Nat):Int):=by omega
 exact⟨v,e,by rw[ek];exact z0K e,t⟩
theorem z32{H:Hp}:∀{r:Row}{xs:List V},z08 H (r.map z9o) xs->∀(i:Nat) (x:V),xs[i]? = some x->∃(p:Str×Int) (a:Addr),r[i]? = some p/\x=.ref a/\H a=some (.tup [.str p.1,.int p.2]):=by
 intro r xs h i x e
 obtain⟨d,e1,t⟩:=h.at i x e
 rw[bB] at e1
 cases er:r[i]? with
 | none=>rw[er] at e1;cases e1
 | some p=>
  rw[er] at e1
  have e2:z9o p=d:=Option.some.inj e1
  subst e2
  obtain⟨a,ys,rfl,h1,_,h2⟩:=z0g t
  obtain⟨y1,r1,rfl,t1,h3⟩:=z0d h2
  obtain⟨y2,r2,rfl,t2,h4⟩:=z0d h3
  have:=z0E h4
  subst this
  rw[z3h t1,z19 t2] at h1
  exact⟨p,a,rfl,rfl,h1⟩
theorem z8c{rows:List Row}(h:∀w∈rows,w.length≤12)(k:Int):(z0y rows k).length≤12:=by
 unfold z0y
 rw[bL]
 cases e:rows[(k-1).toNat]? with
 | none=>exact cV _
 | some w=>exact h w (bO e)
structure D6(zs:List Str):Prop where
 lo:1≤zs.length
 hi:zs.length≤12
 nd:zs.Nodup
def SqN(K:PySem.W.Frag)(H:Hp)(p:Addr)(zs:List Str):Prop:=SqL K H p (zs.map V.str)\/SqT K H p (zs.map V.str)
theorem SqN.keep{K:PySem.W.Frag}{H H':Hp}{p:Addr}{zs:List Str}(h:A3 H H')(x:SqN K H p zs):SqN K H' p zs:=x.imp (fun q=>h.seq q) fun q=>z7s h q
def z8Z(K:PySem.W.Frag):Sp:=fun vs H Q _=>∃(p:Addr) (zs:List Str),vs=[.ref p]/\SqN K H p zs/\D6 zs/\∀H',A3 H H'->Q .non H'
theorem y15(M:Bl mg)(F:Fun K "refuse_bad_names" "refuse_bad_names" z2o f fd):A7 P w K mg base CX0 1 f fd z2r (z8Z K):=by
 have nd:=z3f.nd
 refine F.ok z3f (fun vs H Q E h=>?_) (fun cdv A outer s H vs Q E hr h=>?_)
 ·obtain⟨p,zs,rfl,_⟩:=h
  rfl
 ·obtain⟨p,zs,rfl,hp,g,k⟩:=h
  refine⟨_,(z04 (z0D (z0a z8x (z0b z09 rfl M.len bK (z00 (pv 0) z02)) z06 (z0m _)) (z05 z1x) z0l) (z04 (z0D (z0a z2k (z0b z09 rfl M.len bK (z00 (pv 0) z02)) (z2P rfl M.MOST_NAMES) (z0m _)) (z05 z1x) z0l) (z05 (z0D (z0a z7l (z0b z67 rfl M.len bK (z00 (z0u (z4Z rfl) rfl M.set PyProof.Rows.boot_set (z00 (pv 0) z02)) z02)) (z0b z09 rfl M.len bK (z00 (pv 0) z02)) (z0m _)) (z05 z1x) z0l)))),?_⟩
  have:=g.lo
  have:=g.hi
  have el:(zs.map V.str).length=zs.length:=b7 _
  refine⟨_,rfl,p,_,rfl,hp,_,_,rfl,rfl,_,rfl,B0 (fun q=>absurd (z0F q) (by omega)) fun _=>?_⟩
  refine⟨_,rfl,p,_,rfl,hp,_,_,rfl,rfl,_,rfl,B0 (fun q=>absurd (z0F q) (by omega)) fun _=>?_⟩
  refine⟨_,rfl,p,zs,rfl,hp,by omega,fun l hl=>⟨l,zs,rfl,z03,by omega,_,rfl,p,zs.map V.str,rfl,SqN.keep (z01 hl _) hp,rfl,_,rfl,?_⟩⟩
  refine y7e ?_ (k _ (z01 hl _))
  rw[y2X g.nd,el]
def z8H:Sp:=fun vs H Q _=>∃r:Int,vs=[.int r]/\0≤r/\r≤10/\Q .non H
theorem y11(M:Bl mg)(F:Fun K "refuse_bad_reach" "refuse_bad_reach" z2u f fd):A7 P w K mg base CX0 1 f fd z2q z8H:=by
 have nd:=z3d.nd
 refine F.ok z3d (fun vs H Q E h=>?_) (fun cdv A outer s H vs Q E hr h=>?_)
 ·obtain⟨r,rfl,_⟩:=h
  rfl
 ·obtain⟨r,rfl,r0,r1,k⟩:=h
  refine⟨_,(z05 (z0D (PW.pt (z3a (z0a z8x (pv 0) z06 (z0m _)) (z1T (z0a z2k (pv 0) (z2P rfl M.MOST_REACH) (z0m _))))) (z05 z1x) z0l)),?_⟩
  refine⟨_,rfl,_,_,rfl,rfl,_,rfl,B0 (fun q=>absurd (z0F q) (by omega)) fun _=>?_⟩
  exact⟨_,rfl,_,_,rfl,rfl,_,rfl,B0 (fun q=>absurd (z0F q) (by omega)) fun _=>k⟩
def HdN(K:PySem.W.Frag)(H:Hp)(p:Addr)(zs:List Str):Prop:=SqL K H p (zs.map V.str)\/H p=some (.tup (zs.map V.str))
theorem HdN.sq{K:PySem.W.Frag}{H:Hp}{p:Addr}{zs:List Str}(h:HdN K H p zs):SqN K H p zs:=h.imp id SqT.of
theorem HdN.keep{K:PySem.W.Frag}{H H':Hp}{p:Addr}{zs:List Str}(s:A3 H H')(h:HdN K H p zs):HdN K H' p zs:=h.imp (fun q=>s.seq q) fun q=>s _ _ q
def z6A(K:PySem.W.Frag):Sp:=fun vs H Q _=>∃(p:Addr) (zs:List Str) (r:Int),vs=[.ref p,.int r]/\HdN K H p zs/\D6 zs/\0≤r/\r≤10/\∀(l:Addr) (H':Hp),A3 H H'->H' l=some (.tup (zs.map V.str))->Q (.ref l) H'
theorem y0O(M:Bl mg)(F:Fun K "bulletin_names" "bulletin_names" z2T f fd)(E6:Cal P w K mg base 1 "refuse_bad_names" z2r (z8Z K))(E7:Cal P w K mg base 1 "refuse_bad_reach" z2q z8H) :
  A7 P w K mg base CX0 2 f fd z2f (z6A K):=by
 have nd:=z46.nd
 refine F.ok z46 (fun vs H Q E h=>?_) (fun cdv A outer s H vs Q E hr h=>?_)
 ·obtain⟨p,zs,r,rfl,_⟩:=h
  rfl
 ·obtain⟨p,zs,r,rfl,hp,g,r0,r1,k⟩:=h
  refine⟨_,(z04 (z0C (z0i E6 (rm hr) rfl (z00 (pv 0) z02))) (z04 (z0C (z0i E7 (rm hr) rfl (z00 (pv 1) z02))) (z05 (z0f (z0u z0o rfl M.tuple bI (z00 (pv 0) z02)))))),?_⟩
  refine⟨_,rfl,p,zs,rfl,hp.sq,g,fun H1 s1=>⟨_,rfl,r,rfl,r0,r1,_,rfl,p,zs.map V.str,rfl,?_⟩⟩
  rcases hp.keep s1 with hq|hq
  ·exact .inl ⟨hq,fun l hl=>k l _ (s1.trans (z01 hl _)) z03⟩
  ·exact .inr ⟨SqT.of hq,k p _ s1 hq⟩
def z0B(fp:List Addr)(H H':Hp):Prop:=∀b o,H b=some o->b∉fp->H' b=some o
theorem z0B.of{fp:List Addr}{H H':Hp}(h:A3 H H'):z0B fp H H':=fun b o e _=>h b o e
def z5G(H:Hp)(fp:List Addr):Prop:=∀b∈fp,∀xs,H b≠some (.tup xs)
mutual
theorem A5.but{fp:List Addr}{H H':Hp}(s:z0B fp H H')(n:z5G H fp):∀(d:DV) (x:V),A5 H d x->A5 H' d x
 | .non,_,h=>by unfold A5 at h ⊢;exact h
 | .bl _,_,h=>by unfold A5 at h ⊢;exact h
 | .int _,_,h=>by unfold A5 at h ⊢;exact h
 | .str _,_,h=>by unfold A5 at h ⊢;exact h
 | .tup ds,_,h=>by
  unfold A5 at h ⊢
  obtain⟨a,xs,e,h1,h2,h3⟩:=h
  exact⟨a,xs,e,s _ _ h1 (fun m=>n a m xs h1),h2,z08.but s n ds xs h3⟩
theorem z08.but{fp:List Addr}{H H':Hp}(s:z0B fp H H')(n:z5G H fp):∀(ds:List DV) (xs:List V),z08 H ds xs->z08 H' ds xs
 | [],_,h=>by unfold z08 at h ⊢;exact h
 | d::ds,_,h=>by
  unfold z08 at h ⊢
  obtain⟨x,r,e,h1,h2⟩:=h
  exact⟨x,r,e,A5.but s n d x h1,z08.but s n ds r h2⟩
end
theorem z9P{H:Hp}{x dx b:Addr}{o u v:HO}(nx:H x=none)(ndx:H dx=none)(h:H b=some o):upd (upd H dx u) x v b=some o:=by
 rw[z0k (z0q h nx),z0k (z0q h ndx)]
 exact h
theorem z8b{H H1:Hp}{C x dx:Addr}(s:A3 H H1)(nx:H1 x=none)(ndx:H1 dx=none):A3 H (upd (upd H1 dx (.own x)) x (.ins C dx [])):=fun _ _ e=>z9P nx ndx (s _ _ e)
theorem z86{H H1 H2:Hp}{x:Addr}(b:z0B [x] H1 H2)(m:A3 H H1)(nx:H x=none):A3 H H2:=fun c o e=>b c o (m c o e) (by
 rw[b8]
 exact z0q e nx)
theorem z6t{H H1:Hp}{x dx b:Addr}(m:A3 H H1)(nx:H x=none)(ndx:H dx=none)(h:b=x\/b=dx\/H1 b=none):H b=none:=by
 rcases h with rfl|rfl|h
 ·exact nx
 ·exact ndx
 ·exact m.free h
theorem y2T{fp fp' fp2:List Addr}{H7 H' GW:Hp}(bt:z0B fp H7 H')(ff:∀b∈fp',b∈fp\/H7 b=none)(gW:A3 H' GW)(hf2:∀b∈fp2,b∈fp'\/GW b=none):∀b∈fp2,b∈fp\/H7 b=none:=fun b m=>(hf2 b m).elim (ff b) fun z=>by
 cases e:H7 b with
 | none=>exact .inr rfl
 | some o=>
  by_cases nb:b∈fp
  ·exact .inl nb
  ·rw[gW _ _ (bt b o e nb)] at z
   cases z
def z0c(had:List Int):List Int:=(upI 1 60).filter fun x=>decide (x∈had)
def O6(had:List Int):Int:=(z0c had).getLastD 0
def Q8(had:List Int)(n:Int):List Int:=if n∈had then had else had++[n]
theorem y1O{had:List Int}{n x:Int}:x∈Q8 had n↔x∈had\/x=n:=by
 unfold Q8
 by_cases h:n∈had
 ·rw[if_pos h]
  exact⟨.inl,fun q=>q.elim id fun e=>e ▸ h⟩
 ·rw[if_neg h,bN,b8]
theorem z0Z{had:List Int}{x:Int}:x∈z0c had↔(1≤x/\x<1+60)/\x∈had:=by
 unfold z0c
 rw[cI,z13,decide_eq_true_eq]
 rfl
theorem z1K(had:List Int):(z0c had).Pairwise (· < ·):=(z1s 1 60).filter _
theorem z38(had:List Int):(z0c had).length≤60:=by
 have h:=cJ (fun x=>decide (x∈had)) (upI 1 60)
 rw[z0M] at h
 exact h
theorem y0N{ns ms:List Int}(nd:ns.Nodup)(B3:∀x∈ns,1≤x/\x≤60)(hp:ms.Perm ns)(hs:ms.Pairwise (·≤·)):ms=z0c ns:=by
 have n2:ms.Nodup:=hp.nodup_iff.mpr nd
 have lt:ms.Pairwise (· < ·):=by
  have:=List.pairwise_and_iff.mpr ⟨hs,n2⟩
  exact this.imp fun h=>by
   have:=h.1
   have:=h.2
   omega
 refine z1N lt (z1K _) fun x=>?_
 rw[z0Z,hp.mem_iff]
 exact⟨fun h=>⟨by have:=B3 x h;omega,h⟩,fun h=>h.2⟩
abbrev ShP:=Hp->Addr->List Addr->List Str->Int->(Int->DV)->List Int->Prop
structure U4(C:Addr)(ms:List Str)(Sh:ShP):Prop where
 ins:∀{H p fp zs r iss had},Sh H p fp zs r iss had->∃dx fs,H p=some (.ins C dx fs)/\∀m∈ms,fs.lookup m=none
 own:∀{H p fp zs r iss had},Sh H p fp zs r iss had->∀b∈fp,∃o,H b=some o/\∀xs,o≠.tup xs
 keep:∀{H H' p fp gp zs r iss had},Sh H p fp zs r iss had->z0B gp H H'->(∀b∈gp,b∉fp)->z5G H gp->Sh H' p fp zs r iss had
theorem U4.same{C:Addr}{ms:List Str}{Sh:ShP}(O:U4 C ms Sh){H H':Hp}{p:Addr}{fp:List Addr}{zs:List Str}{r:Int}{iss:Int->DV}{had:List Int}(h:Sh H p fp zs r iss had)(s:A3 H H'):Sh H' p fp zs r iss had:=
 O.keep (gp:=[]) h (.of s) (fun _ q=>by cases q) fun _ q=>by cases q
theorem U4.Q7{C:Addr}{ms:List Str}{Sh:ShP}(O:U4 C ms Sh){H:Hp}{p:Addr}{fp:List Addr}{zs:List Str}{r:Int}{iss:Int->DV}{had:List Int}(h:Sh H p fp zs r iss had):z5G H fp:=fun b m xs e=>by
 obtain⟨o,e1,n⟩:=O.own h b m
 rw[e1] at e
 exact n xs (Option.some.inj e)
def y1x(K:PySem.W.Frag)(C:Addr)(Sh:ShP):Sp:=fun vs H Q _=>∃(x dx pn:Addr) (zs:List Str) (r:Int),vs=[.ref x,.ref pn,.int r]/\H x=some (.ins C dx [])/\dx≠x/\H dx=some (.own x)/\HdN K H pn zs/\D6 zs/\0≤r/\r≤10/\
 ∀(fp:List Addr) (H':Hp),(∀b∈fp,b=x\/b=dx\/H b=none)->z0B [x] H H'->(∀iss,Sh H' x fp zs r iss [])->Q .non H'
def y7s(Sh:ShP):Sp:=fun vs H Q _=>∃(p:Addr) (v:V) (fp:List Addr) (zs:List Str) (r:Int) (iss:Int->DV) (had:List Int) (n:Int) (ds:List DV),vs=[.ref p,v]/\Sh H p fp zs r iss had/\A5 H (iss n) v/\iss n=.tup (.int n::ds)/\1≤n/\n≤60/\
 ∀(fp':List Addr) (H':Hp),(∀b∈fp',b∈fp\/H b=none)->z0B fp H H'->Sh H' p fp' zs r iss (Q8 had n)->Q (.bl (decide (n∉had))) H'
def z3n(Sh:ShP):Sp:=fun vs H Q _=>∃(p:Addr) (fp:List Addr) (zs:List Str) (r:Int) (iss:Int->DV) (had:List Int),vs=[.ref p]/\Sh H p fp zs r iss had/\
 ∀(l:Addr) (H':Hp),A3 H H'->H' l=some (.tup ((z0c had).map V.int))->Q (.ref l) H'
def z8Y(Sh:ShP):Sp:=fun vs H Q _=>∃(p:Addr) (fp:List Addr) (zs:List Str) (r:Int) (iss:Int->DV) (had:List Int),vs=[.ref p]/\Sh H p fp zs r iss had/\∀H',A3 H H'->Q (.int (O6 had)) H'
def ShD(K:PySem.W.Frag)(C:Addr):ShP:=fun H p fp zs r iss had=>∃(dx pn pd:Addr) (fs:List (Str×V)) (kvs:List (Key×V)),fp=[p,dx,pd]/\H p=some (.ins C dx fs)/\H dx=some (.own p)/\H pn=some (.tup (zs.map V.str))/\H pd=some (.dK kvs)/\
 fs.lookup ("names":Str)=some (V.ref pn)/\fs.lookup ("reach":Str)=some (V.int r)/\fs.lookup ("issues":Str)=some (V.ref pd)/\(∀m∈(["put","had","latest","rows_of","tail_of"]:List Str),fs.lookup m=none)/\
 kvs.map (·.1)=had.map Sum.inl/\had.Nodup/\(∀n∈had,1≤n/\n≤60)/\(∀n v,(Sum.inl n,v)∈kvs->A5 H (iss n) v)/\D6 zs/\0≤r/\r≤10
theorem ShD.ins{K:PySem.W.Frag}{C:Addr}{H:Hp}{p:Addr}{fp:List Addr}{zs:List Str}{r:Int}{iss:Int->DV}{had:List Int}(h:ShD K C H p fp zs r iss had):∃dx fs,H p=some (.ins C dx fs)/\∀m∈(["put","had","latest","rows_of","tail_of"]:List Str),fs.lookup m=none:=by
 obtain⟨dx,pn,pd,fs,kvs,e,h1,h2,h3,h4,l1,l2,l3,lm,_⟩:=h
 exact⟨dx,fs,h1,lm⟩
theorem F1{K:PySem.W.Frag}{C:Addr}:U4 C ["put","had","latest"] (ShD K C):=by
 refine⟨fun h=>?_,fun h b hb=>?_,fun h s out nt=>?_⟩
 ·obtain⟨dx,fs,h1,lm⟩:=ShD.ins h
  refine⟨dx,fs,h1,fun m hm=>lm m ?_⟩
  simp only[bA,dX,or_false] at hm ⊢
  rcases hm with h|h|h<;>simp[h]
 ·obtain⟨dx,pn,pd,fs,kvs,rfl,h1,h2,h3,h4,_⟩:=h
  rcases bA.mp hb with rfl|hb
  ·exact⟨_,h1,fun xs z=>by cases z⟩
  rcases bA.mp hb with rfl|hb
  ·exact⟨_,h2,fun xs z=>by cases z⟩
  rw[b8.mp hb]
  exact⟨_,h4,fun xs z=>by cases z⟩
 ·obtain⟨dx,pn,pd,fs,kvs,rfl,h1,h2,h3,h4,l1,l2,l3,lm,kk,nd,all,tl,g⟩:=h
  exact⟨dx,pn,pd,fs,kvs,rfl,s _ _ h1 (fun m=>out _ m (by simp)),s _ _ h2 (fun m=>out _ m (by simp)),s _ _ h3 (fun m=>nt _ m _ h3),s _ _ h4 (fun m=>out _ m (by simp)),l1,l2,l3,lm,kk,nd,all,fun n v hv=>A5.but s nt _ _ (tl n v hv),g⟩
theorem y3Q{A0:Addr}(M:Bl mg)(T:C8 K mg A0)(F:Fun K "__init__" "Shelf.__init__" z2V f fd)(C5:Cal P w K mg base 2 "bulletin_names" z2f (z6A K)) :
  A7 P w K mg base CX0 3 f fd z2Z (y1x K A0 (ShD K A0)):=by
 have nd:=z47.nd
 refine F.ok z47 (fun vs H Q E h=>?_) (fun cdv A outer s H vs Q E hr h=>?_)
 ·obtain⟨x,dx,pn,zs,r,rfl,_⟩:=h
  rfl
 obtain⟨x,dx,pn,zs,r,rfl,hx,ne,hdx,hn,g,r0,r1,k⟩:=h
 refine⟨_,(z04 (z6f (pv 0) (z0i C5 (rm hr) rfl (z00 (pv 1) (z00 (pv 2) z02))) rfl) (z04 (z6f (pv 0) (pv 2) rfl) (z05 (z6f (pv 0) y1u rfl)))),?_⟩
 refine⟨_,rfl,_,rfl,pn,zs,r,rfl,hn,g,r0,r1,fun l H1 s1 e1=>?_⟩
 refine⟨_,rfl,x,A0,dx,[],rfl,s1 _ _ hx,T.cl,T.n_names,by decide,?_⟩
 have z1:=z1D "names" (.ref l) []
 have z2:=z1D "reach" (.int r) (J1 "names" (.ref l) [])
 have z0:([]:List (Str×V)).length=0:=rfl
 refine⟨_,rfl,_,rfl,x,A0,dx,_,rfl,z03,T.cl,T.n_reach,(by omega),?_⟩
 rw[z5f]
 intro pd hd
 have nx:x≠pd:=z0q z03 hd
 have ndd:dx≠pd:=z0q (show upd H1 x _ dx=some _ by rw[z0k ne];exact s1 _ _ hdx) hd
 have nl:l≠x:=z4W e1 (s1 _ _ hx) (fun z=>by cases z)
 have nlp:l≠pd:=z0q (show upd H1 x _ l=some _ by rw[z0k nl];exact e1) hd
 have dfr:H1 pd=none:=by rw[z0k (dE nx)] at hd;exact hd
 refine⟨_,rfl,x,A0,dx,_,rfl,(by rw[z0k nx,z03]),T.cl,T.n_issues,(by omega),?_⟩
 refine k [x,dx,pd] _ (fun b hb=>?_) (fun b o e nb=>?_) (fun iss=>⟨dx,l,pd,_,[],rfl,z03,?_,?_,?_,?_,?_,?_,?_,rfl,.nil,fun _ q=>(nomatch q),fun _ _ q=>(nomatch q),g,r0,r1⟩)
 ·simp only[bA,dX,or_false] at hb
  rcases hb with rfl|rfl|rfl
  ·exact .inl rfl
  ·exact .inr (.inl rfl)
  ·exact .inr (.inr (s1.free dfr))
 ·rw[b8] at nb
  rw[z0k nb,z0k (z0q e (s1.free dfr)),z0k nb]
  exact s1 _ _ e
 ·rw[z0k ne,z0k ndd,z0k ne]
  exact s1 _ _ hdx
 ·rw[z0k nl,z0k nlp,z0k nl]
  exact e1
 ·rw[z0k (dE nx),z03]
 ·rw[z0s,if_neg (by decide +kernel),z0s,if_neg (by decide +kernel),z0s,if_pos rfl]
 ·rw[z0s,if_neg (by decide +kernel),z0s,if_pos rfl]
 ·rw[z0s,if_pos rfl]
 ·intro m hm
  simp only[bA,dX,or_false] at hm
  rcases hm with rfl|rfl|rfl|rfl|rfl<;>rw[z0s,if_neg (by decide +kernel),z0s,if_neg (by decide +kernel),z0s,if_neg (by decide +kernel)]<;>rfl
theorem y7L{α:Type}[DecidableEq α]:∀{l1 l2:List α},l1.Nodup->(∀x∈l1,x∈l2)->l1.length≤l2.length
 | [],_,_,_=>cV _
 | x::r,l2,nd,sub=>by
  rw[dM] at nd
  have hx:=sub x bU
  have:=y7L (l1:=r) (l2:=l2.erase x) nd.2 fun y hy=>(List.mem_erase_of_ne (fun(e:y=x)=>nd.1 (e ▸ hy))).mpr (sub y (bS _ hy))
  rw[List.length_erase_of_mem hx] at this
  have h0:=List.length_pos_of_mem hx
  rw[cH]
  omega
theorem y14{had:List Int}(nd:had.Nodup)(all:∀n∈had,1≤n/\n≤60):had.length≤60:=by
 have h:=y7L (l2:=upI 1 60) nd fun n hn=>z13.mpr (by have:=all n hn;omega)
 rw[z0M] at h
 exact h
theorem z9s{kvs:List (Key×V)}{had:List Int}(kk:kvs.map (·.1)=had.map Sum.inl)(n:Int):(K1 kvs (Sum.inl n)).isSome=decide (n∈had):=by
 rw[<- z7v]
 have e:(kvs.any fun kv=>decide (kv.1=Sum.inl n))=(kvs.map (·.1)).any fun k=>decide (k=Sum.inl n):=by rw[gS];rfl
 rw[e,kk,gS]
 by_cases h:n∈had
 ·rw[decide_eq_true h,j0]
  exact⟨n,h,decide_eq_true rfl⟩
 ·rw[decide_eq_false h,jN]
  intro m hm z
  have e:=of_decide_eq_true z
  cases e
  exact h hm
theorem y7u{A0:Addr}(M:Bl mg)(T:C8 K mg A0)(F:Fun K "put" "Shelf.put" z6v f fd):A7 P w K mg base CX0 1 f fd z6K (y7s (ShD K A0)):=by
 have nd:=z8t.nd
 refine F.ok z8t (fun vs H Q E h=>?_) (fun cdv A outer s H vs Q E hr h=>?_)
 ·obtain⟨p,v,fp,zs,r,iss,had,n,ds,rfl,_⟩:=h
  rfl
 obtain⟨p,v,fp,zs,r,iss,had,n,ds,rfl,sh,tv,en,n1,n2,k⟩:=h
 have hu:=y0g hr
 refine⟨_,(z04 (z0p (i:=2) nd rfl (Or.inl rfl) (z0z z0A (pv 1) z06 (fun _ _=>rfl))) (z04 (z0D (z8r (y4f hu (pv 2) (z0I (pv 0) rfl))) (z05 (z0f z1W)) z0l) (z04 (y0M hu (z0I (pv 0) rfl) (pv 2) (pv 1) rfl) (z05 (z0f z1W))))),?_⟩
 obtain⟨dx,pn,pd,fs,kvs,rfl,h1,h2,h3,h4,l1,l2,l3,lm,kk,ndh,all,tl,g,r0,r1⟩:=sh
 rw[en] at tv
 obtain⟨a,us,rfl,ea,_,tu⟩:=z0g tv
 obtain⟨x0,ur,rfl,t0,_⟩:=z0d tu
 cases z19 t0
 refine⟨_,rfl,a,_,_,_,rfl,rfl,SqT.of ea,z0K rfl,?_⟩
 refine⟨_,rfl,_,rfl,p,A0,dx,fs,_,rfl,h1,T.cl,T.n_issues,l3,pd,_,rfl,L7.k (k:=Sum.inl n) h4,?_⟩
 refine⟨_,rfl,?_⟩
 rw[z9s kk]
 have fr:∀b∈[p,dx,pd],∃o,H b=some o:=fun b hb=>by
  simp only[bA,dX,or_false] at hb
  rcases hb with rfl|rfl|rfl
  ·exact⟨_,h1⟩
  ·exact⟨_,h2⟩
  ·exact⟨_,h4⟩
 refine B0 (fun c=>?_) (fun c=>?_)
 ·have c':=z0F c
  have e:=k [p,dx,pd] H (fun b hb=>.inl hb) (fun b o e _=>e) ⟨dx,pn,pd,fs,kvs,rfl,h1,h2,h3,h4,l1,l2,l3,lm,by unfold Q8;rw[if_pos c'];exact kk,by unfold Q8;rw[if_pos c'];exact ndh,fun m hm=>?_,tl,g,r0,r1⟩
  ·rw[decide_eq_false (fun z=>z c')] at e
   exact e
  ·unfold Q8 at hm
   rw[if_pos c'] at hm
   exact all m hm
 ·have c':=z49 c
  have lk:kvs.length≤60:=by
   have e2:=congrArg List.length kk
   rw[b7,b7] at e2
   have:=y14 ndh all
   omega
  have en':K1 kvs (Sum.inl n:Key)=none:=by
   have:=z9s kk n
   rw[decide_eq_false c'] at this
   cases e:K1 kvs (Sum.inl n:Key) with
   | none=>rfl
   | some v=>rw[e] at this;cases this
  refine⟨_,rfl,_,rfl,p,A0,dx,fs,_,rfl,h1,T.cl,T.n_issues,l3,_,rfl,pd,_,rfl,T4.k (k:=Sum.inl n) h4 (z0e (by omega)),?_⟩
  rw[y1w _ en']
  have np:p≠pd:=z4W h1 h4 (fun z=>by cases z)
  have nx:dx≠pd:=z4W h2 h4 (fun z=>by cases z)
  have nn:pn≠pd:=z4W h3 h4 (fun z=>by cases z)
  have e:=k [p,dx,pd] (upd H pd (.dK (kvs++[(Sum.inl n,.ref a)]))) (fun b hb=>.inl hb) (fun b o e nb=>by rw[z0k (fun z=>nb (by rw[z];simp))];exact e)
   ⟨dx,pn,pd,fs,_,rfl,by rw[z0k np];exact h1,by rw[z0k nx];exact h2,by rw[z0k nn];exact h3,z03,l1,l2,l3,lm,?_,?_,fun m hm=>?_,fun m v hv=>?_,g,r0,r1⟩
  ·rw[decide_eq_true c'] at e
   exact e
  ·unfold Q8
   rw[if_neg c',bD,bD,kk]
   rfl
  ·unfold Q8
   rw[if_neg c',h9]
   exact⟨ndh,by simp,fun x hx y hy z=>by rw[b8] at hy;subst hy;subst z;exact c' hx⟩
  ·rcases y1O.mp hm with h|rfl
   ·exact all m h
   ·omega
  ·refine A5.over h4 (fun _ z=>by cases z) _ _ ?_
   rcases bN.mp hv with h|h
   ·exact tl m v h
   ·rw[b8] at h
    cases h
    rw[en]
    exact tv
theorem y5h{A0:Addr}(M:Bl mg)(T:C8 K mg A0)(F:Fun K "had" "Shelf.had" z6x f fd):A7 P w K mg base CX0 1 f fd z1n (z3n (ShD K A0)):=by
 have nd:=z8n.nd
 refine F.ok z8n (fun vs H Q E h=>?_) (fun cdv A outer s H vs Q E hr h=>?_)
 ·obtain⟨p,fp,zs,r,iss,had,rfl,_⟩:=h
  rfl
 obtain⟨p,fp,zs,r,iss,had,rfl,sh,k⟩:=h
 refine⟨_,(z05 (z0f (z0u z0o rfl M.tuple bI (z00 (z0b (z48 rfl) rfl M.sorted fI (z00 (z0I (pv 0) rfl) z02)) z02)))),?_⟩
 obtain⟨dx,pn,pd,fs,kvs,rfl,h1,h2,h3,h4,l1,l2,l3,lm,kk,ndh,all,tl,g,r0,r1⟩:=sh
 refine⟨_,rfl,p,A0,dx,fs,_,rfl,h1,T.cl,T.n_issues,l3,pd,kvs,had,rfl,h4,kk,eF (y14 ndh all) (by decide),fun l ms hl hp hs=>?_⟩
 rw[y0N ndh all hp hs]
 exact⟨l,_,rfl,.inl ⟨SqL.of z03,fun t ht=>k t _ ((z01 hl _).trans (z01 ht _)) z03⟩⟩
theorem y1k{had:List Int}{m:Int}(hm:m∈z0c had)(hb:∀y∈z0c had,y≤m):m=O6 had:=by
 unfold O6
 have ne:z0c had≠[]:=fun z=>by rw[z] at hm;cases hm
 have e:(z0c had).getLastD 0=(z0c had).getLast ne:=by rw[List.getLastD_eq_getLast?,List.getLast?_eq_some_getLast ne]<;>rfl
 rw[e]
 have h1:=hb _ (List.getLast_mem ne)
 have d:z0c had=(z0c had).dropLast++[(z0c had).getLast ne]:=(List.dropLast_concat_getLast ne).symm
 have rs:=z1K had
 rw[d] at hm rs
 rcases bN.mp hm with h|h
 ·have:=(cT.mp rs).2.2 m h _ (b8.mpr rfl)
  omega
 ·exact b8.mp h
theorem y4c{A0:Addr}(M:Bl mg)(T:C8 K mg A0)(F:Fun K "latest" "Shelf.latest" z3N f fd)(A6:D2 P w K mg base 1 A0 "had" z1n (z3n (ShD K A0))):A7 P w K mg base CX0 2 f fd z3L (z8Y (ShD K A0)):=by
 have nd:=z5b.nd
 refine F.ok z5b (fun vs H Q E h=>?_) (fun cdv A outer s H vs Q E hr h=>?_)
 ·obtain⟨p,fp,zs,r,iss,had,rfl,_⟩:=h
  rfl
 obtain⟨p,fp,zs,r,iss,had,rfl,sh,k⟩:=h
 refine⟨_,(z05 (z0f (y2O rfl rfl M.max (z00 (z1M A6 (rm hr) (pv 0)) z02) (z9g z06 y1J)))),?_⟩
 obtain⟨dx,fs,h1,lm⟩:=F1.ins sh
 refine⟨_,rfl,p,dx,fs,rfl,h1,lm _ (by simp),p,fp,zs,r,iss,had,rfl,sh,fun l H1 s1 e1=>?_⟩
 refine⟨l,z0c had,_,rfl,rfl,.inr (SqT.of e1),fun z=>?_,fun m hm hb=>?_⟩
 ·have e:O6 had=0:=by unfold O6;rw[z];rfl
  have:=k H1 s1
  rw[e] at this
  exact this
 ·rw[y1k hm hb]
  exact k H1 s1
def P9(ns:List Int)(rows:List Row)(r n:Int):DV:=.tup [.int n,.int (z0G ns n r),if z0G ns n r=0 then .tup [] else K4 (z0S (z0y rows n))]
def z39(ns:List Int)(rows:List Row)(r:Int):List DV:=(z16 ns).map (P9 ns rows r)
theorem z73{ns:List Int}{n r:Int}:0≤z0G ns n r:=by
 unfold z0G
 cases e:(upI 1 60).find? (y0W ns n r) with
 | none=>exact eJ _
 | some y=>
  have:=z13.mp (gL e)
  show 0≤y
  omega
theorem y0i{ns:List Int}{m:Int}(hm:m∈ns\/(ns=[]/\m=0))(B3:∀x∈ns,1≤x/\x≤60)(top:∀y∈ns,y≤m):(upI 1 (m-1).toNat).filter (fun x=>!decide (x∈ns))=z16 ns:=by
 rcases hm with hm|⟨rfl,rfl⟩
 ·refine z1N ((z1s _ _).filter _) (z2p _) fun x=>?_
  have hm':=B3 m hm
  rw[cI,z13,z0N,jQ,decide_eq_false_iff_not]
  constructor
  ·rintro⟨⟨a,b⟩,c⟩
   exact⟨by omega,c,m,hm,by omega⟩
  ·rintro⟨a,b,y,hy,c⟩
   have:=top y hy
   exact⟨by omega,b⟩
 ·rw[y0u]
  rfl
theorem z5U{ns:List Int}(i:Nat):(upI 1 (i+1)).filter (fun x=>!decide (x∈ns))=(upI 1 i).filter (fun x=>!decide (x∈ns))++(if (1:Int)+(i:Int)∈ns then [] else [1+(i:Int)]):=by
 rw[z62,dW,eM]
 by_cases h:(1:Int)+(i:Int)∈ns
 ·rw[if_pos h,decide_eq_true h]
  rfl
 ·rw[if_neg h,decide_eq_false h]
  rfl
def E5(w:Row)(z:Str):Option Int:=w.foldl (fun acc p=>if p.1=z then some p.2 else acc) none
theorem y0C(w:Row)(p:Str×Int)(z:Str):E5 (w++[p]) z=if p.1=z then some p.2 else E5 w z:=by
 unfold E5
 rw[fR]
 rfl
def z0W(ms:List Int)(rows:List Row)(z:Str):Option (Int×Int):=ms.foldl (fun acc n=>match E5 (z0y rows n) z with|some v=>some (n,v)|none=>acc) none
theorem z6B(ms:List Int)(n:Int)(rows:List Row)(z:Str):z0W (ms++[n]) rows z=match E5 (z0y rows n) z with|some v=>some (n,v)|none=>z0W ms rows z:=by
 unfold z0W
 rw[fR]
 rfl
def z9K:Option (Int×Int)->DV
 | some (n,v)=>.tup [.int n,.int v]
 | none=>.tup [.int 0,.non]
def z1A(o:Option (Int×Int)):Int:=(o.map Prod.fst).getD 0
def y5H:Option (Int×Int)->DV
 | some (_,v)=>.int v
 | none=>.non
theorem z3S{H:Hp}{o:Option (Int×Int)}{v:V}(h:A5 H (z9K o) v):∃(a:Addr) (y:V),v=.ref a/\H a=some (.tup [.int (z1A o),y])/\A5 H (y5H o) y:=by
 cases o with
 | none=>
  obtain⟨a,xs,rfl,ha,_,ta⟩:=z0g (show A5 H (.tup [.int 0,.non]) v from h)
  obtain⟨y1,r1,rfl,t1,h3⟩:=z0d ta
  obtain⟨y2,r2,rfl,t2,h4⟩:=z0d h3
  have:=z0E h4
  subst this
  rw[z19 t1] at ha
  exact⟨a,y2,rfl,ha,t2⟩
 | some p=>
  obtain⟨n,x⟩:=p
  obtain⟨a,xs,rfl,ha,_,ta⟩:=z0g (show A5 H (.tup [.int n,.int x]) v from h)
  obtain⟨y1,r1,rfl,t1,h3⟩:=z0d ta
  obtain⟨y2,r2,rfl,t2,h4⟩:=z0d h3
  have:=z0E h4
  subst this
  rw[z19 t1] at ha
  exact⟨a,y2,rfl,ha,t2⟩
def y0E(K:PySem.W.Frag):Sp:=fun vs H Q _=>∃(p lr:Addr) (ns:List Int) (us:List V) (rows:List Row) (z:Str),vs=[.ref p,.ref lr,.str z]/\SqL K H p (ns.map V.int)/\ns.length<64/\ns.Nodup/\(∀x∈ns,1≤x/\x≤60)/\(∀x∈ns,x≤rows.length)/\
 SqL K H lr us/\z08 H (rows.map N1) us/\∀(v:V) (H':Hp),A3 H H'->A5 H' (z9K (z0W (z0c ns) rows z)) v->Q v H'
theorem y5x(M:Bl mg)(F:Fun K "_law_held" "_law_held" z6q f fd):A7 P w K mg base CX0 1 f fd z4O (y0E K):=by
 have nd:=z7z.nd
 refine F.ok z7z (fun vs H Q E h=>?_) (fun cdv A outer s H vs Q E hr h=>?_)
 ·obtain⟨p,lr,ns,us,rows,z,rfl,_⟩:=h
  rfl
 obtain⟨p,lr,ns,us,rows,z,rfl,hP,h64,nds,B3,hup,hR,tl,q⟩:=h
 refine⟨_,(z04 (z0p (i:=3) nd rfl (Or.inl rfl) (z0Q (z00 z06 (z00 z8P z02)))) (z04 (z0P bQ rfl (z1w (z0b z8s rfl M.sorted fI (z00 (pv 0) z02))) (z0j (i:=4) nd rfl (Or.inl rfl)) (z05 (z0P bQ rfl (z23 (z0z z0V (pv 1) (z0t z31 (pv 4) z06) (fun _ _=>rfl))) (z0j (i:=5) nd rfl (Or.inl rfl)) (z05 (z0D (z0a z2L (z0z z0A (pv 5) z06 (fun _ _=>rfl)) (pv 2) (z0m _)) (z05 (z0p (i:=3) nd rfl (Or.inl rfl) (z0Q (z00 (pv 4) (z00 (z0z z0A (pv 5) z06 (fun _ _=>rfl)) z02))))) z0l))))) (z05 (z0f (pv 3))))),?_⟩
 refine⟨(by show 2≤sizeLine;decide),fun t0 ht0=>?_⟩
 have s1:=z01 ht0 (.tup [V.int 0,V.non])
 have e1:upd H t0 (.tup [V.int 0,V.non]) t0=some (.tup [V.int 0,V.non]):=z03
 generalize upd H t0 (.tup [V.int 0,V.non])=H1 at s1 e1
 refine⟨_,rfl,p,ns,rfl,s1.seq hP,h64,fun ls ms nls hp hs=>?_⟩
 have er:=y0N nds B3 hp hs
 have s2:=s1.trans (z01 nls (.lst (ms.map V.int)))
 have e2:=z01 nls (.lst (ms.map V.int)) _ _ e1
 have els:upd H1 ls (.lst (ms.map V.int)) ls=some (.lst (ms.map V.int)):=z03
 generalize upd H1 ls (.lst (ms.map V.int))=H2 at s2 e2 els
 refine⟨ls,rfl,⟨_,SqL.of els⟩,z1Y (K:=K) (a:=ls) (xs:=ms.map V.int) (fun i σ H'=>∃(hv:V) (o1 o2:Option V),A3 H2 H'/\A5 H' (z9K (z0W (ms.take i) rows z)) hv/\σ=[some (.ref p),some (.ref lr),some (.str z),some hv,o1,o2])
  ⟨.ref t0,none,none,A3.refl _,z0r e2 (by show 2≤1000000;decide) (.cons (z0H 0) (.cons z7u .nil)),rfl⟩ (fun i σ H' _ ⟨_,_,_,g,_⟩=>SqL.of (g _ _ els)) ?_ ?_⟩
 ·rintro i x σ H' hi ⟨hv,o1,o2,g,th,rfl⟩
  obtain⟨n,hn,rfl⟩:∃n,ms[i]? = some n/\x=V.int n:=by
   rw[bB] at hi
   cases e:ms[i]? with
   | none=>rw[e] at hi;cases hi
   | some n=>rw[e] at hi;exact⟨n,rfl,(Option.some.inj hi).symm⟩
  have nin:n∈ns:=hp.mem_iff.mp (bO hn)
  have hn1:=B3 n nin
  have hn2:=hup n nin
  obtain⟨v,_,av,tv⟩:=z5X (z08.keep (s2.trans g) _ _ tl) (k:=n) hn1.1 hn2
  obtain⟨ar,xs,rfl,er',_,tp⟩:=z0g tv
  have lw:xs.length=(z0y rows n).length:=by rw[tp.length,b7]
  refine⟨_,rfl,_,rfl,_,_,rfl,rfl,lr,us,_,_,rfl,rfl,(s2.trans g).seq hR,av,ar,rfl,⟨_,SqT.of er'⟩,?_⟩
  refine z4A (K:=K) (a:=ar) (xs:=xs) (fun j σ H2'=>∃(hv:V) (o2:Option V),A3 H' H2'/\A5 H2' (z9K (match E5 ((z0y rows n).take j) z with|some v=>some (n,v)|none=>z0W (ms.take i) rows z)) hv/\
    σ=[some (.ref p),some (.ref lr),some (.str z),some hv,some (.int n),o2]) ⟨hv,o2,A3.refl _,th,rfl⟩ (fun j σ H2' _ ⟨_,_,g2,_⟩=>SqT.of (g2 _ _ er')) ?_ ?_
  ·rintro j y σ H2' hy ⟨hv2,o3,g2,th2,rfl⟩
   obtain⟨pq,b,e1',rfl,e2'⟩:=z32 tp j y hy
   have sb:SqT K H2' b [V.str pq.1,V.int pq.2]:=SqT.of (g2 _ _ e2')
   refine⟨_,rfl,b,_,0,_,rfl,rfl,sb,rfl,_,rfl,rfl,_,rfl,?_⟩
   have tk:(z0y rows n).take (j+1)=(z0y rows n).take j++[pq]:=z0n e1'
   refine B0 (fun c=>?_) (fun c=>?_)
   ·have c':pq.1=z:=by
     have:=z0F c
     injection this
    refine⟨_,rfl,_,rfl,b,_,1,_,rfl,rfl,sb,rfl,(by show 2≤sizeLine;decide),fun t ht=>?_⟩
    refine⟨.ref t,_,g2.trans (z01 ht _),?_,rfl⟩
    rw[tk,y0C,if_pos c']
    exact z0r z03 (by show 2≤1000000;decide) (.cons (z0H _) (.cons (z0H _) .nil))
   ·have c':¬pq.1=z:=fun e=>z49 c (by rw[e])
    refine⟨hv2,_,g2,?_,rfl⟩
    rw[tk,y0C,if_neg c']
    exact th2
  ·rintro σ H2' ⟨hv2,o3,g2,th2,rfl⟩
   rw[lw,bT] at th2
   refine⟨hv2,_,_,g.trans g2,?_,rfl⟩
   rw[z0n hn,z6B]
   exact th2
 ·rintro σ H' ⟨hv,o1,o2,g,th,rfl⟩
  rw[b7,bT,er] at th
  exact⟨_,rfl,q hv H' (s2.trans g) th⟩
def y2J(K:PySem.W.Frag):Sp:=fun vs H Q _=>∃(p lr:Addr) (ns:List Int) (us:List V) (rows:List Row) (r:Int),vs=[.ref p,.ref lr,.int r]/\H p=some (.lst (ns.map V.int))/\(∀x∈ns,1≤x/\x≤60)/\ns.length≤900/\(∀x∈ns,x≤rows.length)/\
 SqL K H lr us/\z08 H (rows.map N1) us/\(∀w∈rows,w.length≤12)/\0≤r/\∀(l:Addr) (zs:List V) (H':Hp),H l=none->A3 H H'->H' l=some (.lst zs)->z08 H' (z39 ns rows r) zs->Q (.ref l) H'
theorem y6A(M:Bl mg)(F:Fun K "_law_gaps" "_law_gaps" z6j f fd)(C2:Cal P w K mg base 1 "_law_teller" z2A (z63 K)):A7 P w K mg base CX0 2 f fd z4R (y2J K):=by
 have nd:=z7U.nd
 refine F.ok z7U (fun vs H Q E h=>?_) (fun cdv A outer s H vs Q E hr h=>?_)
 ·obtain⟨p,lr,ns,us,rows,r,rfl,_⟩:=h
  rfl
 obtain⟨p,lr,ns,us,rows,r,rfl,hP,B3,hlen,hup,hR,tl,h12,r0,q⟩:=h
 refine⟨_,(z04 (z0p (i:=3) nd rfl (Or.inl rfl) (z1i z02)) (z04 (z0P bQ rfl (z4G rfl M.range (z00 z06 (z00 (z0b (z3E rfl) rfl M.max dI (z00 (z0t z94 (pv 0) (z1i (z00 z06 z02))) z02)) z02))) (z0j (i:=4) nd rfl (Or.inl rfl)) (z04 (z0p (i:=5) nd rfl (Or.inl rfl) (z0i C2 (rm hr) rfl (z00 (pv 0) (z00 (pv 4) (z00 (pv 2) z02))))) (z04 (z0D (PW.pt (z3c (z0a z1q (pv 4) (pv 0) (by with_unfolding_all rfl)) (z2j (z0a z2L (pv 5) z06 (z0m _))))) (z05 (z0C (z2N bR bV bX z0L (pv 3) (z00 (z0Q (z00 (pv 4) (z00 z06 (z00 (z0Q z02) z02)))) z02)))) z0l) (z05 (z0D (PW.pt (z3c (z0a z1q (pv 4) (pv 0) (by with_unfolding_all rfl)) (z2j (z0a z2k (pv 5) z06 (z0m _))))) (z05 (z0C (z2N bR bV bX z0L (pv 3) (z00 (z0Q (z00 (pv 4) (z00 (pv 5) (z00 (z0u z0o rfl M.tuple bI (z00 (z1e ["_law_row_here"] [] [] rfl (z0v rfl (by decide +kernel) rfl (by decide +kernel) rfl rfl) (z23 (z0z z0V (pv 1) (z0t z31 (pv 4) z06) (fun _ _=>rfl))) (fun _ _ _ _ _=>(z0j (i:=0) (show((["_law_row_here"]:List PySem.Str)++([]:List PySem.Str)).Nodup from by decide +kernel) rfl (Or.inl rfl))) (z0w (by decide)) z0h (fun _ _ _ _ _=>z2g) (fun _ _ _ _ _=>(z0z (r:=P4 K) z0A (pv 0) z06 (fun _ _=>rfl)))) z02)) z02)))) z02)))) z0l))))) (z05 (z0f (pv 3))))),?_⟩
 refine⟨(by show 0≤sizeLine;decide),fun lg hlg=>?_⟩
 have s1:=z01 hlg (.lst [])
 refine⟨_,rfl,(by show 1≤sizeLine;decide),fun l0 hl0=>⟨p,l0,_,_,rfl,rfl,z01 hl0 _ _ _ (s1 _ _ hP),z03,?_,fun lc hlc=>?_⟩⟩
 ·rw[b7]
  exact dQ (z0e (by show ns.length+1≤1000;omega))
 have s2:=s1.trans ((z01 hl0 (.lst [V.int 0])).trans (z01 hlc (.lst (ns.map V.int++[V.int 0]))))
 have eg:upd (upd (upd H lg (.lst [])) l0 (.lst [V.int 0])) lc (.lst (ns.map V.int++[V.int 0])) lg=some (.lst []):=(z01 hl0 _).trans (z01 hlc _) _ _ z03
 have ec:upd (upd (upd H lg (.lst [])) l0 (.lst [V.int 0])) lc (.lst (ns.map V.int++[V.int 0])) lc=some (.lst ((ns++[0]).map V.int)):=by
  rw[z03,bD]
  rfl
 generalize upd (upd (upd H lg (.lst [])) l0 (.lst [V.int 0])) lc (.lst (ns.map V.int++[V.int 0]))=H2 at s2 eg ec
 refine⟨lc,ns++[0],rfl,.inl (SqL.of ec),by simp,fun m hm top=>?_⟩
 have hm':m∈ns\/(ns=[]/\m=0):=by
  rcases bN.mp hm with h|h
  ·exact .inl h
  ·rw[b8] at h
   subst h
   cases ns with
   | nil=>exact .inr ⟨rfl,rfl⟩
   | cons x xs=>
    have h1:=top x (by simp)
    have h2:=B3 x bU
    omega
 have m60:0≤m/\m≤60:=by
  rcases hm' with h|⟨_,h⟩
  ·have:=B3 m h
   omega
  ·omega
 have w07:∀y∈ns,y≤m:=fun y hy=>top y (cR _ hy)
 refine⟨1,m,rfl,⟨by decide,by decide,by omega,by omega⟩,?_⟩
 refine z0U (lo:=1) (n:=(m-1).toNat) (fun i σ H'=>∃(zs:List V) (o1 o2:Option V),(∀b u,H b=some u->H' b=some u)/\H' lg=some (.lst zs)/\z08 H' (((upI 1 i).filter fun x=>!decide (x∈ns)).map (P9 ns rows r)) zs/\
   σ=[some (.ref p),some (.ref lr),some (.int r),some (.ref lg),o1,o2]) ⟨[],none,none,s2,eg,.nil,rfl⟩ (fun i σ H' hi hp=>?_) (fun σ H' hp=>?_)
 ·obtain⟨zs,o1,o2,g,eG,tG,rfl⟩:=hp
  have g':A3 H H':=g
  have hn:(1:Int)+(i:Int)≤rows.length:=by
   rcases hm' with h|⟨_,h⟩
   ·have:=hup m h
    omega
   ·omega
  have lz:zs.length≤i:=by
   rw[tG.length,b7]
   have:=cJ (fun x=>!decide (x∈ns)) (upI 1 i)
   rw[z0M] at this
   exact this
  refine⟨_,rfl,_,rfl,_,rfl,p,ns,1+(i:Int),r,rfl,SqL.of (g _ _ hP),B3,hlen,r0,fun H3 s3=>?_⟩
  have t0:=z73 (ns:=ns) (n:=1+(i:Int)) (r:=r)
  have g3:A3 H H3:=g'.trans s3
  have eG3:=s3 _ _ eG
  have tG3:=z08.keep s3 _ _ tG
  refine⟨_,rfl,_,rfl,p,_,rfl,.inl (SqL.of (g3 _ _ hP)),rfl,z1X ns,_,rfl,?_⟩
  rw[if_pos rfl,z2y]
  by_cases hin:(1:Int)+(i:Int)∈ns
  ·rw[decide_eq_true hin]
   refine B1 (B1 ?_)
   refine⟨_,rfl,_,rfl,p,_,rfl,.inl (SqL.of (g3 _ _ hP)),rfl,z1X ns,_,rfl,?_⟩
   rw[if_pos rfl,z2y,decide_eq_true hin]
   refine B1 (B1 ⟨zs,_,_,g3,eG3,?_,rfl⟩)
   rw[z5U,if_pos hin,cY]
   exact tG3
  ·rw[decide_eq_false hin]
   refine F4 ⟨_,rfl,rfl,_,rfl,?_⟩
   refine B0 (fun c=>?_) (fun c=>?_)
   ·have c0:z0G ns (1+(i:Int)) r=0:=by
     have:=z0F c
     injection this
    refine⟨_,rfl,.inl ⟨rfl,_,SqL.of eG3⟩,_,rfl,(by show 0≤sizeLine;decide),fun t0 ht0=>⟨(by show 3≤sizeLine;decide),fun t ht=>?_⟩⟩
    have s4:=(z01 ht0 (.tup [])).trans (z01 ht (.tup [V.int (1+(i:Int)),V.int 0,V.ref t0]))
    have et:upd (upd H3 t0 (.tup [])) t (.tup [V.int (1+(i:Int)),V.int 0,V.ref t0]) t=some (.tup [V.int (1+(i:Int)),V.int 0,V.ref t0]):=z03
    have et0:upd (upd H3 t0 (.tup [])) t (.tup [V.int (1+(i:Int)),V.int 0,V.ref t0]) t0=some (.tup []):=z01 ht _ _ _ z03
    generalize upd (upd H3 t0 (.tup [])) t (.tup [V.int (1+(i:Int)),V.int 0,V.ref t0])=H4 at s4 et et0
    refine⟨lg,_,_,rfl,rfl,s4 _ _ eG3,z0e (by omega),?_⟩
    have g5:∀b u,H b=some u->upd H4 lg (.lst (zs++[V.ref t])) b=some u:=fun b u e=>by
     rw[z0k (z0q e hlg)]
     exact s4 _ _ (g3 _ _ e)
    have tg:A5 H4 (P9 ns rows r (1+(i:Int))) (.ref t):=by
     unfold P9
     rw[if_pos c0,c0]
     exact z0r et (by show 3≤1000000;decide) (.cons (z0H _) (.cons (z0H _) (.cons (z0r et0 (by show 0≤1000000;decide) .nil) .nil)))
    have t5:z08 (upd H4 lg (.lst (zs++[V.ref t]))) (((upI 1 (i+1)).filter fun x=>!decide (x∈ns)).map (P9 ns rows r)) (zs++[V.ref t]):=by
     rw[z5U,if_neg hin,bD]
     exact z08.over (s4 _ _ eG3) (fun _ e=>by cases e) _ _ (z08.snoc (z08.keep s4 _ _ tG3) tg)
    refine⟨_,rfl,_,rfl,p,_,rfl,.inl (SqL.of (g5 _ _ hP)),rfl,z1X ns,_,rfl,?_⟩
    rw[if_pos rfl,z2y,decide_eq_false hin]
    refine F4 ⟨_,rfl,_,_,rfl,rfl,_,rfl,?_⟩
    rw[c0]
    exact B1 ⟨_,_,_,g5,z03,t5,rfl⟩
   ·have c0:z0G ns (1+(i:Int)) r≠0:=fun e=>z49 c (by rw[e])
    refine⟨_,rfl,_,rfl,p,_,rfl,.inl (SqL.of (g3 _ _ hP)),rfl,z1X ns,_,rfl,?_⟩
    rw[if_pos rfl,z2y,decide_eq_false hin]
    refine F4 ⟨_,rfl,_,_,rfl,rfl,_,rfl,?_⟩
    rw[decide_eq_true (show(0:Int)<z0G ns (1+(i:Int)) r by omega)]
    refine F4 ?_
    obtain⟨v,_,av,tv⟩:=z5X (z08.keep g3 _ _ tl) (k:=1+(i:Int)) (by omega) hn
    obtain⟨ar,xs,rfl,er,_,tp⟩:=z0g tv
    have lw:xs.length=(z0y rows (1+(i:Int))).length:=by rw[tp.length,b7]
    have w12:=z8c h12 (1+(i:Int))
    refine⟨_,rfl,.inl ⟨rfl,_,SqL.of eG3⟩,_,rfl,_,rfl,_,rfl,_,rfl,_,_,rfl,rfl,lr,us,_,_,rfl,rfl,g3.seq hR,av,ar,rfl,⟨_,SqT.of er⟩,?_⟩
    refine z1J (xs:=xs) (fun j ys H2=>H2=H3/\ys=((z0S (z0y rows (1+(i:Int)))).take j).map V.str) ⟨rfl,rfl⟩ (fun j ys H2 hj hp=>?_) (fun j y ys H2 hy hp=>?_) (fun ys H2 hp=>?_)
    ·obtain⟨rfl,rfl⟩:=hp
     refine⟨SqT.of er,z0e ?_⟩
     rw[b7,bH]
     omega
    ·obtain⟨rfl,rfl⟩:=hp
     obtain⟨pq,b,e1,rfl,e2⟩:=z32 tp j y hy
     refine⟨_,rfl,b,_,0,_,rfl,rfl,SqT.of e2,rfl,rfl,?_⟩
     have e3:(z0S (z0y rows (1+(i:Int))))[j]? = some pq.1:=by
      unfold z0S
      rw[bB,e1]
      rfl
     rw[z0n e3,bD]
     rfl
    obtain⟨rfl,rfl⟩:=hp
    have ll:(z0S (z0y rows (1+(i:Int)))).take xs.length=z0S (z0y rows (1+(i:Int))):=cL (by unfold z0S;rw[b7];omega)
    rw[ll]
    intro D hD
    refine⟨D,_,rfl,.inl ⟨SqL.of z03,fun t0 ht0=>⟨(by show 3≤sizeLine;decide),fun t ht=>?_⟩⟩⟩
    generalize hN:(z0S (z0y rows (1+(i:Int)))).map V.str=nv at hD ht0 ht
    have s4:=(z01 hD (.lst nv)).trans ((z01 ht0 (.tup nv)).trans (z01 ht (.tup [V.int (1+(i:Int)),V.int (z0G ns (1+(i:Int)) r),V.ref t0])))
    have et:upd (upd (upd H2 D (.lst nv)) t0 (.tup nv)) t (.tup [V.int (1+(i:Int)),V.int (z0G ns (1+(i:Int)) r),V.ref t0]) t=some (.tup [V.int (1+(i:Int)),V.int (z0G ns (1+(i:Int)) r),V.ref t0]):=z03
    have et0:upd (upd (upd H2 D (.lst nv)) t0 (.tup nv)) t (.tup [V.int (1+(i:Int)),V.int (z0G ns (1+(i:Int)) r),V.ref t0]) t0=some (.tup nv):=z01 ht _ _ _ z03
    generalize upd (upd (upd H2 D (.lst nv)) t0 (.tup nv)) t (.tup [V.int (1+(i:Int)),V.int (z0G ns (1+(i:Int)) r),V.ref t0])=H4 at s4 et et0
    refine⟨lg,_,_,rfl,rfl,s4 _ _ eG3,z0e (by omega),?_⟩
    have g5:∀b u,H b=some u->upd H4 lg (.lst (zs++[V.ref t])) b=some u:=fun b u e=>by
     rw[z0k (z0q e hlg)]
     exact s4 _ _ (g3 _ _ e)
    have tg:A5 H4 (P9 ns rows r (1+(i:Int))) (.ref t):=by
     unfold P9
     rw[if_neg c0]
     refine z0r et (by show 3≤1000000;decide) (.cons (z0H _) (.cons (z0H _) (.cons (z0r et0 ?_ ?_) .nil)))
     ·rw[b7]
      unfold z0S
      rw[b7]
      omega
     ·rw[<- hN]
      exact z2v _
    refine⟨_,_,_,g5,z03,?_,rfl⟩
    rw[z5U,if_neg hin,bD]
    exact z08.over (s4 _ _ eG3) (fun _ e=>by cases e) _ _ (z08.snoc (z08.keep s4 _ _ tG3) tg)
 ·obtain⟨zs,o1,o2,g,eG,tG,rfl⟩:=hp
  rw[y0i hm' B3 w07] at tG
  exact⟨_,rfl,q lg zs H' hlg g eG tG⟩
theorem z9f(x:Str)(ns:List Str):inV (.str x) (ns.map V.str)=decide (x∈ns):=by
 unfold inV
 rw[d7,gS,j0,decide_eq_true_eq]
 constructor
 ·rintro⟨y,hy,e⟩
  have:y=x:=by simpa [eqV] using e
  exact this ▸ hy
 ·intro h
  exact⟨x,h,by simp[eqV]⟩
def z2m(ns:List Int)(rows:List Row)(r n:Int):List Str:=if z0G ns n r=0 then [] else z0S (z0y rows n)
theorem y3K(ns:List Int)(rows:List Row)(r n:Int):P9 ns rows r n=.tup [.int n,.int (z0G ns n r),K4 (z2m ns rows r n)]:=by
 unfold P9 z2m
 by_cases h:z0G ns n r=0
 ·rw[if_pos h,if_pos h]
  rfl
 ·rw[if_neg h,if_neg h]
def z4H(ns:List Int)(rows:List Row)(r num:Int)(z:Str):List Int:=(z16 ns).filter fun n=>decide (num<n) && decide (z∈z2m ns rows r n)
def y1Q(ns:List Int)(rows:List Row)(r num:Int)(z:Str):DV:=.tup ((z4H ns rows r num z).map fun n=>.tup [.int n,.int (z0G ns n r)])
theorem z8Q(ns:List Int)(rows:List Row)(r num:Int)(z:Str):(z4H ns rows r num z).length≤60:=cM (cJ _ _) (z2e ns)
theorem z6e{H:Hp}{ns:List Int}{rows:List Row}{r:Int}{zs:List V}(h:z08 H (z39 ns rows r) zs){i:Nat}{x:V}(e:zs[i]? = some x) :
  ∃(n:Int) (a b:Addr),(z16 ns)[i]? = some n/\x=.ref a/\H a=some (.tup [.int n,.int (z0G ns n r),.ref b])/\H b=some (.tup ((z2m ns rows r n).map V.str)):=by
 obtain⟨d,e1,t⟩:=h.at i x e
 unfold z39 at e1
 rw[bB] at e1
 cases er:(z16 ns)[i]? with
 | none=>rw[er] at e1;cases e1
 | some n=>
  rw[er] at e1
  have e2:P9 ns rows r n=d:=Option.some.inj e1
  rw[y3K] at e2
  subst e2
  obtain⟨a,ys,rfl,h1,_,h2⟩:=z0g t
  obtain⟨y1,r1,rfl,t1,h3⟩:=z0d h2
  obtain⟨y2,r2,rfl,t2,h4⟩:=z0d h3
  obtain⟨y3,r3,rfl,t3,h5⟩:=z0d h4
  have:=z0E h5
  subst this
  obtain⟨b,ws,rfl,hb,_,tb⟩:=z0g t3
  rw[z19 t1,z19 t2] at h1
  rw[z1b tb] at hb
  exact⟨n,a,b,rfl,rfl,h1,hb⟩
theorem z8p{H:Hp}{ns:List Int}{rows:List Row}{r:Int}{zs:List V}(h:z08 H (z39 ns rows r) zs):zs.length=(z16 ns).length:=by
 rw[h.length]
 unfold z39
 rw[b7]
def y0V(K:PySem.W.Frag):Sp:=fun vs H Q _=>∃(lg:Addr) (zs:List V) (ns:List Int) (rows:List Row) (r num:Int) (z:Str),vs=[.ref lg,.int num,.str z]/\SqL K H lg zs/\z08 H (z39 ns rows r) zs/\
 ∀(v:V) (H':Hp),A3 H H'->A5 H' (y1Q ns rows r num z) v->Q v H'
theorem y4I(M:Bl mg)(F:Fun K "_law_again" "_law_again" z5o f fd):A7 P w K mg base CX0 1 f fd z3Q (y0V K):=by
 have nd:=z78.nd
 refine F.ok z78 (fun vs H Q E h=>?_) (fun cdv A outer s H vs Q E hr h=>?_)
 ·obtain⟨lg,zs,ns,rows,r,num,z,rfl,_⟩:=h
  rfl
 obtain⟨lg,zs,ns,rows,r,num,z,rfl,hG,tG,q⟩:=h
 refine⟨_,(z05 (z0f (z0u z0o rfl M.tuple bI (z00 (z1e ["_law_gap"] ["_law_number","_law_name"] [1,2] rfl (z0v rfl (by decide +kernel) rfl (by decide +kernel) rfl rfl) (z1w (pv 0)) (fun _ _ _ _ _=>(z0j (i:=0) (show((["_law_gap"]:List PySem.Str)++(["_law_number","_law_name"]:List PySem.Str)).Nodup from by decide +kernel) rfl (Or.inl rfl))) (z0w (by decide)) z0h (fun _ _ _ _ _=>(z2d (PW.pt (z3c (z0a z2k (z0z (r:=P4 K) z0A (pv 0) z06 (fun _ _=>rfl)) (pv 1) (z0m _)) (z2j (z0a (r:=rIn K false) z4p (pv 2) (z0z (r:=P4 K) z0A (pv 0) z06 (fun _ _=>rfl)) (by with_unfolding_all rfl))))))) (fun _ _ _ _ _=>(z0Q (z00 (z0z (r:=P4 K) z0A (pv 0) z06 (fun _ _=>rfl)) (z00 (z0z (r:=P4 K) z0A (pv 0) z06 (fun _ _=>rfl)) z02))))) z02)))),?_⟩
 have lz:=z8p tG
 have l60:=z2e ns
 refine⟨_,rfl,lg,rfl,⟨_,hG⟩,?_⟩
 refine z3D (xs:=zs) (fun i ys H'=>A3 H H'/\z08 H' ((((z16 ns).take i).filter fun n=>decide (num<n) && decide (z∈z2m ns rows r n)).map fun n=>.tup [.int n,.int (z0G ns n r)]) ys) ⟨A3.refl _,by rw[cS];exact .nil⟩
  (fun i ys H' hi hp=>?_) (fun i x ys H' hx hp=>?_) (fun ys H' hp=>?_)
 ·obtain⟨g,t⟩:=hp
  refine⟨g.seq hG,z0e ?_⟩
  have:=cJ (fun n=>decide (num<n) && decide (z∈z2m ns rows r n)) ((z16 ns).take i)
  rw[bH] at this
  rw[t.length,b7]
  omega
 ·obtain⟨g,t⟩:=hp
  obtain⟨n,a,b,en,rfl,ha,hb⟩:=z6e tG hx
  have sa:SqT K H' a [V.int n,V.int (z0G ns n r),V.ref b]:=SqT.of (g _ _ ha)
  have tks:=z0n en
  refine⟨_,rfl,a,_,0,_,rfl,rfl,sa,rfl,_,rfl,_,_,rfl,rfl,_,rfl,?_⟩
  rw[tks,dW,eM]
  refine B0 (fun c=>?_) (fun c=>?_)
  ·refine⟨_,rfl,_,rfl,a,_,2,_,rfl,rfl,sa,rfl,b,_,rfl,.inr (SqT.of (g _ _ hb)),rfl,z1E _,_,rfl,?_⟩
   rw[if_neg bJ,z9f,c,fN]
   refine B0 (fun c2=>?_) (fun c2=>?_)
   ·rw[if_pos c2,bD]
    refine⟨_,rfl,a,_,0,_,rfl,rfl,sa,rfl,_,rfl,a,_,1,_,rfl,rfl,sa,rfl,(by show 2≤sizeLine;decide),fun u hu=>⟨g.trans (z01 hu _),?_⟩⟩
    exact z08.snoc (z08.keep (z01 hu _) _ _ t) (z0r z03 (by show 2≤1000000;decide) (.cons (z0H _) (.cons (z0H _) .nil)))
   ·rw[if_neg c2,fO,cY]
    exact⟨g,t⟩
  ·rw[fT.mpr c,fU]
   refine B1 ?_
   rw[if_neg bJ,fO,cY]
   exact⟨g,t⟩
 ·obtain⟨g,t⟩:=hp
  rw[lz,bT] at t
  intro D hD
  refine⟨D,_,rfl,.inl ⟨SqL.of z03,fun l hl=>?_⟩⟩
  have s2:=(z01 hD (.lst ys)).trans (z01 hl (.tup ys))
  refine q _ _ (g.trans s2) (z0r z03 ?_ (z08.keep s2 _ _ t))
  have:=z8Q ns rows r num z
  rw[b7]
  omega
def z44(ns:List Int)(r num:Int):List Int:=(z16 ns).filter fun n=>decide (num<n) && decide (z0G ns n r=0)
def z0Y(ns:List Int)(rows:List Row)(r num:Int)(z:Str):Str:=if 0<(z4H ns rows r num z).length then "stale" else if z44 ns r num=[] then "sure" else "open"
def z9L(K:PySem.W.Frag):Sp:=fun vs H Q _=>∃(lg:Addr) (zs:List V) (ns:List Int) (rows:List Row) (r num:Int) (z:Str),vs=[.ref lg,.int num,.str z]/\SqL K H lg zs/\z08 H (z39 ns rows r) zs/\
 ∀H',A3 H H'->Q (.str (z0Y ns rows r num z)) H'
theorem y4i(M:Bl mg)(F:Fun K "_law_state" "_law_state" z5L f fd)(E4:Cal P w K mg base 1 "_law_again" z3Q (y0V K)):A7 P w K mg base CX0 2 f fd z37 (z9L K):=by
 have nd:=z6W.nd
 refine F.ok z6W (fun vs H Q E h=>?_) (fun cdv A outer s H vs Q E hr h=>?_)
 ·obtain⟨lg,zs,ns,rows,r,num,z,rfl,_⟩:=h
  rfl
 obtain⟨lg,zs,ns,rows,r,num,z,rfl,hG,tG,q⟩:=h
 refine⟨_,(z04 (z0D (z0a z2k (z0b z09 rfl M.len bK (z00 (z0i E4 (rm hr) rfl (z00 (pv 0) (z00 (pv 1) (z00 (pv 2) z02)))) z02)) z06 (z0m _)) (z05 (z0f z58)) z0l) (z04 (z0D (z0a (y7g hr.Q6) (z1e ["_law_gap"] ["_law_number"] [1] rfl (z0v rfl (by decide +kernel) rfl (by decide +kernel) rfl rfl) (z1w (pv 0)) (fun _ _ _ _ _=>(z0j (i:=0) (show((["_law_gap"]:List PySem.Str)++(["_law_number"]:List PySem.Str)).Nodup from by decide +kernel) rfl (Or.inl rfl))) (z0w (by decide)) z0h (fun _ _ _ _ _=>(z2d (PW.pt (z3c (z0a z2k (z0z (r:=P4 K) z0A (pv 0) z06 (fun _ _=>rfl)) (pv 1) (z0m _)) (z2j (z0a z2L (z0z (r:=P4 K) z0A (pv 0) z06 (fun _ _=>rfl)) z06 (z0m _))))))) (fun _ _ _ _ _=>(z0z (r:=P4 K) z0A (pv 0) z06 (fun _ _=>rfl)))) (z1i z02) (z0m _)) (z05 (z0f z58)) z0l) (z05 (z0f z58)))),?_⟩
 have lz:=z8p tG
 have l60:=z2e ns
 refine⟨_,rfl,_,rfl,_,rfl,lg,zs,ns,rows,r,num,z,rfl,hG,tG,fun v H1 s1 t1=>?_⟩
 obtain⟨a,xs,rfl,ha,_,ta⟩:=z0g t1
 have lx:xs.length=(z4H ns rows r num z).length:=by rw[ta.length,b7]
 refine⟨a,xs,rfl,.inr (SqT.of ha),_,_,rfl,rfl,_,rfl,?_⟩
 rw[lx]
 refine B0 (fun c=>?_) (fun c=>?_)
 ·have c':(0:Int)<((z4H ns rows r num z).length:Int):=z0F c
  have e:z0Y ns rows r num z="stale":=by
   unfold z0Y
   rw[if_pos (by omega)]
  exact(by rw[<- e];exact q _ s1)
 have c':¬(0:Int)<((z4H ns rows r num z).length:Int):=z49 c
 have nx:¬0<(z4H ns rows r num z).length:=by omega
 refine⟨_,rfl,lg,rfl,⟨_,s1.seq hG⟩,?_⟩
 refine z3D (xs:=zs) (fun i ys H'=>H'=H1/\ys=(((z16 ns).take i).filter fun n=>decide (num<n) && decide (z0G ns n r=0)).map V.int) ⟨rfl,rfl⟩ (fun i ys H' hi hp=>?_) (fun i x ys H' hx hp=>?_) (fun ys H' hp=>?_)
 ·obtain⟨rfl,rfl⟩:=hp
  refine⟨s1.seq hG,z0e ?_⟩
  have:=cJ (fun n=>decide (num<n) && decide (z0G ns n r=0)) ((z16 ns).take i)
  rw[bH] at this
  rw[b7]
  omega
 ·obtain⟨rfl,rfl⟩:=hp
  obtain⟨n,a2,b2,en,rfl,ha2,hb2⟩:=z6e (z08.keep s1 _ _ tG) hx
  have sa:SqT K H' a2 [V.int n,V.int (z0G ns n r),V.ref b2]:=SqT.of ha2
  have tks:=z0n en
  refine⟨_,rfl,a2,_,0,_,rfl,rfl,sa,rfl,_,rfl,_,_,rfl,rfl,_,rfl,?_⟩
  rw[tks,dW,eM]
  refine B0 (fun c=>?_) (fun c=>?_)
  ·refine⟨_,rfl,a2,_,1,_,rfl,rfl,sa,rfl,rfl,_,rfl,?_⟩
   rw[c,fN]
   refine B0 (fun c2=>?_) (fun c2=>?_)
   ·have c3:z0G ns n r=0:=by
     have:=z0F c2
     injection this
    rw[decide_eq_true c3,if_pos rfl,bD]
    exact⟨_,rfl,a2,_,0,_,rfl,rfl,sa,rfl,rfl,rfl⟩
   ·have c3:¬z0G ns n r=0:=fun e=>z49 c2 (by rw[e])
    rw[decide_eq_false c3,if_neg bJ,fO,cY]
    exact⟨rfl,rfl⟩
  ·rw[fT.mpr c,fU]
   refine B1 ?_
   rw[if_neg bJ,fO,cY]
   exact⟨rfl,rfl⟩
 ·obtain⟨rfl,rfl⟩:=hp
  rw[lz,bT]
  have ed:((z16 ns).filter fun n=>decide (num<n) && decide (z0G ns n r=0))=z44 ns r num:=rfl
  rw[ed]
  intro D hD
  refine⟨(by show 0≤sizeLine;decide),fun e0 he0=>⟨D,e0,_,rfl,rfl,SqL.of (z01 he0 _ _ _ z03),SqL.of z03,_,rfl,?_⟩⟩
  have s2:=s1.trans ((z01 hD (.lst ((z44 ns r num).map V.int))).trans (z01 he0 (.lst [])))
  cases e:z44 ns r num with
  | nil=>
   rw[e] at s2
   refine B1 ?_
   have es:z0Y ns rows r num z="sure":=by
    unfold z0Y
    rw[if_neg nx,if_pos e]
   exact(by rw[<- es];exact q _ s2)
  | cons y ys=>
   rw[e] at s2
   refine F4 ?_
   have es:z0Y ns rows r num z="open":=by
    unfold z0Y
    rw[if_neg nx,if_neg (by rw[e];simp)]
   exact(by rw[<- es];exact q _ s2)
def W2(ns:List Int)(rows:List Row)(r:Int)(z:Str):DV:=.tup [.str z,.str (z0Y ns rows r (z1A (z0W (z0c ns) rows z)) z),.int (z1A (z0W (z0c ns) rows z)),y5H (z0W (z0c ns) rows z)]
def z6X(nm:List Str)(ns:List Int)(rows:List Row)(r:Int):DV:=.tup (nm.map (W2 ns rows r))
def y3T(K:PySem.W.Frag):Sp:=fun vs H Q _=>∃(ln p lr:Addr) (nm:List Str) (ns:List Int) (us:List V) (rows:List Row) (r:Int),vs=[.ref ln,.ref p,.ref lr,.int r]/\SqL K H ln (nm.map V.str)/\nm.length≤12/\H p=some (.lst (ns.map V.int))/\ns.length<64/\ns.Nodup/\(∀x∈ns,1≤x/\x≤60)/\(∀x∈ns,x≤rows.length)/\
 SqL K H lr us/\z08 H (rows.map N1) us/\(∀w∈rows,w.length≤12)/\0≤r/\∀(v:V) (H':Hp),A3 H H'->A5 H' (z6X nm ns rows r) v->Q v H'
theorem y5s(M:Bl mg)(F:Fun K "_law_table" "_law_table" z5E f fd)(F5:Cal P w K mg base 2 "_law_gaps" z4R (y2J K))(F7:Cal P w K mg base 1 "_law_held" z4O (y0E K))
  (C7:Cal P w K mg base 2 "_law_state" z37 (z9L K)):A7 P w K mg base CX0 3 f fd z5j (y3T K):=by
 have nd:=z7g.nd
 refine F.ok z7g (fun vs H Q E h=>?_) (fun cdv A outer s H vs Q E hr h=>?_)
 ·obtain⟨ln,p,lr,nm,ns,us,rows,r,rfl,_⟩:=h
  rfl
 obtain⟨ln,p,lr,nm,ns,us,rows,r,rfl,hN,n12,hP,h64,nds,B3,hup,hR,tl,h12,r0,q⟩:=h
 refine⟨_,(z04 (z0p (i:=4) nd rfl (Or.inl rfl) (z0i F5 (rm hr) rfl (z00 (pv 1) (z00 (pv 2) (z00 (pv 3) z02))))) (z04 (z0p (i:=5) nd rfl (Or.inl rfl) (z1i z02)) (z04 (z0P bQ rfl (z1w (pv 0)) (z0j (i:=6) nd rfl (Or.inl rfl)) (z04 (z0p (i:=7) nd rfl (Or.inl rfl) (z0i F7 (rm hr) rfl (z00 (pv 1) (z00 (pv 2) (z00 (pv 6) z02))))) (z05 (z0C (z2N bR bV bX z0L (pv 5) (z00 (z0Q (z00 (pv 6) (z00 (z0i C7 (rm hr) rfl (z00 (pv 4) (z00 (z0z z0A (pv 7) z06 (fun _ _=>rfl)) (z00 (pv 6) z02)))) (z00 (z0z z0A (pv 7) z06 (fun _ _=>rfl)) (z00 (z0z z0A (pv 7) z06 (fun _ _=>rfl)) z02))))) z02)))))) (z05 (z0f (z0u z0o rfl M.tuple bI (z00 (pv 5) z02))))))),?_⟩
 refine⟨_,rfl,_,rfl,_,rfl,p,lr,ns,us,rows,r,rfl,hP,B3,by omega,hup,hR,tl,h12,r0,fun lg gz H1 nlg s1 eG tG=>?_⟩
 refine⟨(by show 0≤sizeLine;decide),fun lt hlt=>?_⟩
 refine⟨_,rfl,ln,rfl,⟨_,(s1.trans (z01 hlt _)).seq hN⟩,z1Y (K:=K) (a:=ln) (xs:=nm.map V.str) (fun i σ H'=>∃(ts:List V) (o1 o2:Option V),(∀b u,H1 b=some u->H' b=some u)/\H' lt=some (.lst ts)/\z08 H' ((nm.take i).map (W2 ns rows r)) ts/\
   σ=[some (.ref ln),some (.ref p),some (.ref lr),some (.int r),some (.ref lg),some (.ref lt),o1,o2])
  ⟨[],none,none,z01 hlt _,z03,by rw[cS];exact .nil,rfl⟩ (fun i σ H' _ ⟨_,_,_,g,_⟩=>(s1.trans g).seq hN) ?_ ?_⟩
 ·rintro i x σ H' hi ⟨ts,o1,o2,g,eT,tT,rfl⟩
  have g':A3 H1 H':=g
  obtain⟨z,hz,rfl⟩:∃z,nm[i]? = some z/\x=V.str z:=by
   rw[bB] at hi
   cases e:nm[i]? with
   | none=>rw[e] at hi;cases hi
   | some z=>rw[e] at hi;exact⟨z,rfl,(Option.some.inj hi).symm⟩
  have lts:ts.length≤12:=by
   rw[tT.length,b7,bH]
   omega
  have sg:=s1.trans g'
  refine⟨_,rfl,_,rfl,_,rfl,p,lr,ns,us,rows,z,rfl,SqL.of (sg _ _ hP),h64,nds,B3,hup,sg.seq hR,z08.keep sg _ _ tl,fun hv H3 s3 th=>?_⟩
  obtain⟨ah,y,rfl,eh,ty⟩:=z3S th
  have sah:SqT K H3 ah [V.int (z1A (z0W (z0c ns) rows z)),y]:=SqT.of eh
  refine⟨_,rfl,.inl ⟨rfl,_,SqL.of (s3 _ _ eT)⟩,_,rfl,_,rfl,_,rfl,ah,_,0,_,rfl,rfl,sah,rfl,_,rfl,lg,gz,ns,rows,r,_,z,rfl,SqL.of (s3 _ _ (g _ _ eG)),z08.keep (g'.trans s3) _ _ tG,fun H4 s4=>?_⟩
  have sah4:SqT K H4 ah [V.int (z1A (z0W (z0c ns) rows z)),y]:=SqT.of (s4 _ _ eh)
  refine⟨_,rfl,ah,_,0,_,rfl,rfl,sah4,rfl,_,rfl,ah,_,1,_,rfl,rfl,sah4,rfl,(by show 4≤sizeLine;decide),fun t ht=>?_⟩
  have s34:=s3.trans (s4.trans (z01 ht (.tup [V.str z,V.str (z0Y ns rows r (z1A (z0W (z0c ns) rows z)) z),V.int (z1A (z0W (z0c ns) rows z)),y])))
  refine⟨lt,_,_,rfl,rfl,s34 _ _ eT,z0e (by omega),?_⟩
  refine⟨_,_,_,fun b u e=>?_,z03,?_,rfl⟩
  ·rw[z0k (z0q e hlt)]
   exact s34 _ _ (g b u e)
  ·rw[z0n hz,bD]
   refine z08.over (s34 _ _ eT) (fun _ e=>by cases e) _ _ (z08.snoc (z08.keep s34 _ _ tT) (z0r z03 (by show 4≤1000000;decide) (.cons (z2w _) (.cons (z2w _) (.cons (z0H _) (.cons ?_ .nil))))))
   exact A5.keep (s4.trans (z01 ht _)) _ _ ty
 ·rintro σ H' ⟨ts,o1,o2,g,eT,tT,rfl⟩
  rw[b7,bT] at tT
  refine⟨_,rfl,lt,ts,rfl,.inl ⟨SqL.of eT,fun l hl=>?_⟩⟩
  refine q _ _ (s1.trans (A3.trans g (z01 hl _))) (z0r z03 ?_ (z08.keep (z01 hl _) _ _ tT))
  rw[b7]
  omega
theorem y5a{ds:List DV}{n:Nat}(h:∀d∈ds,d.deep≤n):DV.P6 ds≤n:=by
 induction ds with
 | nil=>unfold DV.P6;exact cV _
 | cons d r ih=>
  unfold DV.P6
  exact Nat.max_le.mpr ⟨h d bU,ih fun x hx=>h x (bS _ hx)⟩
theorem z1L{ds:List DV}{n:Nat}(h:∀d∈ds,d.deep≤n):(DV.tup ds).deep≤n+1:=by
 unfold DV.deep
 exact Nat.succ_le_succ (y5a h)
theorem z28(i:Int)(n:Nat):(DV.int i).deep≤n:=by unfold DV.deep;exact cV _
theorem z9I(i:Str)(n:Nat):(DV.str i).deep≤n:=by unfold DV.deep;exact cV _
theorem y5f(s:List Str):(K4 s).deep≤1:=z1L fun d hd=>by
 obtain⟨x,_,rfl⟩:=cO.mp hd
 exact z9I _ _
theorem z91{rows:List Row}{j:Nat}{k:Int}(h0:1≤k)(h:k≤j):z0y (rows.take j) k=z0y rows k:=by
 unfold z0y
 have hk:(k-1).toNat<j:=by omega
 rw[bL,bL,List.getElem?_take,if_pos hk]
theorem y13{rows:List Row}{j:Nat}{n r:Int}(h0:1≤n)(h:n≤j):z10 (rows.take j) n r=z10 rows n r:=by
 unfold z10 y5z
 rw[z91 h0 h]
 have e:(z6w n r).map (y2r (rows.take j))=(z6w n r).map (y2r rows):=dZ fun k hk=>by
  unfold z6w at hk
  rw[cI,z9M] at hk
  unfold y2r
  rw[z91 (by omega) (by omega)]
 rw[e]
abbrev OfP:=Hp->Addr->List Addr->List Str->Int->List Row->Prop
structure X0(C:Addr)(ms:List Str)(Of:OfP):Prop where
 ins:∀{H p fp zs r rows},Of H p fp zs r rows->∃dx fs,H p=some (.ins C dx fs)/\∀m∈ms,fs.lookup m=none
 own:∀{H p fp zs r rows},Of H p fp zs r rows->∀b∈fp,∃o,H b=some o/\∀xs,o≠.tup xs
 keep:∀{H H' p fp gp zs r rows},Of H p fp zs r rows->z0B gp H H'->(∀b∈gp,b∉fp)->z5G H gp->Of H' p fp zs r rows
theorem X0.same{C:Addr}{ms:List Str}{Of:OfP}(O:X0 C ms Of){H H':Hp}{p:Addr}{fp:List Addr}{zs:List Str}{r:Int}{rows:List Row}(h:Of H p fp zs r rows)(s:A3 H H'):Of H' p fp zs r rows:=
 O.keep (gp:=[]) h (.of s) (fun _ q=>by cases q) fun _ q=>by cases q
theorem X0.Q7{C:Addr}{ms:List Str}{Of:OfP}(O:X0 C ms Of){H:Hp}{p:Addr}{fp:List Addr}{zs:List Str}{r:Int}{rows:List Row}(h:Of H p fp zs r rows):z5G H fp:=fun b m xs e=>by
 obtain⟨o,e1,n⟩:=O.own h b m
 rw[e1] at e
 exact n xs (Option.some.inj e)
def z9b(K:PySem.W.Frag)(H:Hp)(fp:List Addr)(u:V)(p:Str×Int):Prop:=∃a,u=.ref a/\(SqL K H a [.str p.1,.int p.2]\/SqT K H a [.str p.1,.int p.2])/\a∉fp
def y3U(K:PySem.W.Frag)(H:Hp)(fp:List Addr)(v:V)(pr:Row):Prop:=∃a us,v=.ref a/\SqP K H a us/\a∉fp/\Paired (z9b K H fp) us pr
def z1o(zs:List Str)(pr:Row):Row:=zs.filterMap fun z=>pr.find? fun p=>decide (p.1=z)
structure GoodR(zs:List Str)(pr:Row):Prop where
 nd:(pr.map Prod.fst).Nodup
 sub:∀p∈pr,p.1∈zs
 val:∀p∈pr,0≤p.2/\p.2≤1000000
def y1y(K:PySem.W.Frag)(C:Addr)(Of:OfP):Sp:=fun vs H Q _=>∃(x dx pn:Addr) (zs:List Str) (r:Int),vs=[.ref x,.ref pn,.int r]/\H x=some (.ins C dx [])/\dx≠x/\H dx=some (.own x)/\HdN K H pn zs/\D6 zs/\0≤r/\r≤10/\
 ∀(fp:List Addr) (H':Hp),(∀b∈fp,b=x\/b=dx\/H b=none)->z0B [x] H H'->Of H' x fp zs r []->Q .non H'
def y0b(K:PySem.W.Frag)(Of:OfP):Sp:=fun vs H Q _=>∃(p:Addr) (v:V) (fp:List Addr) (zs:List Str) (r:Int) (rows:List Row) (pr:Row),vs=[.ref p,v]/\Of H p fp zs r rows/\y3U K H fp v pr/\GoodR zs pr/\pr.length≤12/\rows.length<60/\
 ∀(fp':List Addr) (H':Hp),(∀b∈fp',b∈fp\/H b=none)->z0B fp H H'->Of H' p fp' zs r (rows++[z1o zs pr])->Q (.int (rows.length+1)) H'
def z8S(Of:OfP):Sp:=fun vs H Q _=>∃(p:Addr) (fp:List Addr) (zs:List Str) (r:Int) (rows:List Row),vs=[.ref p]/\Of H p fp zs r rows/\∀H',A3 H H'->Q (.int rows.length) H'
def z68(Of:OfP):Sp:=fun vs H Q _=>∃(p:Addr) (fp:List Addr) (zs:List Str) (r:Int) (rows:List Row) (n:Int),vs=[.ref p,.int n]/\Of H p fp zs r rows/\1≤n/\n≤rows.length/\
 ∀(v:V) (H':Hp),A3 H H'->A5 H' (z10 rows n r) v->Q v H'
theorem z3g{z:Str}{zs:List Str}{pr:Row}:z1o (z::zs) pr=(match pr.find? fun p=>decide (p.1=z) with|some p=>p::z1o zs pr|none=>z1o zs pr):=by
 unfold z1o
 rw[dR]
 cases pr.find? fun p=>decide (p.1=z)<;>rfl
theorem z71{p:Str×Int}{w:Row}:∀{zs:List Str},p.1∉zs->z1o zs (p::w)=z1o zs w
 | [],_=>rfl
 | y::ys,h=>by
  rw[bA,not_or] at h
  rw[z3g,z3g,dN,decide_eq_false h.1,z71 h.2]
theorem z5m:∀{zs:List Str}{w:Row},zs.Nodup->(w.map Prod.fst).Sublist zs->z1o zs w=w
 | [],w,_,h=>by
  have:w.map Prod.fst=[]:=List.sublist_nil.mp h
  rw[List.map_eq_nil_iff] at this
  rw[this]
  rfl
 | z::zs,w,nd,h=>by
  rw[dM] at nd
  generalize e:w.map Prod.fst=l at h
  cases h with
  | cons _ h=>
   subst e
   have no:w.find? (fun p=>decide (p.1=z))=none:=jL.mpr fun p hp=>by
    have:p.1∈zs:=h.subset (jG hp)
    intro e
    exact nd.1 (of_decide_eq_true e ▸ this)
   rw[z3g,no]
   exact z5m nd.2 h
  | cons_cons _ h=>
   cases w with
   | nil=>cases e
   | cons p w=>
    rw[cP] at e
    injection e with e1 e2
    subst e2
    rw[z3g,dN,decide_eq_true e1,z71 (by rw[e1];exact nd.1),z5m nd.2 h]
def tsN(n:Int)(j:Nat):List Int:=(dnI n j).filter fun k=>decide (1≤k)
def tsP(ss:List (List Str))(k:Int):DV:=.tup [.int k,K4 (ss.getD (k-1).toNat [])]
def tsD(ss:List (List Str))(r:Int):DV:=.tup ((tsN ss.length r.toNat).map (tsP ss))
theorem y6s(n:Int)(j:Nat):(tsN n j).length≤j:=by
 have h:=cJ (fun k=>decide (1≤k)) (dnI n j)
 rw[y4s] at h
 exact h
def y60(K:PySem.W.Frag):Sp:=fun vs H Q _=>∃(p:Addr) (xs:List V) (ss:List (List Str)) (r:Int),vs=[.ref p,.int r]/\(SqL K H p xs\/SqT K H p xs)/\z08 H (ss.map K4) xs/\ss.length≤59/\(∀s∈ss,s.length≤12)/\0≤r/\r≤10/\
 ∀(v:V) (H':Hp),A3 H H'->A5 H' (tsD ss r) v->Q v H'
def z9Z:Sp:=fun vs H Q _=>∃n r:Int,vs=[.int n,.int r]/\1≤n/\n≤60/\0≤r/\r≤10/\
 ∀(l:Addr) (H':Hp),A3 H H'->H' l=some (.tup (((upI 1 60).filter fun x=>decide (x≤n) && decide (n-x≤r)).map V.int))->Q (.ref l) H'
theorem y26{n r:Int}(h1:1≤n)(h2:n≤60)(h3:0≤r)(h4:r≤10) :
  R8 (if n-r > 1 then n-r else 1) (n+1-(if n-r > 1 then n-r else 1)).toNat=((upI 1 60).filter fun x=>decide (x≤n) && decide (n-x≤r)).map V.int:=by
 rw[y6S]
 refine congrArg (List.map V.int) (z1N (z1s _ _) ((z1s _ _).filter _) fun x=>?_)
 rw[cI,z13,z13,bY,decide_eq_true_eq,decide_eq_true_eq]
 split<;>omega
theorem y2e(M:Bl mg)(F:Fun K "reached_by" "reached_by" z5d f fd):A7 P w K mg base CX0 1 f fd z5x z9Z:=by
 have nd:=z7j.nd
 refine F.ok z7j (fun vs H Q E h=>?_) (fun cdv A outer s H vs Q E hr h=>?_)
 ·obtain⟨n,r,rfl,_⟩:=h
  rfl
 obtain⟨n,r,rfl,h1,h2,h3,h4,q⟩:=h
 refine⟨_,(z05 (z0f (z0u (z8A rfl) rfl M.tuple bI (z00 (z0u y3c rfl M.range PyProof.Rows.boot_range (z00 (z0b (y3M rfl) rfl M.max dI (z00 z06 (z00 (z0t z31 (pv 0) (pv 1)) z02))) (z00 (z0t z1g (pv 0) z06) z02))) z02)))),?_⟩
 refine⟨_,rfl,_,rfl,_,_,rfl,rfl,_,_,rfl,_,rfl,_,_,rfl,rfl,_,_,rfl,fun p hp=>?_⟩
 refine⟨p,_,_,rfl,z03,⟨?_,?_,?_,?_⟩,?_,fun l hl=>?_⟩
 ·split<;>omega
 ·split<;>omega
 ·omega
 ·omega
 ·split<;>omega
 ·refine q l _ ((z01 hp _).trans (z01 hl _)) ?_
  rw[z03,y26 h1 h2 h3 h4]
theorem z84(hi:Int)(j:Nat):(dnI hi j).Pairwise (· > ·):=by
 unfold dnI
 rw[dG]
 exact List.pairwise_lt_range.imp fun h=>by omega
theorem z7H{n:Int}{j:Nat}{x:Int}:x∈tsN n j↔1≤x/\n-j<x/\x≤n:=by
 unfold tsN
 rw[cI,z9M,decide_eq_true_eq]
 omega
theorem y6p(n:Int)(j:Nat):(tsN n j).reverse.Pairwise (· < ·):=by
 rw[j9]
 exact((z84 n j).filter _).imp fun h=>h
theorem y35{n r:Int}(h0:0≤n)(h1:n≤59)(r0:0≤r)(r1:r≤10):((upI 1 60).filter fun x=>decide (x≤n+1) && decide (n+1-x≤r))=(tsN n r.toNat).reverse++[n+1]:=by
 refine z1N ((z1s _ _).filter _) (cT.mpr ⟨y6p _ _,dY _ _,fun x hx y hy=>?_⟩) fun x=>?_
 ·rw[fZ,z7H] at hx
  rw[b8] at hy
  omega
 ·rw[cI,z13,bY,decide_eq_true_eq,decide_eq_true_eq,bN,fZ,z7H,b8]
  omega
theorem y6J(M:Bl mg)(F:Fun K "tail_for" "tail_for" z7X f fd)(N0:Cal P w K mg base 1 "reached_by" z5x z9Z):A7 P w K mg base CX0 2 f fd z7Y (y60 K):=by
 have nd:=z8W.nd
 refine F.ok z8W (fun vs H Q E h=>?_) (fun cdv A outer s H vs Q E hr h=>?_)
 ·obtain⟨p,xs,ss,r,rfl,_⟩:=h
  rfl
 obtain⟨p,xs,ss,r,rfl,hS,tS,l60,l12,r0,r1,k⟩:=h
 refine⟨_,(z04 (z0p (i:=2) nd rfl (Or.inl rfl) (z0t z1g (z0b z09 rfl M.len bK (z00 (pv 0) z02)) z06)) (z04 (z0p (i:=3) nd rfl (Or.inl rfl) (z3U y5K (z0i N0 (rm hr) rfl (z00 (pv 2) (z00 (pv 1) z02))) z5q (z5k (y6G y4y z06)))) (z05 (z0f (z0u z0o rfl M.tuple bI (z00 (z1e ["earlier"] ["sets"] [0] rfl (z0v rfl (by decide +kernel) rfl (by decide +kernel) rfl rfl) (y5M rfl M.reversed (z00 (pv 3) z02)) (fun _ _ _ _ _=>(z0j (i:=0) (show((["earlier"]:List PySem.Str)++(["sets"]:List PySem.Str)).Nodup from by decide +kernel) rfl (Or.inl rfl))) (z0w (by decide)) z0h (fun _ _ _ _ _=>z2g) (fun _ _ _ _ _=>(z0Q (z00 (pv 0) (z00 (z0u (z8D (K:=K) rfl) rfl M.tuple bI (z00 (z0z (r:=rIx K) y78 (pv 1) (z0t z31 (pv 0) z06) (fun _ _=>rfl)) z02)) z02))))) z02)))))),?_⟩
 have lx:xs.length=ss.length:=by rw[tS.length,b7]
 have lx':(xs.length:Int)=ss.length:=by omega
 refine⟨_,rfl,p,xs,rfl,hS,_,_,rfl,rfl,?_⟩
 refine⟨_,rfl,_,rfl,(xs.length:Int)+1,r,rfl,by omega,by omega,r0,r1,fun l H1 s1 e1=>?_⟩
 rw[lx',y35 (by omega) (by omega) r0 r1] at e1
 have eL:(((tsN ss.length r.toNat).reverse++[(ss.length:Int)+1]).map V.int).length=(tsN ss.length r.toNat).length+1:=by
  rw[b7,bG,dS]
  rfl
 have sx:HT.sIx (((tsN ss.length r.toNat).reverse++[(ss.length:Int)+1]).map V.int).length (((tsN ss.length r.toNat).reverse++[(ss.length:Int)+1]).map V.int).length (some (-1))=(tsN ss.length r.toNat).length:=by
  rw[eL]
  show(if (-1:Int)<0 then (-1+(((tsN ss.length r.toNat).length+1:Nat):Int)).toNat else min (-1:Int).toNat ((tsN ss.length r.toNat).length+1))=_
  rw[if_pos (by decide)]
  omega
 have cut:L8 (((tsN ss.length r.toNat).reverse++[(ss.length:Int)+1]).map V.int) none (some (-1))=(tsN ss.length r.toNat).reverse.map V.int:=by
  unfold L8
  rw[sx]
  show List.take ((tsN ss.length r.toNat).length-0) (List.drop 0 _)=_
  rw[fE,gQ,bD,List.take_left' (by rw[b7,dS])]
 refine⟨_,rfl,-1,rfl,l,_,rfl,SqT.of e1,?_,fun a ha=>?_⟩
 ·rintro⟨_,z⟩
  rw[sx,eL] at z
  omega
 rw[cut]
 have s2:=s1.trans (z01 ha (.tup ((tsN ss.length r.toNat).reverse.map V.int)))
 have e2:upd H1 a (.tup ((tsN ss.length r.toNat).reverse.map V.int)) a=some (.tup ((tsN ss.length r.toNat).reverse.map V.int)):=z03
 generalize upd H1 a (.tup ((tsN ss.length r.toNat).reverse.map V.int))=H2 at s2 e2
 have le:=y6s ss.length r.toNat
 have lr:((tsN ss.length r.toNat).reverse.map V.int).length=(tsN ss.length r.toNat).length:=by rw[b7,dS]
 refine⟨_,rfl,a,_,rfl,SqT.of e2,?_⟩
 refine y5F (fun i ys H'=>A3 H2 H'/\z08 H' (((tsN ss.length r.toNat).take i).map (tsP ss)) ys) ⟨A3.refl _,by rw[cS];exact .nil⟩ (fun i ys H' hi hp=>?_) (fun i x ys H' hx hp=>?_) (fun ys H' hp=>?_)
 ·obtain⟨g,t⟩:=hp
  refine⟨SqT.of (g _ _ e2),z0e ?_⟩
  rw[t.length,b7,bH]
  omega
 ·obtain⟨g,t⟩:=hp
  rw[<- jX,g0,bB] at hx
  obtain⟨m,hm,rfl⟩:=cG.mp hx
  have hb:=z7H.mp (bO hm)
  have hk:(m-1).toNat<ss.length:=by omega
  have t2:=z08.keep (s2.trans g) _ _ tS
  obtain⟨v,ev,tv⟩:=t2.get (m-1).toNat (K4 (ss.getD (m-1).toNat [])) (by
   rw[bB,bL,bC hk]
   rfl)
  have av:atI xs (m-1)=some v:=by
   have e:m-1=(((m-1).toNat:Nat):Int):=by omega
   rw[e]
   exact z0K ev
  obtain⟨b,us,rfl,eb,_,_⟩:=z0g tv
  refine⟨_,rfl,_,rfl,_,rfl,_,_,rfl,rfl,?_⟩
  have go:∀(z:A5 H' (K4 (ss.getD (m-1).toNat [])) (.ref b)),y5Q K [.ref b] H' fun x H3=>[V.int m,x].length≤sizeLine/\∀q,H3 q=none->A3 H2 (upd H3 q (.tup [.int m,x]))/\z08 (upd H3 q (.tup [.int m,x])) (((tsN ss.length r.toNat).take (i+1)).map (tsP ss)) (ys++[.ref q]):=fun z=>
   ⟨b,us,rfl,.inr ⟨SqT.of eb,by show 2≤sizeLine;decide,fun q hq=>⟨g.trans (z01 hq _),by
    rw[eY,hm,bD]
    exact z08.snoc (z08.keep (z01 hq _) _ _ t) (z0r z03 (by show 2≤1000000;decide) (.cons (z0H _) (.cons (A5.keep (z01 hq _) _ _ z) .nil)))⟩⟩⟩
  rcases hS with hS|hS
  ·exact .inl ⟨p,xs,_,.ref b,rfl,rfl,(s2.trans g).seq hS,av,go tv⟩
  ·exact .inr (.inl ⟨p,xs,_,.ref b,rfl,rfl,z7s (s2.trans g) hS,av,go tv⟩)
 ·obtain⟨g,t⟩:=hp
  rw[lr,bT] at t
  intro D hD
  refine⟨D,ys,rfl,.inl ⟨SqL.of z03,fun q hq=>k _ _ (s2.trans (g.trans ((z01 hD _).trans (z01 hq _)))) (z0r z03 ?_ (z08.keep ((z01 hD _).trans (z01 hq _)) _ _ t))⟩⟩
  rw[b7]
  omega
def kvR(p:Str×Int):Key×V:=(Sum.inr p.1,.int p.2)
def y6b(K:PySem.W.Frag):Sp:=fun vs H Q _=>∃(p:Addr) (zs:List Str) (z:Str),vs=[.ref p,.str z]/\SqN K H p zs/\z∈zs/\Q .non H
theorem y0d(x:Str)(ns:List Str):inV (.str x) (ns.map V.str)=decide (x∈ns):=by
 unfold inV
 rw[d7,gS,j0,decide_eq_true_eq]
 constructor
 ·rintro⟨y,hy,e⟩
  have:y=x:=by simpa [eqV] using e
  exact this ▸ hy
 ·intro h
  exact⟨x,h,by simp[eqV]⟩
theorem y7q(M:Bl mg)(F:Fun K "refuse_unknown_name" "refuse_unknown_name" z1R f fd):A7 P w K mg base CX0 1 f fd z1l (y6b K):=by
 have nd:=z2B.nd
 refine F.ok z2B (fun vs H Q E h=>?_) (fun cdv A outer s H vs Q E hr h=>?_)
 ·obtain⟨p,zs,z,rfl,_⟩:=h
  rfl
 obtain⟨p,zs,z,rfl,hp,hz,k⟩:=h
 refine⟨_,(z05 (z0D (z0a z1q (pv 1) (pv 0) (by with_unfolding_all rfl)) (z05 z1x) z0l)),?_⟩
 refine⟨_,rfl,_,rfl,p,_,rfl,hp,rfl,z1E zs,_,rfl,?_⟩
 rw[if_pos rfl,y0d,decide_eq_true hz]
 exact B0 (fun c=>absurd c (by decide)) fun _=>k
def y1h:Sp:=fun vs H Q _=>∃v:Int,vs=[.int v]/\0≤v/\v≤1000000/\Q .non H
theorem y4t(M:Bl mg)(F:Fun K "refuse_bad_value" "refuse_bad_value" z2s f fd):A7 P w K mg base CX0 1 f fd z2t y1h:=by
 have nd:=z3b.nd
 refine F.ok z3b (fun vs H Q E h=>?_) (fun cdv A outer s H vs Q E hr h=>?_)
 ·obtain⟨r,rfl,_⟩:=h
  rfl
 obtain⟨r,rfl,r0,r1,k⟩:=h
 refine⟨_,(z05 (z0D (PW.pt (z3a (z0a z8x (pv 0) z06 (z0m _)) (z1T (z0a z2k (pv 0) (z2P rfl M.MOST_VALUE) (z0m _))))) (z05 z1x) z0l)),?_⟩
 refine⟨_,rfl,_,_,rfl,rfl,_,rfl,B0 (fun q=>absurd (z0F q) (by omega)) fun _=>?_⟩
 exact⟨_,rfl,_,_,rfl,rfl,_,rfl,B0 (fun q=>absurd (z0F q) (by omega)) fun _=>k⟩
def z2I(K:PySem.W.Frag)(H:Hp)(u:V)(p:Str×Int):Prop:=∃a,u=.ref a/\(SqL K H a [.str p.1,.int p.2]\/SqT K H a [.str p.1,.int p.2])
theorem z2I.keep{K:PySem.W.Frag}{H H':Hp}(s:A3 H H'):∀{us:List V}{pr:Row},Paired (z2I K H) us pr->Paired (z2I K H') us pr
 | _,_,.nil=>.nil
 | _,_,.cons ⟨a,e,h⟩ t=>.cons ⟨a,e,h.imp (fun q=>s.seq q) fun q=>z7s s q⟩ (z2I.keep s t)
theorem z2I.at{K:PySem.W.Frag}{H:Hp}:∀{us:List V}{pr:Row},Paired (z2I K H) us pr->∀(i:Nat) (x:V),us[i]? = some x->∃p,pr[i]? = some p/\z2I K H x p
 | _,_,.nil,i,x,e=>by simp at e
 | _,_,.cons r t,0,x,e=>by
  simp at e
  subst e
  exact⟨_,rfl,r⟩
 | _,_,.cons r t,i+1,x,e=>by
  obtain⟨y,h1,h2⟩:=z2I.at t i x (by simpa using e)
  exact⟨y,by simpa using h1,h2⟩
theorem z2I.pairs{K:PySem.W.Frag}{H:Hp}:∀{us:List V}{pr:Row},Paired (z2I K H) us pr->Paired (y4a K H) us (pr.map kvR)
 | _,_,.nil=>.nil
 | _,_,.cons ⟨a,e,h⟩ t=>.cons ⟨a,e,h⟩ (z2I.pairs t)
theorem z2I.of{K:PySem.W.Frag}{H:Hp}{fp:List Addr}:∀{us:List V}{pr:Row},Paired (z9b K H fp) us pr->Paired (z2I K H) us pr
 | _,_,.nil=>.nil
 | _,_,.cons ⟨a,e,h,_⟩ t=>.cons ⟨a,e,h⟩ (z2I.of t)
theorem SqP.or{K:PySem.W.Frag}{H:Hp}{a:Addr}{us:List V}(h:SqP K H a us):SqL K H a us\/SqT K H a us:=h.imp id SqT.of
theorem SqP.keep{K:PySem.W.Frag}{H H':Hp}{a:Addr}{us:List V}(s:A3 H H')(h:SqP K H a us):SqP K H' a us:=h.imp (fun q=>s.seq q) fun q=>s _ _ q
def y0t(K:PySem.W.Frag):Sp:=fun vs H Q _=>∃(pn a:Addr) (zs:List Str) (us:List V) (pr:Row),vs=[.ref pn,.ref a]/\SqN K H pn zs/\SqP K H a us/\Paired (z2I K H) us pr/\GoodR zs pr/\pr.length≤12/\∀H',A3 H H'->Q .non H'
theorem y24(M:Bl mg)(F:Fun K "refuse_bad_rows" "refuse_bad_rows" z2F f fd)(B6:Cal P w K mg base 1 "refuse_unknown_name" z1l (y6b K))
  (E9:Cal P w K mg base 1 "refuse_bad_value" z2t y1h):A7 P w K mg base CX0 2 f fd z2G (y0t K):=by
 have nd:=z3B.nd
 refine F.ok z3B (fun vs H Q E h=>?_) (fun cdv A outer s H vs Q E hr h=>?_)
 ·obtain⟨pn,a,zs,us,pr,rfl,_⟩:=h
  rfl
 obtain⟨pn,a,zs,us,pr,rfl,hn,ha,hp,g,l12,k⟩:=h
 refine⟨_,(z04 (z5J (i:=2) ["name","value"] [] [] rfl nd rfl (Or.inl rfl) (z0v rfl (by decide +kernel) rfl (by decide +kernel) rfl rfl) (y3I (pv 1)) (fun _ _ _ _ _=>(y3S (K:=K) (n:=2) rfl rfl (z1m (z0j (i:=0) (show((["name","value"]:List PySem.Str)++([]:List PySem.Str)).Nodup from by decide +kernel) rfl (Or.inl rfl)) (z1m (z0j (i:=1) (show((["name","value"]:List PySem.Str)++([]:List PySem.Str)).Nodup from by decide +kernel) rfl (Or.inl rfl)) z5l)))) (y6n (z2b (z0w (by decide)) z0h (z2b (z0w (by decide)) z0h z7M z1k) (z0R z0h z1k))) (y4H (z0R z0h (z0R z0h z1k))) (fun _ _ _ _ _=>z2g) (fun _ _ _ _ _=>(pv 0))) (z04 (z0P bQ rfl (z1w (pv 2)) (z0j (i:=3) nd rfl (Or.inl rfl)) (z05 (z0C (z0i B6 (rm hr) rfl (z00 (pv 0) (z00 (pv 3) z02)))))) (z04 (z0D (z0a z7l (z0b z67 rfl M.len bK (z00 (z0u (z4Z rfl) rfl M.set PyProof.Rows.boot_set (z00 (pv 2) z02)) z02)) (z0b z09 rfl M.len bK (z00 (pv 2) z02)) (z0m _)) (z05 z1x) z0l) (z05 (z0P bQ rfl (y3I (pv 1)) (y3S (K:=K) (n:=2) rfl rfl (z1m (z0j (i:=3) nd rfl (Or.inl rfl)) (z1m (z0j (i:=4) nd rfl (Or.inl rfl)) z5l))) (z05 (z0C (z0i E9 (rm hr) rfl (z00 (pv 4) z02))))))))),?_⟩
 obtain⟨t,ht⟩:=SqS.of (SqP.or ha)
 have lu:us.length=pr.length:=hp.length
 refine⟨_,rfl,a,t,rfl,⟨_,ht⟩,?_⟩
 refine y1M (xs:=us) (fun i ys H'=>H'=H/\ys=((pr.take i).map Prod.fst).map V.str) ⟨rfl,rfl⟩ (fun i ys H' hi hq=>?_) (fun i x ys H' hx hq=>?_) (fun ys H' hq=>?_)
 ·obtain⟨rfl,rfl⟩:=hq
  refine⟨ht,z0e ?_⟩
  rw[b7,b7,bH]
  omega
 ·obtain⟨rfl,rfl⟩:=hq
  obtain⟨p,ep,b,rfl,hb⟩:=z2I.at hp i x hx
  refine⟨b,_,rfl,hb,rfl,_,_,rfl,_,_,rfl,rfl,?_⟩
  refine⟨_,rfl,rfl,?_⟩
  rw[z0n ep,bD,bD]
  rfl
 obtain⟨rfl,rfl⟩:=hq
 rw[lu,bT]
 intro D hD
 have s1:=z01 hD (.lst ((pr.map Prod.fst).map V.str))
 have e1:upd H' D (.lst ((pr.map Prod.fst).map V.str)) D=some (.lst ((pr.map Prod.fst).map V.str)):=z03
 generalize upd H' D (.lst ((pr.map Prod.fst).map V.str))=H1 at s1 e1
 have hn1:=SqN.keep s1 hn
 have ht1:=SqS.keep s1 ht
 have hp1:=z2I.keep s1 hp
 refine⟨_,rfl,D,rfl,⟨_,SqL.of e1⟩,z1Y (K:=K) (a:=D) (xs:=(pr.map Prod.fst).map V.str) (fun i σ H2=>∃o:Option V,H2=H1/\σ=[some (.ref pn),some (.ref a),some (.ref D),o,none]) ⟨none,rfl,rfl⟩ (fun i σ H2 _ ⟨_,e,_⟩=>e ▸ SqL.of e1) (fun i x σ H2 hx hq=>?_) (fun σ H2 hq=>?_)⟩
 ·obtain⟨o,rfl,rfl⟩:=hq
  rw[bB] at hx
  obtain⟨z,ez,rfl⟩:=cG.mp hx
  have hz:z∈zs:=by
   obtain⟨p,hpm,rfl⟩:=cO.mp (bO ez)
   exact g.sub p hpm
  exact⟨_,rfl,_,rfl,pn,zs,z,rfl,hn1,hz,_,rfl,rfl⟩
 obtain⟨o,rfl,rfl⟩:=hq
 have lf:(pr.map Prod.fst).length=pr.length:=b7 _
 refine⟨_,rfl,D,pr.map Prod.fst,rfl,.inl (SqL.of e1),by omega,fun l hl=>⟨l,pr.map Prod.fst,rfl,z03,by omega,_,rfl,D,_,rfl,.inl (SqL.of (z01 hl _ _ _ e1)),rfl,_,rfl,?_⟩⟩
 refine y7e (by rw[y2X g.nd,b7 (f:=V.str)]) ?_
 have s2:=s1.trans (z01 hl (Q9 P w l (pr.map Prod.fst)))
 have ht2:=SqS.keep (z01 hl (Q9 P w l (pr.map Prod.fst))) ht1
 have hp2:=z2I.keep (z01 hl (Q9 P w l (pr.map Prod.fst))) hp1
 refine⟨_,rfl,a,t,rfl,⟨_,ht2⟩,?_⟩
 refine y6F (xs:=us) (fun i σ H3=>∃o1 o2:Option V,H3=upd H2 l (Q9 P w l (pr.map Prod.fst))/\σ=[some (.ref pn),some (.ref a),some (.ref D),o1,o2]) ⟨_,_,rfl,rfl⟩ (fun i σ H3 _ ⟨_,_,e,_⟩=>e ▸ ht2) (fun i x σ H3 hx hq=>?_) (fun σ H3 hq=>?_)
 ·obtain⟨o1,o2,rfl,rfl⟩:=hq
  obtain⟨p,ep,b,rfl,hb⟩:=z2I.at hp2 i x hx
  have hv:=g.val p (bO ep)
  refine⟨b,_,rfl,hb,rfl,_,_,rfl,_,_,rfl,rfl,?_⟩
  exact⟨_,rfl,p.2,rfl,hv.1,hv.2,_,_,rfl,rfl⟩
 ·obtain⟨o1,o2,rfl,rfl⟩:=hq
  exact k _ s2
def z9S(K:PySem.W.Frag):Sp:=fun vs H Q _=>∃(pn a:Addr) (zs:List Str) (us:List V) (pr:Row),vs=[.ref pn,.ref a]/\SqN K H pn zs/\zs.length≤12/\SqP K H a us/\Paired (z2I K H) us pr/\(pr.map Prod.fst).Nodup/\pr.length≤12/\∀(v:V) (H':Hp),A3 H H'->A5 H' (N1 (z1o zs pr)) v->Q v H'
theorem z9h{z:Str}:∀{pr:Row},K1 (pr.map kvR) (Sum.inr z:Key)=(pr.find? fun p=>decide (p.1=z)).map fun p=>V.int p.2
 | []=>rfl
 | p::w=>by
  rw[cP,dN]
  by_cases e:p.1=z
  ·rw[z61 (show(kvR p).1=Sum.inr z by unfold kvR;rw[e]),decide_eq_true e]
   rfl
  ·rw[z5Y (show ¬(kvR p).1=Sum.inr z from fun q=>e (Sum.inr.inj q)),decide_eq_false e]
   exact z9h
theorem y06(zs:List Str)(z:Str)(pr:Row):z1o (zs++[z]) pr=z1o zs pr++(match pr.find? fun p=>decide (p.1=z) with|some p=>[p]|none=>[]):=by
 unfold z1o
 rw[List.filterMap_append,dR]
 cases pr.find? fun p=>decide (p.1=z)<;>rfl
theorem z5n(zs:List Str)(pr:Row):(z1o zs pr).length≤zs.length:=List.length_filterMap_le _ _
theorem y2C(M:Bl mg)(F:Fun K "rows_in_order" "rows_in_order" z3l f fd):A7 P w K mg base CX0 1 f fd z3o (z9S K):=by
 have nd:=z4F.nd
 refine F.ok z4F (fun vs H Q E h=>?_) (fun cdv A outer s H vs Q E hr h=>?_)
 ·obtain⟨pn,a,zs,us,pr,rfl,_⟩:=h
  rfl
 obtain⟨pn,a,zs,us,pr,rfl,hn,z12,ha,hp,ndr,l12,k⟩:=h
 have hu:=y0g hr
 refine⟨_,(z04 (z0p (i:=2) nd rfl (Or.inr rfl) (z0u (z4L (K:=K) rfl rfl) rfl M.dict hV (z00 (pv 1) z02))) (z05 (z0f (z0u z0o rfl M.tuple bI (z00 (z1e ["name"] ["values"] [2] rfl (z0v rfl (by decide +kernel) rfl (by decide +kernel) rfl rfl) (y3I (pv 0)) (fun _ _ _ _ _=>(z0j (i:=0) (show((["name"]:List PySem.Str)++(["values"]:List PySem.Str)).Nodup from by decide +kernel) rfl (Or.inl rfl))) (z0w (by decide)) z0h (fun _ _ _ _ _=>(z2d (z8r (y4f hu (pv 0) (pv 1))))) (fun _ _ _ _ _=>(z0Q (z00 (pv 0) (z00 (z6P hu (pv 1) (pv 0) (fun _ _=>rfl)) z02))))) z02))))),?_⟩
 have lu:us.length=pr.length:=hp.length
 refine⟨_,rfl,a,us,pr.map kvR,rfl,ha,z2I.pairs hp,by omega,?_,fun d hd=>?_⟩
 ·have e:(pr.map kvR).map (·.1)=(pr.map Prod.fst).map Sum.inr:=by rw[dJ,dJ];rfl
  rw[e,dA,dG]
  exact(dA.mp ndr).imp fun h e=>h (Sum.inr.inj e)
 have s1:=z01 hd (.dK (pr.map kvR))
 have e1:upd H d (.dK (pr.map kvR)) d=some (.dK (pr.map kvR)):=z03
 generalize upd H d (.dK (pr.map kvR))=H1 at s1 e1
 obtain⟨t,ht⟩:=SqS.of (SqN.keep s1 hn)
 refine⟨_,rfl,pn,t,rfl,⟨_,ht⟩,?_⟩
 refine y1M (xs:=zs.map V.str) (fun i ys H'=>A3 H1 H'/\z08 H' ((z1o (zs.take i) pr).map z9o) ys) ⟨A3.refl _,by rw[cS];exact .nil⟩ (fun i ys H' hi hq=>?_) (fun i x ys H' hx hq=>?_) (fun ys H' hq=>?_)
 ·obtain⟨g,t'⟩:=hq
  refine⟨SqS.keep g ht,z0e ?_⟩
  have:=z5n (zs.take i) pr
  rw[bH] at this
  rw[t'.length,b7]
  omega
 ·obtain⟨g,t'⟩:=hq
  rw[bB] at hx
  obtain⟨z,ez,rfl⟩:=cG.mp hx
  refine⟨_,rfl,_,rfl,d,_,rfl,L7.k (k:=Sum.inr z) (g _ _ e1),_,rfl,?_⟩
  rw[z9h,z0n ez,y06]
  cases ev:pr.find? fun p=>decide (p.1=z) with
  | none=>
   refine B1 ⟨g,?_⟩
   rw[cY]
   exact t'
  | some p=>
   have ep:p.1=z:=by
    have:=List.find?_some ev
    exact of_decide_eq_true this
   refine F4 ⟨_,rfl,_,rfl,_,rfl,d,_,rfl,(show L7 _ d (kV (Sum.inr z)) (some (V.int p.2)) by rw[<- show K1 (pr.map kvR) (Sum.inr z:Key)=some (V.int p.2) by rw[z9h,ev];rfl];exact L7.k (g _ _ e1)),(by show 2≤sizeLine;decide),fun q hq=>⟨g.trans (z01 hq _),?_⟩⟩
   rw[bD]
   refine z08.snoc (z08.keep (z01 hq _) _ _ t') ?_
   rw[<- ep]
   exact z0r z03 (by show 2≤1000000;decide) (.cons (z2w _) (.cons (z0H _) .nil))
 ·obtain⟨g,t'⟩:=hq
  rw[b7,bT] at t'
  intro D hD
  refine⟨D,ys,rfl,.inl ⟨SqL.of z03,fun q hq=>k _ _ (s1.trans (g.trans ((z01 hD _).trans (z01 hq _)))) (z0r z03 ?_ (z08.keep ((z01 hD _).trans (z01 hq _)) _ _ t'))⟩⟩
  have:=z5n zs pr
  rw[b7]
  omega
def y0U:Sp:=fun vs H Q _=>∃(a:Addr) (xs:List V) (w:Row),vs=[.ref a]/\H a=some (.tup xs)/\z08 H (w.map z9o) xs/\w.length≤12/\∀(l:Addr) (H':Hp),A3 H H'->H' l=some (.tup ((z0S w).map V.str))->Q (.ref l) H'
theorem y4G(M:Bl mg)(F:Fun K "names_of_rows" "names_of_rows" z3i f fd):A7 P w K mg base CX0 1 f fd z2x y0U:=by
 have nd:=z4l.nd
 refine F.ok z4l (fun vs H Q E h=>?_) (fun cdv A outer s H vs Q E hr h=>?_)
 ·obtain⟨a,xs,w,rfl,_⟩:=h
  rfl
 obtain⟨a,xs,w,rfl,ha,tw,l12,k⟩:=h
 refine⟨_,(z05 (z0f (z0u z0o rfl M.tuple bI (z00 (z1e ["name","value"] [] [] rfl (z0v rfl (by decide +kernel) rfl (by decide +kernel) rfl rfl) (z23 (pv 0)) (fun _ _ _ _ _=>(z9r (K:=K) (n:=2) rfl rfl (z1m (z0j (i:=0) (show((["name","value"]:List PySem.Str)++([]:List PySem.Str)).Nodup from by decide +kernel) rfl (Or.inl rfl)) (z1m (z0j (i:=1) (show((["name","value"]:List PySem.Str)++([]:List PySem.Str)).Nodup from by decide +kernel) rfl (Or.inl rfl)) z5l)))) (z9D (z2b (z0w (by decide)) z0h (z2b (z0w (by decide)) z0h z7M z1k) (z0R z0h z1k))) (z7p (z0R z0h (z0R z0h z1k))) (fun _ _ _ _ _=>z2g) (fun _ _ _ _ _=>(pv 0))) z02)))),?_⟩
 have lx:xs.length=w.length:=by rw[tw.length,b7]
 refine⟨_,rfl,a,rfl,⟨_,SqT.of ha⟩,?_⟩
 refine z1J (xs:=xs) (fun i ys H'=>H'=H/\ys=(z0S (w.take i)).map V.str) ⟨rfl,rfl⟩ (fun i ys H' hi hq=>?_) (fun i x ys H' hx hq=>?_) (fun ys H' hq=>?_)
 ·obtain⟨rfl,rfl⟩:=hq
  refine⟨SqT.of ha,z0e ?_⟩
  unfold z0S
  rw[b7,b7,bH]
  omega
 ·obtain⟨rfl,rfl⟩:=hq
  obtain⟨p,b,ep,rfl,hb⟩:=z32 tw i x hx
  refine⟨b,_,rfl,SqT.of hb,rfl,_,_,rfl,_,_,rfl,rfl,?_⟩
  refine⟨_,rfl,rfl,?_⟩
  unfold z0S
  rw[z0n ep,bD,bD]
  rfl
 ·obtain⟨rfl,rfl⟩:=hq
  rw[lx,bT]
  intro D hD
  exact⟨D,_,rfl,.inl ⟨SqL.of z03,fun q hq=>k q _ ((z01 hD _).trans (z01 hq _)) z03⟩⟩
def OfD(K:PySem.W.Frag)(C:Addr):OfP:=fun H p fp zs r rows=>∃(dx pn pl:Addr) (fs:List (Str×V)) (xs:List V),fp=[p,dx,pl]/\H p=some (.ins C dx fs)/\H dx=some (.own p)/\H pn=some (.tup (zs.map V.str))/\H pl=some (.lst xs)/\
 fs.lookup ("names":Str)=some (V.ref pn)/\fs.lookup ("reach":Str)=some (V.int r)/\fs.lookup ("written":Str)=some (V.ref pl)/\(∀m∈(["refuse_writing","write","latest","issue"]:List Str),fs.lookup m=none)/\
 z08 H ((upI 1 rows.length).map fun n=>z10 rows n r) xs/\rows.length≤60/\(∀w∈rows,w.length≤12)/\D6 zs/\0≤r/\r≤10
theorem P0{K:PySem.W.Frag}{C:Addr}:X0 C ["write","latest","issue"] (OfD K C):=by
 refine⟨fun h=>?_,fun h b hb=>?_,fun h s out nt=>?_⟩
 ·obtain⟨dx,pn,pl,fs,xs,e,h1,h2,h3,h4,l1,l2,l3,lm,_⟩:=h
  refine⟨dx,fs,h1,fun m hm=>lm m ?_⟩
  simp only[bA,dX,or_false] at hm ⊢
  rcases hm with h|h|h<;>simp[h]
 ·obtain⟨dx,pn,pl,fs,xs,rfl,h1,h2,h3,h4,_⟩:=h
  rcases bA.mp hb with rfl|hb
  ·exact⟨_,h1,fun xs z=>by cases z⟩
  rcases bA.mp hb with rfl|hb
  ·exact⟨_,h2,fun xs z=>by cases z⟩
  rw[b8.mp hb]
  exact⟨_,h4,fun xs z=>by cases z⟩
 ·obtain⟨dx,pn,pl,fs,xs,rfl,h1,h2,h3,h4,l1,l2,l3,lm,tl,g⟩:=h
  exact⟨dx,pn,pl,fs,xs,rfl,s _ _ h1 (fun m=>out _ m (by simp)),s _ _ h2 (fun m=>out _ m (by simp)),s _ _ h3 (fun m=>nt _ m _ h3),s _ _ h4 (fun m=>out _ m (by simp)),l1,l2,l3,lm,z08.but s nt _ _ tl,g⟩
theorem y3D{A1:Addr}(M:Bl mg)(T:J2 K mg A1)(F:Fun K "__init__" "Office.__init__" z2K f fd)(C5:Cal P w K mg base 2 "bulletin_names" z2f (z6A K)) :
  A7 P w K mg base CX0 3 f fd z2H (y1y K A1 (OfD K A1)):=by
 have nd:=z3J.nd
 refine F.ok z3J (fun vs H Q E h=>?_) (fun cdv A outer s H vs Q E hr h=>?_)
 ·obtain⟨x,dx,pn,zs,r,rfl,_⟩:=h
  rfl
 obtain⟨x,dx,pn,zs,r,rfl,hx,ne,hdx,hn,g,r0,r1,k⟩:=h
 refine⟨_,(z04 (z6f (pv 0) (z0i C5 (rm hr) rfl (z00 (pv 1) (z00 (pv 2) z02))) rfl) (z04 (z6f (pv 0) (pv 2) rfl) (z05 (z6f (pv 0) (z1i z02) rfl)))),?_⟩
 refine⟨_,rfl,_,rfl,pn,zs,r,rfl,hn,g,r0,r1,fun l H1 s1 e1=>?_⟩
 refine⟨_,rfl,x,A1,dx,[],rfl,s1 _ _ hx,T.cl,T.n_names,by decide,?_⟩
 have z1:=z1D "names" (.ref l) []
 have z2:=z1D "reach" (.int r) (J1 "names" (.ref l) [])
 have z0:([]:List (Str×V)).length=0:=rfl
 refine⟨_,rfl,_,rfl,x,A1,dx,_,rfl,z03,T.cl,T.n_reach,(by omega),?_⟩
 rw[z5f]
 refine⟨(by show 0≤sizeLine;decide),fun pd hd=>?_⟩
 have nx:x≠pd:=z0q z03 hd
 have ndd:dx≠pd:=z0q (show upd H1 x _ dx=some _ by rw[z0k ne];exact s1 _ _ hdx) hd
 have nl:l≠x:=z4W e1 (s1 _ _ hx) (fun z=>by cases z)
 have nlp:l≠pd:=z0q (show upd H1 x _ l=some _ by rw[z0k nl];exact e1) hd
 have dfr:H1 pd=none:=by rw[z0k (dE nx)] at hd;exact hd
 refine⟨_,rfl,x,A1,dx,_,rfl,(by rw[z0k nx,z03]),T.cl,T.n_written,(by omega),?_⟩
 refine k [x,dx,pd] _ (fun b hb=>?_) (fun b o e nb=>?_) ⟨dx,l,pd,_,[],rfl,z03,?_,?_,?_,?_,?_,?_,?_,.nil,by decide,fun _ q=>(nomatch q),g,r0,r1⟩
 ·simp only[bA,dX,or_false] at hb
  rcases hb with rfl|rfl|rfl
  ·exact .inl rfl
  ·exact .inr (.inl rfl)
  ·exact .inr (.inr (s1.free dfr))
 ·rw[b8] at nb
  rw[z0k nb,z0k (z0q e (s1.free dfr)),z0k nb]
  exact s1 _ _ e
 ·rw[z0k ne,z0k ndd,z0k ne]
  exact s1 _ _ hdx
 ·rw[z0k nl,z0k nlp,z0k nl]
  exact e1
 ·rw[z0k (dE nx),z03]
 ·rw[z0s,if_neg (by decide +kernel),z0s,if_neg (by decide +kernel),z0s,if_pos rfl]
 ·rw[z0s,if_neg (by decide +kernel),z0s,if_pos rfl]
 ·rw[z0s,if_pos rfl]
 ·intro m hm
  simp only[bA,dX,or_false] at hm
  rcases hm with rfl|rfl|rfl|rfl<;>rw[z0s,if_neg (by decide +kernel),z0s,if_neg (by decide +kernel),z0s,if_neg (by decide +kernel)]<;>rfl
theorem y0K{A1:Addr}(M:Bl mg)(T:J2 K mg A1)(F:Fun K "latest" "Office.latest" z3p f fd):A7 P w K mg base CX0 1 f fd z3r (z8S (OfD K A1)):=by
 have nd:=z4o.nd
 refine F.ok z4o (fun vs H Q E h=>?_) (fun cdv A outer s H vs Q E hr h=>?_)
 ·obtain⟨p,fp,zs,r,rows,rfl,_⟩:=h
  rfl
 obtain⟨p,fp,zs,r,rows,rfl,of,k⟩:=h
 refine⟨_,(z05 (z0f (z0b z09 rfl M.len bK (z00 (z0I (pv 0) rfl) z02)))),?_⟩
 obtain⟨dx,pn,pl,fs,xs,rfl,h1,h2,h3,h4,l1,l2,l3,lm,tl,r60,w12,g,r0,r1⟩:=of
 have lx:xs.length=rows.length:=by rw[tl.length,b7,z0M]
 refine⟨_,rfl,p,A1,dx,fs,_,rfl,h1,T.cl,T.n_written,l3,pl,xs,rfl,.inl (SqL.of h4),?_⟩
 rw[lx]
 exact k H (A3.refl _)
theorem y2F{A1:Addr}(M:Bl mg)(T:J2 K mg A1)(F:Fun K "issue" "Office.issue" z42 f fd):A7 P w K mg base CX0 1 f fd z29 (z68 (OfD K A1)):=by
 have nd:=z5a.nd
 refine F.ok z5a (fun vs H Q E h=>?_) (fun cdv A outer s H vs Q E hr h=>?_)
 ·obtain⟨p,fp,zs,r,rows,n,rfl,_⟩:=h
  rfl
 obtain⟨p,fp,zs,r,rows,n,rfl,of,n1,n2,k⟩:=h
 refine⟨_,(z04 (z0D (PW.pt (z3a (z0a z8x (pv 1) z06 (z0m _)) (z1T (z0a z2k (pv 1) (z0b z09 rfl M.len bK (z00 (z0I (pv 0) rfl) z02)) (z0m _))))) (z05 z1x) z0l) (z05 (z0f (z0z z0V (z0I (pv 0) rfl) (z0t z31 (pv 1) z06) (fun _ _=>rfl))))),?_⟩
 obtain⟨dx,pn,pl,fs,xs,rfl,h1,h2,h3,h4,l1,l2,l3,lm,tl,r60,w12,g,r0,r1⟩:=of
 have lx:xs.length=rows.length:=by rw[tl.length,b7,z0M]
 refine⟨_,rfl,_,_,rfl,rfl,_,rfl,B0 (fun q=>absurd (z0F q) (by omega)) fun _=>?_⟩
 refine⟨_,rfl,_,rfl,p,A1,dx,fs,_,rfl,h1,T.cl,T.n_written,l3,pl,xs,rfl,.inl (SqL.of h4),_,_,rfl,rfl,_,rfl,B0 (fun q=>absurd (z0F q) (by omega)) fun _=>?_⟩
 have hk:(n-1).toNat<rows.length:=by omega
 obtain⟨v,ev,tv⟩:=tl.get (n-1).toNat (z10 rows n r) (by
  unfold upI
  rw[bB,bB,gI hk]
  show some (z10 rows (1+((n-1).toNat:Int)) r)=_
  rw[show(1:Int)+((n-1).toNat:Int)=n by omega])
 have av:atI xs (n-1)=some v:=by
  rw[show n-1=(((n-1).toNat:Nat):Int) by omega]
  exact z0K ev
 exact⟨_,rfl,p,A1,dx,fs,_,rfl,h1,T.cl,T.n_written,l3,_,rfl,_,_,rfl,rfl,pl,xs,_,v,rfl,rfl,SqL.of h4,av,k v H (A3.refl _) tv⟩
def z7N(K:PySem.W.Frag)(Of:OfP):Sp:=fun vs H Q _=>∃(p a:Addr) (fp:List Addr) (zs:List Str) (r:Int) (rows:List Row) (us:List V) (pr:Row),vs=[.ref p,.ref a]/\Of H p fp zs r rows/\SqP K H a us/\Paired (z2I K H) us pr/\GoodR zs pr/\pr.length≤12/\rows.length<60/\∀H',A3 H H'->Q .non H'
theorem y2z{A1:Addr}(M:Bl mg)(T:J2 K mg A1)(F:Fun K "refuse_writing" "Office.refuse_writing" z1u f fd)(F2:Cal P w K mg base 2 "refuse_bad_rows" z2G (y0t K)) :
  A7 P w K mg base CX0 3 f fd z15 (z7N K (OfD K A1)):=by
 have nd:=z2h.nd
 refine F.ok z2h (fun vs H Q E h=>?_) (fun cdv A outer s H vs Q E hr h=>?_)
 ·obtain⟨p,a,fp,zs,r,rows,us,pr,rfl,_⟩:=h
  rfl
 obtain⟨p,a,fp,zs,r,rows,us,pr,rfl,of,ha,hp,g',l12,l60,k⟩:=h
 refine⟨_,(z04 (z0D (z0a y3q (z0b z09 rfl M.len bK (z00 (z0I (pv 0) rfl) z02)) (z2P rfl M.MOST_NUMBERS) (z0m _)) (z05 z1x) z0l) (z05 (z0C (z0i F2 (rm hr) rfl (z00 (z0I (pv 0) rfl) (z00 (pv 1) z02)))))),?_⟩
 obtain⟨dx,pn,pl,fs,xs,rfl,h1,h2,h3,h4,l1,l2,l3,lm,tl,r60,w12,g,r0,r1⟩:=of
 have lx:xs.length=rows.length:=by rw[tl.length,b7,z0M]
 refine⟨_,rfl,p,A1,dx,fs,_,rfl,h1,T.cl,T.n_written,l3,pl,xs,rfl,.inl (SqL.of h4),_,_,rfl,rfl,_,rfl,B0 (fun q=>absurd (z0F q) (by omega)) fun _=>?_⟩
 exact⟨_,rfl,p,A1,dx,fs,_,rfl,h1,T.cl,T.n_names,l1,_,rfl,pn,a,zs,us,pr,rfl,.inr (SqT.of h3),ha,hp,g',l12,fun H' s=>k H' s⟩
theorem y1c(rows:List Row)(x:Row){n r:Int}(n1:1≤n)(n2:n≤rows.length):z10 (rows++[x]) n r=z10 rows n r:=by
 have e:=y13 (rows:=rows++[x]) (j:=rows.length) (r:=r) n1 n2
 rw[List.take_left] at e
 exact e.symm
theorem y2H(m:Nat)(r:Int)(r0:0≤r):z6w ((m:Int)+1) r=tsN m r.toNat:=by
 have w11:∀{l1 l2:List Int},l1.Pairwise (· > ·)->l2.Pairwise (· > ·)->(∀x,x∈l1↔x∈l2)->l1=l2:=fun {l1 l2} p1 p2 h=>by
  have e:=z1N (l1:=l1.reverse) (l2:=l2.reverse) (j9.mpr p1) (j9.mpr p2) fun x=>by rw[fZ,fZ];exact h x
  have e2:=congrArg List.reverse e
  rw[g0,g0] at e2
  exact e2
 refine w11 ((z84 _ _).filter _) ((z84 _ _).filter _) fun x=>?_
 rw[z7H]
 unfold z6w
 rw[cI,z9M,decide_eq_true_eq]
 omega
theorem y4z(rows:List Row)(x:Row)(r:Int)(r0:0≤r):y5z (rows++[x]) ((rows.length:Int)+1) r=tsD (rows.map z0S) r:=by
 unfold y5z tsD
 rw[y2H _ _ r0,b7]
 congr 1
 refine dZ fun k hk=>?_
 have hk:=z7H.mp hk
 unfold y2r tsP z0y
 have h1:(k-1).toNat<rows.length:=by omega
 rw[bL,bL,dF h1,bB,bC h1]
 rfl
theorem y2c{A1:Addr}(M:Bl mg)(T:J2 K mg A1)(F:Fun K "write" "Office.write" z3V f fd)(B2:D2 P w K mg base 3 A1 "refuse_writing" z15 (z7N K (OfD K A1)))
  (C9:Cal P w K mg base 1 "names_of_rows" z2x y0U) (K0:Cal P w K mg base 1 "rows_in_order" z3o (z9S K)) (P5:Cal P w K mg base 2 "tail_for" z7Y (y60 K)) :
  A7 P w K mg base CX0 4 f fd z3O (y0b K (OfD K A1)):=by
 have nd:=z54.nd
 refine F.ok z54 (fun vs H Q E h=>?_) (fun cdv A outer s H vs Q E hr h=>?_)
 ·obtain⟨p,v,fp,zs,r,rows,pr,rfl,_⟩:=h
  rfl
 obtain⟨p,v,fp,zs,r,rows,pr,rfl,of,⟨a,us,rfl,ha,na,hp⟩,gr,l12,l60,k⟩:=h
 refine⟨_,(z04 (z0C (z2a B2 (rm hr) (pv 0) (z00 (pv 1) z02))) (z04 (z0p (i:=2) nd rfl (Or.inl rfl) (z0t z1g (z0b z09 rfl M.len bK (z00 (z0I (pv 0) rfl) z02)) z06)) (z04 (z5J (i:=3) ["issue"] [] [] rfl nd rfl (Or.inl rfl) (z0v rfl (by decide +kernel) rfl (by decide +kernel) rfl rfl) (z1w (z0I (pv 0) rfl)) (fun _ _ _ _ _=>(z0j (i:=0) (show((["issue"]:List PySem.Str)++([]:List PySem.Str)).Nodup from by decide +kernel) rfl (Or.inl rfl))) (z0w (by decide)) z0h (fun _ _ _ _ _=>z2g) (fun _ _ _ _ _=>(z0i C9 (rm hr) rfl (z00 (z0z (r:=P4 K) z0A (pv 0) z06 (fun _ _=>rfl)) z02)))) (z04 (z0C (z2N bR bV bX z0L (z0I (pv 0) rfl) (z00 (z0Q (z00 (pv 2) (z00 (z0i K0 (rm hr) rfl (z00 (z0I (pv 0) rfl) (z00 (pv 1) z02))) (z00 (z0i P5 (rm hr) rfl (z00 (pv 3) (z00 (z0I (pv 0) rfl) z02))) z02)))) z02))) (z05 (z0f (pv 2))))))),?_⟩
 have hp':=z2I.of hp
 obtain⟨dx,pn,pl,fs,xs,rfl,h1,h2,h3,h4,l1,l2,l3,lm,tl,r60,w12,g,r0,r1⟩:=id of
 have lx:xs.length=rows.length:=by rw[tl.length,b7,z0M]
 refine⟨_,rfl,p,dx,fs,rfl,h1,lm _ (by simp),_,rfl,p,a,_,zs,r,rows,us,pr,rfl,of,ha,hp',gr,l12,l60,fun H1 s1=>?_⟩
 refine⟨_,rfl,p,A1,dx,fs,_,rfl,s1 _ _ h1,T.cl,T.n_written,l3,pl,xs,rfl,.inl (SqL.of (s1 _ _ h4)),_,_,rfl,rfl,?_⟩
 refine⟨_,rfl,p,A1,dx,fs,_,rfl,s1 _ _ h1,T.cl,T.n_written,l3,pl,rfl,⟨_,SqL.of (s1 _ _ h4)⟩,?_⟩
 refine z3D (xs:=xs) (fun i ys H'=>A3 H1 H'/\z08 H' (((rows.take i).map z0S).map K4) ys) ⟨A3.refl _,by rw[cS];exact .nil⟩ (fun i ys H' hi hq=>?_) (fun i x ys H' hx hq=>?_) (fun ys H' hq=>?_)
 ·obtain⟨gg,t⟩:=hq
  refine⟨SqL.of (gg _ _ (s1 _ _ h4)),z0e ?_⟩
  rw[t.length,b7,b7,bH]
  omega
 ·obtain⟨gg,t⟩:=hq
  have hi:i<rows.length:=by
   have:=(bW.mp hx).1
   omega
  obtain⟨d,ed,td⟩:=tl.at i x hx
  unfold upI at ed
  rw[bB,bB,gI hi] at ed
  have ed':z10 rows (1+(i:Int)) r=d:=Option.some.inj ed
  subst ed'
  have ew:z0y rows (1+(i:Int))=rows[i]:=by
   unfold z0y
   rw[show(1+(i:Int)-1).toNat=i by omega,bL,bC hi]
   rfl
  obtain⟨b,bs,rfl,eb,_,tb⟩:=z0g td
  obtain⟨x0,ur,rfl,t0,tb⟩:=z0d tb
  obtain⟨x1,ur,rfl,t1,tb⟩:=z0d tb
  rw[ew] at t1
  obtain⟨c,cs,rfl,ec,_,tc⟩:=z0g t1
  refine⟨_,rfl,b,_,_,_,rfl,rfl,SqT.of (gg _ _ (s1 _ _ eb)),z0K rfl,c,cs,rows[i],rfl,gg _ _ (s1 _ _ ec),z08.keep (s1.trans gg) _ _ tc,w12 _ (fX hi),fun l H2 s2 e2=>⟨gg.trans s2,?_⟩⟩
  rw[z0n (bC hi),bD,bD]
  refine z08.snoc (z08.keep s2 _ _ t) (z0r e2 ?_ (z2v _))
  have:=w12 _ (fX hi)
  unfold z0S
  rw[b7,b7]
  omega
 obtain⟨gg,t⟩:=hq
 rw[lx,bT] at t
 intro D hD
 have s2:=s1.trans (gg.trans (z01 hD (.lst ys)))
 have eD:upd H' D (.lst ys) D=some (.lst ys):=z03
 have t2:=z08.keep (z01 hD (.lst ys)) _ _ t
 generalize upd H' D (.lst ys)=H2 at s2 eD t2
 have l60':((rows.map z0S)).length≤59:=by rw[b7];omega
 refine⟨_,rfl,p,A1,dx,fs,_,rfl,s2 _ _ h1,T.cl,T.n_written,l3,.inl ⟨rfl,_,SqL.of (s2 _ _ h4)⟩,?_⟩
 refine⟨_,rfl,_,rfl,p,A1,dx,fs,_,rfl,s2 _ _ h1,T.cl,T.n_names,l1,_,rfl,pn,a,zs,us,pr,rfl,.inr (SqT.of (s2 _ _ h3)),g.hi,SqP.keep s2 ha,z2I.keep s2 hp',gr.nd,l12,fun v1 H3 s3 tv1=>?_⟩
 have s23:=s2.trans s3
 refine⟨_,rfl,_,rfl,p,A1,dx,fs,_,rfl,s23 _ _ h1,T.cl,T.n_reach,l2,D,ys,rows.map z0S,r,rfl,.inl (SqL.of (s3 _ _ eD)),z08.keep s3 _ _ t2,l60',?_,r0,r1,fun v2 H4 s4 tv2=>?_⟩
 ·intro w' hw'
  obtain⟨w0,hw0,rfl⟩:=cO.mp hw'
  have:=w12 w0 hw0
  unfold z0S
  rw[b7]
  exact this
 refine⟨(by show 3≤sizeLine;decide),fun q hq=>?_⟩
 have s24:=s23.trans (s4.trans (z01 hq (.tup [V.int ((xs.length:Int)+1),v1,v2])))
 have eq':upd H4 q (.tup [V.int ((xs.length:Int)+1),v1,v2]) q=some (.tup [V.int ((xs.length:Int)+1),v1,v2]):=z03
 have tv1':=A5.keep (s4.trans (z01 hq (.tup [V.int ((xs.length:Int)+1),v1,v2]))) _ _ tv1
 have tv2':=A5.keep (z01 hq (.tup [V.int ((xs.length:Int)+1),v1,v2])) _ _ tv2
 generalize upd H4 q (.tup [V.int ((xs.length:Int)+1),v1,v2])=H5 at s24 eq' tv1' tv2'
 refine⟨pl,xs,.ref q,rfl,rfl,s24 _ _ h4,z0e (by omega),?_⟩
 refine⟨_,rfl,?_⟩
 have np:p≠pl:=z4W h1 h4 (fun z=>by cases z)
 have nx:dx≠pl:=z4W h2 h4 (fun z=>by cases z)
 have nn:pn≠pl:=z4W h3 h4 (fun z=>by cases z)
 have h5:=s24 _ _ h4
 have e:=k [p,dx,pl] (upd H5 pl (.lst (xs++[.ref q]))) (fun b hb=>.inl hb) (fun b o e nb=>by rw[z0k (fun z=>nb (by rw[z];simp))];exact s24 _ _ e)
  ⟨dx,pn,pl,fs,_,rfl,by rw[z0k np];exact s24 _ _ h1,by rw[z0k nx];exact s24 _ _ h2,by rw[z0k nn];exact s24 _ _ h3,z03,l1,l2,l3,lm,?_,?_,?_,g,r0,r1⟩
 ·rw[<- lx] at e
  exact e
 ·refine z08.over h5 (fun _ z=>by cases z) _ _ ?_
  rw[bG,dH,z62,bD]
  have e1:(upI 1 rows.length).map (fun n=>z10 (rows++[z1o zs pr]) n r)=(upI 1 rows.length).map fun n=>z10 rows n r:=dZ fun n hn=>by
   have:=z13.mp hn
   exact y1c rows _ (by omega) (by omega)
  rw[e1]
  refine z08.snoc (z08.keep s24 _ _ tl) ?_
  have en:(1:Int)+(rows.length:Int)=(rows.length:Int)+1:=by omega
  have er:z0y (rows++[z1o zs pr]) ((rows.length:Int)+1)=z1o zs pr:=by
   unfold z0y
   rw[show((rows.length:Int)+1-1).toNat=rows.length by omega,bL,List.getElem?_concat_length]
   rfl
  show A5 H5 (z10 (rows++[z1o zs pr]) (1+(rows.length:Int)) r) (.ref q)
  unfold z10
  rw[en,er,y4z rows _ r r0]
  rw[lx] at eq'
  exact z0r eq' (by show 3≤1000000;decide) (.cons (z0H _) (.cons tv1' (.cons tv2' .nil)))
 ·rw[bG,dH]
  omega
 ·intro w' hw'
  rcases bN.mp hw' with hw'|hw'
  ·exact w12 w' hw'
  ·rw[b8] at hw'
   rw[hw']
   exact cM (z5n zs pr) g.hi
abbrev C1:=Option Int×Int
def z3j:C1->List V
 | (none,n)=>[.str "write",.int n]
 | (some r,n)=>[.str "deliver",.int r,.int n]
def z55(H:Hp)(u:V)(d:C1):Prop:=∃b,u=.ref b/\H b=some (.tup (z3j d))
theorem z3H{H:Hp}{us:List V}{log:List C1}(h:Paired (z55 H) us log):us.length=log.length:=by
 induction h with
 | nil=>rfl
 | cons _ _ ih=>rw[cH,cH,ih]
def R6(log:List C1)(rd:Int):List Int:=log.foldl (fun acc d=>if d.1=some rd then Q8 acc d.2 else acc) []
theorem y4m(log:List C1)(d:C1)(rd:Int):R6 (log++[d]) rd=if d.1=some rd then Q8 (R6 log rd) d.2 else R6 log rd:=by
 unfold R6
 rw[fR]
 rfl
theorem y4N{log:List C1}{rd n:Int}:n∈R6 log rd↔((some rd,n):C1)∈log:=by
 have go:∀(log:List C1) (acc:List Int),n∈log.foldl (fun acc d=>if d.1=some rd then Q8 acc d.2 else acc) acc↔n∈acc\/((some rd,n):C1)∈log:=by
  intro log
  induction log with
  | nil=>intro acc;exact⟨.inl,fun h=>h.elim id fun q=>(nomatch q)⟩
  | cons d log ih=>
   intro acc
   rw[dB,ih,bA]
   obtain⟨a,m⟩:=d
   by_cases c:a=some rd
   ·subst c
    rw[if_pos rfl,y1O,or_assoc]
    exact or_congr Iff.rfl (or_congr ⟨fun e=>by rw[e],fun e=>congrArg Prod.snd e⟩ Iff.rfl)
   ·rw[if_neg c]
    exact or_congr Iff.rfl ⟨.inr,fun h=>h.elim (fun e=>absurd (congrArg Prod.fst e).symm c) id⟩
 unfold R6
 rw[go]
 exact⟨fun h=>h.elim (fun q=>(nomatch q)) id,.inr⟩
abbrev BkP:=Hp->Addr->List Addr->List Str->Int->Int->List Row->List C1->Prop
structure V8(C:Addr)(ms:List Str)(Bk:BkP):Prop where
 ins:∀{H p fp zs r k rows log},Bk H p fp zs r k rows log->∃dx fs,H p=some (.ins C dx fs)/\∀m∈ms,fs.lookup m=none
 own:∀{H p fp zs r k rows log},Bk H p fp zs r k rows log->∀b∈fp,∃o,H b=some o/\∀xs,o≠.tup xs
 keep:∀{H H' p fp gp zs r k rows log},Bk H p fp zs r k rows log->z0B gp H H'->(∀b∈gp,b∉fp)->z5G H gp->Bk H' p fp zs r k rows log
theorem V8.same{C:Addr}{ms:List Str}{Bk:BkP}(O:V8 C ms Bk){H H':Hp}{p:Addr}{fp:List Addr}{zs:List Str}{r k:Int}{rows:List Row}{log:List C1}(h:Bk H p fp zs r k rows log)(s:A3 H H'):Bk H' p fp zs r k rows log:=
 O.keep (gp:=[]) h (.of s) (fun _ q=>by cases q) fun _ q=>by cases q
theorem V8.Q7{C:Addr}{ms:List Str}{Bk:BkP}(O:V8 C ms Bk){H:Hp}{p:Addr}{fp:List Addr}{zs:List Str}{r k:Int}{rows:List Row}{log:List C1}(h:Bk H p fp zs r k rows log):z5G H fp:=fun b m xs e=>by
 obtain⟨o,e1,n⟩:=O.own h b m
 rw[e1] at e
 exact n xs (Option.some.inj e)
def y1f(K:PySem.W.Frag)(C:Addr)(Bk:BkP):Sp:=fun vs H Q _=>∃(x dx pn:Addr) (zs:List Str) (r k:Int),vs=[.ref x,.ref pn,.int r,.int k]/\H x=some (.ins C dx [])/\dx≠x/\H dx=some (.own x)/\HdN K H pn zs/\D6 zs/\0≤r/\r≤10/\1≤k/\k≤10/\
 ∀(fp:List Addr) (H':Hp),(∀b∈fp,b=x\/b=dx\/H b=none)->z0B [x] H H'->Bk H' x fp zs r k [] []->Q .non H'
def y0o(K:PySem.W.Frag)(Bk:BkP):Sp:=fun vs H Q _=>∃(p:Addr) (v:V) (fp:List Addr) (zs:List Str) (r k:Int) (rows:List Row) (log:List C1) (pr:Row),vs=[.ref p,v]/\Bk H p fp zs r k rows log/\y3U K H fp v pr/\GoodR zs pr/\pr.length≤12/\rows.length<60/\log.length<400/\
 ∀(fp':List Addr) (H':Hp),(∀b∈fp',b∈fp\/H b=none)->z0B fp H H'->Bk H' p fp' zs r k (rows++[z1o zs pr]) (log++[(none,(rows.length:Int)+1)])->Q (.int (rows.length+1)) H'
def z7y(Bk:BkP):Sp:=fun vs H Q _=>∃(p:Addr) (fp:List Addr) (zs:List Str) (r k:Int) (rows:List Row) (log:List C1) (rd n:Int),vs=[.ref p,.int rd,.int n]/\Bk H p fp zs r k rows log/\1≤rd/\rd≤k/\1≤n/\n≤rows.length/\log.length<400/\
 ∀(H':Hp),z0B fp H H'->Bk H' p fp zs r k rows (log++[(some rd,n)])->Q (.bl (decide (((some rd,n):C1)∉log))) H'
def y3l(Bk:BkP):Sp:=fun vs H Q _=>∃(p:Addr) (fp:List Addr) (zs:List Str) (r k:Int) (rows:List Row) (log:List C1),vs=[.ref p]/\Bk H p fp zs r k rows log/\Q (.int log.length) H
def w01:Option Nat->V
 | none=>.non
 | some d=>.int d
def z64(Bk:BkP)(Sh:ShP):Sp:=fun vs H Q _=>∃(p:Addr) (fp:List Addr) (zs:List Str) (r k:Int) (rows:List Row) (log:List C1) (rd:Int) (o:Option Nat),vs=[.ref p,.int rd,w01 o]/\Bk H p fp zs r k rows log/\1≤rd/\rd≤k/\(∀d,o=some d->d≤log.length)/\
 ∀(x:Addr) (fq:List Addr) (H':Hp),(∀b∈fq,H b=none)->A3 H H'->Sh H' x fq zs r (fun n=>z10 rows n r) (R6 (log.take (o.getD log.length)) rd)->Q (.ref x) H'
theorem S2.but{fp:List Addr}{H H':Hp}{us:List V}{log:List C1}(s:z0B fp H H')(n:z5G H fp)(h:Paired (z55 H) us log):Paired (z55 H') us log:=
 L2.Paired.V6 h fun u d ⟨b,e,q⟩=>⟨b,e,s _ _ q fun m=>n b m _ q⟩
structure BkIn(K:PySem.W.Frag)(CB CO:Addr)(H:Hp)(p dx po pd:Addr)(fs:List (Str×V))(fo:List Addr)(us:List V)(zs:List Str)(r k:Int)(rows:List Row)(log:List C1):Prop where
 hp:H p=some (.ins CB dx fs)
 hdx:H dx=some (.own p)
 of:OfD K CO H po fo zs r rows
 hd:H pd=some (.lst us)
 ds:Paired (z55 H) us log
 npo:p∉fo
 ndo:dx∉fo
 ndn:pd∉fo
 lo:fs.lookup ("office":Str)=some (V.ref po)
 lr:fs.lookup ("readers":Str)=some (V.int k)
 ld:fs.lookup ("done":Str)=some (V.ref pd)
 lm:∀m∈(["refuse_unknown_reader","refuse_further_deed","write","deliver","latest","issue","deeds","deed","shelf"]:List Str),fs.lookup m=none
 l4:log.length≤400
 in1:∀d∈log,1≤d.2/\d.2≤rows.length
 k1:1≤k
 k10:k≤10
def BkD(K:PySem.W.Frag)(CB CO:Addr):BkP:=fun H p fp zs r k rows log=>∃(dx po pd:Addr) (fs:List (Str×V)) (fo:List Addr) (us:List V),fp=p::dx::pd::fo/\BkIn K CB CO H p dx po pd fs fo us zs r k rows log
theorem Z3{K:PySem.W.Frag}{CB CO:Addr}:V8 CB ["write","deliver","latest","issue","deeds","deed","shelf"] (BkD K CB CO):=by
 refine⟨fun h=>?_,fun h b hb=>?_,fun h s out nt=>?_⟩
 ·obtain⟨dx,po,pd,fs,fo,us,rfl,B⟩:=h
  refine⟨dx,fs,B.hp,fun m hm=>B.lm m ?_⟩
  exact bS _ (bS _ hm)
 ·obtain⟨dx,po,pd,fs,fo,us,rfl,B⟩:=h
  rcases bA.mp hb with rfl|hb
  ·exact⟨_,B.hp,fun xs z=>by cases z⟩
  rcases bA.mp hb with rfl|hb
  ·exact⟨_,B.hdx,fun xs z=>by cases z⟩
  rcases bA.mp hb with rfl|hb
  ·exact⟨_,B.hd,fun xs z=>by cases z⟩
  exact P0.own B.of b hb
 ·obtain⟨dx,po,pd,fs,fo,us,rfl,B⟩:=h
  exact⟨dx,po,pd,fs,fo,us,rfl,{ B with
   hp:=s _ _ B.hp fun m=>out _ m (by simp)
   hdx:=s _ _ B.hdx fun m=>out _ m (by simp)
   of:=P0.keep B.of s (fun b m z=>out b m (by simp[z])) nt
   hd:=s _ _ B.hd fun m=>out _ m (by simp)
   ds:=S2.but s nt B.ds }⟩
def z6Z:Sp:=fun vs H Q _=>∃k:Int,vs=[.int k]/\1≤k/\k≤10/\Q .non H
theorem z9N(M:Bl mg)(F:Fun K "refuse_bad_readers" "refuse_bad_readers" z22 f fd):A7 P w K mg base CX0 1 f fd z20 z6Z:=by
 have nd:=z2M.nd
 refine F.ok z2M (fun vs H Q E h=>?_) (fun cdv A outer s H vs Q E hr h=>?_)
 ·obtain⟨r,rfl,_⟩:=h
  rfl
 ·obtain⟨r,rfl,r0,r1,k⟩:=h
  refine⟨_,(z05 (z0D (PW.pt (z3a (z0a z8x (pv 0) z06 (z0m _)) (z1T (z0a z2k (pv 0) (z2P rfl M.MOST_READERS) (z0m _))))) (z05 z1x) z0l)),?_⟩
  refine⟨_,rfl,_,_,rfl,rfl,_,rfl,B0 (fun q=>absurd (z0F q) (by omega)) fun _=>?_⟩
  exact⟨_,rfl,_,_,rfl,rfl,_,rfl,B0 (fun q=>absurd (z0F q) (by omega)) fun _=>k⟩
def z5A(Bk:BkP):Sp:=fun vs H Q _=>∃(p:Addr) (fp:List Addr) (zs:List Str) (r k:Int) (rows:List Row) (log:List C1) (rd:Int),vs=[.ref p,.int rd]/\Bk H p fp zs r k rows log/\1≤rd/\rd≤k/\Q .non H
theorem y04{A4 A1:Addr}(M:Bl mg)(T:J3 K mg A4)(F:Fun K "refuse_unknown_reader" "Book.refuse_unknown_reader" z14 f fd):A7 P w K mg base CX0 1 f fd z0O (z5A (BkD K A4 A1)):=by
 have nd:=z1z.nd
 refine F.ok z1z (fun vs H Q E h=>?_) (fun cdv A outer s H vs Q E hr h=>?_)
 ·obtain⟨p,fp,zs,r,k,rows,log,rd,rfl,_⟩:=h
  rfl
 obtain⟨p,fp,zs,r,k,rows,log,rd,rfl,⟨dx,po,pd,fs,fo,us,rfl,B⟩,r1,r2,q⟩:=h
 refine⟨_,(z05 (z0D (PW.pt (z3a (z0a z8x (pv 1) z06 (z0m _)) (z1T (z0a z2k (pv 1) (z0I (pv 0) rfl) (z0m _))))) (z05 z1x) z0l)),?_⟩
 refine⟨_,rfl,_,_,rfl,rfl,_,rfl,B0 (fun q=>absurd (z0F q) (by omega)) fun _=>?_⟩
 exact⟨_,rfl,_,rfl,p,A4,dx,fs,_,rfl,B.hp,T.cl,T.n_readers,B.lr,_,_,rfl,rfl,_,rfl,B0 (fun q=>absurd (z0F q) (by omega)) fun _=>q⟩
def z8o(Bk:BkP):Sp:=fun vs H Q _=>∃(p:Addr) (fp:List Addr) (zs:List Str) (r k:Int) (rows:List Row) (log:List C1),vs=[.ref p]/\Bk H p fp zs r k rows log/\log.length<400/\Q .non H
theorem y2w{A4 A1:Addr}(M:Bl mg)(T:J3 K mg A4)(F:Fun K "refuse_further_deed" "Book.refuse_further_deed" z1f f fd):A7 P w K mg base CX0 1 f fd z0X (z8o (BkD K A4 A1)):=by
 have nd:=z1O.nd
 refine F.ok z1O (fun vs H Q E h=>?_) (fun cdv A outer s H vs Q E hr h=>?_)
 ·obtain⟨p,fp,zs,r,k,rows,log,rfl,_⟩:=h
  rfl
 obtain⟨p,fp,zs,r,k,rows,log,rfl,⟨dx,po,pd,fs,fo,us,rfl,B⟩,l4,q⟩:=h
 refine⟨_,(z05 (z0D (z0a y3q (z0b z09 rfl M.len bK (z00 (z0I (pv 0) rfl) z02)) (z2P rfl M.MOST_DEEDS) (z0m _)) (z05 z1x) z0l)),?_⟩
 have lu:=z3H B.ds
 exact⟨_,rfl,p,A4,dx,fs,_,rfl,B.hp,T.cl,T.n_done,B.ld,pd,us,rfl,.inl (SqL.of B.hd),_,_,rfl,rfl,_,rfl,B0 (fun q=>absurd (z0F q) (by omega)) fun _=>q⟩
theorem y2o{A4 A1:Addr}(M:Bl mg)(T:J3 K mg A4)(F:Fun K "deeds" "Book.deeds" z5B f fd):A7 P w K mg base CX0 1 f fd z7O (y3l (BkD K A4 A1)):=by
 have nd:=z7i.nd
 refine F.ok z7i (fun vs H Q E h=>?_) (fun cdv A outer s H vs Q E hr h=>?_)
 ·obtain⟨p,fp,zs,r,k,rows,log,rfl,_⟩:=h
  rfl
 obtain⟨p,fp,zs,r,k,rows,log,rfl,⟨dx,po,pd,fs,fo,us,rfl,B⟩,q⟩:=h
 refine⟨_,(z05 (z0f (z0b z09 rfl M.len bK (z00 (z0I (pv 0) rfl) z02)))),?_⟩
 have lu:=z3H B.ds
 refine⟨_,rfl,p,A4,dx,fs,_,rfl,B.hp,T.cl,T.n_done,B.ld,pd,us,rfl,.inl (SqL.of B.hd),?_⟩
 rw[lu]
 exact q
theorem y4D{A4 A1:Addr}(M:Bl mg)(T:J3 K mg A4)(F:Fun K "__init__" "Book.__init__" z3x f fd)(S0:Mkr P w K mg base 3 A1 "Office" z2H (y1y K A1 (OfD K A1)))
  (D8:Cal P w K mg base 1 "refuse_bad_readers" z20 z6Z):A7 P w K mg base CX0 6 f fd z3m (y1f K A4 (BkD K A4 A1)):=by
 have nd:=z4r.nd
 refine F.ok z4r (fun vs H Q E h=>?_) (fun cdv A outer s H vs Q E hr h=>?_)
 ·obtain⟨x,dx,pn,zs,r,k,rfl,_⟩:=h
  rfl
 obtain⟨x,dx,pn,zs,r,k,rfl,hx,ne,hdx,hn,g,r0,r1,k1,k10,q⟩:=h
 refine⟨_,(z04 (z6f (pv 0) (y4j S0 (rm hr) rfl (z00 (pv 1) (z00 (pv 2) z02))) rfl) (z04 (z0C (z0i D8 (rm hr) rfl (z00 (pv 3) z02))) (z04 (z6f (pv 0) (pv 3) rfl) (z05 (z6f (pv 0) (z1i z02) rfl))))),?_⟩
 refine⟨_,rfl,_,rfl,fun po dxo nx ndx neo=>?_⟩
 have m1:=z8b (C:=A1) (A3.refl H) nx ndx
 refine⟨po,dxo,pn,zs,r,rfl,z03,neo,by rw[z0k neo,z03],HdN.keep m1 hn,g,r0,r1,fun fo H1 ff sb of=>⟨rfl,?_⟩⟩
 have s1:A3 H H1:=z86 sb m1 nx
 have f1:∀b∈fo,H b=none:=fun b hb=>z6t m1 nx ndx (ff b hb)
 refine⟨_,rfl,x,A4,dx,[],rfl,s1 _ _ hx,T.cl,T.n_office,by decide,?_⟩
 have z1:=z1D "office" (.ref po) []
 have z2:=z1D "readers" (.int k) (J1 "office" (.ref po) [])
 have z0:([]:List (Str×V)).length=0:=rfl
 refine⟨_,rfl,k,rfl,k1,k10,?_⟩
 refine⟨_,rfl,_,rfl,x,A4,dx,_,rfl,z03,T.cl,T.n_readers,(by omega),?_⟩
 rw[z5f]
 refine⟨(by show 0≤sizeLine;decide),fun pd hd=>?_⟩
 have nxp:x≠pd:=z0q z03 hd
 have dfr:H1 pd=none:=by rw[z0k (dE nxp)] at hd;exact hd
 have ndd:dx≠pd:=z0q (s1 _ _ hdx) dfr
 have out:∀{b:Addr}{o:HO},H b=some o->b∉fo:=fun e m=>by rw[f1 _ m] at e;cases e
 refine⟨_,rfl,x,A4,dx,_,rfl,(by rw[z0k nxp,z03]),T.cl,T.n_done,(by omega),?_⟩
 have sx:z0B [x] H1 (upd (upd (upd H1 x (.ins A4 dx (J1 "readers" (.int k) (J1 "office" (.ref po) [])))) pd (.lst [])) x (.ins A4 dx (J1 "done" (.ref pd) (J1 "readers" (.int k) (J1 "office" (.ref po) []))))):=fun b o e nb=>by
  rw[b8] at nb
  rw[z0k nb,z0k (z0q e dfr),z0k nb]
  exact e
 refine q (x::dx::pd::fo) _ (fun b hb=>?_) (fun b o e nb=>sx b o (s1 _ _ e) nb) ⟨dx,po,pd,_,fo,[],rfl,⟨z03,?_,?_,?_,.nil,out hx,out hdx,?_,?_,?_,?_,?_,by decide,fun _ q=>(nomatch q),k1,k10⟩⟩
 ·rcases bA.mp hb with rfl|hb
  ·exact .inl rfl
  rcases bA.mp hb with rfl|hb
  ·exact .inr (.inl rfl)
  rcases bA.mp hb with rfl|hb
  ·exact .inr (.inr (s1.free dfr))
  ·exact .inr (.inr (f1 b hb))
 ·exact sx _ _ (s1 _ _ hdx) (by rw[b8];exact ne)
 ·refine P0.keep of sx (fun b m=>?_) fun b m xs e=>?_
  ·rw[b8.mp m]
   exact out hx
  ·rw[b8.mp m,s1 _ _ hx] at e
   cases e
 ·rw[z0k (dE nxp),z03]
 ·intro m
  obtain⟨o,e,_⟩:=P0.own of pd m
  rw[dfr] at e
  cases e
 ·rw[z0s,if_neg (by decide +kernel),z0s,if_neg (by decide +kernel),z0s,if_pos rfl]
 ·rw[z0s,if_neg (by decide +kernel),z0s,if_pos rfl]
 ·rw[z0s,if_pos rfl]
 ·intro m hm
  simp only[bA,dX,or_false] at hm
  rcases hm with rfl|rfl|rfl|rfl|rfl|rfl|rfl|rfl|rfl<;>rw[z0s,if_neg (by decide +kernel),z0s,if_neg (by decide +kernel),z0s,if_neg (by decide +kernel)]<;>rfl
theorem y68{K:PySem.W.Frag}{CB CO:Addr}{H H1:Hp}{p dx po pd t:Addr}{fs:List (Str×V)}{fo fo':List Addr}{us:List V}{zs:List Str}{r k:Int}{rows V2:List Row}{log:List C1}{d:C1}(B:BkIn K CB CO H p dx po pd fs fo us zs r k rows log)
  (sb:z0B fo H H1) (of:OfD K CO H1 po fo' zs r V2) (ff:∀b∈fo',b∈fo\/H b=none) (ht:H1 t=some (.tup (z3j d))) (hl:rows.length≤V2.length) (hd1:1≤d.2/\d.2≤V2.length) (l4:log.length<400) :
  z0B (p::dx::pd::fo) H (upd H1 pd (.lst (us++[.ref t])))/\BkD K CB CO (upd H1 pd (.lst (us++[.ref t]))) p (p::dx::pd::fo') zs r k V2 (log++[d]):=by
 have ntf:z5G H fo:=P0.Q7 B.of
 have hd':=sb _ _ B.hd B.ndn
 have out:∀{b:Addr}{o:HO},H b=some o->b∉fo->b∉fo':=fun e n m=>(ff _ m).elim n fun z=>by rw[z] at e;cases e
 have s2:z0B [pd] H1 (upd H1 pd (.lst (us++[.ref t]))):=fun b o e nb=>by
  rw[b8] at nb
  rw[z0k nb]
  exact e
 have nt2:z5G H1 [pd]:=fun b m xs e=>by
  rw[b8.mp m,hd'] at e
  cases e
 have npd:p≠pd:=z4W B.hp B.hd (fun z=>by cases z)
 have ndd:dx≠pd:=z4W B.hdx B.hd (fun z=>by cases z)
 refine⟨fun b o e nb=>?_,dx,po,pd,fs,fo',us++[.ref t],rfl,{ B with
  hp:=by rw[z0k npd];exact sb _ _ B.hp B.npo
  hdx:=by rw[z0k ndd];exact sb _ _ B.hdx B.ndo
  of:=P0.keep of s2 (fun b m=>by rw[b8.mp m];exact out B.hd B.ndn) nt2
  hd:=z03
  ds:=?_
  npo:=out B.hp B.npo
  ndo:=out B.hdx B.ndo
  ndn:=out B.hd B.ndn
  l4:=by rw[bG];exact l4
  in1:=fun x hx=>?_ }⟩
 ·rw[bA,bA,bA,not_or,not_or,not_or] at nb
  rw[z0k nb.2.2.1]
  exact sb _ _ e nb.2.2.2
 ·exact jI (S2.but s2 nt2 (S2.but sb ntf B.ds)) ⟨t,rfl,s2 _ _ ht fun m=>nt2 t m _ ht⟩
 ·rcases bN.mp hx with hx|hx
  ·have:=B.in1 x hx
   omega
  ·rw[b8.mp hx]
   exact hd1
theorem y23{A4 A1:Addr}(M:Bl mg)(T:J3 K mg A4)(F:Fun K "write" "Book.write" z5v f fd)(B2:D2 P w K mg base 3 A1 "refuse_writing" z15 (z7N K (OfD K A1)))
  (K8:D2 P w K mg base 4 A1 "write" z3O (y0b K (OfD K A1))) (A9:D2 P w K mg base 1 A4 "refuse_further_deed" z0X (z8o (BkD K A4 A1))) :
  A7 P w K mg base CX0 5 f fd z5w (y0o K (BkD K A4 A1)):=by
 have nd:=z75.nd
 refine F.ok z75 (fun vs H Q E h=>?_) (fun cdv A outer s H vs Q E hr h=>?_)
 ·obtain⟨p,v,fp,zs,r,k,rows,log,pr,rfl,_⟩:=h
  rfl
 obtain⟨p,v,fp,zs,r,k,rows,log,pr,rfl,bk,⟨a,vs,rfl,ha,na,hpr⟩,gr,l12,l60,l4,q⟩:=h
 refine⟨_,(z04 (z0C (z2a B2 (rm hr) (z0I (pv 0) rfl) (z00 (pv 1) z02))) (z04 (z0C (z1M A9 (rm hr) (pv 0))) (z04 (z0p (i:=2) nd rfl (Or.inl rfl) (z2a K8 (rm hr) (z0I (pv 0) rfl) (z00 (pv 1) z02))) (z04 (z0C (z2N bR bV bX z0L (z0I (pv 0) rfl) (z00 (z0Q (z00 (z26 rfl M.WRITE) (z00 (pv 2) z02))) z02))) (z05 (z0f (pv 2))))))),?_⟩
 obtain⟨dx,po,pd,fs,fo,us,rfl,B⟩:=id bk
 have no:∀{b:Addr},b∉p::dx::pd::fo->b∉fo:=fun n m=>n (by simp[m])
 have hand:Paired (z9b K H fo) vs pr:=L2.Paired.V6 hpr fun u x ⟨b,e,q,n⟩=>⟨b,e,q,no n⟩
 obtain⟨dxo,pno,plo,fso,xso,efo,h1,h2,h3,h4,l1,l2,l3,lmo,_⟩:=id B.of
 refine⟨_,rfl,p,A4,dx,fs,_,rfl,B.hp,T.cl,T.n_office,B.lo,po,dxo,fso,rfl,h1,lmo _ (by simp),_,rfl,po,a,fo,zs,r,rows,vs,pr,rfl,B.of,ha,z2I.of hand,gr,l12,l60,fun H1 s1=>?_⟩
 refine⟨_,rfl,p,dx,fs,rfl,s1 _ _ B.hp,B.lm _ (by simp),p,_,zs,r,k,rows,log,rfl,Z3.same bk s1,l4,?_⟩
 have ha1:y3U K H1 fo (.ref a) pr:=⟨a,vs,rfl,SqP.keep s1 ha,no na,L2.Paired.V6 hand fun u x ⟨b,e,q,n⟩=>⟨b,e,q.imp (fun z=>s1.seq z) fun z=>z7s s1 z,n⟩⟩
 refine⟨_,rfl,p,A4,dx,fs,_,rfl,s1 _ _ B.hp,T.cl,T.n_office,B.lo,po,dxo,fso,rfl,s1 _ _ h1,lmo _ (by simp),_,rfl,po,.ref a,fo,zs,r,rows,pr,rfl,P0.same B.of s1,ha1,gr,l12,l60,fun fo' H2 ff sb of2=>?_⟩
 have sb2:z0B fo H H2:=fun b o e n=>sb _ _ (s1 _ _ e) n
 have lu:=z3H B.ds
 refine⟨_,rfl,p,A4,dx,fs,_,rfl,sb2 _ _ B.hp B.npo,T.cl,T.n_done,B.ld,.inl ⟨rfl,_,SqL.of (sb2 _ _ B.hd B.ndn)⟩,?_⟩
 refine⟨_,rfl,(by show 2≤sizeLine;decide),fun t ht=>⟨pd,us,_,rfl,rfl,z01 ht _ _ _ (sb2 _ _ B.hd B.ndn),z0e (by omega),?_⟩⟩
 have s3:=z01 ht (.tup [V.str "write",V.int ((rows.length:Int)+1)])
 have et:upd H2 t (.tup [V.str "write",V.int ((rows.length:Int)+1)]) t=some (.tup (z3j (none,(rows.length:Int)+1))):=z03
 have sb3:z0B fo H (upd H2 t (.tup [V.str "write",V.int ((rows.length:Int)+1)])):=fun b o e n=>s3 _ _ (sb2 _ _ e n)
 have of3:=P0.same of2 s3
 obtain⟨g1,g2⟩:=y68 B sb3 of3 (fun b m=>(ff b m).imp id fun z=>s1.free z) et (by rw[bG];omega) ⟨by show(1:Int)≤rows.length+1;omega,by show((rows.length:Int)+1)≤_;rw[bG];exact eJ _⟩ l4
 refine⟨_,rfl,q (p::dx::pd::fo') _ (fun b hb=>?_) g1 g2⟩
 rcases bA.mp hb with rfl|hb
 ·exact .inl (by simp)
 rcases bA.mp hb with rfl|hb
 ·exact .inl (by simp)
 rcases bA.mp hb with rfl|hb
 ·exact .inl (by simp)
 exact(ff b hb).imp (fun z=>by simp[z]) fun z=>s1.free z
theorem y3o(d:C1)(rd n:Int):z30 (z3j d) (z3j (some rd,n))=decide (d=(some rd,n)):=by
 obtain⟨a,m⟩:=d
 cases a with
 | none=>
  rw[decide_eq_false (fun e=>by cases e)]
  rfl
 | some r=>
  show(eqV (.str "deliver") (.str "deliver") && (eqV (.int r) (.int rd) && (eqV (.int m) (.int n) && true)))=_
  rw[z9O rfl,fN,Bool.and_true,d7,bY,decide_eq_true_eq]
  show(r == rd)=true/\(m == n)=true↔_
  rw[beq_iff_eq,beq_iff_eq]
  exact⟨fun h=>by rw[h.1,h.2],fun h=>by cases h;exact⟨rfl,rfl⟩⟩
theorem y5E(log:List C1)(rd n:Int):(!(log.map z3j).any fun ys=>z30 ys (z3j (some rd,n)))=decide (((some rd,n):C1)∉log):=by
 rw[gS,d7,jQ,decide_eq_true_eq,jN]
 refine⟨fun h m=>h _ m ?_,fun h d hd e=>h ?_⟩
 ·show z30 _ _=true
  rw[y3o]
  exact decide_eq_true rfl
 ·have e':z30 (z3j d) (z3j (some rd,n))=true:=e
  rw[y3o] at e'
  rw[<- of_decide_eq_true e']
  exact hd
theorem z9Q(d:C1):(z3j d).all z27=true:=by
 obtain⟨a,m⟩:=d
 cases a<;>rfl
theorem y01{A4 A1:Addr}(M:Bl mg)(T:J3 K mg A4)(F:Fun K "deliver" "Book.deliver" z3P f fd)(B7:D2 P w K mg base 1 A1 "issue" z29 (z68 (OfD K A1)))
  (A8:D2 P w K mg base 1 A4 "refuse_unknown_reader" z0O (z5A (BkD K A4 A1))) (A9:D2 P w K mg base 1 A4 "refuse_further_deed" z0X (z8o (BkD K A4 A1))) :
  A7 P w K mg base CX0 5 f fd z3Z (z7y (BkD K A4 A1)):=by
 have nd:=z57.nd
 refine F.ok z57 (fun vs H Q E h=>?_) (fun cdv A outer s H vs Q E hr h=>?_)
 ·obtain⟨p,fp,zs,r,k,rows,log,rd,n,rfl,_⟩:=h
  rfl
 obtain⟨p,fp,zs,r,k,rows,log,rd,n,rfl,bk,r1,r2,n1,n2,l4,q⟩:=h
 have hu:=y0g hr
 refine⟨_,(z04 (z0C (z2a B7 (rm hr) (z0I (pv 0) rfl) (z00 (pv 2) z02))) (z04 (z0C (z2a A8 (rm hr) (pv 0) (z00 (pv 1) z02))) (z04 (z0C (z1M A9 (rm hr) (pv 0))) (z04 (z0p (i:=3) nd rfl (Or.inl rfl) (z0Q (z00 (z26 rfl M.DELIVER) (z00 (pv 1) (z00 (pv 2) z02))))) (z04 (z0p (i:=4) nd rfl (Or.inl rfl) (y18 (y3W hu) (pv 3) (z0I (pv 0) rfl) (by with_unfolding_all rfl))) (z04 (z0C (z2N bR bV bX z0L (z0I (pv 0) rfl) (z00 (pv 3) z02))) (z05 (z0f (pv 4))))))))),?_⟩
 obtain⟨dx,po,pd,fs,fo,us,rfl,B⟩:=id bk
 obtain⟨dxo,pno,plo,fso,xso,efo,h1,h2,h3,h4,l1,l2,l3,lmo,_⟩:=id B.of
 refine⟨_,rfl,p,A4,dx,fs,_,rfl,B.hp,T.cl,T.n_office,B.lo,po,dxo,fso,rfl,h1,lmo _ (by simp),_,rfl,po,fo,zs,r,rows,n,rfl,B.of,n1,n2,fun v H1 s1 _=>?_⟩
 have bk1:=Z3.same bk s1
 refine⟨_,rfl,p,dx,fs,rfl,s1 _ _ B.hp,B.lm _ (by simp),_,rfl,p,_,zs,r,k,rows,log,rd,rfl,bk1,r1,r2,?_⟩
 refine⟨_,rfl,p,dx,fs,rfl,s1 _ _ B.hp,B.lm _ (by simp),p,_,zs,r,k,rows,log,rfl,bk1,l4,?_⟩
 refine⟨_,rfl,_,rfl,(by show 3≤sizeLine;decide),fun t ht=>?_⟩
 have s2:=s1.trans (z01 ht (.tup [V.str "deliver",V.int rd,V.int n]))
 have et:upd H1 t (.tup [V.str "deliver",V.int rd,V.int n]) t=some (.tup (z3j (some rd,n))):=z03
 generalize upd H1 t (.tup [V.str "deliver",V.int rd,V.int n])=H2 at s2 et
 have lu:=z3H B.ds
 have prs:Paired (fun u ys=>∃b,u=.ref b/\SqT K H2 b ys/\ys.all z27=true) us (log.map z3j):=by
  have go:∀{us:List V}{log:List C1},Paired (z55 H) us log->Paired (fun u ys=>∃b,u=.ref b/\SqT K H2 b ys/\ys.all z27=true) us (log.map z3j):=by
   intro us log h
   induction h with
   | nil=>exact .nil
   | cons h t ih=>
    obtain⟨b,e,q⟩:=h
    exact .cons ⟨b,e,SqT.of (s2 _ _ q),z9Q _⟩ ih
  exact go B.ds
 refine⟨_,rfl,_,rfl,p,A4,dx,fs,_,rfl,s2 _ _ B.hp,T.cl,T.n_done,B.ld,t,pd,_,us,_,rfl,rfl,SqT.of et,z9Q _,SqL.of (s2 _ _ B.hd),prs,?_⟩
 rw[y5E]
 refine⟨_,rfl,p,A4,dx,fs,_,rfl,s2 _ _ B.hp,T.cl,T.n_done,B.ld,.inl ⟨rfl,_,SqL.of (s2 _ _ B.hd)⟩,_,rfl,pd,us,_,rfl,rfl,s2 _ _ B.hd,z0e (by omega),?_⟩
 obtain⟨g1,g2⟩:=y68 B (.of s2) (P0.same B.of s2) (fun b m=>.inl m) et (bE _) ⟨n1,n2⟩ l4
 exact⟨_,rfl,q _ g1 g2⟩
theorem y5P{xs:List V}{k:Nat}(h:k≤xs.length):L8 xs none (some (k:Int))=xs.take k:=by
 unfold L8
 have e1:HT.sIx xs.length 0 none=0:=rfl
 have e2:HT.sIx xs.length xs.length (some (k:Int))=k:=by
  rw[HT.z9j,gJ h]
 rw[e1,e2,fE,gQ]
theorem y54{H:Hp}:∀{us:List V}{log:List C1},Paired (z55 H) us log->∀(c i:Nat) (u:V),(us.take c)[i]? = some u->∃d,(log.take c)[i]? = some d/\z55 H u d:=by
 intro us log h
 induction h with
 | nil=>intro c i u e;rw[List.take_nil] at e;simp at e
 | cons h t ih=>
  intro c i u e
  cases c with
  | zero=>simp at e
  | succ c=>
   rw[List.take_succ_cons] at e ⊢
   cases i with
   | zero=>
    simp at e
    subst e
    exact⟨_,rfl,h⟩
   | succ i=>
    obtain⟨d,q1,q2⟩:=ih c i u (by simpa using e)
    exact⟨d,by simpa using q1,q2⟩
theorem y4W(d:C1)(rd:Int):z30 ((z3j d).take 2) [.str "deliver",.int rd]=decide (d.1=some rd):=by
 obtain⟨a,m⟩:=d
 cases a with
 | none=>
  rw[decide_eq_false (fun e=>by cases e)]
  rfl
 | some r=>
  show(eqV (.str "deliver") (.str "deliver") && (eqV (.int r) (.int rd) && true))=_
  rw[z9O rfl,fN,Bool.and_true,d7,decide_eq_true_eq]
  show(r == rd)=true↔_
  rw[beq_iff_eq]
  exact⟨fun h=>by rw[h],fun h=>Option.some.inj h⟩
theorem z95{A4 A1 A0 T0:Addr}{items:Array Value}(M:Bl mg)(T:J3 K mg A4)(TO:J2 K mg A1)(F:R3 K "shelf" "Book.shelf" z5i f fd T0 items)(B7:D2 P w K mg base 1 A1 "issue" z29 (z68 (OfD K A1)))
  (A8:D2 P w K mg base 1 A4 "refuse_unknown_reader" z0O (z5A (BkD K A4 A1))) (R9:Mkr P w K mg base 3 A0 "Shelf" z2Z (y1x K A0 (ShD K A0)))
  (L5:D2 P w K mg base 1 A0 "put" z6K (y7s (ShD K A0))):A7 P w K mg base CX0 6 f fd z2S (z64 (BkD K A4 A1) (ShD K A0)):=by
 have nd:=z6R.nd
 refine F.ok z6R (fun vs H Q E h=>?_) (fun cdv A outer s H vs Q E hr h=>?_)
 ·obtain⟨p,fp,zs,r,k,rows,log,rd,o,rfl,_⟩:=h
  rfl
 obtain⟨p,fp,zs,r,k,rows,log,rd,o,rfl,bk,r1,r2,od,q⟩:=h
 refine⟨_,(z04 (z0p (i:=3) nd rfl (Or.inl rfl) (z60 (z8r (z8R (pv 2))) (z0b z09 rfl M.len bK (z00 (z0I (pv 0) rfl) z02)) (pv 2))) (z04 (z0D (PW.pt (z3a (z0a z8x (pv 3) z06 (z0m _)) (z1T (z0a z2k (pv 3) (z0b z09 rfl M.len bK (z00 (z0I (pv 0) rfl) z02)) (z0m _))))) (z05 z1x) z0l) (z04 (z0C (z2a A8 (rm hr) (pv 0) (z00 (pv 1) z02))) (z04 (z0p (i:=4) nd rfl (Or.inl rfl) (y4j R9 (rm hr) rfl (z00 (z0I (z0I (pv 0) rfl) rfl) (z00 (z0I (z0I (pv 0) rfl) rfl) z02)))) (z04 (z0P bQ rfl (z1w (z3U y6u (z0I (pv 0) rfl) z5q (z5k (pv 3)))) (z0j (i:=5) nd rfl (Or.inl rfl)) (z05 (z0D (z0a (y7k hr.Q6) (z3U y30 (pv 5) z5q (z5k z06)) (z0Q (z00 (z26 rfl M.DELIVER) (z00 (pv 1) z02))) (z0m _)) (z05 (z0C (z2a L5 (rm hr) (pv 4) (z00 (z2a B7 (rm hr) (z0I (pv 0) rfl) (z00 (z0z z0A (pv 5) z06 (fun _ _=>rfl)) z02)) z02)))) z0l))) (z05 (z0f (pv 4)))))))),?_⟩
 obtain⟨dx,po,pd,fs,fo,us,rfl,B⟩:=id bk
 obtain⟨dxo,pno,plo,fso,xso,efo,h1,h2,h3,h4,l1,l2,l3,lmo,_,_,_,g,r0,r10⟩:=id B.of
 have lu:=z3H B.ds
 have cle:o.getD log.length≤log.length:=by
  cases o with
  | none=>exact bE _
  | some d=>exact od d rfl
 have beh:∀(Qk:VK),Qk (.int (o.getD log.length:Nat)) H->tIf (tB (Z6 (T5 2))) (tCB (fun xs H_1 Q=>∃p ys,xs=[V.ref p]/\(SqL K H_1 p ys\/SqT K H_1 p ys)/\Q (V.int ys.length) H_1) (y5B (w0g K (T5 0) "done") V7)) (T5 2) (z6d ["self","reader","deed","behind","told","past"] [.ref p,.int rd,w01 o]) H Qk:=fun Qk hq=>by
  cases o with
  | none=>
   refine⟨_,rfl,_,rfl,F4 ⟨_,rfl,p,A4,dx,fs,_,rfl,B.hp,T.cl,T.n_done,B.ld,pd,us,rfl,.inl (SqL.of B.hd),?_⟩⟩
   rw[lu]
   exact hq
  | some d=>exact⟨_,rfl,_,rfl,B1 ⟨_,rfl,hq⟩⟩
 refine beh _ ?_
 generalize o.getD log.length=c at cle q
 clear beh
 refine⟨_,rfl,_,_,rfl,rfl,_,rfl,B0 (fun q=>absurd (z0F q) (by omega)) fun _=>⟨_,rfl,_,rfl,p,A4,dx,fs,_,rfl,B.hp,T.cl,T.n_done,B.ld,pd,us,rfl,.inl (SqL.of B.hd),_,_,rfl,rfl,_,rfl,B0 (fun q=>absurd (z0F q) (by omega)) fun _=>?_⟩⟩
 refine⟨_,rfl,p,dx,fs,rfl,B.hp,B.lm _ (by simp),_,rfl,p,_,zs,r,k,rows,log,rd,rfl,bk,r1,r2,?_⟩
 refine⟨_,rfl,p,A4,dx,fs,_,rfl,B.hp,T.cl,T.n_office,B.lo,po,A1,dxo,fso,_,rfl,h1,TO.cl,TO.n_names,l1,_,rfl,p,A4,dx,fs,_,rfl,B.hp,T.cl,T.n_office,B.lo,po,A1,dxo,fso,_,rfl,h1,TO.cl,TO.n_reach,l2,fun x dxs nx ndx ne=>?_⟩
 have m1:=z8b (C:=A0) (A3.refl H) nx ndx
 refine⟨x,dxs,pno,zs,r,rfl,z03,ne,by rw[z0k ne,z03],.inr (m1 _ _ h3),g,r0,r10,fun fq H1 ff sb sh=>⟨rfl,?_⟩⟩
 have s1:A3 H H1:=z86 sb m1 nx
 have f1:∀b∈fq,H b=none:=fun b hb=>z6t m1 nx ndx (ff b hb)
 have sh1:ShD K A0 H1 x fq zs r (fun n=>z10 rows n r) []:=sh _
 refine⟨_,rfl,p,A4,dx,fs,_,rfl,s1 _ _ B.hp,T.cl,T.n_done,B.ld,_,rfl,_,rfl,pd,_,rfl,SqL.of (s1 _ _ B.hd),fun lq hlq=>?_⟩
 rw[y5P (by omega)]
 have s2:=s1.trans (z01 hlq (.lst (us.take c)))
 have e2:upd H1 lq (.lst (us.take c)) lq=some (.lst (us.take c)):=z03
 have sh2:=F1.same sh1 (z01 hlq (.lst (us.take c)))
 have f2:lq∉fq:=fun m=>by
  obtain⟨o,e,_⟩:=F1.own sh1 lq m
  rw[hlq] at e
  cases e
 generalize upd H1 lq (.lst (us.take c))=H2 at s2 e2 sh2
 have nt2:z5G H2 fq:=F1.Q7 sh2
 have out:∀{b:Addr}{o:HO},H b=some o->b∉fq:=fun e m=>by rw[f1 _ m] at e;cases e
 have lt:(us.take c).length=c:=by rw[bH];omega
 refine⟨lq,rfl,⟨_,SqL.of e2⟩,z1Y (K:=K) (a:=lq) (xs:=us.take c) (fun i σ H'=>∃(fq':List Addr) (o5:Option V),z0B fq H2 H'/\ShD K A0 H' x fq' zs r (fun n=>z10 rows n r) (R6 ((log.take c).take i) rd)/\(∀b∈fq',b∈fq\/H2 b=none)/\
   σ=[some (.ref p),some (.int rd),some (w01 o),some (.int c),some (.ref x),o5]) ⟨fq,none,.of (A3.refl _),sh2,fun b m=>.inl m,rfl⟩ (fun i σ H' _ ⟨_,_,bt,_⟩=>SqL.of (bt _ _ e2 f2)) ?_ ?_⟩
 ·rintro i u σ H' hi ⟨fq',o5,bt,shx,ffx,rfl⟩
  obtain⟨d,ed,b,rfl,hb⟩:=y54 B.ds c i u hi
  have sk:∀{b:Addr}{o:HO},H b=some o->H' b=some o:=fun e=>bt _ _ (s2 _ _ e) (out e)
  have hin:=B.in1 d (jB (bO ed))
  have l2d:2≤(z3j d).length:=by
   obtain⟨a,m⟩:=d
   cases a
   ·show 2≤2;decide
   ·show 2≤3;decide
  have cut:∀(Qk:VK),(∀(t1:Addr) (G:Hp),A3 H' G->G t1=some (.tup ((z3j d).take 2))->Qk (.ref t1) G)->rSlA K (.ref b) none (some 2) H' Qk:=fun Qk hq=>by
   refine⟨b,_,rfl,SqT.of (sk hb),fun hw=>hq b H' (A3.refl _) ?_,fun _ t1 ht1=>hq t1 _ (z01 ht1 _) ?_⟩
   ·rw[sk hb,cL]
    have:=hw.2
    have e:HT.sIx (z3j d).length (z3j d).length (some (2:Int))=min 2 (z3j d).length:=HT.z9j _ _ 2
    omega
   ·rw[z03]
    exact congrArg (fun z=>some (HO.tup z)) (y5P (k:=2) l2d)
  refine⟨_,rfl,_,rfl,cut _ fun t1 G sG e1'=>⟨_,rfl,(by show 2≤sizeLine;decide),fun t2 ht2=>?_⟩⟩
  have s3:=sG.trans (z01 ht2 (.tup [V.str "deliver",V.int rd]))
  have e3:upd G t2 (.tup [V.str "deliver",V.int rd]) t1=some (.tup ((z3j d).take 2)):=z01 ht2 _ _ _ e1'
  have e4:upd G t2 (.tup [V.str "deliver",V.int rd]) t2=some (.tup [V.str "deliver",V.int rd]):=z03
  generalize upd G t2 (.tup [V.str "deliver",V.int rd])=H3 at s3 e3 e4
  have fl:((z3j d).take 2).all z27=true:=by
   obtain⟨a,m⟩:=d
   cases a<;>rfl
  refine⟨t1,t2,_,_,rfl,rfl,SqT.of e3,SqT.of e4,fl,rfl,_,rfl,?_⟩
  rw[y4W,z0n ed,y4m]
  have sh3:=F1.same shx s3
  refine B0 (fun cc=>?_) (fun cc=>?_)
  ·have c':=z0F cc
   rw[if_pos c']
   obtain⟨a,n⟩:=d
   have ea:a=some rd:=c'
   subst ea
   obtain⟨d1,g1,z1,w1⟩:=F1.ins sh3
   refine⟨_,rfl,x,d1,g1,rfl,z1,w1 _ (by simp),_,rfl,p,A4,dx,fs,_,rfl,s3 _ _ (sk B.hp),T.cl,T.n_office,B.lo,po,dxo,fso,rfl,s3 _ _ (sk h1),lmo _ (by simp),_,rfl,b,_,2,_,rfl,rfl,SqT.of (s3 _ _ (sk hb)),rfl,po,fo,zs,r,rows,n,rfl,?_,hin.1,hin.2,fun v H4 s4 tv=>?_⟩
   ·exact P0.same (P0.keep (P0.same B.of s2) bt (fun b m z=>by
     obtain⟨o,e,_⟩:=P0.own B.of b z
     exact out e m) nt2) s3
   have n60:rows.length≤60:=by
    obtain⟨_,_,_,_,_,_,_,_,_,_,_,_,_,_,_,n60,_⟩:=B.of
    exact n60
   refine⟨x,v,fq',zs,r,_,_,n,_,rfl,F1.same sh3 s4,tv,rfl,hin.1,by have:=hin.2;have:n≤rows.length:=this;omega,fun fq2 H5 ff5 sb5 sh5=>?_⟩
   have g4:=s3.trans s4
   exact⟨fq2,_,(fun b o e nb=>sb5 b o (g4 _ _ (bt b o e nb)) fun m=>(ffx b m).elim nb fun z=>by rw[e] at z;cases z),sh5,y2T bt ffx g4 ff5,rfl⟩
  ·have c':=z49 cc
   rw[if_neg c']
   exact⟨fq',_,fun b o e nb=>s3 _ _ (bt b o e nb),sh3,ffx,rfl⟩
 ·rintro σ H' ⟨fq',o5,bt,shx,ffx,rfl⟩
  rw[lt,List.take_take,Nat.min_self] at shx
  exact⟨_,rfl,q x fq' H' (fun b m=>(ffx b m).elim (f1 b) fun z=>s2.free z) (fun b o e=>bt _ _ (s2 _ _ e) (out e)) shx⟩
def HT(H:Hp)(u:V)(p:Str×Int):Prop:=∃b,u=.ref b/\H b=some (.tup [.str p.1,.int p.2])
theorem HT.keep{H H':Hp}(g:A3 H H'):∀{us:List V}{pr:Row},Paired (HT H) us pr->Paired (HT H') us pr
 | _,_,.nil=>.nil
 | _,_,.cons ⟨b,e,h⟩ t=>.cons ⟨b,e,g _ _ h⟩ (HT.keep g t)
theorem HT.hand{K:PySem.W.Frag}{H:Hp}{fp:List Addr}(no:z5G H fp):∀{us:List V}{pr:Row},Paired (HT H) us pr->Paired (z9b K H fp) us pr
 | _,_,.nil=>.nil
 | _,_,.cons ⟨b,e,h⟩ t=>.cons ⟨b,e,.inr (SqT.of h),fun m=>no b m _ h⟩ (HT.hand no t)
def O2(n:Nat):List C1:=(upI 1 n).map fun k=>(none,k)
theorem y34(i:Nat):O2 (i+1)=O2 i++[(none,(i:Int)+1)]:=by
 unfold O2
 rw[z62,bD,Int.add_comm]
 rfl
theorem y1z(i:Nat):(O2 i).length=i:=by
 unfold O2
 rw[b7,z0M]
theorem y05{ns ms:List Int}(h:∀x,x∈ns↔x∈ms)(B3:∀x∈ms,1≤x/\x≤60)(x:Int):x∈z0c ns↔x∈ms:=by
 rw[z0Z,h]
 exact⟨fun q=>q.2,fun q=>⟨by have:=B3 x q;omega,q⟩⟩
theorem y1C{H:Hp}:∀{w:Row}{xs:List V},z08 H (w.map z9o) xs->Paired (HT H) xs w
 | [],xs,h=>by
  rw[z0E h]
  exact .nil
 | p::w,xs,h=>by
  obtain⟨x,r,rfl,t,h'⟩:=z0d h
  obtain⟨a,us,rfl,ea,_,tu⟩:=z0g (show A5 H (.tup [.str p.1,.int p.2]) x from t)
  obtain⟨y1,r1,rfl,t1,h3⟩:=z0d tu
  obtain⟨y2,r2,rfl,t2,h4⟩:=z0d h3
  have:=z0E h4
  subst this
  rw[z3h t1,z19 t2] at ea
  exact .cons ⟨a,rfl,ea⟩ (y1C h')
def y66(Sh:ShP):Sp:=fun vs H Q _=>∃(x:Addr) (fp:List Addr) (nm:List Str) (r:Int) (rows:List Row) (had:List Int),vs=[.ref x]/\Sh H x fp nm r (fun n=>z10 rows n r) had/\D6 nm/\Rws nm rows/\rows.length≤60/\(∀n∈had,1≤n/\n≤rows.length)/\0≤r/\r≤10/\
 ∀(v:V) (H':Hp),A3 H H'->A5 H' (z6X nm (z0c had) rows r) v->Q v H'
theorem y2m(nm:List Str)(ns:List Int)(rows:List Row)(r:Int):(z6X nm ns rows r).deep≤2:=z1L fun d hd=>by
 obtain⟨z,_,rfl⟩:=cO.mp hd
 unfold W2
 refine z1L fun d hd=>?_
 rcases bA.mp hd with rfl|hd
 ·exact z9I _ _
 rcases bA.mp hd with rfl|hd
 ·exact z9I _ _
 rcases bA.mp hd with rfl|hd
 ·exact z28 _ _
 rw[b8.mp hd]
 cases z0W (z0c ns) rows z with
 | none=>unfold y5H DV.deep;exact cV _
 | some p=>exact z28 _ _
def z7o(Sh:ShP):Sp:=fun vs H Q _=>∃(x:Addr) (fp:List Addr) (nm:List Str) (r:Int) (rows:List Row) (had:List Int),vs=[.ref x]/\Sh H x fp nm r (fun n=>z10 rows n r) had/\D6 nm/\Rws nm rows/\rows.length≤60/\(∀n∈had,1≤n/\n≤rows.length)/\0≤r/\r≤10/\
 ∀(v:V) (H':Hp),A3 H H'->A5 H' (.tup (z39 (z0c had) rows r)) v->Q v H'
def y61(K:PySem.W.Frag):Sp:=fun vs H Q _=>∃(p:Addr) (ns:List Int),vs=[.ref p]/\SqI K H p ns/\(∀x∈ns,1≤x/\x≤60)/\
 ∀(l:Addr) (H':Hp),H l=none->A3 H H'->H' l=some (.tup ((z16 ns).map V.int))->Q (.ref l) H'
theorem y6P(M:Bl mg)(F:Fun K "lacking_numbers" "lacking_numbers" z2E f fd):A7 P w K mg base CX0 1 f fd z2J (y61 K):=by
 have nd:=z3A.nd
 refine F.ok z3A (fun vs H Q E h=>?_) (fun cdv A outer s H vs Q E hr h=>?_)
 ·obtain⟨p,ns,rfl,_⟩:=h
  rfl
 obtain⟨p,ns,rfl,hS,B3,q⟩:=h
 refine⟨_,(z04 (z0p (i:=1) nd rfl (Or.inl rfl) (y2O rfl rfl M.max (z00 (pv 0) z02) (z9g z06 y1J))) (z05 (z0f (z0u z0o rfl M.tuple bI (z00 (z1e ["number"] ["had"] [0] rfl (z0v rfl (by decide +kernel) rfl (by decide +kernel) rfl rfl) (z4G rfl M.range (z00 z06 (z00 (z0t z1g (pv 1) z06) z02))) (fun _ _ _ _ _=>(z0j (i:=0) (show((["number"]:List PySem.Str)++(["had"]:List PySem.Str)).Nodup from by decide +kernel) rfl (Or.inl rfl))) (z0w (by decide)) z0h (fun _ _ _ _ _=>(z2d (z0a (r:=rIn K true) z1q (pv 0) (pv 1) (by with_unfolding_all rfl)))) (fun _ _ _ _ _=>(pv 0))) z02))))),?_⟩
 refine⟨_,rfl,p,ns,.int 0,rfl,rfl,hS,fun hnil=>?_,fun m hm top=>?_⟩
 ·subst hnil
  refine⟨_,rfl,_,_,rfl,rfl,_,_,rfl,⟨by decide,by decide,by decide,by decide⟩,?_⟩
  refine z7P (lo:=1) (n:=0) (fun _=>true) (fun k=>.int k) (by decide) (fun k ys N k0 k1 hN=>by omega) ?_
  intro D hD
  refine⟨D,_,rfl,.inl ⟨SqL.of z03,fun l hl=>?_⟩⟩
  have h1:H l=none:=(z01 hD _).free hl
  refine q l _ h1 ((z01 hD _).trans (z01 hl _)) ?_
  rw[z03,y0u]
  rfl
 ·have hm':=B3 m hm
  refine⟨_,rfl,_,_,rfl,rfl,_,_,rfl,⟨by decide,by decide,by omega,by omega⟩,?_⟩
  refine z7P (lo:=1) (n:=(m+1-1).toNat) (fun k=>!decide (k∈ns)) (fun k=>.int k) (by omega) (fun k ys N k0 k1 hN=>?_) ?_
  ·refine⟨_,rfl,_,rfl,p,_,rfl,hS,rfl,z1X ns,_,rfl,?_⟩
   rw[if_pos rfl,z2y]
   refine B0 (fun c=>?_) (fun c=>?_)
   ·rw[if_pos c] at hN
    exact⟨_,rfl,hN⟩
   ·rw[if_neg c] at hN
    exact hN
  ·intro D hD
   refine⟨D,_,rfl,.inl ⟨SqL.of z03,fun l hl=>?_⟩⟩
   have h1:H l=none:=(z01 hD _).free hl
   refine q l _ h1 ((z01 hD _).trans (z01 hl _)) ?_
   rw[z03]
   have e:z1U (fun k=>!decide (k∈ns)) (fun k=>V.int k) (upI 1 (m+1-1).toNat)=(z16 ns).map V.int:=by
    unfold z1U
    rw[y4b hm B3 top]
   rw[e]
def y1L(K:PySem.W.Frag):Sp:=fun vs H Q _=>∃(p:Addr) (ns:List Int) (n r:Int),vs=[.ref p,.int n,.int r]/\SqI K H p ns/\(∀x∈ns,1≤x/\x≤60)/\ns.length≤900/\
 ∀H',A3 H H'->Q (.int (z0G ns n r)) H'
theorem y3A(M:Bl mg)(F:Fun K "teller_of" "teller_of" z6H f fd):A7 P w K mg base CX0 1 f fd z6G (y1L K):=by
 have nd:=z83.nd
 refine F.ok z83 (fun vs H Q E h=>?_) (fun cdv A outer s H vs Q E hr h=>?_)
 ·obtain⟨p,ns,n,r,rfl,_⟩:=h
  rfl
 obtain⟨p,ns,n,r,rfl,hS,B3,hlen,q⟩:=h
 have fin:∀D,H D=none->(z1U (fun y=>decide (n<y) && decide (y-r≤n)) (fun y=>V.int y) ns=(ns.filter fun y=>decide (n<y) && decide (y-r≤n)).map V.int):=fun _ _=>rfl
 have Y8:(ns.filter fun y=>decide (n<y) && decide (y-r≤n))=[]->z0G ns n r=0:=fun e=>z4Q fun y hy h1 h2=>by
  have:y∈ns.filter fun y=>decide (n<y) && decide (y-r≤n):=cI.mpr ⟨hy,by rw[decide_eq_true h1,decide_eq_true h2];rfl⟩
  rw[e] at this
  cases this
 have Y9:∀m,m∈(ns.filter fun y=>decide (n<y) && decide (y-r≤n))->(∀y∈(ns.filter fun y=>decide (n<y) && decide (y-r≤n)),m≤y)->z0G ns n r=m:=fun m hm hl=>by
  rw[cI,bY,decide_eq_true_eq,decide_eq_true_eq] at hm
  exact y1j B3 hm.1 hm.2.1 hm.2.2 fun y hy h1 h2=>hl y (cI.mpr ⟨hy,by rw[decide_eq_true h1,decide_eq_true h2];rfl⟩)
 rcases hS with hS|hS
 ·refine⟨_,(z04 (z5J (i:=3) ["above"] ["number","reach"] [1,2] rfl nd rfl (Or.inl rfl) (z0v rfl (by decide +kernel) rfl (by decide +kernel) rfl rfl) (z1w (pv 0)) (fun _ _ _ _ _=>(z0j (i:=0) (show((["above"]:List PySem.Str)++(["number","reach"]:List PySem.Str)).Nodup from by decide +kernel) rfl (Or.inl rfl))) (z0w (by decide)) z0h (fun _ _ _ _ _=>(z2d (PW.pt (z3c (z0a z2k (pv 0) (pv 1) (z0m _)) (z2j (z0a y2q (z0t z31 (pv 0) (pv 2)) (pv 1) (z0m _))))))) (fun _ _ _ _ _=>(pv 0))) (z05 (z0f (y42 rfl rfl M.min (z00 (pv 3) z02) (z9g z06 y1J))))),?_⟩
  refine⟨_,rfl,p,rfl,⟨_,hS⟩,?_⟩
  refine z8i (ns:=ns) (fun y=>decide (n<y) && decide (y-r≤n)) (fun y=>.int y) hS (by omega) (fun y ys N hy hN=>?_) (fun D hD=>?_)
  ·refine⟨_,rfl,_,rfl,_,_,rfl,rfl,_,rfl,?_⟩
   refine B0 (fun c=>?_) (fun c=>?_)
   ·refine⟨_,rfl,_,rfl,_,_,rfl,rfl,_,rfl,_,_,rfl,rfl,_,rfl,?_⟩
    rw[c,fN] at hN
    refine B0 (fun c2=>?_) (fun c2=>?_)
    ·rw[if_pos c2] at hN
     exact⟨_,rfl,hN⟩
    ·rw[if_neg c2] at hN
     exact hN
   ·rw[fT.mpr c,fU] at hN
    exact B1 hN
  ·refine⟨_,rfl,D,_,.int 0,rfl,rfl,.inl (SqL.of z03),fun e=>?_,fun m hm hl=>?_⟩
   ·have:=q _ (z01 hD (.lst (z1U (fun y=>decide (n<y) && decide (y-r≤n)) (fun y=>V.int y) ns)))
    rw[Y8 e] at this
    exact this
   ·have:=q _ (z01 hD (.lst (z1U (fun y=>decide (n<y) && decide (y-r≤n)) (fun y=>V.int y) ns)))
    rw[Y9 m hm hl] at this
    exact this
 ·refine⟨_,(z04 (z5J (i:=3) ["above"] ["number","reach"] [1,2] rfl nd rfl (Or.inl rfl) (z0v rfl (by decide +kernel) rfl (by decide +kernel) rfl rfl) (z23 (pv 0)) (fun _ _ _ _ _=>(z0j (i:=0) (show((["above"]:List PySem.Str)++(["number","reach"]:List PySem.Str)).Nodup from by decide +kernel) rfl (Or.inl rfl))) (z0w (by decide)) z0h (fun _ _ _ _ _=>(z2d (PW.pt (z3c (z0a z2k (pv 0) (pv 1) (z0m _)) (z2j (z0a y2q (z0t z31 (pv 0) (pv 2)) (pv 1) (z0m _))))))) (fun _ _ _ _ _=>(pv 0))) (z05 (z0f (y42 rfl rfl M.min (z00 (pv 3) z02) (z9g z06 y1J))))),?_⟩
  refine⟨_,rfl,p,rfl,⟨_,hS⟩,?_⟩
  refine z6p (ns:=ns) (fun y=>decide (n<y) && decide (y-r≤n)) (fun y=>.int y) hS (by omega) (fun y ys N hy hN=>?_) (fun D hD=>?_)
  ·refine⟨_,rfl,_,rfl,_,_,rfl,rfl,_,rfl,?_⟩
   refine B0 (fun c=>?_) (fun c=>?_)
   ·refine⟨_,rfl,_,rfl,_,_,rfl,rfl,_,rfl,_,_,rfl,rfl,_,rfl,?_⟩
    rw[c,fN] at hN
    refine B0 (fun c2=>?_) (fun c2=>?_)
    ·rw[if_pos c2] at hN
     exact⟨_,rfl,hN⟩
    ·rw[if_neg c2] at hN
     exact hN
   ·rw[fT.mpr c,fU] at hN
    exact B1 hN
  ·refine⟨_,rfl,D,_,.int 0,rfl,rfl,.inl (SqL.of z03),fun e=>?_,fun m hm hl=>?_⟩
   ·have:=q _ (z01 hD (.lst (z1U (fun y=>decide (n<y) && decide (y-r≤n)) (fun y=>V.int y) ns)))
    rw[Y8 e] at this
    exact this
   ·have:=q _ (z01 hD (.lst (z1U (fun y=>decide (n<y) && decide (y-r≤n)) (fun y=>V.int y) ns)))
    rw[Y9 m hm hl] at this
    exact this
def Pr(H:Hp)(u:V)(p:Int×Int):Prop:=∃a,u=.ref a/\H a=some (.tup [.int p.1,.int p.2])
theorem Pr.keep{H H':Hp}(s:A3 H H'){u:V}{p:Int×Int}(h:Pr H u p):Pr H' u p:=let ⟨a,e,q⟩:=h;⟨a,e,s _ _ q⟩
abbrev Prs(H:Hp):List V->List (Int×Int)->Prop:=Paired (Pr H)
theorem Prs.keep{H H':Hp}(s:A3 H H'):∀{xs:List V}{ps:List (Int×Int)},Prs H xs ps->Prs H' xs ps
 | _,_,.nil=>.nil
 | _,_,.cons r t=>.cons (r.keep s) (Prs.keep s t)
theorem Prs.get{H:Hp}:∀{xs:List V}{ps:List (Int×Int)},Prs H xs ps->∀(i:Nat) (u:V),xs[i]? = some u->∃p,ps[i]? = some p/\Pr H u p
 | _,_,.nil,i,u,e=>by simp at e
 | _,_,.cons r t,0,u,e=>by
  simp at e
  subst e
  exact⟨_,rfl,r⟩
 | _,_,.cons r t,i+1,u,e=>by
  obtain⟨p,h1,h2⟩:=Prs.get t i u (by simpa using e)
  exact⟨p,by simpa using h1,h2⟩
theorem Prs.snoc{H:Hp}{xs:List V}{ps:List (Int×Int)}{u:V}{p:Int×Int}(h:Prs H xs ps)(q:Pr H u p):Prs H (xs++[u]) (ps++[p]):=jI h q
theorem Prs.len{H:Hp}:∀{xs:List V}{ps:List (Int×Int)},Prs H xs ps->xs.length=ps.length
 | _,_,.nil=>rfl
 | _,_,.cons _ t=>by rw[cH,cH,Prs.len t]
def P7(ns:List Int)(r:Int):List (Int×Int):=(z16 ns).map fun n=>(n,z0G ns n r)
def z1Q(ns:List Int)(r:Int):List Int:=((P7 ns r).filter fun q=>decide (q.2=0)).map Prod.fst
def y71(K:PySem.W.Frag):Sp:=fun vs H Q _=>∃(p:Addr) (ns:List Int) (r:Int),vs=[.ref p,.int r]/\SqI K H p ns/\(∀x∈ns,1≤x/\x≤60)/\ns.length≤900/\
 ∀(l:Addr) (xs:List V) (H':Hp),A3 H H'->H' l=some (.tup xs)->Prs H' xs (P7 ns r)->Q (.ref l) H'
theorem y7c(M:Bl mg)(F:Fun K "lacking_with_tellers" "lacking_with_tellers" z1I f fd)(F3:Cal P w K mg base 1 "lacking_numbers" z2J (y61 K))
  (N9:Cal P w K mg base 1 "teller_of" z6G (y1L K)):A7 P w K mg base CX0 2 f fd z1a (y71 K):=by
 have nd:=z2l.nd
 refine F.ok z2l (fun vs H Q E h=>?_) (fun cdv A outer s H vs Q E hr h=>?_)
 ·obtain⟨p,ns,r,rfl,_⟩:=h
  rfl
 obtain⟨p,ns,r,rfl,hS,B3,hlen,q⟩:=h
 refine⟨_,(z05 (z0f (z0u z0o rfl M.tuple bI (z00 (z1e ["number"] ["had","reach"] [0,1] rfl (z0v rfl (by decide +kernel) rfl (by decide +kernel) rfl rfl) (z23 (z0i F3 (rm hr) rfl (z00 (pv 0) z02))) (fun _ _ _ _ _=>(z0j (i:=0) (show((["number"]:List PySem.Str)++(["had","reach"]:List PySem.Str)).Nodup from by decide +kernel) rfl (Or.inl rfl))) (z0w (by decide)) z0h (fun _ _ _ _ _=>z2g) (fun _ _ _ _ _=>(z0Q (z00 (pv 0) (z00 (z0i N9 (rm hr) rfl (z00 (pv 1) (z00 (pv 0) (z00 (pv 2) z02)))) z02))))) z02)))),?_⟩
 refine⟨_,rfl,p,ns,rfl,hS,B3,fun lt H1 nlt s1 e1=>⟨lt,rfl,⟨_,SqT.of e1⟩,?_⟩⟩
 have ll:=z2e ns
 refine z1J (xs:=(z16 ns).map V.int) (fun i ys H'=>A3 H1 H'/\Prs H' ys (((z16 ns).take i).map fun n=>(n,z0G ns n r))) ⟨A3.refl _,.nil⟩ (fun i ys H' hi hp=>?_) (fun i x ys H' hx hp=>?_) (fun ys H' hp=>?_)
 ·obtain⟨g,pr⟩:=hp
  refine⟨SqT.of (g _ _ e1),z0e ?_⟩
  rw[pr.len,b7,bH]
  omega
 ·obtain⟨g,pr⟩:=hp
  rw[bB] at hx
  cases e:(z16 ns)[i]? with
  | none=>rw[e] at hx;cases hx
  | some n=>
   rw[e] at hx
   cases hx
   refine⟨_,rfl,_,rfl,_,rfl,_,rfl,p,ns,n,r,rfl,SqI.keep (s1.trans g) hS,B3,hlen,fun H2 g2=>⟨(by show 2≤sizeLine;decide),fun t ht=>?_⟩⟩
   refine⟨g.trans (g2.trans (z01 ht _)),?_⟩
   rw[z0n e,bD]
   exact Prs.snoc (pr.keep (g2.trans (z01 ht _))) ⟨t,rfl,z03⟩
 ·obtain⟨g,pr⟩:=hp
  rw[b7,bT] at pr
  intro D hD
  refine⟨D,_,rfl,.inl ⟨SqL.of z03,fun l hl=>?_⟩⟩
  exact q l ys _ (s1.trans (g.trans ((z01 hD _).trans (z01 hl _)))) z03 (pr.keep ((z01 hD _).trans (z01 hl _)))
def y1K(K:PySem.W.Frag):Sp:=fun vs H Q _=>∃(p:Addr) (ns:List Int) (r:Int),vs=[.ref p,.int r]/\SqI K H p ns/\(∀x∈ns,1≤x/\x≤60)/\ns.length≤900/\
 ∀(l:Addr) (H':Hp),A3 H H'->H' l=some (.tup ((z1Q ns r).map V.int))->Q (.ref l) H'
theorem y3C(ns:List Int)(r:Int):(P7 ns r).length≤60:=by
 unfold P7
 rw[b7]
 exact z2e ns
theorem y6h(M:Bl mg)(F:Fun K "dark_numbers" "dark_numbers" z41 f fd)(B4:Cal P w K mg base 2 "lacking_with_tellers" z1a (y71 K)):A7 P w K mg base CX0 3 f fd z2i (y1K K):=by
 have nd:=z51.nd
 refine F.ok z51 (fun vs H Q E h=>?_) (fun cdv A outer s H vs Q E hr h=>?_)
 ·obtain⟨p,ns,r,rfl,_⟩:=h
  rfl
 obtain⟨p,ns,r,rfl,hS,B3,hlen,q⟩:=h
 refine⟨_,(z05 (z0f (z0u z0o rfl M.tuple bI (z00 (z1e ["number","teller"] [] [] rfl (z0v rfl (by decide +kernel) rfl (by decide +kernel) rfl rfl) (z23 (z0i B4 (rm hr) rfl (z00 (pv 0) (z00 (pv 1) z02)))) (fun _ _ _ _ _=>(z9r (K:=K) (n:=2) rfl rfl (z1m (z0j (i:=0) (show((["number","teller"]:List PySem.Str)++([]:List PySem.Str)).Nodup from by decide +kernel) rfl (Or.inl rfl)) (z1m (z0j (i:=1) (show((["number","teller"]:List PySem.Str)++([]:List PySem.Str)).Nodup from by decide +kernel) rfl (Or.inl rfl)) z5l)))) (z9D (z2b (z0w (by decide)) z0h (z2b (z0w (by decide)) z0h z7M z1k) (z0R z0h z1k))) (z7p (z0R z0h (z0R z0h z1k))) (fun _ _ _ _ _=>(z2d (z0a z2L (pv 1) z06 (z0m _)))) (fun _ _ _ _ _=>(pv 0))) z02)))),?_⟩
 refine⟨_,rfl,_,rfl,p,ns,r,rfl,hS,B3,hlen,fun lt xs H1 s1 e1 pr1=>⟨lt,rfl,⟨_,SqT.of e1⟩,?_⟩⟩
 have ll:=y3C ns r
 have lx:=pr1.len
 refine z1J (xs:=xs) (fun i ys H'=>H'=H1/\ys=(((P7 ns r).take i).filter fun q=>decide (q.2=0)).map fun q=>V.int q.1) ⟨rfl,rfl⟩ (fun i ys H' hi hp=>?_) (fun i x ys H' hx hp=>?_) (fun ys H' hp=>?_)
 ·obtain⟨rfl,rfl⟩:=hp
  refine⟨SqT.of e1,z0e ?_⟩
  have h1:=cJ (fun q:Int×Int=>decide (q.2=0)) ((P7 ns r).take i)
  rw[b7]
  rw[bH] at h1
  omega
 ·obtain⟨rfl,rfl⟩:=hp
  obtain⟨⟨n,t⟩,e,a,rfl,ha⟩:=pr1.get i x hx
  refine⟨a,_,rfl,SqT.of ha,rfl,_,_,rfl,_,_,rfl,rfl,?_⟩
  refine⟨_,rfl,rfl,_,rfl,?_⟩
  rw[z0n e,dW,eM,bD]
  refine B0 (fun c=>?_) (fun c=>?_)
  ·have c':decide (t=0)=true:=decide_eq_true (V.int.inj (z0F c))
   refine⟨_,rfl,rfl,?_⟩
   rw[if_pos c']
   rfl
  ·have c':¬decide (t=0)=true:=fun z=>c (decide_eq_true (congrArg V.int (z0F z)))
   refine⟨rfl,?_⟩
   rw[if_neg c']
   simp
 ·obtain⟨rfl,rfl⟩:=hp
  rw[lx,bT]
  intro D hD
  refine⟨D,_,rfl,.inl ⟨SqL.of z03,fun l hl=>?_⟩⟩
  refine q l _ (s1.trans ((z01 hD _).trans (z01 hl _))) ?_
  rw[z03]
  unfold z1Q
  rw[dJ]
  rfl
theorem z4v(ns:List Int)(r:Int):(z1Q ns r).length≤60:=by
 have h:=cJ (fun q:Int×Int=>decide (q.2=0)) (P7 ns r)
 have:=y3C ns r
 unfold z1Q
 rw[b7]
 omega
def z1p(ns:List Int)(r b:Int):List Int:=(z1Q ns r).filter fun y=>decide (b<y)
def z9H(K:PySem.W.Frag):Sp:=fun vs H Q _=>∃(p:Addr) (ns:List Int) (r b:Int),vs=[.ref p,.int r,.int b]/\SqI K H p ns/\(∀x∈ns,1≤x/\x≤60)/\ns.length≤900/\
 ∀(l:Addr) (H':Hp),A3 H H'->H' l=some (.tup ((z1p ns r b).map V.int))->Q (.ref l) H'
theorem y2K(M:Bl mg)(F:Fun K "dark_numbers_behind" "dark_numbers_behind" z1P f fd)(B9:Cal P w K mg base 3 "dark_numbers" z2i (y1K K)):A7 P w K mg base CX0 4 f fd z1j (z9H K):=by
 have nd:=z2C.nd
 refine F.ok z2C (fun vs H Q E h=>?_) (fun cdv A outer s H vs Q E hr h=>?_)
 ·obtain⟨p,ns,r,b,rfl,_⟩:=h
  rfl
 obtain⟨p,ns,r,b,rfl,hS,B3,hlen,q⟩:=h
 refine⟨_,(z05 (z0f (z0u z0o rfl M.tuple bI (z00 (z1e ["number"] ["behind"] [2] rfl (z0v rfl (by decide +kernel) rfl (by decide +kernel) rfl rfl) (z23 (z0i B9 (rm hr) rfl (z00 (pv 0) (z00 (pv 1) z02)))) (fun _ _ _ _ _=>(z0j (i:=0) (show((["number"]:List PySem.Str)++(["behind"]:List PySem.Str)).Nodup from by decide +kernel) rfl (Or.inl rfl))) (z0w (by decide)) z0h (fun _ _ _ _ _=>(z2d (z0a z2k (pv 0) (pv 1) (z0m _)))) (fun _ _ _ _ _=>(pv 0))) z02)))),?_⟩
 refine⟨_,rfl,_,rfl,p,ns,r,rfl,hS,B3,hlen,fun lt H1 s1 e1=>⟨lt,rfl,⟨_,SqT.of e1⟩,?_⟩⟩
 have ll:=z4v ns r
 refine z6p (ns:=z1Q ns r) (fun y=>decide (b<y)) (fun y=>.int y) (SqT.of e1) (by omega) (fun y ys N hy hN=>?_) (fun D hD=>?_)
 ·refine⟨_,rfl,_,rfl,_,_,rfl,rfl,_,rfl,?_⟩
  refine B0 (fun c=>?_) (fun c=>?_)
  ·rw[if_pos c] at hN
   exact⟨_,rfl,hN⟩
  ·rw[if_neg c] at hN
   exact hN
 ·exact⟨D,_,rfl,.inl ⟨SqL.of z03,fun l hl=>q l _ (s1.trans ((z01 hD _).trans (z01 hl _))) z03⟩⟩
def y1n(Sh:ShP):Sp:=fun vs H Q _=>∃(p:Addr) (fp:List Addr) (zs:List Str) (r:Int) (iss:Int->DV) (had:List Int) (n:Int) (d0 d1 d2:DV),vs=[.ref p,.int n]/\Sh H p fp zs r iss had/\n∈had/\iss n=.tup [d0,d1,d2]/\∀v,A5 H d2 v->Q v H
theorem z7t{kvs:List (Key×V)}{had:List Int}(kk:kvs.map (·.1)=had.map Sum.inl){n:Int}(h:n∈had):∃v,K1 kvs (Sum.inl n:Key)=some v/\((Sum.inl n:Key),v)∈kvs:=by
 have e:=z9s kk n
 rw[decide_eq_true h] at e
 cases ev:K1 kvs (Sum.inl n:Key) with
 | none=>rw[ev] at e;cases e
 | some v=>
  refine⟨v,rfl,?_⟩
  unfold K1 at ev
  obtain⟨⟨k,u⟩,hf,rfl⟩:=cG.mp ev
  have h1:=gL hf
  have h2:=List.find?_some hf
  simp only[decide_eq_true_eq] at h2
  rw[h2] at h1
  exact h1
theorem y3m{A0:Addr}(M:Bl mg)(T:C8 K mg A0)(F:Fun K "tail_of" "Shelf.tail_of" z3w f fd):A7 P w K mg base CX0 1 f fd z3v (y1n (ShD K A0)):=by
 have nd:=z4C.nd
 refine F.ok z4C (fun vs H Q E h=>?_) (fun cdv A outer s H vs Q E hr h=>?_)
 ·obtain⟨p,fp,zs,r,iss,had,n,d0,d1,d2,rfl,_⟩:=h
  rfl
 obtain⟨p,fp,zs,r,iss,had,n,d0,d1,d2,rfl,sh,hn,en,k⟩:=h
 have hu:=y0g hr
 refine⟨_,(z05 (z0f (z0z z0A (z6P hu (z0I (pv 0) rfl) (pv 1) (fun _ _=>rfl)) z06 (fun _ _=>rfl)))),?_⟩
 obtain⟨dx,pn,pd,fs,kvs,rfl,h1,h2,h3,h4,l1,l2,l3,lm,kk,ndh,all,tl,g,r0,r1⟩:=sh
 obtain⟨v,ev,mv⟩:=z7t kk hn
 have tv:=tl n v mv
 rw[en] at tv
 obtain⟨a,us,rfl,ea,_,tu⟩:=z0g tv
 obtain⟨x0,ur,rfl,t0,tu⟩:=z0d tu
 obtain⟨x1,ur,rfl,t1,tu⟩:=z0d tu
 obtain⟨x2,ur,rfl,t2,tu⟩:=z0d tu
 refine⟨_,rfl,p,A0,dx,fs,_,rfl,h1,T.cl,T.n_issues,l3,_,rfl,pd,_,rfl,(by rw[<- ev];exact L7.k (k:=Sum.inl n) h4),?_⟩
 exact⟨a,_,_,x2,rfl,rfl,SqT.of ea,z0K rfl,k x2 t2⟩
theorem y5C(n r:Int):(z6w n r).Nodup:=by
 have h:(dnI (n-1) (n-1).toNat).Nodup:=by
  unfold dnI
  rw[dA,dG]
  exact List.pairwise_lt_range.imp fun h=>by omega
 exact h.filter _
theorem y2V{n r k:Int}:k∈z6w n r↔1≤k/\k<n/\n-k≤r:=by
 unfold z6w
 rw[cI,z9M,decide_eq_true_eq]
 omega
theorem z8N{K:PySem.W.Frag}{H:Hp}{rows:List Row}:∀{ks:List Int}{xs:List V},z08 H (ks.map (y2r rows)) xs->∃kvs:List (Key×V),Paired (y4a K H) xs kvs/\kvs.map (·.1)=ks.map Sum.inl/\∀k v,((Sum.inl k:Key),v)∈kvs->A5 H (K4 (z0S (z0y rows k))) v
 | [],xs,h=>by
  rw[z0E h]
  exact⟨[],.nil,rfl,fun _ _ q=>(nomatch q)⟩
 | k::ks,xs,h=>by
  obtain⟨x,r,rfl,t,h⟩:=z0d h
  obtain⟨kvs,p1,p2,p3⟩:=z8N h
  obtain⟨a,us,rfl,ea,_,tu⟩:=z0g t
  obtain⟨x0,ur,rfl,t0,tu⟩:=z0d tu
  obtain⟨x1,ur,rfl,t1,tu⟩:=z0d tu
  have:=z0E tu
  subst this
  cases z19 t0
  refine⟨(Sum.inl k,x1)::kvs,.cons ⟨a,rfl,.inr (SqT.of ea)⟩ p1,by rw[cP,cP,p2],fun m v hv=>?_⟩
  rcases bA.mp hv with e|hv
  ·cases e
   exact t1
  ·exact p3 m v hv
def y6R(rows:List Row)(n t:Int):DV:=if t=0 then .tup [] else K4 (z0S (z0y rows n))
def y5Y(Sh:ShP):Sp:=fun vs H Q _=>∃(x:Addr) (n t:Int) (fp:List Addr) (nm:List Str) (r:Int) (rows:List Row) (had:List Int),vs=[.ref x,.int n,.int t]/\Sh H x fp nm r (fun n=>z10 rows n r) had/\(t≠0->t∈had/\t≤60/\n∈z6w t r)/\
 ∀(v:V) (H':Hp),A3 H H'->A5 H' (y6R rows n t) v->Q v H'
theorem y6k{A0:Addr}(M:Bl mg)(T:C8 K mg A0)(F:Fun K "names_told_of" "names_told_of" z3q f fd)(J4:D2 P w K mg base 1 A0 "tail_of" z3v (y1n (ShD K A0))) :
  A7 P w K mg base CX0 2 f fd z3u (y5Y (ShD K A0)):=by
 have nd:=z4B.nd
 refine F.ok z4B (fun vs H Q E h=>?_) (fun cdv A outer s H vs Q E hr h=>?_)
 ·obtain⟨x,n,t,fp,nm,r,rows,had,rfl,_⟩:=h
  rfl
 obtain⟨x,n,t,fp,nm,r,rows,had,rfl,sh,ht,k⟩:=h
 have hu:=y0g hr
 refine⟨_,(z04 (z0D (z0a z2L (pv 2) z06 (z0m _)) (z05 (z0f (z0Q z02))) z0l) (z05 (z0f (z6P hu (z0u (z4L (K:=K) rfl rfl) rfl M.dict hV (z00 (z2a J4 (rm hr) (pv 0) (z00 (pv 2) z02)) z02)) (pv 1) (fun _ _=>rfl))))),?_⟩
 refine⟨_,rfl,rfl,_,rfl,B0 (fun c=>?_) (fun c=>?_)⟩
 ·have c':t=0:=V.int.inj (z0F c)
  refine⟨(by show 0≤sizeLine;decide),fun l hl=>k _ _ (z01 hl _) ?_⟩
  unfold y6R
  rw[if_pos c']
  exact z0r z03 (by show 0≤1000000;decide) .nil
 ·have c':t≠0:=fun z=>c (decide_eq_true (congrArg V.int z))
  obtain⟨th,t60,tn⟩:=ht c'
  obtain⟨dx,fs,h1,lm⟩:∃dx fs,H x=some (.ins A0 dx fs)/\fs.lookup ("tail_of":Str)=none:=by
   obtain⟨dx,pn,pd,fs,kvs,_,h1,_,_,_,_,_,_,lm,_⟩:=sh
   exact⟨dx,fs,h1,lm _ (by simp)⟩
  refine⟨_,rfl,x,dx,fs,rfl,h1,lm,_,rfl,x,fp,nm,r,_,had,t,_,_,_,rfl,sh,th,rfl,fun v tv=>?_⟩
  obtain⟨a,us,rfl,ea,_,tu⟩:=z0g tv
  obtain⟨kvs,p1,p2,p3⟩:=z8N (K:=K) tu
  have lu:us.length≤1000:=by
   rw[tu.length,b7]
   unfold z6w
   have:=cJ (fun k=>decide (t-k≤r)) (dnI (t-1) (t-1).toNat)
   rw[y4s] at this
   omega
  refine⟨a,us,kvs,rfl,.inr ea,p1,lu,?_,fun l hl=>?_⟩
  ·rw[p2]
   rw[dA,dG]
   exact(dA.mp (y5C t r)).imp fun h e=>h (Sum.inl.inj e)
  ·obtain⟨v,ev,mv⟩:=z7t p2 tn
   refine⟨_,rfl,l,_,rfl,(by rw[<- ev];exact L7.k (k:=Sum.inl n) z03),?_⟩
   refine k v _ (z01 hl _) ?_
   unfold y6R
   rw[if_neg c']
   exact A5.keep (z01 hl _) _ _ (p3 n v mv)
theorem y5y{had:List Int}{r n:Int}(h60:∀n∈had,1≤n/\n≤60)(hn:n∈z16 (z0c had))(h:z0G (z0c had) n r≠0):z0G (z0c had) n r∈had/\z0G (z0c had) n r≤60/\n∈z6w (z0G (z0c had) n r) r:=by
 unfold z0G at h ⊢
 cases e:(upI 1 60).find? (y0W (z0c had) n r) with
 | none=>rw[e] at h;exact absurd rfl h
 | some y=>
  obtain⟨_,hc,_⟩:=y3E (z1s 1 60) e
  obtain⟨a,b,c⟩:=z4m.mp hc
  have hy:=(z0Z.mp c).2
  have:=h60 y hy
  have:=(z0N.mp hn).1
  show y∈had/\y≤60/\n∈z6w y r
  exact⟨hy,by omega,y2V.mpr (by omega)⟩
theorem y3V{A0:Addr}(M:Bl mg)(T:C8 K mg A0)(F:Fun K "gaps_of" "gaps_of" z9y f fd)(A6:D2 P w K mg base 1 A0 "had" z1n (z3n (ShD K A0)))
  (B4:Cal P w K mg base 2 "lacking_with_tellers" z1a (y71 K)) (J8:Cal P w K mg base 2 "names_told_of" z3u (y5Y (ShD K A0))) :
  A7 P w K mg base CX0 3 f fd z6g (z7o (ShD K A0)):=by
 have nd:=z9T.nd
 refine F.ok z9T (fun vs H Q E h=>?_) (fun cdv A outer s H vs Q E hr h=>?_)
 ·obtain⟨x,fp,nm,r,rows,had,rfl,_⟩:=h
  rfl
 obtain⟨x,fp,nm,r,rows,had,rfl,sh,gn,rw',l60,hh,r0,r1,k⟩:=h
 refine⟨_,(z04 (z0p (i:=1) nd rfl (Or.inl rfl) (z0i B4 (rm hr) rfl (z00 (z1M A6 (rm hr) (pv 0)) (z00 (z0I (pv 0) rfl) z02)))) (z05 (z0f (z0u z0o rfl M.tuple bI (z00 (z1e ["number","teller"] ["shelf"] [0] rfl (z0v rfl (by decide +kernel) rfl (by decide +kernel) rfl rfl) (z23 (pv 1)) (fun _ _ _ _ _=>(z9r (K:=K) (n:=2) rfl rfl (z1m (z0j (i:=0) (show((["number","teller"]:List PySem.Str)++(["shelf"]:List PySem.Str)).Nodup from by decide +kernel) rfl (Or.inl rfl)) (z1m (z0j (i:=1) (show((["number","teller"]:List PySem.Str)++(["shelf"]:List PySem.Str)).Nodup from by decide +kernel) rfl (Or.inl rfl)) z5l)))) (z9D (z2b (z0w (by decide)) z0h (z2b (z0w (by decide)) z0h z7M z1k) (z0R z0h z1k))) (z7p (z0R z0h (z0R z0h z1k))) (fun _ _ _ _ _=>z2g) (fun _ _ _ _ _=>(z0Q (z00 (pv 0) (z00 (pv 1) (z00 (z0i J8 (rm hr) rfl (z00 (pv 2) (z00 (pv 0) (z00 (pv 1) z02)))) z02)))))) z02))))),?_⟩
 have h60:∀n∈had,1≤n/\n≤60:=fun n hn=>by have:=hh n hn;omega
 obtain⟨dx,fs,h1,lm,lr⟩:∃dx fs,H x=some (.ins A0 dx fs)/\fs.lookup ("had":Str)=none/\fs.lookup ("reach":Str)=some (V.int r):=by
  obtain⟨dx,pn,pd,fs,kvs,_,h1,_,_,_,_,lr,_,lm,_⟩:=sh
  exact⟨dx,fs,h1,lm _ (by simp),lr⟩
 refine⟨_,rfl,x,dx,fs,rfl,h1,lm,x,fp,nm,r,_,had,rfl,sh,fun l H1 s1 e1=>?_⟩
 refine⟨_,rfl,x,A0,dx,fs,_,rfl,s1 _ _ h1,T.cl,T.n_reach,lr,l,z0c had,r,rfl,.inr (SqT.of e1),fun n hn=>h60 n (z0Z.mp hn).2,cM (z38 had) (by decide),fun lt xs H2 s2 e2 pr2=>?_⟩
 have sh2:ShD K A0 H2 x fp nm r (fun n=>z10 rows n r) had:=F1.same sh (s1.trans s2)
 have lx:xs.length=(z16 (z0c had)).length:=by rw[pr2.len];unfold P7;rw[b7]
 have ll:=z2e (z0c had)
 refine⟨_,rfl,lt,rfl,⟨_,SqT.of e2⟩,?_⟩
 refine z1J (xs:=xs) (fun i ys H'=>A3 H2 H'/\z08 H' (((z16 (z0c had)).take i).map (P9 (z0c had) rows r)) ys) ⟨A3.refl _,by rw[cS];exact .nil⟩ (fun i ys H' hi hp=>?_) (fun i y ys H' hy hp=>?_) (fun ys H' hp=>?_)
 ·obtain⟨g,t⟩:=hp
  refine⟨SqT.of (g _ _ e2),z0e ?_⟩
  rw[t.length,b7,bH]
  omega
 ·obtain⟨g,t⟩:=hp
  obtain⟨⟨n,tl⟩,e,a,rfl,ha⟩:=pr2.get i y hy
  unfold P7 at e
  rw[bB] at e
  obtain⟨m,em,e3⟩:=cG.mp e
  cases e3
  refine⟨a,_,rfl,SqT.of (g _ _ ha),rfl,_,_,rfl,_,_,rfl,rfl,?_⟩
  refine⟨_,rfl,_,rfl,_,rfl,_,rfl,_,rfl,x,n,_,fp,nm,r,rows,had,rfl,F1.same sh2 g,y5y h60 (bO em),fun v H3 s3 tv=>?_⟩
  refine⟨(by show 3≤sizeLine;decide),fun q hq=>⟨g.trans (s3.trans (z01 hq _)),?_⟩⟩
  rw[eY,em,bD]
  exact z08.snoc (z08.keep (s3.trans (z01 hq _)) _ _ t) (z0r z03 (by show 3≤1000000;decide) (.cons (z0H _) (.cons (z0H _) (.cons (A5.keep (z01 hq _) _ _ tv) .nil))))
 ·obtain⟨g,t⟩:=hp
  rw[lx,bT] at t
  intro D hD
  refine⟨D,ys,rfl,.inl ⟨SqL.of z03,fun q hq=>k _ _ (s1.trans (s2.trans (g.trans ((z01 hD _).trans (z01 hq _))))) (z0r z03 ?_ (z08.keep ((z01 hD _).trans (z01 hq _)) _ _ t))⟩⟩
  unfold z39
  rw[b7]
  omega
def z9n(Sh:ShP):Sp:=fun vs H Q _=>∃(p:Addr) (fp:List Addr) (zs:List Str) (r:Int) (iss:Int->DV) (had:List Int) (n:Int) (d0 d1 d2:DV),vs=[.ref p,.int n]/\Sh H p fp zs r iss had/\n∈had/\iss n=.tup [d0,d1,d2]/\∀v,A5 H d1 v->Q v H
theorem y4w{A0:Addr}(M:Bl mg)(T:C8 K mg A0)(F:Fun K "rows_of" "Shelf.rows_of" z3z f fd):A7 P w K mg base CX0 1 f fd z2z (z9n (ShD K A0)):=by
 have nd:=z4z.nd
 refine F.ok z4z (fun vs H Q E h=>?_) (fun cdv A outer s H vs Q E hr h=>?_)
 ·obtain⟨p,fp,zs,r,iss,had,n,d0,d1,d2,rfl,_⟩:=h
  rfl
 obtain⟨p,fp,zs,r,iss,had,n,d0,d1,d2,rfl,sh,hn,en,k⟩:=h
 have hu:=y0g hr
 refine⟨_,(z05 (z0f (z0z z0A (z6P hu (z0I (pv 0) rfl) (pv 1) (fun _ _=>rfl)) z06 (fun _ _=>rfl)))),?_⟩
 obtain⟨dx,pn,pd,fs,kvs,rfl,h1,h2,h3,h4,l1,l2,l3,lm,kk,ndh,all,tl,g,r0,r1⟩:=sh
 obtain⟨v,ev,mv⟩:=z7t kk hn
 have tv:=tl n v mv
 rw[en] at tv
 obtain⟨a,us,rfl,ea,_,tu⟩:=z0g tv
 obtain⟨x0,ur,rfl,t0,tu⟩:=z0d tu
 obtain⟨x1,ur,rfl,t1,tu⟩:=z0d tu
 refine⟨_,rfl,p,A0,dx,fs,_,rfl,h1,T.cl,T.n_issues,l3,_,rfl,pd,_,rfl,(by rw[<- ev];exact L7.k (k:=Sum.inl n) h4),?_⟩
 exact⟨a,_,_,x1,rfl,rfl,SqT.of ea,z0K rfl,k x1 t1⟩
theorem y0m{K:PySem.W.Frag}{H:Hp}:∀{w:Row}{xs:List V},z08 H (w.map z9o) xs->Paired (y4a K H) xs (w.map kvR)
 | [],xs,h=>by
  rw[z0E h]
  exact .nil
 | p::w,xs,h=>by
  obtain⟨x,r,rfl,t,h'⟩:=z0d h
  obtain⟨a,us,rfl,ea,_,tu⟩:=z0g t
  obtain⟨x0,ur,rfl,t0,tu⟩:=z0d tu
  obtain⟨x1,ur,rfl,t1,tu⟩:=z0d tu
  have:=z0E tu
  subst this
  rw[z3h t0,z19 t1] at ea
  exact .cons ⟨a,rfl,.inr (SqT.of ea)⟩ (y0m h')
theorem w0R(w:Row)(z:Str):∀acc:Option Int,w.foldl (fun acc p=>if p.1=z then some p.2 else acc) acc=match E5 w z with|some v=>some v|none=>acc:=by
 unfold E5
 induction w with
 | nil=>intro acc;rfl
 | cons p w ih=>
  intro acc
  rw[dB,dB,ih,ih (if p.1=z then some p.2 else none)]
  cases w.foldl (fun acc p=>if p.1=z then some p.2 else acc) none with
  | some v=>rfl
  | none=>
   by_cases h:p.1=z
   ·rw[if_pos h,if_pos h]
   ·rw[if_neg h,if_neg h]
theorem z7C(p:Str×Int)(w:Row)(z:Str):E5 (p::w) z=match E5 w z with|some v=>some v|none=>if p.1=z then some p.2 else none:=by
 conv=>lhs;unfold E5
 rw[dB,w0R]
theorem y4E{w:Row}{z:Str}(h:z∉w.map Prod.fst):E5 w z=none:=by
 induction w with
 | nil=>rfl
 | cons p w ih=>
  rw[cP,bA,not_or] at h
  rw[z7C,ih h.2,if_neg (fun e=>h.1 e.symm)]
theorem y0H{z:Str}:∀{w:Row},(w.map Prod.fst).Nodup->K1 (w.map kvR) (Sum.inr z:Key)=(E5 w z).map V.int
 | [],_=>rfl
 | p::w,h=>by
  rw[cP,dM] at h
  rw[cP,z7C]
  by_cases e:p.1=z
  ·rw[z61 (show(kvR p).1=Sum.inr z by unfold kvR;rw[e]),y4E (e ▸ h.1),if_pos e]
   rfl
  ·rw[z5Y (show ¬(kvR p).1=Sum.inr z from fun q=>e (Sum.inr.inj q)),y0H h.2,if_neg e]
   cases E5 w z<;>rfl
theorem y7n{nm:List Str}{rows:List Row}(g:D6 nm)(R:Rws nm rows)(n:Int):((z0y rows n).map Prod.fst).Nodup:=by
 unfold z0y
 rw[bL]
 cases e:rows[(n-1).toNat]? with
 | none=>exact .nil
 | some w=>exact(R.sub w (bO e)).nodup g.nd
theorem y0L{nm:List Str}{rows:List Row}(g:D6 nm)(R:Rws nm rows)(n:Int):(z0y rows n).length≤12:=by
 unfold z0y
 rw[bL]
 cases e:rows[(n-1).toNat]? with
 | none=>exact cV _
 | some w=>
  have h:=(R.sub w (bO e)).length_le
  rw[b7] at h
  exact cM h g.hi
def z3C(Sh:ShP):Sp:=fun vs H Q _=>∃(x:Addr) (z:Str) (fp:List Addr) (nm:List Str) (r:Int) (rows:List Row) (had:List Int),vs=[.ref x,.str z]/\Sh H x fp nm r (fun n=>z10 rows n r) had/\z∈nm/\D6 nm/\Rws nm rows/\
 ∀(v:V) (H':Hp),A3 H H'->A5 H' (z9K (z0W (z0c had) rows z)) v->Q v H'
theorem y22{A0:Addr}(M:Bl mg)(T:C8 K mg A0)(F:Fun K "held_for" "held_for" z81 f fd)(B6:Cal P w K mg base 1 "refuse_unknown_name" z1l (y6b K))
  (A6:D2 P w K mg base 1 A0 "had" z1n (z3n (ShD K A0))) (D0:D2 P w K mg base 1 A0 "rows_of" z2z (z9n (ShD K A0))) :
  A7 P w K mg base CX0 2 f fd z2U (z3C (ShD K A0)):=by
 have nd:=z8X.nd
 refine F.ok z8X (fun vs H Q E h=>?_) (fun cdv A outer s H vs Q E hr h=>?_)
 ·obtain⟨x,z,fp,nm,r,rows,had,rfl,_⟩:=h
  rfl
 obtain⟨x,z,fp,nm,r,rows,had,rfl,sh,hz,gn,R,k⟩:=h
 have hu:=y0g hr
 refine⟨_,(z04 (z0C (z0i B6 (rm hr) rfl (z00 (z0I (pv 0) rfl) (z00 (pv 1) z02)))) (z04 (z0P bQ rfl (y5M rfl M.reversed (z00 (z1M A6 (rm hr) (pv 0)) z02)) (z0j (i:=2) nd rfl (Or.inl rfl)) (z04 (z0p (i:=3) nd rfl (Or.inl rfl) (z0u (z4L (K:=K) rfl rfl) rfl M.dict hV (z00 (z2a D0 (rm hr) (pv 0) (z00 (pv 2) z02)) z02))) (z05 (z0D (z8r (y4f hu (pv 1) (pv 3))) (z05 (z0f (z0Q (z00 (pv 2) (z00 (z6P hu (pv 3) (pv 1) (fun _ _=>rfl)) z02))))) z0l)))) (z05 (z0f (z0Q (z00 z06 (z00 z8P z02))))))),?_⟩
 obtain⟨dx,pn,fs,h1,h3,ln,lh,lo⟩:∃dx pn fs,H x=some (.ins A0 dx fs)/\H pn=some (.tup (nm.map V.str))/\fs.lookup ("names":Str)=some (V.ref pn)/\fs.lookup ("had":Str)=none/\fs.lookup ("rows_of":Str)=none:=by
  obtain⟨dx,pn,pd,fs,kvs,_,h1,_,h3,_,l1,_,_,lm,_⟩:=sh
  exact⟨dx,pn,fs,h1,h3,l1,lm _ (by simp),lm _ (by simp)⟩
 refine⟨_,rfl,x,A0,dx,fs,_,rfl,h1,T.cl,T.n_names,ln,_,rfl,pn,nm,z,rfl,.inr (SqT.of h3),hz,?_⟩
 refine⟨_,rfl,x,dx,fs,rfl,h1,lh,x,fp,nm,r,_,had,rfl,sh,fun l H1 s1 e1=>?_⟩
 refine⟨l,_,rfl,SqT.of e1,?_⟩
 have sh1:ShD K A0 H1 x fp nm r (fun n=>z10 rows n r) had:=F1.same sh s1
 have L1:((z0c had).map V.int).length=(z0c had).length:=b7 _
 refine y69 (fun i σ H'=>∃(o1 o2:Option V),A3 H1 H'/\z0W (z0c had) rows z=z0W ((z0c had).take ((z0c had).length-i)) rows z/\σ=[some (.ref x),some (.str z),o1,o2])
  ⟨none,none,A3.refl _,by rw[gQ,bT],rfl⟩ (fun i σ H' _ ⟨_,_,g,_⟩=>SqT.of (g _ _ e1)) (fun i y σ H' hy hp=>?_) (fun σ H' hp=>?_)
 ·obtain⟨o1,o2,g,eh,rfl⟩:=hp
  rw[<- jX,bB] at hy
  obtain⟨n,hn,rfl⟩:=cG.mp hy
  have hi:i<(z0c had).length:=by
   have:=(bW.mp hn).1
   rw[dS] at this
   exact this
  rw[j5 hi] at hn
  have et:(z0c had).take ((z0c had).length-i)=(z0c had).take ((z0c had).length-(i+1))++[n]:=by
   have e:(z0c had).length-i=((z0c had).length-(i+1))+1:=by omega
   rw[e]
   refine z0n ?_
   rw[show(z0c had).length-(i+1)=(z0c had).length-1-i by omega]
   exact hn
  have nh:n∈had:=(z0Z.mp (bO hn)).2
  refine⟨_,rfl,x,dx,fs,rfl,g _ _ (s1 _ _ h1),lo,_,rfl,x,fp,nm,r,_,had,n,_,_,_,rfl,F1.same sh1 g,nh,rfl,fun v tv=>?_⟩
  obtain⟨a,us,rfl,ea,_,tu⟩:=z0g tv
  have ndw:=y7n gn R n
  refine⟨a,us,(z0y rows n).map kvR,rfl,.inr ea,y0m tu,?_,?_,fun d hd=>?_⟩
  ·rw[tu.length,b7]
   have:=y0L gn R n
   omega
  ·have e:((z0y rows n).map kvR).map (·.1)=((z0y rows n).map Prod.fst).map Sum.inr:=by rw[dJ,dJ];rfl
   rw[e,dA,dG]
   exact(dA.mp ndw).imp fun h e=>h (Sum.inr.inj e)
  refine⟨_,rfl,_,rfl,d,_,rfl,L7.k (k:=Sum.inr z) z03,_,rfl,?_⟩
  rw[y0H ndw]
  rw[et,z6B] at eh
  cases ev:E5 (z0y rows n) z with
  | none=>
   rw[ev] at eh
   exact B1 ⟨_,_,g.trans (z01 hd _),eh,rfl⟩
  | some v=>
   rw[ev] at eh
   refine F4 ⟨_,rfl,_,rfl,_,rfl,d,_,rfl,(show L7 _ d (kV (Sum.inr z)) (some (V.int v)) by rw[<- show K1 ((z0y rows n).map kvR) (Sum.inr z:Key)=some (V.int v) by rw[y0H ndw,ev];rfl];exact L7.k z03),(by show 2≤sizeLine;decide),fun q hq=>k _ _ (s1.trans (g.trans ((z01 hd _).trans (z01 hq _)))) ?_⟩
   rw[eh]
   exact z0r z03 (by show 2≤1000000;decide) (.cons (z0H _) (.cons (z0H _) .nil))
 ·obtain⟨o1,o2,g,eh,rfl⟩:=hp
  rw[L1,Nat.sub_self,cS] at eh
  refine⟨(by show 2≤sizeLine;decide),fun q hq=>k _ _ (s1.trans (g.trans (z01 hq _))) ?_⟩
  rw[eh]
  exact z0r z03 (by show 2≤1000000;decide) (.cons (z0H _) (.cons z7u .nil))
def z6l(Sh:ShP):Sp:=fun vs H Q _=>∃(x:Addr) (z:Str) (fp:List Addr) (nm:List Str) (r:Int) (rows:List Row) (had:List Int),vs=[.ref x,.str z]/\Sh H x fp nm r (fun n=>z10 rows n r) had/\z∈nm/\D6 nm/\Rws nm rows/\rows.length≤60/\(∀n∈had,1≤n/\n≤rows.length)/\0≤r/\r≤10/\
 ∀(v:V) (H':Hp),A3 H H'->A5 H' (y1Q (z0c had) rows r (z1A (z0W (z0c had) rows z)) z) v->Q v H'
theorem y0I{A0:Addr}(M:Bl mg)(T:C8 K mg A0)(F:Fun K "set_again" "set_again" z6I f fd)(B8:Cal P w K mg base 2 "held_for" z2U (z3C (ShD K A0)))
  (F0:Cal P w K mg base 3 "gaps_of" z6g (z7o (ShD K A0))):A7 P w K mg base CX0 4 f fd z4T (z6l (ShD K A0)):=by
 have nd:=z7B.nd
 refine F.ok z7B (fun vs H Q E h=>?_) (fun cdv A outer s H vs Q E hr h=>?_)
 ·obtain⟨x,z,fp,nm,r,rows,had,rfl,_⟩:=h
  rfl
 obtain⟨x,z,fp,nm,r,rows,had,rfl,sh,hz,gn,R,l60,hh,r0,r1,k⟩:=h
 refine⟨_,(z04 (z0p (i:=2) nd rfl (Or.inr rfl) (z0z z0A (z0i B8 (rm hr) rfl (z00 (pv 0) (z00 (pv 1) z02))) z06 (fun _ _=>rfl))) (z05 (z0f (z0u z0o rfl M.tuple bI (z00 (z1e ["number","teller","names"] ["held_from","name"] [2,1] rfl (z0v rfl (by decide +kernel) rfl (by decide +kernel) rfl rfl) (z23 (z0i F0 (rm hr) rfl (z00 (pv 0) z02))) (fun _ _ _ _ _=>(z9r (K:=K) (n:=3) rfl rfl (z1m (z0j (i:=0) (show((["number","teller","names"]:List PySem.Str)++(["held_from","name"]:List PySem.Str)).Nodup from by decide +kernel) rfl (Or.inl rfl)) (z1m (z0j (i:=1) (show((["number","teller","names"]:List PySem.Str)++(["held_from","name"]:List PySem.Str)).Nodup from by decide +kernel) rfl (Or.inl rfl)) (z1m (z0j (i:=2) (show((["number","teller","names"]:List PySem.Str)++(["held_from","name"]:List PySem.Str)).Nodup from by decide +kernel) rfl (Or.inl rfl)) z5l))))) (z9D (z2b (z0w (by decide)) z0h (z2b (z0w (by decide)) z0h (z2b (z0w (by decide)) z0h z7M z1k) (z0R z0h z1k)) (z0R z0h (z0R z0h z1k)))) (z7p (z0R z0h (z0R z0h (z0R z0h z1k)))) (fun _ _ _ _ _=>(z2d (PW.pt (z3c (z0a z2k (pv 0) (pv 3) (z0m _)) (z2j (z0a (r:=rIn K false) z4p (pv 4) (pv 2) (by with_unfolding_all rfl))))))) (fun _ _ _ _ _=>(z0Q (z00 (pv 0) (z00 (pv 1) z02))))) z02))))),?_⟩
 refine⟨_,rfl,_,rfl,x,z,fp,nm,r,rows,had,rfl,sh,hz,gn,R,fun v H1 s1 tv=>?_⟩
 obtain⟨a,y,rfl,ea,_⟩:=z3S tv
 refine⟨a,_,_,_,rfl,rfl,SqT.of ea,z0K rfl,?_⟩
 have sh1:=F1.same sh s1
 refine⟨_,rfl,x,fp,nm,r,rows,had,rfl,sh1,gn,R,l60,hh,r0,r1,fun u H2 s2 tu=>?_⟩
 obtain⟨b,xs,rfl,eb,_,tb⟩:=z0g tu
 have lx:=z8p tb
 have ll:=z2e (z0c had)
 generalize z1A (z0W (z0c had) rows z)=num at *
 refine⟨b,rfl,⟨_,SqT.of eb⟩,?_⟩
 refine z1J (xs:=xs) (fun i ys H'=>A3 H2 H'/\z08 H' ((((z16 (z0c had)).take i).filter fun n=>decide (num<n) && decide (z∈z2m (z0c had) rows r n)).map fun n=>.tup [.int n,.int (z0G (z0c had) n r)]) ys) ⟨A3.refl _,.nil⟩ (fun i ys H' hi hp=>?_) (fun i y ys H' hy hp=>?_) (fun ys H' hp=>?_)
 ·obtain⟨g,t⟩:=hp
  refine⟨SqT.of (g _ _ eb),z0e ?_⟩
  rw[t.length,b7]
  have:=cJ (fun n=>decide (num<n) && decide (z∈z2m (z0c had) rows r n)) ((z16 (z0c had)).take i)
  rw[bH] at this
  omega
 ·obtain⟨g,t⟩:=hp
  obtain⟨n,c,d,en,rfl,ec,ed⟩:=z6e tb hy
  refine⟨c,_,rfl,SqT.of (g _ _ ec),rfl,_,_,rfl,_,_,rfl,_,_,rfl,rfl,?_⟩
  rw[z0n en,dW,eM]
  refine⟨_,rfl,_,rfl,_,_,rfl,rfl,_,rfl,?_⟩
  have skip:¬(decide (num<n) && decide (z∈z2m (z0c had) rows r n))=true->A3 H2 H'/\z08 H' (((((z16 (z0c had)).take i).filter fun n=>decide (num<n) && decide (z∈z2m (z0c had) rows r n))++(if (decide (num<n) && decide (z∈z2m (z0c had) rows r n))=true then n::List.filter (fun n=>decide (num<n) && decide (z∈z2m (z0c had) rows r n)) [] else List.filter (fun n=>decide (num<n) && decide (z∈z2m (z0c had) rows r n)) [])).map fun n=>.tup [.int n,.int (z0G (z0c had) n r)]) ys:=fun c=>by
   rw[if_neg c,fO,cY]
   exact⟨g,t⟩
  refine B0 (fun c=>?_) (fun c=>?_)
  ·refine⟨_,rfl,_,rfl,d,_,rfl,.inr (SqT.of (g _ _ ed)),rfl,z1E _,_,rfl,?_⟩
   rw[if_neg bJ,y0d]
   refine B0 (fun c2=>?_) (fun c2=>?_)
   ·refine⟨_,rfl,_,rfl,(by show 2≤sizeLine;decide),fun q hq=>⟨g.trans (z01 hq _),?_⟩⟩
    rw[if_pos (by rw[bY];exact⟨c,c2⟩),fO,bD]
    exact z08.snoc (z08.keep (z01 hq _) _ _ t) (z0r z03 (by show 2≤1000000;decide) (.cons (z0H _) (.cons (z0H _) .nil)))
   ·exact skip (by rw[bY];exact fun z=>c2 z.2)
  ·exact skip (by rw[bY];exact fun z=>c z.1)
 ·obtain⟨g,t⟩:=hp
  rw[lx,bT] at t
  intro D hD
  refine⟨D,ys,rfl,.inl ⟨SqL.of z03,fun q hq=>k _ _ (s1.trans (s2.trans (g.trans ((z01 hD _).trans (z01 hq _))))) (z0r z03 ?_ (z08.keep ((z01 hD _).trans (z01 hq _)) _ _ t))⟩⟩
  rw[b7]
  exact cM (z8Q (z0c had) rows r num z) (by decide)
theorem z4t{ns:List Int}{r n:Int}:n∈z1Q ns r↔n∈z16 ns/\z0G ns n r=0:=by
 unfold z1Q P7
 rw[cO]
 constructor
 ·rintro⟨⟨a,b⟩,h,rfl⟩
  rw[cI,cO,decide_eq_true_eq] at h
  obtain⟨⟨m,hm,e⟩,h2⟩:=h
  cases e
  exact⟨hm,h2⟩
 ·rintro⟨h1,h2⟩
  refine⟨(n,z0G ns n r),?_,rfl⟩
  rw[cI,cO,decide_eq_true_eq]
  exact⟨⟨n,h1,rfl⟩,h2⟩
theorem z7d{ns:List Int}{r num:Int}:z44 ns r num=[]↔∀n∈z1Q ns r,n≤num:=by
 unfold z44
 rw[List.filter_eq_nil_iff]
 constructor
 ·intro h n hn
  obtain⟨h1,h2⟩:=z4t.mp hn
  have:=h n h1
  rw[bY,decide_eq_true_eq,decide_eq_true_eq] at this
  rcases Int.lt_or_le num n with q|q
  ·exact absurd ⟨q,h2⟩ this
  ·exact q
 ·intro h n hn
  rw[bY,decide_eq_true_eq,decide_eq_true_eq]
  rintro⟨h1,h2⟩
  have:=h n (z4t.mpr ⟨hn,h2⟩)
  omega
theorem z8q{ns:List Int}{r num:Int}:z1p ns r num=[]↔z44 ns r num=[]:=by
 rw[z7d]
 unfold z1p
 rw[List.filter_eq_nil_iff]
 exact⟨fun h n hn=>Int.not_lt.mp fun z=>h n hn (decide_eq_true z),fun h n hn z=>by have:=h n hn;have:=of_decide_eq_true z;omega⟩
def z4y(Sh:ShP):Sp:=fun vs H Q _=>∃(x:Addr) (z:Str) (fp:List Addr) (nm:List Str) (r:Int) (rows:List Row) (had:List Int),vs=[.ref x,.str z]/\Sh H x fp nm r (fun n=>z10 rows n r) had/\z∈nm/\D6 nm/\Rws nm rows/\rows.length≤60/\(∀n∈had,1≤n/\n≤rows.length)/\0≤r/\r≤10/\
 ∀(H':Hp),A3 H H'->Q (.str (z0Y (z0c had) rows r (z1A (z0W (z0c had) rows z)) z)) H'
theorem y2B{A0:Addr}(M:Bl mg)(T:C8 K mg A0)(F:Fun K "state_of" "state_of" z7J f fd)(B8:Cal P w K mg base 2 "held_for" z2U (z3C (ShD K A0)))
  (F8:Cal P w K mg base 4 "set_again" z4T (z6l (ShD K A0))) (A6:D2 P w K mg base 1 A0 "had" z1n (z3n (ShD K A0)))
  (B5:Cal P w K mg base 4 "dark_numbers_behind" z1j (z9H K)):A7 P w K mg base CX0 5 f fd z3F (z4y (ShD K A0)):=by
 have nd:=z9a.nd
 refine F.ok z9a (fun vs H Q E h=>?_) (fun cdv A outer s H vs Q E hr h=>?_)
 ·obtain⟨x,z,fp,nm,r,rows,had,rfl,_⟩:=h
  rfl
 obtain⟨x,z,fp,nm,r,rows,had,rfl,sh,hz,gn,R,l60,hh,r0,r1,k⟩:=h
 refine⟨_,(z04 (z0D (z0a z2k (z0b z09 rfl M.len bK (z00 (z0i F8 (rm hr) rfl (z00 (pv 0) (z00 (pv 1) z02))) z02)) z06 (z0m _)) (z05 (z0f (z26 rfl M.STALE))) z0l) (z04 (z0p (i:=2) nd rfl (Or.inl rfl) (z0z z0A (z0i B8 (rm hr) rfl (z00 (pv 0) (z00 (pv 1) z02))) z06 (fun _ _=>rfl))) (z04 (z0p (i:=3) nd rfl (Or.inl rfl) (z0i B5 (rm hr) rfl (z00 (z1M A6 (rm hr) (pv 0)) (z00 (z0I (pv 0) rfl) (z00 (pv 2) z02))))) (z05 (z0f (z60 (z0a z2k (z0b z09 rfl M.len bK (z00 (pv 3) z02)) z06 (z0m _)) (z26 rfl M.OPEN) (z26 rfl M.SURE))))))),?_⟩
 refine⟨_,rfl,_,rfl,x,z,fp,nm,r,rows,had,rfl,sh,hz,gn,R,l60,hh,r0,r1,fun v H1 s1 tv=>?_⟩
 obtain⟨a,xs,rfl,ea,_,ta⟩:=z0g tv
 have lx:=ta.length
 rw[b7] at lx
 refine⟨a,xs,rfl,.inr (SqT.of ea),_,_,rfl,rfl,_,rfl,B0 (fun c=>?_) (fun c=>?_)⟩
 ·have c':=z0F c
  have e:=k H1 s1
  unfold z0Y at e
  rw[if_pos (by omega)] at e
  exact e
 ·have c':=z49 c
  have sh1:=F1.same sh s1
  refine⟨_,rfl,_,rfl,x,z,fp,nm,r,rows,had,rfl,sh1,hz,gn,R,fun v H2 s2 tv=>?_⟩
  obtain⟨b,y,rfl,eb,_⟩:=z3S tv
  refine⟨b,_,_,_,rfl,rfl,SqT.of eb,z0K rfl,?_⟩
  have sh2:=F1.same sh1 s2
  obtain⟨dx,fs,h1,lm,lr⟩:∃dx fs,H2 x=some (.ins A0 dx fs)/\fs.lookup ("had":Str)=none/\fs.lookup ("reach":Str)=some (V.int r):=by
   obtain⟨dx,pn,pd,fs,kvs,_,h1,_,_,_,_,lr,_,lm,_⟩:=sh2
   exact⟨dx,fs,h1,lm _ (by simp),lr⟩
  have h60:∀n∈z0c had,1≤n/\n≤60:=fun n hn=>by have:=hh n (z0Z.mp hn).2;omega
  refine⟨_,rfl,x,dx,fs,rfl,h1,lm,x,fp,nm,r,_,had,rfl,sh2,fun l H3 s3 e3=>?_⟩
  refine⟨_,rfl,x,A0,dx,fs,_,rfl,s3 _ _ h1,T.cl,T.n_reach,lr,_,rfl,l,z0c had,r,_,rfl,.inr (SqT.of e3),h60,cM (z38 had) (by decide),fun d H4 s4 e4=>?_⟩
  have e:=k H4 (s1.trans (s2.trans (s3.trans s4)))
  unfold z0Y at e
  rw[if_neg (by omega)] at e
  refine⟨_,rfl,d,_,rfl,.inr (SqT.of e4),_,_,rfl,rfl,_,rfl,?_⟩
  rw[b7]
  refine B0 (fun c=>?_) (fun c=>?_)
  ·have c2:=z0F c
   rw[if_neg (fun z=>by rw[z8q.mpr z] at c2;exact absurd c2 (by decide))] at e
   exact e
  ·have c2:=z49 c
   rw[if_pos (z8q.mp (gZ.mp (by omega)))] at e
   exact e
theorem y2t(had:List Int):z0c (z0c had)=z0c had:=z1N (z1K _) (z1K _) fun x=>by
 rw[z0Z,z0Z]
 exact⟨fun h=>h.2,fun h=>⟨h.1,h⟩⟩
def z7G(Sh:ShP):Sp:=fun vs H Q _=>∃(x:Addr) (z:Str) (fp:List Addr) (nm:List Str) (r:Int) (rows:List Row) (had:List Int),vs=[.ref x,.str z]/\Sh H x fp nm r (fun n=>z10 rows n r) had/\z∈nm/\D6 nm/\Rws nm rows/\rows.length≤60/\(∀n∈had,1≤n/\n≤rows.length)/\0≤r/\r≤10/\
 ∀(q:Addr) (y:V) (H':Hp),A3 H H'->H' q=some (.tup [.str (z0Y (z0c had) rows r (z1A (z0W (z0c had) rows z)) z),.int (z1A (z0W (z0c had) rows z)),y])->A5 H' (y5H (z0W (z0c had) rows z)) y->Q (.ref q) H'
theorem y0a{A0:Addr}(M:Bl mg)(F:Fun K "state_and_held" "state_and_held" z36 f fd)(B8:Cal P w K mg base 2 "held_for" z2U (z3C (ShD K A0)))
  (C3:Cal P w K mg base 5 "state_of" z3F (z4y (ShD K A0))):A7 P w K mg base CX0 6 f fd z33 (z7G (ShD K A0)):=by
 have nd:=z4e.nd
 refine F.ok z4e (fun vs H Q E h=>?_) (fun cdv A outer s H vs Q E hr h=>?_)
 ·obtain⟨x,z,fp,nm,r,rows,had,rfl,_⟩:=h
  rfl
 obtain⟨x,z,fp,nm,r,rows,had,rfl,sh,hz,gn,R,l60,hh,r0,r1,k⟩:=h
 refine⟨_,(z05 (z0f (z0t (y1m (K:=K) rfl) (z0Q (z00 (z0i C3 (rm hr) rfl (z00 (pv 0) (z00 (pv 1) z02))) z02)) (z0i B8 (rm hr) rfl (z00 (pv 0) (z00 (pv 1) z02)))))),?_⟩
 refine⟨_,rfl,_,rfl,x,z,fp,nm,r,rows,had,rfl,sh,hz,gn,R,l60,hh,r0,r1,fun H1 s1=>?_⟩
 refine⟨(by show 1≤sizeLine;decide),fun a ha=>?_⟩
 have g2:=s1.trans (z01 ha (.tup [.str (z0Y (z0c had) rows r (z1A (z0W (z0c had) rows z)) z)]))
 have e2:upd H1 a (.tup [.str (z0Y (z0c had) rows r (z1A (z0W (z0c had) rows z)) z)]) a=some (.tup [.str (z0Y (z0c had) rows r (z1A (z0W (z0c had) rows z)) z)]):=z03
 generalize upd H1 a (.tup [.str (z0Y (z0c had) rows r (z1A (z0W (z0c had) rows z)) z)])=H2 at g2 e2
 refine⟨_,rfl,_,rfl,x,z,fp,nm,r,rows,had,rfl,F1.same sh g2,hz,gn,R,fun v H3 s3 tv=>?_⟩
 obtain⟨b,y,rfl,eb,tb⟩:=z3S tv
 exact⟨a,b,_,_,rfl,rfl,SqT.of (s3 _ _ e2),SqT.of eb,by simp,(by show 3≤sizeLine;decide),fun z=>(nomatch z),fun _ q hq=>k q y _ (g2.trans (s3.trans (z01 hq _))) z03 (A5.keep (z01 hq _) _ _ tb)⟩
theorem y00{A0:Addr}(M:Bl mg)(T:C8 K mg A0)(F:Fun K "knowledge" "knowledge" z6O f fd)(I0:Cal P w K mg base 6 "state_and_held" z33 (z7G (ShD K A0))):A7 P w K mg base CX0 7 f fd z6z (y66 (ShD K A0)):=by
 have nd:=z82.nd
 refine F.ok z82 (fun vs H Q E h=>?_) (fun cdv A outer s H vs Q E hr h=>?_)
 ·obtain⟨x,fp,nm,r,rows,had,rfl,_⟩:=h
  rfl
 obtain⟨x,fp,nm,r,rows,had,rfl,sh,gn,R,l60,hh,r0,r1,k⟩:=h
 refine⟨_,(z05 (z0f (z0u z0o rfl M.tuple bI (z00 (z1e ["name"] ["shelf"] [0] rfl (z0v rfl (by decide +kernel) rfl (by decide +kernel) rfl rfl) (z23 (z0I (pv 0) rfl)) (fun _ _ _ _ _=>(z0j (i:=0) (show((["name"]:List PySem.Str)++(["shelf"]:List PySem.Str)).Nodup from by decide +kernel) rfl (Or.inl rfl))) (z0w (by decide)) z0h (fun _ _ _ _ _=>z2g) (fun _ _ _ _ _=>(z0t (y1m (K:=K) rfl) (z0Q (z00 (pv 0) z02)) (z0i I0 (rm hr) rfl (z00 (pv 1) (z00 (pv 0) z02)))))) z02)))),?_⟩
 obtain⟨dx,pn,fs,h1,h3,ln⟩:∃dx pn fs,H x=some (.ins A0 dx fs)/\H pn=some (.tup (nm.map V.str))/\fs.lookup ("names":Str)=some (V.ref pn):=by
  obtain⟨dx,pn,pd,fs,kvs,_,h1,_,h3,_,l1,_⟩:=sh
  exact⟨dx,pn,fs,h1,h3,l1⟩
 have n12:=gn.hi
 refine⟨_,rfl,x,A0,dx,fs,_,rfl,h1,T.cl,T.n_names,ln,pn,rfl,⟨_,SqT.of h3⟩,?_⟩
 refine z1J (xs:=nm.map V.str) (fun i ys H'=>A3 H H'/\z08 H' ((nm.take i).map (W2 (z0c had) rows r)) ys) ⟨A3.refl _,by rw[cS];exact .nil⟩ (fun i ys H' hi hp=>?_) (fun i y ys H' hy hp=>?_) (fun ys H' hp=>?_)
 ·obtain⟨g,t⟩:=hp
  refine⟨SqT.of (g _ _ h3),z0e ?_⟩
  rw[t.length,b7,bH]
  omega
 ·obtain⟨g,t⟩:=hp
  rw[bB] at hy
  obtain⟨z,ez,rfl⟩:=cG.mp hy
  have hz:=bO ez
  have sh1:=F1.same sh g
  refine⟨_,rfl,(by show 1≤sizeLine;decide),fun a ha=>?_⟩
  have g2:=z01 ha (.tup [.str z])
  have e2:upd H' a (.tup [.str z]) a=some (.tup [.str z]):=z03
  generalize upd H' a (.tup [.str z])=H2 at g2 e2
  refine⟨_,rfl,_,rfl,x,z,fp,nm,r,rows,had,rfl,F1.same sh1 g2,hz,gn,R,l60,hh,r0,r1,fun b y H3 s3 eb tb=>?_⟩
  refine⟨a,b,_,_,rfl,rfl,SqT.of (s3 _ _ e2),SqT.of eb,by simp,(by show 4≤sizeLine;decide),fun z=>(nomatch z),fun _ q hq=>⟨g.trans (g2.trans (s3.trans (z01 hq _))),?_⟩⟩
  rw[eY,ez,bD]
  refine z08.snoc (z08.keep (g2.trans (s3.trans (z01 hq _))) _ _ t) ?_
  unfold W2
  rw[y2t]
  exact z0r z03 (by show 4≤1000000;decide) (.cons (z2w _) (.cons (z2w _) (.cons (z0H _) (.cons (A5.keep (z01 hq _) _ _ tb) .nil))))
 ·obtain⟨g,t⟩:=hp
  rw[b7,bT] at t
  intro D hD
  refine⟨D,ys,rfl,.inl ⟨SqL.of z03,fun q hq=>k _ _ (g.trans ((z01 hD _).trans (z01 hq _))) (z0r z03 ?_ (z08.keep ((z01 hD _).trans (z01 hq _)) _ _ t))⟩⟩
  rw[b7]
  omega
def y77:C1->DV
 | (none,n)=>.tup [.str "write",.int n]
 | (some r,n)=>.tup [.str "deliver",.int r,.int n]
theorem y3X{H:Hp}{u:V}{d:C1}(h:z55 H u d):A5 H (y77 d) u:=by
 obtain⟨b,rfl,e⟩:=h
 obtain⟨a,n⟩:=d
 cases a with
 | none=>exact z0r e (by show 2≤1000000;decide) (.cons (z2w _) (.cons (z0H _) .nil))
 | some r=>exact z0r e (by show 3≤1000000;decide) (.cons (z2w _) (.cons (z0H _) (.cons (z0H _) .nil)))
theorem y4o{H:Hp}:∀{us:List V}{log:List C1},Paired (z55 H) us log->∀(i:Nat) (d:C1),log[i]? = some d->∃u,us[i]? = some u/\z55 H u d:=by
 intro us log h
 induction h with
 | nil=>intro i d e;simp at e
 | cons h t ih=>
  intro i d e
  cases i with
  | zero=>
   simp at e
   subst e
   exact⟨_,rfl,h⟩
  | succ i=>
   obtain⟨u,q1,q2⟩:=ih i d (by simpa using e)
   exact⟨u,by simpa using q1,q2⟩
def y2A(Bk:BkP):Sp:=fun vs H Q _=>∃(p:Addr) (fp:List Addr) (zs:List Str) (r k:Int) (rows:List Row) (log:List C1),vs=[.ref p]/\Bk H p fp zs r k rows log/\∀H',A3 H H'->Q (.int rows.length) H'
def y3B(Bk:BkP):Sp:=fun vs H Q _=>∃(p:Addr) (fp:List Addr) (zs:List Str) (r k:Int) (rows:List Row) (log:List C1) (n:Int),vs=[.ref p,.int n]/\Bk H p fp zs r k rows log/\1≤n/\n≤rows.length/\
 ∀(v:V) (H':Hp),A3 H H'->A5 H' (z10 rows n r) v->Q v H'
def y5G(Bk:BkP):Sp:=fun vs H Q _=>∃(p:Addr) (fp:List Addr) (zs:List Str) (r k:Int) (rows:List Row) (log:List C1) (i:Nat) (d:C1),vs=[.ref p,.int ((i:Int)+1)]/\Bk H p fp zs r k rows log/\log[i]? = some d/\
 ∀v,A5 H (y77 d) v->Q v H
theorem y0Y{A4 A1:Addr}(M:Bl mg)(T:J3 K mg A4)(F:Fun K "latest" "Book.latest" z4D f fd)(J9:D2 P w K mg base 1 A1 "latest" z3r (z8S (OfD K A1))):A7 P w K mg base CX0 2 f fd z72 (y2A (BkD K A4 A1)):=by
 have nd:=z66.nd
 refine F.ok z66 (fun vs H Q E h=>?_) (fun cdv A outer s H vs Q E hr h=>?_)
 ·obtain⟨p,fp,zs,r,k,rows,log,rfl,_⟩:=h
  rfl
 obtain⟨p,fp,zs,r,k,rows,log,rfl,⟨dx,po,pd,fs,fo,us,rfl,B⟩,q⟩:=h
 refine⟨_,(z05 (z0f (z1M J9 (rm hr) (z0I (pv 0) rfl)))),?_⟩
 obtain⟨dxo,pno,plo,fso,xso,efo,h1,h2,h3,h4,l1,l2,l3,lmo,_⟩:=id B.of
 exact⟨_,rfl,p,A4,dx,fs,_,rfl,B.hp,T.cl,T.n_office,B.lo,po,dxo,fso,rfl,h1,lmo _ (by simp),po,fo,zs,r,rows,rfl,B.of,q⟩
theorem y2y{A4 A1:Addr}(M:Bl mg)(T:J3 K mg A4)(F:Fun K "issue" "Book.issue" z5K f fd)(B7:D2 P w K mg base 1 A1 "issue" z29 (z68 (OfD K A1))):A7 P w K mg base CX0 2 f fd z7D (y3B (BkD K A4 A1)):=by
 have nd:=z70.nd
 refine F.ok z70 (fun vs H Q E h=>?_) (fun cdv A outer s H vs Q E hr h=>?_)
 ·obtain⟨p,fp,zs,r,k,rows,log,n,rfl,_⟩:=h
  rfl
 obtain⟨p,fp,zs,r,k,rows,log,n,rfl,⟨dx,po,pd,fs,fo,us,rfl,B⟩,n1,n2,q⟩:=h
 refine⟨_,(z05 (z0f (z2a B7 (rm hr) (z0I (pv 0) rfl) (z00 (pv 1) z02)))),?_⟩
 obtain⟨dxo,pno,plo,fso,xso,efo,h1,h2,h3,h4,l1,l2,l3,lmo,_⟩:=id B.of
 exact⟨_,rfl,p,A4,dx,fs,_,rfl,B.hp,T.cl,T.n_office,B.lo,po,dxo,fso,rfl,h1,lmo _ (by simp),_,rfl,po,fo,zs,r,rows,n,rfl,B.of,n1,n2,q⟩
theorem y4l{A4 A1:Addr}(M:Bl mg)(T:J3 K mg A4)(F:Fun K "deed" "Book.deed" z6k f fd):A7 P w K mg base CX0 1 f fd z8G (y5G (BkD K A4 A1)):=by
 have nd:=z8w.nd
 refine F.ok z8w (fun vs H Q E h=>?_) (fun cdv A outer s H vs Q E hr h=>?_)
 ·obtain⟨p,fp,zs,r,k,rows,log,i,d,rfl,_⟩:=h
  rfl
 obtain⟨p,fp,zs,r,k,rows,log,i,d,rfl,⟨dx,po,pd,fs,fo,us,rfl,B⟩,ed,q⟩:=h
 refine⟨_,(z04 (z0D (PW.pt (z3a (z0a z8x (pv 1) z06 (z0m _)) (z1T (z0a z2k (pv 1) (z0b z09 rfl M.len bK (z00 (z0I (pv 0) rfl) z02)) (z0m _))))) (z05 z1x) z0l) (z05 (z0f (z0z z0V (z0I (pv 0) rfl) (z0t z31 (pv 1) z06) (fun _ _=>rfl))))),?_⟩
 have lu:=z3H B.ds
 have hi:=(bW.mp ed).1
 obtain⟨u,eu,du⟩:=y4o B.ds i d ed
 have av:atI us ((i:Int)+1-1)=some u:=by
  rw[Int.add_sub_cancel]
  exact z0K eu
 refine⟨_,rfl,_,_,rfl,rfl,_,rfl,B0 (fun q=>absurd (z0F q) (by omega)) fun _=>?_⟩
 refine⟨_,rfl,_,rfl,p,A4,dx,fs,_,rfl,B.hp,T.cl,T.n_done,B.ld,pd,us,rfl,.inl (SqL.of B.hd),_,_,rfl,rfl,_,rfl,B0 (fun q=>absurd (z0F q) (by omega)) fun _=>?_⟩
 exact⟨_,rfl,p,A4,dx,fs,_,rfl,B.hp,T.cl,T.n_done,B.ld,_,rfl,_,_,rfl,rfl,pd,us,_,u,rfl,rfl,SqL.of B.hd,av,q u (y3X du)⟩
def y59(K:PySem.W.Frag):Sp:=fun vs H Q _=>∃(a:Addr) (ns:List Int),vs=[.ref a]/\SqL K H a (ns.map V.int)/\ns.length≤63/\∀H',Q (.bl true) H'
theorem y3z{nm:List Str}{rows:List Row}(R:Rws nm rows)(h:nm.length≤12):∀w∈rows,w.length≤12:=fun w hw=>by
 have:=(R.sub w hw).length_le
 rw[b7] at this
 omega
theorem y5r{xs:List V}{k:Nat}(h:k≤xs.length):L8 xs none (some (k:Int))=xs.take k:=by
 unfold L8
 have e1:HT.sIx xs.length 0 none=0:=rfl
 have e2:HT.sIx xs.length xs.length (some (k:Int))=k:=by
  rw[HT.z9j,gJ h]
 rw[e1,e2,fE,gQ]
theorem y50{xs:List V}{k:Nat}(h:k≤xs.length):L8 xs (some (k:Int)) none=xs.drop k:=by
 unfold L8
 have e1:HT.sIx xs.length xs.length none=xs.length:=rfl
 have e2:HT.sIx xs.length 0 (some (k:Int))=k:=by
  rw[HT.z9j,gJ h]
 rw[e1,e2,cL]
 rw[d6]
 exact bE _
theorem y2E{rows:List Row}{z:Str}:∀(ns:List Int),ns.Pairwise (· < ·)->(z0W ns rows z=none/\∀n∈ns,E5 (z0y rows n) z=none)\/∃n v,z0W ns rows z=some (n,v)/\n∈ns/\E5 (z0y rows n) z=some v/\∀m∈ns,n<m->E5 (z0y rows m) z=none:=by
 intro ns
 have rev:∀(l:List Int),l.reverse.Pairwise (· < ·)->(z0W l.reverse rows z=none/\∀n∈l.reverse,E5 (z0y rows n) z=none)\/∃n v,z0W l.reverse rows z=some (n,v)/\n∈l.reverse/\E5 (z0y rows n) z=some v/\∀m∈l.reverse,n<m->E5 (z0y rows m) z=none:=by
  intro l
  induction l with
  | nil=>intro _;exact .inl ⟨rfl,fun _ h=>(nomatch h)⟩
  | cons x l ih=>
   intro p
   rw[jP] at p ⊢
   obtain⟨p1,_,p2⟩:=cT.mp p
   rw[z6B]
   cases ev:E5 (z0y rows x) z with
   | some v=>
    refine .inr ⟨x,v,rfl,c6 _ (b8.mpr rfl),ev,fun m hm h=>?_⟩
    rcases bN.mp hm with hm|hm
    ·have:=p2 m hm x (b8.mpr rfl)
     omega
    ·have:=b8.mp hm
     omega
   | none=>
    rcases ih p1 with ⟨h1,h2⟩|⟨n,v,h1,h2,h3,h4⟩
    ·refine .inl ⟨h1,fun n hn=>?_⟩
     rcases bN.mp hn with hn|hn
     ·exact h2 n hn
     ·rw[b8.mp hn]
      exact ev
    ·refine .inr ⟨n,v,h1,cR _ h2,h3,fun m hm h=>?_⟩
     rcases bN.mp hm with hm|hm
     ·exact h4 m hm h
     ·rw[b8.mp hm]
      exact ev
 intro h
 have:=rev ns.reverse
 rw[g0] at this
 exact this h
theorem y5c{w:Row}{z:Str}(h:z∈z0S w):∃v,E5 w z=some v:=by
 cases e:E5 w z with
 | some v=>exact⟨v,rfl⟩
 | none=>
  refine absurd h ?_
  have go:∀(w:Row),E5 w z=none->z∉z0S w:=by
   intro w
   induction w with
   | nil=>intro _ h;exact(nomatch h)
   | cons p w ih=>
    intro hz
    rw[z7C] at hz
    unfold z0S
    rw[cP,bA,not_or]
    cases e2:E5 w z with
    | some v=>rw[e2] at hz;cases hz
    | none=>
     rw[e2] at hz
     refine⟨fun e3=>?_,ih e2⟩
     have hz':(if p.1=z then some p.2 else none)=none:=hz
     rw[if_pos e3.symm] at hz'
     cases hz'
  exact go w e
def O0:Option (List Str)->DV
 | none=>.non
 | some zs=>K4 zs
def z1y(hs:List Int)(rows:List Row)(r n:Int):Option (List Str):=if n∈hs\/z0G hs n r≠0 then some (z0S (z0y rows n)) else none
def z18(m:Nat)(hs:List Int)(rows:List Row)(r:Int):List (Option (List Str)):=(upI 1 m).map (z1y hs rows r)
def z4g(had:List Int)(m:Nat):Prop:=((m:Int)∈had\/(had=[]/\m=0))/\∀y∈had,y≤(m:Int)
theorem z11(m:Nat)(hs:List Int)(rows:List Row)(r:Int):(z18 m hs rows r).length=m:=by
 unfold z18
 rw[b7,z0M]
theorem z4g.same{a b:List Int}{m:Nat}(h:z4g a m)(e:∀x,x∈b↔x∈a):z4g b m:=by
 refine⟨?_,fun y hy=>h.2 y ((e y).mp hy)⟩
 rcases h.1 with q|⟨q,q0⟩
 ·exact .inl ((e _).mpr q)
 ·refine .inr ⟨List.eq_nil_iff_forall_not_mem.mpr fun x hx=>?_,q0⟩
  have:=(e x).mp hx
  rw[q] at this
  cases this
theorem z4g.le{a:List Int}{m:Nat}{k:Int}(h:z4g a m)(hk:0≤k)(ha:∀x∈a,x≤k):(m:Int)≤k:=by
 rcases h.1 with q|⟨_,q⟩
 ·exact ha _ q
 ·omega
theorem y7o{nm:List Str}{rows:List Row}(R:Rws nm rows)(gn:D6 nm)(n:Int):(z0S (z0y rows n)).length≤12:=by
 have:=y0L gn R n
 unfold z0S
 rw[b7]
 exact this
theorem y7H(hs:List Int)(h:∀x∈hs,1≤x/\x≤60):∃m:Nat,z4g hs m:=by
 induction hs with
 | nil=>exact⟨0,.inr ⟨rfl,rfl⟩,fun _ q=>(nomatch q)⟩
 | cons x xs ih=>
  obtain⟨m,t⟩:=ih fun y hy=>h y (bS _ hy)
  have hx:=h x bU
  by_cases c:(m:Int)≤x
  ·refine⟨x.toNat,.inl ?_,fun y hy=>?_⟩
   ·rw[show((x.toNat:Nat):Int)=x by omega]
    exact bU
   ·rcases bA.mp hy with rfl|hy
    ·omega
    ·have:=t.2 y hy
     omega
  ·refine⟨m,.inl ?_,fun y hy=>?_⟩
   ·rcases t.1 with q|⟨_,q⟩
    ·exact bS _ q
    ·omega
   ·rcases bA.mp hy with rfl|hy
    ·omega
    ·exact t.2 y hy
def y3f(Sh:ShP):Sp:=fun vs H Q _=>∃(x:Addr) (fp:List Addr) (nm:List Str) (r:Int) (iss:Int->DV) (had:List Int),vs=[.ref x]/\Sh H x fp nm r iss had/\(∀n∈had,1≤n/\n≤60)/\
 ∀(H':Hp),A3 H H'->Q (.int (2^((z1Q (z0c had) r).length*nm.length))) H'
theorem y7h(M:Bl mg)(F:Fun K "two_to_the" "two_to_the" z5g f fd):A7 P w K mg base CX0 1 f fd z5M z4E:=by
 have nd:=z7c.nd
 refine F.ok z7c (fun vs H Q E h=>?_) (fun cdv A outer s H vs Q E hr h=>?_)
 ·obtain⟨t,rfl,_⟩:=h
  rfl
 obtain⟨t,rfl,t0,t1,q⟩:=h
 refine⟨_,(z04 (z0p (i:=1) nd rfl (Or.inl rfl) z06) (z04 (z0P bQ rfl (z0T rfl M.range (z00 (pv 0) z02)) (z0j (i:=2) nd rfl (Or.inl rfl)) (z05 (z0p (i:=1) nd rfl (Or.inl rfl) (z0t z4c (pv 1) z06)))) (z05 (z0f (pv 1))))),?_⟩
 refine⟨_,rfl,_,rfl,by omega,by omega,?_⟩
 refine z0U (lo:=0) (n:=t.toNat) (fun i σ H'=>H'=H/\∃o,σ=[some (.int t),some (.int (2^i)),o]) ⟨rfl,_,rfl⟩ (fun i σ H' hi hp=>?_) (fun σ H' hp=>?_)
 ·obtain⟨rfl,o,rfl⟩:=hp
  refine⟨_,rfl,_,_,rfl,rfl,.inr ⟨by decide,by decide⟩,rfl,some (.int (0+(i:Int))),?_⟩
  rw[Int.pow_succ]
  rfl
 ·obtain⟨rfl,o,rfl⟩:=hp
  exact⟨_,rfl,q⟩
theorem y5j{A0:Addr}(M:Bl mg)(T:C8 K mg A0)(F:Fun K "course_count" "course_count" z3R f fd)(A6:D2 P w K mg base 1 A0 "had" z1n (z3n (ShD K A0)))
  (B9:Cal P w K mg base 3 "dark_numbers" z2i (y1K K)) (M1:Cal P w K mg base 1 "two_to_the" z5M z4E):A7 P w K mg base CX0 4 f fd z3M (y3f (ShD K A0)):=by
 have nd:=z59.nd
 refine F.ok z59 (fun vs H Q E h=>?_) (fun cdv A outer s H vs Q E hr h=>?_)
 ·obtain⟨x,fp,nm,r,iss,had,rfl,_⟩:=h
  rfl
 obtain⟨x,fp,nm,r,iss,had,rfl,sh,hh,k⟩:=h
 refine⟨_,(z04 (z0p (i:=1) nd rfl (Or.inl rfl) (z0i B9 (rm hr) rfl (z00 (z1M A6 (rm hr) (pv 0)) (z00 (z0I (pv 0) rfl) z02)))) (z05 (z0f (z0i M1 (rm hr) rfl (z00 (z0t z4c (z0b z09 rfl M.len bK (z00 (pv 1) z02)) (z0b z09 rfl M.len bK (z00 (z0I (pv 0) rfl) z02))) z02))))),?_⟩
 obtain⟨dx,pn,fs,h1,h3,ln,lr,lm,gn⟩:∃dx pn fs,H x=some (.ins A0 dx fs)/\H pn=some (.tup (nm.map V.str))/\fs.lookup ("names":Str)=some (V.ref pn)/\fs.lookup ("reach":Str)=some (V.int r)/\fs.lookup ("had":Str)=none/\D6 nm:=by
  obtain⟨dx,pn,pd,fs,kvs,_,h1,_,h3,_,l1,l2,_,lm,_,_,_,_,gn,_⟩:=sh
  exact⟨dx,pn,fs,h1,h3,l1,l2,lm _ (by simp),gn⟩
 have h60:∀n∈z0c had,1≤n/\n≤60:=fun n hn=>hh n (z0Z.mp hn).2
 refine⟨_,rfl,x,dx,fs,rfl,h1,lm,x,fp,nm,r,_,had,rfl,sh,fun l H1 s1 e1=>?_⟩
 refine⟨_,rfl,x,A0,dx,fs,_,rfl,s1 _ _ h1,T.cl,T.n_reach,lr,l,z0c had,r,rfl,.inr (SqT.of e1),h60,cM (z38 had) (by decide),fun d H2 s2 e2=>?_⟩
 have s12:=s1.trans s2
 have ld:((z1Q (z0c had) r).map V.int).length=(z1Q (z0c had) r).length:=b7 _
 have lm':(nm.map V.str).length=nm.length:=b7 _
 have l60:=z4v (z0c had) r
 have n12:=gn.hi
 have lt:(z1Q (z0c had) r).length*nm.length≤60*12:=Nat.mul_le_mul l60 n12
 refine⟨_,rfl,d,_,rfl,.inr (SqT.of e2),_,rfl,x,A0,dx,fs,_,rfl,s12 _ _ h1,T.cl,T.n_names,ln,pn,_,rfl,.inr (SqT.of (s12 _ _ h3)),_,_,rfl,rfl,?_,_,rfl,?_,?_,?_⟩
 ·rw[ld]
  exact .inl ⟨by omega,by omega⟩
 ·exact Int.mul_nonneg (gT _) (gT _)
 ·rw[ld,lm',<- jC]
  omega
 ·rw[ld,lm',<- jC,jO]
  exact k H2 s12
theorem z7n(ns:List Int)(r:Int):z1Q ns r=(z16 ns).filter fun n=>decide (z0G ns n r=0):=by
 unfold z1Q P7
 rw[List.filter_map,dJ]
 exact List.map_id _
theorem y2U{ns:List Int}{r:Int}(i:Nat):(((upI 1 (i+1)).filter fun x=>!decide (x∈ns)).filter fun n=>decide (z0G ns n r=0))=(((upI 1 i).filter fun x=>!decide (x∈ns)).filter fun n=>decide (z0G ns n r=0))++(if (1:Int)+(i:Int)∈ns then [] else if z0G ns (1+(i:Int)) r=0 then [1+(i:Int)] else []):=by
 rw[z5U,dW]
 by_cases h:(1:Int)+(i:Int)∈ns
 ·rw[if_pos h,if_pos h]
  rfl
 ·rw[if_neg h,if_neg h,eM]
  by_cases c:z0G ns (1+(i:Int)) r=0
  ·rw[if_pos c,decide_eq_true c]
   rfl
  ·rw[if_neg c,decide_eq_false c]
   rfl
def y43(K:PySem.W.Frag):Sp:=fun vs H Q _=>∃(p:Addr) (ns:List Int) (r:Int),vs=[.ref p,.int r]/\H p=some (.lst (ns.map V.int))/\(∀x∈ns,1≤x/\x≤60)/\ns.length≤900/\0≤r/\
 ∀(l:Addr) (H':Hp),H l=none->A3 H H'->H' l=some (.lst ((z1Q ns r).map V.int))->Q (.ref l) H'
theorem y5v(M:Bl mg)(F:Fun K "_law_dark" "_law_dark" z6y f fd)(C2:Cal P w K mg base 1 "_law_teller" z2A (z63 K)):A7 P w K mg base CX0 2 f fd z6C (y43 K):=by
 have nd:=z8k.nd
 refine F.ok z8k (fun vs H Q E h=>?_) (fun cdv A outer s H vs Q E hr h=>?_)
 ·obtain⟨p,ns,r,rfl,_⟩:=h
  rfl
 obtain⟨p,ns,r,rfl,hP,B3,hlen,r0,q⟩:=h
 refine⟨_,(z04 (z0p (i:=2) nd rfl (Or.inl rfl) (z1i z02)) (z04 (z0P bQ rfl (z4G rfl M.range (z00 z06 (z00 (z0b (z3E rfl) rfl M.max dI (z00 (z0t z94 (pv 0) (z1i (z00 z06 z02))) z02)) z02))) (z0j (i:=3) nd rfl (Or.inl rfl)) (z05 (z0D (PW.pt (z3c (z0a z1q (pv 3) (pv 0) (by with_unfolding_all rfl)) (z2j (z0a z2L (z0i C2 (rm hr) rfl (z00 (pv 0) (z00 (pv 3) (z00 (pv 1) z02)))) z06 (z0m _))))) (z05 (z0C (z2N bR bV bX z0L (pv 2) (z00 (pv 3) z02)))) z0l))) (z05 (z0f (pv 2))))),?_⟩
 refine⟨(by show 0≤sizeLine;decide),fun lg hlg=>?_⟩
 have s1:=z01 hlg (.lst [])
 refine⟨_,rfl,(by show 1≤sizeLine;decide),fun l0 hl0=>⟨p,l0,_,_,rfl,rfl,z01 hl0 _ _ _ (s1 _ _ hP),z03,?_,fun lc hlc=>?_⟩⟩
 ·rw[b7]
  exact dQ (z0e (by show ns.length+1≤1000;omega))
 have s2:=s1.trans ((z01 hl0 (.lst [V.int 0])).trans (z01 hlc (.lst (ns.map V.int++[V.int 0]))))
 have eg:upd (upd (upd H lg (.lst [])) l0 (.lst [V.int 0])) lc (.lst (ns.map V.int++[V.int 0])) lg=some (.lst []):=(z01 hl0 _).trans (z01 hlc _) _ _ z03
 have ec:upd (upd (upd H lg (.lst [])) l0 (.lst [V.int 0])) lc (.lst (ns.map V.int++[V.int 0])) lc=some (.lst ((ns++[0]).map V.int)):=by
  rw[z03,bD]
  rfl
 generalize upd (upd (upd H lg (.lst [])) l0 (.lst [V.int 0])) lc (.lst (ns.map V.int++[V.int 0]))=H2 at s2 eg ec
 refine⟨lc,ns++[0],rfl,.inl (SqL.of ec),by simp,fun m hm top=>?_⟩
 have hm':m∈ns\/(ns=[]/\m=0):=by
  rcases bN.mp hm with h|h
  ·exact .inl h
  ·rw[b8] at h
   subst h
   cases ns with
   | nil=>exact .inr ⟨rfl,rfl⟩
   | cons x xs=>
    have h1:=top x (by simp)
    have h2:=B3 x bU
    omega
 have m60:0≤m/\m≤60:=by
  rcases hm' with h|⟨_,h⟩
  ·have:=B3 m h
   omega
  ·omega
 have w07:∀y∈ns,y≤m:=fun y hy=>top y (cR _ hy)
 refine⟨1,m,rfl,⟨by decide,by decide,by omega,by omega⟩,?_⟩
 refine z0U (lo:=1) (n:=(m-1).toNat) (fun i σ H'=>∃(o1:Option V),A3 H H'/\H' lg=some (.lst ((((upI 1 i).filter fun x=>!decide (x∈ns)).filter fun n=>decide (z0G ns n r=0)).map V.int))/\
   σ=[some (.ref p),some (.int r),some (.ref lg),o1]) ⟨none,s2,eg,rfl⟩ (fun i σ H' hi hp=>?_) (fun σ H' hp=>?_)
 ·obtain⟨o1,g,eG,rfl⟩:=hp
  have lz:((((upI 1 i).filter fun x=>!decide (x∈ns)).filter fun n=>decide (z0G ns n r=0)).map V.int).length≤i:=by
   rw[b7]
   have h1:=cJ (fun x=>!decide (x∈ns)) (upI 1 i)
   have h2:=cJ (fun n=>decide (z0G ns n r=0)) ((upI 1 i).filter fun x=>!decide (x∈ns))
   rw[z0M] at h1
   omega
  refine⟨_,rfl,_,rfl,p,_,rfl,.inl (SqL.of (g _ _ hP)),rfl,z1X ns,_,rfl,?_⟩
  rw[if_pos rfl,z2y,y2U]
  by_cases hin:(1:Int)+(i:Int)∈ns
  ·rw[decide_eq_true hin,if_pos hin,cY]
   exact B1 (B1 ⟨_,g,eG,rfl⟩)
  ·rw[decide_eq_false hin,if_neg hin]
   refine F4 ⟨_,rfl,_,rfl,_,rfl,p,ns,1+(i:Int),r,rfl,SqL.of (g _ _ hP),B3,hlen,r0,fun H3 s3=>⟨rfl,_,rfl,?_⟩⟩
   refine B0 (fun c=>?_) (fun c=>?_)
   ·have c0:z0G ns (1+(i:Int)) r=0:=by
     have:=z0F c
     injection this
    rw[if_pos c0,bD]
    refine⟨_,rfl,.inl ⟨rfl,_,SqL.of (s3 _ _ eG)⟩,_,rfl,lg,_,_,rfl,rfl,s3 _ _ eG,z0e (by omega),?_⟩
    exact⟨_,z1Z (g.trans s3) hlg,z03,rfl⟩
   ·have c0:z0G ns (1+(i:Int)) r≠0:=fun e=>z49 c (by rw[e])
    rw[if_neg c0,cY]
    exact⟨_,g.trans s3,s3 _ _ eG,rfl⟩
 ·obtain⟨o1,g,eG,rfl⟩:=hp
  rw[y0i hm' B3 w07,<- z7n] at eG
  exact⟨_,rfl,q lg H' hlg g eG⟩
structure U6(ns:List Int)(r b:Int)(fs as:List Int):Prop where
 len:fs.length=as.length
 fr:fs.Pairwise (· < ·)
 ar:as.Pairwise fun x y=>x+r<y
 lack:∀x∈fs,x∈z16 ns
 cov:∀d∈z1p ns r b,∃x∈fs,d≤x/\x≤d+r
 mem:∀a∈as,a∈z1p ns r b
def y49(H:Hp)(v:V)(ns:List Int)(r b:Int):Prop:=∃(l lf la:Addr) (fs as:List Int),v=.ref l/\H l=some (.tup [.ref lf,.ref la])/\H lf=some (.tup (fs.map V.int))/\H la=some (.tup (as.map V.int))/\U6 ns r b fs as
def y1G(K:PySem.W.Frag):Sp:=fun vs H Q _=>∃(p:Addr) (ns:List Int) (r b:Int),vs=[.ref p,.int r,.int b]/\SqI K H p ns/\(∀x∈ns,1≤x/\x≤60)/\ns.length≤900/\0≤r/\
 ∀(v:V) (H':Hp),A3 H H'->y49 H' v ns r b->Q v H'
theorem y29{ns:List Int}{n r:Int}(B3:∀x∈ns,1≤x/\x≤60)(h:z0G ns n r=0):∀y∈ns,n<y->¬y-r≤n:=fun y hy h1 h2=>by
 unfold z0G at h
 cases e:(upI 1 60).find? (y0W ns n r) with
 | none=>exact jL.mp e y (z13.mpr (by have:=B3 y hy;omega)) (z4m.mpr ⟨h1,h2,hy⟩)
 | some t=>
  rw[e] at h
  have:=z13.mp (gL e)
  have h':t=0:=h
  omega
theorem y2k{ns:List Int}{r n:Int}:n∈z1Q ns r↔n∈z16 ns/\z0G ns n r=0:=by
 rw[z7n,cI,decide_eq_true_eq]
theorem y3w{ns:List Int}{r n:Int}(B3:∀x∈ns,1≤x/\x≤60)(r0:0≤r)(h:n∈z1Q ns r):n+r∈z16 ns:=by
 obtain⟨h1,h2⟩:=y2k.mp h
 have z:=y29 B3 h2
 obtain⟨a,b,y,hy,c⟩:=z0N.mp h1
 have:=B3 y hy
 have:=z y hy c
 refine z0N.mpr ⟨by omega,fun hn=>?_,y,hy,by omega⟩
 rcases Int.lt_or_le n (n+r) with q|q
 ·exact z _ hn q (by omega)
 ·have e:n+r=n:=by omega
  rw[e] at hn
  exact b hn
structure Gr(ds:List Int)(r:Int)(as:List Int):Prop where
 ar:as.Pairwise fun x y=>x+r<y
 mem:∀a∈as,a∈ds
 cov:∀d∈ds,∃a∈as,a≤d/\d≤a+r
theorem Gr.add{ds:List Int}{r d:Int}{as:List Int}(g:Gr ds r as)(h:∀a∈as,a+r<d)(r0:0≤r):Gr (ds++[d]) r (as++[d]) where
 ar:=cT.mpr ⟨g.ar,dY _ _,fun x hx y hy=>by rw[b8.mp hy];exact h x hx⟩
 mem a ha:=by
  rcases bN.mp ha with ha|ha
  ·exact cR _ (g.mem a ha)
  ·exact c6 _ ha
 cov x hx:=by
  rcases bN.mp hx with hx|hx
  ·obtain⟨a,ha,q⟩:=g.cov x hx
   exact⟨a,cR _ ha,q⟩
  ·rw[b8.mp hx]
   exact⟨d,c6 _ (b8.mpr rfl),eJ _,by omega⟩
theorem Gr.skip{ds:List Int}{r d a:Int}{as:List Int}(g:Gr ds r as)(ha:a∈as)(h1:a≤d)(h2:d≤a+r):Gr (ds++[d]) r as where
 ar:=g.ar
 mem a ha:=cR _ (g.mem a ha)
 cov x hx:=by
  rcases bN.mp hx with hx|hx
  ·exact g.cov x hx
  ·rw[b8.mp hx]
   exact⟨a,ha,h1,h2⟩
theorem Gr.plan{ns:List Int}{r b:Int}{as:List Int}(g:Gr (z1p ns r b) r as)(B3:∀x∈ns,1≤x/\x≤60)(r0:0≤r):U6 ns r b (as.map (·+r)) as where
 len:=b7 _
 fr:=by
  rw[dG]
  exact g.ar.imp fun h=>by omega
 ar:=g.ar
 lack x hx:=by
  obtain⟨a,ha,rfl⟩:=cO.mp hx
  exact y3w B3 r0 (cI.mp (g.mem a ha)).1
 cov d hd:=by
  obtain⟨a,ha,h1,h2⟩:=g.cov d hd
  exact⟨a+r,cO.mpr ⟨a,ha,rfl⟩,h2,by omega⟩
 mem:=g.mem
theorem y2l{as:List Int}(h:as≠[]):∃(init:List Int) (z:Int),as=init++[z]:=⟨as.dropLast,as.getLast h,(List.dropLast_concat_getLast h).symm⟩
theorem y2S(M:Bl mg)(F:Fun K "fewest_numbers" "fewest_numbers" z2R f fd)(B5:Cal P w K mg base 4 "dark_numbers_behind" z1j (z9H K)):A7 P w K mg base CX0 5 f fd z2Y (y1G K):=by
 have nd:=z4b.nd
 refine F.ok z4b (fun vs H Q E h=>?_) (fun cdv A outer s H vs Q E hr h=>?_)
 ·obtain⟨p,ns,r,b,rfl,_⟩:=h
  rfl
 obtain⟨p,ns,r,b,rfl,hS,B3,hlen,r0,q⟩:=h
 refine⟨_,(z04 (z0p (i:=3) nd rfl (Or.inl rfl) (z1i z02)) (z04 (z0p (i:=4) nd rfl (Or.inl rfl) (z1i z02)) (z04 (z0P bQ rfl (z23 (z0i B5 (rm hr) rfl (z00 (pv 0) (z00 (pv 1) (z00 (pv 2) z02))))) (z0j (i:=5) nd rfl (Or.inl rfl)) (z05 (z0D (PW.pt (z3a (z0a z2L (z0b z09 rfl M.len bK (z00 (pv 3) z02)) z06 (z0m _)) (z1T (z0a z2k (pv 5) (z0z z0V (pv 3) (y6G y4y z06) (fun _ _=>rfl)) (z0m _))))) (z04 (z0C (z2N bR bV bX z0L (pv 3) (z00 (z0t z1g (pv 5) (pv 1)) z02))) (z05 (z0C (z2N bR bV bX z0L (pv 4) (z00 (pv 5) z02))))) z0l))) (z05 (z0f (z0Q (z00 (z0u z0o rfl M.tuple bI (z00 (pv 3) z02)) (z00 (z0u z0o rfl M.tuple bI (z00 (pv 4) z02)) z02)))))))),?_⟩
 refine⟨(by show 0≤sizeLine;decide),fun lf hlf=>⟨(by show 0≤sizeLine;decide),fun la hla=>?_⟩⟩
 have s1:=(z01 hlf (.lst [])).trans (z01 hla (.lst []))
 have ef:upd (upd H lf (.lst [])) la (.lst []) lf=some (.lst []):=z01 hla _ _ _ z03
 have ea:upd (upd H lf (.lst [])) la (.lst []) la=some (.lst []):=z03
 have nfa:lf≠la:=z0q z03 hla
 have hla':H la=none:=(z01 hlf _).free hla
 generalize upd (upd H lf (.lst [])) la (.lst [])=H1 at s1 ef ea
 refine⟨_,rfl,_,rfl,_,rfl,p,ns,r,b,rfl,SqI.keep s1 hS,B3,hlen,fun lt H2 s2 e2=>?_⟩
 have ld:(z1p ns r b).length≤60:=cM (cJ _ _) (z4v ns r)
 have rise:(z1p ns r b).Pairwise (· < ·):=by
  unfold z1p
  rw[z7n]
  exact((z2p ns).filter _).filter _
 refine⟨lt,rfl,⟨_,SqT.of e2⟩,z4A (K:=K) (a:=lt) (xs:=(z1p ns r b).map V.int) (fun i σ H'=>∃(as:List Int) (o:Option V),A3 H H'/\H' lt=some (.tup ((z1p ns r b).map V.int))/\H' lf=some (.lst ((as.map (·+r)).map V.int))/\H' la=some (.lst (as.map V.int))/\as.length≤i/\Gr ((z1p ns r b).take i) r as/\
  σ=[some (.ref p),some (.int r),some (.int b),some (.ref lf),some (.ref la),o]) ⟨[],none,s1.trans s2,e2,s2 _ _ ef,s2 _ _ ea,bE 0,⟨.nil,fun _ h=>(nomatch h),fun _ h=>(nomatch h)⟩,rfl⟩ (fun i σ H' _ hp=>?_) (fun i x σ H' hx hp=>?_) (fun σ H' hp=>?_)⟩
 ·obtain⟨as,o,g,e,_⟩:=hp
  exact SqT.of e
 ·obtain⟨as,o,g,e,e3,e4,li,G,rfl⟩:=hp
  rw[bB] at hx
  obtain⟨d,ed,rfl⟩:=cG.mp hx
  have hi:i<(z1p ns r b).length:=(bW.mp ed).1
  have lm1:((as.map (·+r)).map V.int).length=as.length:=by rw[b7,b7]
  have lm2:(as.map V.int).length=as.length:=b7 _
  have up:(∀a∈as,a+r<d)->∃(as':List Int) (o:Option V),A3 H (upd (upd H' lf (.lst ((as.map (·+r)).map V.int++[V.int (d+r)]))) la (.lst (as.map V.int++[V.int d])))/\upd (upd H' lf (.lst ((as.map (·+r)).map V.int++[V.int (d+r)]))) la (.lst (as.map V.int++[V.int d])) lt=some (.tup ((z1p ns r b).map V.int))/\
    upd (upd H' lf (.lst ((as.map (·+r)).map V.int++[V.int (d+r)]))) la (.lst (as.map V.int++[V.int d])) lf=some (.lst ((as'.map (·+r)).map V.int))/\upd (upd H' lf (.lst ((as.map (·+r)).map V.int++[V.int (d+r)]))) la (.lst (as.map V.int++[V.int d])) la=some (.lst (as'.map V.int))/\as'.length≤i+1/\Gr ((z1p ns r b).take (i+1)) r as'/\
    [some (V.ref p),some (V.int r),some (V.int b),some (V.ref lf),some (V.ref la),some (V.int d)]=[some (V.ref p),some (V.int r),some (V.int b),some (V.ref lf),some (V.ref la),o]:=fun h=>by
   refine⟨as++[d],_,z1Z (z1Z g hlf) hla',?_,?_,?_,?_,?_,rfl⟩
   ·rw[z0k (z4W e e4 (by intro z;cases z)),z0k (z4W e e3 (by intro z;cases z))]
    exact e
   ·rw[z0k nfa,z03,bD,bD]
    rfl
   ·rw[z03,bD]
    rfl
   ·rw[bG]
    exact Nat.succ_le_succ li
   ·rw[z0n ed]
    exact G.add h r0
  refine⟨_,rfl,lf,_,rfl,.inl (SqL.of e3),rfl,_,rfl,?_⟩
  rw[lm1]
  refine B0 (fun c=>?_) (fun c=>?_)
  ·have c0:as=[]:=gZ.mp (by have:=z0F c;injection this with this;omega)
   refine⟨_,rfl,.inl ⟨rfl,_,SqL.of e3⟩,_,rfl,_,rfl,_,_,rfl,rfl,lf,_,_,rfl,rfl,e3,z0e (by omega),?_⟩
   refine⟨_,rfl,.inl ⟨rfl,_,SqL.of (by rw[z0k (dE nfa)];exact e4)⟩,_,rfl,la,_,_,rfl,rfl,(by rw[z0k (dE nfa)];exact e4),z0e (by omega),?_⟩
   exact up fun a ha=>by rw[c0] at ha;cases ha
  ·have c0:as≠[]:=fun z=>c (by rw[z];rfl)
   obtain⟨init,z,ez⟩:=y2l c0
   refine⟨_,rfl,_,rfl,_,rfl,lf,_,_,V.int (z+r),rfl,rfl,SqL.of e3,(by rw[ez,bD,bD];exact y52 _ _),_,_,rfl,rfl,_,rfl,?_⟩
   have hz:z∈as:=by rw[ez];exact c6 _ (b8.mpr rfl)
   refine B0 (fun c=>?_) (fun c=>?_)
   ·have c1:=z0F c
    refine⟨_,rfl,.inl ⟨rfl,_,SqL.of e3⟩,_,rfl,_,rfl,_,_,rfl,rfl,lf,_,_,rfl,rfl,e3,z0e (by omega),?_⟩
    refine⟨_,rfl,.inl ⟨rfl,_,SqL.of (by rw[z0k (dE nfa)];exact e4)⟩,_,rfl,la,_,_,rfl,rfl,(by rw[z0k (dE nfa)];exact e4),z0e (by omega),?_⟩
    refine up fun a ha=>?_
    have hp:=G.ar
    rw[ez] at ha hp
    rcases bN.mp ha with h|h
    ·have:=(cT.mp hp).2.2 a h z (b8.mpr rfl)
     omega
    ·rw[b8.mp h]
     exact c1
   ·have c1:=z49 c
    refine⟨as,_,g,e,e3,e4,by omega,?_,rfl⟩
    rw[z0n ed]
    refine G.skip hz ?_ (by omega)
    have h1:=G.mem z hz
    have h2:((z1p ns r b).take i++[d]).Pairwise (· < ·):=by
     rw[<- z0n ed]
     exact rise.sublist (List.take_sublist _ _)
    exact Int.le_of_lt ((cT.mp h2).2.2 z h1 d (b8.mpr rfl))
 ·obtain⟨as,o,g,e,e3,e4,li,G,rfl⟩:=hp
  rw[b7,bT] at G
  refine⟨_,rfl,lf,_,rfl,.inl ⟨SqL.of e3,fun t1 ht1=>⟨_,rfl,la,_,rfl,.inl ⟨SqL.of (z01 ht1 _ _ _ e4),fun t2 ht2=>⟨(by show 2≤sizeLine;decide),fun t ht=>?_⟩⟩⟩⟩⟩
  exact q _ _ (g.trans ((z01 ht1 _).trans ((z01 ht2 _).trans (z01 ht _)))) ⟨t,t1,t2,_,_,rfl,z03,z01 ht _ _ _ (z01 ht2 _ _ _ z03),z01 ht _ _ _ z03,G.plan B3 r0⟩
def y64(K:PySem.W.Frag):Sp:=fun vs H Q _=>∃(v:V) (p:Addr) (ns:List Int) (r b:Int),vs=[v,.ref p,.int r,.int b]/\y49 H v ns r b/\H p=some (.lst (ns.map V.int))/\(∀x∈ns,1≤x/\x≤60)/\ns.length≤900/\0≤r/\∀H',A3 H H'->Q (.bl true) H'
theorem y3k{l:List Int}{R:Int->Int->Prop}(h:l.Pairwise R){i:Nat}{x y:Int}(h1:l[i]? = some x)(h2:l[i+1]? = some y):R x y:=by
 obtain⟨a1,e1⟩:=bW.mp h1
 obtain⟨a2,e2⟩:=bW.mp h2
 rw[<- e1,<- e2]
 exact fA.mp h i (i+1) a1 a2 (by omega)
theorem y6w(M:Bl mg)(F:Fun K "_law_plan" "_law_plan" z6i f fd)(M6:Cal P w K mg base 1 "_law_whole" z5F y3Y)(N5:Cal P w K mg base 2 "_law_dark" z6C (y43 K)):A7 P w K mg base CX0 3 f fd z6D (y64 K):=by
 have nd:=z8l.nd
 refine F.ok z8l (fun vs H Q E h=>?_) (fun cdv A outer s H vs Q E hr h=>?_)
 ·obtain⟨v,p,ns,r,b,rfl,_⟩:=h
  rfl
 obtain⟨v,p,ns,r,b,rfl,⟨l,lf,la,fs,as,rfl,hl,hf,ha,B⟩,hP,B3,hlen,r0,q⟩:=h
 refine⟨_,(z04 (z0D (PW.pt (z3a (z2c (z24 (z0b z0J rfl M.isinstance bZ (z00 (pv 0) (z00 (z1S (v:=.ty "tuple") rfl M.tuple bI rfl) z02))))) (z1T (z0a z7l (z0b z09 rfl M.len bK (z00 (pv 0) z02)) z06 (z0m _))))) (z05 (z0f z1W)) z0l) (z04 (z0P bQ rfl (z23 (pv 0)) (z0j (i:=4) nd rfl (Or.inl rfl)) (z04 (z0D (z2c (z24 (z0b z0J rfl M.isinstance bZ (z00 (pv 4) (z00 (z1S (v:=.ty "tuple") rfl M.tuple bI rfl) z02))))) (z05 (z0f z1W)) z0l) (z05 (z0P bQ rfl (z0T rfl M.range (z00 (z0b z09 rfl M.len bK (z00 (pv 4) z02)) z02)) (z0j (i:=5) nd rfl (Or.inl rfl)) (z05 (z0D (PW.pt (z3a (z2c (z24 (z0i M6 (rm hr) rfl (z00 (z0z z0A (pv 4) (pv 5) (fun _ _=>rfl)) z02)))) (z1T (PW.pt (z3c (z0a z2k (pv 5) z06 (z0m _)) (z2j (z0a y3q (z0z z0A (pv 4) (z0t z31 (pv 5) z06) (fun _ _=>rfl)) (z0z z0A (pv 4) (pv 5) (fun _ _=>rfl)) (z0m _)))))))) (z05 (z0f z1W)) z0l)))))) (z04 (z5J (i:=6) ["_law_number"] ["_law_behind"] [3] rfl nd rfl (Or.inl rfl) (z0v rfl (by decide +kernel) rfl (by decide +kernel) rfl rfl) (z1w (z0i N5 (rm hr) rfl (z00 (pv 1) (z00 (pv 2) z02)))) (fun _ _ _ _ _=>(z0j (i:=0) (show((["_law_number"]:List PySem.Str)++(["_law_behind"]:List PySem.Str)).Nodup from by decide +kernel) rfl (Or.inl rfl))) (z0w (by decide)) z0h (fun _ _ _ _ _=>(z2d (z0a z2k (pv 0) (pv 1) (z0m _)))) (fun _ _ _ _ _=>(pv 0))) (z04 (z0P bQ rfl (z23 (z0z z0A (pv 0) z06 (fun _ _=>rfl))) (z0j (i:=7) nd rfl (Or.inl rfl)) (z05 (z0D (PW.pt (z3a (z0a z8x (pv 7) z06 (z0m _)) (z3a (z0a z2k (pv 7) (z0b (z3E rfl) rfl M.max dI (z00 (z0t z94 (pv 1) (z1i (z00 z06 z02))) z02)) (z0m _)) (z1T (z0a z4p (pv 7) (pv 1) (by with_unfolding_all rfl)))))) (z05 (z0f z1W)) z0l))) (z04 (z0P bQ rfl (z1w (pv 6)) (z0j (i:=8) nd rfl (Or.inr rfl)) (z05 (z0D (z0a (y67 hr.Q6) (z1e ["_law_number"] ["_law_dark_here","_law_reach"] [8,2] rfl (z0v rfl (by decide +kernel) rfl (by decide +kernel) rfl rfl) (z23 (z0z z0A (pv 0) z06 (fun _ _=>rfl))) (fun _ _ _ _ _=>(z0j (i:=0) (show((["_law_number"]:List PySem.Str)++(["_law_dark_here","_law_reach"]:List PySem.Str)).Nodup from by decide +kernel) rfl (Or.inl rfl))) (z0w (by decide)) z0h (fun _ _ _ _ _=>(z2d (PW.pt (z3c (z0a y2q (pv 1) (pv 0) (z0m _)) (z2j (z0a y2q (pv 0) (z0t z1g (pv 1) (pv 2)) (z0m _))))))) (fun _ _ _ _ _=>(pv 0))) (z1i z02) (z0m _)) (z05 (z0f z1W)) z0l))) (z04 (z0P bQ rfl (z0T rfl M.range (z00 (z0b z09 rfl M.len bK (z00 (z0z z0A (pv 0) z06 (fun _ _=>rfl)) z02)) z02)) (z0j (i:=5) nd rfl (Or.inl rfl)) (z05 (z0D (PW.pt (z3a (z0a z1q (z0z z0A (z0z z0A (pv 0) z06 (fun _ _=>rfl)) (pv 5) (fun _ _=>rfl)) (pv 6) (by with_unfolding_all rfl)) (z1T (PW.pt (z3c (z0a z2k (pv 5) z06 (z0m _)) (z2j (z0a y2q (z0t z31 (z0z z0A (z0z z0A (pv 0) z06 (fun _ _=>rfl)) (pv 5) (fun _ _=>rfl)) (z0z z0A (z0z z0A (pv 0) z06 (fun _ _=>rfl)) (z0t z31 (pv 5) z06) (fun _ _=>rfl))) (pv 2) (z0m _)))))))) (z05 (z0f z1W)) z0l))) (z05 (z0f (y18 z2L (z0b z09 rfl M.len bK (z00 (z0z z0A (pv 0) z06 (fun _ _=>rfl)) z02)) (z0b z09 rfl M.len bK (z00 (z0z z0A (pv 0) z06 (fun _ _=>rfl)) z02)) (z0m _)))))))))),?_⟩
 have w0L:∀{l:List Int}{c:Int},l.Pairwise (· < ·)->(∀x∈l,1≤x/\x≤60)->l.length≤60:=fun {l c} h1 h2=>by
  have e:l=(upI 1 60).filter fun x=>decide (x∈l):=z1N h1 ((z1s 1 60).filter _) fun x=>by
   rw[cI,z13,decide_eq_true_eq]
   exact⟨fun h=>⟨by have:=h2 x h;omega,h⟩,fun h=>h.2⟩
  rw[e]
  have:=cJ (fun x=>decide (x∈l)) (upI 1 60)
  rw[z0M] at this
  exact this
 have f60:fs.length≤60:=w0L (c:=0) B.fr fun x hx=>by
  obtain⟨⟨a,c⟩,_,y,hy,d⟩:=z0N.mp (B.lack x hx)
  omega
 have a60:as.length≤60:=by rw[<- B.len];exact f60
 have ar:as.Pairwise (· < ·):=B.ar.imp fun h=>by omega
 refine⟨_,rfl,_,_,_,_,rfl,.tup hl,z5C,_,rfl,B1 ?_⟩
 refine⟨_,rfl,l,_,rfl,.inr (SqT.of hl),rfl,_,rfl,B1 ?_⟩
 refine⟨_,rfl,l,rfl,⟨_,SqT.of hl⟩,z4A (K:=K) (a:=l) (xs:=[.ref lf,.ref la]) (fun _ σ H'=>H'=H/\∃o1 o2:Option V,σ=[some (.ref l),some (.ref p),some (.int r),some (.int b),o1,o2,none,none,none]) ⟨rfl,none,none,rfl⟩ (fun i σ H' _ hp=>?_) (fun i x σ H' hx hp=>?_) (fun σ H' hp=>?_)⟩
 ·rw[hp.1]
  exact SqT.of hl
 ·obtain⟨rfl,o1,o2,rfl⟩:=hp
  obtain⟨t,zs,rfl,ht,hz,lz⟩:∃(t:Addr) (zs:List Int),x=.ref t/\H' t=some (.tup (zs.map V.int))/\zs.Pairwise (· < ·)/\zs.length≤60:=by
   match i,hx with
   | 0,hx=>cases hx;exact⟨lf,fs,rfl,hf,B.fr,f60⟩
   | 1,hx=>cases hx;exact⟨la,as,rfl,ha,ar,a60⟩
  refine⟨_,rfl,_,_,_,_,rfl,.tup ht,z5C,_,rfl,B1 ?_⟩
  have lz':(zs.map V.int).length=zs.length:=b7 _
  refine⟨_,rfl,t,_,rfl,.inr (SqT.of ht),_,rfl,by omega,by omega,?_⟩
  refine z0U (lo:=0) (n:=(((zs.map V.int).length:Nat):Int).toNat) (fun _ σ H2=>H2=H'/\∃o2:Option V,σ=[some (.ref l),some (.ref p),some (.int r),some (.int b),some (.ref t),o2,none,none,none]) ⟨rfl,_,rfl⟩ (fun k σ H2 hk hp=>?_) (fun σ H2 hp=>?_)
  ·obtain⟨rfl,o,rfl⟩:=hp
   have hk':k<zs.length:=by rw[lz'] at hk;exact hk
   have ek:(0:Int)+(k:Int)=(k:Int):=eU _
   have ak:atI (zs.map V.int) (0+(k:Int))=some (.int (zs.getD k 0)):=by
    rw[ek]
    exact z43 (ns:=zs) (k:=(k:Int)) (by omega) (by omega)
   refine⟨_,rfl,_,rfl,t,_,_,_,rfl,rfl,SqT.of ht,ak,_,rfl,_,rfl,B1 ?_⟩
   refine⟨_,rfl,_,_,rfl,rfl,_,rfl,B0 (fun c=>?_) (fun c=>?_)⟩
   ·have c0:(0:Int)<0+(k:Int):=z0F c
    obtain⟨j,rfl⟩:∃j,k=j+1:=⟨k-1,by omega⟩
    have aj:atI (zs.map V.int) (0+((j+1:Nat):Int)-1)=some (.int (zs.getD j 0)):=by
     have e:(0:Int)+((j+1:Nat):Int)-1=(j:Int):=by omega
     rw[e]
     exact z43 (ns:=zs) (k:=(j:Int)) (by omega) (by omega)
    have lt:zs.getD j 0<zs.getD (j+1) 0:=y3k hz (i:=j) (by rw[bL,bC (by omega)];rfl) (by rw[bL,bC hk'];rfl)
    refine⟨_,rfl,_,rfl,_,_,rfl,rfl,t,_,_,_,rfl,rfl,SqT.of ht,aj,_,rfl,_,rfl,t,_,_,_,rfl,rfl,SqT.of ht,ak,_,_,rfl,rfl,_,rfl,?_⟩
    rw[decide_eq_false (show ¬zs.getD (j+1) 0≤zs.getD j 0 by omega)]
    exact B1 ⟨rfl,_,rfl⟩
   ·exact⟨rfl,_,rfl⟩
  ·obtain⟨rfl,o,rfl⟩:=hp
   exact⟨rfl,_,_,rfl⟩
 ·obtain⟨rfl,o1,o2,rfl⟩:=hp
  refine⟨_,rfl,_,rfl,p,ns,r,rfl,hP,B3,hlen,r0,fun ld H1 nld s1 e1=>⟨ld,rfl,⟨_,SqL.of e1⟩,?_⟩⟩
  have ll:=z4v ns r
  refine z8i (ns:=z1Q ns r) (fun y=>decide (b<y)) (fun y=>.int y) (SqL.of e1) (by omega) (fun y ys N hy hN=>?_) (fun D hD=>?_)
  ·refine⟨_,rfl,_,rfl,_,_,rfl,rfl,_,rfl,?_⟩
   refine B0 (fun c=>?_) (fun c=>?_)
   ·rw[if_pos c] at hN
    exact⟨_,rfl,hN⟩
   ·rw[if_neg c] at hN
    exact hN
  have eD:upd H1 D (.lst (z1U (fun y=>decide (b<y)) (fun y=>V.int y) (z1Q ns r))) D=some (.lst ((z1p ns r b).map V.int)):=z03
  have sD:=s1.trans (z01 hD (.lst (z1U (fun y=>decide (b<y)) (fun y=>V.int y) (z1Q ns r))))
  generalize upd H1 D (.lst (z1U (fun y=>decide (b<y)) (fun y=>V.int y) (z1Q ns r)))=H2 at eD sD
  have lb:(z1p ns r b).length≤60:=cM (cJ _ _) ll
  refine⟨_,rfl,l,_,_,_,rfl,rfl,SqT.of (sD _ _ hl),z0K rfl,lf,rfl,⟨_,SqT.of (sD _ _ hf)⟩,z4A (K:=K) (a:=lf) (xs:=fs.map V.int) (fun _ σ H'=>A3 H2 H'/\∃o3:Option V,σ=[some (.ref l),some (.ref p),some (.int r),some (.int b),o1,o2,some (.ref D),o3,none]) ⟨A3.refl _,none,rfl⟩ (fun i σ H' _ hp=>?_) (fun i x σ H' hx hp=>?_) (fun σ H' hp=>?_)⟩
  ·exact SqT.of (hp.1 _ _ (sD _ _ hf))
  ·obtain⟨g,o3,rfl⟩:=hp
   rw[bB] at hx
   obtain⟨n,en,rfl⟩:=cG.mp hx
   obtain⟨⟨n1,n2⟩,n3,y,hy,n4⟩:=z0N.mp (B.lack n (bO en))
   have hP':H' p=some (.lst (ns.map V.int)):=g _ _ (sD _ _ hP)
   refine⟨_,rfl,_,_,rfl,rfl,_,rfl,?_⟩
   rw[decide_eq_false (show ¬n<1 by omega)]
   refine B1 ⟨_,rfl,_,rfl,(by show 1≤sizeLine;decide),fun l0 hl0=>⟨p,l0,_,_,rfl,rfl,z01 hl0 _ _ _ hP',z03,?_,fun lc hlc=>?_⟩⟩
   ·rw[b7]
    exact dQ (z0e (by show ns.length+1≤1000;omega))
   have s3:=(z01 hl0 (.lst [V.int 0])).trans (z01 hlc (.lst (ns.map V.int++[V.int 0])))
   have ec:upd (upd H' l0 (.lst [V.int 0])) lc (.lst (ns.map V.int++[V.int 0])) lc=some (.lst ((ns++[0]).map V.int)):=by
    rw[z03,bD]
    rfl
   generalize upd (upd H' l0 (.lst [V.int 0])) lc (.lst (ns.map V.int++[V.int 0]))=H3 at s3 ec
   refine⟨lc,ns++[0],rfl,.inl (SqL.of ec),by simp,fun m hm top=>⟨_,_,rfl,rfl,_,rfl,?_⟩⟩
   have:=top y (cR _ hy)
   rw[decide_eq_false (show ¬m<n by omega)]
   refine B1 ⟨_,rfl,_,rfl,p,_,rfl,.inl (SqL.of (s3 _ _ hP')),rfl,z1X ns,_,rfl,?_⟩
   rw[if_neg bJ,z2y,decide_eq_false n3]
   exact B1 ⟨g.trans s3,_,rfl⟩
  ·obtain⟨g,o3,rfl⟩:=hp
   have sG:=sD.trans g
   have eG:=g _ _ eD
   clear g
   generalize hHx:H'=H3 at sG eG
   clear hHx
   refine⟨_,rfl,D,rfl,⟨_,SqL.of eG⟩,z1Y (K:=K) (a:=D) (xs:=(z1p ns r b).map V.int) (fun _ σ H'=>A3 H3 H'/\∃o4:Option V,σ=[some (.ref l),some (.ref p),some (.int r),some (.int b),o1,o2,some (.ref D),o3,o4]) ⟨A3.refl _,none,rfl⟩ (fun i σ H' _ hp=>?_) (fun i x σ H' hx hp=>?_) (fun σ H' hp=>?_)⟩
   ·exact SqL.of (hp.1 _ _ eG)
   ·obtain⟨g,o4,rfl⟩:=hp
    rw[bB] at hx
    obtain⟨d,ed,rfl⟩:=cG.mp hx
    obtain⟨z,hz,z1,z2⟩:=B.cov d (bO ed)
    refine⟨_,rfl,l,_,_,_,rfl,rfl,SqT.of (g _ _ (sG _ _ hl)),z0K rfl,lf,rfl,⟨_,SqT.of (g _ _ (sG _ _ hf))⟩,?_⟩
    refine z6p (ns:=fs) (fun y=>decide (d≤y) && decide (y≤d+r)) (fun y=>.int y) (SqT.of (g _ _ (sG _ _ hf))) (by omega) (fun y ys N hy hN=>?_) (fun E0 hE0=>?_)
    ·refine⟨_,rfl,_,rfl,_,_,rfl,rfl,_,rfl,?_⟩
     refine B0 (fun c=>?_) (fun c=>?_)
     ·refine⟨_,rfl,_,rfl,_,rfl,_,_,rfl,rfl,_,_,rfl,rfl,_,rfl,?_⟩
      rw[c,fN] at hN
      refine B0 (fun c2=>?_) (fun c2=>?_)
      ·rw[if_pos c2] at hN
       exact⟨_,rfl,hN⟩
      ·rw[if_neg c2] at hN
       exact hN
     ·rw[fT.mpr c,fU] at hN
      exact B1 hN
    ·have mz:z∈fs.filter (fun y=>decide (d≤y) && decide (y≤d+r)):=cI.mpr ⟨hz,by rw[decide_eq_true z1,decide_eq_true z2];rfl⟩
     have eE:upd H' E0 (.lst (z1U (fun y=>decide (d≤y) && decide (y≤d+r)) (fun y=>V.int y) fs)) E0=some (.lst ((fs.filter fun y=>decide (d≤y) && decide (y≤d+r)).map V.int)):=z03
     have sE:=z01 hE0 (.lst (z1U (fun y=>decide (d≤y) && decide (y≤d+r)) (fun y=>V.int y) fs))
     generalize upd H' E0 (.lst (z1U (fun y=>decide (d≤y) && decide (y≤d+r)) (fun y=>V.int y) fs))=H4 at eE sE
     generalize fs.filter (fun y=>decide (d≤y) && decide (y≤d+r))=ab at eE mz
     refine⟨(by show 0≤sizeLine;decide),fun e0 he0=>⟨E0,e0,_,rfl,rfl,SqL.of (z01 he0 _ _ _ eE),SqL.of z03,_,rfl,?_⟩⟩
     cases ab with
     | nil=>cases mz
     | cons y0 yr=>exact B1 ⟨g.trans (sE.trans (z01 he0 _)),_,rfl⟩
   ·obtain⟨g,o4,rfl⟩:=hp
    have sG:=sG.trans g
    have eG:=g _ _ eG
    clear g
    generalize hHx:H'=H4 at sG eG
    clear hHx
    have la':(as.map V.int).length=as.length:=b7 _
    refine⟨_,rfl,l,_,_,_,rfl,rfl,SqT.of (sG _ _ hl),z0K rfl,la,_,rfl,.inr (SqT.of (sG _ _ ha)),_,rfl,by omega,by omega,?_⟩
    refine z0U (lo:=0) (n:=(((as.map V.int).length:Nat):Int).toNat) (fun _ σ H2=>H2=H4/\∃o2:Option V,σ=[some (.ref l),some (.ref p),some (.int r),some (.int b),o1,o2,some (.ref D),o3,o4]) ⟨rfl,_,rfl⟩ (fun k σ H2 hk hp=>?_) (fun σ H2 hp=>?_)
    ·obtain⟨rfl,o,rfl⟩:=hp
     have hk':k<as.length:=by rw[la'] at hk;exact hk
     have ek:(0:Int)+(k:Int)=(k:Int):=eU _
     have ak:atI (as.map V.int) (0+(k:Int))=some (.int (as.getD k 0)):=by
      rw[ek]
      exact z43 (ns:=as) (k:=(k:Int)) (by omega) (by omega)
     have gk:as[k]? = some (as.getD k 0):=by rw[bL,bC hk'];rfl
     refine⟨_,rfl,l,_,_,_,rfl,rfl,SqT.of (sG _ _ hl),z0K rfl,_,rfl,la,_,_,_,rfl,rfl,SqT.of (sG _ _ ha),ak,_,rfl,D,_,rfl,.inl (SqL.of eG),rfl,z1X _,_,rfl,?_⟩
     rw[if_pos rfl,z2y,decide_eq_true (B.mem _ (bO gk))]
     refine B1 ⟨_,rfl,_,_,rfl,rfl,_,rfl,B0 (fun c=>?_) (fun c=>?_)⟩
     ·have c0:(0:Int)<0+(k:Int):=z0F c
      obtain⟨j,rfl⟩:∃j,k=j+1:=⟨k-1,by omega⟩
      have aj:atI (as.map V.int) (0+((j+1:Nat):Int)-1)=some (.int (as.getD j 0)):=by
       have e:(0:Int)+((j+1:Nat):Int)-1=(j:Int):=by omega
       rw[e]
       exact z43 (ns:=as) (k:=(j:Int)) (by omega) (by omega)
      have lt:as.getD j 0+r<as.getD (j+1) 0:=y3k B.ar (i:=j) (by rw[bL,bC (by omega)];rfl) gk
      refine⟨_,rfl,l,_,_,_,rfl,rfl,SqT.of (sG _ _ hl),z0K rfl,_,rfl,la,_,_,_,rfl,rfl,SqT.of (sG _ _ ha),ak,_,rfl,l,_,_,_,rfl,rfl,SqT.of (sG _ _ hl),z0K rfl,_,rfl,_,_,rfl,rfl,la,_,_,_,rfl,rfl,SqT.of (sG _ _ ha),aj,_,_,rfl,rfl,_,rfl,_,_,rfl,rfl,_,rfl,?_⟩
      rw[decide_eq_false (show ¬as.getD (j+1) 0-as.getD j 0≤r by omega)]
      exact B1 ⟨rfl,_,rfl⟩
     ·exact⟨rfl,_,rfl⟩
    ·obtain⟨rfl,o,rfl⟩:=hp
     refine⟨_,rfl,l,_,_,_,rfl,rfl,SqT.of (sG _ _ hl),z0K rfl,lf,_,rfl,.inr (SqT.of (sG _ _ hf)),_,rfl,l,_,_,_,rfl,rfl,SqT.of (sG _ _ hl),z0K rfl,la,_,rfl,.inr (SqT.of (sG _ _ ha)),rfl,?_⟩
     rw[b7,b7,B.len,decide_eq_true rfl]
     exact q _ sG
theorem y4S{ms:List Int}{rows:List Row}{z:Str}(h:∀n∈ms,n≤60):z1A (z0W ms rows z)≤60:=by
 have go:∀(ms:List Int) (acc:Option (Int×Int)),(∀n∈ms,n≤60)->z1A acc≤60->z1A (ms.foldl (fun acc n=>match E5 (z0y rows n) z with|some v=>some (n,v)|none=>acc) acc)≤60:=by
  intro ms
  induction ms with
  | nil=>intro acc _ h;exact h
  | cons n r ih=>
   intro acc hn h0
   rw[dB]
   refine ih _ (fun x hx=>hn x (bS _ hx)) ?_
   cases E5 (z0y rows n) z with
   | none=>exact h0
   | some v=>exact hn n bU
 exact go ms none h (by decide)
def z5z(ns:List Int)(rows:List Row)(r:Int)(as:List Str):List Int:=(as.filter fun z=>decide (z0Y ns rows r (z1A (z0W ns rows z)) z="open")).map fun z=>z1A (z0W ns rows z)
def z7x(l:List Int):Int:=l.foldl min 61
theorem y0G(l:List Int)(n:Int):z7x (l++[n])=if n<z7x l then n else z7x l:=by
 unfold z7x
 rw[fR]
 show min (l.foldl min 61) n=_
 split<;>omega
theorem y1e{m:Int}:∀{l:List Int}{a:Int},(m=a\/m∈l)->m≤a->(∀y∈l,m≤y)->l.foldl min a=m
 | [],a,h,_,_=>by
  rcases h with h|h
  ·exact h.symm
  ·cases h
 | y::l,a,h,ha,hl=>by
  have hy:=hl y bU
  rw[dB]
  refine y1e ?_ (by omega) fun x hx=>hl x (bS _ hx)
  rcases h with h|h
  ·exact .inl (by omega)
  ·rcases bA.mp h with h|h
   ·exact .inl (by omega)
   ·exact .inr h
theorem z96(ns:List Int)(rows:List Row)(r:Int)(as:List Str)(z:Str):z5z ns rows r (as++[z])=z5z ns rows r as++(if z0Y ns rows r (z1A (z0W ns rows z)) z="open" then [z1A (z0W ns rows z)] else []):=by
 unfold z5z
 rw[dW,bD,eM]
 by_cases c:z0Y ns rows r (z1A (z0W ns rows z)) z="open"
 ·rw[decide_eq_true c,if_pos rfl,if_pos c]
  rfl
 ·rw[decide_eq_false c,if_neg bJ,if_neg c]
  rfl
def askV:Option Str->V
 | none=>.non
 | some z=>.str z
def X4(nm:List Str):Option Str->List Str
 | none=>nm
 | some z=>[z]
def z6a(Sh:ShP):Sp:=fun vs H Q _=>∃(x:Addr) (o:Option Str) (fp:List Addr) (nm:List Str) (r:Int) (rows:List Row) (had:List Int),vs=[.ref x,askV o]/\Sh H x fp nm r (fun n=>z10 rows n r) had/\(∀z∈X4 nm o,z∈nm)/\D6 nm/\Rws nm rows/\rows.length≤60/\(∀n∈had,1≤n/\n≤rows.length)/\0≤r/\r≤10/\
 ∀(v:V) (H':Hp),A3 H H'->y49 H' v (z0c had) r (z7x (z5z (z0c had) rows r (X4 nm o)))->Q v H'
theorem y4p(ns:List Int)(r:Int):U6 ns r 61 [] [] where
 len:=rfl
 fr:=.nil
 ar:=.nil
 lack:=fun _ h=>(nomatch h)
 cov:=fun d hd=>by
  unfold z1p at hd
  rw[cI,decide_eq_true_eq,z7n,cI] at hd
  have:=(z0N.mp hd.1.1).1
  omega
 mem:=fun _ h=>(nomatch h)
theorem z8M{A0 T0:Addr}{items:Array Value}(M:Bl mg)(T:C8 K mg A0)(F:R3 K "send_for" "send_for" z7V f fd T0 items)(B8:Cal P w K mg base 2 "held_for" z2U (z3C (ShD K A0)))
  (C3:Cal P w K mg base 5 "state_of" z3F (z4y (ShD K A0))) (A6:D2 P w K mg base 1 A0 "had" z1n (z3n (ShD K A0)))
  (D9:Cal P w K mg base 5 "fewest_numbers" z2Y (y1G K)):A7 P w K mg base CX0 6 f fd z4J (z6a (ShD K A0)):=by
 have nd:=z8K.nd
 refine F.ok z8K (fun vs H Q E h=>?_) (fun cdv A outer s H vs Q E hr h=>?_)
 ·obtain⟨x,o,fp,nm,r,rows,had,rfl,_⟩:=h
  rfl
 obtain⟨x,o,fp,nm,r,rows,had,rfl,sh,ho,gn,R,l60,hh,r0,r1,k⟩:=h
 refine⟨_,(z04 (z0p (i:=2) nd rfl (Or.inl rfl) (z60 (z8r (z8R (pv 1))) (z0I (pv 0) rfl) (z0Q (z00 (pv 1) z02)))) (z04 (z5J (i:=3) ["one"] ["shelf"] [0] rfl nd rfl (Or.inl rfl) (z0v rfl (by decide +kernel) rfl (by decide +kernel) rfl rfl) (z23 (pv 2)) (fun _ _ _ _ _=>(z0j (i:=0) (show((["one"]:List PySem.Str)++(["shelf"]:List PySem.Str)).Nodup from by decide +kernel) rfl (Or.inl rfl))) (z0w (by decide)) z0h (fun _ _ _ _ _=>(z2d (z0a z2L (z0i C3 (rm hr) rfl (z00 (pv 1) (z00 (pv 0) z02))) (z26 rfl M.OPEN) (z0m _)))) (fun _ _ _ _ _=>(z0z (r:=P4 K) z0A (z0i B8 (rm hr) rfl (z00 (pv 1) (z00 (pv 0) z02))) z06 (fun _ _=>rfl)))) (z04 (z0D (z0a z2L (z0b z09 rfl M.len bK (z00 (pv 3) z02)) z06 (z0m _)) (z05 (z0f (z0Q (z00 (z0Q z02) (z00 (z0Q z02) z02))))) z0l) (z05 (z0f (z0i D9 (rm hr) rfl (z00 (z1M A6 (rm hr) (pv 0)) (z00 (z0I (pv 0) rfl) (z00 (z0b (z7W rfl) rfl M.min eV (z00 (pv 3) z02)) z02))))))))),?_⟩
 obtain⟨dx,pn,fs,h1,h3,ln,lr,lm⟩:∃dx pn fs,H x=some (.ins A0 dx fs)/\H pn=some (.tup (nm.map V.str))/\fs.lookup ("names":Str)=some (V.ref pn)/\fs.lookup ("reach":Str)=some (V.int r)/\fs.lookup ("had":Str)=none:=by
  obtain⟨dx,pn,pd,fs,kvs,_,h1,_,h3,_,l1,l2,_,lm,_⟩:=sh
  exact⟨dx,pn,fs,h1,h3,l1,l2,lm _ (by simp)⟩
 have h60:∀n∈z0c had,1≤n/\n≤60:=fun n hn=>by have:=hh n (z0Z.mp hn).2;omega
 have n12:=gn.hi
 have la:(X4 nm o).length≤12:=by
  cases o with
  | none=>exact n12
  | some z=>show 1≤12;decide
 have asked:∀(Qk:VK),(∀(ta:Addr) (H1:Hp),A3 H H1->H1 ta=some (.tup ((X4 nm o).map V.str))->Qk (.ref ta) H1)->tIf (tB (Z6 (T5 1))) (w0g K (T5 0) "names") (tTup (y5B (T5 1) V7)) (z6d ["shelf","name","asked","held_from"] [.ref x,askV o]) H Qk:=fun Qk hq=>by
  cases o with
  | none=>exact⟨_,rfl,_,rfl,F4 ⟨_,rfl,x,A0,dx,fs,_,rfl,h1,T.cl,T.n_names,ln,hq pn H (A3.refl _) h3⟩⟩
  | some z=>exact⟨_,rfl,_,rfl,B1 ⟨_,rfl,(by show 1≤sizeLine;decide),fun t ht=>hq t _ (z01 ht _) z03⟩⟩
 refine asked _ fun ta H1 s1 e1=>?_
 generalize hAs:X4 nm o=as at *
 clear asked
 have sh1:=F1.same sh s1
 refine⟨_,rfl,ta,rfl,⟨_,SqT.of e1⟩,?_⟩
 refine z1J (xs:=as.map V.str) (fun i ys H'=>A3 H1 H'/\ys=(z5z (z0c had) rows r (as.take i)).map V.int) ⟨A3.refl _,rfl⟩ (fun i ys H' hi hp=>?_) (fun i y ys H' hy hp=>?_) (fun ys H' hp=>?_)
 ·obtain⟨g,rfl⟩:=hp
  refine⟨SqT.of (g _ _ e1),z0e ?_⟩
  unfold z5z
  rw[b7,b7]
  have h1:=cJ (fun z=>decide (z0Y (z0c had) rows r (z1A (z0W (z0c had) rows z)) z="open")) (as.take i)
  rw[bH] at h1
  omega
 ·obtain⟨g,rfl⟩:=hp
  rw[bB] at hy
  obtain⟨z,ez,rfl⟩:=cG.mp hy
  have hz:=ho z (bO ez)
  have sh2:=F1.same sh1 g
  refine⟨_,rfl,_,rfl,x,z,fp,nm,r,rows,had,rfl,sh2,hz,gn,R,l60,hh,r0,r1,fun H2 s2=>⟨rfl,_,rfl,?_⟩⟩
  rw[z0n ez,z96]
  refine B0 (fun c=>?_) (fun c=>?_)
  ·have c':z0Y (z0c had) rows r (z1A (z0W (z0c had) rows z)) z="open":=V.str.inj (z0F c)
   rw[if_pos c',bD]
   refine⟨_,rfl,_,rfl,x,z,fp,nm,r,rows,had,rfl,F1.same sh2 s2,hz,gn,R,fun v H3 s3 tv=>?_⟩
   obtain⟨b,y,rfl,eb,_⟩:=z3S tv
   exact⟨b,_,_,_,rfl,rfl,SqT.of eb,z0K rfl,g.trans (s2.trans s3),rfl⟩
  ·have c':¬z0Y (z0c had) rows r (z1A (z0W (z0c had) rows z)) z="open":=fun e=>c (decide_eq_true (congrArg V.str e))
   rw[if_neg c',cY]
   exact⟨g.trans s2,rfl⟩
 ·obtain⟨g,rfl⟩:=hp
  rw[b7,bT]
  intro D hD
  have eD:upd H' D (.lst ((z5z (z0c had) rows r as).map V.int)) D=some (.lst ((z5z (z0c had) rows r as).map V.int)):=z03
  have s2:=s1.trans (g.trans (z01 hD (.lst ((z5z (z0c had) rows r as).map V.int))))
  generalize upd H' D (.lst ((z5z (z0c had) rows r as).map V.int))=H2 at eD s2
  refine⟨_,rfl,D,_,rfl,.inl (SqL.of eD),rfl,_,rfl,?_⟩
  rw[b7]
  refine B0 (fun c=>?_) (fun c=>?_)
  ·have c0:z5z (z0c had) rows r as=[]:=gZ.mp (by have:=z0F c;injection this with this;omega)
   refine⟨(by show 0≤sizeLine;decide),fun t1 ht1=>⟨(by show 0≤sizeLine;decide),fun t2 ht2=>⟨(by show 2≤sizeLine;decide),fun t ht=>?_⟩⟩⟩
   refine k _ _ (s2.trans ((z01 ht1 _).trans ((z01 ht2 _).trans (z01 ht _)))) ⟨t,t1,t2,[],[],rfl,z03,z01 ht _ _ _ (z01 ht2 _ _ _ z03),z01 ht _ _ _ z03,?_⟩
   rw[c0]
   exact y4p _ _
  ·have c0:z5z (z0c had) rows r as≠[]:=fun e=>c (by rw[e];rfl)
   have sh2:=F1.same sh s2
   refine⟨_,rfl,x,dx,fs,rfl,s2 _ _ h1,lm,x,fp,nm,r,_,had,rfl,sh2,fun l H3 s3 e3=>?_⟩
   refine⟨_,rfl,x,A0,dx,fs,_,rfl,s3 _ _ (s2 _ _ h1),T.cl,T.n_reach,lr,_,rfl,D,_,rfl,.inl (SqL.of (s3 _ _ eD)),c0,fun m hm hl=>?_⟩
   have em:z7x (z5z (z0c had) rows r as)=m:=by
    refine y1e (.inr hm) ?_ hl
    unfold z5z at hm
    obtain⟨z,_,rfl⟩:=cO.mp hm
    have:=y4S (rows:=rows) (z:=z) fun n hn=>(h60 n hn).2
    omega
   refine⟨l,z0c had,r,m,rfl,.inr (SqT.of e3),h60,cM (z38 had) (by decide),r0,fun v H4 s4 p4=>?_⟩
   exact k v H4 (s2.trans (s3.trans s4)) (by rw[em];exact p4)
def y4n(Sh:ShP):Sp:=fun vs H Q _=>∃(x:Addr) (fp:List Addr) (nm:List Str) (r:Int) (rows:List Row) (had:List Int) (m:Nat),vs=[.ref x]/\Sh H x fp nm r (fun n=>z10 rows n r) had/\D6 nm/\Rws nm rows/\rows.length≤60/\(∀n∈had,1≤n/\n≤rows.length)/\0≤r/\r≤10/\z4g had m/\
 ∀(v:V) (H':Hp),A3 H H'->A5 H' (.tup ((z18 m (z0c had) rows r).map O0)) v->Q v H'
theorem y1i{had:List Int}{m:Nat}(h60:∀n∈had,1≤n/\n≤60)(t:z4g had m):z0c (z0c had++z16 (z0c had))=upI 1 m:=z1N (z1K _) (z1s _ _) fun x=>by
 have inr:∀y,y∈z0c had↔y∈had:=fun y=>by
  rw[z0Z]
  exact⟨fun h=>h.2,fun h=>⟨by have:=h60 y h;omega,h⟩⟩
 rw[z0Z,bN,z13,z0N]
 constructor
 ·rintro⟨h1,h|⟨_,_,y,hy,h⟩⟩
  ·have:=t.2 x ((inr x).mp h)
   omega
  ·have:=t.2 y ((inr y).mp hy)
   omega
 ·rintro⟨h1,h2⟩
  rcases t.1 with q|⟨_,q⟩
  ·have:=h60 _ q
   refine⟨by omega,?_⟩
   by_cases c:x∈z0c had
   ·exact .inl c
   ·refine .inr ⟨by omega,c,m,(inr _).mpr q,?_⟩
    have:x≠(m:Int):=fun e=>c (by rw[e];exact(inr _).mpr q)
    omega
  ·omega
theorem y1q{kvs:List (Key×V)}{ks:List Int}(kk:kvs.map (·.1)=ks.map Sum.inl){n:Int}(hn:n∉ks)(v:V):putK kvs (Sum.inl n) v=kvs++[(Sum.inl n,v)]:=by
 refine y1w _ ?_
 have:=z9s kk n
 rw[decide_eq_false hn] at this
 cases e:K1 kvs (Sum.inl n:Key) with
 | none=>rfl
 | some v=>rw[e] at this;cases this
theorem y5A{A0:Addr}(M:Bl mg)(F:Fun K "known_sets" "known_sets" z5H f fd)(A6:D2 P w K mg base 1 A0 "had" z1n (z3n (ShD K A0)))(D0:D2 P w K mg base 1 A0 "rows_of" z2z (z9n (ShD K A0)))
  (C9:Cal P w K mg base 1 "names_of_rows" z2x y0U) (F0:Cal P w K mg base 3 "gaps_of" z6g (z7o (ShD K A0))):A7 P w K mg base CX0 4 f fd z5p (y4n (ShD K A0)):=by
 have nd:=z76.nd
 refine F.ok z76 (fun vs H Q E h=>?_) (fun cdv A outer s H vs Q E hr h=>?_)
 ·obtain⟨x,fp,nm,r,rows,had,m,rfl,_⟩:=h
  rfl
 obtain⟨x,fp,nm,r,rows,had,m,rfl,sh,gn,R,l60,hh,r0,r10,it,k⟩:=h
 have hu:=y0g hr
 refine⟨_,(z04 (z0p (i:=1) nd rfl (Or.inr rfl) y1u) (z04 (z0P bQ rfl (z23 (z1M A6 (rm hr) (pv 0))) (z0j (i:=2) nd rfl (Or.inl rfl)) (z05 (y0M hu (pv 1) (pv 2) (z0i C9 (rm hr) rfl (z00 (z2a D0 (rm hr) (pv 0) (z00 (pv 2) z02)) z02)) rfl))) (z04 (z0P bQ rfl (z23 (z0i F0 (rm hr) rfl (z00 (pv 0) z02))) (y5J rfl (z1m (z0j (i:=2) nd rfl (Or.inl rfl)) (z1m (z0j (i:=3) nd rfl (Or.inl rfl)) (z1m (z0j (i:=4) nd rfl (Or.inl rfl)) z5l)))) (z05 (y0M hu (pv 1) (pv 2) (z60 (z0a z2L (pv 3) z06 (z0m _)) z8P (pv 4)) rfl))) (z05 (z0f (z0u z0o rfl M.tuple bI (z00 (z1e ["number"] ["sets"] [1] rfl (z0v rfl (by decide +kernel) rfl (by decide +kernel) rfl rfl) (z1w (z0b (z48 rfl) rfl M.sorted fI (z00 (pv 1) z02))) (fun _ _ _ _ _=>(z0j (i:=0) (show((["number"]:List PySem.Str)++(["sets"]:List PySem.Str)).Nodup from by decide +kernel) rfl (Or.inl rfl))) (z0w (by decide)) z0h (fun _ _ _ _ _=>z2g) (fun _ _ _ _ _=>(z6P hu (pv 1) (pv 0) (fun _ _=>rfl)))) z02))))))),?_⟩
 have h60:∀n∈had,1≤n/\n≤60:=fun n hn=>by have:=hh n hn;omega
 have rl:=z38 had
 have ll:=z2e (z0c had)
 obtain⟨dx,fs,h1,lm,lo⟩:∃dx fs,H x=some (.ins A0 dx fs)/\fs.lookup ("had":Str)=none/\fs.lookup ("rows_of":Str)=none:=by
  obtain⟨dx,pn,pd,fs,kvs,_,h1,_,_,_,_,lr,_,lm,_⟩:=sh
  exact⟨dx,fs,h1,lm _ (by simp),lm _ (by simp)⟩
 intro d hd
 have s0:=z01 hd (.dK [])
 have e0:upd H d (.dK []) d=some (.dK []):=z03
 generalize upd H d (.dK [])=H0 at s0 e0
 refine⟨_,rfl,x,dx,fs,rfl,s0 _ _ h1,lm,x,fp,nm,r,_,had,rfl,F1.same sh s0,fun l H1 s1 e1=>?_⟩
 have s01:=s0.trans s1
 refine⟨l,rfl,⟨_,SqT.of e1⟩,z4A (K:=K) (a:=l) (xs:=(z0c had).map V.int) (fun i σ G=>∃(kvs:List (Key×V)) (o2:Option V),A3 H G/\G l=some (.tup ((z0c had).map V.int))/\G d=some (.dK kvs)/\kvs.map (·.1)=((z0c had).take i).map Sum.inl/\(∀n v,(Sum.inl n,v)∈kvs->A5 G (K4 (z0S (z0y rows n))) v)/\
   σ=[some (.ref x),some (.ref d),o2,none,none]) ⟨[],none,s01,e1,s1 _ _ e0,by rw[cS];rfl,fun _ _ q=>(nomatch q),rfl⟩ (fun i σ G _ ⟨_,_,_,e,_⟩=>SqT.of e) ?_ ?_⟩
 ·rintro i y σ G hy ⟨kvs,o2,sG,elG,edG,kk,tk,rfl⟩
  rw[bB] at hy
  obtain⟨n,en,rfl⟩:=cG.mp hy
  have nh:n∈had:=(z0Z.mp (bO en)).2
  have lk:kvs.length≤60:=by
   have:=congrArg List.length kk
   rw[b7,b7,bH] at this
   omega
  refine⟨_,rfl,x,dx,fs,rfl,sG _ _ h1,lo,_,rfl,x,fp,nm,r,_,had,n,_,_,_,rfl,F1.same sh sG,nh,rfl,fun v tv=>?_⟩
  obtain⟨a,us,rfl,ea,_,tu⟩:=z0g tv
  refine⟨a,us,z0y rows n,rfl,ea,tu,y0L gn R n,fun q G1 s1' eq=>?_⟩
  refine⟨_,rfl,_,rfl,d,_,rfl,T4.k (k:=Sum.inl n) (s1' _ _ edG) (z0e (by omega)),?_⟩
  have nin:n∉(z0c had).take i:=fun h=>by
   have:=(z1K had)
   rw[<- j8 (i+1) (z0c had),z0n en] at this
   have:=(cT.mp (cT.mp this).1).2.2 n h n (b8.mpr rfl)
   omega
  rw[y1q kk nin]
  have nl:l≠d:=z4W elG edG (by intro z;cases z)
  refine⟨_,_,z1Z (sG.trans s1') hd,by rw[z0k nl];exact s1' _ _ elG,z03,?_,fun n' v' hv=>?_,rfl⟩
  ·rw[bD,kk,z0n en,bD]
   rfl
  ·refine A5.over (s1' _ _ edG) (fun _ z=>by cases z) _ _ ?_
   rcases bN.mp hv with h|h
   ·exact A5.keep s1' _ _ (tk n' v' h)
   ·rw[b8] at h
    cases h
    exact z0r eq (by rw[b7];have:=y7o R gn n;omega) (z2v _)
 rintro σ H2 ⟨kvs,o2,s2,_,ed2,kk2,tk2,rfl⟩
 rw[b7,bT] at kk2
 have sh2:=F1.same sh s2
 refine⟨_,rfl,x,fp,nm,r,rows,had,rfl,sh2,gn,R,l60,hh,r0,r10,fun gv H3 s3 tg=>?_⟩
 obtain⟨ag,gz,rfl,eag,_,tgz⟩:=z0g tg
 have lgz:gz.length=(z16 (z0c had)).length:=by
  rw[tgz.length]
  unfold z39
  rw[b7]
 have s23:=s2.trans s3
 refine⟨ag,rfl,⟨_,SqT.of eag⟩,z4A (K:=K) (a:=ag) (xs:=gz) (fun i σ G=>∃(kvs:List (Key×V)) (o2 o3 o4:Option V),A3 H G/\G ag=some (.tup gz)/\z08 G (z39 (z0c had) rows r) gz/\G d=some (.dK kvs)/\kvs.map (·.1)=(z0c had++(z16 (z0c had)).take i).map Sum.inl/\(∀n v,(Sum.inl n,v)∈kvs->A5 G (O0 (z1y (z0c had) rows r n)) v)/\
   σ=[some (.ref x),some (.ref d),o2,o3,o4]) ⟨kvs,_,_,_,s23,eag,tgz,s3 _ _ ed2,by rw[cS,cY];exact kk2,fun n v hv=>?_,rfl⟩ (fun i σ G _ ⟨_,_,_,_,_,e,_⟩=>SqT.of e) ?_ ?_⟩
 ·have hm:n∈z0c had:=by
   have:(Sum.inl n:Key)∈kvs.map (·.1):=cO.mpr ⟨_,hv,rfl⟩
   rw[kk2] at this
   obtain⟨n',h,e⟩:=cO.mp this
   cases e
   exact h
  unfold z1y
  rw[if_pos (.inl hm)]
  exact A5.keep s3 _ _ (tk2 n v hv)
 ·rintro i y σ G hy ⟨kvs,o2,o3,o4,sG,eaG,tG,edG,kk,tk,rfl⟩
  obtain⟨n,a,b,en,rfl,ha,hb⟩:=z6e tG hy
  have hlk:=bO en
  have hin:n∉z0c had:=(z0N.mp hlk).2.1
  have lk:kvs.length≤120:=by
   have:=congrArg List.length kk
   rw[b7,b7,bG,bH] at this
   omega
  have nin:n∉z0c had++(z16 (z0c had)).take i:=fun h=>by
   rcases bN.mp h with h|h
   ·exact hin h
   ·have:=z2p (z0c had)
    rw[<- j8 (i+1) (z16 (z0c had)),z0n en] at this
    have:=(cT.mp (cT.mp this).1).2.2 n h n (b8.mpr rfl)
    omega
  have nag:ag≠d:=z4W eaG edG (by intro z;cases z)
  refine⟨a,_,rfl,SqT.of ha,rfl,_,_,rfl,_,_,rfl,_,_,rfl,rfl,?_⟩
  have fin:∀v,A5 G (O0 (z1y (z0c had) rows r n)) v->∃(w0d:List (Key×V)) (o2 o3 o4:Option V),A3 H (upd G d (.dK (putK kvs (Sum.inl n) v)))/\upd G d (.dK (putK kvs (Sum.inl n) v)) ag=some (.tup gz)/\z08 (upd G d (.dK (putK kvs (Sum.inl n) v))) (z39 (z0c had) rows r) gz/\upd G d (.dK (putK kvs (Sum.inl n) v)) d=some (.dK w0d)/\w0d.map (·.1)=(z0c had++(z16 (z0c had)).take (i+1)).map Sum.inl/\(∀n' v',(Sum.inl n',v')∈w0d->A5 (upd G d (.dK (putK kvs (Sum.inl n) v))) (O0 (z1y (z0c had) rows r n')) v')/\
    [some (V.ref x),some (.ref d),some (.int n),some (.int (z0G (z0c had) n r)),some (.ref b)]=[some (V.ref x),some (.ref d),o2,o3,o4]:=fun v tv=>by
   rw[y1q kk nin]
   refine⟨_,_,_,_,z1Z sG hd,by rw[z0k nag];exact eaG,z08.over edG (fun _ z=>by cases z) _ _ tG,z03,?_,fun n' v' hv=>?_,rfl⟩
   ·rw[bD,kk,z0n en,<- fS,bD (l₁:=z0c had++_)]
    rfl
   ·refine A5.over edG (fun _ z=>by cases z) _ _ ?_
    rcases bN.mp hv with h|h
    ·exact tk n' v' h
    ·rw[b8] at h
     cases h
     exact tv
  refine⟨_,rfl,rfl,_,rfl,?_⟩
  by_cases c:z0G (z0c had) n r=0
  ·rw[decide_eq_true (congrArg V.int c)]
   refine F4 ⟨_,rfl,_,rfl,d,_,rfl,T4.k (k:=Sum.inl n) edG (z0e (by omega)),fin .non ?_⟩
   unfold z1y
   rw[if_neg (fun h=>h.elim hin fun h=>h c)]
   exact z7u
  ·rw[decide_eq_false (fun e=>c (V.int.inj e))]
   refine B1 ⟨_,rfl,_,rfl,_,rfl,d,_,rfl,T4.k (k:=Sum.inl n) edG (z0e (by omega)),fin (.ref b) ?_⟩
   unfold z1y
   rw[if_pos (.inr c)]
   unfold z2m at hb
   rw[if_neg c] at hb
   exact z0r hb (by rw[b7];have:=y7o R gn n;omega) (z2v _)
 rintro σ H4 ⟨kvs,p2,p3,p4,s4,_,_,ed4,kk4,tk4,rfl⟩
 rw[lgz,bT] at kk4
 have hm60:m≤60:=by have:=it.le (k:=60) (by decide) fun x hx=>(h60 x hx).2;omega
 have knd:(z0c had++z16 (z0c had)).Nodup:=h9.mpr ⟨(z1K had).imp fun h=>Int.ne_of_lt h,(z2p _).imp fun h=>Int.ne_of_lt h,fun a ha b hb e=>(z0N.mp hb).2.1 (e ▸ ha)⟩
 have kall:∀n∈z0c had++z16 (z0c had),1≤n/\n≤60:=fun n hn=>by
  rcases bN.mp hn with h|h
  ·exact h60 n (z0Z.mp h).2
  ·have:=(z0N.mp h).1
   omega
 refine⟨_,rfl,d,kvs,z0c had++z16 (z0c had),rfl,ed4,kk4,eF (y14 knd kall) (by decide),fun ls ms hls hp hs=>?_⟩
 have ems:ms=upI 1 m:=by
  rw[y0N knd kall hp hs]
  exact y1i h60 it
 subst ems
 have s5:=z01 hls (.lst ((upI 1 m).map V.int))
 have e5:upd H4 ls (.lst ((upI 1 m).map V.int)) ls=some (.lst ((upI 1 m).map V.int)):=z03
 have ed5:=s5 _ _ ed4
 generalize upd H4 ls (.lst ((upI 1 m).map V.int))=H5 at s5 e5 ed5
 refine⟨ls,rfl,⟨_,SqL.of e5⟩,?_⟩
 refine z3D (xs:=(upI 1 m).map V.int) (fun i ys G=>G=H5/\z08 H5 (((upI 1 m).take i).map fun n=>O0 (z1y (z0c had) rows r n)) ys) ⟨rfl,by rw[cS];exact .nil⟩ (fun i ys G hi hp=>?_) (fun i y ys G hy hp=>?_) (fun ys G hp=>?_)
 ·obtain⟨rfl,t⟩:=hp
  refine⟨SqL.of e5,z0e ?_⟩
  rw[t.length,b7,bH,z0M]
  omega
 ·obtain⟨rfl,t⟩:=hp
  rw[bB] at hy
  obtain⟨n,en,rfl⟩:=cG.mp hy
  have hn:n∈z0c had++z16 (z0c had):=by
   have:=bO en
   rw[<- y1i h60 it] at this
   exact(z0Z.mp this).2
  obtain⟨v,ev,mv⟩:=z7t kk4 hn
  refine⟨_,rfl,_,rfl,d,v,rfl,(by rw[<- ev];exact L7.k (k:=Sum.inl n) ed5),rfl,?_⟩
  rw[z0n en,bD]
  exact z08.snoc t (A5.keep s5 _ _ (tk4 n v mv))
 ·obtain⟨rfl,t⟩:=hp
  rw[b7,bT] at t
  intro D hD
  refine⟨D,ys,rfl,.inl ⟨SqL.of z03,fun q hq=>k _ _ (s4.trans (s5.trans ((z01 hD _).trans (z01 hq _)))) (z0r z03 ?_ (z08.keep ((z01 hD _).trans (z01 hq _)) _ _ ?_))⟩⟩
  ·rw[b7,z11]
   omega
  ·unfold z18
   rw[dJ]
   exact t
def z9G(c:List (List Str)):DV:=.tup (c.map K4)
def z4V(ks:List (Option (List Str))):List (List Str):=ks.map fun o=>o.getD []
def z6b(c:List (List Str))(d:Nat)(z:Str):List (List Str):=c.take (d-1)++[[z]]++c.drop d
theorem z08.drop{H:Hp}:∀{ds:List DV}{xs:List V} (n:Nat),z08 H ds xs->z08 H (ds.drop n) (xs.drop n)
 | _,_,0,h=>h
 | [],_,n+1,h=>by
  have:=z0E h
  subst this
  exact .nil
 | d0::ds,_,n+1,h=>by
  obtain⟨x0,r,rfl,h1,h2⟩:=z0d h
  exact z08.drop n h2
theorem y1T{had:List Int}{r:Int}{m:Nat}(h60:∀n∈had,1≤n/\n≤60)(t:z4g had m){d:Int}(hd:d∈z1Q (z0c had) r):1≤d/\d<(m:Int):=by
 obtain⟨h1,_⟩:=z4t.mp hd
 obtain⟨h2,_,y,hy,h3⟩:=z0N.mp h1
 have:=t.2 y (z0Z.mp hy).2
 omega
theorem y0p{ns:List Int}{rows:List Row}{r num:Int}{z:Str}(h:z0Y ns rows r num z="open"):∃n∈z1Q ns r,num<n:=by
 unfold z0Y at h
 split at h
 ·exact absurd h (by decide)
 ·split at h
  ·exact absurd h (by decide)
  ·rename_i c
   refine Classical.byContradiction fun q=>c (z7d.mpr fun n hn=>?_)
   exact Int.not_lt.mp fun z=>q ⟨n,hn,z⟩
def y7m(Sh:ShP):Sp:=fun vs H Q _=>∃(x:Addr) (z:Str) (fp:List Addr) (nm:List Str) (r:Int) (rows:List Row) (had:List Int) (m:Nat),vs=[.ref x,.str z]/\Sh H x fp nm r (fun n=>z10 rows n r) had/\z∈nm/\D6 nm/\Rws nm rows/\rows.length≤60/\(∀n∈had,1≤n/\n≤rows.length)/\0≤r/\r≤10/\z4g had m/\
 (z0Y (z0c had) rows r (z1A (z0W (z0c had) rows z)) z≠"open"->∀H',A3 H H'->Q .non H')/\
 (z0Y (z0c had) rows r (z1A (z0W (z0c had) rows z)) z="open"->∀(d:Nat),(d:Int)∈z1Q (z0c had) r->(∀y∈z1Q (z0c had) r,y≤(d:Int))->∀(v:V) (H':Hp),A3 H H'->A5 H' (.tup [z9G (z4V (z18 m (z0c had) rows r)),z9G (z6b (z4V (z18 m (z0c had) rows r)) d z)]) v->Q v H')
theorem z8F{A0:Addr}(M:Bl mg)(T:C8 K mg A0)(F:Fun K "two_courses" "two_courses" z4w f fd)(C3:Cal P w K mg base 5 "state_of" z3F (z4y (ShD K A0)))(M4:Cal P w K mg base 4 "known_sets" z5p (y4n (ShD K A0)))
  (A6:D2 P w K mg base 1 A0 "had" z1n (z3n (ShD K A0))) (B9:Cal P w K mg base 3 "dark_numbers" z2i (y1K K)):A7 P w K mg base CX0 6 f fd z4K (y7m (ShD K A0)):=by
 have nd:=z6c.nd
 refine F.ok z6c (fun vs H Q E h=>?_) (fun cdv A outer s H vs Q E hr h=>?_)
 ·obtain⟨x,z,fp,nm,r,rows,had,m,rfl,_⟩:=h
  rfl
 obtain⟨x,z,fp,nm,r,rows,had,m,rfl,sh,hz,gn,R,l60,hh,r0,r10,it,k1,k2⟩:=h
 refine⟨_,(z04 (z0D (z0a z7l (z0i C3 (rm hr) rfl (z00 (pv 0) (z00 (pv 1) z02))) (z26 rfl M.OPEN) (z0m _)) (z05 (z0f z8P)) z0l) (z04 (z0p (i:=2) nd rfl (Or.inl rfl) (z0u z0o rfl M.tuple bI (z00 (z1e ["known"] [] [] rfl (z0v rfl (by decide +kernel) rfl (by decide +kernel) rfl rfl) (z23 (z0i M4 (rm hr) rfl (z00 (pv 0) z02))) (fun _ _ _ _ _=>(z0j (i:=0) (show((["known"]:List PySem.Str)++([]:List PySem.Str)).Nodup from by decide +kernel) rfl (Or.inl rfl))) (z0w (by decide)) z0h (fun _ _ _ _ _=>z2g) (fun _ _ _ _ _=>(z60 (z8r (z8R (pv 0))) (z0Q z02) (pv 0)))) z02))) (z04 (z0p (i:=3) nd rfl (Or.inl rfl) (z0b (z3E rfl) rfl M.max dI (z00 (z0i B9 (rm hr) rfl (z00 (z1M A6 (rm hr) (pv 0)) (z00 (z0I (pv 0) rfl) z02))) z02))) (z04 (z0p (i:=4) nd rfl (Or.inl rfl) (z0t y44 (z0t y44 (z3U y4k (pv 2) z5q (z5k (z0t z31 (pv 3) z06))) (z0Q (z00 (z0Q (z00 (pv 1) z02)) z02))) (z3U y4k (pv 2) (z5k (pv 3)) z5q))) (z05 (z0f (z0Q (z00 (pv 2) (z00 (pv 4) z02))))))))),?_⟩
 have h60:∀n∈had,1≤n/\n≤60:=fun n hn=>by have:=hh n hn;omega
 have Z7:∀n∈z0c had,1≤n/\n≤60:=fun n hn=>h60 n (z0Z.mp hn).2
 have hm60:m≤60:=by have:=it.le (k:=60) (by decide) fun x hx=>(h60 x hx).2;omega
 obtain⟨dx,fs,h1,lm,lr⟩:∃dx fs,H x=some (.ins A0 dx fs)/\fs.lookup ("had":Str)=none/\fs.lookup ("reach":Str)=some (V.int r):=by
  obtain⟨dx,pn,pd,fs,kvs,_,h1,_,_,_,_,lr,_,lm,_⟩:=sh
  exact⟨dx,fs,h1,lm _ (by simp),lr⟩
 refine⟨_,rfl,_,rfl,x,z,fp,nm,r,rows,had,rfl,sh,hz,gn,R,l60,hh,r0,r10,fun H1 s1=>⟨rfl,_,rfl,?_⟩⟩
 by_cases c:z0Y (z0c had) rows r (z1A (z0W (z0c had) rows z)) z="open"
 case neg=>
  rw[decide_eq_false (fun e=>c (V.str.inj e))]
  exact F4 (k1 c H1 s1)
 rw[decide_eq_true (congrArg V.str c)]
 refine B1 ?_
 have sh1:=F1.same sh s1
 refine⟨_,rfl,x,fp,nm,r,rows,had,m,rfl,sh1,gn,R,l60,hh,r0,r10,it,fun kv H2 s2 tk=>?_⟩
 obtain⟨ak,us,rfl,eak,_,tus⟩:=z0g tk
 have lus:us.length=m:=by rw[tus.length,b7,z11]
 refine⟨ak,rfl,⟨_,SqT.of eak⟩,?_⟩
 refine z1J (xs:=us) (fun i ys G=>A3 H2 G/\z08 G ((z4V ((z18 m (z0c had) rows r).take i)).map K4) ys) ⟨A3.refl _,by rw[cS];exact .nil⟩ (fun i ys G hi hp=>?_) (fun i y ys G hy hp=>?_) (fun ys G hp=>?_)
 ·obtain⟨g,t⟩:=hp
  refine⟨SqT.of (g _ _ eak),z0e ?_⟩
  rw[t.length,b7]
  unfold z4V
  rw[b7,bH,z11]
  omega
 ·obtain⟨g,t⟩:=hp
  obtain⟨d,ed,td⟩:=tus.at i y hy
  rw[bB] at ed
  obtain⟨o,eo,rfl⟩:=cG.mp ed
  have eb:z4V ((z18 m (z0c had) rows r).take (i+1))=z4V ((z18 m (z0c had) rows r).take i)++[o.getD []]:=by
   unfold z4V
   rw[z0n eo,bD]
   rfl
  rw[eb,bD]
  cases o with
  | none=>
   have ey:y=.non:=by
    unfold O0 A5 at td
    exact td
   subst ey
   refine⟨_,rfl,_,rfl,F4 ⟨(by show 0≤sizeLine;decide),fun t0 ht0=>⟨g.trans (z01 ht0 _),?_⟩⟩⟩
   exact z08.snoc (z08.keep (z01 ht0 _) _ _ t) (z0r z03 (by decide) .nil)
  | some zs=>
   obtain⟨b,ws,rfl,eb',lb,tb⟩:=z0g (show A5 H2 (K4 zs) y from td)
   refine⟨_,rfl,_,rfl,B1 ⟨_,rfl,g,?_⟩⟩
   exact z08.snoc t (A5.keep g _ _ td)
 obtain⟨g,t⟩:=hp
 rw[lus,cL (by rw[z11];exact bE _)] at t
 intro D hD
 refine⟨D,ys,rfl,.inl ⟨SqL.of z03,fun an han=>?_⟩⟩
 have s3:=g.trans ((z01 hD (.lst ys)).trans (z01 han (.tup ys)))
 have t3:=z08.keep ((z01 hD (.lst ys)).trans (z01 han (.tup ys))) _ _ t
 have en:upd (upd G D (.lst ys)) an (.tup ys) an=some (.tup ys):=z03
 generalize upd (upd G D (.lst ys)) an (.tup ys)=H3 at s3 t3 en
 have lys:ys.length=m:=by
  rw[t3.length,b7]
  unfold z4V
  rw[b7,z11]
 have c13:=s2.trans s3
 have sh3:=F1.same sh1 c13
 have h13:=(s1.trans c13) _ _ h1
 refine⟨_,rfl,x,dx,fs,rfl,h13,lm,x,fp,nm,r,_,had,rfl,sh3,fun lh H4 s4 e4=>?_⟩
 refine⟨_,rfl,x,A0,dx,fs,_,rfl,s4 _ _ h13,T.cl,T.n_reach,lr,lh,z0c had,r,rfl,.inr (SqT.of e4),Z7,cM (z38 had) (by decide),fun ld H5 s5 e5=>?_⟩
 obtain⟨n0,hn0,_⟩:=y0p c
 refine⟨ld,z1Q (z0c had) r,rfl,.inr (SqT.of e5),List.ne_nil_of_mem hn0,fun dm hdm topd=>?_⟩
 have hdr:=y1T h60 it hdm
 obtain⟨d,rfl⟩:∃d:Nat,dm=(d:Int):=⟨dm.toNat,by omega⟩
 have s35:=s4.trans s5
 have en5:=s35 _ _ en
 have t5:=z08.keep s35 _ _ t3
 have ed1:(d:Int)-1=((d-1:Nat):Int):=by omega
 have ltm:∀l:List V,l.length≤60->l.length<sizeLine:=fun l h=>z0e (by omega)
 refine⟨_,rfl,_,rfl,_,_,rfl,rfl,_,rfl,an,ys,rfl,en5,fun p1 H6 s6 e6=>?_⟩
 rw[ed1,y5r (by rw[lys];omega)] at e6
 refine⟨_,rfl,(by show 1≤sizeLine;decide),fun t1 ht1=>⟨(by show 1≤sizeLine;decide),fun t2 ht2=>?_⟩⟩
 have s7:=(z01 ht1 (.tup [V.str z])).trans (z01 ht2 (.tup [V.ref t1]))
 have e7:upd (upd H6 t1 (.tup [V.str z])) t2 (.tup [V.ref t1]) t2=some (.tup [V.ref t1]):=z03
 have et1:=z01 ht2 (.tup [V.ref t1]) _ _ (show upd H6 t1 (.tup [V.str z]) t1=_ from z03)
 generalize upd (upd H6 t1 (.tup [V.str z])) t2 (.tup [V.ref t1])=H7 at s7 e7 et1
 refine⟨p1,t2,_,_,rfl,rfl,s7 _ _ e6,e7,?_,fun p3 H8 s8 e8=>?_⟩
 ·rw[bH]
  exact dQ (z0e (by show min (d-1) ys.length+1≤1000;omega))
 have s58:=s6.trans (s7.trans s8)
 refine⟨_,rfl,_,rfl,_,rfl,an,ys,rfl,s58 _ _ en5,fun p4 H9 s9 e9=>?_⟩
 rw[y50 (by rw[lys];omega)] at e9
 refine⟨p3,p4,_,_,rfl,rfl,s9 _ _ e8,e9,?_,fun p5 HA sA eA=>?_⟩
 ·rw[bG,bH,d6]
  exact dQ (z0e (by show min (d-1) ys.length+1+(ys.length-d)≤1000;omega))
 have s5A:=s58.trans (s9.trans sA)
 refine⟨_,rfl,_,rfl,(by show 2≤sizeLine;decide),fun tz htz=>?_⟩
 have sz:=s5A.trans (z01 htz (.tup [V.ref an,V.ref p5]))
 have tyz:=z08.keep sz _ _ t5
 refine k2 c d hdm topd (.ref tz) _ (s1.trans (c13.trans (s35.trans sz))) (z0r z03 (by show 2≤1000000;decide) (.cons (z0r (sz _ _ en5) ?_ tyz) (.cons (z0r (z01 htz _ _ _ eA) ?_ ?_) .nil)))
 ·rw[b7,<- b7 (f:=K4),<- tyz.length]
  omega
 ·rw[b7]
  unfold z6b z4V
  rw[bG,bG,bH,d6,b7,z11]
  show min (d-1) m+1+(m-d)≤1000000
  omega
 ·unfold z6b
  rw[bD,bD,List.map_take,List.map_drop]
  refine z08.append (z08.append (z08.take _ tyz) (.cons ?_ .nil)) (z08.drop _ tyz)
  exact z0r ((s8.trans (s9.trans (sA.trans (z01 htz _)))) _ _ et1) (by show 1≤1000000;decide) (.cons (z2w z) .nil)
theorem y7a{hs:List Int}{mx:Int}{m:Nat}(t:z4g hs m)(h60:∀x∈hs,1≤x/\x≤60)(hm:mx∈hs++[0])(top:∀y∈hs++[0],y≤mx):mx=(m:Int):=by
 have h0:=top 0 (c6 _ (b8.mpr rfl))
 rcases t.1 with q|⟨q,q0⟩
 ·have h1:=top _ (cR _ q)
  rcases bN.mp hm with h|h
  ·have:=t.2 mx h
   omega
  ·have:=h60 _ q
   rw[b8] at h
   omega
 ·subst q
  rw[List.nil_append,b8] at hm
  omega
def y1s(K:PySem.W.Frag):Sp:=fun vs H Q _=>∃(p lr:Addr) (hs:List Int) (us:List V) (rows:List Row) (r:Int) (m:Nat),vs=[.ref p,.ref lr,.int r]/\H p=some (.lst (hs.map V.int))/\(∀x∈hs,1≤x/\x≤60)/\hs.length≤900/\(∀x∈hs,x≤rows.length)/\
 SqL K H lr us/\z08 H (rows.map N1) us/\(∀w∈rows,w.length≤12)/\0≤r/\z4g hs m/\∀(l:Addr) (zs:List V) (H':Hp),H l=none->A3 H H'->H' l=some (.lst zs)->z08 H' ((z18 m hs rows r).map O0) zs->Q (.ref l) H'
theorem y3a(M:Bl mg)(F:Fun K "_law_known" "_law_known" z5u f fd)(C2:Cal P w K mg base 1 "_law_teller" z2A (z63 K)):A7 P w K mg base CX0 2 f fd z5t (y1s K):=by
 have nd:=z77.nd
 refine F.ok z77 (fun vs H Q E h=>?_) (fun cdv A outer s H vs Q E hr h=>?_)
 ·obtain⟨p,lr,hs,us,rows,r,m,rfl,_⟩:=h
  rfl
 obtain⟨p,lr,hs,us,rows,r,m,rfl,hP,B3,hlen,hup,hR,tl,h12,r0,it,q⟩:=h
 refine⟨_,(z04 (z0p (i:=3) nd rfl (Or.inl rfl) (z1i z02)) (z04 (z0P bQ rfl (z4G rfl M.range (z00 z06 (z00 (z0t z1g (z0b (z3E rfl) rfl M.max dI (z00 (z0t z94 (pv 0) (z1i (z00 z06 z02))) z02)) z06) z02))) (z0j (i:=4) nd rfl (Or.inl rfl)) (z05 (z0D (PW.pt (z3a (z0a z4p (pv 4) (pv 0) (by with_unfolding_all rfl)) (z1T (z0a z2k (z0i C2 (rm hr) rfl (z00 (pv 0) (z00 (pv 4) (z00 (pv 2) z02)))) z06 (z0m _))))) (z05 (z0C (z2N bR bV bX z0L (pv 3) (z00 (z0u z0o rfl M.tuple bI (z00 (z1e ["_law_row_here"] [] [] rfl (z0v rfl (by decide +kernel) rfl (by decide +kernel) rfl rfl) (z23 (z0z z0V (pv 1) (z0t z31 (pv 4) z06) (fun _ _=>rfl))) (fun _ _ _ _ _=>(z0j (i:=0) (show((["_law_row_here"]:List PySem.Str)++([]:List PySem.Str)).Nodup from by decide +kernel) rfl (Or.inl rfl))) (z0w (by decide)) z0h (fun _ _ _ _ _=>z2g) (fun _ _ _ _ _=>(z0z (r:=P4 K) z0A (pv 0) z06 (fun _ _=>rfl)))) z02)) z02)))) (z05 (z0C (z2N bR bV bX z0L (pv 3) (z00 z8P z02))))))) (z05 (z0f (pv 3))))),?_⟩
 refine⟨(by show 0≤sizeLine;decide),fun l hl=>?_⟩
 have s1:=z01 hl (.lst [])
 refine⟨_,rfl,(by show 1≤sizeLine;decide),fun l0 hl0=>⟨p,l0,_,_,rfl,rfl,z01 hl0 _ _ _ (s1 _ _ hP),z03,?_,fun lc hlc=>?_⟩⟩
 ·rw[b7]
  exact dQ (z0e (by show hs.length+1≤1000;omega))
 have s2:=s1.trans ((z01 hl0 (.lst [V.int 0])).trans (z01 hlc (.lst (hs.map V.int++[V.int 0]))))
 have eg:upd (upd (upd H l (.lst [])) l0 (.lst [V.int 0])) lc (.lst (hs.map V.int++[V.int 0])) l=some (.lst []):=(z01 hl0 _).trans (z01 hlc _) _ _ z03
 have ec:upd (upd (upd H l (.lst [])) l0 (.lst [V.int 0])) lc (.lst (hs.map V.int++[V.int 0])) lc=some (.lst ((hs++[0]).map V.int)):=by
  rw[z03,bD]
  rfl
 generalize upd (upd (upd H l (.lst [])) l0 (.lst [V.int 0])) lc (.lst (hs.map V.int++[V.int 0]))=H2 at s2 eg ec
 refine⟨lc,hs++[0],rfl,.inl (SqL.of ec),by simp,fun mx hmx top=>?_⟩
 have emx:=y7a it B3 hmx top
 subst emx
 have mr:(m:Int)≤rows.length:=it.le (by omega) hup
 have m60:m≤60:=by have:=it.le (k:=60) (by decide) fun x hx=>(B3 x hx).2;omega
 refine⟨_,_,rfl,rfl,1,(m:Int)+1,rfl,⟨by decide,by decide,by omega,by omega⟩,?_⟩
 have kat:∀i:Nat,i<m->(z18 m hs rows r)[i]? = some (z1y hs rows r (1+(i:Int))):=fun i hi=>by
  unfold z18
  rw[bB,show(upI 1 m)[i]? = some (1+(i:Int)) by unfold upI;rw[bB,gI hi];rfl]
  rfl
 refine z0U (lo:=1) (n:=((m:Int)+1-1).toNat) (fun i σ G=>∃(zs:List V) (o4:Option V),A3 H G/\G l=some (.lst zs)/\z08 G (((z18 m hs rows r).take i).map O0) zs/\σ=[some (.ref p),some (.ref lr),some (.int r),some (.ref l),o4]) ⟨[],none,s2,eg,by rw[cS];exact .nil,rfl⟩ (fun i σ G hi hp=>?_) (fun σ G hp=>?_)
 ·obtain⟨zs,o4,g,eG,tG,rfl⟩:=hp
  have him:i<m:=by omega
  have lz:zs.length≤i:=by
   rw[tG.length,b7,bH]
   omega
  refine⟨_,rfl,_,rfl,p,_,rfl,.inl (SqL.of (g _ _ hP)),rfl,z1X hs,_,rfl,?_⟩
  rw[if_neg bJ,z2y]
  have fin:∀{G1:Hp} (v:V),A3 G G1->A5 G1 (O0 (z1y hs rows r (1+(i:Int)))) v->A3 H (upd G1 l (.lst (zs++[v])))/\upd G1 l (.lst (zs++[v])) l=some (.lst (zs++[v]))/\z08 (upd G1 l (.lst (zs++[v]))) (((z18 m hs rows r).take (i+1)).map O0) (zs++[v]):=fun {G1} v s3 tv=>by
   refine⟨z1Z (g.trans s3) hl,z03,?_⟩
   rw[z0n (kat i him),bD]
   exact z08.over (s3 _ _ eG) y33 _ _ (z08.snoc (z08.keep s3 _ _ tG) tv)
  have sz:zs.length<sizeLine:=z0e (by omega)
  by_cases c:(1:Int)+(i:Int)∈hs
  ·rw[decide_eq_true c]
   have ek:z1y hs rows r (1+(i:Int))=some (z0S (z0y rows (1+(i:Int)))):=by
    unfold z1y
    rw[if_pos (.inl c)]
   rw[ek] at fin
   refine F4 ?_
   have s3:A3 G G:=A3.refl _
   obtain⟨v,_,av,tv⟩:=z5X (z08.keep (g.trans s3) _ _ tl) (k:=1+(i:Int)) (by omega) (by omega)
   obtain⟨ar,xs,rfl,er,_,tp⟩:=z0g tv
   have lw:xs.length=(z0y rows (1+(i:Int))).length:=by rw[tp.length,b7]
   have w12:=z8c h12 (1+(i:Int))
   refine⟨_,rfl,.inl ⟨rfl,_,SqL.of (s3 _ _ eG)⟩,_,rfl,_,rfl,_,_,rfl,rfl,lr,us,_,_,rfl,rfl,(g.trans s3).seq hR,av,ar,rfl,⟨_,SqT.of er⟩,?_⟩
   refine z1J (xs:=xs) (fun j ys H2=>H2=G/\ys=((z0S (z0y rows (1+(i:Int)))).take j).map V.str) ⟨rfl,rfl⟩ (fun j ys H2 hj hp=>?_) (fun j y ys H2 hy hp=>?_) (fun ys H2 hp=>?_)
   ·obtain⟨rfl,rfl⟩:=hp
    refine⟨SqT.of er,z0e ?_⟩
    rw[b7,bH]
    omega
   ·obtain⟨rfl,rfl⟩:=hp
    obtain⟨pq,b,e1,rfl,e2⟩:=z32 tp j y hy
    refine⟨_,rfl,b,_,0,_,rfl,rfl,SqT.of e2,rfl,rfl,?_⟩
    have e3:(z0S (z0y rows (1+(i:Int))))[j]? = some pq.1:=by
     unfold z0S
     rw[bB,e1]
     rfl
    rw[z0n e3,bD]
    rfl
   obtain⟨rfl,rfl⟩:=hp
   have ll:(z0S (z0y rows (1+(i:Int)))).take xs.length=z0S (z0y rows (1+(i:Int))):=cL (by unfold z0S;rw[b7];omega)
   rw[ll]
   intro D hD
   refine⟨D,_,rfl,.inl ⟨SqL.of z03,fun t ht=>?_⟩⟩
   have s4:=s3.trans ((z01 hD (.lst ((z0S (z0y rows (1+(i:Int)))).map V.str))).trans (z01 ht (.tup ((z0S (z0y rows (1+(i:Int)))).map V.str))))
   obtain⟨f1,f2,f3⟩:=fin (.ref t) s4 (z0r z03 (by unfold z0S;rw[b7,b7];omega) (z2v _))
   exact⟨l,zs,_,rfl,rfl,s4 _ _ eG,sz,_,_,f1,f2,f3,rfl⟩
  ·rw[decide_eq_false c]
   refine B1 ⟨_,rfl,_,rfl,_,rfl,p,hs,1+(i:Int),r,rfl,SqL.of (g _ _ hP),B3,hlen,r0,fun G3 s3=>⟨_,_,rfl,rfl,_,rfl,?_⟩⟩
   have t0:=z73 (ns:=hs) (n:=1+(i:Int)) (r:=r)
   by_cases c2:0<z0G hs (1+(i:Int)) r
   ·rw[decide_eq_true c2]
    have ek:z1y hs rows r (1+(i:Int))=some (z0S (z0y rows (1+(i:Int)))):=by
     unfold z1y
     rw[if_pos (.inr (by omega))]
    rw[ek] at fin
    refine F4 ?_
    obtain⟨v,_,av,tv⟩:=z5X (z08.keep (g.trans s3) _ _ tl) (k:=1+(i:Int)) (by omega) (by omega)
    obtain⟨ar,xs,rfl,er,_,tp⟩:=z0g tv
    have lw:xs.length=(z0y rows (1+(i:Int))).length:=by rw[tp.length,b7]
    have w12:=z8c h12 (1+(i:Int))
    refine⟨_,rfl,.inl ⟨rfl,_,SqL.of (s3 _ _ eG)⟩,_,rfl,_,rfl,_,_,rfl,rfl,lr,us,_,_,rfl,rfl,(g.trans s3).seq hR,av,ar,rfl,⟨_,SqT.of er⟩,?_⟩
    refine z1J (xs:=xs) (fun j ys H2=>H2=G3/\ys=((z0S (z0y rows (1+(i:Int)))).take j).map V.str) ⟨rfl,rfl⟩ (fun j ys H2 hj hp=>?_) (fun j y ys H2 hy hp=>?_) (fun ys H2 hp=>?_)
    ·obtain⟨rfl,rfl⟩:=hp
     refine⟨SqT.of er,z0e ?_⟩
     rw[b7,bH]
     omega
    ·obtain⟨rfl,rfl⟩:=hp
     obtain⟨pq,b,e1,rfl,e2⟩:=z32 tp j y hy
     refine⟨_,rfl,b,_,0,_,rfl,rfl,SqT.of e2,rfl,rfl,?_⟩
     have e3:(z0S (z0y rows (1+(i:Int))))[j]? = some pq.1:=by
      unfold z0S
      rw[bB,e1]
      rfl
     rw[z0n e3,bD]
     rfl
    obtain⟨rfl,rfl⟩:=hp
    have ll:(z0S (z0y rows (1+(i:Int)))).take xs.length=z0S (z0y rows (1+(i:Int))):=cL (by unfold z0S;rw[b7];omega)
    rw[ll]
    intro D hD
    refine⟨D,_,rfl,.inl ⟨SqL.of z03,fun t ht=>?_⟩⟩
    have s4:=s3.trans ((z01 hD (.lst ((z0S (z0y rows (1+(i:Int)))).map V.str))).trans (z01 ht (.tup ((z0S (z0y rows (1+(i:Int)))).map V.str))))
    obtain⟨f1,f2,f3⟩:=fin (.ref t) s4 (z0r z03 (by unfold z0S;rw[b7,b7];omega) (z2v _))
    exact⟨l,zs,_,rfl,rfl,s4 _ _ eG,sz,_,_,f1,f2,f3,rfl⟩
   ·rw[decide_eq_false c2]
    have ek:z1y hs rows r (1+(i:Int))=none:=by
     unfold z1y
     rw[if_neg (fun h=>h.elim c fun h=>h (by omega))]
    rw[ek] at fin
    obtain⟨f1,f2,f3⟩:=fin .non s3 z7u
    exact B1 ⟨_,rfl,.inl ⟨rfl,_,SqL.of (s3 _ _ eG)⟩,l,zs,_,rfl,rfl,s3 _ _ eG,sz,_,_,f1,f2,f3,rfl⟩
 ·obtain⟨zs,o4,g,eG,tG,rfl⟩:=hp
  rw[cL (by rw[z11];omega)] at tG
  exact⟨_,rfl,q l zs _ hl g eG tG⟩
def OkO(nm:List Str)(o:Option (List Str))(zs:List Str):Prop:=zs.Sublist nm/\∀ws,o=some ws->zs=ws
def y2i(nm:List Str)(ks:List (Option (List Str)))(c:List (List Str)):Prop:=c.length=ks.length/\∀(i:Nat) (o:Option (List Str)) (zs:List Str),ks[i]? = some o->c[i]? = some zs->OkO nm o zs
theorem y02{nm:List Str}(nd:nm.Nodup){i:Nat}(h:i<nm.length):nm.idxOf nm[i]=i:=by
 have h1:nm.idxOf nm[i]<nm.length:=fW (fX h)
 have h2:nm[nm.idxOf nm[i]]=nm[i]:=jM h1
 have pw:=fA.mp nd
 rcases Nat.lt_trichotomy (nm.idxOf nm[i]) i with c|c|c
 ·exact absurd h2 (pw _ _ h1 h c)
 ·exact c
 ·exact absurd h2.symm (pw _ _ h h1 c)
theorem y3p{nm zs:List Str}(nd:nm.Nodup)(hin:∀z∈zs,z∈nm):(zs.map fun z=>nm.idxOf z).Pairwise (· < ·)↔zs.Sublist nm:=by
 constructor
 ·intro h
  have e:zs=(zs.attach.map fun z=>(⟨nm.idxOf z.1,fW (hin z.1 z.2)⟩:Fin nm.length)).map fun i=>nm[i]:=by
   rw[dJ]
   refine(List.ext_getElem (by rw[b7,List.length_attach]) fun i h1 h2=>?_)
   rw[List.getElem_map,jH]
   exact(jM _).symm
  rw[e]
  refine List.map_getElem_sublist ?_
  rw[dG] at h ⊢
  rw[fA] at h ⊢
  intro i j hi hj hij
  rw[List.length_attach] at hi hj
  have:=h i j hi hj hij
  rw[jH,jH]
  exact this
 ·intro h
  obtain⟨is,rfl,hp⟩:=List.sublist_eq_map_getElem h
  rw[dJ,dG]
  refine hp.imp fun {a b} hab=>?_
  show nm.idxOf nm[a]<nm.idxOf nm[b]
  have ha:nm.idxOf nm[a]=a.1:=y02 nd a.2
  have hb:nm.idxOf nm[b]=b.1:=y02 nd b.2
  rw[ha,hb]
  exact hab
theorem y3h{nm:List Str}{z:Str}(h:z∈nm):nm[nm.idxOf z]? = some z/\∀m,m<nm.idxOf z->nm[m]? ≠ some z:=by
 have h1:=fW h
 refine⟨by rw[bC h1,jM h1],fun m hm e=>?_⟩
 have hm':m<nm.length:=by omega
 rw[bC hm'] at e
 have e':=Option.some.inj e
 have hf:(nm[m] == z)=false:=List.not_of_lt_findIdx (p:=(· == z)) (xs:=nm) hm
 rw[e',beq_self_eq_true] at hf
 cases hf
theorem y4q{ps:List Nat}{j:Nat}(h:(ps.take (j+1)).Pairwise (· < ·)){a b:Nat}(ha:ps[j]? = some a)(hb:ps[j+1]? = some b)(hab:a<b):(ps.take (j+1+1)).Pairwise (· < ·):=by
 rw[z0n hb]
 refine cT.mpr ⟨h,dY _ _,fun x hx y hy=>?_⟩
 rw[b8.mp hy]
 rw[z0n ha] at h hx
 rcases bN.mp hx with hx|hx
 ·have:=(cT.mp h).2.2 x hx a (b8.mpr rfl)
  omega
 ·rw[b8.mp hx]
  exact hab
theorem y20(a b:List Str):z30 (a.map V.str) (b.map V.str)=decide (a=b):=by
 induction a generalizing b with
 | nil=>
  cases b with
  | nil=>rfl
  | cons y b=>exact(decide_eq_false (fun e=>nomatch e)).symm
 | cons x a ih=>
  cases b with
  | nil=>exact(decide_eq_false (fun e=>nomatch e)).symm
  | cons y b=>
   show(x == y && z30 (a.map V.str) (b.map V.str))=decide (x::a=y::b)
   rw[ih,d7,bY,decide_eq_true_eq,decide_eq_true_eq,beq_iff_eq,List.cons.injEq]
def y1D(K:PySem.W.Frag):Sp:=fun vs H Q _=>∃(v:V) (ln lk:Addr) (c:List (List Str)) (nm:List Str) (ks:List (Option (List Str))) (xs:List V),vs=[v,.ref ln,.ref lk]/\A5 H (z9G c) v/\(∀zs∈c,zs.length≤100)/\SqL K H ln (nm.map V.str)/\nm.Nodup/\nm.length≤12/\SqL K H lk xs/\z08 H (ks.map O0) xs/\ks.length≤100/\
 (y2i nm ks c->∀H',A3 H H'->Q (.bl true) H')/\(¬y2i nm ks c->∀H',A3 H H'->Q (.bl false) H')
theorem z1b{H:Hp}:∀{l:List Str}{xs:List V},z08 H (l.map DV.str) xs->xs=l.map V.str
 | [],_,h=>z0E h
 | i::r,_,h=>by
  obtain⟨x,t,rfl,h1,h2⟩:=z0d h
  rw[z3h h1,z1b h2]
  rfl
theorem y2p(M:Bl mg)(F:Fun K "_law_course" "_law_course" z4j f fd):A7 P w K mg base CX0 1 f fd z4n (y1D K):=by
 have nd:=z5Q.nd
 refine F.ok z5Q (fun vs H Q E h=>?_) (fun cdv A outer s H vs Q E hr h=>?_)
 ·obtain⟨v,ln,lk,c,nm,ks,xs,rfl,_⟩:=h
  rfl
 obtain⟨v,ln,lk,c,nm,ks,xs,rfl,tc,c100,hN,ndn,n12,hK,tk,k100,qt,qf⟩:=h
 refine⟨_,(z04 (z0D (PW.pt (z3a (z2c (z24 (z0b z0J rfl M.isinstance bZ (z00 (pv 0) (z00 (z1S (v:=.ty "tuple") rfl M.tuple bI rfl) z02))))) (z1T (z0a z7l (z0b z09 rfl M.len bK (z00 (pv 0) z02)) (z0b z09 rfl M.len bK (z00 (pv 2) z02)) (z0m _))))) (z05 (z0f z1W)) z0l) (z04 (z0P bQ rfl (z0T rfl M.range (z00 (z0b z09 rfl M.len bK (z00 (pv 2) z02)) z02)) (z0j (i:=3) nd rfl (Or.inl rfl)) (z04 (z0D (z2c (z24 (z0b z0J rfl M.isinstance bZ (z00 (z0z z0A (pv 0) (pv 3) (fun _ _=>rfl)) (z00 (z1S (v:=.ty "tuple") rfl M.tuple bI rfl) z02))))) (z05 (z0f z1W)) z0l) (z04 (z0p (i:=4) nd rfl (Or.inl rfl) (z1i z02)) (z04 (z0P bQ rfl (z23 (z0z z0A (pv 0) (pv 3) (fun _ _=>rfl))) (z0j (i:=5) nd rfl (Or.inl rfl)) (z04 (z0D (PW.pt (z3a (z2c (z24 (z0b z0J rfl M.isinstance bZ (z00 (pv 5) (z00 (z1S (v:=.ty "str") rfl M.str j7 rfl) z02))))) (z1T (z0a z1q (pv 5) (pv 1) (by with_unfolding_all rfl))))) (z05 (z0f z1W)) z0l) (z05 (z0C (z2N bR bV bX z0L (pv 4) (z00 (z2N bR PySem.F.slot_list_index PySem.F.type_list_index y2P (pv 1) (z00 (pv 5) z02)) z02)))))) (z04 (z0P bQ rfl (z4G rfl M.range (z00 z06 (z00 (z0b z09 rfl M.len bK (z00 (pv 4) z02)) z02))) (z0j (i:=6) nd rfl (Or.inl rfl)) (z05 (z0D (z0a y3q (z0z z0V (pv 4) (z0t z31 (pv 6) z06) (fun _ _=>rfl)) (z0z z0V (pv 4) (pv 6) (fun _ _=>rfl)) (z0m _)) (z05 (z0f z1W)) z0l))) (z05 (z0D (PW.pt (z3c (z8r (y6r (z0z z0V (pv 2) (pv 3) (fun _ _=>rfl)))) (z2j (z0a (y7v hr.Q6) (z0z z0A (pv 0) (pv 3) (fun _ _=>rfl)) (z0z z0V (pv 2) (pv 3) (fun _ _=>rfl)) (z0m _))))) (z05 (z0f z1W)) z0l))))))) (z05 (z0f z1W)))),?_⟩
 obtain⟨a,us,rfl,ea,_,tu⟩:=z0g (show A5 H (.tup (c.map K4)) v from tc)
 have lus:us.length=c.length:=by rw[tu.length,b7]
 have lxs:xs.length=ks.length:=by rw[tk.length,b7]
 refine⟨_,rfl,_,_,_,_,rfl,.tup ea,z5C,_,rfl,B1 ⟨_,rfl,a,_,rfl,.inr (SqT.of ea),_,rfl,lk,_,rfl,.inl hK,rfl,_,rfl,?_⟩⟩
 by_cases cl:c.length=ks.length
 case neg=>
  rw[decide_eq_false (fun e=>cl (by injection e with e;omega))]
  exact F4 (qf (fun h=>cl h.1) H (A3.refl _))
 rw[decide_eq_true (by rw[lus,lxs,cl])]
 refine B1 ?_
 refine⟨_,rfl,lk,xs,rfl,.inl hK,_,rfl,by omega,by omega,?_⟩
 refine z0U (lo:=0) (n:=((xs.length:Nat):Int).toNat) (fun i σ G=>∃(o3 o4 o5 o6:Option V),A3 H G/\(∀(j:Nat) (o:Option (List Str)) (zs:List Str),j<i->ks[j]? = some o->c[j]? = some zs->OkO nm o zs)/\σ=[some (.ref a),some (.ref ln),some (.ref lk),o3,o4,o5,o6]) ⟨_,_,_,_,A3.refl _,fun _ _ _ h=>absurd h (gK _),rfl⟩ (fun i σ G hi hp=>?_) (fun σ G hp=>?_)
 ·obtain⟨o3,o4,o5,o6,g,done,rfl⟩:=hp
  have hic:i<c.length:=by omega
  have hik:i<ks.length:=by omega
  have ei:(0:Int)+(i:Int)=(i:Int):=eU _
  have eci:c[i]? = some c[i]:=bC hic
  have eki:ks[i]? = some ks[i]:=bC hik
  have w0H:=c100 c[i] (fX hic)
  generalize c[i]=zs at eci w0H
  generalize ks[i]=o at eki
  obtain⟨u,eu,tu1⟩:=tu.get i (K4 zs) (by rw[bB,eci];rfl)
  obtain⟨b,ws,rfl,eb,_,tb⟩:=z0g (show A5 H (.tup (zs.map DV.str)) u from tu1)
  have ews:=z1b tb
  subst ews
  obtain⟨x,ex,tx⟩:=tk.get i (O0 o) (by rw[bB,eki];rfl)
  have atu:atI us ((0:Int)+(i:Int))=some (.ref b):=by rw[ei];exact z0K eu
  have atx:atI xs ((0:Int)+(i:Int))=some x:=by rw[ei];exact z0K ex
  have bad:¬OkO nm o zs->¬y2i nm ks c:=fun h q=>h (q.2 i o zs eki eci)
  refine⟨_,rfl,_,rfl,a,_,_,_,rfl,rfl,SqT.of (g _ _ ea),atu,_,_,_,_,rfl,.tup (g _ _ eb),z5C,_,rfl,B1 ?_⟩
  refine⟨(by show 0≤sizeLine;decide),fun lp hlp=>?_⟩
  have s1:=g.trans (z01 hlp (.lst []))
  have e1:upd G lp (.lst []) lp=some (.lst []):=z03
  have nlp:H lp=none:=g.free hlp
  generalize upd G lp (.lst [])=G1 at s1 e1
  refine⟨_,rfl,_,rfl,a,_,_,_,rfl,rfl,SqT.of (s1 _ _ ea),atu,b,rfl,⟨_,SqT.of (s1 _ _ eb)⟩,z4A (K:=K) (a:=b) (xs:=zs.map V.str) (fun j σ G2=>∃(o5:Option V),A3 H G2/\(∀z∈zs.take j,z∈nm)/\G2 lp=some (.lst ((zs.take j).map fun z=>V.int (nm.idxOf z:Nat)))/\σ=[some (.ref a),some (.ref ln),some (.ref lk),some (.int (0+(i:Int))),some (.ref lp),o5,o6]) ⟨_,s1,(fun z hz=>by rw[cS] at hz;cases hz),by rw[cS];exact e1,rfl⟩ (fun j σ G2 _ ⟨_,g2,_⟩=>SqT.of (g2 _ _ eb)) ?_ ?_⟩
  ·rintro j y σ G2 hy ⟨o5,g2,hin,ep,rfl⟩
   rw[bB] at hy
   obtain⟨z,ez,rfl⟩:=cG.mp hy
   refine⟨_,rfl,_,_,_,_,rfl,z4x rfl,z3K "str" (.inr (.inr (.inr rfl))) rfl,_,rfl,B1 ⟨_,rfl,_,rfl,ln,_,rfl,.inl (g2.seq hN),rfl,z1E nm,_,rfl,?_⟩⟩
   rw[if_pos rfl,z9f]
   by_cases hz:z∈nm
   ·rw[decide_eq_true hz]
    obtain⟨f1,f2⟩:=y3h hz
    refine B1 ⟨_,rfl,.inl ⟨rfl,_,SqL.of ep⟩,_,rfl,.inl ⟨rfl,_,g2.seq hN⟩,_,rfl,ln,nm,z,nm.idxOf z,rfl,rfl,g2.seq hN,f1,f2,lp,_,_,rfl,rfl,ep,z0e (by rw[b7,bH];omega),?_⟩
    refine⟨_,z1Z g2 nlp,fun z' hz'=>?_,?_,rfl⟩
    ·rw[z0n ez] at hz'
     rcases bN.mp hz' with h|h
     ·exact hin z' h
     ·rw[b8.mp h]
      exact hz
    ·rw[z03,z0n ez,bD]
     rfl
   ·rw[decide_eq_false hz]
    exact F4 (qf (bad fun h=>hz (h.1.subset (bO ez))) _ g2)
  rintro σ G2 ⟨o5,g2,hin,ep,rfl⟩
  rw[b7,bT] at hin ep
  have lps:(zs.map fun z=>V.int (nm.idxOf z:Nat)).length=zs.length:=b7 _
  have pat:∀(j:Nat) (hj:j<zs.length),atI (zs.map fun z=>V.int (nm.idxOf z:Nat)) (j:Int)=some (V.int (nm.idxOf zs[j]:Nat)):=fun j hj=>z0K (by rw[bB,bC hj];rfl)
  have ipt:∀(j:Nat) (hj:j<zs.length),(zs.map fun z=>nm.idxOf z)[j]? = some (nm.idxOf zs[j]):=fun j hj=>by rw[bB,bC hj];rfl
  refine⟨_,rfl,lp,_,rfl,.inl (SqL.of ep),1,_,rfl,⟨by decide,by decide,by omega,by omega⟩,?_⟩
  refine z0U (lo:=1) (n:=((((zs.map fun z=>V.int (nm.idxOf z:Nat)).length:Nat):Int)-1).toNat) (fun j σ G3=>∃(o6:Option V),G3=G2/\((zs.map fun z=>nm.idxOf z).take (j+1)).Pairwise (· < ·)/\σ=[some (.ref a),some (.ref ln),some (.ref lk),some (.int (0+(i:Int))),some (.ref lp),o5,o6]) ⟨_,rfl,?_,rfl⟩ (fun j σ G3 hj hp=>?_) (fun σ G3 hp=>?_)
  ·cases zs with
   | nil=>exact .nil
   | cons z r=>exact dY _ _
  ·obtain⟨o6',rfl,pw,rfl⟩:=hp
   have hj1:j+1<zs.length:=by rw[lps] at hj;omega
   have e1:(1:Int)+(j:Int)-1=((j:Nat):Int):=by omega
   have e2:(1:Int)+(j:Int)=((j+1:Nat):Int):=by omega
   refine⟨_,rfl,_,rfl,_,_,rfl,rfl,lp,_,_,_,rfl,rfl,SqL.of ep,(by rw[e1];exact pat j (by omega)),_,rfl,_,rfl,lp,_,_,_,rfl,rfl,SqL.of ep,(by rw[e2];exact pat (j+1) hj1),_,_,rfl,rfl,_,rfl,?_⟩
   by_cases hlt:nm.idxOf zs[j]<nm.idxOf zs[j+1]
   ·rw[decide_eq_false (by omega)]
    exact B1 ⟨_,rfl,y4q pw (ipt j (by omega)) (ipt (j+1) hj1) hlt,rfl⟩
   ·rw[decide_eq_true (by omega)]
    refine F4 (qf (bad fun h=>hlt ?_) _ g2)
    have:=(y3p ndn hin).mpr h.1
    rw[dG,fA] at this
    exact this j (j+1) (by omega) hj1 (by omega)
  obtain⟨o6',rfl,pw,rfl⟩:=hp
  have sub:zs.Sublist nm:=by
   refine(y3p ndn hin).mp ?_
   rw[cL (by rw[b7];rw[lps];omega)] at pw
   exact pw
  have more:OkO nm o zs->∀(j:Nat) (o:Option (List Str)) (zs:List Str),j<i+1->ks[j]? = some o->c[j]? = some zs->OkO nm o zs:=fun h j o' zs' hj h1 h2=>by
   by_cases e:j=i
   ·subst e
    rw[eki] at h1
    rw[eci] at h2
    cases h1
    cases h2
    exact h
   ·exact done j o' zs' (by omega) h1 h2
  refine⟨_,rfl,_,rfl,lk,_,_,_,rfl,rfl,g2.seq hK,atx,?_⟩
  cases o with
  | none=>
   have ex':x=.non:=by
    unfold O0 A5 at tx
    exact tx
   subst ex'
   exact⟨_,rfl,B1 (B1 ⟨_,_,_,_,g2,more ⟨sub,fun _ h=>by cases h⟩,rfl⟩)⟩
  | some ws=>
   obtain⟨b2,vs2,rfl,eb2,_,tb2⟩:=z0g (show A5 H (.tup (ws.map DV.str)) x from tx)
   have ews:=z1b tb2
   subst ews
   refine⟨_,rfl,F4 ⟨_,rfl,_,rfl,a,_,_,_,rfl,rfl,SqT.of (g2 _ _ ea),atu,_,rfl,_,rfl,lk,_,_,_,rfl,rfl,g2.seq hK,atx,b,b2,_,_,rfl,rfl,SqT.of (g2 _ _ eb),SqT.of (g2 _ _ eb2),z1E zs,z1E ws,_,rfl,?_⟩⟩
   by_cases e:zs=ws
   ·subst e
    rw[z6E (z1E zs)]
    exact B1 ⟨_,_,_,_,g2,more ⟨sub,fun _ h=>by cases h;rfl⟩,rfl⟩
   ·rw[y20,decide_eq_false e]
    exact F4 (qf (bad fun h=>e (h.2 ws rfl)) _ g2)
 ·obtain⟨o3,o4,o5,o6,g,done,rfl⟩:=hp
  refine qt ⟨cl,fun i o zs h1 h2=>done i o zs ?_ h1 h2⟩ _ g
  have:=(bW.mp h1).1
  omega
theorem y6E{nm:List Str}{rows:List Row}(R:Rws nm rows)(n:Int):(z0S (z0y rows n)).Sublist nm:=by
 unfold z0y z0S
 rw[bL]
 cases e:rows[(n-1).toNat]? with
 | none=>exact jW _
 | some w=>exact R.sub w (bO e)
theorem z9l{m:Nat}{hs:List Int}{rows:List Row}{r:Int}{i:Nat}{o:Option (List Str)}(h:(z18 m hs rows r)[i]? = some o):i<m/\o=z1y hs rows r (1+(i:Int)):=by
 have hi:=(bW.mp h).1
 rw[z11] at hi
 refine⟨hi,?_⟩
 unfold z18 at h
 rw[bB,show(upI 1 m)[i]? = some (1+(i:Int)) by unfold upI;rw[bB,gI hi];rfl] at h
 exact(Option.some.inj h).symm
theorem z85{hs:List Int}{rows:List Row}{r n:Int}{ws:List Str}(h:z1y hs rows r n=some ws):ws=z0S (z0y rows n)/\(n∈hs\/z0G hs n r≠0):=by
 unfold z1y at h
 split at h
 ·rename_i c
  exact⟨(Option.some.inj h).symm,c⟩
 ·cases h
theorem z9i(m:Nat)(hs:List Int)(rows:List Row)(r:Int):(z4V (z18 m hs rows r)).length=m:=by
 unfold z4V
 rw[b7,z11]
theorem y4x{ks:List (Option (List Str))}{i:Nat}{zs:List Str}(h:(z4V ks)[i]? = some zs):∃o,ks[i]? = some o/\zs=o.getD []:=by
 unfold z4V at h
 rw[bB] at h
 obtain⟨o,e,h⟩:=cG.mp h
 exact⟨o,e,h.symm⟩
theorem y0w{nm:List Str}{rows:List Row}(R:Rws nm rows)(m:Nat)(hs:List Int)(r:Int):y2i nm (z18 m hs rows r) (z4V (z18 m hs rows r)):=by
 refine⟨by rw[z9i,z11],fun i o zs h1 h2=>?_⟩
 obtain⟨o',e,rfl⟩:=y4x h2
 rw[h1] at e
 cases e
 obtain⟨_,eo⟩:=z9l h1
 cases o with
 | none=>exact⟨jW _,fun _ h=>by cases h⟩
 | some ws=>
  refine⟨?_,fun _ h=>by cases h;rfl⟩
  rw[show(some ws).getD []=ws from rfl,(z85 eo.symm).1]
  exact y6E R _
theorem y1v{c:List (List Str)}{d:Nat}{z:Str}(h1:1≤d)(h2:d≤c.length)(i:Nat):(z6b c d z)[i]? = if i=d-1 then some [z] else c[i]? := by
 have hl:(c.take (d-1)).length=d-1:=by rw[bH];omega
 unfold z6b
 by_cases hi:i<d-1
 ·rw[if_neg (by omega),dF (by rw[bG,hl];show i<d-1+1;omega),dF (by omega),List.getElem?_take_of_lt hi]
 ·by_cases he:i=d-1
  ·rw[if_pos he,dF (by rw[bG,hl];show i<d-1+1;omega),eB (by omega),hl,he,Nat.sub_self]
   rfl
  ·rw[if_neg he,eB (by rw[bG,hl];show d-1+1≤i;omega),bG,hl,List.getElem?_drop]
   congr 1
   show d+(i-(d-1+1))=i
   omega
theorem y0l{c:List (List Str)}{d:Nat}{z:Str}(h1:1≤d)(h2:d≤c.length):(z6b c d z).length=c.length:=by
 unfold z6b
 rw[bG,bG,bH,d6]
 show min (d-1) c.length+1+(c.length-d)=c.length
 omega
theorem y21{nm:List Str}{rows:List Row}(R:Rws nm rows){m:Nat}{hs:List Int}{r:Int}{d:Nat}{z:Str}(hz:z∈nm)(d1:1≤d)(dm:d≤m)(hd:(d:Int)∈z1Q hs r):y2i nm (z18 m hs rows r) (z6b (z4V (z18 m hs rows r)) d z):=by
 have hb:=z9i m hs rows r
 refine⟨by rw[y0l d1 (by omega),hb,z11],fun i o zs h1 h2=>?_⟩
 rw[y1v d1 (by omega)] at h2
 split at h2
 ·rename_i e
  cases h2
  obtain⟨_,eo⟩:=z9l h1
  have en:(1:Int)+(i:Int)=(d:Int):=by omega
  rw[en] at eo
  obtain⟨q1,q2⟩:=z4t.mp hd
  have:z1y hs rows r d=none:=by
   unfold z1y
   rw[if_neg (fun h=>h.elim (z0N.mp q1).2.1 fun h=>h q2)]
  rw[this] at eo
  subst eo
  exact⟨List.singleton_sublist.mpr hz,fun _ h=>by cases h⟩
 ·exact(y0w R m hs r).2 i o zs h1 h2
def InC(c:List (List Str))(num:Int)(z:Str):Prop:=∃(i:Nat) (zs:List Str),c[i]? = some zs/\num<(i:Int)+1/\z∈zs
theorem y4X{c:List (List Str)}{d:Nat}{z:Str}{num:Int}(h1:1≤d)(h2:d≤c.length)(h:num<(d:Int)):InC (z6b c d z) num z:=⟨d-1,[z],by rw[y1v h1 h2,if_pos rfl],by omega,b8.mpr rfl⟩
theorem y5l{hs:List Int}{rows:List Row}{r:Int}{m:Nat}{z:Str}(rise:hs.Pairwise (· < ·))(h60:∀x∈hs,1≤x/\x≤60)(it:z4g hs m)(ns:z0Y hs rows r (z1A (z0W hs rows z)) z≠"stale"):¬InC (z4V (z18 m hs rows r)) (z1A (z0W hs rows z)) z:=by
 rintro⟨i,zs,h1,h2,h3⟩
 obtain⟨o,e,rfl⟩:=y4x h1
 obtain⟨hi,eo⟩:=z9l e
 cases o with
 | none=>cases h3
 | some ws=>
  obtain⟨rfl,c⟩:=z85 eo.symm
  have h3':z∈z0S (z0y rows (1+(i:Int))):=h3
  obtain⟨v,ev⟩:=y5c h3'
  by_cases hin:(1:Int)+(i:Int)∈hs
  ·rcases y2E (rows:=rows) (z:=z) hs rise with ⟨_,q⟩|⟨n,u,q1,q2,q3,q4⟩
   ·rw[q _ hin] at ev
    cases ev
   ·rw[q1] at h2
    have h2':n<(i:Int)+1:=h2
    rw[q4 _ hin (by omega)] at ev
    cases ev
  ·have ct:=c.resolve_left hin
   refine ns ?_
   unfold z0Y
   rw[if_pos]
   refine jE.mpr (List.ne_nil_of_mem (a:=1+(i:Int)) ?_)
   unfold z4H
   rw[cI,bY,decide_eq_true_eq,decide_eq_true_eq]
   refine⟨z0N.mpr ?_,by omega,?_⟩
   ·rcases it.1 with q|⟨q,q0⟩
    ·have:=h60 _ q
     refine⟨by omega,hin,m,q,?_⟩
     have:(1:Int)+(i:Int)≠m:=fun e=>hin (e ▸ q)
     omega
    ·omega
   ·unfold z2m
    rw[if_neg ct]
    exact h3'
def y76(K:PySem.W.Frag):Sp:=fun vs H Q _=>∃(v:V) (c:List (List Str)) (num:Int) (z:Str),vs=[v,.int num,.str z]/\A5 H (z9G c) v/\c.length≤1000/\(InC c num z->Q (.bl true) H)/\(¬InC c num z->Q (.bl false) H)
theorem y0v(M:Bl mg)(F:Fun K "_law_in_course" "_law_in_course" z2X f fd):A7 P w K mg base CX0 1 f fd z34 (y76 K):=by
 have nd:=z4f.nd
 refine F.ok z4f (fun vs H Q E h=>?_) (fun cdv A outer s H vs Q E hr h=>?_)
 ·obtain⟨v,c,num,z,rfl,_⟩:=h
  rfl
 obtain⟨v,c,num,z,rfl,tc,c1000,qt,qf⟩:=h
 refine⟨_,(z04 (z0P bQ rfl (z0T rfl M.range (z00 (z0b z09 rfl M.len bK (z00 (pv 0) z02)) z02)) (z0j (i:=3) nd rfl (Or.inl rfl)) (z05 (z0D (PW.pt (z3c (z0a z2k (z0t z1g (pv 3) z06) (pv 1) (z0m _)) (z2j (z0a z4p (pv 2) (z0z z0A (pv 0) (pv 3) (fun _ _=>rfl)) (by with_unfolding_all rfl))))) (z05 (z0f z1W)) z0l))) (z05 (z0f z1W))),?_⟩
 obtain⟨a,us,rfl,ea,_,tu⟩:=z0g (show A5 H (.tup (c.map K4)) v from tc)
 have lus:us.length=c.length:=by rw[tu.length,b7]
 refine⟨_,rfl,a,us,rfl,.inr (SqT.of ea),_,rfl,by omega,by omega,?_⟩
 refine z0U (lo:=0) (n:=((us.length:Nat):Int).toNat) (fun i σ G=>∃(o3:Option V),G=H/\(∀(j:Nat) (zs:List Str),j<i->c[j]? = some zs->num<(j:Int)+1->z∉zs)/\σ=[some (.ref a),some (.int num),some (.str z),o3]) ⟨_,rfl,fun _ _ h=>absurd h (gK _),rfl⟩ (fun i σ G hi hp=>?_) (fun σ G hp=>?_)
 ·obtain⟨o3,rfl,done,rfl⟩:=hp
  have hic:i<c.length:=by omega
  have ei:(0:Int)+(i:Int)=(i:Int):=eU _
  have eci:c[i]? = some c[i]:=bC hic
  generalize c[i]=zs at eci
  obtain⟨u,eu,tu1⟩:=tu.get i (K4 zs) (by rw[bB,eci];rfl)
  obtain⟨b,ws,rfl,eb,_,tb⟩:=z0g (show A5 G (.tup (zs.map DV.str)) u from tu1)
  have ews:=z1b tb
  subst ews
  have atu:atI us ((0:Int)+(i:Int))=some (.ref b):=by rw[ei];exact z0K eu
  have more:(num<(i:Int)+1->z∉zs)->∀(j:Nat) (zs:List Str),j<i+1->c[j]? = some zs->num<(j:Int)+1->z∉zs:=fun h j zs' hj h1 h2=>by
   by_cases e:j=i
   ·subst e
    rw[eci] at h1
    cases h1
    exact h h2
   ·exact done j zs' (by omega) h1 h2
  refine⟨_,rfl,_,_,rfl,rfl,_,rfl,_,_,rfl,rfl,_,rfl,?_⟩
  by_cases c1:num<(i:Int)+1
  ·rw[decide_eq_true (show num<0+(i:Int)+1 by omega)]
   refine F4 ⟨_,rfl,_,rfl,_,rfl,a,_,_,_,rfl,rfl,SqT.of ea,atu,b,_,rfl,.inr (SqT.of eb),rfl,z1E zs,_,rfl,?_⟩
   rw[if_neg bJ,z9f]
   by_cases c2:z∈zs
   ·rw[decide_eq_true c2]
    exact F4 (qt ⟨i,zs,eci,c1,c2⟩)
   ·rw[decide_eq_false c2]
    exact B1 ⟨_,rfl,more fun _=>c2,rfl⟩
  ·rw[decide_eq_false (show ¬num<0+(i:Int)+1 by omega)]
   exact B1 (B1 ⟨_,rfl,more fun h=>absurd h c1,rfl⟩)
 ·obtain⟨o3,rfl,done,rfl⟩:=hp
  refine qf fun⟨i,zs,h1,h2,h3⟩=>done i zs ?_ h1 h2 h3
  have:=(bW.mp h1).1
  omega
theorem y5n(o:Option (Int×Int)):(z9K o).deep≤1:=by
 cases o with
 | none=>
  refine z1L fun d hd=>?_
  rcases bA.mp hd with rfl|hd
  ·exact z28 _ _
  ·rw[b8.mp hd]
   unfold DV.deep
   exact cV _
 | some p=>
  refine z1L fun d hd=>?_
  rcases bA.mp hd with rfl|hd
  ·exact z28 _ _
  ·rw[b8.mp hd]
   exact z28 _ _
def z93(K:PySem.W.Frag)(Sh:ShP):Sp:=fun vs H Q _=>∃(x ln lk lg:Addr) (z:Str) (vh:V) (fp:List Addr) (nm:List Str) (r:Int) (rows:List Row) (had:List Int) (m:Nat) (kz gz:List V),vs=[.ref x,.ref ln,.str z,.ref lk,.ref lg,vh]/\
 Sh H x fp nm r (fun n=>z10 rows n r) had/\z∈nm/\D6 nm/\Rws nm rows/\rows.length≤60/\(∀n∈had,1≤n/\n≤rows.length)/\0≤r/\r≤10/\z4g had m/\
 SqL K H ln (nm.map V.str)/\H lk=some (.lst kz)/\z08 H ((z18 m (z0c had) rows r).map O0) kz/\H lg=some (.lst gz)/\z08 H (z39 (z0c had) rows r) gz/\A5 H (z9K (z0W (z0c had) rows z)) vh/\∀H',A3 H H'->Q (.bl true) H'
theorem y0T(M:Bl mg)(F:Fun K "_law_name_told" "_law_name_told" z2Q f fd){Sh:ShP}(O:∀{H H' p fp zs r iss had},Sh H p fp zs r iss had->A3 H H'->Sh H' p fp zs r iss had)(D5:Cal P w K mg base 5 "_law_same" z25 (z8O 5))
  (C7:Cal P w K mg base 2 "_law_state" z37 (z9L K)) (E4:Cal P w K mg base 1 "_law_again" z3Q (y0V K)) (J0:Cal P w K mg base 1 "_law_course" z4n (y1D K)) (E2:Cal P w K mg base 1 "_law_in_course" z34 (y76 K))
  (B8:Cal P w K mg base 8 "held_for" z2U (z3C Sh)) (F8:Cal P w K mg base 8 "set_again" z4T (z6l Sh)) (C3:Cal P w K mg base 8 "state_of" z3F (z4y Sh)) (L6:Cal P w K mg base 8 "two_courses" z4K (y7m Sh)):A7 P w K mg base CX0 11 f fd z35 (z93 K Sh):=by
 have nd:=z4d.nd
 refine F.ok z4d (fun vs H Q E h=>?_) (fun cdv A outer s H vs Q E hr h=>?_)
 ·obtain⟨x,ln,lk,lg,z,vh,fp,nm,r,rows,had,m,kz,gz,rfl,_⟩:=h
  rfl
 obtain⟨x,ln,lk,lg,z,vh,fp,nm,r,rows,had,m,kz,gz,rfl,sh,hz,gn,R,r60,P1,r0,r10,it,hN,eK,tK,eG,tG,tH,q⟩:=h
 refine⟨_,(z04 (z0p (i:=6) nd rfl (Or.inl rfl) (z0i C7 (rm hr) rfl (z00 (pv 4) (z00 (z0z z0A (pv 5) z06 (fun _ _=>rfl)) (z00 (pv 2) z02))))) (z04 (z0p (i:=7) nd rfl (Or.inl rfl) (z0i E4 (rm hr) rfl (z00 (pv 4) (z00 (z0z z0A (pv 5) z06 (fun _ _=>rfl)) (z00 (pv 2) z02))))) (z04 (z0D (z2c (z24 (z0i D5 (rm hr) rfl (z00 (z0Q (z00 (z0i B8 (rm hr) rfl (z00 (pv 0) (z00 (pv 2) z02))) (z00 (z0i F8 (rm hr) rfl (z00 (pv 0) (z00 (pv 2) z02))) z02))) (z00 (z0Q (z00 (pv 5) (z00 (pv 7) z02))) z02))))) (z05 (z0f z1W)) z0l) (z04 (z0D (z2c (z24 (z0i D5 (rm hr) rfl (z00 (z0i C3 (rm hr) rfl (z00 (pv 0) (z00 (pv 2) z02))) (z00 (pv 6) z02))))) (z05 (z0f z1W)) z0l) (z04 (z0p (i:=8) nd rfl (Or.inl rfl) (z0i L6 (rm hr) rfl (z00 (pv 0) (z00 (pv 2) z02)))) (z04 (z0D (z0a z7l (pv 6) z58 (z0m _)) (z05 (z0f (y3r (z8R (pv 8))))) z0l) (z04 (z0D (PW.pt (z3a (z2c (z24 (z0b z0J rfl M.isinstance bZ (z00 (pv 8) (z00 (z1S (v:=.ty "tuple") rfl M.tuple bI rfl) z02))))) (z1T (z0a z7l (z0b z09 rfl M.len bK (z00 (pv 8) z02)) z06 (z0m _))))) (z05 (z0f z1W)) z0l) (z04 (z0D (PW.pt (z3a (z2c (z24 (z0i J0 (rm hr) rfl (z00 (z0z z0A (pv 8) z06 (fun _ _=>rfl)) (z00 (pv 1) (z00 (pv 3) z02)))))) (z1T (z2c (z24 (z0i J0 (rm hr) rfl (z00 (z0z z0A (pv 8) z06 (fun _ _=>rfl)) (z00 (pv 1) (z00 (pv 3) z02))))))))) (z05 (z0f z1W)) z0l) (z05 (z0f (y5W (y63 (z0i E2 (rm hr) rfl (z00 (z0z z0A (pv 8) z06 (fun _ _=>rfl)) (z00 (z0z z0A (pv 5) z06 (fun _ _=>rfl)) (z00 (pv 2) z02))))) (y5S (z0i E2 (rm hr) rfl (z00 (z0z z0A (pv 8) z06 (fun _ _=>rfl)) (z00 (z0z z0A (pv 5) z06 (fun _ _=>rfl)) (z00 (pv 2) z02)))))))))))))))),?_⟩
 obtain⟨ah,yh,rfl,eah,_⟩:=z3S tH
 refine⟨_,rfl,_,rfl,ah,_,0,_,rfl,rfl,SqT.of eah,rfl,_,rfl,lg,gz,z0c had,rows,r,_,z,rfl,SqL.of eG,tG,fun G1 g1=>?_⟩
 refine⟨_,rfl,_,rfl,ah,_,0,_,rfl,rfl,SqT.of (g1 _ _ eah),rfl,_,rfl,lg,gz,z0c had,rows,r,_,z,rfl,SqL.of (g1 _ _ eG),z08.keep g1 _ _ tG,fun va G2 g2 ta=>?_⟩
 have c2:=g1.trans g2
 refine⟨_,rfl,_,rfl,x,z,fp,nm,r,rows,had,rfl,O sh c2,hz,gn,R,fun v1 G3 g3 t1=>?_⟩
 have c3:=c2.trans g3
 refine⟨_,rfl,_,rfl,x,z,fp,nm,r,rows,had,rfl,O sh c3,hz,gn,R,r60,P1,r0,r10,fun v2 G4 g4 t2=>?_⟩
 refine⟨le2,fun p1 hp1=>⟨_,rfl,_,rfl,le2,fun p2 hp2=>?_⟩⟩
 have sp1:=z01 hp1 (.tup [v1,v2])
 have sp2:=z01 hp2 (.tup [V.ref ah,va])
 have sp:=sp1.trans sp2
 have dst:∀d∈[z9K (z0W (z0c had) rows z),y1Q (z0c had) rows r (z1A (z0W (z0c had) rows z)) z],d.deep≤2:=fun d hd=>by
  rcases bA.mp hd with rfl|hd
  ·exact cM (y5n _) (by decide)
  ·rw[b8.mp hd]
   refine z1L fun d hd=>?_
   obtain⟨n,_,rfl⟩:=cO.mp hd
   refine z1L fun d hd=>?_
   rcases bA.mp hd with rfl|hd
   ·exact z28 _ _
   ·rw[b8.mp hd]
    exact z28 _ _
 refine⟨.ref p1,.ref p2,rfl,(z4S (.tup [z9K (z0W (z0c had) rows z),y1Q (z0c had) rows r (z1A (z0W (z0c had) rows z)) z]) _ _ (z0r (sp2 _ _ z03) (by show 2≤1000000;decide) (.cons (A5.keep (g4.trans sp) _ _ t1) (.cons (A5.keep sp _ _ t2) .nil))) (z0r z03 (by show 2≤1000000;decide) (.cons (A5.keep (c3.trans (g4.trans sp)) _ _ tH) (.cons (A5.keep (g3.trans (g4.trans sp)) _ _ ta) .nil)))).mono (cM (z1L dst) (by decide)),fun G5 g5=>⟨_,rfl,B1 ?_⟩⟩
 have c5:=c3.trans (g4.trans (sp.trans g5))
 refine⟨_,rfl,_,rfl,x,z,fp,nm,r,rows,had,rfl,O sh c5,hz,gn,R,r60,P1,r0,r10,fun G6 g6=>?_⟩
 refine⟨_,rfl,_,_,rfl,.inl ⟨rfl,rfl⟩,fun G7 g7=>⟨_,rfl,B1 ?_⟩⟩
 have c7:=c5.trans (g6.trans g7)
 refine⟨_,rfl,_,rfl,x,z,fp,nm,r,rows,had,m,rfl,O sh c7,hz,gn,R,r60,P1,r0,r10,it,fun hno G8 g8=>?_,fun hop d hd hdt v G8 g8 tv2=>?_⟩
 ·refine⟨_,rfl,rfl,_,rfl,?_⟩
  rw[decide_eq_false (fun e=>hno (V.str.inj e))]
  refine F4 ⟨_,rfl,?_⟩
  exact q _ (c7.trans g8)
 ·refine⟨_,rfl,rfl,_,rfl,?_⟩
  rw[decide_eq_true (congrArg V.str hop)]
  have c8:=c7.trans g8
  obtain⟨af,fs2,rfl,eaf,_,tf⟩:=z0g tv2
  obtain⟨y1,q1,rfl,t1',tf⟩:=z0d tf
  obtain⟨y2,q2,rfl,t2',tf⟩:=z0d tf
  have:=z0E tf
  subst this
  refine B1 ⟨_,rfl,_,_,_,_,rfl,.tup eaf,z5C,_,rfl,B1 ⟨_,rfl,af,_,rfl,.inr (SqT.of eaf),rfl,_,rfl,B1 ?_⟩⟩
  have h60:∀n∈had,1≤n/\n≤60:=fun n hn=>by have:=P1 n hn;omega
  have memr:∀n,n∈z0c had↔n∈had:=fun n=>y05 (fun _=>Iff.rfl) h60 n
  have Z7:∀n∈z0c had,1≤n/\n≤60:=fun n hn=>h60 n ((memr n).mp hn)
  have itr:z4g (z0c had) m:=it.same memr
  have m60:m≤60:=by have:=it.le (k:=60) (by decide) fun x hx=>(h60 x hx).2;omega
  have hdr:=y1T h60 it hd
  have hb:=z9i m (z0c had) rows r
  have lim:∀{c:List (List Str)},y2i nm (z18 m (z0c had) rows r) c->∀zs∈c,zs.length≤100:=fun {c} h zs hz=>by
   obtain⟨j,hj,e⟩:=List.getElem_of_mem hz
   have hk:j<(z18 m (z0c had) rows r).length:=by rw[<- h.1];exact hj
   have:=(h.2 j _ zs (bC hk) (by rw[bC hj,e])).1.length_le
   have:=gn.hi
   omega
  have fb:=y0w R m (z0c had) r
  have fa:=y21 R (m:=m) (hs:=z0c had) (r:=r) hz (by omega) (by omega) hd
  obtain⟨n0,hn0,hn1⟩:=y0p hop
  have hdn:=hdt n0 hn0
  refine⟨_,rfl,af,_,0,_,rfl,rfl,SqT.of eaf,rfl,_,rfl,_,rfl,y1,ln,lk,_,nm,_,kz,rfl,t1',lim fb,c8.seq hN,gn.nd,gn.hi,SqL.of (c8 _ _ eK),z08.keep c8 _ _ tK,by rw[z11];omega,fun _ G9 g9=>?_,fun hn=>absurd fb hn⟩
  have c9:=c8.trans g9
  refine⟨_,rfl,B1 ⟨_,rfl,af,_,1,_,rfl,rfl,SqT.of (g9 _ _ eaf),rfl,_,rfl,_,rfl,y2,ln,lk,_,nm,_,kz,rfl,A5.keep g9 _ _ t2',lim fa,c9.seq hN,gn.nd,gn.hi,SqL.of (c9 _ _ eK),z08.keep c9 _ _ tK,by rw[z11];omega,fun _ GA gA=>?_,fun hn=>absurd fa hn⟩⟩
  have cA:=c9.trans gA
  have gAA:=g9.trans gA
  refine⟨_,rfl,B1 ?_⟩
  have eafA:=gAA _ _ eaf
  have eahA:=cA _ _ eah
  refine⟨_,rfl,af,_,0,_,rfl,rfl,SqT.of eafA,rfl,_,rfl,ah,_,0,_,rfl,rfl,SqT.of eahA,rfl,_,rfl,y1,_,_,z,rfl,A5.keep gAA _ _ t1',by omega,fun hin=>absurd hin (y5l (z1K had) Z7 itr (by rw[hop];decide)),fun _=>⟨_,rfl,_,rfl,F4 ?_⟩⟩
  refine⟨_,rfl,af,_,1,_,rfl,rfl,SqT.of eafA,rfl,_,rfl,ah,_,0,_,rfl,rfl,SqT.of eahA,rfl,_,rfl,y2,_,_,z,rfl,A5.keep gAA _ _ t2',by rw[y0l (by omega) (by omega)];omega,fun _=>q _ cA,fun hn=>absurd (y4X (by omega) (by omega) (by omega)) hn⟩
theorem y2v{m:Nat}{hs:List Int}{rows:List Row}{r:Int}(it:z4g hs m)(h60:∀x∈hs,1≤x/\x≤60):(z18 m hs rows r).countP (fun o=>o.isNone)=(z1Q hs r).length:=by
 unfold z18
 rw[List.countP_map,List.countP_eq_length_filter]
 congr 1
 refine z1N ((z1s _ _).filter _) ?_ fun x=>?_
 ·have:z1Q hs r=(z16 hs).filter fun n=>decide (z0G hs n r=0):=by
   unfold z1Q P7
   rw[List.filter_map,dJ]
   exact List.map_id _
  rw[this]
  exact(z2p _).filter _
 ·rw[cI,z4t,z13,z0N]
  show _/\(z1y hs rows r x).isNone=true↔_
  unfold z1y
  by_cases c:x∈hs\/z0G hs x r≠0
  ·rw[if_pos c]
   refine⟨fun h=>absurd h.2 bJ,fun h=>?_⟩
   rcases c with c|c
   ·exact absurd c h.1.2.1
   ·exact absurd h.2 c
  ·rw[if_neg c]
   rw[not_or] at c
   refine⟨fun h=>⟨?_,Classical.not_not.mp c.2⟩,fun h=>⟨?_,rfl⟩⟩
   ·rcases it.1 with q|⟨_,q⟩
    ·have:=h60 _ q
     have:x≠(m:Int):=fun e=>c.1 (e ▸ q)
     exact⟨by omega,c.1,m,q,by omega⟩
    ·omega
   ·obtain⟨⟨h1,_,y,hy,h3⟩,_⟩:=h
    have:=it.2 y hy
    omega
theorem z8a{H:Hp}:∀{ks:List (Option (List Str))}{xs:List V},z08 H (ks.map O0) xs->xs.countP z9Y=ks.countP fun o=>o.isNone
 | [],xs,h=>by
  rw[z0E h]
  rfl
 | o::ks,xs,h=>by
  obtain⟨x,t,rfl,h1,h2⟩:=z0d h
  rw[fH,fH,z8a h2]
  cases o with
  | none=>
   have h1':A5 H .non x:=h1
   unfold A5 at h1'
   subst h1'
   rfl
  | some ws=>
   obtain⟨a,ys,rfl,_⟩:=z0g (show A5 H (.tup (ws.map DV.str)) x from h1)
   rfl
theorem y1E{l ms:List Int}(h1:l.Pairwise (· < ·))(h2:∀x∈l,1≤x/\x≤60)(e:∀x,x∈ms↔x∈l):z0c ms=l:=z1N (z1K _) h1 fun x=>y05 e h2 x
theorem y0k{H:Hp}:∀(l:List Int),z08 H (l.map DV.int) (l.map V.int)
 | []=>.nil
 | i::l=>.cons (z0H i) (y0k l)
theorem y4R(ns:List Int)(rows:List Row)(r:Int):(DV.tup (z39 ns rows r)).deep≤3:=z1L fun d hd=>by
 unfold z39 at hd
 obtain⟨n,_,rfl⟩:=cO.mp hd
 rw[y3K]
 refine z1L fun d hd=>?_
 rcases bA.mp hd with rfl|hd
 ·exact z28 _ _
 rcases bA.mp hd with rfl|hd
 ·exact z28 _ _
 rw[b8.mp hd]
 exact y5f _
def z5c(hs:List Int)(r:Int)(rl rows:List Row):Prop:=(∀n∈hs,z0y rl n=z0y rows n)/\∀n,1≤n->(∃y∈hs,n<y)->z0G hs n r≠0->z0S (z0y rl n)=z0S (z0y rows n)
theorem z5c.refl(hs:List Int)(r:Int)(rows:List Row):z5c hs r rows rows:=⟨fun _ _=>rfl,fun _ _ _ _=>rfl⟩
theorem y6i{hs:List Int}{n r:Int}(h:z0G hs n r≠0):∃y∈hs,n<y:=Classical.byContradiction fun c=>h (z4Q fun y hy hl _=>c ⟨y,hy,hl⟩)
theorem z5c.gaps{hs:List Int}{r:Int}{rl rows:List Row}(h:z5c hs r rl rows):z39 hs rl r=z39 hs rows r:=by
 unfold z39
 refine dZ fun n hn=>?_
 obtain⟨⟨a,_⟩,_,y,hy,b⟩:=z0N.mp hn
 unfold P9
 by_cases c:z0G hs n r=0
 ·rw[if_pos c,if_pos c]
 ·rw[if_neg c,if_neg c,h.2 n a ⟨y,hy,b⟩ c]
theorem y1N{rl rows:List Row}{z:Str}:∀(ms:List Int),(∀n∈ms,z0y rl n=z0y rows n)->z0W ms rl z=z0W ms rows z:=by
 have go:∀(ms:List Int) (acc:Option (Int×Int)),(∀n∈ms,z0y rl n=z0y rows n)->ms.foldl (fun acc n=>match E5 (z0y rl n) z with|some v=>some (n,v)|none=>acc) acc=ms.foldl (fun acc n=>match E5 (z0y rows n) z with|some v=>some (n,v)|none=>acc) acc:=by
  intro ms
  induction ms with
  | nil=>intro acc _;rfl
  | cons n t ih=>
   intro acc h
   rw[dB,dB,h n bU]
   exact ih _ fun k hk=>h k (bS _ hk)
 exact fun ms h=>go ms none h
theorem z5c.known{hs:List Int}{r:Int}{rl rows:List Row}(h:z5c hs r rl rows)(m:Nat):z18 m hs rl r=z18 m hs rows r:=by
 unfold z18
 refine dZ fun n hn=>?_
 have hn:=z13.mp hn
 unfold z1y
 by_cases c:n∈hs\/z0G hs n r≠0
 ·rw[if_pos c,if_pos c]
  rcases c with c|c
  ·rw[h.1 n c]
  ·rw[h.2 n hn.1 (y6i c) c]
 ·rw[if_neg c,if_neg c]
theorem z5c.again{hs:List Int}{r:Int}{rl rows:List Row}(h:z5c hs r rl rows)(num:Int)(z:Str):z4H hs rl r num z=z4H hs rows r num z:=by
 unfold z4H
 refine List.filter_congr fun n hn=>?_
 obtain⟨⟨a,_⟩,_,y,hy,b⟩:=z0N.mp hn
 have:z2m hs rl r n=z2m hs rows r n:=by
  unfold z2m
  by_cases c:z0G hs n r=0
  ·rw[if_pos c,if_pos c]
  ·rw[if_neg c,if_neg c,h.2 n a ⟨y,hy,b⟩ c]
 rw[this]
theorem z5c.state{hs:List Int}{r:Int}{rl rows:List Row}(h:z5c hs r rl rows)(num:Int)(z:Str):z0Y hs rl r num z=z0Y hs rows r num z:=by
 unfold z0Y
 rw[h.again]
theorem z5c.table{hs:List Int}{r:Int}{rl rows:List Row}(h:z5c hs r rl rows)(e:z0c hs=hs)(nm:List Str):z6X nm hs rl r=z6X nm hs rows r:=by
 unfold z6X
 congr 1
 refine dZ fun z _=>?_
 unfold W2
 rw[e,y1N hs h.1,h.state]
def z9W(K:PySem.W.Frag)(Sh:ShP):Sp:=fun vs H Q _=>∃(x ln lh lr:Addr) (fp:List Addr) (nm:List Str) (r:Int) (us:List V) (rl rows:List Row) (had hs:List Int),vs=[.ref x,.ref ln,.ref lh,.ref lr,.int r]/\
 Sh H x fp nm r (fun n=>z10 rows n r) had/\D6 nm/\Rws nm rows/\rows.length≤60/\(∀n∈had,1≤n/\n≤rows.length)/\0≤r/\r≤10/\H ln=some (.lst (nm.map V.str))/\H lh=some (.lst (hs.map V.int))/\hs.Pairwise (· < ·)/\(∀n,n∈had↔n∈hs)/\
 H lr=some (.lst us)/\z08 H (rl.map N1) us/\(∀n∈hs,n≤(rl.length:Int))/\(∀w∈rl,w.length≤12)/\z5c hs r rl rows/\∀H',A3 H H'->Q (.bl true) H'
theorem y2D(M:Bl mg)(F:Fun K "_law_all_told" "_law_all_told" z3s f fd){A0:Addr}{Sh:ShP}(OS:U4 A0 ["put","had","latest"] Sh)(D5:Cal P w K mg base 5 "_law_same" z25 (z8O 5))
  (F5:Cal P w K mg base 2 "_law_gaps" z4R (y2J K)) (N2:Cal P w K mg base 2 "_law_known" z5t (y1s K)) (M7:Cal P w K mg base 3 "_law_table" z5j (y3T K)) (D3:Cal P w K mg base 1 "_law_doubled" z2O z4E)
  (F7:Cal P w K mg base 1 "_law_held" z4O (y0E K)) (C7:Cal P w K mg base 2 "_law_state" z37 (z9L K)) (G0:Cal P w K mg base 11 "_law_name_told" z35 (z93 K Sh)) (N6:Cal P w K mg base 3 "_law_plan" z6D (y64 K))
  (A6:D2 P w K mg base 7 A0 "had" z1n (z3n Sh)) (K5:D2 P w K mg base 7 A0 "latest" z3L (z8Y Sh)) (F0:Cal P w K mg base 8 "gaps_of" z6g (z7o Sh)) (N8:Cal P w K mg base 8 "knowledge" z6z (y66 Sh))
  (K2:Cal P w K mg base 8 "course_count" z3M (y3f Sh)) (N7:Q5 P w K mg base 8 "send_for" z4J (z6a Sh) [V.non]):A7 P w K mg base CX0 12 f fd z3k (z9W K Sh):=by
 have nd:=z4i.nd
 refine F.ok z4i (fun vs H Q E h=>?_) (fun cdv A outer s H vs Q E hr h=>?_)
 ·obtain⟨x,ln,lh,lr,fp,nm,r,us,rl,rows,had,hs,rfl,_⟩:=h
  rfl
 obtain⟨x,ln,lh,lr,fp,nm,r,us,rl,rows,had,hs,rfl,sh,gn,R,r60,P1,r0,r10,eN,eH,rise,mem,eR,tR,hup,r12,ag,q⟩:=h
 refine⟨_,(z04 (z0p (i:=5) nd rfl (Or.inl rfl) (z0i F5 (rm hr) rfl (z00 (pv 2) (z00 (pv 3) (z00 (pv 4) z02))))) (z04 (z0p (i:=6) nd rfl (Or.inl rfl) (z0i N2 (rm hr) rfl (z00 (pv 2) (z00 (pv 3) (z00 (pv 4) z02))))) (z04 (z0D (z2c (z24 (z0i D5 (rm hr) rfl (z00 (z0Q (z00 (z1M A6 (rm hr) (pv 0)) (z00 (z1M K5 (rm hr) (pv 0)) z02))) (z00 (z0Q (z00 (z0u z0o rfl M.tuple bI (z00 (pv 2) z02)) (z00 (z0b (z3E rfl) rfl M.max dI (z00 (z0t z94 (pv 2) (z1i (z00 z06 z02))) z02)) z02))) z02))))) (z05 (z0f z1W)) z0l) (z04 (z0D (z2c (z24 (z0i D5 (rm hr) rfl (z00 (z0Q (z00 (z0i F0 (rm hr) rfl (z00 (pv 0) z02)) (z00 (z0i N8 (rm hr) rfl (z00 (pv 0) z02)) z02))) (z00 (z0Q (z00 (z0u z0o rfl M.tuple bI (z00 (pv 5) z02)) (z00 (z0i M7 (rm hr) rfl (z00 (pv 1) (z00 (pv 2) (z00 (pv 3) (z00 (pv 4) z02))))) z02))) z02))))) (z05 (z0f z1W)) z0l) (z04 (z0D (z2c (z24 (z0i D5 (rm hr) rfl (z00 (z0i K2 (rm hr) rfl (z00 (pv 0) z02)) (z00 (z0i D3 (rm hr) rfl (z00 (z0t z4c (z2N bR PySem.F.slot_list_count PySem.F.type_list_count (y4F (eF (Nat.add_le_add_left (by decide:1≤64) _) hr.units)) (pv 6) (z00 z8P z02)) (z0b z09 rfl M.len bK (z00 (pv 1) z02))) z02)) z02))))) (z05 (z0f z1W)) z0l) (z04 (z0p (i:=7) nd rfl (Or.inl rfl) z06) (z04 (z0P bQ rfl (z1w (pv 1)) (z0j (i:=8) nd rfl (Or.inl rfl)) (z04 (z0p (i:=9) nd rfl (Or.inl rfl) (z0i F7 (rm hr) rfl (z00 (pv 2) (z00 (pv 3) (z00 (pv 8) z02))))) (z04 (z0D (z2c (z24 (z0i G0 (rm hr) rfl (z00 (pv 0) (z00 (pv 1) (z00 (pv 8) (z00 (pv 6) (z00 (pv 5) (z00 (pv 9) z02))))))))) (z05 (z0f z1W)) z0l) (z05 (z0D (z0a z2L (z0i C7 (rm hr) rfl (z00 (pv 5) (z00 (z0z z0A (pv 9) z06 (fun _ _=>rfl)) (z00 (pv 8) z02)))) z58 (z0m _)) (z05 (z0p (i:=7) nd rfl (Or.inl rfl) (z0b (y3L rfl) rfl M.min eV (z00 (pv 7) (z00 (z0z z0A (pv 9) z06 (fun _ _=>rfl)) z02))))) z0l))))) (z05 (z0f (z0i N6 (rm hr) rfl (z00 (y6f N7 (rm hr) rfl (z00 (pv 0) z02)) (z00 (pv 2) (z00 (pv 4) (z00 (pv 7) z02)))))))))))))),?_⟩
 have n12:=gn.hi
 have h60':∀n∈had,1≤n/\n≤60:=fun n hn=>by have:=P1 n hn;omega
 have h60:∀n∈hs,1≤n/\n≤60:=fun n hn=>h60' n ((mem n).mpr hn)
 have e1:z0c had=hs:=y1E rise h60 mem
 have e2:z0c hs=hs:=y1E rise h60 fun _=>Iff.rfl
 have w0b:hs.length≤60:=by rw[<- e2];exact z38 _
 have hnd:hs.Nodup:=rise.imp fun h=>Int.ne_of_lt h
 obtain⟨m,it⟩:=y7H hs h60
 have it':z4g had m:=it.same mem
 have m60:(m:Int)≤60:=it.le (by decide) fun x hx=>(h60 x hx).2
 refine⟨_,rfl,_,rfl,_,rfl,lh,lr,hs,us,rl,r,rfl,eH,h60,by omega,hup,SqL.of eR,tR,r12,r0,fun lg gz H1 nlg s1 eG tG=>?_⟩
 rw[ag.gaps] at tG
 refine⟨_,rfl,_,rfl,_,rfl,lh,lr,hs,us,rl,r,m,rfl,s1 _ _ eH,h60,by omega,hup,SqL.of (s1 _ _ eR),z08.keep s1 _ _ tR,r12,r0,it,fun lk kz H2 nlk s2 eK tK=>?_⟩
 rw[ag.known] at tK
 have s12:=s1.trans s2
 have eG2:=s2 _ _ eG
 have tG2:=z08.keep s2 _ _ tG
 have sh2:=OS.same sh s12
 have eH2:=s12 _ _ eH
 have eN2:=s12 _ _ eN
 have eR2:=s12 _ _ eR
 have tR2:=z08.keep s12 _ _ tR
 clear tR eR eN eH sh tG eG
 obtain⟨d3,g3,z3,w3⟩:=OS.ins sh2
 refine⟨_,rfl,x,d3,g3,rfl,z3,w3 _ (by simp),x,fp,nm,r,_,_,rfl,sh2,fun lt G3 s3 e3=>?_⟩
 rw[e1] at e3
 have sh3:=OS.same sh2 s3
 obtain⟨d4,g4,z4,w4⟩:=OS.ins sh3
 refine⟨_,rfl,x,d4,g4,rfl,z4,w4 _ (by simp),x,fp,nm,r,_,_,rfl,sh3,fun G4 s4=>⟨(by show 2≤sizeLine;decide),fun t1 ht1=>?_⟩⟩
 have s5:=z01 ht1 (.tup [V.ref lt,V.int (O6 had)])
 have e5:upd G4 t1 (.tup [V.ref lt,V.int (O6 had)]) t1=some (.tup [V.ref lt,V.int (O6 had)]):=z03
 generalize upd G4 t1 (.tup [V.ref lt,V.int (O6 had)])=G5 at s5 e5
 have c25:=s3.trans (s4.trans s5)
 have eo5:=c25 _ _ eH2
 refine⟨_,rfl,lh,_,rfl,.inl ⟨SqL.of eo5,fun t2 ht2=>⟨_,rfl,(by show 1≤sizeLine;decide),fun l0 hl0=>⟨lh,l0,_,_,rfl,rfl,z01 hl0 _ _ _ (z01 ht2 _ _ _ eo5),z03,?_,fun lc hlc=>?_⟩⟩⟩⟩
 ·rw[b7]
  exact dQ (z0e (by show hs.length+1≤1000;omega))
 have s6:=(z01 ht2 (.tup (hs.map V.int))).trans ((z01 hl0 (.lst [V.int 0])).trans (z01 hlc (.lst (hs.map V.int++[V.int 0]))))
 have e6:upd (upd (upd G5 t2 (.tup (hs.map V.int))) l0 (.lst [V.int 0])) lc (.lst (hs.map V.int++[V.int 0])) t2=some (.tup (hs.map V.int)):=z01 hlc _ _ _ (z01 hl0 _ _ _ z03)
 have ec:upd (upd (upd G5 t2 (.tup (hs.map V.int))) l0 (.lst [V.int 0])) lc (.lst (hs.map V.int++[V.int 0])) lc=some (.lst ((hs++[0]).map V.int)):=by
  rw[z03,bD]
  rfl
 generalize upd (upd (upd G5 t2 (.tup (hs.map V.int))) l0 (.lst [V.int 0])) lc (.lst (hs.map V.int++[V.int 0]))=G6 at s6 e6 ec
 refine⟨lc,hs++[0],rfl,.inl (SqL.of ec),by simp,fun mx hm top=>⟨(by show 2≤sizeLine;decide),fun t3 ht3=>?_⟩⟩
 have em:mx=O6 had:=by
  rcases bN.mp hm with h|h
  ·rw[<- e1] at h
   exact y1k h fun y hy=>top y (cR _ (by rw[<- e1];exact hy))
  ·have h0:mx=0:=b8.mp h
   have none:hs=[]:=by
    cases e:hs with
    | nil=>rfl
    | cons y ys=>
     have hy:y∈hs:=by rw[e];exact bU
     have t1:=top y (cR _ hy)
     have t2:=h60 y hy
     omega
   unfold O6
   rw[e1,none,h0]
   rfl
 have tin:∀{X:Hp}{t:Addr},X t=some (.tup (hs.map V.int))->A5 X (.tup (hs.map DV.int)) (.ref t):=fun {X t} e=>z0r e (by rw[b7];omega) (y0k _)
 have s7:=z01 ht3 (.tup [V.ref t2,V.int mx])
 have T1:A5 (upd G6 t3 (.tup [V.ref t2,V.int mx])) (.tup [.tup (hs.map DV.int),.int (O6 had)]) (.ref t1):=
  z0r (s7 _ _ (s6 _ _ e5)) (by show 2≤1000000;decide) (.cons (tin (s7 _ _ (s6 _ _ (s5 _ _ (s4 _ _ e3))))) (.cons (z0H _) .nil))
 have T2:A5 (upd G6 t3 (.tup [V.ref t2,V.int mx])) (.tup [.tup (hs.map DV.int),.int (O6 had)]) (.ref t3):=
  z0r z03 (by show 2≤1000000;decide) (.cons (tin (s7 _ _ e6)) (.cons (by rw[em];exact z0H _) .nil))
 have dp:(DV.tup [.tup (hs.map DV.int),.int (O6 had)]).deep≤2:=z1L fun d' hd'=>by
  rcases bA.mp hd' with rfl|hd'
  ·exact z1L fun d'' hd''=>by
    obtain⟨i,_,rfl⟩:=cO.mp hd''
    exact z28 _ _
  ·rw[b8.mp hd']
   exact z28 _ _
 refine⟨.ref t1,.ref t3,rfl,(z4S _ _ _ T1 T2).mono (cM dp (by decide)),fun G7 s8=>⟨_,rfl,B1 ?_⟩⟩
 have c7:=c25.trans (s6.trans (s7.trans s8))
 clear T1 T2 dp tin sh3 e6 ec e5 e3 s3 s4 s5 s6 s7 s8 c25 eo5 hm top em
 refine⟨_,rfl,x,fp,nm,r,rows,had,rfl,OS.same sh2 c7,gn,R,r60,P1,r0,r10,fun v1 G8 g8 tv1=>?_⟩
 have c8:=c7.trans g8
 refine⟨_,rfl,x,fp,nm,r,rows,had,rfl,OS.same sh2 c8,gn,R,r60,P1,r0,r10,fun v2 G9 g9 tv2=>⟨le2,fun p1 hp1=>?_⟩⟩
 rw[e1] at tv1 tv2
 have c9:=c8.trans g9
 have sp1:=z01 hp1 (.tup [v1,v2])
 have cA:=c9.trans sp1
 refine⟨_,rfl,lg,gz,rfl,.inl ⟨SqL.of (cA _ _ eG2),fun p2 hp2=>?_⟩⟩
 have sp2:=z01 hp2 (.tup gz)
 have cB:=cA.trans sp2
 refine⟨_,rfl,_,rfl,_,rfl,_,rfl,ln,lh,lr,nm,hs,us,rl,r,rfl,SqL.of (cB _ _ eN2),n12,cB _ _ eH2,by omega,hnd,h60,hup,SqL.of (cB _ _ eR2),z08.keep cB _ _ tR2,r12,r0,fun v3 GC gC tv3=>⟨le2,fun p3 hp3=>?_⟩⟩
 rw[ag.table e2] at tv3
 have sp3:=z01 hp3 (.tup [V.ref p2,v3])
 have lgz:(z39 hs rows r).length≤1000000:=by
  unfold z39
  rw[b7]
  exact cM (z2e hs) (by decide)
 have dst:∀d∈[DV.tup (z39 hs rows r),z6X nm hs rows r],d.deep≤3:=fun d hd=>by
  rcases bA.mp hd with rfl|hd
  ·exact y4R _ _ _
  ·rw[b8.mp hd]
   exact cM (y2m _ _ _ _) (by decide)
 refine⟨.ref p1,.ref p3,rfl,(z4S (.tup [.tup (z39 hs rows r),z6X nm hs rows r]) _ _ (z0r (sp3 _ _ (gC _ _ (sp2 _ _ z03))) (by show 2≤1000000;decide) (.cons (A5.keep (g9.trans (sp1.trans (sp2.trans (gC.trans sp3)))) _ _ tv1) (.cons (A5.keep (sp1.trans (sp2.trans (gC.trans sp3))) _ _ tv2) .nil)))
  (z0r z03 (by show 2≤1000000;decide) (.cons (z0r (sp3 _ _ (gC _ _ z03)) lgz (z08.keep (cB.trans (gC.trans sp3)) _ _ tG2)) (.cons (A5.keep sp3 _ _ tv3) .nil)))).mono (cM (z1L dst) (by decide)),fun GD gD=>⟨_,rfl,B1 ?_⟩⟩
 have cD:=cB.trans (gC.trans (sp3.trans gD))
 clear tv1 tv2 tv3 sp1 sp2 sp3 gC gD cB cA c9 c8 g8 g9 c7 hp1 hp2 hp3 dst
 refine⟨_,rfl,x,fp,nm,r,_,had,rfl,OS.same sh2 cD,h60',fun GE gE=>?_⟩
 have cE:=cD.trans gE
 rw[e1]
 have ck:kz.countP z9Y=(z1Q hs r).length:=(z8a tK).trans (y2v it h60)
 have lm':(nm.map V.str).length=nm.length:=b7 _
 have l60:=z4v hs r
 have lt:(z1Q hs r).length*nm.length≤60*12:=Nat.mul_le_mul l60 n12
 have kin:∀y∈kz,y=.non\/∃a ys,y=.ref a/\SqT K GE a ys:=fun y hy=>by
  obtain⟨j,hj,e⟩:=List.getElem_of_mem hy
  obtain⟨d,ed,td⟩:=(z08.keep cE _ _ tK).at j y (by rw[bC hj,e])
  rw[bB] at ed
  obtain⟨o,_,rfl⟩:=cG.mp ed
  cases o with
  | none=>
   have td':A5 GE .non y:=td
   unfold A5 at td'
   exact .inl td'
  | some ws=>
   obtain⟨a,ys,rfl,ea,_⟩:=z0g (show A5 GE (.tup (ws.map DV.str)) y from td)
   exact .inr ⟨a,ys,rfl,SqT.of ea⟩
 refine⟨_,rfl,.inl ⟨rfl,_,SqL.of (cE _ _ eK)⟩,lk,kz,rfl,rfl,SqL.of (cE _ _ eK),kin,_,rfl,ln,_,rfl,.inl (SqL.of (cE _ _ eN2)),_,_,rfl,rfl,?_,_,rfl,?_,?_,?_⟩
 ·rw[ck]
  exact .inl ⟨by omega,by omega⟩
 ·exact Int.mul_nonneg (gT _) (gT _)
 ·rw[ck,lm',<- jC]
  omega
 rw[ck,lm',<- jC,jO]
 refine⟨_,_,rfl,.inl ⟨rfl,rfl⟩,fun GF gF=>⟨_,rfl,B1 ?_⟩⟩
 have cF:=cE.trans gF
 clear kin ck
 refine⟨_,rfl,ln,rfl,⟨_,SqL.of (cF _ _ eN2)⟩,z1Y (K:=K) (a:=ln) (xs:=nm.map V.str) (fun i σ G=>∃o1 o2:Option V,A3 H2 G/\σ=[some (.ref x),some (.ref ln),some (.ref lh),some (.ref lr),some (.int r),some (.ref lg),some (.ref lk),some (.int (z7x (z5z hs rows r (nm.take i)))),o1,o2])
  ⟨none,none,cF,rfl⟩ (fun i σ G _ ⟨_,_,g,_⟩=>SqL.of (g _ _ eN2)) ?_ ?_⟩
 ·rintro i y σ G hi ⟨o1,o2,g,rfl⟩
  rw[bB] at hi
  obtain⟨z,hz,rfl⟩:=cG.mp hi
  have hzm:=bO hz
  refine⟨_,rfl,_,rfl,_,rfl,lh,lr,hs,us,rl,z,rfl,SqL.of (g _ _ eH2),by omega,hnd,h60,hup,SqL.of (g _ _ eR2),z08.keep g _ _ tR2,fun hv G1 g1 th=>?_⟩
  rw[e2,y1N hs ag.1] at th
  have c1:=g.trans g1
  refine⟨_,rfl,_,rfl,_,rfl,_,rfl,_,rfl,_,rfl,x,ln,lk,lg,z,hv,fp,nm,r,rows,had,m,kz,gz,rfl,OS.same sh2 c1,hzm,gn,R,r60,P1,r0,r10,it',SqL.of (c1 _ _ eN2),c1 _ _ eK,by rw[e1];exact z08.keep c1 _ _ tK,c1 _ _ eG2,by rw[e1];exact z08.keep c1 _ _ tG2,by rw[e1];exact th,fun G2 g2=>⟨_,rfl,B1 ?_⟩⟩
  have c2:=c1.trans g2
  obtain⟨ah,yv,rfl,eh,_⟩:=z3S th
  refine⟨_,rfl,_,rfl,ah,_,0,_,rfl,rfl,SqT.of (g2 _ _ eh),rfl,_,rfl,lg,gz,hs,rows,r,_,z,rfl,SqL.of (c2 _ _ eG2),z08.keep c2 _ _ tG2,fun G3 g3=>⟨rfl,_,rfl,?_⟩⟩
  have c3:=c2.trans g3
  rw[z0n hz,z96]
  refine B0 (fun c=>?_) (fun c=>?_)
  ·have c':z0Y hs rows r (z1A (z0W hs rows z)) z="open":=V.str.inj (z0F c)
   rw[if_pos c',y0G]
   exact⟨_,rfl,_,rfl,ah,_,0,_,rfl,rfl,SqT.of (g3 _ _ (g2 _ _ eh)),rfl,_,_,rfl,_,_,c3,rfl⟩
  ·have c':¬z0Y hs rows r (z1A (z0W hs rows z)) z="open":=fun e=>c (decide_eq_true (congrArg V.str e))
   rw[if_neg c',cY]
   exact⟨_,_,c3,rfl⟩
 ·rintro σ G ⟨o1,o2,g,rfl⟩
  rw[b7,bT]
  refine⟨_,rfl,x,none,fp,nm,r,rows,had,rfl,OS.same sh2 g,fun y hy=>hy,gn,R,r60,P1,r0,r10,fun v G5 g5 p5=>?_⟩
  rw[e1] at p5
  exact⟨_,rfl,_,rfl,_,rfl,v,lh,hs,r,_,rfl,p5,g5 _ _ (g _ _ eH2),h60,by omega,r0,fun G6 g6=>q _ (s12.trans (g.trans (g5.trans g6)))⟩
theorem y6X{nm:List Str}{rows:List Row}{w:Row}(R:Rws nm rows)(nd:nm.Nodup)(hw:w∈rows):GoodR nm w/\z1o nm w=w:=by
 have sb:=R.sub w hw
 exact⟨⟨sb.nodup nd,fun p hp=>sb.subset (jG hp),fun p hp=>R.val w hw p hp⟩,z5m nd sb⟩
def z4Y(os:Nat->List Int)(c:Nat->Nat)(dl:List C1):Prop:=(∀(rd n:Int),((some rd,n):C1)∈dl↔∃j:Nat,j<3/\rd=0+(j:Int)+1/\n∈(os j).take (c j))/\dl.length≤((os 0).take (c 0)).length+((os 1).take (c 1)).length+((os 2).take (c 2)).length
def F9(i j:Nat):Nat->Nat:=fun k=>if k<j then i+1 else i
theorem z6u{i j k:Nat}(h:k<j):F9 i j k=i+1:=if_pos h
theorem z5s{i j k:Nat}(h:j≤k):F9 i j k=i:=if_neg (by omega)
theorem z9d{i j k:Nat}(h:k≠j):F9 i (j+1) k=F9 i j k:=by
 unfold F9
 by_cases c:k<j
 ·rw[if_pos c,if_pos (by omega)]
 ·rw[if_neg c,if_neg (by omega)]
theorem y3i{f g:Nat->Nat}{j:Nat}(hj:j<3)(h:∀k,k≠j->f k=g k)(h2:f j=g j+1):f 0+f 1+f 2=g 0+g 1+g 2+1:=by
 match j,hj with
 | 0,_=>have:=h 1 (by decide);have:=h 2 (by decide);omega
 | 1,_=>have:=h 0 (by decide);have:=h 2 (by decide);omega
 | 2,_=>have:=h 0 (by decide);have:=h 1 (by decide);omega
theorem z4Y.step{os:Nat->List Int}{i j:Nat}{dl:List C1}{n:Int}(h:z4Y os (F9 i j) dl)(hj:j<3)(e:(os j)[i]? = some n):z4Y os (F9 i (j+1)) (dl++[(some (0+(j:Int)+1),n)]):=by
 have hi:=(bW.mp e).1
 refine⟨fun rd k=>?_,?_⟩
 ·rw[bN,h.1,b8]
  constructor
  ·rintro(⟨j',h1,h2,h3⟩|h1)
   ·refine⟨j',h1,h2,?_⟩
    by_cases c:j'=j
    ·subst c
     rw[z5s (bE _)] at h3
     rw[z6u (dO _),z0n e]
     exact cR _ h3
    ·rw[z9d c]
     exact h3
   ·injection h1 with h1 h2
    injection h1 with h1
    refine⟨j,hj,h1,?_⟩
    rw[z6u (dO _),z0n e,h2]
    exact c6 _ (b8.mpr rfl)
  ·rintro⟨j',h1,h2,h3⟩
   by_cases c:j'=j
   ·subst c
    rw[z6u (dO _),z0n e,bN] at h3
    rcases h3 with h3|h3
    ·exact .inl ⟨j',h1,h2,by rw[z5s (bE _)];exact h3⟩
    ·refine .inr ?_
     rw[h2,b8.mp h3]
   ·rw[z9d c] at h3
    exact .inl ⟨j',h1,h2,h3⟩
 ·rw[bG,dH]
  have:=y3i (f:=fun k=>((os k).take (F9 i (j+1) k)).length) (g:=fun k=>((os k).take (F9 i j k)).length) hj (fun k hk=>by show((os k).take (F9 i (j+1) k)).length=((os k).take (F9 i j k)).length;rw[z9d hk]) (by
   show((os j).take (F9 i (j+1) j)).length=((os j).take (F9 i j j)).length+1
   rw[z6u (dO _),z5s (bE _),z0n e,bG,dH])
  have h2:=h.2
  have e3:((os 0).take (F9 i (j+1) 0)).length+((os 1).take (F9 i (j+1) 1)).length+((os 2).take (F9 i (j+1) 2)).length=((os 0).take (F9 i j 0)).length+((os 1).take (F9 i j 1)).length+((os 2).take (F9 i j 2)).length+1:=this
  omega
theorem z4Y.as{os:Nat->List Int}{c c':Nat->Nat}{dl:List C1}(h:z4Y os c dl)(e:∀j,j<3->(os j).take (c' j)=(os j).take (c j)):z4Y os c' dl:=by
 refine⟨fun rd n=>?_,?_⟩
 ·rw[h.1]
  constructor
  ·rintro⟨j,h1,h2,h3⟩
   exact⟨j,h1,h2,by rw[e j h1];exact h3⟩
  ·rintro⟨j,h1,h2,h3⟩
   exact⟨j,h1,h2,by rw[<- e j h1];exact h3⟩
 ·rw[e 0 (by decide),e 1 (by decide),e 2 (by decide)]
  exact h.2
theorem z4Y.skip{os:Nat->List Int}{i j:Nat}{dl:List C1}(h:z4Y os (F9 i j) dl)(l:(os j).length≤i):z4Y os (F9 i (j+1)) dl:=h.as fun k hk=>by
 by_cases c:k=j
 ·subst c
  rw[z6u (dO _),z5s (bE _),cL l,cL (by omega)]
 ·rw[z9d c]
theorem z4Y.next{os:Nat->List Int}{i:Nat}{dl:List C1}(h:z4Y os (F9 i 3) dl):z4Y os (F9 (i+1) 0) dl:=h.as fun k hk=>by rw[z6u hk,z5s (cV _)]
theorem y79(M:Bl mg)(F:Fun K "law" "law" w0f f fd){A4 A0:Addr}{Bk:BkP}{Sh:ShP}(O:V8 A4 ["write","deliver","latest","issue","deeds","deed","shelf"] Bk)(OS:U4 A0 ["put","had","latest"] Sh)
  (C6:Cal P w K mg base 1 "_law_at" z5P (X5 K)) (D1:Cal P w K mg base 1 "_law_pick" z3I y1W)
  (M3:Cal P w K mg base 2 "_law_names" z5y (y3N K)) (K6:Cal P w K mg base 3 "_law_numbers" z3Y (y0c K))
  (O9:Cal P w K mg base 2 "_law_had" z7T y7l) (J5:Cal P w K mg base 2 "_law_shuffled" z3t (y5X K)) (E8:Cal P w K mg base 12 "_law_all_told" z3k (z9W K Sh))
  (W6:Mkr P w K mg base 8 A4 "Book" z3m (y1f K A4 Bk)) (M5:D2 P w K mg base 8 A4 "write" z5w (y0o K Bk)) (K3:D2 P w K mg base 8 A4 "deliver" z3Z (z7y Bk))
  (L4:M0 P w K mg base 8 A4 "shelf" z2S (z64 Bk Sh) [V.non]):A7 P w K mg base CX0 14 f fd plaw (y59 K):=by
 have nd:=y7A.nd
 refine F.ok y7A (fun vs H Q E h=>?_) (fun cdv A outer s H vs Q E hr h=>?_)
 ·obtain⟨a,ns,rfl,_⟩:=h
  rfl
 obtain⟨a,ns,rfl,hS,h63,q⟩:=h
 refine⟨_,(z04 (z0p (i:=1) nd rfl (Or.inl rfl) (z0i M3 (rm hr) rfl (z00 (pv 0) z02))) (z04 (z0p (i:=2) nd rfl (Or.inl rfl) (z0i K6 (rm hr) rfl (z00 (pv 0) (z00 (pv 1) z02)))) (z04 (z0p (i:=3) nd rfl (Or.inl rfl) (z0i D1 (rm hr) rfl (z00 (z0i C6 (rm hr) rfl (z00 (pv 0) (z00 z06 z02))) (z00 z06 z02)))) (z04 (z0p (i:=4) nd rfl (Or.inr rfl) (z0i O9 (rm hr) rfl (z00 (z0i C6 (rm hr) rfl (z00 (pv 0) (z00 z06 z02))) (z00 (z0b z09 rfl M.len bK (z00 (pv 2) z02)) z02)))) (z04 (z0p (i:=5) nd rfl (Or.inl rfl) (y4j W6 (rm hr) rfl (z00 (z0u z4h rfl M.list hU (z00 (pv 1) z02)) (z00 (pv 3) (z00 z06 z02))))) (z04 (z0P bQ rfl (z1w (pv 2)) (z0j (i:=6) nd rfl (Or.inl rfl)) (z05 (z0C (z2a M5 (rm hr) (pv 5) (z00 (z0u z4h rfl M.list hU (z00 (pv 6) z02)) z02))))) (z04 (z0p (i:=7) nd rfl (Or.inl rfl) (z0t z94 (z1e ["_law_k"] ["_law_had_here","_law_script"] [4,0] rfl (z0v rfl (by decide +kernel) rfl (by decide +kernel) rfl rfl) (z0T rfl M.range (z00 z06 z02)) (fun _ _ _ _ _=>(z0j (i:=0) (show((["_law_k"]:List PySem.Str)++(["_law_had_here","_law_script"]:List PySem.Str)).Nodup from by decide +kernel) rfl (Or.inl rfl))) (z0w (by decide)) z0h (fun _ _ _ _ _=>z2g) (fun _ _ _ _ _=>(z0i J5 (rm hr) rfl (z00 (pv 1) (z00 (z0i C6 (rm hr) rfl (z00 (pv 2) (z00 (z0t z1g z06 (pv 0)) z02))) z02))))) (z1i (z00 (y7K (pv 4) (y6G y4y z06)) z02)))) (z04 (z0P bQ rfl (z0T rfl M.range (z00 (z0t z4c z06 (z0b z09 rfl M.len bK (z00 (pv 4) z02))) z02)) (z0j (i:=8) nd rfl (Or.inl rfl)) (z05 (z0P bQ rfl (z0T rfl M.range (z00 z06 z02)) (z0j (i:=9) nd rfl (Or.inl rfl)) (z05 (z0D (z0a z8x (pv 8) (z0b z09 rfl M.len bK (z00 (z0z z0V (pv 7) (pv 9) (fun _ _=>rfl)) z02)) (z0m _)) (z05 (z0C (z2a K3 (rm hr) (pv 5) (z00 (z0t z1g (pv 9) z06) (z00 (z0z z0V (z0z z0V (pv 7) (pv 9) (fun _ _=>rfl)) (pv 8) (fun _ _=>rfl)) z02))))) z0l))))) (z04 (z0P bQ rfl (z0T rfl M.range (z00 z06 z02)) (z0j (i:=9) nd rfl (Or.inl rfl)) (z04 (z0p (i:=10) nd rfl (Or.inl rfl) (y56 L4 (rm hr) (pv 5) (z00 (z0t z1g (pv 9) z06) z02))) (z04 (z0D (z2c (z24 (z0i E8 (rm hr) rfl (z00 (pv 10) (z00 (pv 1) (z00 (pv 4) (z00 (pv 2) (z00 (pv 3) z02)))))))) (z05 (z0f z1W)) z0l) (z05 (z0D (z2c (z24 (z0i E8 (rm hr) rfl (z00 (pv 10) (z00 (pv 1) (z00 (pv 4) (z00 (pv 2) (z00 (pv 3) z02)))))))) (z05 (z0f z1W)) z0l))))) (z05 (z0f z1W))))))))))),?_⟩
 refine⟨_,rfl,a,ns,rfl,hS,fun ln nm H1 nln s1 eN n1 n12 N=>?_⟩
 refine⟨_,rfl,_,rfl,a,ln,ns,nm,rfl,s1.seq hS,SqL.of eN,n1,n12,fun lr us rows H2 nlr s2 eR tl r60 R=>?_⟩
 refine⟨_,rfl,a,ns,4,rfl,(s1.trans s2).seq hS,by decide,_,_,rfl,(by decide),fun r r0 r1=>?_⟩
 have s12:=s1.trans s2
 have lus:us.length=rows.length:=by rw[tl.length,b7]
 refine⟨_,rfl,a,ns,5,rfl,s12.seq hS,by decide,_,rfl,lr,us,rfl,.inl (SqL.of eR),_,_,rfl,by omega,by omega,fun lh hs H3 nlh s3 e3 rise B3 w0b=>?_⟩
 have gn:D6 nm:=⟨n1,n12,N.nd⟩
 have s13:=s12.trans s3
 have eN3:H3 ln=some (.lst (nm.map V.str)):=s3 _ _ (s2 _ _ eN)
 have eR3:H3 lr=some (.lst us):=s3 _ _ eR
 have tl3:z08 H3 (rows.map N1) us:=z08.keep s3 _ _ tl
 have hsr:∀x∈hs,1≤x/\x≤(rows.length:Int):=fun x hx=>by have:=B3 x hx;omega
 refine⟨_,rfl,ln,nm.map V.str,rfl,.inl (SqL.of eN3),fun l1 hl1=>⟨_,rfl,fun x dx nx ndx ne=>?_⟩⟩
 have mm1:=z8b (C:=A4) (z01 hl1 (.lst (nm.map V.str))) nx ndx
 refine⟨x,dx,l1,nm,r,3,rfl,z03,ne,by rw[z0k ne,z03],.inl (SqL.of (z9P nx ndx z03)),gn,r0,by omega,by decide,by decide,fun fp H5 hfp b5 bk5=>⟨rfl,?_⟩⟩
 have s5:A3 H3 H5:=z86 b5 mm1 ((z01 hl1 _).free nx)
 have f5:∀b∈fp,H3 b=none:=fun b hb=>z6t mm1 ((z01 hl1 _).free nx) ((z01 hl1 _).free ndx) (hfp b hb)
 have out:∀{b:Addr}{o:HO},H3 b=some o->b∉fp:=fun e m=>by rw[f5 _ m] at e;cases e
 have ntp:z5G H5 fp:=O.Q7 bk5
 have eR5:=s5 _ _ eR3
 have eN5:=s5 _ _ eN3
 have eL5:=s5 _ _ e3
 have tl5:z08 H5 (rows.map N1) us:=z08.keep s5 _ _ tl3
 refine⟨_,rfl,lr,rfl,⟨_,SqL.of eR5⟩,z1Y (K:=K) (a:=lr) (xs:=us) (fun i σ H'=>∃(fp':List Addr) (o:Option V),z0B fp H5 H'/\Bk H' x fp' nm r 3 (rows.take i) (O2 i)/\(∀b∈fp',b∈fp\/H5 b=none)/\
   σ=[some (.ref a),some (.ref ln),some (.ref lr),some (.int r),some (.ref lh),some (.ref x),o,none,none,none,none]) ⟨fp,none,.of (A3.refl _),bk5,fun b m=>.inl m,rfl⟩ (fun i σ H' _ ⟨_,_,bt,_⟩=>SqL.of (bt _ _ eR5 (out eR3))) ?_ ?_⟩
 ·rintro i u σ H' hi ⟨fp',o,bt,bk,ff,rfl⟩
  obtain⟨d,ed,td⟩:=(z08.but bt ntp _ _ tl5).at i u hi
  rw[bB] at ed
  obtain⟨wr,ew,rfl⟩:=cG.mp ed
  have hw:=bO ew
  have hi':i<rows.length:=(bW.mp ew).1
  obtain⟨ar,xs,rfl,er,_,tp⟩:=z0g td
  obtain⟨d2,g2,z2,w2⟩:=O.ins bk
  refine⟨_,rfl,x,d2,g2,rfl,z2,w2 _ (by simp),_,rfl,ar,xs,rfl,.inr (SqT.of er),fun l hl=>?_⟩
  have sl:=z01 hl (.lst xs)
  have el:upd H' l (.lst xs) l=some (.lst xs):=z03
  have nl:l∉fp':=fun m=>by
   obtain⟨o,e,_⟩:=O.own bk l m
   rw[hl] at e
   cases e
  have bk':=O.same bk sl
  have hts:=y1C (z08.keep sl _ _ tp)
  generalize upd H' l (.lst xs)=G at sl el bk' hts
  obtain⟨good,ino⟩:=y6X R N.nd hw
  have lti:(rows.take i).length=i:=by rw[bH];omega
  refine⟨x,.ref l,fp',nm,r,3,rows.take i,O2 i,wr,rfl,bk',⟨l,xs,rfl,.inl (SqL.of el),nl,HT.hand (O.Q7 bk') hts⟩,good,y3z R n12 wr hw,by omega,by rw[y1z];omega,fun fp2 H6 hf2 b6 bk6=>?_⟩
  rw[ino,lti,<- z0n ew,<- y34] at bk6
  exact⟨fp2,_,(fun b o e nb=>b6 b o (sl _ _ (bt b o e nb)) fun m=>(ff b m).elim nb fun z=>by rw[e] at z;cases z),bk6,y2T bt ff sl hf2,rfl⟩
 rintro σ H6 ⟨fp6,o6,bt6,bk6,ff6,rfl⟩
 rw[lus,bT] at bk6
 have h60:∀x∈hs,1≤x/\x≤60:=fun x hx=>by have:=hsr x hx;omega
 have f6:∀{b:Addr}{o:HO},H3 b=some o->b∉fp6:=fun e m=>(ff6 _ m).elim (out e) fun z=>by rw[s5 _ _ e] at z;cases z
 have eN6:=bt6 _ _ eN5 (out eN3)
 have eR6:=bt6 _ _ eR5 (out eR3)
 have eH6:=bt6 _ _ eL5 (out e3)
 have tl6:z08 H6 (rows.map N1) us:=z08.but bt6 ntp _ _ tl5
 have hS6:SqL K H6 a (ns.map V.int):=by
  have h3:=s13.seq hS
  rcases h3 with (h|⟨o,h⟩)|h
  ·exact .inl (.inl (bt6 _ _ (s5 _ _ h) (out h)))
  ·exact .inl (.inr ⟨o,bt6 _ _ (s5 _ _ h) (out h)⟩)
  ·exact .inr h
 have kH:=f6 e3
 have kN:=f6 eN3
 have kR:=f6 eR3
 have Y0:∀{b:Addr},H6 b=none->b∉fp6:=fun e m=>by
  obtain⟨o,e',_⟩:=O.own bk6 _ m
  rw[e] at e'
  cases e'
 clear bt6 ff6 bk5 b5 hfp f5 tl5 tl3 tl eN eR eR3 eN3 e3 eR5 eN5 eL5 s5 ntp hS s13 s12 s1 s2 s3 mm1 out f6
 refine⟨_,rfl,by decide,by decide,?_⟩
 refine z8T (lo:=0) (n:=2) (fun i ys G=>A3 H6 G/\ys.length=i/\∀v∈ys,∃(l:Addr) (ts:List Int),v=.ref l/\H6 l=none/\G l=some (.lst (ts.map V.int))/\(∀x,x∈ts↔x∈hs)/\ts.length≤2*hs.length) ⟨A3.refl _,rfl,fun _ h=>nomatch h⟩ (fun i ys G hi hp=>?_) (fun i ys G hi hp=>?_) (fun ys H7 hp=>?_)
 ·exact z0e (by omega)
 ·obtain⟨g,ly,hy⟩:=hp
  refine⟨_,rfl,_,rfl,_,rfl,_,_,rfl,rfl,a,ns,6+(0+(i:Int)),rfl,g.seq hS6,by omega,lh,hs,_,rfl,SqL.of (g _ _ eH6),w0b,fun l ts G1 nl g1 e1 mt lt=>?_⟩
  refine⟨g.trans g1,by rw[bG,ly];rfl,fun v hv=>?_⟩
  rcases bN.mp hv with hv|hv
  ·obtain⟨l',ts',rfl,n',e',m',t'⟩:=hy v hv
   exact⟨l',ts',rfl,n',g1 _ _ e',m',t'⟩
  ·exact⟨l,ts,b8.mp hv,g.free nl,e1,mt,lt⟩
 obtain⟨g7,ly,hy⟩:=hp
 obtain⟨u1,u2,rfl⟩:∃u1 u2,ys=[u1,u2]:=by
  match ys,ly with
  | [u1,u2],_=>exact⟨u1,u2,rfl⟩
 obtain⟨la,ta,rfl,na,ea,ma,za⟩:=hy u1 bU
 obtain⟨lb,tb,rfl,nb,eb,mb,zb⟩:=hy u2 (bS _ bU)
 clear hy
 intro D hD
 have sD:=z01 hD (.lst [V.ref la,V.ref lb])
 have eD:upd H7 D (.lst [V.ref la,V.ref lb]) D=some (.lst [V.ref la,V.ref lb]):=z03
 generalize upd H7 D (.lst [V.ref la,V.ref lb])=H8 at sD eD
 have g8:=g7.trans sD
 refine⟨_,rfl,_,rfl,lh,_,rfl,rfl,SqL.of (g8 _ _ eH6),fun lv hlv=>⟨(by show 1≤sizeLine;decide),fun l0 hl0=>⟨D,l0,_,_,rfl,rfl,z01 hl0 _ _ _ (z01 hlv _ _ _ eD),z03,?_,fun lo hlo=>?_⟩⟩⟩
 ·exact dQ (z0e (by show 3≤1000;decide))
 have sv:=z01 hlv (.lst (hs.map V.int).reverse)
 have sO:=(z01 hl0 (.lst [V.ref lv])).trans (z01 hlo (.lst ([V.ref la,V.ref lb]++[V.ref lv])))
 have ev:upd H8 lv (.lst (hs.map V.int).reverse) lv=some (.lst (hs.reverse.map V.int)):=by rw[z03,jX]
 have eO:upd (upd (upd H8 lv (.lst (hs.map V.int).reverse)) l0 (.lst [V.ref lv])) lo (.lst ([V.ref la,V.ref lb]++[V.ref lv])) lo=some (.lst [V.ref la,V.ref lb,V.ref lv]):=z03
 have nlo:H6 lo=none:=(g8.trans (sv.trans (z01 hl0 _))).free hlo
 generalize upd (upd (upd H8 lv (.lst (hs.map V.int).reverse)) l0 (.lst [V.ref lv])) lo (.lst ([V.ref la,V.ref lb]++[V.ref lv]))=H9 at sO eO
 have g9:=g8.trans (sv.trans sO)
 have ea9:=(sD.trans (sv.trans sO)) _ _ ea
 have eb9:=(sD.trans (sv.trans sO)) _ _ eb
 have ev9:=sO _ _ ev
 have nv:=g8.free hlv
 let os:Nat->List Int:=fun j=>if j=0 then ta else if j=1 then tb else hs.reverse
 have all:∀j:Nat,j<3->∃lj,atI [V.ref la,V.ref lb,V.ref lv] (0+(j:Int))=some (.ref lj)/\H9 lj=some (.lst ((os j).map V.int))/\lj∉fp6/\(∀n,n∈os j↔n∈hs)/\(os j).length≤2*hs.length:=fun j hj=>by
  match j,hj with
  | 0,_=>exact⟨la,rfl,ea9,Y0 na,ma,za⟩
  | 1,_=>exact⟨lb,rfl,eb9,Y0 nb,mb,zb⟩
  | 2,_=>exact⟨lv,rfl,ev9,Y0 nv,fun n=>fZ,by show hs.reverse.length≤_;rw[dS];omega⟩
 have o2:(os 2).length≤60:=by show hs.reverse.length≤60;rw[dS];exact w0b
 clear_value os
 have bk9:=O.same bk6 g9
 have eN9:=g9 _ _ eN6
 have eR9:=g9 _ _ eR6
 have eH9:=g9 _ _ eH6
 have tl9:=z08.keep g9 _ _ tl6
 have kO:=Y0 nlo
 clear sO sv ev sD g8 g7 ea eb eD ea9 eb9 ev9 hlv hl0 hlo hD bk6 g9 hS6 eN6 eR6 eH6 tl6
 have nt9:z5G H9 fp6:=O.Q7 bk9
 have d0:z4Y os (F9 0 0) []:=by
  refine⟨fun rd n=>Iff.intro (fun h=>nomatch h) (fun⟨j,_,_,h⟩=>?_),cV _⟩
  rw[z5s (cV _),cS] at h
  cases h
 have few:∀{c:Nat->Nat}{dl:List C1},z4Y os c dl->(O2 rows.length++dl).length<400:=fun {c dl} h=>by
  have:=h.2
  rw[bG,y1z]
  have t0:=gH (c 0) (os 0)
  have t1:=gH (c 1) (os 1)
  have t2:=gH (c 2) (os 2)
  have t0':((os 0).take (c 0)).length≤(os 0).length:=by rw[bH];exact hW _ _
  have t1':((os 1).take (c 1)).length≤(os 1).length:=by rw[bH];exact hW _ _
  have t2':((os 2).take (c 2)).length≤(os 2).length:=by rw[bH];exact hW _ _
  obtain⟨_,_,_,_,_,a0⟩:=all 0 (by decide)
  obtain⟨_,_,_,_,_,a1⟩:=all 1 (by decide)
  omega
 have lhs:(hs.map V.int).length=hs.length:=b7 _
 refine⟨_,rfl,lh,_,rfl,.inl (SqL.of eH9),_,_,rfl,rfl,.inl ⟨by omega,by omega⟩,_,rfl,by omega,by omega,?_⟩
 refine z0U (lo:=0) (n:=((2:Int)*(((hs.map V.int).length:Nat):Int)).toNat) (fun i σ G=>∃(dl:List C1) (p8 p9:Option V),z0B fp6 H9 G/\Bk G x fp6 nm r 3 rows (O2 rows.length++dl)/\z4Y os (F9 i 0) dl/\
   σ=[some (.ref a),some (.ref ln),some (.ref lr),some (.int r),some (.ref lh),some (.ref x),o6,some (.ref lo),p8,p9,none]) ⟨[],none,none,.of (A3.refl _),(cY (O2 rows.length)).symm ▸ bk9,d0,rfl⟩ (fun i σ G hi hp=>?_) (fun σ HA hp=>?_)
 ·obtain⟨dl,p8,p9,bt,bk,de,rfl⟩:=hp
  refine⟨_,rfl,by decide,by decide,?_⟩
  refine z0U (lo:=0) (n:=3) (fun j σ G=>∃(dl:List C1) (p9:Option V),z0B fp6 H9 G/\Bk G x fp6 nm r 3 rows (O2 rows.length++dl)/\z4Y os (F9 i j) dl/\
   σ=[some (.ref a),some (.ref ln),some (.ref lr),some (.int r),some (.ref lh),some (.ref x),o6,some (.ref lo),some (.int (0+(i:Int))),p9,none]) ⟨dl,_,bt,bk,de,rfl⟩ (fun j σ G hj hp=>?_) (fun σ G hp=>?_)
  ·obtain⟨dl,p9,bt,bk,de,rfl⟩:=hp
   obtain⟨lj,aj,ej,kj,mj,zj⟩:=all j hj
   have eO':=bt _ _ eO kO
   have ej':=bt _ _ ej kj
   have ei:(0:Int)+(i:Int)=(i:Int):=eU _
   have lj':((os j).map V.int).length=(os j).length:=b7 _
   refine⟨_,rfl,_,rfl,_,rfl,lo,_,_,_,rfl,rfl,SqL.of eO',aj,lj,_,rfl,.inl (SqL.of ej'),_,_,rfl,rfl,_,rfl,?_⟩
   refine B0 (fun c=>?_) (fun c=>?_)
   ·have c':(0:Int)+(i:Int)<(((os j).map V.int).length:Int):=z0F c
    have hij:i<(os j).length:=by omega
    obtain⟨n,en⟩:∃n,(os j)[i]? = some n:=⟨_,bC hij⟩
    have hn:=hsr n ((mj n).mp (bO en))
    have an:atI ((os j).map V.int) (0+(i:Int))=some (.int n):=by
     rw[ei]
     exact z0K (by rw[bB,en];rfl)
    obtain⟨d2,g2,z2,w2⟩:=O.ins bk
    refine⟨_,rfl,x,d2,g2,rfl,z2,w2 _ (by simp),_,rfl,_,_,rfl,rfl,_,rfl,_,rfl,lo,_,_,_,rfl,rfl,SqL.of eO',aj,_,rfl,lj,_,_,_,rfl,rfl,SqL.of ej',an,x,fp6,nm,r,3,rows,_,0+(j:Int)+1,n,rfl,bk,by omega,by omega,hn.1,hn.2,few de,fun G1 b1 bk1=>?_⟩
    rw[fS] at bk1
    exact⟨_,_,fun b o e nb=>b1 b o (bt b o e nb) nb,bk1,de.step hj en,rfl⟩
   ·have c':¬(0:Int)+(i:Int)<(((os j).map V.int).length:Int):=fun h=>c (decide_eq_true h)
    exact⟨dl,_,bt,bk,de.skip (by omega),rfl⟩
  ·obtain⟨dl,p9,bt,bk,de,rfl⟩:=hp
   exact⟨dl,_,_,bt,bk,de.next,rfl⟩
 obtain⟨dl,p8,p9,btA,bkA,deA,rfl⟩:=hp
 have gm:∀j:Nat,j<3->∀n,n∈R6 (O2 rows.length++dl) (0+(j:Int)+1)↔n∈hs:=fun j hj n=>by
  obtain⟨_,_,_,_,mj,zj⟩:=all j hj
  rw[y4N,bN,deA.1]
  constructor
  ·rintro(h|⟨j',h1,h2,h3⟩)
   ·unfold O2 at h
    obtain⟨k,_,e⟩:=cO.mp h
    cases e
   ·have:j'=j:=by omega
    subst this
    exact(mj n).mp (jB h3)
  ·intro h
   refine .inr ⟨j,hj,rfl,?_⟩
   rw[z5s (cV _),cL (by omega)]
   exact(mj n).mpr h
 have eNA:=btA _ _ eN9 kN
 have eRA:=btA _ _ eR9 kR
 have eHA:=btA _ _ eH9 kH
 have tlA:z08 HA (rows.map N1) us:=z08.but btA nt9 _ _ tl9
 generalize O2 rows.length++dl=log at bkA gm
 clear deA few all d0 nt9 btA tl9 eN9 eR9 eH9 bk9
 have hup:∀n∈hs,n≤(rows.length:Int):=fun n hn=>(hsr n hn).2
 refine⟨_,rfl,by decide,by decide,?_⟩
 refine z0U (lo:=0) (n:=3) (fun j σ G=>∃(p9 p10:Option V),A3 HA G/\σ=[some (.ref a),some (.ref ln),some (.ref lr),some (.int r),some (.ref lh),some (.ref x),o6,some (.ref lo),p8,p9,p10]) ⟨_,_,A3.refl _,rfl⟩ (fun j σ G hj hp=>?_) (fun σ G hp=>q _)
 obtain⟨p9',p10,g,rfl⟩:=hp
 have bkG:=O.same bkA g
 obtain⟨d3,g3,z3,w3⟩:=O.ins bkG
 refine⟨_,rfl,x,d3,g3,rfl,z3,w3 _ (by simp),_,rfl,_,_,rfl,rfl,x,fp6,nm,r,3,rows,_,0+(j:Int)+1,none,rfl,bkG,by omega,by omega,(fun d h=>by cases h),fun x5 f5 HB fn5 sB sh5=>?_⟩
 rw[show log.take (Option.getD none log.length)=log from bT] at sh5
 have P1:∀n∈R6 log (0+(j:Int)+1),1≤n/\n≤(rows.length:Int):=fun n hn=>hsr n ((gm j hj n).mp hn)
 have cB:=g.trans sB
 refine⟨_,rfl,_,rfl,_,rfl,_,rfl,_,rfl,x5,ln,lh,lr,f5,nm,r,us,rows,rows,_,hs,rfl,sh5,gn,R,r60,P1,r0,by omega,cB _ _ eNA,cB _ _ eHA,rise,gm j hj,cB _ _ eRA,z08.keep cB _ _ tlA,hup,y3z R n12,z5c.refl _ _ _,fun HC sC=>⟨_,rfl,B1 ?_⟩⟩
 have cC:=cB.trans sC
 refine⟨_,rfl,_,rfl,_,rfl,_,rfl,_,rfl,x5,ln,lh,lr,f5,nm,r,us,rows,rows,_,hs,rfl,OS.same sh5 sC,gn,R,r60,P1,r0,by omega,cC _ _ eNA,cC _ _ eHA,rise,gm j hj,cC _ _ eRA,z08.keep cC _ _ tlA,hup,y3z R n12,z5c.refl _ _ _,fun HD sD=>⟨_,rfl,B1 ?_⟩⟩
 exact⟨_,_,cC.trans sD,rfl⟩
end
theorem y7x{l:PySem.W.OpenLaw}{w:World}{K:PySem.W.Frag}{h:Heap}{mg:Str->Option Value}{fa:Addr}(X:K.In h)(G:h.Ns mainGlobals mg)(hfa:mg "law"=some (.ref fa))
  {f0 f1 f2 f3 f4 f5 f6 f7 f8 f9 f10 f11 f12 f13 f14 f15 f16 f17 f18 f19 f20 f21 f22 f23 f24 f25 f26 f27 f28 f29 f30 f31 f32 f33 f34 f35 f36 f37 f38 f39 f40 f41 f42 f43 f44 f45 f46 f47 f48 f49 f50 f51 f52 f53 f54 f55 f56 f57 f58 f59 f60 f61 f62 f63 f64 f65 f66 f67 f68 f69 f70 f71 f72 f73 f74 f75 f76 f77 A1 A0 A4 T36 T49:Addr}{S9 U0 R5 T3 R4 S5 w02 X2 w0B w06 w0T:Tok}
  (cOffice:DfC K "Office" A1)
  (cShelf:DfC K "Shelf" A0)
  (cBook:DfC K "Book" A4)
  (nOffice_names:PySem.W.findIn K (.ref A1) "names"=some none)
  (nOffice_reach:PySem.W.findIn K (.ref A1) "reach"=some none)
  (nOffice_written:PySem.W.findIn K (.ref A1) "written"=some none)
  (nShelf_names:PySem.W.findIn K (.ref A0) "names"=some none)
  (nShelf_reach:PySem.W.findIn K (.ref A0) "reach"=some none)
  (nShelf_issues:PySem.W.findIn K (.ref A0) "issues"=some none)
  (nBook_office:PySem.W.findIn K (.ref A4) "office"=some none)
  (nBook_readers:PySem.W.findIn K (.ref A4) "readers"=some none)
  (nBook_done:PySem.W.findIn K (.ref A4) "done"=some none)
  (a0:DfT K "refuse_bad_names" z2o .none f0)
  (a1:DfT K "refuse_bad_reach" z2u .none f1)
  (a2:DfT K "bulletin_names" z2T .none f2)
  (a3:DfT K "refuse_unknown_name" z1R .none f3)
  (a4:DfT K "lacking_numbers" z2E .none f4)
  (a5:DfT K "reached_by" z5d .none f5)
  (a6:DfT K "teller_of" z6H .none f6)
  (a7:DfT K "lacking_with_tellers" z1I .none f7)
  (a8:DfT K "dark_numbers" z41 .none f8)
  (a9:DfT K "dark_numbers_behind" z1P .none f9)
  (a10:DfT K "tail_for" z7X .none f10)
  (a11:DfT K "refuse_bad_value" z2s .none f11)
  (a12:DfT K "refuse_bad_rows" z2F .none f12)
  (a13:DfT K "rows_in_order" z3l .none f13)
  (a14:DfT K "names_of_rows" z3i .none f14)
  (a15:DfM K A1 "__init__" "Office.__init__" z2K .none f15)
  (a16:DfM K A1 "refuse_writing" "Office.refuse_writing" z1u .none f16)
  (a17:DfM K A1 "write" "Office.write" z3V .none f17)
  (a18:DfM K A1 "latest" "Office.latest" z3p .none f18)
  (a19:DfM K A1 "issue" "Office.issue" z42 .none f19)
  (a20:DfM K A0 "__init__" "Shelf.__init__" z2V .none f20)
  (a21:DfM K A0 "put" "Shelf.put" z6v .none f21)
  (a22:DfM K A0 "had" "Shelf.had" z6x .none f22)
  (a23:DfM K A0 "latest" "Shelf.latest" z3N .none f23)
  (a24:DfM K A0 "rows_of" "Shelf.rows_of" z3z .none f24)
  (a25:DfM K A0 "tail_of" "Shelf.tail_of" z3w .none f25)
  (a26:DfT K "refuse_bad_readers" z22 .none f26)
  (a27:DfM K A4 "__init__" "Book.__init__" z3x .none f27)
  (a28:DfM K A4 "refuse_unknown_reader" "Book.refuse_unknown_reader" z14 .none f28)
  (a29:DfM K A4 "refuse_further_deed" "Book.refuse_further_deed" z1f .none f29)
  (a30:DfM K A4 "write" "Book.write" z5v .none f30)
  (a31:DfM K A4 "deliver" "Book.deliver" z3P .none f31)
  (a32:DfM K A4 "latest" "Book.latest" z4D .none f32)
  (a33:DfM K A4 "issue" "Book.issue" z5K .none f33)
  (a34:DfM K A4 "deeds" "Book.deeds" z5B .none f34)
  (a35:DfM K A4 "deed" "Book.deed" z6k .none f35)
  (a36:DfM K A4 "shelf" "Book.shelf" z5i (.ref T36) f36)
  (a37:DfT K "held_for" z81 .none f37)
  (a38:DfT K "names_told_of" z3q .none f38)
  (a39:DfT K "gaps_of" z9y .none f39)
  (a40:DfT K "set_again" z6I .none f40)
  (a41:DfT K "state_of" z7J .none f41)
  (a42:DfT K "state_and_held" z36 .none f42)
  (a43:DfT K "knowledge" z6O .none f43)
  (a44:DfT K "known_sets" z5H .none f44)
  (a45:DfT K "two_to_the" z5g .none f45)
  (a46:DfT K "course_count" z3R .none f46)
  (a47:DfT K "two_courses" z4w .none f47)
  (a48:DfT K "fewest_numbers" z2R .none f48)
  (a49:DfT K "send_for" z7V (.ref T49) f49)
  (a50:DfT K "_law_at" z9p .none f50)
  (a51:DfT K "_law_pick" z6J .none f51)
  (a52:DfT K "_law_row" z7F .none f52)
  (a53:DfT K "_law_whole" z5r .none f53)
  (a54:DfT K "_law_same" z4P .none f54)
  (a55:DfT K "_law_named" z5N .none f55)
  (a56:DfT K "_law_doubled" z3T .none f56)
  (a57:DfT K "_law_sets" z6s .none f57)
  (a58:DfT K "_law_value" z5e .none f58)
  (a59:DfT K "_law_valued" z4u .none f59)
  (a60:DfT K "_law_had" z8v .none f60)
  (a61:DfT K "_law_shuffled" z3y .none f61)
  (a62:DfT K "_law_teller" z4s .none f62)
  (a63:DfT K "_law_gaps" z6j .none f63)
  (a64:DfT K "_law_held" z6q .none f64)
  (a65:DfT K "_law_again" z5o .none f65)
  (a66:DfT K "_law_state" z5L .none f66)
  (a67:DfT K "_law_table" z5E .none f67)
  (a68:DfT K "_law_dark" z6y .none f68)
  (a69:DfT K "_law_known" z5u .none f69)
  (a70:DfT K "_law_course" z4j .none f70)
  (a71:DfT K "_law_in_course" z2X .none f71)
  (a72:DfT K "_law_plan" z6i .none f72)
  (a73:DfT K "_law_numbers" z3X .none f73)
  (a74:DfT K "_law_names" z5h .none f74)
  (a75:DfT K "_law_name_told" z2Q .none f75)
  (a76:DfT K "_law_all_told" z3s .none f76)
  (a77:DfT K "law" w0f .none f77)
  (d36:DfD K T36 #[Value.none])
  (d49:DfD K T49 #[Value.none])
  (zlen:PySem.W.nsIn K mainGlobals "len"=some none) (zrange:PySem.W.nsIn K mainGlobals "range"=some none) (ztuple:PySem.W.nsIn K mainGlobals "tuple"=some none) (zlist:PySem.W.nsIn K mainGlobals "list"=some none) (zmax:PySem.W.nsIn K mainGlobals "max"=some none) (zmin:PySem.W.nsIn K mainGlobals "min"=some none) (zsorted:PySem.W.nsIn K mainGlobals "sorted"=some none) (zisinstance:PySem.W.nsIn K mainGlobals "isinstance"=some none) (zbool:PySem.W.nsIn K mainGlobals "bool"=some none) (zint:PySem.W.nsIn K mainGlobals "int"=some none) (zstr:PySem.W.nsIn K mainGlobals "str"=some none) (zset:PySem.W.nsIn K mainGlobals "set"=some none) (zreversed:PySem.W.nsIn K mainGlobals "reversed"=some none) (zdict:PySem.W.nsIn K mainGlobals "dict"=some none) (zzip:PySem.W.nsIn K mainGlobals "zip"=some none) (zall:PySem.W.nsIn K mainGlobals "all"=some none) (vMOST_NAMES:PySem.W.nsIn K mainGlobals "MOST_NAMES"=some (some (.int 12 S9))) (vMOST_REACH:PySem.W.nsIn K mainGlobals "MOST_REACH"=some (some (.int 10 U0))) (vMOST_NUMBERS:PySem.W.nsIn K mainGlobals "MOST_NUMBERS"=some (some (.int 60 R5))) (vMOST_VALUE:PySem.W.nsIn K mainGlobals "MOST_VALUE"=some (some (.int 1000000 T3))) (vMOST_READERS:PySem.W.nsIn K mainGlobals "MOST_READERS"=some (some (.int 10 R4))) (vMOST_DEEDS:PySem.W.nsIn K mainGlobals "MOST_DEEDS"=some (some (.int 400 S5))) (vWRITE:PySem.W.nsIn K mainGlobals "WRITE"=some (some (.str "write" w02))) (vDELIVER:PySem.W.nsIn K mainGlobals "DELIVER"=some (some (.str "deliver" X2))) (vSURE:PySem.W.nsIn K mainGlobals "SURE"=some (some (.str "sure" w0B))) (vSTALE:PySem.W.nsIn K mainGlobals "STALE"=some (some (.str "stale" w06))) (vOPEN:PySem.W.nsIn K mainGlobals "OPEN"=some (some (.str "open" w0T))) :
  ∃fd:FuncData,(∀(s:Shared) (v:Value),BindsTo s fd ⟨[v],[]⟩ [("_law_script",v)])/\∀base:Heap,K.In base->base.Ns mainGlobals mg->A7 l.prog w K mg base CX0 14 fa fd ["_law_script"] (y59 K):=by
 have M:Bl mg:=⟨cQ X G zlen,cQ X G zrange,cQ X G ztuple,cQ X G zlist,cQ X G zmax,cQ X G zmin,cQ X G zsorted,cQ X G zisinstance,cQ X G zbool,cQ X G zint,cQ X G zstr,cQ X G zset,cQ X G zreversed,cQ X G zdict,cQ X G zzip,cQ X G zall,⟨_,d9 X G vMOST_NAMES⟩,⟨_,d9 X G vMOST_REACH⟩,⟨_,d9 X G vMOST_NUMBERS⟩,⟨_,d9 X G vMOST_VALUE⟩,⟨_,d9 X G vMOST_READERS⟩,⟨_,d9 X G vMOST_DEEDS⟩,⟨_,d9 X G vWRITE⟩,⟨_,d9 X G vDELIVER⟩,⟨_,d9 X G vSURE⟩,⟨_,d9 X G vSTALE⟩,⟨_,d9 X G vOPEN⟩⟩
 have E1:J2 K mg A1:=⟨cOffice.cls,cOffice.nm X G,nOffice_names,nOffice_reach,nOffice_written⟩
 have C4:C8 K mg A0:=⟨cShelf.cls,cShelf.nm X G,nShelf_names,nShelf_reach,nShelf_issues⟩
 have D7:J3 K mg A4:=⟨cBook.cls,cBook.nm X G,nBook_office,nBook_readers,nBook_done⟩
 obtain⟨_,Frefuse_bad_names⟩:=z0x X G a0
 obtain⟨_,Frefuse_bad_reach⟩:=z0x X G a1
 obtain⟨_,Fbulletin_names⟩:=z0x X G a2
 obtain⟨_,Frefuse_unknown_name⟩:=z0x X G a3
 obtain⟨_,Flacking_numbers⟩:=z0x X G a4
 obtain⟨_,Freached_by⟩:=z0x X G a5
 obtain⟨_,Fteller_of⟩:=z0x X G a6
 obtain⟨_,Flacking_with_tellers⟩:=z0x X G a7
 obtain⟨_,Fdark_numbers⟩:=z0x X G a8
 obtain⟨_,Fdark_numbers_behind⟩:=z0x X G a9
 obtain⟨_,Ftail_for⟩:=z0x X G a10
 obtain⟨_,Frefuse_bad_value⟩:=z0x X G a11
 obtain⟨_,Frefuse_bad_rows⟩:=z0x X G a12
 obtain⟨_,Frows_in_order⟩:=z0x X G a13
 obtain⟨_,Fnames_of_rows⟩:=z0x X G a14
 obtain⟨_,FOffice___init__⟩:=y0S cOffice a15
 obtain⟨_,FOffice_refuse_writing⟩:=z1F a16
 obtain⟨_,FOffice_write⟩:=z1F a17
 obtain⟨_,FOffice_latest⟩:=z1F a18
 obtain⟨_,FOffice_issue⟩:=z1F a19
 obtain⟨_,FShelf___init__⟩:=y0S cShelf a20
 obtain⟨_,FShelf_put⟩:=z1F a21
 obtain⟨_,FShelf_had⟩:=z1F a22
 obtain⟨_,FShelf_latest⟩:=z1F a23
 obtain⟨_,FShelf_rows_of⟩:=z1F a24
 obtain⟨_,FShelf_tail_of⟩:=z1F a25
 obtain⟨_,Frefuse_bad_readers⟩:=z0x X G a26
 obtain⟨_,FBook___init__⟩:=y0S cBook a27
 obtain⟨_,FBook_refuse_unknown_reader⟩:=z1F a28
 obtain⟨_,FBook_refuse_further_deed⟩:=z1F a29
 obtain⟨_,FBook_write⟩:=z1F a30
 obtain⟨_,FBook_deliver⟩:=z1F a31
 obtain⟨_,FBook_latest⟩:=z1F a32
 obtain⟨_,FBook_issue⟩:=z1F a33
 obtain⟨_,FBook_deeds⟩:=z1F a34
 obtain⟨_,FBook_deed⟩:=z1F a35
 obtain⟨_,FBook_shelf⟩:=y51 a36 d36
 have S6:=FBook_shelf.1.binds (ps:=["self","reader","deed"]) (ds:=[]) fun _ _ _ _ _ _ us hl=>w08 (p:=fun us=>∃k,bindArgs _ ⟨us,[]⟩=seqItems? _ >>= k/\k (some _)=pure (List.zip _ (us++[]))) hl fun _ _ _=>⟨_,rfl,rfl⟩
 have S4:=FBook_shelf.1.binds (ps:=["self","reader","deed"]) (ds:=[Value.none]) fun _ _ _ _ _ _ us hl=>X7 (p:=fun us=>∃k,bindArgs _ ⟨us,[]⟩=seqItems? _ >>= k/\k (some _)=pure (List.zip _ (us++[Value.none]))) (Nat.succ.inj (hl)) fun _ _=>⟨_,rfl,rfl⟩
 obtain⟨_,Fheld_for⟩:=z0x X G a37
 obtain⟨_,Fnames_told_of⟩:=z0x X G a38
 obtain⟨_,Fgaps_of⟩:=z0x X G a39
 obtain⟨_,Fset_again⟩:=z0x X G a40
 obtain⟨_,Fstate_of⟩:=z0x X G a41
 obtain⟨_,Fstate_and_held⟩:=z0x X G a42
 obtain⟨_,Fknowledge⟩:=z0x X G a43
 obtain⟨_,Fknown_sets⟩:=z0x X G a44
 obtain⟨_,Ftwo_to_the⟩:=z0x X G a45
 obtain⟨_,Fcourse_count⟩:=z0x X G a46
 obtain⟨_,Ftwo_courses⟩:=z0x X G a47
 obtain⟨_,Ffewest_numbers⟩:=z0x X G a48
 obtain⟨_,Fsend_for⟩:=y6H X G a49 d49
 have V9:=Fsend_for.1.binds (ps:=["shelf","name"]) (ds:=[]) fun _ _ _ _ _ _ us hl=>X7 (p:=fun us=>∃k,bindArgs _ ⟨us,[]⟩=seqItems? _ >>= k/\k (some _)=pure (List.zip _ (us++[]))) hl fun _ _=>⟨_,rfl,rfl⟩
 have U5:=Fsend_for.1.binds (ps:=["shelf","name"]) (ds:=[Value.none]) fun _ _ _ _ _ _ us hl=>P8 (p:=fun us=>∃k,bindArgs _ ⟨us,[]⟩=seqItems? _ >>= k/\k (some _)=pure (List.zip _ (us++[Value.none]))) (Nat.succ.inj (hl)) fun _=>⟨_,rfl,rfl⟩
 obtain⟨_,F_law_at⟩:=z0x X G a50
 obtain⟨_,F_law_pick⟩:=z0x X G a51
 obtain⟨_,F_law_row⟩:=z0x X G a52
 obtain⟨_,F_law_whole⟩:=z0x X G a53
 obtain⟨_,F_law_same⟩:=z0x X G a54
 obtain⟨_,F_law_named⟩:=z0x X G a55
 obtain⟨_,F_law_doubled⟩:=z0x X G a56
 obtain⟨_,F_law_sets⟩:=z0x X G a57
 obtain⟨_,F_law_value⟩:=z0x X G a58
 obtain⟨_,F_law_valued⟩:=z0x X G a59
 obtain⟨_,F_law_had⟩:=z0x X G a60
 obtain⟨_,F_law_shuffled⟩:=z0x X G a61
 obtain⟨_,F_law_teller⟩:=z0x X G a62
 obtain⟨_,F_law_gaps⟩:=z0x X G a63
 obtain⟨_,F_law_held⟩:=z0x X G a64
 obtain⟨_,F_law_again⟩:=z0x X G a65
 obtain⟨_,F_law_state⟩:=z0x X G a66
 obtain⟨_,F_law_table⟩:=z0x X G a67
 obtain⟨_,F_law_dark⟩:=z0x X G a68
 obtain⟨_,F_law_known⟩:=z0x X G a69
 obtain⟨_,F_law_course⟩:=z0x X G a70
 obtain⟨_,F_law_in_course⟩:=z0x X G a71
 obtain⟨_,F_law_plan⟩:=z0x X G a72
 obtain⟨_,F_law_numbers⟩:=z0x X G a73
 obtain⟨_,F_law_names⟩:=z0x X G a74
 obtain⟨_,F_law_name_told⟩:=z0x X G a75
 obtain⟨_,F_law_all_told⟩:=z0x X G a76
 obtain⟨_,Flaw⟩:=z0x X G a77
 have e:=hfa.symm.trans Flaw.2
 cases e
 refine⟨_,y2I Flaw.1,fun base _ _=>?_⟩
 have W8:=y1X (P:=l.prog) (w:=w) (base:=base) M F_law_same.1 (b2 F_law_same.1) F_law_same.2
 have cal:=@calF l.prog w K mg base
 have mcl:=@mclF l.prog w K mg base
 have mkr:=@mkrF l.prog w K mg base
 have C6:=cal F_law_at (w0O M F_law_at.1) (b2 F_law_at.1)
 have D1:=cal F_law_pick (y6m F_law_pick.1) (b2 F_law_pick.1)
 have C0:=cal F_law_row (y74 M F_law_row.1) (b3 F_law_row.1)
 have C2:=cal F_law_teller (y2j M F_law_teller.1) (b3 F_law_teller.1)
 have M6:=cal F_law_whole (y55 M F_law_whole.1) (b1 F_law_whole.1)
 have M8:=cal F_law_named (y4J M F_law_named.1) (b2 F_law_named.1)
 have D3:=cal F_law_doubled (y1Z M F_law_doubled.1) (b1 F_law_doubled.1)
 have M9:=cal F_law_value (y5m F_law_value.1) (b2 F_law_value.1)
 have E6:=cal Frefuse_bad_names (y15 M Frefuse_bad_names.1) (b1 Frefuse_bad_names.1)
 have E7:=cal Frefuse_bad_reach (y11 M Frefuse_bad_reach.1) (b1 Frefuse_bad_reach.1)
 have L5:=mcl C4.cl FShelf_put (y7u (A0:=A0) M C4 FShelf_put.1) (b2 FShelf_put.1)
 have A6:=mcl C4.cl FShelf_had (y5h (A0:=A0) M C4 FShelf_had.1) (b1 FShelf_had.1)
 have F7:=cal F_law_held (y5x M F_law_held.1) (b3 F_law_held.1)
 have E4:=cal F_law_again (y4I M F_law_again.1) (b3 F_law_again.1)
 have N0:=cal Freached_by (y2e M Freached_by.1) (b2 Freached_by.1)
 have B6:=cal Frefuse_unknown_name (y7q M Frefuse_unknown_name.1) (b2 Frefuse_unknown_name.1)
 have E9:=cal Frefuse_bad_value (y4t M Frefuse_bad_value.1) (b1 Frefuse_bad_value.1)
 have K0:=cal Frows_in_order (y2C M Frows_in_order.1) (b2 Frows_in_order.1)
 have C9:=cal Fnames_of_rows (y4G M Fnames_of_rows.1) (b1 Fnames_of_rows.1)
 have J9:=mcl E1.cl FOffice_latest (y0K (A1:=A1) M E1 FOffice_latest.1) (b1 FOffice_latest.1)
 have B7:=mcl E1.cl FOffice_issue (y2F (A1:=A1) M E1 FOffice_issue.1) (b2 FOffice_issue.1)
 have D8:=cal Frefuse_bad_readers (z9N M Frefuse_bad_readers.1) (b1 Frefuse_bad_readers.1)
 have A8:=mcl D7.cl FBook_refuse_unknown_reader (y04 (A4:=A4) (A1:=A1) M D7 FBook_refuse_unknown_reader.1) (b2 FBook_refuse_unknown_reader.1)
 have A9:=mcl D7.cl FBook_refuse_further_deed (y2w (A4:=A4) (A1:=A1) M D7 FBook_refuse_further_deed.1) (b1 FBook_refuse_further_deed.1)
 have Y7:=mcl D7.cl FBook_deeds (y2o (A4:=A4) (A1:=A1) M D7 FBook_deeds.1) (b1 FBook_deeds.1)
 have F3:=cal Flacking_numbers (y6P M Flacking_numbers.1) (b1 Flacking_numbers.1)
 have N9:=cal Fteller_of (y3A M Fteller_of.1) (b3 Fteller_of.1)
 have J4:=mcl C4.cl FShelf_tail_of (y3m (A0:=A0) M C4 FShelf_tail_of.1) (b2 FShelf_tail_of.1)
 have D0:=mcl C4.cl FShelf_rows_of (y4w (A0:=A0) M C4 FShelf_rows_of.1) (b2 FShelf_rows_of.1)
 have w0e:=mcl D7.cl FBook_deed (y4l (A4:=A4) (A1:=A1) M D7 FBook_deed.1) (b2 FBook_deed.1)
 have M1:=cal Ftwo_to_the (y7h M Ftwo_to_the.1) (b1 Ftwo_to_the.1)
 have J0:=cal F_law_course (y2p M F_law_course.1) (b3 F_law_course.1)
 have E2:=cal F_law_in_course (y0v M F_law_in_course.1) (b3 F_law_in_course.1)
 have O9:=cal F_law_had (y7w M F_law_had.1 C0.up) (b2 F_law_had.1)
 have J5:=cal F_law_shuffled (y6Y M F_law_shuffled.1 C0.up) (b2 F_law_shuffled.1)
 have N4:=cal F_law_sets (y6L M F_law_sets.1 C0.up D3.up) (b3 F_law_sets.1)
 have L3:=cal F_law_valued (y3G M F_law_valued.1 C0.up M9.up) (b2 F_law_valued.1)
 have M3:=cal F_law_names (y4U F_law_names.1 C6.up D1.up M8.up) (b1 F_law_names.1)
 have C5:=cal Fbulletin_names (y0O M Fbulletin_names.1 E6.up E7.up) (b2 Fbulletin_names.1)
 have K5:=mcl C4.cl FShelf_latest (y4c (A0:=A0) M C4 FShelf_latest.1 A6.up) (b1 FShelf_latest.1)
 have F5:=cal F_law_gaps (y6A M F_law_gaps.1 C2.up) (b3 F_law_gaps.1)
 have C7:=cal F_law_state (y4i M F_law_state.1 E4.up) (b3 F_law_state.1)
 have P5:=cal Ftail_for (y6J M Ftail_for.1 N0.up) (b2 Ftail_for.1)
 have F2:=cal Frefuse_bad_rows (y24 M Frefuse_bad_rows.1 B6.up E9.up) (b2 Frefuse_bad_rows.1)
 have K3:=mcl D7.cl FBook_deliver (y01 (A4:=A4) (A1:=A1) M D7 FBook_deliver.1 B7.up A8.up A9.up) (b3 FBook_deliver.1)
 have B4:=cal Flacking_with_tellers (y7c M Flacking_with_tellers.1 F3.up N9.up) (b2 Flacking_with_tellers.1)
 have J8:=cal Fnames_told_of (y6k (A0:=A0) M C4 Fnames_told_of.1 J4.up) (b3 Fnames_told_of.1)
 have B8:=cal Fheld_for (y22 (A0:=A0) M C4 Fheld_for.1 B6.up A6.up D0.up) (b2 Fheld_for.1)
 have X6:=mcl D7.cl FBook_latest (y0Y (A4:=A4) (A1:=A1) M D7 FBook_latest.1 J9.up) (b1 FBook_latest.1)
 have Y5:=mcl D7.cl FBook_issue (y2y (A4:=A4) (A1:=A1) M D7 FBook_issue.1 B7.up) (b2 FBook_issue.1)
 have N5:=cal F_law_dark (y5v M F_law_dark.1 C2.up) (b2 F_law_dark.1)
 have N2:=cal F_law_known (y3a M F_law_known.1 C2.up) (b3 F_law_known.1)
 have K6:=cal F_law_numbers (y2h F_law_numbers.1 C6.up D1.up N4.up L3.up) (b2 F_law_numbers.1)
 have R9:=mkr C4.mgC FShelf___init__ (y3Q (A0:=A0) M C4 FShelf___init__.1 C5.up) (b3 FShelf___init__.1)
 have M7:=cal F_law_table (y5s M F_law_table.1 F5.up F7.up C7.up) (b4 F_law_table.1)
 have S0:=mkr E1.mgC FOffice___init__ (y3D (A1:=A1) M E1 FOffice___init__.1 C5.up) (b3 FOffice___init__.1)
 have B2:=mcl E1.cl FOffice_refuse_writing (y2z (A1:=A1) M E1 FOffice_refuse_writing.1 F2.up) (b2 FOffice_refuse_writing.1)
 have B9:=cal Fdark_numbers (y6h M Fdark_numbers.1 B4.up) (b2 Fdark_numbers.1)
 have F0:=cal Fgaps_of (y3V (A0:=A0) M C4 Fgaps_of.1 A6.up B4.up J8.up) (b1 Fgaps_of.1)
 have N6:=cal F_law_plan (y6w M F_law_plan.1 M6.up N5.up) (b4 F_law_plan.1)
 have K8:=mcl E1.cl FOffice_write (y2c (A1:=A1) M E1 FOffice_write.1 B2.up C9.up K0.up P5.up) (b2 FOffice_write.1)
 have W6:=mkr D7.mgC FBook___init__ (y4D (A4:=A4) (A1:=A1) M D7 FBook___init__.1 S0.up D8.up) (b4 FBook___init__.1)
 have Y4:D2 l.prog w K mg base 6 A4 "shelf" z2S (z64 (BkD K A4 A1) (ShD K A0)):=.mk' D7.cl (z95 (A4:=A4) (A1:=A1) (A0:=A0) M D7 E1 FBook_shelf.1 B7.up A8.up R9.up L5.up) S6 FBook_shelf.2
 have L4:M0 l.prog w K mg base 6 A4 "shelf" z2S (z64 (BkD K A4 A1) (ShD K A0)) [V.non]:=.mk' (.cons rfl .nil) D7.cl (z95 (A4:=A4) (A1:=A1) (A0:=A0) M D7 E1 FBook_shelf.1 B7.up A8.up R9.up L5.up) S4 FBook_shelf.2
 have B5:=cal Fdark_numbers_behind (y2K M Fdark_numbers_behind.1 B9.up) (b3 Fdark_numbers_behind.1)
 have F8:=cal Fset_again (y0I (A0:=A0) M C4 Fset_again.1 B8.up F0.up) (b2 Fset_again.1)
 have K2:=cal Fcourse_count (y5j (A0:=A0) M C4 Fcourse_count.1 A6.up B9.up M1.up) (b1 Fcourse_count.1)
 have M4:=cal Fknown_sets (y5A (A0:=A0) M Fknown_sets.1 A6.up D0.up C9.up F0.up) (b1 Fknown_sets.1)
 have M5:=mcl D7.cl FBook_write (y23 (A4:=A4) (A1:=A1) M D7 FBook_write.1 B2.up K8.up A9.up) (b2 FBook_write.1)
 have C3:=cal Fstate_of (y2B (A0:=A0) M C4 Fstate_of.1 B8.up F8.up A6.up B5.up) (b2 Fstate_of.1)
 have D9:=cal Ffewest_numbers (y2S M Ffewest_numbers.1 B5.up) (b3 Ffewest_numbers.1)
 have I0:=cal Fstate_and_held (y0a (A0:=A0) M Fstate_and_held.1 B8.up C3.up) (b2 Fstate_and_held.1)
 have w0i:Cal l.prog w K mg base 6 "send_for" z4J (z6a (ShD K A0)):=.mk' (z8M (A0:=A0) M C4 Fsend_for.1 B8.up C3.up A6.up D9.up) V9 Fsend_for.1.kp Fsend_for.2
 have N7:Q5 l.prog w K mg base 6 "send_for" z4J (z6a (ShD K A0)) [V.non]:=.mk' (.cons rfl .nil) (z8M (A0:=A0) M C4 Fsend_for.1 B8.up C3.up A6.up D9.up) U5 Fsend_for.1.kp Fsend_for.2
 have L6:=cal Ftwo_courses (z8F (A0:=A0) M C4 Ftwo_courses.1 C3.up M4.up A6.up B9.up) (b2 Ftwo_courses.1)
 have N8:=cal Fknowledge (y00 (A0:=A0) M C4 Fknowledge.1 I0.up) (b1 Fknowledge.1)
 have G0:=cal F_law_name_told (y0T (Sh:=(ShD K A0)) M F_law_name_told.1 F1.same (W8 5) C7.up E4.up J0.up E2.up B8.up F8.up C3.up L6.up) (b6 F_law_name_told.1)
 have E8:=cal F_law_all_told (y2D (A0:=A0) (Sh:=(ShD K A0)) M F_law_all_told.1 F1 (W8 5) F5.up N2.up M7.up D3.up F7.up C7.up G0.up N6.up A6.up K5.up F0.up N8.up K2.up N7.up) (b5 F_law_all_told.1)
 exact y79 M Flaw.1 Z3 F1 C6.up D1.up M3.up K6.up O9.up J5.up E8.up W6.up M5.up K3.up L4.up
theorem walk{l:PySem.W.OpenLaw}{q:Program}{loose:List Str}{XP:(Str->Option Value)->Heap->Prop}{YP:World->Heap->Prop}{d:DefRec}{K:Params->PySem.W.Frag}(hn:l.most=some 63)(hdf:d.params.defaults=[])
  (hY:∀(w:World) (h:Heap),YP w h->(K w.params).In h)
  (F:∀(w:World) (mg:Str->Option Value) (fa:Addr) (h:Heap),(K w.params).In h->h.Ns mainGlobals mg->mg d.name=some (.ref fa)->
   ∃fd:FuncData,(∀(s:Shared) (u:Value),BindsTo s fd ⟨[u],[]⟩ [("_law_script",u)])/\∀base:Heap,(K w.params).In base->base.Ns mainGlobals mg->A7 l.prog w (K w.params) mg base CX0 14 fa fd ["_law_script"] (y59 (K w.params))) :
  PySem.W.WalkO q loose XP YP l.row.toRowW d [] (fun f vs=>PySem.call f vs):=
 L2.y6Q (n:=63) (k:=14) (x:="_law_script") (CX:=fun _=>CX0) (sp:=fun w=>y59 (K w.params)) hn (by decide) hdf ⟨rfl,by decide,by decide⟩ hY F (fun _ _ a ns hl _ hS=>⟨a,ns,rfl,hS,hl,fun _=>rfl⟩) fun _ _ _ _ _ z=>z
theorem w0W{q:Program}{loose:List Str}{XP:(Str->Option Value)->Heap->Prop}{r:PySem.W.RowW}{d:DefRec}{kwd:List (Str×Expr)}{run:Value->List Value->Sem Value}{K:Params->PySem.W.Frag}{ks:List Addr}{n t:Nat}(e:∀P,ks=(K P).map (·.1))
  (W:PySem.W.WalkO q loose XP (fun w h=>(K w.params).In h) r d kwd run):PySem.W.WalkX q loose XP (PySem.W.X.obsZ ks) (PySem.W.X.valZ K n t) r d kwd run:=
 fun w s₀ s₁ mg mb G y a o pm cd doc dV kV h1 h2 h3 h4 h5 h6 args vals as L g1 g2 g3 g4 g5=>W w s₀ s₁ mg mb G (PySem.W.InK.keeps w s₀.heap s₁.heap (PySem.W.X.z_facts e y).2.1 L.keeps) a o pm cd doc dV kV h1 h2 h3 h4 h5 h6 args vals as g1 g2 g3 g4 g5
end My
namespace PySem.W.Fast
def tw10076194019628748981:=()
def tw10091467563638905742:=()
def tw10097312208521467848:=()
def tw1011217451686759544:=()
def tw10123889770007809424:=()
def tw10130292861542722123:=()
def tw10216039315102047551:=()
def tw10296944723655564332:=()
def tw10334945791254156098:=()
def tw10378945055871818228:=()
def tw10437491529820139277:=()
def tw10459066626049777951:=()
def tw10486302810262349297:=()
def tw10529992884836259086:=()
def tw10647636314656708247:=()
def tw10657761835051305420:=()
def tw10666426649918623899:=()
def tw10693258940827594147:=()
def tw10721624503603591798:=()
def tw10819907795082028519:=()
def tw10899295836286563989:=()
def tw10911534329725388868:=()
def tw10926429400110160672:=()
def tw10934375624907081329:=()
def tw1096034784529449747:=()
def tw1101081095583572415:=()
def tw11025882373815371162:=()
def tw11027392702326997178:=()
def tw11036057779854630173:=()
def tw11057386578114479509:=()
def tw11061294379374395854:=()
def tw112023010469056404:=()
def tw11211564379485583429:=()
def tw11212834302600950879:=()
def tw11215912354343938098:=()
def tw11264018584508580267:=()
def tw1132645799237043549:=()
def tw11354873444874616555:=()
def tw11363281631223214132:=()
def tw11366337343107338061:=()
def tw11368759574197264057:=()
def tw11378544782215245070:=()
def tw11516096188670422441:=()
def tw11516973740196767722:=()
def tw11527544359776207934:=()
def tw11543537152145231460:=()
def tw11556118171647910766:=()
def tw11567883749446919275:=()
def tw11594282051668881004:=()
def tw11710262129762703232:=()
def tw11724768228043331220:=()
def tw11745570718176259344:=()
def tw11746068687002981853:=()
def tw11752133319820582997:=()
def tw1178526005883353860:=()
def tw11878221666407355922:=()
def tw11920393208425919610:=()
def tw11933847267810353348:=()
def tw11982377754137702005:=()
def tw12010883516684998848:=()
def tw12011439061093783322:=()
def tw12025723353068082252:=()
def tw12047330820176219526:=()
def tw12085238157016817201:=()
def tw12132105972558592862:=()
def tw12169339233817375229:=()
def tw12199647401565917265:=()
def tw12211196294252312077:=()
def tw12264295446833193988:=()
def tw12281422018345164562:=()
def tw12292636187619808959:=()
def tw12368416299870952274:=()
def tw12419014198727858567:=()
def tw12554866987352712448:=()
def tw12571417295109617463:=()
def tw12652202502760328690:=()
def tw1265240683823095880:=()
def tw12652602071443002584:=()
def tw12692241862004049942:=()
def tw12735390462500289904:=()
def tw12781140853059161804:=()
def tw12988441299482148408:=()
def tw13000653956194547446:=()
def tw13029969505450255132:=()
def tw13069182643314057933:=()
def tw13143125802621579902:=()
def tw13164229394056098356:=()
def tw13204897338414413328:=()
def tw13224687015800103272:=()
def tw13239906848904283320:=()
def tw13316396269769089909:=()
def tw13398224183543475990:=()
def tw13422290745623974229:=()
def tw1343930681932144358:=()
def tw13444428291176351563:=()
def tw13492090698305418208:=()
def tw13593785637012273346:=()
def tw13595688901286736584:=()
def tw13625165497437884727:=()
def tw13675634975431041890:=()
def tw13698101316707870841:=()
def tw13703569584242508018:=()
def tw13708362620071933551:=()
def tw13745478514056804864:=()
def tw13767342244228827998:=()
def tw13791339647831746873:=()
def tw13833007739472795562:=()
def tw13913225158367198409:=()
def tw13917935097726965244:=()
def tw14008714691474688066:=()
def tw14050879372639485724:=()
def tw14064232481376042230:=()
def tw14133206376747631478:=()
def tw14160275916797380719:=()
def tw14205272902428462736:=()
def tw14223998548930470455:=()
def tw14234241511242485641:=()
def tw1424141706382746117:=()
def tw14275714163191377714:=()
def tw14312907246509581679:=()
def tw1434210089365519349:=()
def tw14370856703778785126:=()
def tw14386580145903728518:=()
def tw14412857580763584197:=()
def tw14420498283753124648:=()
def tw14443553541828230299:=()
def tw14498941832961163528:=()
def tw14507271809561103322:=()
def tw14528729249022320597:=()
def tw14576733005522109349:=()
def tw14623769670793259570:=()
def tw14644782984720228453:=()
def tw14645025950377809379:=()
def tw14648404796873471212:=()
def tw14717002155891592551:=()
def tw1474465526590635799:=()
def tw14792982923715877512:=()
def tw14825889366188536740:=()
def tw14913266537999944757:=()
def tw14914461889899074183:=()
def tw14973514644314944234:=()
def tw15007508616116066588:=()
def tw15009124286667699062:=()
def tw15031488380248723433:=()
def tw15064363692656354973:=()
def tw15140513783372928142:=()
def tw15178375756741981840:=()
def tw15241343821167848187:=()
def tw152811166261811786:=()
def tw15334911185114730989:=()
def tw1547318825385685079:=()
def tw15505390676427261767:=()
def tw15526193379011166505:=()
def tw15576874634184193342:=()
def tw1562530332944257142:=()
def tw15675452595864371640:=()
def tw15689310569801186856:=()
def tw15727023879722859000:=()
def tw15821500041996754842:=()
def tw15834327677529327067:=()
def tw15888536214062020165:=()
def tw1590214253411189506:=()
def tw1590565894041700655:=()
def tw15928929000465683837:=()
def tw15971903821130630518:=()
def tw15977461048163934406:=()
def tw1602106252407379438:=()
def tw16023515267973073524:=()
def tw16025908578168889807:=()
def tw16038284141913255202:=()
def tw16059534007509851304:=()
def tw16103195757633672891:=()
def tw16130150669026720036:=()
def tw16133163666005672656:=()
def tw16177366540681195815:=()
def tw16202013524970185617:=()
def tw16210632305174529002:=()
def tw16232439879847143050:=()
def tw16250065513491648848:=()
def tw16262536736001543989:=()
def tw1637851192859833140:=()
def tw1639410996009906325:=()
def tw16427141208542443682:=()
def tw16563859037323295763:=()
def tw16580333783335020165:=()
def tw16599726349149016582:=()
def tw16718643347865462682:=()
def tw16721920279014310951:=()
def tw16795158735706727502:=()
def tw16798074141664468437:=()
def tw16836252401570736379:=()
def tw16864502813562951168:=()
def tw16896032797269164255:=()
def tw17007106676982809212:=()
def tw17013441691948733570:=()
def tw17021870501822633630:=()
def tw17035154315239265095:=()
def tw17116308426764393145:=()
def tw17130606506687677724:=()
def tw17225691252047275242:=()
def tw17276138321949210714:=()
def tw17293976961027538393:=()
def tw1731194466190330511:=()
def tw1732123143196791033:=()
def tw17328281086357148173:=()
def tw17405388174455376562:=()
def tw17421829290090699331:=()
def tw17479095928733498453:=()
def tw17484013974460160564:=()
def tw17515077942571272096:=()
def tw1755511448872171367:=()
def tw17652047323712948772:=()
def tw17693342071270796536:=()
def tw17722041508696502224:=()
def tw17770088526779222691:=()
def tw17794896534562784164:=()
def tw17844544189749346958:=()
def tw17931063007023341555:=()
def tw17946184275760238500:=()
def tw17964675089987856502:=()
def tw17990756416676738557:=()
def tw18025599738961479708:=()
def tw1802656481553963410:=()
def tw18063430071854573440:=()
def tw18091504611268308145:=()
def tw18095031902544886436:=()
def tw18162476326163748580:=()
def tw18202564063530148787:=()
def tw18227352016720213563:=()
def tw18228138935946743235:=()
def tw18240369895704596736:=()
def tw18257533718392534716:=()
def tw18277145913583094433:=()
def tw1830999865866617860:=()
def tw18317408594117760208:=()
def tw1833956948982620281:=()
def tw18347840201922737775:=()
def tw18348866845163436126:=()
def tw18351079628948057226:=()
def tw1849734985093489449:=()
def tw1849785366825801654:=()
def tw1870009369482569513:=()
def tw1871066624733227081:=()
def tw1879118165783273328:=()
def tw2015852698514764063:=()
def tw2022609896831938030:=()
def tw2046827938771080898:=()
def tw2144839460006170703:=()
def tw2184010181784700221:=()
def tw2192572926359016781:=()
def tw2202254239304516807:=()
def tw223064240982902783:=()
def tw2244369621427987273:=()
def tw229820542204979691:=()
def tw2482902965171475216:=()
def tw2513970393016704062:=()
def tw259363300851857207:=()
def tw259930834711330515:=()
def tw2666314574935387924:=()
def tw2701650745906675416:=()
def tw2706962558270328976:=()
def tw2713932262989430597:=()
def tw2769321915621126075:=()
def tw278448170049730541:=()
def tw2788473720390664899:=()
def tw2872576551912724047:=()
def tw2908214949543928460:=()
def tw2932092173618704093:=()
def tw2934168261010668924:=()
def tw2959187976386561587:=()
def tw298782059428223583:=()
def tw3080400311765339926:=()
def tw3140521046271205758:=()
def tw3166212287974821900:=()
def tw3174096264968266547:=()
def tw3194524475793100195:=()
def tw3203887784424825617:=()
def tw3269519740354833211:=()
def tw3286466831087087795:=()
def tw3317476778209187852:=()
def tw3335969444118462273:=()
def tw3336538061604901346:=()
def tw3357597016958771130:=()
def tw3618856756991330460:=()
def tw3645372192154056485:=()
def tw3650907014642321920:=()
def tw3708072909110558204:=()
def tw3711990864833989290:=()
def tw3752764582566014216:=()
def tw3794850200858699643:=()
def tw3857172597056881405:=()
def tw3859129601711069376:=()
def tw3862337202708021410:=()
def tw3965151334471635597:=()
def tw3976470398341061144:=()
def tw4024664951815570101:=()
def tw4055837427597410929:=()
def tw4056432081478158477:=()
def tw4073434061077614661:=()
def tw4113617702966178596:=()
def tw4155404242914734950:=()
def tw4190748572007010240:=()
def tw4253095678804330187:=()
def tw4274919941822614247:=()
def tw4290424454939637792:=()
def tw4356203572170228928:=()
def tw4477098672459897847:=()
def tw4490344225614813692:=()
def tw4512040804198258044:=()
def tw4653693187231681836:=()
def tw4699931710923575662:=()
def tw4702161976935142526:=()
def tw4710810848013195581:=()
def tw4733865148174818303:=()
def tw4759148399965640450:=()
def tw4772447744578488883:=()
def tw4778464695229786000:=()
def tw4785415318477159487:=()
def tw4844384710158291645:=()
def tw4861688670617232468:=()
def tw488295845749812188:=()
def tw4896356516379505334:=()
def tw4905556996567906071:=()
def tw4908646254366381434:=()
def tw4938198923780958286:=()
def tw4973036135286201915:=()
def tw5013745575644189675:=()
def tw5066179240525945620:=()
def tw516777654108512099:=()
def tw5186160762307843072:=()
def tw5232180348782893281:=()
def tw5255375510104147520:=()
def tw5255590273696365700:=()
def tw5267421673134812338:=()
def tw5273637864695463954:=()
def tw5279735886957481870:=()
def tw5341471274384960724:=()
def tw5427405016527374394:=()
def tw5428695360292048608:=()
def tw5549000319500411624:=()
def tw5557732136382856945:=()
def tw5635294168953685836:=()
def tw5672772309036051380:=()
def tw5695560060870675114:=()
def tw5709783205414038424:=()
def tw5731757134179651021:=()
def tw5745493978474585924:=()
def tw5764640365905000153:=()
def tw5820648434122877277:=()
def tw5830375920139557821:=()
def tw5830473505034273992:=()
def tw586370801042947540:=()
def tw5870026284916464175:=()
def tw592614646905369689:=()
def tw5973576871395217607:=()
def tw6048505996906908347:=()
def tw6052747608276462712:=()
def tw6062762079475366783:=()
def tw6096613565535163685:=()
def tw614851473546595715:=()
def tw6184202356230295689:=()
def tw6201982212449683099:=()
def tw6279859177541110398:=()
def tw6322304793294141954:=()
def tw6423855091063247925:=()
def tw6442857842567631059:=()
def tw6448927518480500631:=()
def tw6472132218591844869:=()
def tw6488986164600448359:=()
def tw650139663992023239:=()
def tw6502283452350128878:=()
def tw6531956600589270078:=()
def tw6544237055968761933:=()
def tw6564273687140711227:=()
def tw6569723545789582213:=()
def tw6630193692434562332:=()
def tw6649421669470460251:=()
def tw6663339363168458690:=()
def tw6663629148860283259:=()
def tw667137579474844239:=()
def tw6711244216911978216:=()
def tw6798673494146177014:=()
def tw6848271363747794331:=()
def tw6862161300896098870:=()
def tw6873638367661030882:=()
def tw6949626022086696312:=()
def tw6971571285859272164:=()
def tw6977768811851242266:=()
def tw7043439386410614261:=()
def tw7109045591931582227:=()
def tw7209167784530698504:=()
def tw7329184296364861012:=()
def tw7348282861548023742:=()
def tw736965103009936678:=()
def tw7515479256589515553:=()
def tw7600401622500855721:=()
def tw7630726684876577023:=()
def tw7701846862022821073:=()
def tw7737064856072120942:=()
def tw7751100030902034742:=()
def tw7827949256120720252:=()
def tw7835493734588331983:=()
def tw7847845706408495551:=()
def tw786327473364908102:=()
def tw7920496233022301383:=()
def tw797676837596670741:=()
def tw798495700148903832:=()
def tw8006851555053047511:=()
def tw8056444406298977128:=()
def tw807101556552492640:=()
def tw8102736977325412090:=()
def tw813486125728279547:=()
def tw8186576666012000750:=()
def tw8219465070726787976:=()
def tw8226151587674882618:=()
def tw8293482949735559128:=()
def tw837241970163822182:=()
def tw8471211622924846418:=()
def tw8542121062471074708:=()
def tw8561842289221077820:=()
def tw8577445822918310956:=()
def tw8602494529958280819:=()
def tw86559104926627260:=()
def tw8671514696276036185:=()
def tw8721626357359746226:=()
def tw8739262732710500873:=()
def tw8749755292872208873:=()
def tw8753559942451195003:=()
def tw8773175611964981792:=()
def tw881108895224318050:=()
def tw8813159799361829262:=()
def tw8864548332202493931:=()
def tw8867484995631821163:=()
def tw8869524551958979866:=()
def tw8929496228315458650:=()
def tw8952856129214644893:=()
def tw8971008930685743556:=()
def tw8974099036080446142:=()
def tw9033972781017133199:=()
def tw9133675317645819429:=()
def tw9144529355775105560:=()
def tw9158034640296901493:=()
def tw9175843666140581520:=()
def tw9182278273503999718:=()
def tw9206084015717645025:=()
def tw9215903896830231629:=()
def tw9230784278560659251:=()
def tw924108860687015321:=()
def tw924137330387753734:=()
def tw9276464932847901867:=()
def tw9287129220382172857:=()
def tw9300839810756120864:=()
def tw9310714764812706264:=()
def tw931571035737697715:=()
def tw933093499297782146:=()
def tw9437383230453604764:=()
def tw9471534495953255927:=()
def tw9486514940234628381:=()
def tw9527542267030430673:=()
def tw9537890738237628182:=()
def tw9558711590723714957:=()
def tw9564346977637999320:=()
def tw9641837529389465882:=()
def tw9695408598066219275:=()
def tw9710818718492279342:=()
def tw9754369750312752118:=()
def tw9761082604816048286:=()
def tw9849890197166011386:=()
def tw9937533584729486639:=()
def tw9975604723309230457:=()
end PySem.W.Fast
open PySem PySem.W PyProof.Rows
set_option maxRecDepth 100000 in
set_option maxHeartbeats 0 in
theorem PySem.Challenge.cw_backissues_k34_whole_any_order_holds : PySem.Challenge.rw_backissues_k34_whole_any_order.Holds := by
 w_on; o_law; z_head; (case hw => w_witness2)
 k_fill
 refine My.w0W (fun _ => by kernel_rfl) ?_
 refine My.walk (l := PySem.Challenge.rw_backissues_k34_whole_any_order) rfl rfl (fun w h Y => Y) ?F
 case F =>
  intro w mg fa h KX G hmg
  refine' My.y7x KX G hmg ?cOffice ?cShelf ?cBook ?nOffice_names ?nOffice_reach ?nOffice_written ?nShelf_names ?nShelf_reach ?nShelf_issues ?nBook_office ?nBook_readers ?nBook_done ?a0 ?a1 ?a2 ?a3 ?a4 ?a5 ?a6 ?a7 ?a8 ?a9 ?a10 ?a11 ?a12 ?a13 ?a14 ?a15 ?a16 ?a17 ?a18 ?a19 ?a20 ?a21 ?a22 ?a23 ?a24 ?a25 ?a26 ?a27 ?a28 ?a29 ?a30 ?a31 ?a32 ?a33 ?a34 ?a35 ?a36 ?a37 ?a38 ?a39 ?a40 ?a41 ?a42 ?a43 ?a44 ?a45 ?a46 ?a47 ?a48 ?a49 ?a50 ?a51 ?a52 ?a53 ?a54 ?a55 ?a56 ?a57 ?a58 ?a59 ?a60 ?a61 ?a62 ?a63 ?a64 ?a65 ?a66 ?a67 ?a68 ?a69 ?a70 ?a71 ?a72 ?a73 ?a74 ?a75 ?a76 ?a77 ?d36 ?d49 ?zlen ?zrange ?ztuple ?zlist ?zmax ?zmin ?zsorted ?zisinstance ?zbool ?zint ?zstr ?zset ?zreversed ?zdict ?zzip ?zall ?vMOST_NAMES ?vMOST_REACH ?vMOST_NUMBERS ?vMOST_VALUE ?vMOST_READERS ?vMOST_DEEDS ?vWRITE ?vDELIVER ?vSURE ?vSTALE ?vOPEN
  case' cOffice | cShelf | cBook => exact ⟨by k_is, by k_is, by k_is, by k_is, by k_is, by k_is, by k_is⟩
  case' nOffice_names | nOffice_reach | nOffice_written | nShelf_names | nShelf_reach | nShelf_issues | nBook_office | nBook_readers | nBook_done => k_is
  case' a0 | a1 | a2 | a3 | a4 | a5 | a6 | a7 | a8 | a9 | a10 | a11 | a12 | a13 | a14 | a26 | a37 | a38 | a39 | a40 | a41 | a42 | a43 | a44 | a45 | a46 | a47 | a48 | a49 | a50 | a51 | a52 | a53 | a54 | a55 | a56 | a57 | a58 | a59 | a60 | a61 | a62 | a63 | a64 | a65 | a66 | a67 | a68 | a69 | a70 | a71 | a72 | a73 | a74 | a75 | a76 | a77 => exact ⟨by k_is, _, _, _, _, _, _, _, _, _, by k_is, by k_is, by k_is⟩
  case' a15 | a16 | a17 | a18 | a19 | a20 | a21 | a22 | a23 | a24 | a25 | a27 | a28 | a29 | a30 | a31 | a32 | a33 | a34 | a35 | a36 => exact ⟨by k_is, by k_is, _, _, _, _, _, _, _, _, _, by k_is, by k_is, by k_is⟩
  case' d36 | d49 => exact ⟨_, _, _, _, by k_is⟩
  case' zlen | zrange | ztuple | zlist | zmax | zmin | zsorted | zisinstance | zbool | zint | zstr | zset | zreversed | zdict | zzip | zall | vMOST_NAMES | vMOST_REACH | vMOST_NUMBERS | vMOST_VALUE | vMOST_READERS | vMOST_DEEDS | vWRITE | vDELIVER | vSURE | vSTALE | vOPEN => k_is