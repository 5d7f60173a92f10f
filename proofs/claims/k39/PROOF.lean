import PyProof.Rows.All
import Wide.All
import OpenK.AllK
import Wide.FinOn
import Lean
import PyProof.EqAt
import PyProof.EqKinds
import PyProof.TupleCall
import PyProof.WalksMore
import PyProof.ListRange
import PyProof.NeKinds
import PyProof.SliceStr2
import PyProof.StrOps2
import PyProof.Rows.SetFrom
import PyProof.MinMaxWalk
import KE.KRevIter
import KE.KDictList
import PyProof.AttrMiss
import PyProof.IsiH_list
import PyProof.IsiH_tuple
import KE.KDictOf
import PyProof.ZipIter
import PyProof.TupleIter
import PySem.Challenge.RW_backissues_k39_whole_catch_up
set_option Elab.async false
set_option linter.all false
set_option maxHeartbeats 4000000
set_option maxRecDepth 100000
abbrev b7:=@List.length_map
abbrev b8:=@PySem.Heap.get?_push_of_some
abbrev b9:=@List.mem_singleton
abbrev bA:=@List.mem_cons
abbrev bB:=@Nat.le_refl
abbrev bC:=@PySem.Heap.get?_push_size
abbrev bD:=@List.map_append
abbrev bF:=@Bool.false_ne_true
abbrev bG:=@List.getElem?_eq_getElem
abbrev bH:=@List.getElem?_map
abbrev bI:=@List.length_append
abbrev bJ:=@PySem.Heap.lt_size
abbrev bK:=@List.size_toArray
abbrev bL:=@PyProof.Rows.boot_tuple
abbrev bM:=@List.mem_cons_of_mem
abbrev bN:=@List.length_take
abbrev bO:=@List.mem_append
abbrev bP:=@List.getD_eq_getElem?_getD
abbrev bQ:=@Bool.and_eq_true
abbrev bR:=@List.take_length
abbrev bS:=@List.mem_cons_self
abbrev bT:=@List.mem_of_getElem?
abbrev bU:=@Nat.ne_of_lt
abbrev bV:=@List.mem_filter
abbrev bW:=@PySem.boot_len
abbrev bX:=@PySem.F.slot_list_append
abbrev bY:=@List.mem_append_right
abbrev bZ:=@PySem.Around.under_plainId
abbrev cC:=@List.length_cons
abbrev cD:=@PySem.F.type_list_append
abbrev cE:=@PySem.F.plainAttrs_list
abbrev cF:=@List.mem_map
abbrev cG:=@PySem.PassesOwn.never
abbrev cH:=@List.getElem?_eq_some_iff
abbrev cI:=@PyProof.Rows.boot_isinstance
abbrev cJ:=@Option.map_eq_some_iff
abbrev cK:=@List.map_cons
abbrev cL:=@Array.length_toList
abbrev cM:=@List.length_filter_le
abbrev cN:=@PySem.Heap.get?_update_other
abbrev cO:=@Nat.le_trans
abbrev cP:=@PySem.W.mg_none_of
abbrev cQ:=@Nat.zero_le
abbrev cR:=@Nat.lt_of_lt_of_le
abbrev cS:=@List.exists_cons_of_length_eq_add_one
abbrev cT:=@List.foldl_cons
abbrev cU:=@List.eq_nil_of_length_eq_zero
abbrev cV:=@Int.emod_lt_of_pos
abbrev cW:=@List.nodup_cons
abbrev cX:=@List.mem_append_left
abbrev cY:=@Array.getElem?_eq_getElem
abbrev cZ:=@Classical.byContradiction
abbrev d6:=@List.take_zero
abbrev d7:=@List.append_nil
abbrev d8:=@PySem.F.called_set
abbrev d9:=@Ne.symm
abbrev dA:=@List.length_singleton
abbrev dB:=@PySem.Heap.get?_update_self
abbrev dC:=@Nat.lt_succ_of_lt
abbrev dD:=@PyProof.Rows.slot_tuple_getitem
abbrev dE:=@PySem.W.mg_of
abbrev dF:=@List.nodup_iff_pairwise_ne
abbrev dG:=@Int.emod_nonneg
abbrev dH:=@PySem.F.plain_max_loop
abbrev dI:=@PySem.F.plain_min_loop
abbrev dJ:=@List.take_of_length_le
abbrev dL:=@Bool.eq_iff_iff
abbrev dM:=@PySem.W.kia_one
abbrev dN:=@List.find?_cons
abbrev dO:=@List.pairwise_append
abbrev dP:=@Nat.lt_irrefl
abbrev dQ:=@List.length_range
abbrev dR:=@List.filter_append
abbrev dS:=@List.not_mem_nil
abbrev dU:=@Int.le_refl
abbrev dW:=@PySem.F.plain_list_iadd
abbrev dX:=@List.take_add_one
abbrev dY:=@List.pairwise_map
abbrev dZ:=@PyProof.Rows.callWith_type1
abbrev e7:=@List.getElem?_append_right
abbrev e8:=@Nat.lt_succ_self
abbrev e9:=@Bool.false_eq_true
abbrev eB:=@Array.getElem?_toList
abbrev eF:=@List.getElem?_eq_none
abbrev eI:=@Nat.le_succ
abbrev eJ:=@List.map_map
abbrev eM:=@PyProof.Rows.boot_sorted
abbrev eO:=@List.filterMap_cons
abbrev eQ:=@List.mem_range
abbrev eU:=@PySem.Heap.size_push
abbrev eV:=@List.dropLast_concat_getLast
abbrev eX:=@List.filter_cons
abbrev eY:=@Nat.le_of_lt
abbrev eZ:=@PyProof.Rows.F.plain_set_update_loop
abbrev fA:=@List.pairwise_cons
abbrev fB:=@Nat.not_lt_zero
abbrev fE:=@Int.toNat_natCast
abbrev fF:=@List.nodup_append
abbrev fG:=@List.append_assoc
abbrev fH:=@List.getElem?_append_left
abbrev fI:=@PySem.F.slot_tuple_getattribute
abbrev fJ:=@List.mem_of_find?_eq_some
abbrev fK:=@Nat.ne_of_gt
abbrev fL:=@List.length_drop
abbrev fM:=@List.getElem_mem
abbrev fN:=@PySem.F.slot_list_getattribute
abbrev fO:=@PySem.mem_of_lookup
abbrev fP:=@List.length_pos_iff
abbrev fQ:=@PySem.Heap.SameBut.update
abbrev fR:=@List.getElem?_range
abbrev fS:=@List.length_reverse
abbrev fT:=@List.pairwise_singleton
abbrev fU:=@List.length_eq_zero_iff
abbrev fV:=@List.all_cons
abbrev fW:=@List.any_cons
abbrev fX:=@Nat.lt_of_le_of_lt
abbrev fZ:=@List.filter_nil
abbrev g0:=@PySem.F.entry_max_loop
abbrev g9:=@PySem.F.entry_min_loop
abbrev gA:=@Array.getElem?_eq_none
abbrev gB:=@PyProof.Rows.boot_list
abbrev gC:=@PyProof.Rows.boot_max
abbrev gD:=@PyProof.Rows.boot_min
abbrev gE:=@Nat.zero_add
abbrev gG:=@PyProof.Rows.boot_set
abbrev gH:=@Int.ne_of_lt
abbrev gI:=@PySem.F.plain_proto_collect
abbrev gJ:=@List.mem_reverse
abbrev gK:=@List.reverse_reverse
abbrev gL:=@Bool.true_and
abbrev gM:=@List.mem_map_of_mem
abbrev gN:=@List.exists_mem_of_ne_nil
abbrev gO:=@Nat.pos_of_ne_zero
abbrev gP:=@PyProof.Rows.F.entry_set_update_loop
abbrev gQ:=@List.length_erase_of_mem
abbrev gR:=@List.any_map
abbrev gS:=@List.find?_eq_none
abbrev gT:=@Bool.false_and
abbrev gU:=@List.drop_zero
abbrev gX:=@List.getElem?_replicate
abbrev gY:=@PyProof.Rows.F.plain_set_update_loop
abbrev gZ:=@List.foldl_append
abbrev h8:=@Bool.eq_false_iff
abbrev h9:=@List.pairwise_lt_range
abbrev hE:=@PyProof.Rows.boot_bool
abbrev hJ:=@PyProof.Rows.boot_dict
abbrev hU:=@List.lookup_cons
abbrev hV:=@List.any_eq_true
abbrev hW:=@Nat.succ_le_succ
abbrev hZ:=@PySem.W.methodCall_KW
abbrev j0:=@List.length_replicate
abbrev j3:=@List.getElem?_reverse
abbrev j4:=@PyProof.Rows.boot_int
abbrev j5:=@List.pairwise_reverse
abbrev j6:=@List.getElem?_set_ne
abbrev j7:=@Bool.or_eq_true
abbrev j8:=@List.length_nil
abbrev j9:=@List.mem_erase_of_ne
abbrev jA:=@PySem.W.plainGet_of
abbrev jB:=@List.map_congr_left
abbrev jC:=@PySem.Paired.snoc
abbrev jD:=@PySem.W.callWith_K
abbrev jE:=@List.any_eq_false
abbrev jF:=@List.take_sublist
abbrev jG:=@List.ext_getElem?
abbrev jH:=@Bool.not_eq_true'
abbrev jI:=@List.Sublist.refl
abbrev jJ:=@Nat.le_of_not_lt
abbrev jK:=@Nat.lt_trans
abbrev jL:=@List.all_map
abbrev jM:=@List.all_eq_true
abbrev jN:=@Nat.sub_zero
abbrev jO:=@Int.lt_or_le
namespace L2
open PySem PySem.Spec PyProof.Rows
abbrev Key:=Sum Int Str
def y0t:Key->Value->Bool
 | .inl k,v=>Value.isInt k v
 | .inr x,v=>Value.isStrOf x v
def keyH(w:World):Key->Int
 | .inl k=>hashInt k
 | .inr x=>hashStr w x
theorem z14:∀{k:Key}{v:Value},y0t k v=true->(∃i t,k=Sum.inl i/\v=Value.int i t)\/(∃x t,k=Sum.inr x/\v=Value.str x t)
 | .inl i,v,h=>by
  obtain⟨t,e⟩:=Value.isInt_shape (k:=i) (v:=v) h
  exact .inl ⟨i,t,rfl,e⟩
 | .inr x,v,h=>by
  obtain⟨t,e⟩:=Value.isStrOf_shape (x:=x) (v:=v) h
  exact .inr ⟨x,t,rfl,e⟩
theorem y2r(i:Int)(t:Tok):y0t (.inl i) (.int i t)=true:=by simp[y0t,Value.isInt]
theorem y2U(x:Str)(t:Tok):y0t (.inr x) (.str x t)=true:=by simp[y0t,Value.isStrOf]
theorem y6H(a b:Int):decide ((Sum.inl a:Key)=Sum.inl b)=(a == b):=by
 by_cases e:a=b
 ·subst e;simp
 ·have h:¬(Sum.inl a:Key)=Sum.inl b:=fun q=>e (Sum.inl.inj q)
  rw[decide_eq_false h]
  exact(beq_eq_false_iff_ne.mpr e).symm
theorem y73(a b:Str):decide ((Sum.inr a:Key)=Sum.inr b)=decide (a=b):=by
 by_cases e:a=b
 ·subst e;simp
 ·have h:¬(Sum.inr a:Key)=Sum.inr b:=fun q=>e (Sum.inr.inj q)
  rw[decide_eq_false h,decide_eq_false e]
theorem y70(a:Int)(b:Str):decide ((Sum.inl a:Key)=Sum.inr b)=false:=decide_eq_false (fun q=>nomatch q)
theorem y6Z(a:Str)(b:Int):decide ((Sum.inr a:Key)=Sum.inl b)=false:=decide_eq_false (fun q=>nomatch q)
def z1o(prog:Program)(w:World):PySem.KeyKind prog w Key where
 is:=y0t
 hash:=keyH w
 inj:=fun v a b ha hb=>by
  rcases z14 ha with ⟨i,t,rfl,rfl⟩|⟨x,t,rfl,rfl⟩
  ·rcases z14 hb with ⟨j,u,rfl,e⟩|⟨y,u,rfl,e⟩
   ·injection e with e1 _;rw[e1]
   ·exact nomatch e
  ·rcases z14 hb with ⟨j,u,rfl,e⟩|⟨y,u,rfl,e⟩
   ·exact nomatch e
   ·injection e with e1 _;rw[e1]
 byValue:=fun k v h=>by
  rcases z14 h with ⟨i,t,rfl,rfl⟩|⟨x,t,rfl,rfl⟩<;>rfl
 pyHash:=fun hv h=>by
  rcases z14 hv with ⟨i,t,rfl,rfl⟩|⟨x,t,rfl,rfl⟩
  ·exact wpAny_pyHash_int h
  ·exact wpAny_pyHash_str h
 eqBool:=fun hu hv h=>by
  rcases z14 hu with ⟨i,t,rfl,rfl⟩|⟨x,t,rfl,rfl⟩
  ·rcases z14 hv with ⟨j,u,rfl,rfl⟩|⟨y,u,rfl,rfl⟩
   ·rw[y6H] at h;exact wpAny_eqBool_int h
   ·rw[y70] at h;exact SeqAt.EqAt.int_str i t y u _ _ _ _ h
  ·rcases z14 hv with ⟨j,u,rfl,rfl⟩|⟨y,u,rfl,rfl⟩
   ·rw[y6Z] at h;exact SeqAt.EqAt.str_int x t j u _ _ _ _ h
   ·rw[y73] at h;exact wpAny_eqBool_str h
 «strs»:=fun k x t v h=>by
  rcases z14 h with ⟨i,u,rfl,e⟩|⟨y,u,rfl,e⟩
  ·exact nomatch e
  ·injection e with e1 _
   subst e1
   cases v<;>rfl
theorem y0q(prog:Program)(w:World)(i:Int)(t:Tok):(z1o prog w).is (.inl i) (.int i t)=true:=y2r i t
theorem y0r(prog:Program)(w:World)(x:Str)(t:Tok):(z1o prog w).is (.inr x) (.str x t)=true:=y2U x t
inductive V where
 | non|bl (b:Bool)|int (i:Int)|str (x:Str)|byt (b:Array UInt8)|flt (b:UInt64)|ref (a:Addr)|ty (n:String)
 deriving DecidableEq
def RelV:V->Value->Prop
 | .non,u=>u=Value.none
 | .bl b,u=>u=Value.bool b
 | .int i,u=>∃t,u=Value.int i t
 | .str x,u=>∃t,u=Value.str x t
 | .byt b,u=>∃t,u=Value.bytes b t
 | .flt b,u=>∃t,u=Value.float b t
 | .ref a,u=>u=Value.ref a
 | .ty n,u=>u=Value.type n
abbrev Vals:List V->List Value->Prop:=Paired RelV
theorem Vals.length{xs:List V}{us:List Value}(r:Vals xs us):xs.length=us.length:=Paired.length r
theorem Vals.get:∀{xs:List V}{us:List Value}{i:Nat}{x:V},Vals xs us->xs[i]? = some x->∃u,us[i]? = some u/\RelV x u
 | _,_,_,_,.nil,e=>by simp at e
 | _,_,0,_,.cons r _,e=>by simp at e;subst e;exact⟨_,rfl,r⟩
 | _,_,i+1,x,.cons _ t,e=>by
  obtain⟨u,h1,h2⟩:=Vals.get (i:=i) (x:=x) t (by simpa using e)
  exact⟨u,by simpa using h1,h2⟩
theorem Vals.append:∀{xs ys:List V}{us ws:List Value},Vals xs us->Vals ys ws->Vals (xs++ys) (us++ws)
 | _,_,_,_,.nil,s=>s
 | _,_,_,_,.cons r t,s=>.cons r (Vals.append t s)
theorem Vals.take:∀{xs:List V}{us:List Value} (n:Nat),Vals xs us->Vals (xs.take n) (us.take n)
 | _,_,0,_=>.nil
 | _,_,_+1,.nil=>.nil
 | _,_,n+1,.cons r t=>.cons r (Vals.take n t)
theorem Vals.drop:∀{xs:List V}{us:List Value} (n:Nat),Vals xs us->Vals (xs.drop n) (us.drop n)
 | _,_,0,r=>r
 | _,_,_+1,.nil=>.nil
 | _,_,n+1,.cons _ t=>Vals.drop n t
def M1:Option V->Option Value->Prop
 | some v,some u=>RelV v u
 | none,none=>True
 | _,_=>False
def KV{κ:Type}:List (κ×V)->List (κ×Value)->Prop:=Paired fun(p:κ×V) (q:κ×Value)=>p.1=q.1/\RelV p.2 q.2
def kV:Key->V
 | .inl i=>.int i
 | .inr x=>.str x
inductive HO where
 /-- a list -/
 | lst (xs:List V)
 /-- a tuple (never changes) -/
 | tup (xs:List V)
 /-- a dict whose keys are ints and texts;one whose keys are tuples of ints and texts (the empty one is both) -/
 | dK (kvs:List (Key×V))|dT (kvs:List (List Key×V))
 /-- a set of ints: its members,its size -/
 | set (S:Int->Bool) (n:Nat)
 /-- an instance of the class at C,its dict at dx,its attributes -/
 | ins (C dx:Addr) (fs:List (Str×V))
 /-- the dict of the instance at x -/
 | own (x:Addr)
 /-- the dict of an exception -/
 | xd (fs:List (Str×V))
 /-- a bound method,f of x -/
 | met (f x:Addr)
 /-- a range object lo,lo+1,.. below hi -/
 | rng (lo hi:Int)
 /-- a thing that is known to the object (the script;a dict while a loop walks it): read,never written while it is so -/
 | frz (o:Obj) (u:HO)
 /-- a code object's table -/
 | tbl (ps:Array Value)
 /-- any other thing,by what is true of its one object (a def of one's own: SetO a S n:=HO.ext fun h=>..) -/
 | ext (φ:Heap->Prop)
abbrev Hp:=Addr->Option HO
def upd(H:Hp)(a:Addr)(o:HO):Hp:=fun b=>if b=a then some o else H b
def PlT(h:Heap)(a:Addr)(items:Array Value):Prop:=∃o,h.get? a=some o/\o.cls=.type "tuple"/\(∃n,o.data=.seq items n)/\o.dict=none
theorem PlT.tup{h:Heap}{a:Addr}{items:Array Value}(p:PlT h a items):IsTup h a items:=let ⟨o,e,c,d,_⟩:=p;⟨o,e,c,d⟩
theorem PlT.new(h:Heap)(items:Array Value):PlT (h.push { cls:=.type "tuple",data:=.seq items }) h.objs.size items:=⟨_,bC _ rfl,rfl,⟨_,rfl⟩,rfl⟩
theorem z02{H:Hp}{a:Addr}{o:HO}:upd H a o a=some o:=by unfold upd;rw[if_pos rfl]
theorem z0e{H:Hp}{a b:Addr}{o:HO}(h:b≠a):upd H a o b=H b:=by unfold upd;rw[if_neg h]
theorem z7K{H:Hp}{a:Addr}{o u:HO}:upd (upd H a o) a u=upd H a u:=by
 funext b;unfold upd;split<;>rfl
theorem z5j{H:Hp}{a b:Addr}{o u:HO}(h:H a=some o)(h':H b=some u)(d:o≠u):a≠b:=by
 intro e;subst e;rw[h] at h';exact d (Option.some.inj h')
theorem z0l{H:Hp}{a b:Addr}{o:HO}(h:H a=some o)(h':H b=none):a≠b:=by
 intro e;subst e;rw[h] at h';cases h'
section
variable(P:Program)(w:World)
def z1g(H:Hp)(h:Heap)(a:Addr):HO->Prop
 | .lst xs=>xs.length≤sizeLine/\∃(its:List Value) (n:Nat),Vals xs its/\h.get? a=some { cls:=.type "list",data:=.seq its.toArray n }
 | .tup xs=>xs.length≤sizeLine/\∃its:List Value,Vals xs its/\PlT h a its.toArray
 | .dK kvs=>kvs.length≤sizeLine/\(a == sysModules)=false/\∃vs,KV kvs vs/\h.DictOf (z1o P w) a vs
 | .dT kvs=>kvs.length≤sizeLine/\(a == sysModules)=false/\∃xs:List (List Key×Addr×Value),
   Paired (fun(p:List Key×V) (q:List Key×Addr×Value)=>p.1=q.1/\H q.2.1=some (.tup (p.1.map kV))/\RelV p.2 q.2.2) kvs xs/\
   ∃o es ep,h.get? a=some o/\o.ExactDict/\o.data=.dict es ep/\es.toList=xs.map (entryOfKey (tupleKind (z1o P w)))/\(xs.map (·.1)).Nodup
 | .set S n=>h.SetOf (intKind P w) a S n
 | .ins C dx fs=>H dx=some (.own a)/\fs.length≤1000/\dx≠a/\h.get? a=some (PySem.W.instObj C dx)/\
   ∃mA,h.Ns1 dx mA/\(∀f,M1 (fs.lookup f) (mA f))/\PySem.Within mA (fs.map (·.1))
 | .own _=>∃o,h.get? a=some o
 | .xd fs=>∃mA,h.Ns1 a mA/\∀f,M1 (fs.lookup f) (mA f)
 | .rng lo hi=>∃t u v,h.get? a=some { cls:=.type "range",data:=.fields #[.int lo t,.int hi u,.int 1 v] }
 | .frz o u=>h.get? a=some o/\z1g H h a u
 | .tbl ps=>h.get? a=some { cls:=.none,data:=.fields ps }
 | .met f x=>h.get? a=some (PySem.W.methodObj (.ref f) (.ref x))
 | .ext φ=>φ h/\(∃o,h.get? a=some o)/\∀h1 h2:Heap,φ h1->(∀o,h1.get? a=some o->h2.get? a=some o)->φ h2
def HOk(H:Hp)(h:Heap):Prop:=∀a o,H a=some o->z1g P w H h a o
end
section
variable{P:Program}{w:World}{H H':Hp}{h h':Heap}{a:Addr}{o:HO}
theorem z1g.lt(x:z1g P w H h a o):a<h.objs.size:=by
 cases o with
 | lst xs=>obtain⟨_,_,_,_,e⟩:=x;exact bJ e
 | tup xs=>obtain⟨_,_,_,o,e,_⟩:=x;exact bJ e
 | dK kvs=>obtain⟨_,_,_,_,o,_,_,e,_⟩:=x;exact bJ e
 | dT kvs=>obtain⟨_,_,_,_,o,_,_,e,_⟩:=x;exact bJ e
 | set S n=>obtain⟨o,_,_,_,e,_⟩:=x;exact bJ e
 | ins C dx fs=>obtain⟨_,_,_,e,_⟩:=x;exact bJ e
 | own y=>obtain⟨_,e⟩:=x;exact bJ e
 | xd fs=>obtain⟨_,⟨_,_,_,e,_⟩,_⟩:=x;exact bJ e
 | rng lo hi=>obtain⟨_,_,_,e⟩:=x;exact bJ e
 | frz ob u=>obtain⟨e,_⟩:=x;exact bJ e
 | tbl ps=>exact bJ (show h.get? a=some _ from x)
 | met f y=>exact bJ (show h.get? a=some _ from x)
 | ext φ=>obtain⟨_,⟨_,e⟩,_⟩:=x;exact bJ e
theorem Paired.U8{α β:Type}{F G:α->β->Prop}:∀{l₁:List α}{l₂:List β},Paired F l₁ l₂->(∀a b,F a b->G a b)->Paired G l₁ l₂
 | _,_,.nil,_=>.nil
 | _,_,.cons r t,f=>.cons (f _ _ r) (Paired.U8 t f)
theorem z1g.V0(x:z1g P w H h a o)(k:∀b u,(b=a\/H b=some (.own a))->h.get? b=some u->h'.get? b=some u)
  (ho:∀b,H b=some (.own a)->H' b=some (.own a)) (ht:∀b xs,H b=some (.tup xs)->H' b=some (.tup xs)):z1g P w H' h' a o:=by
 induction o with
 | lst xs=>obtain⟨z,its,n,r,e⟩:=x;exact⟨z,its,n,r,k _ _ (.inl rfl) e⟩
 | tup xs=>obtain⟨z,its,r,ob,e,c⟩:=x;exact⟨z,its,r,ob,k _ _ (.inl rfl) e,c⟩
 | dK kvs=>obtain⟨z,y,vs,r,ob,es,ep,e,c⟩:=x;exact⟨z,y,vs,r,ob,es,ep,k _ _ (.inl rfl) e,c⟩
 | dT kvs=>
  obtain⟨z,y,xs,r,ob,es,ep,e,c⟩:=x
  exact⟨z,y,xs,Paired.U8 r fun p q z=>⟨z.1,ht _ _ z.2.1,z.2.2⟩,ob,es,ep,k _ _ (.inl rfl) e,c⟩
 | set S n=>obtain⟨ob,es,ep,t,e,c⟩:=x;exact⟨ob,es,ep,t,k _ _ (.inl rfl) e,c⟩
 | ins C dx fs=>
  obtain⟨d,z,ne,e,mA,⟨od,es,ep,e2,c⟩,r⟩:=x
  exact⟨ho _ d,z,ne,k _ _ (.inl rfl) e,mA,⟨od,es,ep,k _ _ (.inr d) e2,c⟩,r⟩
 | own y=>obtain⟨ob,e⟩:=x;exact⟨ob,k _ _ (.inl rfl) e⟩
 | xd fs=>obtain⟨mA,⟨od,es,ep,e,c⟩,r⟩:=x;exact⟨mA,⟨od,es,ep,k _ _ (.inl rfl) e,c⟩,r⟩
 | rng lo hi=>obtain⟨t,u,v,e⟩:=x;exact⟨t,u,v,k _ _ (.inl rfl) e⟩
 | frz ob u ih=>obtain⟨e,q⟩:=x;exact⟨k _ _ (.inl rfl) e,ih q⟩
 | tbl ps=>
  have e:h.get? a=some { cls:=.none,data:=.fields ps }:=x
  show h'.get? a=some { cls:=.none,data:=.fields ps }
  exact k a _ (.inl rfl) e
 | met f y=>
  have e:h.get? a=some (PySem.W.methodObj (.ref f) (.ref y)):=x
  show h'.get? a=some (PySem.W.methodObj (.ref f) (.ref y))
  exact k a _ (.inl rfl) e
 | ext φ=>obtain⟨p,⟨o,e⟩,st⟩:=x;exact⟨st _ _ p fun o q=>k _ _ (.inl rfl) q,⟨o,k _ _ (.inl rfl) e⟩,st⟩
theorem HOk.lt(x:HOk P w H h)(e:H a=some o):a<h.objs.size:=(x a o e).lt
theorem HOk.fresh(x:HOk P w H h)(e:h.objs.size≤a):H a=none:=by
 cases q:H a with
 | none=>rfl
 | some u=>exact absurd (cR (x.lt q) e) (dP _)
theorem HOk.kept(x:HOk P w H h)(k:∀b u,h.get? b=some u->h'.get? b=some u):HOk P w H h':=fun a o e=>
 (x a o e).V0 (fun b u _ q=>k b u q) (fun _ q=>q) fun _ _ q=>q
theorem HOk.laid(x:HOk P w H h)(k:∀b u,h.get? b=some u->h'.get? b=some u)(hp:h.objs.size≤a)(new:z1g P w (upd H a o) h' a o):HOk P w (upd H a o) h':=fun b u e=>by
 have hn:=x.fresh hp
 by_cases hb:b=a
 ·subst hb;rw[z02] at e;cases e;exact new
 ·rw[z0e hb] at e
  exact(x b u e).V0 (fun c v _ q=>k c v q) (fun c q=>by rw[z0e (z0l q hn)];exact q) fun c xs q=>by rw[z0e (z0l q hn)];exact q
end
def Rd(H:Hp)(a:Addr)(u:HO):Prop:=H a=some u\/∃o,H a=some (.frz o u)
theorem Rd.ok{P:Program}{w:World}{H:Hp}{h:Heap}{a:Addr}{u:HO}(r:Rd H a u)(x:HOk P w H h):z1g P w H h a u:=by
 rcases r with r|⟨o,r⟩
 ·exact x a u r
 ·obtain⟨_,q⟩:=x a _ r
  exact q
def Mut:Option HO->Prop
 | some (.lst _)=>True
 | some (.dK _)=>True
 | some (.dT _)=>True
 | some (.set _ _)=>True
 | some (.ins _ _ _)=>True
 | some (.ext _)=>True
 | _=>False
section
variable{P:Program}{w:World}{H:Hp}{h h':Heap}{x e:Addr}{o':HO}
theorem HOk.write(ok:HOk P w H h)(mu:Mut (H x))(he:e=x\/H e=some (.own x))(k:∀b u,b≠e->h.get? b=some u->h'.get? b=some u)(heo:∃u,h'.get? e=some u)
  (new:z1g P w (upd H x o') h' x o'):HOk P w (upd H x o') h':=fun b u q=>by
 have nown:∀c y,H c=some (.own y)->c≠x:=fun c y r z=>by subst z;rw[r] at mu;exact mu
 have ntup:∀c xs,H c=some (.tup xs)->c≠x:=fun c xs r z=>by subst z;rw[r] at mu;exact mu
 by_cases hb:b=x
 ·subst hb;rw[z02] at q;cases q;exact new
 ·rw[z0e hb] at q
  by_cases hbe:b=e
  ·have q':H b=some (.own x):=by
    rcases he with z|z
    ·exact absurd (hbe.trans z) hb
    ·rw[hbe];exact z
   rw[q] at q';cases q'
   obtain⟨v,hv⟩:=heo
   exact⟨v,by rw[hbe];exact hv⟩
  ·refine(ok b u q).V0 (fun c v hc r=>k c v ?_ r) (fun c r=>by rw[z0e (nown c b r)];exact r) fun c xs r=>by rw[z0e (ntup c xs r)];exact r
   rcases hc with rfl|hc
   ·exact hbe
   ·rintro rfl
    rcases he with z|z
    ·exact nown c b hc z
    ·rw[hc] at z;cases z;exact hb rfl
end
structure Un(fs ex:List Addr)(H H':Hp)(h h':Heap):Prop where
 keep:∀b o,h.get? b=some o->H b=none->b∉fs->b∉ex->h'.get? b=some o
 slot:∀b o,h.get? b=some o->H b=none->b∈fs->b∉ex->∃sl,h'.get? b=some { o with slots:=sl }
 free:∀b o,h.get? b=some o->H b=none->b∉ex->H' b=none
 there:∀b o,h.get? b=some o->b∉ex->∃o',h'.get? b=some o'
 R8:∀b xs,H b=some (.tup xs)->H' b=some (.tup xs)
 R3:∀b o u,H b=some (.frz o u)->H' b=some (.frz o u)
 S4:∀b ps,H b=some (.tbl ps)->∃more,H' b=some (.tbl (ps++more))
section
variable{fs fs' ex ex':List Addr}{H H1 H2:Hp}{h h1 h2 h':Heap}{a x e:Addr}{o:HO}
theorem Un.any(u:Un fs ex H H1 h h1){b:Addr}{ob:Obj}(q:h.get? b=some ob)(n:H b=none)(hx:b∉ex):∃sl,h1.get? b=some { ob with slots:=sl }:=by
 by_cases hb:b∈fs
 ·exact u.slot b ob q n hb hx
 ·exact⟨ob.slots,u.keep b ob q n hb hx⟩
theorem Un.kept(k:∀b u,h.get? b=some u->h'.get? b=some u):Un fs ex H H h h':=
 ⟨fun b ob q _ _ _=>k b ob q,fun b ob q _ _ _=>⟨ob.slots,k b ob q⟩,fun _ _ _ n _=>n,fun b ob q _=>⟨ob,k b ob q⟩,fun _ _ q=>q,fun _ _ _ q=>q,fun _ ps q=>⟨#[],by rw[q];simp⟩⟩
theorem Un.refl:Un fs ex H H h h:=Un.kept fun _ _ q=>q
theorem Un.laid(k:∀b u,h.get? b=some u->h'.get? b=some u)(hp:h.objs.size≤a)(hn:H a=none):Un fs ex H (upd H a o) h h' where
 keep:=fun b u q _ _ _=>k b u q
 slot:=fun b u q _ _ _=>⟨u.slots,k b u q⟩
 free:=fun b u q n _=>by rw[z0e (bU (cR (bJ q) hp))];exact n
 there:=fun b u q _=>⟨u,k b u q⟩
 R8:=fun b xs q=>by rw[z0e (z0l q hn)];exact q
 R3:=fun b u xs q=>by rw[z0e (z0l q hn)];exact q
 S4:=fun b ps q=>⟨#[],by rw[z0e (z0l q hn),q];simp⟩
theorem Un.write(mu:Mut (H x))(he:e=x\/H e=some (.own x))(k:∀b u,b≠e->h.get? b=some u->h'.get? b=some u)(heo:∃u,h'.get? e=some u):Un fs ex H (upd H x o) h h':=by
 have hx:∀b,H b=none->b≠x:=fun b n z=>by subst z;rw[n] at mu;exact mu
 have hb:∀b,H b=none->b≠e:=fun b n z=>by
  subst z
  rcases he with r|r
  ·exact hx b n r
  ·rw[n] at r;cases r
 have hm:∀b u,H b=some u->¬Mut (some u)->b≠x:=fun b u q nm z=>by subst z;rw[q] at mu;exact nm mu
 refine⟨fun b u q n _ _=>k b u (hb b n) q,fun b u q n _ _=>⟨u.slots,k b u (hb b n) q⟩,fun b u q n _=>by rw[z0e (hx b n)];exact n,fun b u q _=>?_,
  fun b xs q=>by rw[z0e (hm b _ q fun z=>z)];exact q,fun b u xs q=>by rw[z0e (hm b _ q fun z=>z)];exact q,fun b ps q=>⟨#[],by rw[z0e (hm b _ q fun z=>z),q];simp⟩⟩
 by_cases hbe:b=e
 ·subst hbe;exact heo
 ·exact⟨u,k b u hbe q⟩
end
def trk(h:Heap)(H:Hp):List Addr:=(List.range h.objs.size).filter fun a=>(H a).isSome
def R0(h:Heap)(H:Hp):Heap:=PySem.W.hideAll h (trk h H)
theorem y3g(h:Heap)(H:Hp):(R0 h H).objs.size=h.objs.size:=PySem.W.hideAll_size _ _
theorem y4n{h:Heap}{H:Hp}{b:Addr}{o:Obj}(e:h.get? b=some o)(n:H b=none):(R0 h H).get? b=some o:=
 PySem.W.hideAll_get _ e fun hm=>by
  have q:(H b).isSome=true:=(bV.mp hm).2
  rw[n] at q;simp at q
theorem y61{h:Heap}{H:Hp}{b:Addr}{o:Obj}(e:(R0 h H).get? b=some o):h.get? b=some o/\H b=none:=by
 have e':h.get? b=some o:=PySem.W.of_hideAll (trk h H) e
 refine⟨e',?_⟩
 cases q:H b with
 | none=>rfl
 | some x=>
  have hm:b∈trk h H:=bV.mpr ⟨eQ.mpr (bJ e'),by simp[q]⟩
  have z:(R0 h H).get? b=none:=PySem.W.hideAll_none (trk h H) hm
  rw[z] at e;cases e
def y5U(g h:Heap)(L:Addr):List (Addr×Obj):=(List.range h.objs.size).filterMap fun a=>if a=L\/(g.get? a).isSome=true then none else (h.get? a).map fun o=>(a,o)
def rest(g h:Heap)(L d:Addr):List (Addr×Obj):=(y5U g h L).filter fun p=>decide (p.1≠d)
structure Mod(K:PySem.W.Frag)(mg:Str->Option Value)(base:Heap):Prop where
 kin:K.In base
 glob:base.Ns mainGlobals mg
 blt:∃mb,base.Ns builtinsNs mb/\∀x:Str,x≠"__name__"->mb x=bootBuiltins x
 nolimit:base.NoLimit
structure Cx where
 prog:Program
 w:World
 K:PySem.W.Frag
 mg:Str->Option Value
 base:Heap
 A:Around
 N:List Str
 s₀:Shared
 H₀:Hp
 env:Env
 outer:List Env
 stack:List Env
 ex:List Addr
 fn:Str->Bool
 calm:Bool
 pn:List (Addr×Obj)
 xe:Value->Shared->Prop
def frs(l:List Env):List Addr:=l.filterMap (·.frame)
abbrev Cx.fs(X:Cx):List Addr:=frs X.outer
def Vis(sc:Scope)(x:Str):Prop:=sc.names.lookup x=some .local\/sc.names.lookup x=some .cell\/sc.names.lookup x=some .free
def Loc(sc:Scope)(x:Str):Prop:=sc.names.lookup x=some .local\/sc.names.lookup x=some .cell
def Look(env:Env)(h:Heap)(m:Str->Option Value)(x:Str)(u:Value):Prop:=
 (env.kindOf x=some .local/\m x=some u)\/((env.kindOf x=some .cell\/env.kindOf x=some .free)/\∃c,env.cells.lookup x=some c/\h.IsCell c (some u))
structure Cx.Ok(X:Cx):Prop where
 mod:Mod X.K X.mg X.base
 kind:X.env.scope.kind=.function
 glob:X.env.globals=mainGlobals
 blt:X.env.builtins=builtinsNs
 above:X.s₀.heap.objs.size≤X.env.locals
 inj:∀x y c,X.env.cells.lookup x=some c->X.env.cells.lookup y=some c->x=y
 has:∀x,(X.env.kindOf x=some .cell\/X.env.kindOf x=some .free)->∃c,X.env.cells.lookup x=some c
 cab:∀x c,X.fn x=true->X.env.cells.lookup x=some c->X.s₀.heap.objs.size≤c
 hd:X.calm=true->X.A.handled=none
 frames:X.A.frames=some X.stack
 stk:X.stack=X.outer\/(X.stack=X.env::X.outer/\X.env.frame=some X.env.locals)
 exf:∀b∈X.ex,b≠X.env.locals/\∀x c,X.env.cells.lookup x=some c->c≠b
 bs:∀b o,X.base.get? b=some o->X.s₀.heap.get? b=some o/\X.H₀ b=none
 bsz:X.base.objs.size≤X.s₀.heap.objs.size
 noex:∀b o,X.base.get? b=some o->b∉X.ex
 exfs:∀b∈X.ex,b∉X.fs
 O6:X.s₀.heap.FunFrames X.base X.outer
 frf:∀b∈X.fs,X.H₀ b=none
structure Inv(X:Cx)(pins:List (Addr×Obj))(σ:List (Option V))(H:Hp)(s:Shared):Prop where
 ok:X.Ok
 os:s.os=X.s₀.os
 bare:AllBare s.gens
 base:Un X.fs X.ex X.H₀ H X.s₀.heap s.heap
 loc:∃m,s.heap.Ns X.env.locals m/\∀(i:Nat) (x:Str) (v:V),X.N[i]? = some x->σ[i]? = some (some v)->Vis X.env.scope x->∃u,RelV v u/\Look X.env s.heap m x u
 cell:∀x c,X.env.cells.lookup x=some c->∃v,s.heap.IsCell c v
 free:H X.env.locals=none
 freeC:∀x c,X.env.cells.lookup x=some c->H c=none
 pin:∀p∈X.pn++pins,s.heap.get? p.1=some p.2/\H p.1=none/\p.1≠X.env.locals/\p.1∉X.fs/\∀v,p.2.data≠.cell v
 hok:HOk X.prog X.w H s.heap
 len:σ.length=X.N.length
section
variable{X:Cx}{pins:List (Addr×Obj)}{σ:List (Option V)}{H H':Hp}{s:Shared}{h':Heap}
theorem Cx.Ok.nofr(ok:X.Ok){b:Addr}{o:Obj}(e:X.base.get? b=some o):b∉X.fs:=fun hb=>by
 have:=(ok.O6.mem hb).1
 rw[e] at this;cases this
theorem Inv.bs(I:Inv X pins σ H s):∀b o,X.base.get? b=some o->s.heap.get? b=some o/\H b=none:=fun b o e=>
 ⟨I.base.keep b o (I.ok.bs b o e).1 (I.ok.bs b o e).2 (I.ok.nofr e) (I.ok.noex b o e),I.base.free b o (I.ok.bs b o e).1 (I.ok.bs b o e).2 (I.ok.noex b o e)⟩
theorem Inv.bk(I:Inv X pins σ H s):∀b o,X.base.get? b=some o->s.heap.get? b=some o:=fun b o e=>(I.bs b o e).1
theorem Inv.mod(I:Inv X pins σ H s):Mod X.K X.mg X.base:=I.ok.mod
theorem Inv.kIn(I:Inv X pins σ H s):X.K.In s.heap:=I.ok.mod.kin.keeps I.bk
theorem Inv.fr(I:Inv X pins σ H s):∃m,Fr X.base X.env.locals s.heap m:=
 let ⟨m,hn,_⟩:=I.loc
 ⟨m,hn,I.bk,cO I.ok.bsz I.ok.above⟩
theorem Inv.lt(I:Inv X pins σ H s):X.env.locals<s.heap.objs.size:=let ⟨_,hn,_⟩:=I.loc;hn.lt
theorem Inv.sz(I:Inv X pins σ H s):X.s₀.heap.objs.size≤s.heap.objs.size:=cO I.ok.above (eY I.lt)
theorem Inv.nofs(I:Inv X pins σ H s){a:Addr}(h:s.heap.objs.size≤a):a∉X.fs:=fun hb=>by
 obtain⟨_,o,ho,_⟩:=I.ok.O6.mem hb
 exact absurd (cR (bJ ho) (cO I.sz h)) (dP _)
theorem Inv.cne(I:Inv X pins σ H s):∀x c,X.env.cells.lookup x=some c->c≠X.env.locals:=fun x c e z=>by
 obtain⟨v,o,ho,hd⟩:=I.cell x c e
 obtain⟨m,⟨o',es,ep,ho',hd',_⟩,_⟩:=I.loc
 rw[z,ho'] at ho;cases ho;rw[hd'] at hd;cases hd
theorem Inv.O6(I:Inv X pins σ H s):s.heap.FunFrames X.base X.outer:=by
 have all:∀(l:List Env),(∀b∈frs l,b∈X.fs)->X.s₀.heap.FunFrames X.base l->s.heap.FunFrames X.base l:=by
  intro l
  induction l with
  | nil=>intro _ _;trivial
  | cons env r ih=>
   intro hs hl
   obtain⟨hk,⟨L,o,hf,hn,ho,hd⟩,hr⟩:=hl
   have hL:L∈X.fs:=hs L (by unfold frs;rw[eO,hf];exact bS)
   obtain⟨sl,e⟩:=I.base.slot L o ho (I.ok.frf L hL) hL fun z=>I.ok.exfs L z hL
   exact⟨hk,⟨L,_,hf,hn,e,hd⟩,ih (fun b hb=>hs b (by unfold frs;rw[eO,hf];exact bM _ hb)) hr⟩
 exact all X.outer (fun _ hb=>hb) I.ok.O6
theorem Inv.stack(I:Inv X pins σ H s):s.heap.FunFrames X.base X.stack:=by
 rcases I.ok.stk with e|⟨e,hf⟩
 ·rw[e];exact I.O6
 ·rw[e]
  obtain⟨m,hn,_⟩:=I.loc
  refine .cons (by rw[I.ok.kind];decide) hf hn ?_ I.O6
  exact Heap.get?_none_of_le (cO I.ok.bsz I.ok.above)
theorem Inv.P2(I:Inv X pins σ H s):∀b∈frs X.stack,b∈X.env.locals::X.fs:=fun b hb=>by
 rcases I.ok.stk with e|⟨e,hf⟩
 ·rw[e] at hb;exact bM _ hb
 ·rw[e] at hb
  unfold frs at hb
  rw[eO,hf] at hb
  exact hb
theorem Inv.U4(I:Inv X pins σ H s):∀b∈frs X.stack,H b=none:=fun b hb=>by
 rcases bA.mp (I.P2 b hb) with e|hb
 ·rw[e];exact I.free
 ·obtain⟨_,o,ho,_⟩:=I.ok.O6.mem hb
  exact I.base.free b o ho (I.ok.frf b hb) fun z=>I.ok.exfs b z hb
theorem Inv.step{g':Array GenState}{t':Nat}{d':Drawn}{ch:List Addr}(I:Inv X pins σ H s)
  (hch:∀b∈ch,(b∈X.ex\/X.s₀.heap.objs.size≤b)/\b≠X.env.locals/\(∀x c,X.env.cells.lookup x=some c->c≠b)/\∀p∈X.pn++pins,p.1≠b)
  (keep:∀b o,b≠X.env.locals->b∉X.fs->b∉ch->s.heap.get? b=some o->H b=none->h'.get? b=some o)
  (slot:∀b o,b≠X.env.locals->b∈X.fs->b∉ch->s.heap.get? b=some o->H b=none->∃sl,h'.get? b=some { o with slots:=sl }) (free:∀b o,b∉ch->s.heap.get? b=some o->H b=none->H' b=none)
  (there:∀b o,b∉ch->s.heap.get? b=some o->∃o',h'.get? b=some o')
  (R8:∀b xs,H b=some (.tup xs)->H' b=some (.tup xs)) (R3:∀b o u,H b=some (.frz o u)->H' b=some (.frz o u)) (S4:∀b ps,H b=some (.tbl ps)->∃more,H' b=some (.tbl (ps++more)))
  (ns:∀m,s.heap.Ns X.env.locals m->h'.Ns X.env.locals m) (hok:HOk X.prog X.w H' h') (hg:AllBare g') :
  Inv X pins σ H' { s with heap:=h',gens:=g',drawn:=d',toks:=t' }:=by
 have neL:∀b o,X.s₀.heap.get? b=some o->b≠X.env.locals:=fun b o e=>bU (cR (bJ e) I.ok.above)
 have neC:∀b o,X.s₀.heap.get? b=some o->b∉X.ex->b∉ch:=fun b o e hx hb=>by
  rcases(hch b hb).1 with z|z
  ·exact hx z
  ·exact absurd (cR (bJ e) z) (dP _)
 have cellK:∀x c,X.env.cells.lookup x=some c->∀v,s.heap.IsCell c v->h'.IsCell c v:=fun x c e v ⟨o,ho,hd⟩=>by
  have nch:c∉ch:=fun z=>(hch c z).2.2.1 x c e rfl
  by_cases hc:c∈X.fs
  ·obtain⟨sl,q⟩:=slot c o (I.cne x c e) hc nch ho (I.freeC x c e)
   exact⟨_,q,hd⟩
  ·exact⟨o,keep c o (I.cne x c e) hc nch ho (I.freeC x c e),hd⟩
 refine⟨I.ok,I.os,hg,⟨fun b o e n hb hx=>?_,fun b o e n hb hx=>?_,fun b o e n hx=>?_,fun b o e hx=>?_,fun b xs e=>R8 b xs (I.base.R8 b xs e),fun b o xs e=>R3 b o xs (I.base.R3 b o xs e),fun b ps e=>?_⟩,?_,fun x c e=>?_,?_,fun x c e=>?_,fun p hp=>?_,hok,I.len⟩
 ·exact keep b o (neL b o e) hb (neC b o e hx) (I.base.keep b o e n hb hx) (I.base.free b o e n hx)
 ·obtain⟨sl,e1⟩:=I.base.slot b o e n hb hx
  obtain⟨sl',e2⟩:=slot b _ (neL b o e) hb (neC b o e hx) e1 (I.base.free b o e n hx)
  exact⟨sl',e2⟩
 ·obtain⟨o',e1⟩:=I.base.there b o e hx
  exact free b o' (neC b o e hx) e1 (I.base.free b o e n hx)
 ·obtain⟨o',e1⟩:=I.base.there b o e hx
  exact there b o' (neC b o e hx) e1
 ·obtain⟨m1,e1⟩:=I.base.S4 b ps e
  obtain⟨m2,e2⟩:=S4 b _ e1
  exact⟨m1++m2,by rw[e2,Array.append_assoc]⟩
 ·obtain⟨m,hn,hl⟩:=I.loc
  refine⟨m,ns m hn,fun i x v e1 e2 e3=>?_⟩
  obtain⟨u,r,l⟩:=hl i x v e1 e2 e3
  refine⟨u,r,?_⟩
  rcases l with l|⟨k,c,e,z⟩
  ·exact .inl l
  ·exact .inr ⟨k,c,e,cellK x c e _ z⟩
 ·obtain⟨v,z⟩:=I.cell x c e
  exact⟨v,cellK x c e v z⟩
 ·obtain⟨m,⟨o,_,_,ho,_⟩,_⟩:=I.loc
  exact free _ o (fun z=>(hch _ z).2.1 rfl) ho I.free
 ·obtain⟨v,o,ho,hd⟩:=I.cell x c e
  exact free c o (fun z=>(hch c z).2.2.1 x c e rfl) ho (I.freeC x c e)
 ·obtain⟨e,n,ne,nf,d⟩:=I.pin p hp
  have nch:p.1∉ch:=fun z=>(hch p.1 z).2.2.2 p hp rfl
  exact⟨keep p.1 p.2 ne nf nch e n,free p.1 p.2 nch e n,ne,nf,d⟩
theorem Inv.un{t':Nat}(I:Inv X pins σ H s)(u:Un X.fs [] H H' s.heap h')(hok:HOk X.prog X.w H' h'):Inv X pins σ H' { s with heap:=h',toks:=t' }:=by
 obtain⟨m,⟨o,es,ep,ho,r⟩,_⟩:=id I.loc
 obtain⟨sl,hL⟩:=u.any ho I.free (by simp)
 exact I.step (g':=s.gens) (d':=s.drawn) (ch:=[]) (fun _ z=>nomatch z) (fun b o _ hb _ e n=>u.keep b o e n hb (by simp)) (fun b o _ hb _ e n=>u.slot b o e n hb (by simp)) (fun b o _ e n=>u.free b o e n (by simp)) (fun b o _ e=>u.there b o e (by simp)) u.R8 u.R3 u.S4 (fun m' hm=>by
  obtain⟨o',es',ep',ho',r'⟩:=hm
  rw[ho] at ho';cases ho'
  exact⟨_,es',ep',hL,r'⟩) hok I.bare
theorem Inv.call{g':Array GenState}{t':Nat}{d':Drawn}{ch:List Addr}(I:Inv X pins σ H s)(u:Un (frs X.stack) ch H H' s.heap h')(hok:HOk X.prog X.w H' h')(hg:AllBare g')
  (hch:∀b∈ch,(b∈X.ex\/X.s₀.heap.objs.size≤b)/\b≠X.env.locals/\(∀x c,X.env.cells.lookup x=some c->c≠b)/\∀p∈X.pn++pins,p.1≠b) :
  Inv X pins σ H' { s with heap:=h',gens:=g',drawn:=d',toks:=t' }:=by
 obtain⟨m,⟨o,es,ep,ho,r⟩,_⟩:=id I.loc
 obtain⟨sl,hL⟩:=u.any ho I.free fun z=>(hch _ z).2.1 rfl
 exact I.step (ch:=ch) hch (fun b o hL hb hc e n=>u.keep b o e n (fun z=>(bA.mp (I.P2 b z)).elim hL hb) hc) (fun b o _ _ hc e n=>u.any e n hc) (fun b o hc e n=>u.free b o e n hc) (fun b o hc e=>u.there b o e hc) u.R8 u.R3 u.S4 (fun m' hm=>by
  obtain⟨o',es',ep',ho',r'⟩:=hm
  rw[ho] at ho';cases ho'
  exact⟨_,es',ep',hL,r'⟩) hok hg
theorem Inv.turned{t':Nat}{it:Addr}(I:Inv X pins σ H s)(k:∀b o,b≠it->s.heap.get? b=some o->h'.get? b=some o)(hn:H it=none)(hL:it≠X.env.locals)
  (h1:it∈X.ex\/X.s₀.heap.objs.size≤it) (h2:∀x c,X.env.cells.lookup x=some c->c≠it) (h3:∀p∈X.pn++pins,p.1≠it):Inv X pins σ H { s with heap:=h',toks:=t' }:=by
 have nit:∀b u,H b=some u->b≠it:=fun b u e z=>by rw[z,hn] at e;cases e
 refine I.step (g':=s.gens) (d':=s.drawn) (ch:=[it]) (fun b hb=>?_) (fun b o _ _ hc e _=>k b o (fun z=>hc (by simp[z])) e) (fun b o _ _ hc e _=>⟨o.slots,k b o (fun z=>hc (by simp[z])) e⟩) (fun _ _ _ _ n=>n)
  (fun b o hc e=>⟨o,k b o (fun z=>hc (by simp[z])) e⟩) (fun _ _ e=>e) (fun _ _ _ e=>e) (fun b ps e=>⟨#[],by rw[e];simp⟩) (fun m hm=>?_) (fun b u e=>?_) I.bare
 ·have e:b=it:=by simpa using hb
  subst e
  exact⟨h1,hL,h2,h3⟩
 ·obtain⟨o,es,ep,ho,r⟩:=hm
  exact⟨o,es,ep,k _ o (d9 hL) ho,r⟩
 ·refine(I.hok b u e).V0 (fun c v hc q=>k c v ?_ q) (fun _ q=>q) fun _ _ q=>q
  rcases hc with z|z
  ·rw[z];exact nit b u e
  ·exact nit c _ z
theorem Inv.tok(I:Inv X pins σ H s)(t:Nat):Inv X pins σ H { s with toks:=t }:=I.un (h':=s.heap) (t':=t) Un.refl I.hok
theorem Inv.kept{t':Nat}(I:Inv X pins σ H s)(k:∀b u,s.heap.get? b=some u->h'.get? b=some u):Inv X pins σ H { s with heap:=h',toks:=t' }:=I.un (Un.kept k) (I.hok.kept k)
theorem Inv.laid{a:Addr}{o:HO}{t':Nat}(I:Inv X pins σ H s)(k:∀b u,s.heap.get? b=some u->h'.get? b=some u)(hp:s.heap.objs.size≤a)(new:z1g X.prog X.w (upd H a o) h' a o) :
  Inv X pins σ (upd H a o) { s with heap:=h',toks:=t' }:=I.un (Un.laid k hp (I.hok.fresh hp)) (I.hok.laid k hp new)
theorem Inv.write{x e:Addr}{o:HO}{t':Nat}(I:Inv X pins σ H s)(mu:Mut (H x))(he:e=x\/H e=some (.own x))(k:∀b u,b≠e->s.heap.get? b=some u->h'.get? b=some u)(heo:∃u,h'.get? e=some u)
  (new:z1g X.prog X.w (upd H x o) h' x o):Inv X pins σ (upd H x o) { s with heap:=h',toks:=t' }:=I.un (Un.write mu he k heo) (I.hok.write mu he k heo new)
theorem Inv.weak{σ':List (Option V)}(I:Inv X pins σ H s)(hl:σ'.length=σ.length)(w:∀(i:Nat) v,σ'[i]? = some (some v)->σ[i]? = some (some v)):Inv X pins σ' H s:=
 ⟨I.ok,I.os,I.bare,I.base,let ⟨m,hn,hl'⟩:=I.loc;⟨m,hn,fun i x v e1 e2 e3=>hl' i x v e1 (w i v e2) e3⟩,I.cell,I.free,I.freeC,I.pin,I.hok,hl.trans I.len⟩
theorem Inv.N7{pins':List (Addr×Obj)}(I:Inv X pins σ H s)(h:∀p∈pins',s.heap.get? p.1=some p.2/\H p.1=none/\p.1≠X.env.locals/\p.1∉X.fs/\∀v,p.2.data≠.cell v):Inv X pins' σ H s:=
 ⟨I.ok,I.os,I.bare,I.base,I.loc,I.cell,I.free,I.freeC,fun p hp=>(bO.mp hp).elim (fun z=>I.pin p (cX _ z)) (h p),I.hok,I.len⟩
theorem y16{N:List Str}(hN:N.Nodup){i j:Nat}{x:Str}(a:N[i]? = some x)(b:N[j]? = some x):i=j:=by
 obtain⟨h1,e1⟩:=cH.mp a
 obtain⟨h2,e2⟩:=cH.mp b
 exact(List.getElem_inj hN).mp (e1.trans e2.symm)
theorem y3k{M:Model}{A:Around}{E:Value->Shared->Prop}{i:Nat}{x:Str}{v:V}{u:Value}{Q:Unit->Shared->Prop}(I:Inv X pins σ H s)(hN:X.N.Nodup)(hi:X.N[i]? = some x)(hx:Loc X.env.scope x)(r:RelV v u)
  (h:∀s',Inv X pins (σ.set i (some v)) H s'->(∃a,Heap.SameBut a s.heap s'.heap/\(a=X.env.locals\/X.env.cells.lookup x=some a))->Q () s') (hf:X.fn x=true\/X.env.scope.names.lookup x=some .local:=by first|exact .inl rfl|exact .inr rfl|assumption):wpAny M A (storeName X.env x u) Q E s:=by
 obtain⟨m,hn,hl⟩:=id I.loc
 have hcls:(X.env.scope.kind == .class || (X.env.scope.kind == .module && X.env.locals != X.env.globals))=false:=by rw[I.ok.kind];rfl
 have hiσ:i<σ.length:=by rw[I.len];exact(cH.mp hi).1
 have cne:=I.cne
 have tracked:∀{a:Addr}{h':Heap},(∃o,s.heap.get? a=some o/\H a=none)->Heap.SameBut a s.heap h'->HOk X.prog X.w H h':=fun {a h'} ha hs b ob e=>by
  obtain⟨_,_,hfree⟩:=ha
  refine(I.hok b ob e).V0 (fun c w' hc q=>(hs.2 c ?_).trans q) (fun _ q=>q) fun _ _ q=>q
  rintro rfl
  rcases hc with rfl|hc
  ·rw[hfree] at e;cases e
  ·rw[hfree] at hc;cases hc
 rcases hx with hk|hk
 ·refine wpAny_storeName_local hk hn (fun h' hn' hs=>?_) hcls
  obtain⟨oL,_,_,hoL,_⟩:=id hn
  refine h _ ⟨I.ok,I.os,I.bare,⟨fun b o e n hb hx=>?_,fun b o e n hb hx=>?_,I.base.free,fun b o e hx=>?_,I.base.R8,I.base.R3,I.base.S4⟩,⟨_,hn',fun j y v' e1 e2 e3=>?_⟩,fun y c e=>?_,I.free,I.freeC,fun p hp=>?_,tracked ⟨oL,hoL,I.free⟩ hs,by simpa using I.len⟩ ⟨_,hs,.inl rfl⟩
  ·exact(hs.2 b (bU (cR (bJ e) I.ok.above))).trans (I.base.keep b o e n hb hx)
  ·obtain⟨sl,e1⟩:=I.base.slot b o e n hb hx
   exact⟨sl,(hs.2 b (bU (cR (bJ e) I.ok.above))).trans e1⟩
  ·obtain⟨o',e1⟩:=I.base.there b o e hx
   exact⟨o',(hs.2 b (bU (cR (bJ e) I.ok.above))).trans e1⟩
  ·by_cases hj:j=i
   ·subst hj
    rw[hi] at e1;cases e1
    rw[List.getElem?_set_self hiσ] at e2
    cases e2
    exact⟨u,r,.inl ⟨hk,by simp⟩⟩
   ·rw[j6 (d9 hj)] at e2
    obtain⟨u',r',q⟩:=hl j y v' e1 e2 e3
    refine⟨u',r',?_⟩
    rcases q with ⟨k,e⟩|⟨k,c,e,z⟩
    ·refine .inl ⟨k,?_⟩
     have:y≠x:=fun e=>hj (y16 hN e1 (e ▸ hi))
     simp[this,e]
    ·exact .inr ⟨k,c,e,z.sameBut hs (cne y c e)⟩
  ·obtain⟨w',z⟩:=I.cell y c e
   exact⟨w',z.sameBut hs (cne y c e)⟩
  ·obtain⟨e,n,ne,nf,d⟩:=I.pin p hp
   exact⟨(hs.2 p.1 ne).trans e,n,ne,nf,d⟩
 ·have hfn:X.fn x=true:=by
   rcases hf with z|z
   ·exact z
   ·rw[z] at hk;cases hk
  obtain⟨c,hc⟩:=I.ok.has x (.inl hk)
  obtain⟨w',z⟩:=I.cell x c hc
  refine wpAny_storeName_cell I.ok.kind hk hc z (fun h' hc' hs=>?_)
  obtain⟨oc,hoc,hocd⟩:=id z
  refine h { s with heap:=h' } ⟨I.ok,I.os,I.bare,⟨fun b o e n hb hx=>?_,fun b o e n hb hx=>?_,I.base.free,fun b o e hx=>?_,I.base.R8,I.base.R3,I.base.S4⟩,⟨m,hn.sameBut hs (d9 (cne x c hc)),fun j y v' e1 e2 e3=>?_⟩,fun y c' e=>?_,I.free,I.freeC,fun p hp=>?_,tracked ⟨oc,hoc,I.freeC x c hc⟩ hs,by simpa using I.len⟩ ⟨c,hs,.inr hc⟩
  ·exact(hs.2 b (bU (cR (bJ e) (I.ok.cab x c hfn hc)))).trans (I.base.keep b o e n hb hx)
  ·obtain⟨sl,e1⟩:=I.base.slot b o e n hb hx
   exact⟨sl,(hs.2 b (bU (cR (bJ e) (I.ok.cab x c hfn hc)))).trans e1⟩
  ·obtain⟨o',e1⟩:=I.base.there b o e hx
   exact⟨o',(hs.2 b (bU (cR (bJ e) (I.ok.cab x c hfn hc)))).trans e1⟩
  ·by_cases hj:j=i
   ·subst hj
    rw[hi] at e1;cases e1
    rw[List.getElem?_set_self hiσ] at e2
    cases e2
    exact⟨u,r,.inr ⟨.inl hk,c,hc,hc'⟩⟩
   ·rw[j6 (d9 hj)] at e2
    obtain⟨u',r',q⟩:=hl j y v' e1 e2 e3
    refine⟨u',r',?_⟩
    rcases q with q|⟨k,c',e,z'⟩
    ·exact .inl q
    ·refine .inr ⟨k,c',e,z'.sameBut hs ?_⟩
     rintro rfl
     exact hj (y16 hN e1 (I.ok.inj _ _ _ e hc ▸ hi))
  ·by_cases hcc:c'=c
   ·subst hcc;exact⟨_,hc'⟩
   ·obtain⟨w2,z2⟩:=I.cell y c' e
    exact⟨w2,z2.sameBut hs hcc⟩
  ·obtain⟨e,n,ne,nf,d⟩:=I.pin p hp
   refine⟨(hs.2 p.1 ?_).trans e,n,ne,nf,d⟩
   intro q
   rw[q,hoc] at e
   have q':oc=p.2:=Option.some.inj e
   exact d w' (by rw[<- q'];exact hocd)
theorem y0H{M:Model}{A:Around}{E:Value->Shared->Prop}{i:Nat}{x:Str}{v:V}{u:Value}{Q:Unit->Shared->Prop}(I:Inv X pins σ H s)(hN:X.N.Nodup)(hi:X.N[i]? = some x)(hx:Loc X.env.scope x)(r:RelV v u)
  (h:∀s',Inv X pins (σ.set i (some v)) H s'->Q () s') (hf:X.fn x=true\/X.env.scope.names.lookup x=some .local:=by first|exact .inl rfl|exact .inr rfl|assumption):wpAny M A (storeName X.env x u) Q E s:=
 y3k I hN hi hx r (fun s' I' _=>h s' I') hf
theorem Inv.w0x{s':Shared}{ch:List Addr}(I:Inv X pins σ H s)(ho:s'.os=s.os)(u:Un (frs X.stack) ch H H' s.heap s'.heap)(hok:HOk X.prog X.w H' s'.heap)(hg:AllBare s'.gens)
  (hch:∀b∈ch,(b∈X.ex\/X.s₀.heap.objs.size≤b)/\b≠X.env.locals/\(∀x c,X.env.cells.lookup x=some c->c≠b)/\∀p∈X.pn++pins,p.1≠b):Inv X pins σ H' s':=by
 obtain⟨h',g',d',t',o'⟩:=s'
 have e:o'=s.os:=ho
 subst e
 exact I.call (g':=g') (t':=t') (d':=d') u hok hg hch
end
abbrev XK:=Value->Option Addr->Hp->Prop
abbrev St:=List (Option V)
abbrev VK:=V->Hp->Prop
abbrev TE:=St->Hp->VK->Prop
abbrev TT:=St->Hp->(Bool->Hp->Prop)->Prop
abbrev TA:=St->Hp->(List V->Hp->Prop)->Prop
structure Ends where
 nx:St->Hp->Prop
 rt:VK
 bk:St->Hp->Prop:=fun _ _=>False
 ct:St->Hp->Prop:=fun _ _=>False
abbrev TS:=Ends->St->Hp->Prop
def EP(X:Cx)(pins:List (Addr×Obj))(σ:St)(Q:VK)(u:Value)(s':Shared):Prop:=∃v H',Inv X pins σ H' s'/\RelV v u/\Q v H'
def TP(X:Cx)(pins:List (Addr×Obj))(σ:St)(Q:Bool->Hp->Prop)(b:Bool)(s':Shared):Prop:=∃H',Inv X pins σ H' s'/\Q b H'
def AP(X:Cx)(pins:List (Addr×Obj))(σ:St)(Q:List V->Hp->Prop)(us:List Value)(s':Shared):Prop:=∃vs H',Inv X pins σ H' s'/\Vals vs us/\Q vs H'
def SP(X:Cx)(pins:List (Addr×Obj))(D:Ends)(f:Flow)(s':Shared):Prop:=
 match f with
 | .next=>∃σ' H',Inv X pins σ' H' s'/\D.nx σ' H'
 | .brk=>∃σ' H',Inv X pins σ' H' s'/\D.bk σ' H'
 | .cont=>∃σ' H',Inv X pins σ' H' s'/\D.ct σ' H'
 | .ret u=>∃v σ' H',Inv X pins σ' H' s'/\RelV v u/\D.rt v H'
def PE(X:Cx)(e:Expr)(t:TE):Prop:=
 ∀(pins:List (Addr×Obj)) (s:Shared) (σ:St) (H:Hp) (Q:VK),Inv X pins σ H s->t σ H Q->wpAny (model X.prog X.w) X.A (eval e X.env) (EP X pins σ Q) X.xe s
def PT(X:Cx)(e:Expr)(t:TT):Prop:=
 ∀(pins:List (Addr×Obj)) (s:Shared) (σ:St) (H:Hp) (Q:Bool->Hp->Prop),Inv X pins σ H s->t σ H Q->wpAny (model X.prog X.w) X.A (isTrue e X.env (eval e X.env)) (TP X pins σ Q) X.xe s
def PW(X:Cx)(e:Expr)(t:TT):Prop:=
 ∀(whole:Sem Value) (pins:List (Addr×Obj)) (s:Shared) (σ:St) (H:Hp) (Q:Bool->Hp->Prop),Inv X pins σ H s->t σ H Q->wpAny (model X.prog X.w) X.A (isTrue e X.env whole) (TP X pins σ Q) X.xe s
theorem PW.pt{X:Cx}{e:Expr}{t:TT}(h:PW X e t):PT X e t:=h _
def PA(X:Cx)(es:List Expr)(t:TA):Prop:=
 ∀(pos:Pos) (pins:List (Addr×Obj)) (s:Shared) (σ:St) (H:Hp) (Q:List V->Hp->Prop),Inv X pins σ H s->t σ H Q->wpAny (model X.prog X.w) X.A (spliced (backTo pos (starEach es X.env))) (AP X pins σ Q) X.xe s
def PS(X:Cx)(st:Stmt)(t:TS):Prop:=
 ∀(pins:List (Addr×Obj)) (s:Shared) (σ:St) (H:Hp) (D:Ends),Inv X pins σ H s->t D σ H->wpAny (model X.prog X.w) X.A (exec st X.env) (SP X pins D) X.xe s
def PSs(X:Cx)(st:List Stmt)(t:TS):Prop:=
 ∀(pins:List (Addr×Obj)) (s:Shared) (σ:St) (H:Hp) (D:Ends),Inv X pins σ H s->t D σ H->wpAny (model X.prog X.w) X.A (execs st X.env) (SP X pins D) X.xe s
theorem thn{α:Type}{t:Sem α}{Q Q':α->Shared->Prop}{M:Model}{A:Around}{E:Value->Shared->Prop}{s:Shared}(h:wpAny M A t Q E s)(hQ:∀a s,Q a s->Q' a s):wpAny M A t Q' E s:=wpAny_mono h hQ fun _ _ x=>x
section
variable{X:Cx}
def S7(i:Nat):TE:=fun σ H Q=>∃v,σ[i]? = some (some v)/\Q v H
def tC(v:V):TE:=fun _ H Q=>Q v H
theorem y6Y{i:Nat}{x:Str}{pos:Pos}(hN:X.N[i]? = some x)(hv:Vis X.env.scope x)(hd:(x == ("__debug__":Str))=false:=by decide)(hcd:(x == ("__classdict__":Str))=false:=by decide):PE X (.Name x pos) (S7 i):=by
 intro pins s σ H Q I h
 obtain⟨v,e,h⟩:=h
 obtain⟨m,hn,hl⟩:=I.loc
 obtain⟨u,r,l⟩:=hl i x v hN e hv
 have fin:EP X pins σ Q u s:=⟨v,H,I,r,h⟩
 rcases l with ⟨hk,hm⟩|⟨hk,c,hc,U5⟩
 ·exact wpAny_Name (wpAny_loadName_local I.ok.kind hk hn hm fin) hd
 ·rcases hk with hk|hk
  ·exact wpAny_Name (wpAny_loadName_cell I.ok.kind hk hc U5 fin) hd
  ·exact wpAny_Name (wpAny_loadName_free I.ok.kind hk hc U5 fin hcd) hd
theorem z06{i j pos}:PE X (.Constant (.int i) j pos) (tC (.int i)):=fun _ _ _ H _ I h=>wpAny_Constant_int ⟨.int i,H,I.tok _,⟨_,rfl⟩,h⟩
theorem z7Q{b j pos}:PE X (.Constant (.bool b) j pos) (tC (.bl b)):=fun _ _ _ H _ I h=>Constant_bool ⟨.bl b,H,I,rfl,h⟩
theorem z8p{j pos}:PE X (.Constant .none j pos) (tC .non):=fun _ _ _ H _ I h=>Constant_none ⟨.non,H,I,rfl,h⟩
theorem z2Q{x j pos}:PE X (.Constant (.str x) j pos) (tC (.str x)):=fun _ _ _ H _ I h=>Calls.Constant_str ⟨.str x,H,I.tok _,⟨_,rfl⟩,h⟩
def Gl(X:Cx)(x:Str):Prop:=X.env.kindOf x=some .globalImplicit
theorem y0s{E:Value->Shared->Prop}{pins:List (Addr×Obj)}{s:Shared}{σ:St}{H:Hp}{x:Str}{u:Value}{pos:Pos}{Q:Value->Shared->Prop}(I:Inv X pins σ H s)(hg:Gl X x)(hm:X.mg x=some u)(h:Q u s)
  (hd:(x == ("__debug__":Str))=false:=by decide):wpAny (model X.prog X.w) X.A (eval (.Name x pos) X.env) Q E s:=
 Calls.Name_function_global I.ok.kind hg (Calls.loadGlobal_global (by rw[I.ok.glob];exact I.mod.glob.keeps I.bk) hm h) hd
theorem z4Y{E:Value->Shared->Prop}{pins:List (Addr×Obj)}{s:Shared}{σ:St}{H:Hp}{x:Str}{u:Value}{pos:Pos}{Q:Value->Shared->Prop}(I:Inv X pins σ H s)(hg:Gl X x)(hm:X.mg x=none)(hv:bootBuiltins x=some u)(h:Q u s)
  (hn:x≠"__name__":=by decide) (hd:(x == ("__debug__":Str))=false:=by decide):wpAny (model X.prog X.w) X.A (eval (.Name x pos) X.env) Q E s:=by
 obtain⟨mb,h1,h2⟩:=I.mod.blt
 exact Calls.Name_function_global I.ok.kind hg (Calls.loadGlobal_builtin (by rw[I.ok.glob];exact I.mod.glob.keeps I.bk) hm (by rw[I.ok.blt];exact h1.keeps I.bk) ((h2 x hn).trans hv) h) hd
theorem y3K{x:Str}{v:V}{u:Value}{pos:Pos}(hg:Gl X x)(hm:X.mg x=some u)(r:RelV v u)(hd:(x == ("__debug__":Str))=false:=by decide):PE X (.Name x pos) (tC v):=
 fun _ _ _ H _ I h=>y0s I hg hm ⟨v,H,I,r,h⟩ hd
theorem z1T{x:Str}{v:V}{u:Value}{pos:Pos}(hg:Gl X x)(hm:X.mg x=none)(hv:bootBuiltins x=some u)(r:RelV v u)(hn:x≠"__name__":=by decide)(hd:(x == ("__debug__":Str))=false:=by decide):PE X (.Name x pos) (tC v):=
 fun _ _ _ H _ I h=>z4Y I hg hm hv ⟨v,H,I,r,h⟩ hn hd
variable{a b:Expr}{ta tb:TE}{pos:Pos}
def PC(X:Cx)(op:CmpOp)(a b:Expr)(t:TE):Prop:=
 ∀(pins:List (Addr×Obj)) (s:Shared) (σ:St) (H:Hp) (Q:VK),Inv X pins σ H s->t σ H Q->
  wpAny (model X.prog X.w) X.A (eval a X.env) (fun v s₁=>wpAny (model X.prog X.w) X.A (eval b X.env) (fun u s₂=>wpAny (model X.prog X.w) X.A (compareOp op v u) (EP X pins σ Q) X.xe s₂) X.xe s₁) X.xe s
theorem y13(b:Expr){op:CmpOp}(h:op≠.In)(h2:op≠.NotIn):behindInMarks op b=false:=by
 have e1:(op == CmpOp.In)=false:=by cases op<;>first|rfl|exact absurd rfl h
 have e2:(op == CmpOp.NotIn)=false:=by cases op<;>first|rfl|exact absurd rfl h2
 cases b<;>simp[behindInMarks,e1,e2]
def Z9(ta:TE):TE:=fun σ H Q=>ta σ H fun x H1=>Q (.bl (decide (x=.non))) H1
theorem RelV.V9{x:V}{v:Value}(r:RelV x v):(v == Value.none)=decide (x=.non):=by
 cases x with
 | non=>cases r;rfl
 | bl _=>cases r;rfl
 | int _=>obtain⟨t,rfl⟩:=r;rfl
 | str _=>obtain⟨t,rfl⟩:=r;rfl
 | byt _=>obtain⟨t,rfl⟩:=r;rfl
 | flt _=>obtain⟨t,rfl⟩:=r;rfl
 | ref _=>cases r;rfl
 | ty _=>cases r;rfl
theorem z9J{j pos'}(ha:PE X a ta):PC X .Is a (.Constant .none j pos') (Z9 ta):=by
 intro pins s σ H Q I h
 refine thn (ha pins s σ H _ I h) fun v s1 hz=>?_
 obtain⟨x,H1,I1,r1,q1⟩:=hz
 exact Constant_none (is_none_gen ⟨.bl _,H1,I1,by rw[r1.V9];rfl,q1⟩)
def tB(t:TE):TT:=fun σ H Q=>t σ H fun x H1=>∃c,x=.bl c/\Q c H1
theorem y5y{op:CmpOp}{t:TE}(h:PC X op a b t)(h1:behindInMarks op b=false:=by first|exact y13 _ (by decide) (by decide)|rfl):PE X (.Compare a [op] [b] pos) t:=fun pins s σ H Q I hw=>wpAny_Compare1 (h pins s σ H Q I hw) h1
theorem z87{op:CmpOp}{t:TE}(h:PC X op a b t)(h1:behindInMarks op b=false:=by first|exact y13 _ (by decide) (by decide)|rfl):PT X (.Compare a [op] [b] pos) (tB t):=by
 intro pins s σ H Q I hw
 refine wpAny_isTrue_Compare1 (thn (h pins s σ H _ I hw) fun v s1 h1=>thn h1 fun u s2 h2=>thn h2 fun c s3 hz=>?_) h1
 obtain⟨x,H1,I1,r1,q1⟩:=hz
 obtain⟨d,rfl,q⟩:=q1
 cases r1
 exact wpAny_truthy_bool ⟨H1,I1,q⟩
theorem z5d{e:Expr}{t:TE}(h:PE X e t)(he:∀whole,isTrue e X.env whole=(do let v <- whole;standAt e.pos;holding [v] (truthy v)):=by intro _;rfl):PT X e (tB t):=by
 intro pins s σ H Q I hw
 refine isTrue_plain (thn (h pins s σ H _ I hw) fun v s1 hz=>?_) (he _)
 obtain⟨x,H1,I1,r1,q1⟩:=hz
 obtain⟨d,rfl,q⟩:=q1
 cases r1
 exact wpAny_truthy_bool ⟨H1,I1,q⟩
variable{tA tB':TT}{rest:List Expr}
def tAnd(t u:TT):TT:=fun σ H Q=>t σ H fun c H1=>if c=true then u σ H1 Q else Q false H1
def tOr(t u:TT):TT:=fun σ H Q=>t σ H fun c H1=>if c=true then Q true H1 else u σ H1 Q
def tNot(t:TT):TT:=fun σ H Q=>t σ H fun c H1=>Q (!c) H1
theorem z2U(ha:PT X a tA):PW X (.BoolOp .And [a] pos) tA:=by
 intro wh pins s σ H Q I h
 refine isTrue_and (thn (ha pins s σ H Q I h) fun c s1 e=>?_)
 cases c with
 | true=>exact isTrue_and_nil e
 | false=>exact e
theorem z2s(ha:PT X a tA):PW X (.BoolOp .Or [a] pos) tA:=by
 intro wh pins s σ H Q I h
 refine isTrue_or (thn (ha pins s σ H Q I h) fun c s1 e=>?_)
 cases c with
 | false=>exact isTrue_or_nil e
 | true=>exact e
theorem z4t(ha:PT X a tA)(hb:PW X (.BoolOp .And (b::rest) pos) tB'):PW X (.BoolOp .And (a::b::rest) pos) (tAnd tA tB'):=by
 intro wh pins s σ H Q I h
 refine isTrue_and (thn (ha pins s σ H _ I h) fun c s1 hz=>?_)
 obtain⟨H1,I1,q1⟩:=hz
 cases c with
 | true=>exact hb wh pins s1 σ H1 Q I1 q1
 | false=>exact⟨H1,I1,q1⟩
theorem z38(ha:PT X a tA)(hb:PW X (.BoolOp .Or (b::rest) pos) tB'):PW X (.BoolOp .Or (a::b::rest) pos) (tOr tA tB'):=by
 intro wh pins s σ H Q I h
 refine isTrue_or (thn (ha pins s σ H _ I h) fun c s1 hz=>?_)
 obtain⟨H1,I1,q1⟩:=hz
 cases c with
 | true=>exact⟨H1,I1,q1⟩
 | false=>exact hb wh pins s1 σ H1 Q I1 q1
theorem z6n(ha:PT X a tA):PT X (.UnaryOp .Not a pos) (tNot tA):=by
 intro pins s σ H Q I h
 exact isTrue_not (ha pins s σ H (fun c H1=>Q (!c) H1) I h)
def w0r(ta tb:TE):TE:=fun σ H Q=>ta σ H fun x H1=>∃c,x=.bl c/\if c=true then tb σ H1 Q else Q (.bl false) H1
def w0W(ta:TE):TE:=fun σ H Q=>ta σ H fun x H1=>∃c,x=.bl c/\Q (.bl (!c)) H1
theorem y6U{op}{t:TE}(h:PE X a t):PE X (.BoolOp op [a] pos) t:=fun pins s σ H Q I hw=>BoolOp_one (h pins s σ H Q I hw)
theorem y6G(ha:PE X a ta)(hb:PE X (.BoolOp .And (b::rest) pos) tb):PE X (.BoolOp .And (a::b::rest) pos) (w0r ta tb):=by
 intro pins s σ H Q I h
 refine BoolOp_and (thn (ha pins s σ H _ I h) fun v s1 hz=>?_)
 obtain⟨x,H1,I1,r1,q1⟩:=hz
 obtain⟨c,rfl,q1⟩:=q1
 cases r1
 refine wpAny_truthy_bool ?_
 cases c with
 | true=>exact hb pins s1 σ H1 Q I1 q1
 | false=>exact⟨.bl false,H1,I1,rfl,q1⟩
theorem y7j(ha:PE X a ta):PE X (.UnaryOp .Not a pos) (w0W ta):=by
 intro pins s σ H Q I h
 refine UnaryOp_ (thn (ha pins s σ H _ I h) fun v s1 hz=>?_)
 obtain⟨x,H1,I1,r1,q1⟩:=hz
 obtain⟨c,rfl,q1⟩:=q1
 cases r1
 exact not_of (wpAny_truthy_bool ⟨.bl (!c),H1,I1,rfl,q1⟩)
def tIf(t:TT)(ta tb:TE):TE:=fun σ H Q=>t σ H fun c H1=>if c=true then ta σ H1 Q else tb σ H1 Q
theorem z90{c:Expr}(hc:PT X c tA)(ha:PE X a ta)(hb:PE X b tb):PE X (.IfExp c a b pos) (tIf tA ta tb):=by
 intro pins s σ H Q I h
 refine wpAny_IfExp (thn (hc pins s σ H _ I h) fun d s1 hz=>?_)
 obtain⟨H1,I1,q1⟩:=hz
 cases d with
 | true=>exact ha pins s1 σ H1 Q I1 q1
 | false=>exact hb pins s1 σ H1 Q I1 q1
end
def SqL(K:PySem.W.Frag)(H:Hp)(a:Addr)(xs:List V):Prop:=
 Rd H a (.lst xs)\/
  ∃(o:Obj) (its:Array Value) (n:Nat),K.lookup a=some o/\o.cls=.type "list"/\o.dict=none/\o.data=.seq its n/\its.size≤sizeLine/\Vals xs its.toList
def SqT(K:PySem.W.Frag)(H:Hp)(a:Addr)(xs:List V):Prop:=
 Rd H a (.tup xs)\/
  ∃(o:Obj) (its:Array Value) (n:Nat),K.lookup a=some o/\o.cls=.type "tuple"/\o.data=.seq its n/\its.size≤sizeLine/\Vals xs its.toList
def absV:Value->Option V
 | .none=>some .non
 | .bool b=>some (.bl b)
 | .int i _=>some (.int i)
 | .str x _=>some (.str x)
 | .bytes b _=>some (.byt b)
 | .float b _=>some (.flt b)
 | .ref a=>some (.ref a)
 | .type n=>some (.ty n)
 | _=>none
theorem RelV.abs{x:V}{u:Value}(r:RelV x u):absV u=some x:=by
 cases x with
 | non=>cases r;rfl
 | bl _=>cases r;rfl
 | int _=>obtain⟨t,rfl⟩:=r;rfl
 | str _=>obtain⟨t,rfl⟩:=r;rfl
 | byt _=>obtain⟨t,rfl⟩:=r;rfl
 | flt _=>obtain⟨t,rfl⟩:=r;rfl
 | ref _=>cases r;rfl
 | ty _=>cases r;rfl
theorem RelV.inj{x y:V}{u:Value}(r:RelV x u)(q:RelV y u):x=y:=Option.some.inj (r.abs.symm.trans q.abs)
theorem Vals.inj:∀{xs ys:List V}{us:List Value},Vals xs us->Vals ys us->xs=ys
 | _,_,_,.nil,.nil=>rfl
 | _,_,_,.cons r t,.cons r' t'=>by rw[r.inj r',Vals.inj t t']
section
variable{X:Cx}{pins:List (Addr×Obj)}{σ:St}{H:Hp}{s:Shared}{a:Addr}{xs ys:List V}
theorem SqL.of{K:PySem.W.Frag}(h:H a=some (.lst xs)):SqL K H a xs:=.inl (.inl h)
theorem SqT.of{K:PySem.W.Frag}(h:H a=some (.tup xs)):SqT K H a xs:=.inl (.inl h)
theorem Inv.list(I:Inv X pins σ H s)(h:SqL X.K H a xs):∃its:List Value,Vals xs its/\PlainL s.heap a its.toArray/\xs.length≤sizeLine:=by
 rcases h with h|⟨o,its,n,hk,hc,hd,hs,hz,r⟩
 ·obtain⟨z,its,n,r,e⟩:=h.ok I.hok
  exact⟨its,r,⟨_,n,e,rfl,rfl,rfl⟩,z⟩
 ·refine⟨its.toList,r,⟨o,n,I.kIn a o hk,hc,hd,by simpa using hs⟩,?_⟩
  have e:=r.length
  simp only[cL] at e
  omega
theorem Inv.tuple(I:Inv X pins σ H s)(h:SqT X.K H a xs):∃its:List Value,Vals xs its/\IsTup s.heap a its.toArray/\xs.length≤sizeLine:=by
 rcases h with h|⟨o,its,n,hk,hc,hs,hz,r⟩
 ·obtain⟨z,its,r,p⟩:=h.ok I.hok
  exact⟨its,r,PlT.tup p,z⟩
 ·refine⟨its.toList,r,⟨o,I.kIn a o hk,hc,n,by simpa using hs⟩,?_⟩
  have e:=r.length
  simp only[cL] at e
  omega
theorem Inv.V4(I:Inv X pins σ H s)(h:SqL X.K H a xs)(h':SqL X.K H a ys):xs=ys:=by
 obtain⟨its,r,⟨o,n,e,_,_,d⟩,_⟩:=I.list h
 obtain⟨its',r',⟨o',n',e',_,_,d'⟩,_⟩:=I.list h'
 rw[e] at e';cases e'
 rw[d] at d'
 injection d' with d1 _
 have:its=its':=by simpa using congrArg Array.toList d1
 subst this
 exact r.inj r'
theorem Inv.Q5(I:Inv X pins σ H s)(h:SqT X.K H a xs)(h':SqT X.K H a ys):xs=ys:=by
 obtain⟨its,r,⟨o,e,_,n,d⟩,_⟩:=I.tuple h
 obtain⟨its',r',⟨o',e',_,n',d'⟩,_⟩:=I.tuple h'
 rw[e] at e';cases e'
 rw[d] at d'
 injection d' with d1 _
 have:its=its':=by simpa using congrArg Array.toList d1
 subst this
 exact r.inj r'
end
abbrev Cx.Q0(X:Cx)(E:Value->Shared->Prop):Cx:={ X with xe:=E }
abbrev Cx.nox(X:Cx):Cx:=X.Q0 fun _ _=>False
theorem Cx.Ok.Q0{X:Cx}(ok:X.Ok)(E:Value->Shared->Prop):(X.Q0 E).Ok:=
 ⟨ok.mod,ok.kind,ok.glob,ok.blt,ok.above,ok.inj,ok.has,ok.cab,ok.hd,ok.frames,ok.stk,ok.exf,ok.bs,ok.bsz,ok.noex,ok.exfs,ok.O6,ok.frf⟩
theorem Cx.Ok.L4{X:Cx}{E:Value->Shared->Prop}(ok:(X.Q0 E).Ok):X.Ok:=
 ⟨ok.mod,ok.kind,ok.glob,ok.blt,ok.above,ok.inj,ok.has,ok.cab,ok.hd,ok.frames,ok.stk,ok.exf,ok.bs,ok.bsz,ok.noex,ok.exfs,ok.O6,ok.frf⟩
section
variable{X:Cx}{pins:List (Addr×Obj)}{σ:St}{H:Hp}{s:Shared}{E:Value->Shared->Prop}
theorem Inv.Q0(I:Inv X pins σ H s)(E:Value->Shared->Prop):Inv (X.Q0 E) pins σ H s:=⟨I.ok.Q0 E,I.os,I.bare,I.base,I.loc,I.cell,I.free,I.freeC,I.pin,I.hok,I.len⟩
theorem Inv.L4(I:Inv (X.Q0 E) pins σ H s):Inv X pins σ H s:=⟨I.ok.L4,I.os,I.bare,I.base,I.loc,I.cell,I.free,I.freeC,I.pin,I.hok,I.len⟩
theorem SP.L4{D:Ends}{f:Flow}{s':Shared}(h:SP (X.Q0 E) pins D f s'):SP X pins D f s':=by
 cases f with
 | next=>obtain⟨σ',H',I,q⟩:=h;exact⟨σ',H',I.L4,q⟩
 | brk=>obtain⟨σ',H',I,q⟩:=h;exact⟨σ',H',I.L4,q⟩
 | cont=>obtain⟨σ',H',I,q⟩:=h;exact⟨σ',H',I.L4,q⟩
 | ret u=>obtain⟨v,σ',H',I,r,q⟩:=h;exact⟨v,σ',H',I.L4,r,q⟩
theorem PSs.nox{st:List Stmt}{t:TS}(h:PSs X.nox st t):PSs X st t:=fun pins s σ H D I hw=>
 wpAny_mono (h pins s σ H D (I.Q0 _) hw) (fun _ _ q=>q.L4) fun _ _ z=>False.elim z
end
section
variable{X:Cx}{st:Stmt}{rest:List Stmt}{t u:TS}{e:Expr}{te:TE}{pos:Pos}
def w0j:TS:=fun D σ H=>D.nx σ H
def tSeq(t u:TS):TS:=fun D σ H=>t { D with nx:=u D } σ H
theorem z0p:PSs X [] w0j:=fun _ _ σ H _ I h=>wpAny_execs_nil ⟨σ,H,I,h⟩
theorem z04(h1:PS X st t)(h2:PSs X rest u):PSs X (st::rest) (tSeq t u):=by
 intro pins s σ H D I h
 refine wpAny_execs_cons (thn (h1 pins s σ H { D with nx:=u D } I h) fun f s1 q=>?_)
 cases f with
 | next=>
  obtain⟨σ',H',I',q⟩:=q
  exact h2 pins s1 σ' H' D I' q
 | ret v=>exact q
 | brk=>exact q
 | cont=>exact q
theorem z05(h1:PS X st t):PSs X [st] t:=by
 intro pins s σ H D I h
 refine wpAny_execs_cons (thn (h1 pins s σ H D I h) fun f s1 q=>?_)
 cases f with
 | next=>exact wpAny_execs_nil q
 | ret v=>exact q
 | brk=>exact q
 | cont=>exact q
theorem Inv.quiet{pins:List (Addr×Obj)}{σ:St}{H:Hp}{s:Shared}(I:Inv X pins σ H s):interactive X.env=false:=by simp[interactive,I.ok.kind]
def w0h(te:TE):TS:=fun D σ H=>te σ H fun _ H1=>D.nx σ H1
theorem z0B(he:PE X e te)(hs:swapsWith e none pos.line X.env=pure false:=by rfl):PS X (.Expr e pos) (w0h te):=by
 intro pins s σ H D I h
 exact wpAny_Expr_any (thn (he pins s σ H _ I h) fun v s1 ⟨x,H1,I1,r1,q1⟩=>⟨σ,H1,I1,q1⟩) I.quiet hs
def tRet(te:TE):TS:=fun D σ H=>te σ H D.rt
theorem z0i(he:PE X e te):PS X (.Return (some e) pos) (tRet te):=by
 intro pins s σ H D I h
 exact wpAny_Return_some (thn (he pins s σ H _ I h) fun v s1 ⟨x,H1,I1,r1,q1⟩=>⟨x,σ,H1,I1,r1,q1⟩)
def tIfS(c:TT)(t u:TS):TS:=fun D σ H=>c σ H fun b H1=>if b=true then t D σ H1 else u D σ H1
theorem z0R{c:Expr}{a b:List Stmt}{tc:TT}(hc:PT X c tc)(ha:PSs X a t)(hb:PSs X b u):PS X (.If c a b pos) (tIfS tc t u):=by
 intro pins s σ H D I h
 refine wpAny_If (thn (hc pins s σ H _ I h) fun d s1 hz=>?_)
 obtain⟨H1,I1,q1⟩:=hz
 cases d with
 | true=>exact ha pins s1 σ H1 D I1 q1
 | false=>exact hb pins s1 σ H1 D I1 q1
def y7f:TS:=fun _ _ _=>False
theorem z1q:PS X st y7f:=fun _ _ _ _ _ _ h=>h.elim
end
abbrev TG:=V->St->Hp->(St->Hp->Prop)->Prop
abbrev TGs:=List V->St->Hp->(St->Hp->Prop)->Prop
def PG(X:Cx)(target:Expr)(t:TG):Prop:=
 ∀(pins:List (Addr×Obj)) (s:Shared) (σ:St) (H:Hp) (v:V) (u:Value) (Q:St->Hp->Prop),Inv X pins σ H s->RelV v u->t v σ H Q->
  wpAny (model X.prog X.w) X.A (assign target X.env u) (fun _ s'=>∃σ' H',Inv X pins σ' H' s'/\Q σ' H') X.xe s
def PGs(X:Cx)(ts:List Expr)(t:TGs):Prop:=
 ∀(pins:List (Addr×Obj)) (s:Shared) (σ:St) (H:Hp) (vs:List V) (us:List Value) (Q:St->Hp->Prop),Inv X pins σ H s->Vals vs us->t vs σ H Q->
  wpAny (model X.prog X.w) X.A (assignInOrder ((assignEach ts X.env).map (·.2)) us) (fun _ s'=>∃σ' H',Inv X pins σ' H' s'/\Q σ' H') X.xe s
section
variable{X:Cx}{pos:Pos}
def y3q(i:Nat):TG:=fun v σ H Q=>Q (σ.set i (some v)) H
theorem z0j{i:Nat}{x:Str}(hN:X.N.Nodup)(hi:X.N[i]? = some x)(hx:Loc X.env.scope x)(hf:X.fn x=true\/X.env.scope.names.lookup x=some .local:=by first|exact .inl rfl|exact .inr rfl|assumption):PG X (.Name x pos) (y3q i):=by
 intro pins s σ H v u Q I r h
 exact wpAny_assign_Name (y0H I hN hi hx r (fun s' I'=>⟨_,H,I',h⟩) hf)
def w07:TGs:=fun vs σ H Q=>vs=[]/\Q σ H
def y65(t:TG)(u:TGs):TGs:=fun vs σ H Q=>∃v r,vs=v::r/\t v σ H fun σ' H'=>u r σ' H' Q
theorem z5F:PGs X [] w07:=by
 intro pins s σ H vs us Q I r h
 obtain⟨e,h⟩:=h
 subst e
 cases r
 exact assignInOrder_nil ⟨σ,H,I,h⟩
theorem z1B{e:Expr}{es:List Expr}{t:TG}{u:TGs}(h1:PG X e t)(h2:PGs X es u)
  (hs:(assignEach (e::es) X.env).map (·.2)=assign e X.env::(assignEach es X.env).map (·.2):=by rfl):PGs X (e::es) (y65 t u):=by
 intro pins s σ H vs us Q I r h
 obtain⟨v,vr,e1,h⟩:=h
 subst e1
 cases r with
 | cons r rr=>
  rw[hs]
  refine assignInOrder_cons (thn (h1 pins s σ H _ _ _ I r h) fun _ s1 hz=>?_)
  obtain⟨σ1,H1,I1,q1⟩:=hz
  exact h2 pins s1 σ1 H1 _ _ Q I1 rr q1
def X1(K:PySem.W.Frag)(n:Nat)(t:TGs):TG:=fun v σ H Q=>∃a xs,v=.ref a/\SqT K H a xs/\xs.length=n/\t xs σ H Q
theorem y6O{es:List Expr}{k:Nat}{t:TGs}{n:Nat}(hc:X.calm=true)(h:PGs X es t)
  (hn:(assignEach es X.env).length=n:=by rfl) (hst:(assignEach es X.env).findIdx? (·.1)=none:=by rfl):PG X (.Tuple es k pos) (X1 X.K n t):=by
 intro pins s σ H v u Q I r hw
 obtain⟨a,xs,e1,hq,hl,hw⟩:=hw
 subst e1
 cases r
 obtain⟨its,rv,ht,hz⟩:=I.tuple hq
 refine assign_Tuple_tuple (I.ok.hd hc) ht (by simp[hn,<- hl,rv.length]) hst fun h' hx=>?_
 have I1:Inv X pins σ H { s with heap:=h' }:=I.kept (t':=s.toks) fun b o e=>hx b o (bU (bJ e)) e
 exact h pins _ σ H xs _ Q I1 (by simpa using rv) hw
def tAsg(te:TE)(g:TG):TS:=fun D σ H=>te σ H fun x H1=>g x σ H1 D.nx
theorem z0n{i:Nat}{x:Str}{e:Expr}{te:TE}{pos':Pos}(hN:X.N.Nodup)(hi:X.N[i]? = some x)(hx:Loc X.env.scope x)(he:PE X e te)(hs:swapsWith e (some (.Name x pos')) pos.line X.env=pure false:=by rfl)(hf:X.fn x=true\/X.env.scope.names.lookup x=some .local:=by first|exact .inl rfl|exact .inr rfl|assumption) :
  PS X (.Assign [.Name x pos'] e pos) (tAsg te (y3q i)):=by
 intro pins s σ H D I h
 refine wpAny_Assign_Name (thn (he pins s σ H _ I h) fun v s1 hz=>?_) hs
 obtain⟨y,H1,I1,r1,q1⟩:=hz
 exact y0H I1 hN hi hx r1 (fun s2 I2=>⟨_,H1,I2,q1⟩) hf
end
section
variable{X:Cx}{pos:Pos}
def y74(c:TT)(tb:TS):TS:=fun D σ H=>∃W:Nat->St->Hp->Prop,(∃m,W m σ H)/\∀m σ H,W m σ H->
 c σ H fun b H1=>if b=true then ∃N:St->Hp->Prop,(∀σ' H',N σ' H'->∃m',m'<m/\W m' σ' H')/\tb { D with nx:=N,ct:=N,bk:=D.nx } σ H1 else D.nx σ H1
theorem y4w{c:Expr}{body:List Stmt}{tc:TT}{tb:TS}(hp:PassesOwn (model X.prog X.w) X.A X.env X.xe)(hc:PT X c tc)(hb:PSs X body tb):PS X (.While c body [] pos) (y74 tc tb):=by
 intro pins s σ H D I h
 obtain⟨W,⟨m0,w0⟩,turn⟩:=h
 refine wpAny_While (codeAny_whileLoop (fun n s'=>∃σ' H',Inv X pins σ' H' s'/\W n σ' H') ?_ m0 ⟨σ,H,I,w0⟩)
 rintro n s1 ⟨σ1,H1,I1,w1⟩
 refine wpAny_passesOwn hp (thn (hc pins s1 σ1 H1 _ I1 (turn n σ1 H1 w1)) fun b s2 hz=>?_)
 obtain⟨H2,I2,q2⟩:=hz
 cases b with
 | true=>
  obtain⟨N,hN,q2⟩:=q2
  rw[if_pos rfl]
  refine wpAny_passesOwn hp (thn (hb pins s2 σ1 H2 _ I2 q2) fun f s3 q3=>?_)
  cases f with
  | next=>
   obtain⟨σ3,H3,I3,n3⟩:=q3
   obtain⟨m',hm,w3⟩:=hN σ3 H3 n3
   exact⟨m',hm,σ3,H3,I3,w3⟩
  | cont=>
   obtain⟨σ3,H3,I3,n3⟩:=q3
   obtain⟨m',hm,w3⟩:=hN σ3 H3 n3
   exact⟨m',hm,σ3,H3,I3,w3⟩
  | brk=>exact q3
  | ret v=>exact q3
 | false=>
  rw[if_neg bF]
  exact wpAny_execs_nil ⟨σ1,H2,I2,q2⟩
end
structure It where
 go:Nat->Hp->Prop
 yld:Nat->Hp->V->Hp->Prop
 stop:Nat->Hp->Prop
def O4(X:Cx)(pins:List (Addr×Obj))(H:Hp)(b:Addr):Prop:=
 H b=none/\b≠X.env.locals/\b∉X.fs/\(b∈X.ex\/X.s₀.heap.objs.size≤b)/\(∀x c,X.env.cells.lookup x=some c->c≠b)/\∀p∈X.pn++pins,p.1≠b
theorem Inv.R1{X:Cx}{pins:List (Addr×Obj)}{σ:St}{H H':Hp}{s:Shared}{b:Addr}(I:Inv X pins σ H s)(hb:s.heap.objs.size≤b)(hn:H' b=none):O4 X pins H' b:=by
 refine⟨hn,fK (cR I.lt hb),I.nofs hb,.inr (cO I.sz hb),fun x c e z=>?_,fun p hp z=>?_⟩
 ·obtain⟨v,q⟩:=I.cell x c e
  exact absurd (cR q.lt (by rw[z];exact hb)) (dP _)
 ·exact absurd (cR (bJ (I.pin p hp).1) (by rw[z];exact hb)) (dP _)
structure Turn(P:Program)(w:World)(K:PySem.W.Frag)(tg:Expr)(J:It)(fp:List Addr)(it:Addr)(tn:Nat->Heap->Prop):Prop where
 mem:it∈fp
 obj:∀i h,tn i h->∀b∈fp,∃o,h.get? b=some o/\∀v,o.data≠.cell v
 keep:∀i h h',tn i h->(∀b∈fp,∀o,h.get? b=some o->h'.get? b=some o)->tn i h'
 item:∀(X:Cx),X.prog=P->X.w=w->X.K=K->X.calm=true->∀(i:Nat) (pins:List (Addr×Obj)) (s:Shared) (σ:St) (H:Hp) (E:Value->Shared->Prop),Inv X pins σ H s->(∀b∈fp,O4 X pins H b)->tn i s.heap->J.go i H->
  wpAny (model P w) X.A (pyNext (.ref it)) (fun r s1=>∃u,r=some u/\
   wpAny (model P w) X.A (letOwnedTupleGo tg (.ref it) u) (fun _ s2=>∃x H',Inv X pins σ H' s2/\RelV x u/\J.yld i H x H'/\tn (i+1) s2.heap/\∀b∈fp,H' b=none) E s1) E s
 done:∀(X:Cx),X.prog=P->X.w=w->X.K=K->X.calm=true->∀(i:Nat) (pins:List (Addr×Obj)) (s:Shared) (σ:St) (H:Hp) (E:Value->Shared->Prop),Inv X pins σ H s->(∀b∈fp,O4 X pins H b)->tn i s.heap->J.stop i H->
  wpAny (model P w) X.A (pyNext (.ref it)) (fun r s1=>r=none/\Inv X pins σ H s1) E s
 self:∀(A:Around) (i:Nat) (s:Shared) (Q:Value->Shared->Prop) (E:Value->Shared->Prop),tn i s.heap->Q (.ref it) s->wpAny (model P w) A (pyIter (.ref it)) Q E s
abbrev TI:=St->Hp->(It->Hp->Prop)->Prop
def PIE(X:Cx)(pins:List (Addr×Obj))(σ:St)(tg:Expr)(R:It->Hp->Prop)(itv:Value)(s2:Shared):Prop:=
 ∃(it:Addr) (fp:List Addr) (tn:Nat->Heap->Prop) (J:It) (H':Hp),itv=.ref it/\Inv X pins σ H' s2/\Turn X.prog X.w X.K tg J fp it tn/\tn 0 s2.heap/\(∀b∈fp,O4 X pins H' b)/\R J H'
def PI(X:Cx)(tg iter:Expr)(wi:TI):Prop:=
 ∀(pins:List (Addr×Obj)) (s:Shared) (σ:St) (H:Hp) (R:It->Hp->Prop),Inv X pins σ H s->wi σ H R->
  wpAny (model X.prog X.w) X.A (eval iter X.env) (fun v s1=>wpAny (model X.prog X.w) X.A (pyIter v) (PIE X pins σ tg R) X.xe s1) X.xe s
theorem y29 {M : Model} {A : Around} {E : Value -> Shared -> Prop} {s : Shared} {tg : Expr} {it : Addr} {u : Value} {o : Obj} {n : String} {vs : Array Value} {Q : Unit -> Shared -> Prop} (ho : s.heap.get? it = some o) (hc : o.cls = .type n) (hd : o.data = .fields vs)
    (hn : ["enumerate", "zip", "dict_itemiterator", "dict_reverseitemiterator", "odict_iterator", "itertools.zip_longest", "itertools.pairwise"].contains n = false) (hQ : Q () s) : wpAny M A (letOwnedTupleGo tg (.ref it) u) Q E s := by
  unfold letOwnedTupleGo
  cases tg <;> first
    | exact wpAny_pure hQ
    | (cases u <;> first
        | exact wpAny_pure hQ
        | (refine wpAny_bind (wpAny_load ho ?_)
           rw [hc, hd]
           show wpAny M A (if (["enumerate", "zip", "dict_itemiterator", "dict_reverseitemiterator", "odict_iterator", "itertools.zip_longest", "itertools.pairwise"].contains n && vs[0]? == some (rawInt _)) = true then _ else _) Q E s
           rw [if_neg (by intro h; rw [hn, gT] at h; cases h)]
           exact wpAny_pure hQ))
def Itl(K:PySem.W.Frag)(a:Addr):It:=
 ⟨fun i H=>∃xs x,SqL K H a xs/\xs[i]? = some x,fun i H x H'=>H'=H/\∀xs,SqL K H a xs->xs[i]? = some x,fun i H=>∃xs,SqL K H a xs/\xs.length≤i⟩
def Itt(K:PySem.W.Frag)(a:Addr):It:=
 ⟨fun i H=>∃xs x,SqT K H a xs/\xs[i]? = some x,fun i H x H'=>H'=H/\∀xs,SqT K H a xs->xs[i]? = some x,fun i H=>∃xs,SqT K H a xs/\xs.length≤i⟩
def Itr(lo:Int)(n:Nat):It:=⟨fun i _=>i<n,fun i H x H'=>H'=H/\x=.int (lo+i),fun i _=>n≤i⟩
theorem z9S{P:Program}{w:World}{K:PySem.W.Frag}{tg:Expr}(a it:Addr):Turn P w K tg (Itl K a) [it] it (fun i h=>h.IsListIter it a i) where
 mem:=by simp
 obj:=fun i h st b hb=>by
  have e:b=it:=by simpa using hb
  subst e
  obtain⟨o,e,c,d⟩:=st
  exact⟨o,e,fun v z=>by rw[d] at z;cases z⟩
 keep:=fun i h h' st k=>st.at fun o e=>k it (by simp) o e
 item:=by
  intro X hP hw hK hc i pins s σ H E I hf st hg
  subst hP hw hK
  obtain⟨xs,x,hq,hx⟩:=hg
  obtain⟨its,rv,p,hz⟩:=I.list hq
  obtain⟨u,hu,ru⟩:=rv.get hx
  obtain⟨f0,f1,f2,f3,f4,f5⟩:=hf it (by simp)
  refine wpAny_pyNext_list_item st p.isList (x:=u) (by simpa using hu) fun h' st' sb=>?_
  have I1:Inv X pins σ H { s with heap:=h' }:=I.turned (t':=s.toks) (fun b o hb e=>(sb.2 b hb).trans e) f0 f1 f3 f4 f5
  obtain⟨o,e,c,d⟩:=id st'
  exact⟨u,rfl,y29 (s:={ s with heap:=h' }) e c d (by decide) ⟨x,H,I1,ru,⟨rfl,fun ys hy=>by rw[I.V4 hy hq];exact hx⟩,st',fun b hb=>(hf b hb).1⟩⟩
 done:=by
  intro X hP hw hK hc i pins s σ H E I hf st hg
  subst hP hw hK
  obtain⟨xs,hq,hx⟩:=hg
  obtain⟨its,rv,p,hz⟩:=I.list hq
  obtain⟨f0,f1,f2,f3,f4,f5⟩:=hf it (by simp)
  have hl:=rv.length
  exact wpAny_pyNext_list_end (I.ok.hd hc) st p.isList (by simp;omega) fun h' eb=>⟨rfl,I.turned (t':=s.toks) (fun b o hb e=>eb b o hb e) f0 f1 f3 f4 f5⟩
 self:=fun _ _ _ _ _ st h=>wpAny_pyIter_listiter st h
theorem z7Y{P:Program}{w:World}{K:PySem.W.Frag}{tg:Expr}(a it:Addr):Turn P w K tg (Itt K a) [it] it (fun i h=>h.IsTupleIter it a i) where
 mem:=by simp
 obj:=fun i h st b hb=>by
  have e:b=it:=by simpa using hb
  subst e
  obtain⟨o,e,c,d⟩:=st
  exact⟨o,e,fun v z=>by rw[d] at z;cases z⟩
 keep:=fun i h h' st k=>st.at fun o e=>k it (by simp) o e
 item:=by
  intro X hP hw hK hc i pins s σ H E I hf st hg
  subst hP hw hK
  obtain⟨xs,x,hq,hx⟩:=hg
  obtain⟨its,rv,p,hz⟩:=I.tuple hq
  obtain⟨u,hu,ru⟩:=rv.get hx
  obtain⟨f0,f1,f2,f3,f4,f5⟩:=hf it (by simp)
  refine wpAny_pyNext_tuple_item st (show s.heap.IsTuple a its.toArray from p) (x:=u) (by simpa using hu) fun h' st' sb=>?_
  have I1:Inv X pins σ H { s with heap:=h' }:=I.turned (t':=s.toks) (fun b o hb e=>(sb.2 b hb).trans e) f0 f1 f3 f4 f5
  obtain⟨o,e,c,d⟩:=id st'
  exact⟨u,rfl,y29 (s:={ s with heap:=h' }) e c d (by decide) ⟨x,H,I1,ru,⟨rfl,fun ys hy=>by rw[I.Q5 hy hq];exact hx⟩,st',fun b hb=>(hf b hb).1⟩⟩
 done:=by
  intro X hP hw hK hc i pins s σ H E I hf st hg
  subst hP hw hK
  obtain⟨xs,hq,hx⟩:=hg
  obtain⟨its,rv,p,hz⟩:=I.tuple hq
  obtain⟨f0,f1,f2,f3,f4,f5⟩:=hf it (by simp)
  have hl:=rv.length
  exact wpAny_pyNext_tuple_end (I.ok.hd hc) st (show s.heap.IsTuple a its.toArray from p) (by simp;omega) fun h' eb=>⟨rfl,I.turned (t':=s.toks) (fun b o hb e=>eb b o hb e) f0 f1 f3 f4 f5⟩
 self:=fun _ _ _ _ _ st h=>wpAny_pyIter_tupleiter st h
theorem y1Y{P:Program}{w:World}{K:PySem.W.Frag}{tg:Expr}(it:Addr)(lo:Int)(n:Nat):Turn P w K tg (Itr lo n) [it] it (fun i h=>IsRangeIter h it (lo+(i:Nat)*1) ((n:Int)-(i:Nat)) 1) where
 mem:=by simp
 obj:=fun i h st b hb=>by
  have e:b=it:=by simpa using hb
  subst e
  exact⟨_,st,fun v z=>by
   have z':Data.fields _=Data.cell v:=z
   cases z'⟩
 keep:=fun i h h' st k=>k it (by simp) _ st
 item:=by
  intro X hP hw hK hc i pins s σ H E I hf st hg
  subst hP hw hK
  obtain⟨f0,f1,f2,f3,f4,f5⟩:=hf it (by simp)
  have W:=Walks.range (prog:=X.prog) (w:=X.w) (I.ok.hd hc) it lo 1 n
  refine W.item i s _ _ hg st fun v h' tk hv st' kk=>?_
  obtain⟨t,rfl⟩:=hv
  have I1:Inv X pins σ H { s with heap:=h',toks:=tk }:=I.turned (fun b o hb e=>kk b o (by simpa using hb) e) f0 f1 f3 f4 f5
  refine⟨_,rfl,y29 (s:={ s with heap:=h',toks:=tk }) (n:="range_iterator") st' rfl rfl (by decide) ⟨.int (lo+i),H,I1,⟨t,?_⟩,⟨rfl,rfl⟩,st',fun b hb=>(hf b hb).1⟩⟩
  rw[Int.mul_one]
 done:=by
  intro X hP hw hK hc i pins s σ H E I hf st hg
  subst hP hw hK
  obtain⟨f0,f1,f2,f3,f4,f5⟩:=hf it (by simp)
  exact wpAny_pyNext_range_end (I.ok.hd hc) st (by have:n≤i:=hg;omega) fun h' eb=>⟨rfl,I.turned (t':=s.toks) (fun b o hb e=>eb b o hb e) f0 f1 f3 f4 f5⟩
 self:=fun _ _ _ _ _ st h=>wpAny_pyIter_rangeiter st h
section
variable{X:Cx}{tg:Expr}
def w0s(K:PySem.W.Frag)(tl:TE):TI:=fun σ H R=>tl σ H fun x H1=>∃a,x=.ref a/\(∃xs,SqL K H1 a xs)/\R (Itl K a) H1
def iTup(K:PySem.W.Frag)(tl:TE):TI:=fun σ H R=>tl σ H fun x H1=>∃a,x=.ref a/\(∃xs,SqT K H1 a xs)/\R (Itt K a) H1
theorem z1k{l:Expr}{tl:TE}(hl:PE X l tl):PI X tg l (w0s X.K tl):=by
 intro pins s σ H R I h
 refine thn (hl pins s σ H _ I h) fun v s1 hz=>?_
 obtain⟨x,H1,I1,r1,q1⟩:=hz
 obtain⟨a,e,⟨xs,hq⟩,q⟩:=q1
 subst e
 cases r1
 obtain⟨its,rv,p,hz⟩:=I1.list hq
 refine wpAny_pyIter_list p.isList ?_
 refine⟨s1.heap.objs.size,[s1.heap.objs.size],_,_,H1,rfl,I1.kept (t':=s1.toks) fun b o e=>b8 _ e,z9S a _,⟨_,bC _ rfl,rfl,rfl⟩,fun b hb=>?_,q⟩
 have e:b=s1.heap.objs.size:=by simpa using hb
 subst e
 exact I1.R1 (bB _) (I1.hok.fresh (bB _))
theorem z1W{l:Expr}{tl:TE}(hl:PE X l tl):PI X tg l (iTup X.K tl):=by
 intro pins s σ H R I h
 refine thn (hl pins s σ H _ I h) fun v s1 hz=>?_
 obtain⟨x,H1,I1,r1,q1⟩:=hz
 obtain⟨a,e,⟨xs,hq⟩,q⟩:=q1
 subst e
 cases r1
 obtain⟨its,rv,p,hz⟩:=I1.tuple hq
 refine wpAny_pyIter_tuple (show s1.heap.IsTuple a its.toArray from p) ?_
 refine⟨s1.heap.objs.size,[s1.heap.objs.size],_,_,H1,rfl,I1.kept (t':=s1.toks) fun b o e=>b8 _ e,z7Y a _,⟨_,bC _ rfl,rfl,rfl⟩,fun b hb=>?_,q⟩
 have e:b=s1.heap.objs.size:=by simpa using hb
 subst e
 exact I1.R1 (bB _) (I1.hok.fresh (bB _))
theorem y0R{pins:List (Addr×Obj)}{σ:St}{H:Hp}{s:Shared}{R:It->Hp->Prop}{E:Value->Shared->Prop}{lo hi:Int}{t u v:Tok}{tk:Nat}(I:Inv X pins σ H s)(h1:-(2^62)≤lo)(h2:lo<2^62)(h3:-(2^62)≤hi)(h4:hi<2^62)
  (q:R (Itr lo (hi-lo).toNat) H):wpAny (model X.prog X.w) X.A (pyIter (.ref s.heap.objs.size)) (PIE X pins σ tg R) E { s with heap:=s.heap.push { cls:=.type "range",data:=.fields #[.int lo t,.int hi u,.int 1 v] },toks:=tk }:=by
 refine wpAny_pyIter_range (IsRange.new ..) (small_one h1 h2 h3 h4) ?_
 have I1:Inv X pins σ H { s with heap:=s.heap.push { cls:=.type "range",data:=.fields #[.int lo t,.int hi u,.int 1 v] },toks:=tk }:=I.kept fun b o e=>b8 _ e
 refine⟨(s.heap.push { cls:=.type "range",data:=.fields #[.int lo t,.int hi u,.int 1 v] }).objs.size,[(s.heap.push { cls:=.type "range",data:=.fields #[.int lo t,.int hi u,.int 1 v] }).objs.size],_,_,H,rfl,
  I1.kept (t':=tk) fun b o e=>b8 _ e,y1Y _ lo (hi-lo).toNat,?_,fun b hb=>?_,q⟩
 ·have e1:lo+((0:Nat):Int)*1=lo:=by simp
  have e2:(((hi-lo).toNat:Nat):Int)-((0:Nat):Int)=Builtin.Range.rangeSize lo hi 1:=by rw[rangeSize_one];split<;>omega
  show IsRangeIter _ _ (lo+((0:Nat):Int)*1) ((((hi-lo).toNat:Nat):Int)-((0:Nat):Int)) 1
  rw[e1,e2]
  exact bC _ rfl
 ·have e:b=(s.heap.push { cls:=.type "range",data:=.fields #[.int lo t,.int hi u,.int 1 v] }).objs.size:=by simpa using hb
  subst e
  exact I1.R1 (bB _) (I1.hok.fresh (bB _))
def w09(ta:TA):TI:=fun σ H R=>ta σ H fun vs H1=>∃j:Int,vs=[.int j]/\-(2^62)≤j/\j<2^62/\R (Itr 0 j.toNat) H1
def w0J(ta:TA):TI:=fun σ H R=>ta σ H fun vs H1=>∃i j:Int,vs=[.int i,.int j]/\(-(2^62)≤i/\i<2^62/\-(2^62)≤j/\j<2^62)/\R (Itr i (j-i).toNat) H1
theorem z2h{a:Expr}{ta:TA}{p pos:Pos}(hg:Gl X "range")(hm:X.mg "range"=none)(ha:PA X [a] ta)(hs:starEach [a] X.env=[(false,eval a X.env)]:=by rfl):PI X tg (.Call (.Name "range" p) [a] [] pos) (w09 ta):=by
 intro pins s σ H R I h
 refine Call_ (z4Y I hg hm boot_range (dZ (thn (ha pos pins s σ H _ I h) fun us s1 hz=>?_) hs rfl))
 obtain⟨vs,H1,I1,r1,q1⟩:=hz
 obtain⟨j,e,q1,q2,q⟩:=q1
 subst e
 cases r1 with
 | cons r rr=>
  cases rr
  obtain⟨t,rfl⟩:=r
  exact call_range_1 (y0R I1 (by omega) (by omega) q1 q2 (by simpa using q))
theorem z9A{a b:Expr}{ta:TA}{p pos:Pos}(hg:Gl X "range")(hm:X.mg "range"=none)(ha:PA X [a,b] ta)(hs:starEach [a,b] X.env=[(false,eval a X.env),(false,eval b X.env)]:=by rfl)(hs2:starEach [b] X.env=[(false,eval b X.env)]:=by rfl) :
  PI X tg (.Call (.Name "range" p) [a,b] [] pos) (w0J ta):=by
 intro pins s σ H R I h
 refine Call_ (z4Y I hg hm boot_range (dZ (thn (ha pos pins s σ H _ I h) fun us s1 ⟨vs,H1,I1,r1,q1⟩=>?_) (by rw[hs,hs2]) (by rw[hs2];rfl)))
 obtain⟨i,j,e,⟨q1,q2,q3,q4⟩,q⟩:=q1
 subst e
 cases r1 with
 | cons r rr=>
  cases rr with
  | cons r' rr=>
   cases rr
   obtain⟨t,rfl⟩:=r
   obtain⟨t',rfl⟩:=r'
   exact call_range_2 (y0R I1 q1 q2 q3 q4 q)
def tFor(wi:TI)(g:TG)(tb:TS):TS:=fun D σ H=>wi σ H fun J H1=>∃W:Nat->Nat->St->Hp->Prop,(∃m,W 0 m σ H1)/\∀i m σ H,W i m σ H->
 (J.stop i H/\D.nx σ H)\/(J.go i H/\∃N:St->Hp->Prop,(∀σ' H',N σ' H'->∃m',m'<m/\W (i+1) m' σ' H')/\∀x H',J.yld i H x H'->g x σ H' fun σ2 H2=>tb { D with nx:=N,ct:=N,bk:=D.nx } σ2 H2)
def z9c(fp:List Addr)(h:Heap):List (Addr×Obj):=fp.filterMap fun b=>(h.get? b).map fun o=>(b,o)
theorem z4a{fp:List Addr}{h:Heap}{b:Addr}{o:Obj}(hb:b∈fp)(e:h.get? b=some o):(b,o)∈z9c fp h:=List.mem_filterMap.mpr ⟨b,hb,by rw[e];rfl⟩
theorem y2O{fp:List Addr}{h:Heap}{p:Addr×Obj}(hp:p∈z9c fp h):p.1∈fp/\h.get? p.1=some p.2:=by
 obtain⟨b,hb,e⟩:=List.mem_filterMap.mp hp
 cases q:h.get? b with
 | none=>rw[q] at e;cases e
 | some o=>
  rw[q] at e
  have e':(b,o)=p:=Option.some.inj e
  subst e'
  exact⟨hb,q⟩
theorem Inv.pinned{pins:List (Addr×Obj)}{σ:St}{H:Hp}{s:Shared}{fp:List Addr}(I:Inv X pins σ H s)(hf:∀b∈fp,O4 X pins H b)(ho:∀b∈fp,∃o,s.heap.get? b=some o/\∀v,o.data≠.cell v):Inv X (pins++z9c fp s.heap) σ H s:=
 I.N7 fun p hp=>(bO.mp hp).elim (fun z=>I.pin p (bY _ z)) fun z=>by
  obtain⟨hb,e⟩:=y2O z
  obtain⟨f0,f1,f2,_⟩:=hf p.1 hb
  obtain⟨o,e',d⟩:=ho p.1 hb
  rw[e] at e';cases e'
  exact⟨e,f0,f1,f2,d⟩
theorem Inv.N6{pins pl:List (Addr×Obj)}{σ:St}{H:Hp}{s:Shared}(I:Inv X (pins++pl) σ H s):Inv X pins σ H s:=I.N7 fun p hp=>I.pin p (bY _ (cX _ hp))
theorem z1c{iter:Expr}{body:List Stmt}{wi:TI}{g:TG}{tb:TS}{pos:Pos}(hp:PassesOwn (model X.prog X.w) X.A X.env X.xe)(hc:X.calm=true)(hi:PI X tg iter wi)(hg:PG X tg g)(hb:PSs X body tb)
  (hs:∀x,foldedSetIterable iter X.env x=pure x:=by intro _;rfl):PS X (.For tg iter body [] pos) (tFor wi g tb):=by
 intro pins s σ H D I h
 refine wpAny_For (thn (hi pins s σ H _ I h) fun v s1 h1=>thn h1 fun itv s2 h2=>?_) hs
 obtain⟨it,fp,tn,J,H2,e,I2,T,st2,f2,W,⟨m0,w0⟩,turn⟩:=h2
 subst e
 have Y9:∀{H':Hp},(∀b∈fp,H' b=none)->∀b∈fp,O4 X pins H' b:=fun hn b hb=>⟨hn b hb,(f2 b hb).2⟩
 refine codeAny_forLoop_any (fun n s'=>∃i σ' H',Inv X pins σ' H' s'/\tn i s'.heap/\(∀b∈fp,H' b=none)/\W i n σ' H') ?_ m0 ⟨0,σ,H2,I2,st2,fun b hb=>(f2 b hb).1,w0⟩
 rintro n s3 ⟨i,σ3,H3,I3,st3,fr3,w3⟩
 rcases turn i n σ3 H3 w3 with ⟨stop,qn⟩|⟨go,N,hN,step⟩
 ·refine wpAny_passesOwn hp (thn (T.done X rfl rfl rfl hc i pins s3 σ3 H3 X.xe I3 (Y9 fr3) st3 stop) fun r s4 hz=>?_)
  obtain⟨hr,I4⟩:=hz
  subst hr
  exact wpAny_execs_nil ⟨σ3,H3,I4,qn⟩
 ·refine wpAny_passesOwn hp (thn (T.item X rfl rfl rfl hc i pins s3 σ3 H3 X.xe I3 (Y9 fr3) st3 go) fun r s4 hz=>?_)
  obtain⟨u,hr,h4⟩:=hz
  subst hr
  refine wpAny_passesOwn hp (thn h4 fun _ s5 hz=>?_)
  obtain⟨x,H5,I5,r5,y5,st5,fr5⟩:=hz
  have I5':=I5.pinned (Y9 fr5) (T.obj _ _ st5)
  refine wpAny_passesOwn hp (thn (hg _ s5 σ3 H5 x u _ I5' r5 (step x H5 y5)) fun _ s6 hz=>?_)
  obtain⟨σ6,H6,I6,q6⟩:=hz
  refine wpAny_passesOwn hp (thn (hb _ s6 σ6 H6 _ I6 q6) fun f s7 q7=>?_)
  have again:∀{σ7:St}{H7:Hp},Inv X (pins++z9c fp s5.heap) σ7 H7 s7->N σ7 H7->∃m,m<n/\∃i σ' H',Inv X pins σ' H' s7/\tn i s7.heap/\(∀b∈fp,H' b=none)/\W i m σ' H':=fun {σ7 H7} I7 n7=>by
   obtain⟨m',hm,w7⟩:=hN σ7 H7 n7
   refine⟨m',hm,i+1,σ7,H7,I7.N6,T.keep _ _ _ st5 fun b hb o e=>(I7.pin (b,o) (bY _ (bY _ (z4a hb e)))).1,fun b hb=>?_,w7⟩
   obtain⟨o,e,d⟩:=T.obj _ _ st5 b hb
   exact(I7.pin (b,o) (bY _ (bY _ (z4a hb e)))).2.1
  cases f with
  | next=>obtain⟨σ7,H7,I7,n7⟩:=q7;exact again I7 n7
  | cont=>obtain⟨σ7,H7,I7,n7⟩:=q7;exact again I7 n7
  | brk=>obtain⟨σ7,H7,I7,q7⟩:=q7;exact⟨σ7,H7,I7.N6,q7⟩
  | ret v=>obtain⟨x7,σ7,H7,I7,r7,q7⟩:=q7;exact⟨x7,σ7,H7,I7.N6,r7,q7⟩
end
theorem z1s{K:PySem.W.Frag}{a:Addr}{xs:List V}{g:TG}{tb:TS}{D:Ends}{σ:St}{H:Hp}(Pv:Nat->St->Hp->Prop)(h0:Pv 0 σ H)(hl:∀i σ H,i≤xs.length->Pv i σ H->SqL K H a xs)
  (hs:∀i x σ H,xs[i]? = some x->Pv i σ H->g x σ H fun σ2 H2=>tb { D with nx:=Pv (i+1),ct:=Pv (i+1),bk:=D.nx } σ2 H2) (hd:∀σ H,Pv xs.length σ H->D.nx σ H) :
  ∃W:Nat->Nat->St->Hp->Prop,(∃m,W 0 m σ H)/\∀i m σ H,W i m σ H->
   ((Itl K a).stop i H/\D.nx σ H)\/((Itl K a).go i H/\∃N:St->Hp->Prop,(∀σ' H',N σ' H'->∃m',m'<m/\W (i+1) m' σ' H')/\∀x H',(Itl K a).yld i H x H'->g x σ H' fun σ2 H2=>tb { D with nx:=N,ct:=N,bk:=D.nx } σ2 H2):=by
 refine⟨fun i m σ H=>m=xs.length-i/\i≤xs.length/\Pv i σ H,⟨xs.length,by simp,cQ _,h0⟩,?_⟩
 rintro i m σ H ⟨rfl,hi,p⟩
 have q:=hl i σ H hi p
 by_cases hlt:i<xs.length
 ·refine .inr ⟨⟨xs,xs[i],q,by simp[hlt]⟩,Pv (i+1),fun σ' H' p'=>⟨xs.length-(i+1),by omega,rfl,hlt,p'⟩,fun x H' y=>?_⟩
  obtain⟨e,y⟩:=y
  subst e
  exact hs i x σ _ (y xs q) p
 ·have e:i=xs.length:=by omega
  subst e
  exact .inl ⟨⟨xs,q,bB _⟩,hd σ H p⟩
theorem z7a{K:PySem.W.Frag}{a:Addr}{xs:List V}{g:TG}{tb:TS}{D:Ends}{σ:St}{H:Hp}(Pv:Nat->St->Hp->Prop)(h0:Pv 0 σ H)(hl:∀i σ H,i≤xs.length->Pv i σ H->SqT K H a xs)
  (hs:∀i x σ H,xs[i]? = some x->Pv i σ H->g x σ H fun σ2 H2=>tb { D with nx:=Pv (i+1),ct:=Pv (i+1),bk:=D.nx } σ2 H2) (hd:∀σ H,Pv xs.length σ H->D.nx σ H) :
  ∃W:Nat->Nat->St->Hp->Prop,(∃m,W 0 m σ H)/\∀i m σ H,W i m σ H->
   ((Itt K a).stop i H/\D.nx σ H)\/((Itt K a).go i H/\∃N:St->Hp->Prop,(∀σ' H',N σ' H'->∃m',m'<m/\W (i+1) m' σ' H')/\∀x H',(Itt K a).yld i H x H'->g x σ H' fun σ2 H2=>tb { D with nx:=N,ct:=N,bk:=D.nx } σ2 H2):=by
 refine⟨fun i m σ H=>m=xs.length-i/\i≤xs.length/\Pv i σ H,⟨xs.length,by simp,cQ _,h0⟩,?_⟩
 rintro i m σ H ⟨rfl,hi,p⟩
 have q:=hl i σ H hi p
 by_cases hlt:i<xs.length
 ·refine .inr ⟨⟨xs,xs[i],q,by simp[hlt]⟩,Pv (i+1),fun σ' H' p'=>⟨xs.length-(i+1),by omega,rfl,hlt,p'⟩,fun x H' y=>?_⟩
  obtain⟨e,y⟩:=y
  subst e
  exact hs i x σ _ (y xs q) p
 ·have e:i=xs.length:=by omega
  subst e
  exact .inl ⟨⟨xs,q,bB _⟩,hd σ H p⟩
theorem z3h{lo:Int}{n:Nat}{g:TG}{tb:TS}{D:Ends}{σ:St}{H:Hp}(Pv:Nat->St->Hp->Prop)(h0:Pv 0 σ H)
  (hs:∀i σ H,i<n->Pv i σ H->g (.int (lo+i)) σ H fun σ2 H2=>tb { D with nx:=Pv (i+1),ct:=Pv (i+1),bk:=D.nx } σ2 H2) (hd:∀σ H,Pv n σ H->D.nx σ H) :
  ∃W:Nat->Nat->St->Hp->Prop,(∃m,W 0 m σ H)/\∀i m σ H,W i m σ H->
   ((Itr lo n).stop i H/\D.nx σ H)\/((Itr lo n).go i H/\∃N:St->Hp->Prop,(∀σ' H',N σ' H'->∃m',m'<m/\W (i+1) m' σ' H')/\∀x H',(Itr lo n).yld i H x H'->g x σ H' fun σ2 H2=>tb { D with nx:=N,ct:=N,bk:=D.nx } σ2 H2):=by
 refine⟨fun i m σ H=>m=n-i/\i≤n/\Pv i σ H,⟨n,by simp,cQ _,h0⟩,?_⟩
 rintro i m σ H ⟨rfl,hi,p⟩
 by_cases hlt:i<n
 ·refine .inr ⟨hlt,Pv (i+1),fun σ' H' p'=>⟨n-(i+1),by omega,rfl,hlt,p'⟩,fun x H' y=>?_⟩
  obtain⟨e,y⟩:=y
  subst e y
  exact hs i σ _ hlt p
 ·have e:i=n:=by omega
  subst e
  exact .inl ⟨bB _,hd σ H p⟩
abbrev R2:=V->V->Hp->VK->Prop
def OpR(X:Cx)(f:Value->Value->Sem Value)(r:R2):Prop:=
 ∀(pins:List (Addr×Obj)) (s:Shared) (σ:St) (H:Hp) (x y:V) (v u:Value) (Q:VK),Inv X pins σ H s->RelV x v->RelV y u->r x y H Q->
  wpAny (model X.prog X.w) X.A (f v u) (EP X pins σ Q) X.xe s
def UnR(X:Cx)(f:Value->Sem Value)(r:V->Hp->VK->Prop):Prop:=
 ∀(pins:List (Addr×Obj)) (s:Shared) (σ:St) (H:Hp) (x:V) (v:Value) (Q:VK),Inv X pins σ H s->RelV x v->r x H Q->
  wpAny (model X.prog X.w) X.A (f v) (EP X pins σ Q) X.xe s
def z3b(X:Cx)(f:Value)(r:List V->Hp->VK->Prop):Prop:=
 ∀(pins:List (Addr×Obj)) (s:Shared) (σ:St) (H:Hp) (xs:List V) (us:List Value) (Q:VK),Inv X pins σ H s->Vals xs us->r xs H Q->
  wpAny (model X.prog X.w) X.A (call f us) (EP X pins σ Q) X.xe s
def tOp(r:R2)(ta tb:TE):TE:=fun σ H Q=>ta σ H fun x H1=>tb σ H1 fun y H2=>r x y H2 Q
def tUn(r:V->Hp->VK->Prop)(ta:TE):TE:=fun σ H Q=>ta σ H fun x H1=>r x H1 Q
def rI(C:Int->Int->Prop)(g:Int->Int->V):R2:=fun x y H Q=>∃i j,x=.int i/\y=.int j/\C i j/\Q (g i j) H
def rI0(g:Int->Int->V):R2:=fun x y H Q=>∃i j,x=.int i/\y=.int j/\Q (g i j) H
def rU(g:Int->V):V->Hp->VK->Prop:=fun x H Q=>∃i,x=.int i/\Q (g i) H
section
variable{X:Cx}{a b c:Expr}{ta tb tc:TE}{pos:Pos}
theorem Z1(ha:PE X a ta)(hb:PE X b tb){pins:List (Addr×Obj)}{s:Shared}{σ:St}{H:Hp}{R:V->V->Hp->Prop}(I:Inv X pins σ H s)
  (h:ta σ H fun x H1=>tb σ H1 fun y H2=>R x y H2) {Q:Value->Shared->Prop}{f:Value->Value->Sem Value}
  (hf:∀v u s2 x y H2,Inv X pins σ H2 s2->RelV x v->RelV y u->R x y H2->wpAny (model X.prog X.w) X.A (f v u) Q X.xe s2) :
  wpAny (model X.prog X.w) X.A (eval a X.env) (fun v s₁=>wpAny (model X.prog X.w) X.A (eval b X.env) (fun u s₂=>wpAny (model X.prog X.w) X.A (f v u) Q X.xe s₂) X.xe s₁) X.xe s:=by
 refine thn (ha pins s σ H _ I h) fun v s1 hz=>?_
 obtain⟨x,H1,I1,r1,q1⟩:=hz
 refine thn (hb pins s1 σ H1 _ I1 q1) fun u s2 hz=>?_
 obtain⟨y,H2,I2,r2,q2⟩:=hz
 exact hf v u s2 x y H2 I2 r1 r2 q2
theorem z0v{op:Operator}{r:R2}(ho:OpR X (binaryOp op) r)(ha:PE X a ta)(hb:PE X b tb):PE X (.BinOp a op b pos) (tOp r ta tb):=by
 intro pins s σ H Q I h
 exact wpAny_BinOp (Z1 ha hb I h fun v u s2 x y H2 I2 rx ry q=>ho pins s2 σ H2 x y v u Q I2 rx ry q)
theorem y2e{op:UnaryOp}{r:V->Hp->VK->Prop}(ho:UnR X (unaryOp op) r)(ha:PE X a ta):PE X (.UnaryOp op a pos) (tUn r ta):=by
 intro pins s σ H Q I h
 exact UnaryOp_ (thn (ha pins s σ H _ I h) fun v s1 ⟨x,H1,I1,r1,q1⟩=>ho pins s1 σ H1 x v Q I1 r1 q1)
theorem opI{f:Value->Value->Sem Value}{C:Int->Int->Prop}{g:Int->Int->Int}
  (rule:∀(i j:Int) (t u:Tok) (s:Shared) (Q:Value->Shared->Prop) (E:Value->Shared->Prop),C i j->Q (.int (g i j) s.toks) { s with toks:=s.toks+1 }->wpAny (model X.prog X.w) X.A (f (.int i t) (.int j u)) Q E s) :
  OpR X f (rI C fun i j=>.int (g i j)):=by
 intro pins s σ H x y v u Q I rx ry h
 obtain⟨i,j,rfl,rfl,hc,q⟩:=h
 obtain⟨t,rfl⟩:=rx
 obtain⟨t',rfl⟩:=ry
 exact rule i j t t' s _ _ hc ⟨.int (g i j),H,I.tok _,⟨_,rfl⟩,q⟩
theorem opI0{f:Value->Value->Sem Value}{g:Int->Int->Int}
  (rule:∀(i j:Int) (t u:Tok) (s:Shared) (Q:Value->Shared->Prop) (E:Value->Shared->Prop),Q (.int (g i j) s.toks) { s with toks:=s.toks+1 }->wpAny (model X.prog X.w) X.A (f (.int i t) (.int j u)) Q E s) :
  OpR X f (rI0 fun i j=>.int (g i j)):=by
 intro pins s σ H x y v u Q I rx ry h
 obtain⟨i,j,rfl,rfl,q⟩:=h
 obtain⟨t,rfl⟩:=rx
 obtain⟨t',rfl⟩:=ry
 exact rule i j t t' s _ _ ⟨.int (g i j),H,I.tok _,⟨_,rfl⟩,q⟩
theorem X3{f:Value->Value->Sem Value}{g:Int->Int->Bool}
  (rule:∀(i j:Int) (t u:Tok) (s:Shared) (Q:Value->Shared->Prop) (E:Value->Shared->Prop),Q (.bool (g i j)) s->wpAny (model X.prog X.w) X.A (f (.int i t) (.int j u)) Q E s) :
  OpR X f (rI0 fun i j=>.bl (g i j)):=by
 intro pins s σ H x y v u Q I rx ry h
 obtain⟨i,j,rfl,rfl,q⟩:=h
 obtain⟨t,rfl⟩:=rx
 obtain⟨t',rfl⟩:=ry
 exact rule i j t t' s _ _ ⟨.bl (g i j),H,I,rfl,q⟩
def CDiv(i j:Int):Prop:=0<j/\j<1073741824
def w02(i j:Int):Prop:=(-(2^64)<i/\i<2^64)\/(-(2^64)<j/\j<2^64)
theorem w02.ok{i j:Int}(h:w02 i j):IntMulOk i j:=by
 rcases h with ⟨h1,h2⟩|⟨h1,h2⟩
 ·exact .of_left (intBits_le_64 h1 h2)
 ·exact .of_right (intBits_le_64 h1 h2)
theorem z1M:OpR X (binaryOp .Add) (rI0 fun i j=>.int (i+j)):=opI0 fun _ _ _ _ _ _ _ q=>add_int q
theorem z4m:OpR X (binaryOp .Sub) (rI0 fun i j=>.int (i-j)):=opI0 fun _ _ _ _ _ _ _ q=>sub_int q
theorem z6j:OpR X (binaryOp .Mult) (rI w02 fun i j=>.int (i*j)):=opI fun _ _ _ _ _ _ _ hc q=>mul_int q hc.ok
theorem z1l:OpR X (binaryOp .FloorDiv) (rI CDiv fun i j=>.int (i / j)):=opI fun i j _ _ _ _ _ hc q=>by
 have h1:(0:Int)<j:=hc.1
 have h2:j<1073741824:=hc.2
 exact floordiv_int (by omega) (by rw[Int.fdiv_eq_ediv_of_nonneg i (by omega)];exact q) (.inl (PyProof.noPylong_small (by omega)))
theorem z1d:OpR X (binaryOp .Mod) (rI (fun _ j=>0<j) fun i j=>.int (i%j)):=opI fun i j _ _ _ _ _ hc q=>by
 have h1:(0:Int)<j:=hc
 exact mod_int' (by omega) (by rw[Int.fmod_eq_emod_of_nonneg i (by omega)];exact q)
theorem unI{f:Value->Sem Value}{g:Int->Int}
  (rule:∀(i:Int) (t:Tok) (s:Shared) (Q:Value->Shared->Prop) (E:Value->Shared->Prop),Q (.int (g i) s.toks) { s with toks:=s.toks+1 }->wpAny (model X.prog X.w) X.A (f (.int i t)) Q E s) :
  UnR X f (rU fun i=>.int (g i)):=by
 intro pins s σ H x v Q I rx h
 obtain⟨i,rfl,q⟩:=h
 obtain⟨t,rfl⟩:=rx
 exact rule i t s _ _ ⟨.int (g i),H,I.tok _,⟨_,rfl⟩,q⟩
theorem z9h:UnR X (unaryOp .USub) (rU fun i=>.int (-i)):=unI fun _ _ _ _ _ q=>neg_int q
end
def w01:V->V->Bool
 | .non,.non=>true|.non,.int _=>true|.int _,.non=>true|.non,.bl _=>true|.bl _,.non=>true|.non,.str _=>true|.str _,.non=>true
 | .int _,.int _=>true|.bl _,.bl _=>true|.str _,.str _=>true|.byt _,.byt _=>true
 | .int _,.str _=>true|.str _,.int _=>true|.bl _,.str _=>true|.str _,.bl _=>true
 | _,_=>false
def rEq:R2:=fun x y H Q=>w01 x y=true/\Q (.bl (decide (x=y))) H
def rNe:R2:=fun x y H Q=>w01 x y=true/\Q (.bl (!decide (x=y))) H
theorem y2m{i j:Int}:decide (V.int i=V.int j)=(i == j):=by
 rw[dL]
 simp
theorem y5f{i j:Bool}:decide (V.bl i=V.bl j)=(i == j):=by
 rw[dL]
 simp
theorem y3P{i j:Str}:decide (V.str i=V.str j)=(i == j):=by
 rw[dL]
 simp
theorem y3L{i j:Array UInt8}:decide (V.byt i=V.byt j)=(i.toList == j.toList):=by
 rw[dL]
 cases i
 cases j
 simp
section
variable{X:Cx}{a b c:Expr}{ta tb tc:TE}{pos:Pos}
theorem z0X{pins:List (Addr×Obj)}{σ:St}{H:Hp}{s:Shared}{Q:VK}{k k':Bool}(I:Inv X pins σ H s)(q:Q (.bl k) H)(e:k=k'):EP X pins σ Q (.bool k') s:=by
 subst e
 exact⟨.bl k,H,I,rfl,q⟩
theorem z2r:OpR X (compareOp .Eq) rEq:=by
 intro pins s σ H x y v u Q I rx ry h
 obtain⟨hs,q⟩:=h
 cases x with
 | non=>
  cases rx
  cases y with
  | non=>cases ry;exact PySem.EqNone.eq_none_none (z0X I q (by simp))
  | bl j=>cases ry;exact PySem.EqNone.eq_none_bool (z0X I q (by simp))
  | int j=>obtain⟨t',rfl⟩:=ry;exact PySem.EqNone.eq_none_int (z0X I q (by simp))
  | str j=>obtain⟨t',rfl⟩:=ry;exact PySem.EqNone.eq_none_str (z0X I q (by simp))
  | _=>exact absurd (show false=true from hs) bF
 | bl i=>
  cases rx
  cases y with
  | non=>cases ry;exact PySem.EqNone.eq_bool_none (z0X I q (by simp))
  | bl j=>cases ry;exact eq_bool (z0X I q y5f)
  | str j=>obtain⟨t',rfl⟩:=ry;exact PySem.EqMixed.eq_bool_str (z0X I q (by simp))
  | _=>exact absurd (show false=true from hs) bF
 | int i=>
  obtain⟨t,rfl⟩:=rx
  cases y with
  | non=>cases ry;exact PySem.EqNone.eq_int_none (z0X I q (by simp))
  | int j=>obtain⟨t',rfl⟩:=ry;exact eq_int (z0X I q y2m)
  | str j=>obtain⟨t',rfl⟩:=ry;exact PySem.EqMixed.eq_int_str (z0X I q (by simp))
  | _=>exact absurd (show false=true from hs) bF
 | str i=>
  obtain⟨t,rfl⟩:=rx
  cases y with
  | non=>cases ry;exact PySem.EqNone.eq_str_none (z0X I q (by simp))
  | bl j=>cases ry;exact PySem.EqMixed.eq_str_bool (z0X I q (by simp))
  | int j=>obtain⟨t',rfl⟩:=ry;exact PySem.EqMixed.eq_str_int (z0X I q (by simp))
  | str j=>obtain⟨t',rfl⟩:=ry;exact eq_str (z0X I q y3P)
  | _=>exact absurd (show false=true from hs) bF
 | byt i=>
  obtain⟨t,rfl⟩:=rx
  cases y with
  | byt j=>obtain⟨t',rfl⟩:=ry;exact PySem.W.eq_bytes (z0X I q y3L)
  | _=>exact absurd (show false=true from hs) bF
 | _=>cases y<;>exact absurd (show false=true from hs) bF
theorem z8K:OpR X (compareOp .NotEq) rNe:=by
 intro pins s σ H x y v u Q I rx ry h
 obtain⟨hs,q⟩:=h
 cases x with
 | non=>
  cases rx
  cases y with
  | non=>cases ry;exact PySem.EqNone.ne_none_none (z0X I q (by simp))
  | bl j=>cases ry;exact PySem.EqNone.ne_none_bool (z0X I q (by simp))
  | int j=>obtain⟨t',rfl⟩:=ry;exact PySem.EqNone.ne_none_int (z0X I q (by simp))
  | str j=>obtain⟨t',rfl⟩:=ry;exact PySem.EqNone.ne_none_str (z0X I q (by simp))
  | _=>exact absurd (show false=true from hs) bF
 | bl i=>
  cases rx
  cases y with
  | non=>cases ry;exact PySem.EqNone.ne_bool_none (z0X I q (by simp))
  | bl j=>cases ry;exact ne_bool (z0X I q (congrArg not y5f))
  | str j=>obtain⟨t',rfl⟩:=ry;exact PySem.EqMixed.ne_bool_str (z0X I q (by simp))
  | _=>exact absurd (show false=true from hs) bF
 | int i=>
  obtain⟨t,rfl⟩:=rx
  cases y with
  | non=>cases ry;exact PySem.EqNone.ne_int_none (z0X I q (by simp))
  | int j=>obtain⟨t',rfl⟩:=ry;exact ne_int (z0X I q (congrArg not y2m))
  | str j=>obtain⟨t',rfl⟩:=ry;exact PySem.EqMixed.ne_int_str (z0X I q (by simp))
  | _=>exact absurd (show false=true from hs) bF
 | str i=>
  obtain⟨t,rfl⟩:=rx
  cases y with
  | non=>cases ry;exact PySem.EqNone.ne_str_none (z0X I q (by simp))
  | bl j=>cases ry;exact PySem.EqMixed.ne_str_bool (z0X I q (by simp))
  | int j=>obtain⟨t',rfl⟩:=ry;exact PySem.EqMixed.ne_str_int (z0X I q (by simp))
  | str j=>obtain⟨t',rfl⟩:=ry;exact ne_str (z0X I q (congrArg not y3P))
  | _=>exact absurd (show false=true from hs) bF
 | byt i=>
  obtain⟨t,rfl⟩:=rx
  cases y with
  | byt j=>obtain⟨t',rfl⟩:=ry;exact PySem.W.ne_bytes (z0X I q (congrArg not y3L))
  | _=>exact absurd (show false=true from hs) bF
 | _=>cases y<;>exact absurd (show false=true from hs) bF
theorem z7V:OpR X (compareOp .Lt) (rI0 fun i j=>.bl (decide (i<j))):=X3 fun _ _ _ _ _ _ _ q=>lt_int q
theorem y5G:OpR X (compareOp .LtE) (rI0 fun i j=>.bl (decide (i≤j))):=X3 fun _ _ _ _ _ _ _ q=>le_int q
theorem z2E:OpR X (compareOp .Gt) (rI0 fun i j=>.bl (decide (j<i))):=X3 fun _ _ _ _ _ _ _ q=>gt_int q
theorem y6R:OpR X (compareOp .GtE) (rI0 fun i j=>.bl (decide (j≤i))):=X3 fun _ _ _ _ _ _ _ q=>ge_int q
theorem z0m(b:Expr){op:CmpOp}(h:op≠.In:=by decide)(h2:op≠.NotIn:=by decide):behindInMarks op b=false:=by
 have e1:(op == CmpOp.In)=false:=by cases op<;>first|rfl|exact absurd rfl h
 have e2:(op == CmpOp.NotIn)=false:=by cases op<;>first|rfl|exact absurd rfl h2
 cases b<;>simp[behindInMarks,e1,e2]
theorem y2X{op:CmpOp}{r:R2}(ho:OpR X (compareOp op) r)(ha:PE X a ta)(hb:PE X b tb)(hm:behindInMarks op b=false):PE X (.Compare a [op] [b] pos) (tOp r ta tb):=by
 intro pins s σ H Q I h
 exact wpAny_Compare1 (Z1 ha hb I h fun v u s2 x y H2 I2 rx ry q=>ho pins s2 σ H2 x y v u Q I2 rx ry q) hm
def w0P(t:TE):TT:=fun σ H Q=>t σ H fun x H'=>∃k,x=.bl k/\Q k H'
theorem z09{op:CmpOp}{r:R2}(ho:OpR X (compareOp op) r)(ha:PE X a ta)(hb:PE X b tb)(hm:behindInMarks op b=false):PT X (.Compare a [op] [b] pos) (w0P (tOp r ta tb)):=by
 intro pins s σ H Q I h
 refine wpAny_isTrue_Compare1 (thn (ha pins s σ H _ I h) fun v s1 ⟨x,H1,I1,r1,q1⟩=>thn (hb pins s1 σ H1 _ I1 q1) fun u s2 ⟨y,H2,I2,r2,q2⟩=>
  thn (ho pins s2 σ H2 x y v u _ I2 r1 r2 q2) fun c s3 ⟨z,H3,I3,r3,k,e,q3⟩=>?_) hm
 subst e
 cases r3
 exact wpAny_truthy_bool ⟨H3,I3,q3⟩
theorem z7o:(sizeLine:Nat)<2^63:=by rw[sizeLine_eq];decide
theorem z8v:OpR X (binaryOp .Add) (fun x y H Q=>∃i j,x=.str i/\y=.str j/\i.length+j.length≤sizeLine/\Q (.str (i++j)) H):=by
 intro pins s σ H x y v u Q I rx ry h
 obtain⟨i,j,rfl,rfl,hz,q⟩:=h
 obtain⟨t,rfl⟩:=rx
 obtain⟨t',rfl⟩:=ry
 exact add_str (fun t' tk=>⟨.str (i++j),H,I.tok _,⟨_,rfl⟩,q⟩) hz
theorem z3H{x:V}{us:List Value}(r:Vals [x] us):∃u,us=[u]/\RelV x u:=by
 cases r with
 | cons r1 r2=>cases r2;exact⟨_,rfl,r1⟩
theorem y4N{x y:V}{us:List Value}(r:Vals [x,y] us):∃u w',us=[u,w']/\RelV x u/\RelV y w':=by
 cases r with
 | cons r1 r2=>
  cases r2 with
  | cons r3 r4=>cases r4;exact⟨_,_,rfl,r1,r3⟩
theorem y2E(hc:X.calm=true):z3b X (.builtin "max") (fun xs H Q=>∃i j,xs=[.int i,.int j]/\Q (.int (if j > i then j else i)) H):=by
 intro pins s σ H xs us Q I r h
 obtain⟨i,j,rfl,q⟩:=h
 obtain⟨u,w',rfl,⟨t,rfl⟩,⟨t',rfl⟩⟩:=y4N r
 refine max_two_ints (I.ok.hd hc) fun h' tk k=>⟨_,H,I.kept k,?_,q⟩
 by_cases hj:j > i
 ·rw[if_pos hj,if_pos hj];exact⟨_,rfl⟩
 ·rw[if_neg hj,if_neg hj];exact⟨_,rfl⟩
end
structure S9(h:Heap)(x dx C:Addr)(mA:Str->Option Value):Prop where
 obj:h.get? x=some (PySem.W.instObj C dx)
 ns:h.Ns1 dx mA
 ne:dx≠x
theorem y2P{h:Heap}{dx:Addr}{mA:Str->Option Value}(n:h.Ns1 dx mA):∃od,h.get? dx=some od/\∀name,PySem.W.lookIn name od=some (mA name):=by
 obtain⟨o,es,ep,ho,hd,hk,_,hm⟩:=n
 refine⟨o,ho,fun name=>?_⟩
 have e:=hm name
 unfold nsFind findBy at e
 rw[<- Array.find?_toList] at e
 unfold PySem.W.lookIn
 rw[hd]
 dsimp only
 split
 ·rename_i y q
  rw[q] at e
  exact congrArg some e
 ·rename_i q
  rw[q] at e
  have a:es.toList.any (·.refKey)=false:=by
   rw[jE]
   intro y hy
   obtain⟨z,t,hkey⟩:=hk y (Array.mem_toList_iff.mp hy)
   simp[DictEntry.refKey,hkey]
  have a':¬es.toList.any (·.refKey)=true:=by rw[a];exact bF
  rw[if_neg a']
  exact congrArg some e
theorem S9.look{h:Heap}{x dx C:Addr}{mA:Str->Option Value}(I:S9 h x dx C mA):∃od,PySem.W.InstAt h x (PySem.W.instObj C dx) C (some od)/\∀name,PySem.W.lookIn name od=some (mA name):=
 let ⟨od,ho,hl⟩:=y2P I.ns
 ⟨od,⟨I.obj,rfl,rfl,ho⟩,hl⟩
section
variable{prog:Program}{w:World}{A:Around}{E:Value->Shared->Prop}{s:Shared}{K:PySem.W.Frag}{x dx C f:Addr}{mA:Str->Option Value}{name:Str}{v:Value}
theorem y5X{expr:Bool}{Q:Value->Shared->Prop}(X:K.In s.heap)(I:S9 s.heap x dx C mA)(hg:PySem.W.plainGet K C name=true)(hh:PySem.W.hasDictIn K C=true)
  (ha:PySem.W.findIn K (.ref C) name=some none) (hv:mA name=some v) (hv':PySem.W.handedIn v=true) (h:Q v { s with toks:=s.toks+1 }) :
  wpAny (model prog w) A (getAttr (.ref x) name expr) Q E s:=by
 obtain⟨od,J,hl⟩:=I.look
 exact PySem.W.get_value X J (jA hg).1 (PySem.W.findObj_own hh ha rfl (by rw[hl,hv])) hv' h
theorem y4t{pl:Sem Bool}{Q:Value×List Value->Shared->Prop}(X:K.In s.heap)(I:S9 s.heap x dx C mA)(hg:PySem.W.plainGet K C name=true)
  (hf:PySem.W.findIn K (.ref C) name=some (some (.ref f))) (ht:PySem.W.isFn K (.ref f)=true) (hv:mA name=none) (h:Q (.ref f,[.ref x]) s) :
  wpAny (model prog w) A (getMethod (.ref x) name pl) Q E s:=by
 obtain⟨od,J,hl⟩:=I.look
 exact PySem.W.method_fn X J (jA hg).1 (jA hg).2 hf (beq_iff_eq.mp ht) (by show(PySem.W.lookIn name od).map (·.isSome)=some false;rw[hl,hv];rfl) h
theorem y6e{ns:List Str}{Q:Unit->Shared->Prop}(X:K.In s.heap)(I:S9 s.heap x dx C mA)
  (hs:PySem.W.findIn K (.ref C) "__setattr__"=some (some (.builtin "object.__setattr__"))) (hp:PySem.W.plainOver K C=true) (ht:PySem.W.takerIn K C name=some none) (hh:PySem.W.hasDictIn K C=true)
  (hw:PySem.Within mA ns) (hsz:ns.length≤sizeLine)
  (h:∀h',S9 h' x dx C (fun y=>if y=name then some v else mA y)->Heap.SameBut dx s.heap h'->Q () { s with heap:=h',toks:=s.toks+2 }) :
  wpAny (model prog w) A (setAttr (.ref x) name v) Q E s:=by
 obtain⟨od,J,hl⟩:=I.look
 refine PySem.W.set_plain X J hs (PySem.W.osa_open (s:={ s with toks:=s.toks+1 }) (r:=none) X J hp ht fun b=>?_)
 obtain⟨cd,hc,hd'⟩:=PySem.W.any_some hh
 have hx:s.heap.get? x=some ⟨.ref C,some dx,.plain,#[]⟩:=I.obj
 refine wpAny_bind (wpAny_pure (wpAny_bind (wpAny_bind (wpAny_loadPart hx (wpAny_bind (PySem.W.Looks.here (s:={ s with toks:=s.toks+1 }) (PySem.W.looks_clsIn X hc) ?_))))))
 rw[hd']
 refine wpAny_pure (a:=some dx) (wpAny_bind (wpAny_pure (wpAny_bind ?_)))
 refine wpAny_nsSet1 (s:={ s with toks:=s.toks+1 }) I.ns fun h' hn2 hs2=>?_
 obtain⟨oD,esD,epD,hoD,hdD,hcD⟩:=hn2.count (PySem.Within.cons name v hw)
 refine wpAny_bind (wpAny_lookBehind hoD (by rw[hdD];exact pastItsLine_dict (cO hcD (by rw[cC];omega))) ?_)
 exact wpAny_pure (h _ ⟨(hs2.2 _ (d9 I.ne)).trans I.obj,hn2,I.ne⟩ hs2)
theorem y4z{R:Result->Shared->Prop}{vs:List Value}{kw:List (Str×Value)}(X:K.In s.heap)(hm:PySem.W.makesIn K C=true)
  (hi:PySem.W.findIn K (.ref C) "__init__"=some (some (.ref f))) (hf:PySem.W.typeIn K (.ref f)=some (.type "function"))
  (h:codeAny (model prog w) (A.under (.builtin "type.__call__" ⟨.ref C::vs,kw⟩)) (.call (.ref f) ⟨.ref (s.heap.objs.size+1)::vs,kw⟩) (PySem.W.InitBack (s.heap.objs.size+1) R)
   { s with heap:=(s.heap.push PySem.W.emptyDict).push (PySem.W.instObj C s.heap.objs.size) }) :
  codeAny (model prog w) A (.call (.ref C) ⟨vs,kw⟩) R s:=by
 obtain⟨hh,g,d,t,os⟩:=s
 exact PySem.W.make_core (PySem.W.makes_of X hm) (PySem.W.looks_findIn X hi) (fun self=>PySem.W.bind_fn X self hf) (.inl rfl) h
end
def F0(f:Str)(v:V):List (Str×V)->List (Str×V)
 | []=>[(f,v)]
 | (g,x)::r=>if g=f then (g,v)::r else (g,x)::F0 f v r
theorem z0k(f g:Str)(v:V):∀fs:List (Str×V),(F0 f v fs).lookup g=if g=f then some v else fs.lookup g
 | []=>by
  show List.lookup g [(f,v)]=_
  by_cases h:g=f
  ·have hb:(g == f)=true:=beq_iff_eq.mpr h
   simp only[List.lookup,hb,if_pos h]
  ·have hb:(g == f)=false:=beq_eq_false_iff_ne.mpr h
   simp only[List.lookup,hb,if_neg h]
 | (k,x)::r=>by
  have ih:=z0k f g v r
  rw[show F0 f v ((k,x)::r)=(if k=f then (k,v)::r else (k,x)::F0 f v r) from rfl]
  by_cases hk:k=f
  ·rw[if_pos hk]
   by_cases h:g=k
   ·have hb:(g == k)=true:=beq_iff_eq.mpr h
    simp only[List.lookup,hb,if_pos (h.trans hk)]
   ·have hb:(g == k)=false:=beq_eq_false_iff_ne.mpr h
    simp only[List.lookup,hb,if_neg (fun e:g=f=>h (e.trans hk.symm))]
  ·rw[if_neg hk]
   by_cases h:g=k
   ·have hb:(g == k)=true:=beq_iff_eq.mpr h
    simp only[List.lookup,hb,if_neg (fun e:g=f=>hk (h.symm.trans e))]
   ·have hb:(g == k)=false:=beq_eq_false_iff_ne.mpr h
    simp only[List.lookup,hb]
    exact ih
theorem z72(f:Str)(v:V):∀fs:List (Str×V),f∈(F0 f v fs).map (·.1)/\∀g,g∈fs.map (·.1)->g∈(F0 f v fs).map (·.1)
 | []=>⟨by simp[F0],fun g h=>by simp at h⟩
 | (k,x)::r=>by
  obtain⟨i1,i2⟩:=z72 f v r
  rw[show F0 f v ((k,x)::r)=(if k=f then (k,v)::r else (k,x)::F0 f v r) from rfl]
  by_cases hk:k=f
  ·rw[if_pos hk]
   subst hk
   exact⟨by simp,fun g h=>by simpa using h⟩
  ·rw[if_neg hk]
   refine⟨?_,fun g h=>?_⟩
   ·rw[cK]
    exact bM _ i1
   ·rw[cK] at h ⊢
    rcases bA.mp h with e|e
    ·exact bA.mpr (.inl e)
    ·exact bM _ (i2 g e)
theorem z1y(f:Str)(v:V):∀fs:List (Str×V),(F0 f v fs).length≤fs.length+1
 | []=>by simp[F0]
 | (k,x)::r=>by
  have ih:=z1y f v r
  rw[show F0 f v ((k,x)::r)=(if k=f then (k,v)::r else (k,x)::F0 f v r) from rfl]
  by_cases hk:k=f
  ·rw[if_pos hk,cC,cC];omega
  ·rw[if_neg hk,cC,cC];omega
theorem M1.some_of{v:V}{o:Option Value}(r:M1 (some v) o):∃u,o=some u/\RelV v u:=by
 cases o with
 | none=>exact(show False from r).elim
 | some u=>exact⟨u,rfl,r⟩
theorem M1.none_of{o:Option Value}(r:M1 none o):o=none:=by
 cases o with
 | none=>rfl
 | some u=>exact(show False from r).elim
theorem y2F{v:V}{u:Value}(r:RelV v u):PySem.W.handedIn u=true:=by
 cases v with
 | non=>cases (show u=Value.none from r);rfl
 | bl b=>cases (show u=Value.bool b from r);rfl
 | int i=>obtain⟨t,e⟩:=(show ∃t,u=Value.int i t from r);cases e;rfl
 | str x=>obtain⟨t,e⟩:=(show ∃t,u=Value.str x t from r);cases e;rfl
 | byt b=>obtain⟨t,e⟩:=(show ∃t,u=Value.bytes b t from r);cases e;rfl
 | flt b=>obtain⟨t,e⟩:=(show ∃t,u=Value.float b t from r);cases e;rfl
 | ref a=>cases (show u=Value.ref a from r);rfl
 | ty n=>cases (show u=Value.type n from r);rfl
section
variable{P:Program}{w:World}{H H':Hp}{h h':Heap}{a C dx:Addr}{fs fs':List (Str×V)}
theorem z8X(hok:HOk P w H h)(e:H a=some (.ins C dx fs)):∃mA,S9 h a dx C mA/\(∀f,M1 (fs.lookup f) (mA f))/\PySem.Within mA (fs.map (·.1))/\fs.length≤1000/\H dx=some (.own a):=by
 obtain⟨d,z,ne,ob,mA,n,r,q⟩:=(show z1g P w H h a (.ins C dx fs) from hok a _ e)
 exact⟨mA,⟨ob,n,ne⟩,r,q,z,d⟩
end
structure Cls(K:PySem.W.Frag)(C:Addr):Prop where
 pg:PySem.W.plainGet K C Str.empty=true
 hd:PySem.W.hasDictIn K C=true
 po:PySem.W.plainOver K C=true
 sa:PySem.W.findIn K (.ref C) "__setattr__"=some (some (.builtin "object.__setattr__"))
theorem Cls.get{K:PySem.W.Frag}{C:Addr}(c:Cls K C)(f:Str):PySem.W.plainGet K C f=true:=c.pg
def z2z(K:PySem.W.Frag)(C:Addr)(f:Str):Prop:=PySem.W.findIn K (.ref C) f=some none
theorem z2z.w11{K:PySem.W.Frag}{C:Addr}{f:Str}(n:z2z K C f):PySem.W.takerIn K C f=some none:=by
 unfold PySem.W.takerIn
 rw[show PySem.W.findIn K (.ref C) f=some none from n]
 rfl
structure Meth(K:PySem.W.Frag)(C:Addr)(m:Str)(f:Addr):Prop where
 at_:PySem.W.findIn K (.ref C) m=some (some (.ref f))
 fn:PySem.W.isFn K (.ref f)=true
 kp:PySem.W.keepIn K (.ref f)=true
section
variable{X:Cx}{pins:List (Addr×Obj)}{σ:St}{H:Hp}{s:Shared}{a C dx:Addr}{fs:List (Str×V)}{f:Str}{v:V}{A:Around}{E:Value->Shared->Prop}
theorem y24{b:Bool}{Q:Value->Shared->Prop}(I:Inv X pins σ H s)(e:H a=some (.ins C dx fs))(c:Cls X.K C)(n:z2z X.K C f)(l:fs.lookup f=some v)
  (h:∀u s',Inv X pins σ H s'->RelV v u->Q u s'):wpAny (model X.prog X.w) A (getAttr (.ref a) f b) Q E s:=by
 obtain⟨mA,O,r,_,_,_⟩:=z8X I.hok e
 obtain⟨u,hu,ru⟩:=M1.some_of (v:=v) (o:=mA f) (by rw[<- l];exact r f)
 exact y5X I.kIn O (c.get f) c.hd n hu (y2F ru) (h u _ (I.tok _) ru)
theorem z5y{m:Str}{g:Addr}{pl:Sem Bool}{Q:Value×List Value->Shared->Prop}(I:Inv X pins σ H s)(e:H a=some (.ins C dx fs))(c:Cls X.K C)(k:Meth X.K C m g)(l:fs.lookup m=none)
  (h:Q (.ref g,[.ref a]) s):wpAny (model X.prog X.w) A (getMethod (.ref a) m pl) Q E s:=by
 obtain⟨mA,O,r,_,_,_⟩:=z8X I.hok e
 have hn:mA m=none:=M1.none_of (by rw[<- l];exact r m)
 exact y4t I.kIn O (c.get m) k.at_ k.fn hn h
theorem y1C{y:V}{u:Value}{Q:Unit->Shared->Prop}(I:Inv X pins σ H s)(e:H a=some (.ins C dx fs))(c:Cls X.K C)(n:z2z X.K C f)(hl:fs.length<1000)(ry:RelV y u)
  (h:∀s',Inv X pins σ (upd H a (.ins C dx (F0 f y fs))) s'->Q () s'):wpAny (model X.prog X.w) A (setAttr (.ref a) f u) Q E s:=by
 obtain⟨mA,O,r,wi,_,ho⟩:=z8X I.hok e
 have hz:(fs.map (·.1)).length≤sizeLine:=by rw[b7,sizeLine_eq];omega
 refine y6e I.kIn O c.sa c.po n.w11 c.hd wi hz fun h' O' sb=>h _ ?_
 have hd:∃o,h'.get? dx=some o:=let ⟨o,_,_,e',_⟩:=O'.ns;⟨o,e'⟩
 refine I.write (x:=a) (e:=dx) (by rw[e];exact True.intro) (.inr ho) (fun b q hb z=>(sb.2 b hb).trans z) hd ?_
 refine⟨by rw[z0e O.ne];exact ho,?_,O.ne,O'.obj,_,O'.ns,fun g=>?_,fun g hg=>?_⟩
 ·have:=z1y f y fs;omega
 ·show M1 ((F0 f y fs).lookup g) (if g=f then some u else mA g)
  rw[z0k]
  by_cases q:g=f
  ·rw[if_pos q,if_pos q];exact ry
  ·rw[if_neg q,if_neg q];exact r g
 ·by_cases q:g=f
  ·rw[q];exact(z72 f y fs).1
  ·refine(z72 f y fs).2 g (wi g fun z=>hg ?_)
   show(if g=f then some u else mA g)=none
   rw[if_neg q];exact z
theorem Inv.made(I:Inv X pins σ H s):Inv X pins σ (upd (upd H s.heap.objs.size (.own (s.heap.objs.size+1))) (s.heap.objs.size+1) (.ins C s.heap.objs.size []))
  { s with heap:=(s.heap.push PySem.W.emptyDict).push (PySem.W.instObj C s.heap.objs.size) }:=by
 have e1:(s.heap.push PySem.W.emptyDict).get? s.heap.objs.size=some PySem.W.emptyDict:=bC s.heap rfl
 have e2:((s.heap.push PySem.W.emptyDict).push (PySem.W.instObj C s.heap.objs.size)).get? (s.heap.objs.size+1)=some (PySem.W.instObj C s.heap.objs.size):=by
  have:=bC (s.heap.push PySem.W.emptyDict) (o:=PySem.W.instObj C s.heap.objs.size) rfl
  rwa [eU] at this
 have e3:(s.heap.push PySem.W.emptyDict).Ns s.heap.objs.size (fun _=>none):=⟨PySem.W.emptyDict,#[],_,e1,rfl,(fun e he=>absurd he (by simp)),fun _=>rfl⟩
 have I1:=I.laid (a:=s.heap.objs.size) (o:=.own (s.heap.objs.size+1)) (h':=s.heap.push PySem.W.emptyDict) (t':=s.toks) (fun b u q=>b8 _ q) (bB _) ⟨_,e1⟩
 refine I1.laid (a:=s.heap.objs.size+1) (o:=.ins C s.heap.objs.size []) (t':=s.toks) (fun b u q=>b8 _ q) (Nat.le_of_eq (eU _ _)) ?_
 have ne:s.heap.objs.size≠s.heap.objs.size+1:=bU (e8 _)
 refine⟨by rw[z0e ne,z02],cQ _,ne,e2,fun _=>none,(Heap.Ns1.of_empty e3).at fun o q=>b8 _ q,fun _=>True.intro,fun y hy=>absurd rfl hy⟩
theorem y5I{prog:Program}{w:World}{env:Env}{e:Expr}{f:Str}{pos:Pos}{s:Shared}{Q:Value->Shared->Prop}(hb:attributeBase e f env (eval e env)=eval e env)
  (h:wpAny (model prog w) A (eval e env) (fun o s₁=>wpAny (model prog w) A (getAttr o f true) Q E s₁) E s):wpAny (model prog w) A (eval (.Attribute e f pos) env) Q E s:=
 Attribute_any_ h (by rw[arm_eval_Attribute,hb])
end
def Z7(K:PySem.W.Frag)(ta:TE)(f:Str):TE:=fun σ H Q=>ta σ H fun x H1=>∃a C dx fs v,x=.ref a/\H1 a=some (.ins C dx fs)/\Cls K C/\z2z K C f/\fs.lookup f=some v/\Q v H1
def sFld(K:PySem.W.Frag)(ta tv:TE)(f:Str):TS:=fun D σ H=>tv σ H fun y H1=>ta σ H1 fun x H2=>∃a C dx fs,x=.ref a/\H2 a=some (.ins C dx fs)/\Cls K C/\z2z K C f/\fs.length<1000/\
 D.nx σ (upd H2 a (.ins C dx (F0 f y fs)))
section
variable{X:Cx}{o e value:Expr}{f:Str}{pos pos' tpos:Pos}{ta tv:TE}
theorem z0F(he:PE X e ta)(hb:attributeBase e f X.env (eval e X.env)=eval e X.env):PE X (.Attribute e f pos) (Z7 X.K ta f):=by
 intro pins s σ H Q I h
 refine y5I hb (thn (he pins s σ H _ I h) fun u s1 hz=>?_)
 obtain⟨x,H1,I1,rx,a,C,dx,fs,v,ex,ea,c,n,l,q⟩:=hz
 subst ex
 obtain rfl:u=Value.ref a:=rx
 exact y24 I1 ea c n l fun u' s2 I2 ru=>⟨v,H1,I2,ru,q⟩
theorem z52(ha:PE X o ta)(hv:PE X value tv)(hs:swapsWith value (some (.Attribute o f pos')) pos.line X.env=pure false):PS X (.Assign [.Attribute o f pos'] value pos) (sFld X.K ta tv f):=by
 intro pins s σ H D I h
 refine plainObj_wpAny_Assign_Attribute (thn (hv pins s σ H _ I h) fun u s1 ⟨y,H1,I1,ry,q⟩=>thn (ha pins s1 σ H1 _ I1 q) fun ov s2 hz=>?_) hs
 obtain⟨x,H2,I2,rx,a,C,dx,fs,ex,ea,c,n,l,q2⟩:=hz
 subst ex
 obtain rfl:ov=Value.ref a:=rx
 exact y1C I2 ea c n l ry fun s3 I3=>⟨σ,_,I3,q2⟩
theorem y6n{pl:Sem Bool}{m:Str}{apos:Pos}{args:List Expr}{pins:List (Addr×Obj)}{s:Shared}{σ:St}{H:Hp}{Q:Value->Shared->Prop}{te:TE}(he:PE X e te)(I:Inv X pins σ H s)
  (h:te σ H fun x H1=>∃a C dx fs g,x=.ref a/\H1 a=some (.ins C dx fs)/\Cls X.K C/\Meth X.K C m g/\fs.lookup m=none/\
   ∀s1,Inv X pins σ H1 s1->wpAny (model X.prog X.w) X.A (callWith pos (.ref g) [.ref a] (backTo pos (starEach args X.env)) (backToKw pos (keywordEach [] X.env))) Q X.xe s1)
  (ht:eval (.Call (.Attribute e m apos) args [] pos) X.env=(do
   let ov <- eval e X.env
   standAt apos.atName
   let (f,first) <- holding [ov] (getMethod ov m pl)
   callWith pos f first (backTo pos (starEach args X.env)) (backToKw pos (keywordEach [] X.env)))) :
  wpAny (model X.prog X.w) X.A (eval (.Call (.Attribute e m apos) args [] pos) X.env) Q X.xe s:=by
 refine hZ (pl:=pl) (thn (he pins s σ H _ I h) fun u s1 hz=>?_) ht
 obtain⟨x,H1,I1,rx,a,C,dx,fs,g,ex,ea,c,k,l,q⟩:=hz
 subst ex
 obtain rfl:u=Value.ref a:=rx
 exact z5y I1 ea c k l (q s1 I1)
end
section
variable{X:Cx}{pins:List (Addr×Obj)}{σ:St}{H:Hp}{s:Shared}{A:Around}{E:Value->Shared->Prop}{Q:Value->Shared->Prop}{c:Value}{b:Bool}
inductive N2(K:PySem.W.Frag)(H:Hp):V->Value->Prop where
 | non:N2 K H .non (.type "NoneType")
 | bl (x:Bool):N2 K H (.bl x) (.type "bool")
 | int (i:Int):N2 K H (.int i) (.type "int")
 | str (x:Str):N2 K H (.str x) (.type "str")
 | flt (x:UInt64):N2 K H (.flt x) (.type "float")
 | lst {a:Addr}{xs:List V} (e:H a=some (.lst xs)):N2 K H (.ref a) (.type "list")
 | frz {a:Addr}{o:Obj}{xs:List V} (e:H a=some (.frz o (.lst xs))):N2 K H (.ref a) (.type "list")
 | tup {a:Addr}{xs:List V} (e:H a=some (.tup xs)):N2 K H (.ref a) (.type "tuple")
 | dK {a:Addr}{kvs:List (Key×V)} (e:H a=some (.dK kvs)):N2 K H (.ref a) (.type "dict")
 | dT {a:Addr}{kvs:List (List Key×V)} (e:H a=some (.dT kvs)):N2 K H (.ref a) (.type "dict")
 | ins {a C dx:Addr}{fs:List (Str×V)} (e:H a=some (.ins C dx fs)) (cl:Cls K C) (ha:PySem.W.findIn K (.ref C) "__class__"=some (some (.builtin "object.__class__")))
   (hn:PySem.W.specialIn K (.builtin "object.__class__") "__get__"=some (some (.builtin "getset_descriptor.__get__"))) (htk:PySem.W.takesIn K (.builtin "object.__class__")=some true)
   (hm:PySem.W.mroIn K C (.type "object")=some true):N2 K H (.ref a) (.ref C)
theorem y2G{x:V}{u t:Value}(I:Inv X pins σ H s)(rx:RelV x u)(ty:N2 X.K H x t)(e:PySem.W.kitOne X.K t c=some b)(h:∀tk,Q (.bool b) { s with toks:=tk }) :
  wpAny (model X.prog X.w) A (call (.builtin "isinstance") [u,c]) Q E s:=by
 cases ty with
 | non=>cases (show u=Value.none from rx);exact dM PySem.W.kitx_none I.kIn True.intro e (fun z=>nomatch z) h
 | bl y=>cases (show u=Value.bool y from rx);exact dM PySem.W.kitx_bool I.kIn True.intro e (fun z=>nomatch z) h
 | int i=>obtain⟨t,q⟩:=(show ∃t,u=Value.int i t from rx);cases q;exact dM PySem.W.kitx_int I.kIn True.intro e (fun z=>nomatch z) h
 | str y=>obtain⟨t,q⟩:=(show ∃t,u=Value.str y t from rx);cases q;exact dM PySem.W.kitx_str I.kIn True.intro e (fun z=>nomatch z) h
 | flt y=>obtain⟨t,q⟩:=(show ∃t,u=Value.float y t from rx);cases q;exact dM PySem.W.kitx_float I.kIn True.intro e (fun z=>nomatch z) h
 | @lst a xs ea=>
  cases (show u=Value.ref a from rx)
  obtain⟨_,_,n,_,h1⟩:=(show z1g X.prog X.w H s.heap a (.lst xs) from I.hok a _ ea)
  exact dM PySem.W.kitx_list I.kIn ⟨_,h1,rfl⟩ e (fun z=>nomatch z) h
 | @frz a ob xs ea=>
  cases (show u=Value.ref a from rx)
  obtain⟨_,_,_,n,_,h1⟩:=(show z1g X.prog X.w H s.heap a (.frz ob (.lst xs)) from I.hok a _ ea)
  exact dM PySem.W.kitx_list I.kIn ⟨_,h1,rfl⟩ e (fun z=>nomatch z) h
 | @tup a xs ea=>
  cases (show u=Value.ref a from rx)
  obtain⟨_,_,_,p⟩:=(show z1g X.prog X.w H s.heap a (.tup xs) from I.hok a _ ea)
  obtain⟨o,h1,h2,_⟩:=p
  exact dM PySem.W.kitx_tuple I.kIn ⟨o,h1,h2⟩ e (fun z=>nomatch z) h
 | @dK a kvs ea=>
  cases (show u=Value.ref a from rx)
  obtain⟨_,_,vs,_,p⟩:=(show z1g X.prog X.w H s.heap a (.dK kvs) from I.hok a _ ea)
  obtain⟨o,es,ep,h1,h2,_⟩:=p
  exact dM PySem.W.kitx_dict I.kIn ⟨o,h1,h2.1⟩ e (fun z=>nomatch z) h
 | @dT a kvs ea=>
  cases (show u=Value.ref a from rx)
  obtain⟨_,_,xs,_,o,es,ep,h1,h2,_⟩:=(show z1g X.prog X.w H s.heap a (.dT kvs) from I.hok a _ ea)
  exact dM PySem.W.kitx_dict I.kIn ⟨o,h1,h2.1⟩ e (fun z=>nomatch z) h
 | @ins a C dx fs ea cl ha hn htk hm=>
  cases (show u=Value.ref a from rx)
  obtain⟨mA,O,_⟩:=z8X I.hok ea
  obtain⟨od,J,_⟩:=O.look
  exact dM (PySem.W.kitx_own (cl.get _) cl.hd ha hn htk hm) I.kIn J e (fun z=>nomatch z) h
end
structure C5(k:Nat)(A:Around):Prop where
 hd:A.handled=none
 dp:A.depth+3*k+5<recursionLimit
 un:A.units+16*k+200<cLine
theorem C5.mono{j k:Nat}{A:Around}(r:C5 k A)(h:j≤k):C5 j A:=⟨r.hd,by have:=r.dp;omega,by have:=r.un;omega⟩
theorem C5.deeper{k:Nat}{A:Around}(r:C5 (k+1) A)(env:Env):C5 k (A.deeper env):=
 ⟨r.hd,by have:=r.dp;show A.depth+1+3*k+5<_;omega,by have:=r.un;show A.units+3+16*k+200<_;omega⟩
theorem y1Z{A:Around}{C:Addr}{us:List Value}{kw:List (Str×Value)}:(A.under (.builtin "type.__call__" ⟨.ref C::us,kw⟩)).depth=A.depth+1:=by
 first|rfl|simp[Around.under,Code.weight,Code.isCreation,Code.isGuard,Code.isCaller,Code.frames,Code.isFrame,guardIds]
theorem y1L{A:Around}{C:Addr}{us:List Value}{kw:List (Str×Value)}:(A.under (.builtin "type.__call__" ⟨.ref C::us,kw⟩)).units=A.units+1:=by
 first|rfl|simp[Around.under,Code.cUnits,Code.frames,Code.isFrame]
theorem C5.make{k:Nat}{A:Around}(r:C5 (k+1) A)(C:Addr)(us:List Value)(kw:List (Str×Value)):C5 k (A.under (.builtin "type.__call__" ⟨.ref C::us,kw⟩)):=
 ⟨r.hd,by have:=r.dp;rw[y1Z];omega,by have:=r.un;rw[y1L];omega⟩
theorem C5.depth{k:Nat}{A:Around}(r:C5 k A):A.depth<recursionLimit:=by have:=r.dp;omega
theorem C5.units{k:Nat}{A:Around}(r:C5 k A):A.units+64<cLine:=by have:=r.un;omega
theorem C5.P8{k:Nat}{A:Around}(r:C5 k A):A.units<cLine:=by have:=r.un;omega
def U6:TA:=fun _ H Q=>Q [] H
def y4Z(ta:TE)(tr:TA):TA:=fun σ H Q=>ta σ H fun x H1=>tr σ H1 fun xs H2=>Q (x::xs) H2
section
variable{X:Cx}{e:Expr}{es:List Expr}{te:TE}{t:TA}{pos:Pos}
theorem z03:PA X [] U6:=fun _ _ _ _ H Q I h=>Calls.spliced_nil ⟨[],H,I,.nil,h⟩
theorem z00(ha:PE X e te)(hr:PA X es t)(hs:starEach (e::es) X.env=(false,eval e X.env)::starEach es X.env:=by rfl):PA X (e::es) (y4Z te t):=by
 intro pos pins s σ H Q I h
 rw[hs]
 show wpAny _ _ (spliced ((false,eval e X.env)::backTo pos (starEach es X.env))) _ _ s
 refine Calls.spliced_cons (thn (ha pins s σ H _ I h) fun u s1 hz=>?_)
 obtain⟨x,H1,I1,r1,q1⟩:=hz
 exact thn (hr pos pins s1 σ H1 _ I1 q1) fun us s2 ⟨xs,H2,I2,r2,q2⟩=>⟨x::xs,H2,I2,.cons r1 r2,q2⟩
def tTup(t:TA):TE:=fun σ H Q=>t σ H fun xs H1=>xs.length≤sizeLine/\∀p,H1 p=none->Q (.ref p) (upd H1 p (.tup xs))
def tLst(t:TA):TE:=fun σ H Q=>t σ H fun xs H1=>xs.length≤sizeLine/\∀p,H1 p=none->Q (.ref p) (upd H1 p (.lst xs))
theorem z0Y{x1}(h:PA X es t):PE X (.Tuple es x1 pos) (tTup t):=by
 intro pins s σ H Q I hq
 refine wpAny_Tuple_spliced (thn (h pos pins s σ H _ I hq) fun us s1 ⟨xs,H1,I1,r,z,q⟩=>⟨by rw[<- r.length];exact z,?_⟩)
 have hf:H1 s1.heap.objs.size=none:=I1.hok.fresh (bB _)
 refine⟨.ref s1.heap.objs.size,upd H1 s1.heap.objs.size (.tup xs),I1.laid (t':=s1.toks) (fun b u e=>b8 _ e) (bB _) ?_,rfl,q _ hf⟩
 exact⟨z,us,r,⟨_,bC _ rfl,rfl,⟨_,rfl⟩,rfl⟩⟩
theorem z1t(h:PA X es t):PE X (.List es pos) (tLst t):=by
 intro pins s σ H Q I hq
 refine wpAny_List_spliced (thn (h pos pins s σ H _ I hq) fun us s1 ⟨xs,H1,I1,r,z,q⟩=>⟨by rw[<- r.length];exact z,?_⟩)
 have hf:H1 s1.heap.objs.size=none:=I1.hok.fresh (bB _)
 refine⟨.ref s1.heap.objs.size,upd H1 s1.heap.objs.size (.lst xs),I1.laid (t':=s1.toks) (fun b u e=>b8 _ e) (bB _) ?_,rfl,q _ hf⟩
 exact⟨z,us,0,r,bC _ rfl⟩
end
abbrev Sp:=List V->Hp->VK->XK->Prop
abbrev CXT:=List Env->Hp->Shared->XK->Value->Shared->Prop
structure T3(P:Program)(w:World)(K:PySem.W.Frag)(mg:Str->Option Value)(base:Heap)(A:Around)(outer:List Env)(s:Shared)(H:Hp):Prop where
 frames:A.frames=some outer
 mod:Mod K mg base
 bs:∀b o,base.get? b=some o->s.heap.get? b=some o/\H b=none
 bsz:base.objs.size≤s.heap.objs.size
 O6:s.heap.FunFrames base outer
 frf:∀b∈frs outer,H b=none
 hok:HOk P w H s.heap
 bare:AllBare s.gens
def CE(outer:List Env)(P:Program)(w:World)(H:Hp)(s:Shared)(Q:VK)(u:Value)(s':Shared):Prop:=
 ∃v H',s'.os=s.os/\AllBare s'.gens/\Un (frs outer) [] H H' s.heap s'.heap/\HOk P w H' s'.heap/\RelV v u/\Q v H'
def CR(CX:CXT)(outer:List Env)(P:Program)(w:World)(H:Hp)(s:Shared)(Q:VK)(E:XK)(r:Result)(s':Shared):Prop:=
 match r with
 | .ok (.ret u)=>CE outer P w H s Q u s'
 | .ok _=>False
 | .error e=>CX outer H s E e s'
structure A7(P:Program)(w:World)(K:PySem.W.Frag)(mg:Str->Option Value)(base:Heap)(CX:CXT)(k:Nat)(f:Addr)(fd:FuncData)(ps:List Str)(sp:Sp):Prop where
 len:∀vs H Q E,sp vs H Q E->vs.length=ps.length
 run:∀(A:Around) (outer:List Env) (s:Shared) (H:Hp) (args:Args) (us:List Value) (vs:List V) (Q:VK) (E:XK),C5 k A->T3 P w K mg base A outer s H->BindsTo s fd args (ps.zip us)->Vals vs us->sp vs H Q E->
  codeAny (model P w) A (.call (.ref f) args) (CR CX outer P w H s Q E) s
theorem A7.mono{P:Program}{w:World}{K:PySem.W.Frag}{mg:Str->Option Value}{base:Heap}{CX:CXT}{j k:Nat}{f:Addr}{fd:FuncData}{ps:List Str}{sp:Sp}(F:A7 P w K mg base CX j f fd ps sp)(h:j≤k) :
  A7 P w K mg base CX k f fd ps sp:=⟨F.len,fun A outer s H args us vs Q E hr=>F.run A outer s H args us vs Q E (hr.mono h)⟩
theorem T3.make{P:Program}{w:World}{K:PySem.W.Frag}{mg:Str->Option Value}{base:Heap}{A:Around}{outer:List Env}{s:Shared}{H:Hp}(e:T3 P w K mg base A outer s H)(C:Addr)(us:List Value)(kw:List (Str×Value)) :
  T3 P w K mg base (A.under (.builtin "type.__call__" ⟨.ref C::us,kw⟩)) outer s H:=⟨by first|exact e.frames|(simpa [Around.under,Code.envs,Code.isFrame,pushEnvs] using e.frames),e.mod,e.bs,e.bsz,e.O6,e.frf,e.hok,e.bare⟩
section
variable{X:Cx}{pins:List (Addr×Obj)}{σ:St}{H:Hp}{s s':Shared}
theorem Inv.env0(I:Inv X pins σ H s):T3 X.prog X.w X.K X.mg X.base X.A X.stack s H:=
 ⟨I.ok.frames,I.ok.mod,I.bs,cO I.ok.bsz I.sz,I.stack,I.U4,I.hok,I.bare⟩
theorem Inv.after{Q:VK}{u:Value}(I:Inv X pins σ H s)(h:CE X.stack X.prog X.w H s Q u s'):EP X pins σ Q u s':=by
 obtain⟨v,H',os,bare,un,hok,r,q⟩:=h
 obtain⟨hh,g,d,t,os'⟩:=s'
 obtain rfl:os'=s.os:=os
 exact⟨v,H',I.call (h':=hh) (g':=g) (d':=d) (t':=t) (ch:=[]) un hok bare (fun b z=>absurd z (by simp)),r,q⟩
end
def y5P(sp:Sp)(dvs:List V)(E:XK)(t:TA):TE:=fun σ H Q=>t σ H fun vs H1=>sp (vs++dvs) H1 Q E
def y2w(C:Addr)(m:Str)(sp:Sp)(dvs:List V)(E:XK)(ta:TE)(t:TA):TE:=fun σ H Q=>ta σ H fun x H1=>∃a dx fs,x=.ref a/\H1 a=some (.ins C dx fs)/\fs.lookup m=none/\
 t σ H1 fun vs H2=>sp (x::(vs++dvs)) H2 Q E
def y77(C:Addr)(sp:Sp)(dvs:List V)(E:XK)(t:TA):TE:=fun σ H Q=>t σ H fun vs H1=>∀x dx,H1 x=none->H1 dx=none->dx≠x->
 sp (.ref x::(vs++dvs)) (upd (upd H1 dx (.own x)) x (.ins C dx [])) (fun v H2=>v=.non/\Q (.ref x) H2) E
def z1J(K:PySem.W.Frag)(fd:FuncData)(ps:List Str)(ds:List Value):Prop:=
 ∀(s:Shared) (us:List Value),K.In s.heap->(us++ds).length=ps.length->BindsTo s fd ⟨us,[]⟩ (ps.zip (us++ds))
theorem z1J.all{K:PySem.W.Frag}{fd:FuncData}{ps:List Str}(h:∀us:List Value,us.length=ps.length->bindArgs fd ⟨us,[]⟩=pure (ps.zip us)):z1J K fd ps []:=fun s us _ hl=>by
 rw[d7] at hl ⊢
 exact .of_eq (h us hl)
def z79(CX:CXT)(X:Cx)(E:XK):Prop:=∀(pins:List (Addr×Obj)) (σ:St) (H:Hp) (s:Shared) (e:Value) (s':Shared),Inv X pins σ H s->CX X.stack H s E e s'->X.xe e s'
section
variable{X:Cx}{CX:CXT}{k:Nat}{f C:Addr}{fd:FuncData}{ps:List Str}{sp:Sp}{dvs:List V}{ds:List Value}{E:XK}{x m:Str}{p pos apos:Pos}{e o:Expr}{es:List Expr}{ta:TE}{t:TA}
theorem y3u{pins:List (Addr×Obj)}{σ:St}{H:Hp}{s:Shared}{Q:VK}{us:List Value}{vs:List V}(F:A7 X.prog X.w X.K X.mg X.base CX k f fd ps sp)(hr:C5 k X.A)(hb:z1J X.K fd ps ds)(hd:Vals dvs ds)(hx:z79 CX X E)
  (I:Inv X pins σ H s) (r:Vals vs us) (h:sp (vs++dvs) H Q E):wpAny (model X.prog X.w) X.A (call (.ref f) us) (EP X pins σ Q) X.xe s:=by
 have r2:Vals (vs++dvs) (us++ds):=r.append hd
 have hl:(us++ds).length=ps.length:=by rw[<- r2.length];exact F.len _ _ _ _ h
 refine wpAny_call (codeAny_mono (F.run X.A X.stack s H ⟨us,[]⟩ (us++ds) (vs++dvs) Q E hr I.env0 (hb s us I.kIn hl) r2 h) fun r s' hq=>?_)
 cases r with
 | error e=>exact hx pins σ H s e s' I hq
 | ok fl=>
  cases fl with
  | ret u=>exact I.after hq
  | next=>exact False.elim hq
  | brk=>exact False.elim hq
  | cont=>exact False.elim hq
theorem y3I(F:A7 X.prog X.w X.K X.mg X.base CX k f fd ps sp)(hr:C5 k X.A)(hg:Gl X x)(hm:X.mg x=some (.ref f))(hk:PySem.W.keepIn X.K (.ref f)=true)(hb:z1J X.K fd ps ds)(hd:Vals dvs ds)(hx:z79 CX X E)
  (ha:PA X (e::es) t) (hdb:(x == ("__debug__":Str))=false:=by decide) (he:starEach (e::es) X.env=(false,eval e X.env)::starEach es X.env:=by rfl) (hpl:(backTo pos (starEach es X.env)).any (·.1)=false:=by rfl) :
  PE X (.Call (.Name x p) (e::es) [] pos) (y5P sp dvs E t):=by
 intro pins s σ H Q I h
 refine wpAny_Call_Name_kw (y0s I hg hm ?_ hdb)
 refine jD (h₀:=X.base) I.ok.mod.kin hk (thn (ha pos pins s σ H _ I h) fun us s1 ⟨vs,H1,I1,r,q⟩=>⟨I1.kIn,?_⟩) he hpl
 exact y3u F hr hb hd hx I1 r q
theorem y3S{pl:Sem Bool}(he:PE X o ta)(c:Cls X.K C)(hm:Meth X.K C m f)(F:A7 X.prog X.w X.K X.mg X.base CX k f fd ps sp)(hr:C5 k X.A)(hb:z1J X.K fd ps ds)(hd:Vals dvs ds)(hx:z79 CX X E)(ha:PA X (e::es) t)
  (hst:starEach (e::es) X.env=(false,eval e X.env)::starEach es X.env:=by rfl) (hpl:(backTo pos (starEach es X.env)).any (·.1)=false:=by rfl)
  (ht:eval (.Call (.Attribute o m apos) (e::es) [] pos) X.env=(do
   let ov <- eval o X.env
   standAt apos.atName
   let (f,first) <- holding [ov] (getMethod ov m pl)
   callWith pos f first (backTo pos (starEach (e::es) X.env)) (backToKw pos (keywordEach [] X.env))):=by rfl) :
  PE X (.Call (.Attribute o m apos) (e::es) [] pos) (y2w C m sp dvs E ta t):=by
 intro pins s σ H Q I h
 refine hZ (pl:=pl) (thn (he pins s σ H _ I h) fun u s1 hz=>?_) ht
 obtain⟨x,H1,I1,rx,a,dx,fs,ex,ea,l,q⟩:=hz
 subst ex
 obtain rfl:u=Value.ref a:=rx
 refine z5y I1 ea c hm l ?_
 refine jD (first:=[.ref a]) (h₀:=X.base) I.ok.mod.kin hm.kp (thn (ha pos pins s1 σ H1 _ I1 q) fun us s2 ⟨vs,H2,I2,r,q2⟩=>⟨I2.kIn,?_⟩) hst hpl
 exact y3u (us:=.ref a::us) (vs:=.ref a::vs) F hr hb hd hx I2 (.cons rfl r) q2
theorem y4U{pl:Sem Bool}(he:PE X o ta)(c:Cls X.K C)(hm:Meth X.K C m f)(F:A7 X.prog X.w X.K X.mg X.base CX k f fd ps sp)(hr:C5 k X.A)(hb:z1J X.K fd ps ds)(hd:Vals dvs ds)(hx:z79 CX X E)
  (ht:eval (.Call (.Attribute o m apos) [] [] pos) X.env=(do
   let ov <- eval o X.env
   standAt apos.atName
   let (f,first) <- holding [ov] (getMethod ov m pl)
   callWith pos f first (backTo pos (starEach [] X.env)) (backToKw pos (keywordEach [] X.env))):=by rfl) :
  PE X (.Call (.Attribute o m apos) [] [] pos) (y2w C m sp dvs E ta U6):=by
 intro pins s σ H Q I h
 refine hZ (pl:=pl) (thn (he pins s σ H _ I h) fun u s1 hz=>?_) ht
 obtain⟨x,H1,I1,rx,a,dx,fs,ex,ea,l,q⟩:=hz
 subst ex
 obtain rfl:u=Value.ref a:=rx
 refine z5y I1 ea c hm l ?_
 exact PySem.W.callWith_K0 (first:=[.ref a]) I1.kIn hm.kp (y3u (us:=[.ref a]) (vs:=[.ref a]) F hr hb hd hx I1 (.cons rfl .nil) q)
structure Mk(K:PySem.W.Frag)(C f:Addr):Prop where
 makes:PySem.W.makesIn K C=true
 init:PySem.W.findIn K (.ref C) "__init__"=some (some (.ref f))
 fn:PySem.W.isFn K (.ref f)=true
 kp:PySem.W.keepIn K (.ref C)=true
theorem y4c{pins:List (Addr×Obj)}{σ:St}{H:Hp}{s:Shared}{Q:VK}{us:List Value}{vs:List V}(M:Mk X.K C f)(F:A7 X.prog X.w X.K X.mg X.base CX k f fd ps sp)(hr:C5 (k+1) X.A)(hb:z1J X.K fd ps ds)(hd:Vals dvs ds)
  (hx:z79 CX X E) (I:Inv X pins σ H s) (r:Vals vs us)
  (h:∀x dx,H x=none->H dx=none->dx≠x->sp (.ref x::(vs++dvs)) (upd (upd H dx (.own x)) x (.ins C dx [])) (fun v H2=>v=.non/\Q (.ref x) H2) E) :
  wpAny (model X.prog X.w) X.A (call (.ref C) us) (EP X pins σ Q) X.xe s:=by
 have hq:=h (s.heap.objs.size+1) s.heap.objs.size (I.hok.fresh (eI _)) (I.hok.fresh (bB _)) (bU (e8 _))
 have I2:=Inv.made (C:=C) I
 have r2:Vals (V.ref (s.heap.objs.size+1)::(vs++dvs)) (Value.ref (s.heap.objs.size+1)::(us++ds)):=.cons rfl (r.append hd)
 have hl:(Value.ref (s.heap.objs.size+1)::us++ds).length=ps.length:=by
  have e:=r2.length
  rw[F.len _ _ _ _ hq] at e
  exact e.symm
 refine wpAny_call (y4z (f:=f) I.kIn M.makes M.init (beq_iff_eq.mp M.fn) (codeAny_mono (F.run _ X.stack _ _ ⟨Value.ref (s.heap.objs.size+1)::us,[]⟩ (Value.ref (s.heap.objs.size+1)::(us++ds)) _ _ E (hr.make C us [])
  (I2.env0.make C us []) (hb _ (Value.ref (s.heap.objs.size+1)::us) I2.kIn hl) r2 hq) fun r s' hq'=>?_))
 cases r with
 | error e=>exact hx pins σ _ _ e s' I2 hq'
 | ok fl=>
  cases fl with
  | ret u=>
   obtain⟨v,H',I3,rv,ev,q3⟩:=I2.after hq'
   subst ev
   exact⟨rv,⟨V.ref (s.heap.objs.size+1),H',I3,rfl,q3⟩⟩
  | next=>exact False.elim hq'
  | brk=>exact False.elim hq'
  | cont=>exact False.elim hq'
theorem y6i(M:Mk X.K C f)(F:A7 X.prog X.w X.K X.mg X.base CX k f fd ps sp)(hr:C5 (k+1) X.A)(hg:Gl X x)(hm:X.mg x=some (.ref C))(hb:z1J X.K fd ps ds)(hd:Vals dvs ds)(hx:z79 CX X E)
  (ha:PA X (e::es) t) (hdb:(x == ("__debug__":Str))=false:=by decide) (he:starEach (e::es) X.env=(false,eval e X.env)::starEach es X.env:=by rfl) (hpl:(backTo pos (starEach es X.env)).any (·.1)=false:=by rfl) :
  PE X (.Call (.Name x p) (e::es) [] pos) (y77 C sp dvs E t):=by
 intro pins s σ H Q I h
 refine wpAny_Call_Name_kw (y0s I hg hm ?_ hdb)
 refine jD (h₀:=X.base) I.ok.mod.kin M.kp (thn (ha pos pins s σ H _ I h) fun us s1 ⟨vs,H1,I1,r,q⟩=>⟨I1.kIn,?_⟩) he hpl
 exact y4c M F hr hb hd hx I1 r q
end
def PK(X:Cx)(kws:List Keyword)(t:TA):Prop:=
 ∀(pos:Pos) (pins:List (Addr×Obj)) (s:Shared) (σ:St) (H:Hp) (Q:List V->Hp->Prop),Inv X pins σ H s->t σ H Q->wpAny (model X.prog X.w) X.A (evalAll ((backToKw pos (keywordEach kws X.env)).map (·.2))) (AP X pins σ Q) X.xe s
section
variable{X:Cx}{CX:CXT}{k:Nat}{f C:Addr}{fd:FuncData}{ps ks:List Str}{sp:Sp}{E:XK}{x m:Str}{p pos apos kpos:Pos}{e o:Expr}{es:List Expr}{kws:List Keyword}{te ta:TE}{t tk:TA}{nm:Option Str}
theorem y0W:PK X [] U6:=fun _ _ _ _ H Q I h=>wpAny_evalAll_nil ⟨[],H,I,.nil,h⟩
theorem z8Z(ha:PE X e te)(hr:PK X kws t):PK X (⟨nm,e,kpos⟩::kws) (y4Z te t):=by
 intro pos pins s σ H Q I h
 show wpAny _ _ (evalAll ((do let v <- eval e X.env;standAt pos;pure v)::(backToKw pos (keywordEach kws X.env)).map (·.2))) _ _ s
 refine wpAny_evalAll_cons (wpAny_bind (thn (ha pins s σ H _ I h) fun u s1 ⟨x,H1,I1,r1,q1⟩=>wpAny_bind (wpAny_standAt (wpAny_pure ?_))))
 exact thn (hr pos pins s1 σ H1 _ I1 q1) fun us s2 ⟨xs,H2,I2,r2,q2⟩=>⟨x::xs,H2,I2,.cons r1 r2,q2⟩
variable{g:List Value->List Value->List Value}{gV:List V->List V->List V}
end
structure A2(N P:List Str)(sc:Scope):Prop where
 kind:sc.kind=.function
 co:sc.isCoroutine=false
 gen:sc.isGenerator=false
 nd:N.Nodup
 pre:N.take P.length=P
 par:∀x∈P,sc.names.lookup x=some .local\/sc.names.lookup x=some .cell
 nofree:∀y∈sc.names,y.2≠.free
theorem z9U{kindOf:Str->Option NameKind}{x:Str}:∀{binds:List (Str×Value)}{m:Str->Option Value},(∀v,(x,v)∉binds)->bindL kindOf binds m x=m x
 | [],_,_=>rfl
 | (n,v)::r,m,h=>by
  unfold bindL
  rw[z9U fun w hw=>h w (bM _ hw)]
  split
  ·have:x≠n:=by rintro rfl;exact h v bS
   simp[this]
  ·rfl
theorem z9u{kindOf:Str->Option NameKind}{x:Str}:∀{binds:List (Str×Value)}{m:Str->Option Value},(∀v,(x,v)∉binds)->bindC kindOf binds m x=m x
 | [],_,_=>rfl
 | (n,v)::r,m,h=>by
  unfold bindC
  rw[z9u fun w hw=>h w (bM _ hw)]
  split
  ·rfl
  ·have:x≠n:=by rintro rfl;exact h v bS
   simp[this]
theorem z9k{kindOf:Str->Option NameKind}{x:Str}{v:Value}:∀{P:List Str}{vs:List Value}{i:Nat}{m:Str->Option Value},P.Nodup->P[i]? = some x->vs[i]? = some v->kindOf x=some .local->
  bindL kindOf (P.zip vs) m x=some v
 | [],_,_,_,_,h,_,_=>by simp at h
 | _::_,[],_,_,_,_,h,_=>by simp at h
 | p::P,w::vs,0,m,nd,h1,h2,hk=>by
  simp at h1 h2;subst h1;subst h2
  show bindL kindOf ((p,w)::P.zip vs) m p=_
  unfold bindL
  rw[z9U fun v hv=>(cW.mp nd).1 (List.of_mem_zip hv).1,if_pos hk]
  simp
 | p::P,w::vs,i+1,m,nd,h1,h2,hk=>by
  show bindL kindOf ((p,w)::P.zip vs) m x=_
  unfold bindL
  exact z9k (i:=i) (cW.mp nd).2 (by simpa using h1) (by simpa using h2) hk
theorem z9n{kindOf:Str->Option NameKind}{x:Str}{v:Value}:∀{P:List Str}{vs:List Value}{i:Nat}{m:Str->Option Value},P.Nodup->P[i]? = some x->vs[i]? = some v->kindOf x≠some .local->
  bindC kindOf (P.zip vs) m x=some v
 | [],_,_,_,_,h,_,_=>by simp at h
 | _::_,[],_,_,_,_,h,_=>by simp at h
 | p::P,w::vs,0,m,nd,h1,h2,hk=>by
  simp at h1 h2;subst h1;subst h2
  show bindC kindOf ((p,w)::P.zip vs) m p=_
  unfold bindC
  rw[z9u fun v hv=>(cW.mp nd).1 (List.of_mem_zip hv).1,if_neg hk]
  simp
 | p::P,w::vs,i+1,m,nd,h1,h2,hk=>by
  show bindC kindOf ((p,w)::P.zip vs) m x=_
  unfold bindC
  exact z9n (i:=i) (cW.mp nd).2 (by simpa using h1) (by simpa using h2) hk
def z48(N:List Str)(vs:List V):St:=vs.map some++List.replicate (N.length-vs.length) none
def T4(CX:CXT)(P:Program)(w:World)(K:PySem.W.Frag)(mg:Str->Option Value)(base:Heap)(N:List Str)(qual:Str)(scope:Scope)(f:Addr)(cd:Value)(A:Around)(outer:List Env)(s:Shared)(H:Hp)(E:XK):Cx where
 prog:=P
 w:=w
 K:=K
 mg:=mg
 base:=base
 A:=A.deeper (envOfC qual scope s.heap.objs.size f cd)
 N:=N
 s₀:=s
 H₀:=H
 env:=envOfC qual scope s.heap.objs.size f cd
 outer:=outer
 stack:=envOfC qual scope s.heap.objs.size f cd::outer
 ex:=[]
 calm:=true
 fn:=fun _=>true
 pn:=[]
 xe:=fun e s'=>wpAny (model P w) (A.deeper (envOfC qual scope s.heap.objs.size f cd)) (leaving (envOfC qual scope s.heap.objs.size f cd) e) (fun _ s''=>CX outer H s E e s'') (fun e' s''=>CX outer H s E e' s'') s'
theorem y0T{sc:Scope}{n:Nat}{x:Str}(h:sc.names.lookup x=some .cell):∃c,(cellsFrom n sc.names []).lookup x=some c:=by
 have q:=PySem.W.cellsFrom_some sc.names n [] (.inl h)
 exact Option.isSome_iff_exists.mp q
theorem y44{CX:CXT}{P:Program}{w:World}{K:PySem.W.Frag}{mg:Str->Option Value}{base:Heap}{N ps:List Str}{qual:Str}{scope:Scope}{f:Addr}{cd:Value}{A:Around}{outer:List Env}{s s1:Shared}{H:Hp}{E:XK}{us:List Value}{vs:List V}
  (S:A2 N ps scope) (hd:A.handled=none) (e0:T3 P w K mg base A outer s H) (hl:vs.length=ps.length) (r:Vals vs us)
  (x:InCallC s s.heap.objs.size (bindL (envOfC qual scope s.heap.objs.size f cd).kindOf (ps.zip us) fun _=>none) (cellsFrom (s.heap.objs.size+1) scope.names []) (bindC (envOfC qual scope s.heap.objs.size f cd).kindOf (ps.zip us) fun _=>none) s1) :
  Inv (T4 CX P w K mg base N qual scope f cd A outer s H E) [] (z48 N vs) H s1:=by
 have hpl:ps.length≤N.length:=by have:=congrArg List.length S.pre;rw[bN] at this;omega
 obtain⟨h1,tk,rfl,hk⟩:=x.done
 have noA:∀b:Addr,b∉(T4 CX P w K mg base N qual scope f cd A outer s H E).ex:=fun b z=>absurd (show b∈([]:List Addr) from z) (by simp)
 refine⟨⟨e0.mod,S.kind,rfl,rfl,bB _,fun y z c h1 h2=>?_,fun y hy=>?_,fun y c _ h=>?_,fun _=>hd,Around.frames_deeper e0.frames,.inr ⟨rfl,rfl⟩,fun b z=>absurd z (noA b),e0.bs,e0.bsz,fun b _ _=>noA b,fun b z=>absurd z (noA b),e0.O6,e0.frf⟩,
  rfl,e0.bare,Un.kept hk,⟨_,x.toInCall.ns,fun i y v h1 h2 h3=>?_⟩,fun y c h=>⟨_,x.cell y c h⟩,e0.hok.fresh (bB _),fun y c h=>?_,fun p hp=>absurd (show p∈([]:List (Addr×Obj)) from hp) (by simp),e0.hok.kept hk,?_⟩
 ·exact name_of_addr x.apart (fO h1) (fO h2)
 ·have hy:scope.names.lookup y=some .cell\/scope.names.lookup y=some .free:=hy
  rcases hy with hy|hy
  ·exact y0T hy
  ·exact absurd rfl (S.nofree _ (fO hy))
 ·exact eY (x.above y c (fO h))
 ·have hi:i<vs.length:=by
   unfold z48 at h2
   by_cases hi:i<vs.length
   ·exact hi
   ·rw[e7 (by simpa using hi)] at h2
    rw[gX] at h2
    split at h2<;>cases h2
  have ha:vs[i]? = some v:=by
   unfold z48 at h2
   rw[fH (by simpa using hi),bH] at h2
   cases e:vs[i]? with
   | none=>rw[e] at h2;cases h2
   | some a=>rw[e] at h2;cases h2;rfl
  obtain⟨u,hu,rv⟩:=r.get ha
  have hp:ps[i]? = some y:=by
   rw[<- S.pre,List.getElem?_take_of_lt (by omega)];exact h1
  have ndP:ps.Nodup:=by rw[<- S.pre];exact S.nd.sublist (jF _ _)
  refine⟨u,rv,?_⟩
  rcases S.par y (bT hp) with k|k
  ·exact .inl ⟨k,z9k ndP hp hu k⟩
  ·obtain⟨c,e⟩:=y0T (n:=s.heap.objs.size+1) k
   refine .inr ⟨.inl k,c,e,?_⟩
   have q:=x.cell y c e
   rw[z9n ndP hp hu (by show scope.names.lookup y≠_;rw[k];decide)] at q
   exact q
 ·exact e0.hok.fresh (eY (x.above y c (fO h)))
 ·unfold z48
  show _=N.length
  rw[bI,b7,j0]
  omega
theorem y75{CX:CXT}{P:Program}{w:World}{K:PySem.W.Frag}{mg:Str->Option Value}{base:Heap}{k:Nat}{f:Addr}{name qual:Str}{params:Arguments}{body:List Stmt}{scope:Scope}{dV kV doc pm cdv ct oc:Value}{an od:Option Addr}
  {osl:Array (Option Value)}{N ps:List Str}{sp:Sp} (lk:K.lookup f=some ⟨oc,od,.func (PySem.W.fnOf name qual params body scope dV kV doc pm an cdv ct),osl⟩) (hcd:PySem.W.codeIn K cdv qual=true) (S:A2 N ps scope)
  (len:∀vs H Q E,sp vs H Q E->vs.length=ps.length)
  (S6:∀(A:Around) (outer:List Env) (s:Shared) (H:Hp) (vs:List V) (Q:VK) (E:XK),C5 k (A.deeper (envOfC qual scope s.heap.objs.size f cdv))->sp vs H Q E->
   ∃t,PSs (T4 CX P w K mg base N qual scope f cdv A outer s H E) body t/\t { nx:=fun _ H'=>Q .non H',rt:=Q } (z48 N vs) H) :
  A7 P w K mg base CX (k+1) f (PySem.W.fnOf name qual params body scope dV kV doc pm an cdv ct) ps sp:=by
 refine⟨len,fun A outer s H args us vs Q E hr e0 hb r hsp=>?_⟩
 have hl:=len _ _ _ _ hsp
 have KX:K.In s.heap:=e0.mod.kin.keeps fun b o e=>(e0.bs b o e).1
 have lim:s.heap.NoLimit:=e0.mod.nolimit.keeps fun b o e=>(e0.bs b o e).1
 have w0y:∀y∈ps.zip us,scope.names.lookup y.1=some .local\/(scope.names.lookup y.1=some .cell/\((cellsFrom (s.heap.objs.size+1) scope.names []).lookup y.1).isSome=true):=fun⟨n,v⟩ hy=>by
  rcases S.par n (List.of_mem_zip hy).1 with q|q
  ·exact .inl q
  ·exact .inr ⟨q,PySem.W.cellsFrom_some _ _ _ (.inl q)⟩
 refine codeAny_call_function hr.depth (KX _ _ lk) rfl S.co S.gen rfl (PySem.W.codeRec_of KX hcd) (hb _ _ _ _ ?_)
 refine wpAny_newFunctionEnv_cells S.kind w0y fun env he s1 x=>?_
 subst he
 refine⟨lim.keeps x.toInCall.keep,codeAny_func ?_⟩
 obtain⟨t,ht,hq⟩:=S6 A outer s H vs Q E (hr.deeper _) hsp
 have I:Inv (T4 CX P w K mg base N qual scope f cdv A outer s H E) [] (z48 N vs) H s1:=y44 S hr.hd e0 hl r x
 refine wpAny_mono (ht [] s1 (z48 N vs) H _ I hq) (fun fl s' hs=>?_) fun e s' hs=>hs
 have fin:∀{σ':St}{H':Hp}{v:V}{u:Value},Inv (T4 CX P w K mg base N qual scope f cdv A outer s H E) [] σ' H' s'->RelV v u->Q v H'->CE outer P w H s Q u s':=
  fun {σ' H' v u} J rv q=>⟨v,H',J.os,J.bare,J.base,J.hok,rv,q⟩
 cases fl with
 | ret u=>
  obtain⟨v,σ',H',J,rv,q⟩:=hs
  exact fin J rv q
 | next=>
  obtain⟨σ',H',J,q⟩:=hs
  exact fin (v:=V.non) (u:=Value.none) J rfl q
 | brk=>
  obtain⟨_,_,_,q⟩:=hs
  exact False.elim q
 | cont=>
  obtain⟨_,_,_,q⟩:=hs
  exact False.elim q
section
variable{X:Cx}{x:Str}{p pos:Pos}{e:Expr}{es:List Expr}{t:TA}{id T:String}{r:List V->Hp->VK->Prop}
def tCB(r:List V->Hp->VK->Prop)(t:TA):TE:=fun σ H Q=>t σ H fun vs H1=>r vs H1 Q
theorem z0d(hc:z3b X (.builtin id) r)(hg:Gl X x)(hm:X.mg x=none)(hv:bootBuiltins x=some (.builtin id))(ha:PA X (e::es) t)(hn:x≠"__name__":=by decide)(hdb:(x == ("__debug__":Str))=false:=by decide)
  (he:starEach (e::es) X.env=(false,eval e X.env)::starEach es X.env:=by rfl) (hpl:(backTo pos (starEach es X.env)).any (·.1)=false:=by rfl):PE X (.Call (.Name x p) (e::es) [] pos) (tCB r t):=by
 intro pins s σ H Q I h
 refine wpAny_Call_Name_kw (z4Y I hg hm hv ?_ hn hdb)
 exact PyProof.Rows.callWith_builtin1 (thn (ha pos pins s σ H _ I h) fun us s1 ⟨vs,H1,I1,r1,q1⟩=>hc pins s1 σ H1 vs us Q I1 r1 q1) he hpl
theorem z0t(hc:z3b X (.type T) r)(hg:Gl X x)(hm:X.mg x=none)(hv:bootBuiltins x=some (.type T))(ha:PA X (e::es) t)(hn:x≠"__name__":=by decide)(hdb:(x == ("__debug__":Str))=false:=by decide)
  (he:starEach (e::es) X.env=(false,eval e X.env)::starEach es X.env:=by rfl) (hpl:(backTo pos (starEach es X.env)).any (·.1)=false:=by rfl):PE X (.Call (.Name x p) (e::es) [] pos) (tCB r t):=by
 intro pins s σ H Q I h
 refine wpAny_Call_Name_kw (z4Y I hg hm hv ?_ hn hdb)
 exact dZ (thn (ha pos pins s σ H _ I h) fun us s1 ⟨vs,H1,I1,r1,q1⟩=>hc pins s1 σ H1 vs us Q I1 r1 q1) he hpl
end
end L2
namespace HT
open PySem PyProof.Rows
section
open PySem.SeqAt
open PySem.AutoSeq1 (wpAny_loadPart')
open PySem.MeetsSeq PySem.MeetsSeq2 PySem.MeetsSeq3
end
section
variable{prog:Program}{w:World}{A:Around}{E:Value->Shared->Prop}{s:Shared}
theorem y69{t b:Addr}{vs ws:List Value}{Q:Value->Shared->Prop}(ht:IsTup s.heap t vs.toArray)(hb:IsTup s.heap b ws.toArray)(hv:vs≠[])
  (h1:ws=[]->Q (.ref t) s) (h2:ws≠[]->Q (.ref s.heap.objs.size) { s with heap:=s.heap.push { cls:=.type "tuple",data:=.seq (vs++ws).toArray } })
  (hsz:vs.length+ws.length≤sizeLine):wpAny (model prog w) A (binaryOp .Add (.ref t) (.ref b)) Q E s:=by
 obtain⟨⟨cls,dd,data,sl⟩,ho,hc,n,hd⟩:=id ht
 obtain⟨⟨cls2,dd2,data2,sl2⟩,ho2,hc2,n2,hd2⟩:=id hb
 simp only at hc hd hc2 hd2
 subst hc hd hc2 hd2
 have e:vs.toArray++ws.toArray=(vs++ws).toArray:=by simp
 by_cases hw:ws=[]
 ·exact concat_meets ⟨_,ho,rfl⟩ ⟨_,ho2,rfl⟩ noFill_tuple_add seq_tuple_add PySem.F.slot_tuple_add PySem.F.entry_tuple_add (PySem.F.args_tuple_add_2 _ _)
   (tuple_addW1 t b vs.toArray ws.toArray n n2 dd dd2 sl sl2 (by simpa using hv) (by simp[hw])) ⟨ho,ho2,h1 hw⟩
 ·refine concat_meets ⟨_,ho,rfl⟩ ⟨_,ho2,rfl⟩ noFill_tuple_add seq_tuple_add PySem.F.slot_tuple_add PySem.F.entry_tuple_add (PySem.F.args_tuple_add_2 _ _)
   (tuple_addW2 t b vs.toArray ws.toArray n n2 dd dd2 sl sl2 (by simpa using hv) (by simpa using hw) (by rw[bK,bK];exact hsz)) ⟨ho,ho2,?_⟩
  rw[e]
  exact h2 hw
def sIx(n d:Nat):Option Int->Nat
 | none=>d
 | some v=>if v<0 then (v+(n:Int)).toNat else min v.toNat n
theorem y3x(n d k:Nat):sIx n d (some (k:Int))=min k n:=by
 show(if (k:Int)<0 then ((k:Int)+(n:Int)).toNat else min (k:Int).toNat n)=min k n
 rw[if_neg (by omega),fE]
theorem y5C(n d:Nat)(hd:d≤n)(o:Option Int):sIx n d o≤n:=by
 cases o with
 | none=>exact hd
 | some v=>
  show(if v<0 then (v+(n:Int)).toNat else min v.toNat n)≤n
  by_cases hv:v<0
  ·rw[if_pos hv];omega
  ·rw[if_neg hv];exact Nat.min_le_right _ _
theorem y40(v:Int)(n d:Nat):(if v<0 then max (v+(n:Int)) 0 else min v (n:Int))=((sIx n d (some v):Nat):Int):=by
 show(if v<0 then max (v+(n:Int)) 0 else min v (n:Int))=(((if v<0 then (v+(n:Int)).toNat else min v.toNat n):Nat):Int)
 by_cases hv:v<0
 ·simp only[if_pos hv];omega
 ·simp only[if_neg hv];omega
theorem y1i(lo hi:Option Int)(n:Nat):Builtin.Slice.sliceAdjust lo hi 1 (n:Int)=(((sIx n 0 lo:Nat):Int),((sIx n n hi:Nat):Int)):=by
 have h1:¬((1:Int)<0):=by omega
 unfold Builtin.Slice.sliceAdjust
 simp only[h1,if_false]
 refine Prod.ext ?_ ?_
 ·cases lo with
  | none=>rfl
  | some v=>exact y40 v n 0
 ·cases hi with
  | none=>rfl
  | some v=>exact y40 v n n
theorem y1q(i j:Nat):Builtin.Slice.slicePlaces (i:Int) (j:Int) 1=j-i:=by
 unfold Builtin.Slice.slicePlaces
 have h1:(1:Int) > 0:=by omega
 simp only[h1,if_true,Int.ediv_one]
 split<;>omega
theorem z7Z{v:Value}{o:Option Int}{Q:Option Int->Shared->Prop}(p:IsPart v o)(h:Q o s):wpAny (model prog w) A (Builtin.Slice.slicePartIndex v) Q E s:=by
 cases p with
 | none=>exact slicePart_none h
 | int i t=>exact slicePart_int h
theorem z3E{sl:Addr}{vl vu:Value}{lo hi:Option Int}{n:Nat}{Q:Int×Int×Nat->Shared->Prop}(hs:s.heap.IsSliceOf sl vl vu .none)(pl:IsPart vl lo)(pu:IsPart vu hi)
  (h:Q (((sIx n 0 lo:Nat):Int),1,sIx n n hi-sIx n 0 lo) s):wpAny (model prog w) A (Builtin.Slice.sliceApplied (.ref sl) (pure (n:Int))) Q E s:=by
 obtain⟨os,hos,hcs,hds⟩:=id hs
 unfold Builtin.Slice.sliceApplied Builtin.Slice.sliceFields
 refine wpAny_bind (wpAny_bind (wpAny_field hos hds (x:=vl) rfl (wpAny_bind (wpAny_field hos hds (x:=vu) rfl (wpAny_bind (wpAny_field hos hds (x:=.none) rfl (wpAny_pure ?_)))))))
 refine wpAny_bind (slicePart_none ?_)
 show wpAny _ _ (if ((1:Int) == 0)=true then _ else _) _ _ s
 rw[if_neg (by decide)]
 refine wpAny_bind (z7Z pl (wpAny_bind (z7Z pu (wpAny_bind (wpAny_pure ?_)))))
 show wpAny _ _ (match Builtin.Slice.sliceAdjust lo hi 1 (n:Int) with|(lo,hi)=>pure (lo,(1:Int),Builtin.Slice.slicePlaces lo hi 1)) _ _ s
 rw[y1i lo hi n]
 show wpAny _ _ (pure (((sIx n 0 lo:Nat):Int),(1:Int),Builtin.Slice.slicePlaces ((sIx n 0 lo:Nat):Int) ((sIx n n hi:Nat):Int) 1)) _ _ s
 rw[y1q]
 exact wpAny_pure h
theorem y55(xs:Array Value)(i k:Nat):((List.range k).filterMap fun(m:Nat)=>xs[((i:Int)+(m:Int)*1).toNat]?).toArray=((xs.toList.drop i).take k).toArray:=by
 have e:(fun(m:Nat)=>xs[((i:Int)+(m:Int)*1).toNat]?)=fun m=>xs[i+m]? := by
  funext m
  have:((i:Int)+(m:Int)*1).toNat=i+m:=by omega
  rw[this]
 rw[e]
 have:=pick_run xs i k
 rw[List.filterMap_map] at this
 have e2:((fun x=>xs[x]?) ∘ fun x=>i+x)=fun m=>xs[i+m]? := rfl
 rw[e2] at this
 rw[this]
theorem z5z{t sl:Addr}{items:Array Value}{vl vu:Value}{lo hi:Option Int}{Q:Value->Shared->Prop}(ht:IsTup s.heap t items)(hs:s.heap.IsSliceOf sl vl vu .none)(pl:IsPart vl lo)(pu:IsPart vu hi)
  (hw:¬(sIx items.size 0 lo=0/\sIx items.size items.size hi=items.size))
  (h:Q (.ref s.heap.objs.size) { s with heap:=s.heap.push { cls:=.type "tuple",data:=.seq ((items.toList.drop (sIx items.size 0 lo)).take (sIx items.size items.size hi-sIx items.size 0 lo)).toArray } })
  (hsz:items.size≤sizeLine):wpAny (model prog w) A (getItem (.ref t) (.ref sl)) Q E s:=by
 have U3:sizeOk (.seq ((items.toList.drop (sIx items.size 0 lo)).take (sIx items.size items.size hi-sIx items.size 0 lo)).toArray):=by
  show((items.toList.drop (sIx items.size 0 lo)).take (sIx items.size items.size hi-sIx items.size 0 lo)).toArray.size≤sizeLine
  rw[bK,bN,fL,cL]
  omega
 have hj:sIx items.size items.size hi≤items.size:=y5C _ _ (bB _) hi
 obtain⟨os,hos,hcs,hds⟩:=id hs
 have hTs:s.TypeIs (.ref sl) "slice":=⟨os,hos,hcs⟩
 unfold getItem
 try with_reducible refine wpAny_holding ?_
 first|refine wpAny_bind (wpAny_pure ?_)|skip
 refine wpAny_bind (wpAny_sequenceKey ht.typeIs (by decide) ?_)
 refine wpAny_bind (wpAny_callSpecial?_slot (name:=Str.ofString "__getitem__") ht.typeIs dD
  (wpAny_call_entry dD ht.typeIs entry_tuple_getitem ?_ (args_tuple_getitem _ _)))
 show wpAny _ _ (Builtin.Tuple.tupleItemsOf (.ref t) >>= _) _ _ s
 refine wpAny_bind (tupleItemsOf_ ht ?_)
 refine wpAny_bind (wpAny_typeOf hTs ?_)
 rw[if_pos (by decide)]
 refine wpAny_bind (z3E hs pl pu ?_)
 have hno:¬((((sIx items.size 0 lo:Nat):Int) == 0 && (1:Int) == 1 && (sIx items.size items.size hi-sIx items.size 0 lo) == items.size)=true):=by
  intro q
  rw[bQ,bQ] at q
  have q1:((sIx items.size 0 lo:Nat):Int)=0:=eq_of_beq q.1.1
  have q2:sIx items.size items.size hi-sIx items.size 0 lo=items.size:=eq_of_beq q.2
  exact hw ⟨by omega,by omega⟩
 show wpAny _ _ (if (((sIx items.size 0 lo:Nat):Int) == 0 && (1:Int) == 1 && (sIx items.size items.size hi-sIx items.size 0 lo) == items.size)=true then _ else _) _ _ s
 rw[if_neg hno,y55]
 first
  | exact wpAny_bind (m:=Builtin.Tuple.tupleExact _) (wpAny_newObj_type (wpAny_pure ⟨_,rfl,wpAny_pure h⟩) U3)
  | exact wpAny_bind (m:=Builtin.Tuple.tupleExact _) (wpAny_newObj_type (wpAny_bind (wpAny_pure (wpAny_pure ⟨_,rfl,wpAny_pure h⟩))) U3)
  | exact wpAny_bind (wpAny_bind (m:=Builtin.Tuple.tupleExact _) (wpAny_newObj_type (wpAny_pure (wpAny_pure ⟨_,rfl,wpAny_pure h⟩)) U3))
  | exact wpAny_bind (wpAny_bind (m:=Builtin.Tuple.tupleExact _) (wpAny_newObj_type (wpAny_pure ⟨_,rfl,wpAny_pure h⟩) U3))
end
end HT
namespace L2
open PySem PySem.Spec PyProof.Rows
abbrev TO:=St->Hp->(Option Int->Hp->Prop)->Prop
def PO(X:Cx)(e:Option Expr)(t:TO):Prop:=
 ∀(pins:List (Addr×Obj)) (s:Shared) (σ:St) (H:Hp) (Q:Option Int->Hp->Prop),Inv X pins σ H s->t σ H Q->
  wpAny (model X.prog X.w) X.A (evalPart e X.env) (fun u s'=>∃o H',Inv X pins σ H' s'/\IsPart u o/\Q o H') X.xe s
def y6l:TO:=fun _ H Q=>Q none H
def w0Z(t:TE):TO:=fun σ H Q=>t σ H fun x H1=>∃i,x=.int i/\Q (some i) H1
theorem y1X{ns:List Int}:∀{us:List Value},Vals (ns.map V.int) us->IntsAre us ns:=by
 induction ns with
 | nil=>intro us r;rw[List.map_nil] at r;cases r;exact .nil
 | cons n ns ih=>
  intro us r
  rw[cK] at r
  cases r with
  | cons r1 r2=>
   obtain⟨t,e⟩:=r1
   subst e
   exact .cons n t (ih r2)
section
variable{X:Cx}{e:Expr}{te:TE}{lo hi:Option Expr}{tl th:TO}{pos p2:Pos}
theorem z73:PO X none y6l:=by
 intro pins s σ H Q I h
 rw[evalPart_none]
 exact wpAny_pure ⟨none,H,I,.none,h⟩
theorem z7O(h:PE X e te):PO X (some e) (w0Z te):=by
 intro pins s σ H Q I hw
 rw[evalPart_some]
 refine thn (h pins s σ H _ I hw) fun u s1 hz=>?_
 obtain⟨x,H1,I1,r1,q1⟩:=hz
 obtain⟨i,rfl,q⟩:=q1
 obtain⟨t,rfl⟩:=r1
 exact⟨some i,H1,I1,.int i t,q⟩
def SlR(X:Cx)(r:V->Option Int->Option Int->Hp->VK->Prop):Prop:=
 ∀(pins:List (Addr×Obj)) (s:Shared) (σ:St) (H:Hp) (x:V) (v vl vu:Value) (lo hi:Option Int) (sl:Addr) (Q:VK),Inv X pins σ H s->RelV x v->s.heap.IsSliceOf sl vl vu .none->IsPart vl lo->IsPart vu hi->r x lo hi H Q->
  ∃T id,typeLookup (.type T) "__getitem__"=pure (some (.builtin id))/\s.TypeIs v T/\wpAny (model X.prog X.w) X.A (getItem v (.ref sl)) (EP X pins σ Q) X.xe s
def tSl(r:V->Option Int->Option Int->Hp->VK->Prop)(te:TE)(tl th:TO):TE:=fun σ H Q=>te σ H fun x H1=>tl σ H1 fun l H2=>th σ H2 fun u H3=>r x l u H3 Q
theorem z5m{r:V->Option Int->Option Int->Hp->VK->Prop}(hr:SlR X r)(he:PE X e te)(hl:PO X lo tl)(hu:PO X hi th):PE X (.Subscript e (.Slice lo hi none p2) pos) (tSl r te tl th):=by
 intro pins s σ H Q I h
 refine Subscript_ (thn (he pins s σ H _ I h) fun v s1 hz=>?_)
 obtain⟨x,H1,I1,r1,q1⟩:=hz
 refine wpAny_Slice (thn (hl pins s1 σ H1 _ I1 q1) fun vl s2 ⟨l,H2,I2,pl,q2⟩=>thn (hu pins s2 σ H2 _ I2 q2) fun vu s3 hz=>?_)
 obtain⟨u,H3,I3,pu,q3⟩:=hz
 rw[evalPart_none]
 refine wpAny_pure ?_
 have I4:Inv X pins σ H3 { s3 with heap:=s3.heap.push { cls:=.type "slice",data:=.fields #[vl,vu,.none] } }:=I3.kept (t':=s3.toks) fun b ob q=>b8 _ q
 obtain⟨T,id,hT,ht,hg⟩:=hr pins { s3 with heap:=s3.heap.push { cls:=.type "slice",data:=.fields #[vl,vu,.none] } } σ H3 x v vl vu l u s3.heap.objs.size Q I4 r1 (Heap.IsSliceOf.new ..) pl pu q3
 show wpAny (model X.prog X.w) X.A (subscriptTail e (.Slice lo hi none p2) v (.ref s3.heap.objs.size)) (EP X pins σ Q) X.xe { s3 with heap:=s3.heap.push { cls:=.type "slice",data:=.fields #[vl,vu,.none] } }
 exact tail_any (ops:=[.ref s3.heap.objs.size,v]) ht hT hg (by with_unfolding_all rfl)
def P5(xs:List V)(lo hi:Option Int):List V:=(xs.drop (HT.sIx xs.length 0 lo)).take (HT.sIx xs.length xs.length hi-HT.sIx xs.length 0 lo)
theorem z7w(xs:List V)(lo hi:Option Int):(P5 xs lo hi).length≤xs.length:=by
 unfold P5
 rw[bN,fL]
 omega
def rSlT(K:PySem.W.Frag):V->Option Int->Option Int->Hp->VK->Prop:=fun x lo hi H Q=>∃a xs,x=.ref a/\SqT K H a xs/\
 ¬(HT.sIx xs.length 0 lo=0/\HT.sIx xs.length xs.length hi=xs.length)/\∀p,H p=none->Q (.ref p) (upd H p (.tup (P5 xs lo hi)))
theorem y5E:SlR X (rSlT X.K):=by
 intro pins s σ H x v vl vu lo hi sl Q I rx hs pl pu h
 obtain⟨a,xs,rfl,hx,hw,q⟩:=h
 cases rx
 obtain⟨its,r,ht,hz⟩:=I.tuple hx
 have hlen:its.toArray.size=xs.length:=by rw[bK];exact r.length.symm
 refine⟨"tuple",_,dD.lookup,ht.typeIs,?_⟩
 refine HT.z5z ht hs pl pu (by rw[hlen];exact hw) ?_ (by rw[hlen];exact hz)
 rw[hlen]
 refine⟨.ref s.heap.objs.size,_,I.laid (t':=s.toks) (o:=.tup (P5 xs lo hi)) (fun b ob q=>b8 _ q) (bB _) ?_,rfl,q _ (I.hok.fresh (bB _))⟩
 exact⟨cO (z7w xs lo hi) hz,_,(r.drop (HT.sIx xs.length 0 lo)).take (HT.sIx xs.length xs.length hi-HT.sIx xs.length 0 lo),PlT.new _ _⟩
def y6Q(K:PySem.W.Frag):R2:=fun x y H Q=>∃a b xs ys,x=.ref a/\y=.ref b/\SqT K H a xs/\SqT K H b ys/\xs≠[]/\xs.length+ys.length≤sizeLine/\
 (ys=[]->Q (.ref a) H)/\(ys≠[]->∀p,H p=none->Q (.ref p) (upd H p (.tup (xs++ys))))
theorem Vals.R5{xs:List V}{us:List Value}(r:Vals xs us):us=[]↔xs=[]:=by
 cases r with
 | nil=>simp
 | cons _ _=>simp
theorem y6g:OpR X (binaryOp .Add) (y6Q X.K):=by
 intro pins s σ H x y v u Q I rx ry h
 obtain⟨a,b,xs,ys,rfl,rfl,ha,hb,hx,hz,q1,q2⟩:=h
 cases rx
 cases ry
 obtain⟨its,r1,p1,_⟩:=I.tuple ha
 obtain⟨L6,r2,p2,_⟩:=I.tuple hb
 refine HT.y69 p1 p2 (fun z=>hx (r1.R5.mp z)) (fun z=>⟨.ref a,H,I,rfl,q1 (r2.R5.mp z)⟩) (fun z=>?_) (by rw[<- r1.length,<- r2.length];exact hz)
 refine⟨.ref s.heap.objs.size,_,I.laid (t':=s.toks) (o:=.tup (xs++ys)) (fun b ob q=>b8 _ q) (bB _) ?_,rfl,q2 (fun w=>z (r2.R5.mpr w)) _ (I.hok.fresh (bB _))⟩
 exact⟨by rw[bI];exact hz,_,r1.append r2,PlT.new _ _⟩
end
def ixN(n:Nat)(i:Int):Option Nat:=if 0≤i then (if i<n then some i.toNat else none) else if -(n:Int)≤i then some (i+n).toNat else none
def atI{α:Type}(xs:List α)(i:Int):Option α:=(ixN xs.length i).bind fun j=>xs[j]?
theorem y63{n:Nat}{i:Int}{j:Nat}(h:ixN n i=some j):seqIndex? i n=some j/\j<n/\-(n:Int)≤i/\i<n:=by
 unfold ixN at h
 by_cases h0:0≤i
 ·rw[if_pos h0] at h
  by_cases h1:i<n
  ·rw[if_pos h1] at h
   have e:i.toNat=j:=Option.some.inj h
   exact⟨by rw[seqIndex_of h0 h1,e],by omega,by omega,h1⟩
  ·rw[if_neg h1] at h;cases h
 ·rw[if_neg h0] at h
  by_cases h1:-(n:Int)≤i
  ·rw[if_pos h1] at h
   have e:(i+n).toNat=j:=Option.some.inj h
   exact⟨by rw[seqIndex_neg (by omega) h1,e],by omega,h1,by omega⟩
  ·rw[if_neg h1] at h;cases h
theorem y0D{α:Type}{xs:List α}{i:Int}{v:α}(h:atI xs i=some v):∃j,seqIndex? i xs.length=some j/\xs[j]? = some v/\j<xs.length/\-(xs.length:Int)≤i/\i<xs.length:=by
 unfold atI at h
 cases e:ixN xs.length i with
 | none=>rw[e] at h;cases h
 | some j=>
  rw[e] at h
  obtain⟨h1,h2,h3,h4⟩:=y63 e
  exact⟨j,h1,h,h2,h3,h4⟩
theorem z1m{α:Type}{xs:List α}{j:Nat}{v:α}(h:xs[j]? = some v):atI xs (j:Int)=some v:=by
 have hj:j<xs.length:=(cH.mp h).1
 have e:ixN xs.length (j:Int)=some j:=by
  unfold ixN
  rw[if_pos (by omega),if_pos (by omega)];simp
 unfold atI;rw[e];exact h
theorem z8T{α:Type}(xs:List α)(v:α):atI (xs++[v]) (-1)=some v:=by
 have hl:(xs++[v]).length=xs.length+1:=by simp
 have e:ixN (xs++[v]).length (-1)=some xs.length:=by
  unfold ixN
  rw[hl,if_neg (by decide),if_pos (by omega)]
  congr 1
  omega
 unfold atI
 rw[e]
 show(xs++[v])[xs.length]? = some v
 simp
def y5F(b:Expr):Prop:=∀o i,subscripted b false o i=operate [o,i] (getItem o i)
def IxR(X:Cx)(r:R2):Prop:=
 ∀(value slice:Expr) (pins:List (Addr×Obj)) (s:Shared) (σ:St) (H:Hp) (x y:V) (v u:Value) (Q:VK),Inv X pins σ H s->RelV x v->RelV y u->r x y H Q->
  subscripted slice false v u=operate [v,u] (getItem v u)->wpAny (model X.prog X.w) X.A (subscriptTail value slice v u) (EP X pins σ Q) X.xe s
def MtR(X:Cx)(id:String)(r:V->List V->Hp->VK->Prop):Prop:=
 ∀(pins:List (Addr×Obj)) (s:Shared) (σ:St) (H:Hp) (x:V) (xs:List V) (v:Value) (us:List Value) (Q:VK),Inv X pins σ H s->RelV x v->Vals xs us->r x xs H Q->
  wpAny (model X.prog X.w) X.A (call (.builtin id) (v::us)) (EP X pins σ Q) X.xe s
section
variable{X:Cx}{a b:Expr}{ta tb:TE}{pos:Pos}
theorem IxR.or{r r':R2}(h:IxR X r)(h':IxR X r'):IxR X (fun x y H Q=>r x y H Q\/r' x y H Q):=by
 intro value slice pins s σ H x y v u Q I rx ry q hs
 rcases q with q|q
 ·exact h value slice pins s σ H x y v u Q I rx ry q hs
 ·exact h' value slice pins s σ H x y v u Q I rx ry q hs
theorem z0Q{r:R2}(hr:IxR X r)(ha:PE X a ta)(hb:PE X b tb)(hs:y5F b):PE X (.Subscript a b pos) (tOp r ta tb):=by
 intro pins s σ H Q I h
 exact Subscript_ (Z1 ha hb I h fun v u s2 x y H2 I2 rx ry q=>hr a b pins s2 σ H2 x y v u Q I2 rx ry q (hs _ _))
def w00(K:PySem.W.Frag):R2:=fun x y H Q=>∃p xs i v,x=.ref p/\y=.int i/\SqL K H p xs/\atI xs i=some v/\Q v H
def M0(K:PySem.W.Frag):R2:=fun x y H Q=>∃p xs i v,x=.ref p/\y=.int i/\SqT K H p xs/\atI xs i=some v/\Q v H
def rIxS:R2:=fun x y H Q=>∃z i c,x=.str z/\y=.int i/\z.length≤sizeLine/\atI z.cps.toList i=some c/\Q (.str ⟨#[c]⟩) H
theorem z1I:IxR X (w00 X.K):=by
 intro value slice pins s σ H x y v u Q I rx ry h hs
 obtain⟨p,xs,i,z,rfl,rfl,hq,he,q⟩:=h
 cases rx
 obtain⟨t,rfl⟩:=ry
 obtain⟨its,r,pl,hz⟩:=I.list hq
 obtain⟨j,h1,h2,h3,h4,h5⟩:=y0D he
 obtain⟨w,ew,rw'⟩:=r.get h2
 have hl:=r.length
 have hn:=z7o
 have fin:EP X pins σ Q w s:=⟨z,H,I,rw',q⟩
 by_cases h0:0≤i
 ·have hj:i.toNat=j:=by
   rw[seqIndex_of h0 h5] at h1
   exact Option.some.inj h1
  exact item_listR pl.isList h0 (by omega) (by rw[hj];simpa using ew) fin hs
 ·have hj:(i+(its.toArray.size:Int)).toNat=j:=by
   rw[seqIndex_neg (by omega) h4] at h1
   rw[bK,<- hl]
   exact Option.some.inj h1
  exact subscriptTail_builtinR (x:=w) pl.isList.typeIs slot_list_getitem.lookup
   (wpAny_getItem_list_neg (Q:=fun r s'=>r=w/\EP X pins σ Q r s') pl.isList (by omega) (by rw[bK]<;>omega) (by omega) (by rw[hj];simpa using ew) ⟨rfl,fin⟩) hs
theorem z0H:IxR X (M0 X.K):=by
 intro value slice pins s σ H x y v u Q I rx ry h hs
 obtain⟨p,xs,i,z,rfl,rfl,hq,he,q⟩:=h
 cases rx
 obtain⟨t,rfl⟩:=ry
 obtain⟨its,r,pl,hz⟩:=I.tuple hq
 obtain⟨j,h1,h2,h3,h4,h5⟩:=y0D he
 obtain⟨w,ew,rw'⟩:=r.get h2
 have hl:=r.length
 have hn:=z7o
 have fin:EP X pins σ Q w s:=⟨z,H,I,rw',q⟩
 exact subscriptTail_builtinR (x:=w) pl.typeIs slot_tuple_getitem.lookup
  (getItem_tuple (j:=j) (Q:=fun r s'=>r=w/\EP X pins σ Q r s') pl (by omega) (by omega) (by rw[bK,<- hl];exact h1) (by simpa using ew) ⟨rfl,fin⟩) hs
theorem y42:IxR X rIxS:=by
 intro value slice pins s σ H x y v u Q I rx ry h hs
 obtain⟨z,i,c,rfl,rfl,hz,he,q⟩:=h
 obtain⟨t,rfl⟩:=rx
 obtain⟨t',rfl⟩:=ry
 obtain⟨j,h1,h2,h3,h4,h5⟩:=y0D he
 have hl:z.cps.toList.length=z.length:=by simp[Str.length]
 rw[hl] at h1 h4 h5
 have hn:=z7o
 exact tail_any (typeIs_str s z t) slot_str_getitem.lookup (getItem_str (c:=c) (by
  have e1:decide (i < -(2^63:Int))=false:=decide_eq_false (by omega)
  have e2:decide (i≥2^63)=false:=decide_eq_false (by omega)
  rw[e1,e2,Bool.or_false]) (by rw[h1];simpa using h2) ⟨.str ⟨#[c]⟩,H,I.tok _,⟨_,rfl⟩,q⟩) hs
def rIx(K:PySem.W.Frag):R2:=fun x y H Q=>w00 K x y H Q\/M0 K x y H Q\/rIxS x y H Q
theorem y76:IxR X (rIx X.K):=z1I.or (z0H.or y42)
theorem z68(lo hi:Option Int)(n:Nat):(sliceBounds lo hi none n).1=((HT.sIx n 0 lo:Nat):Int)/\(sliceBounds lo hi none n).2.1=((HT.sIx n n hi:Nat):Int)/\(sliceBounds lo hi none n).2.2=1:=by
 refine⟨?_,?_,rfl⟩
 ·cases lo with
  | none=>simp[sliceBounds,HT.sIx]
  | some i=>
   simp only[sliceBounds,HT.sIx,Option.getD_none,show(1:Int) > 0 by decide,if_true]
   by_cases h:i<0
   ·simp only[h,if_true]<;>omega
   ·simp only[h,if_false]<;>omega
 ·cases hi with
  | none=>simp[sliceBounds,HT.sIx]
  | some i=>
   simp only[sliceBounds,HT.sIx,Option.getD_none,show(1:Int) > 0 by decide,if_true]
   by_cases h:i<0
   ·simp only[h,if_true]<;>omega
   ·simp only[h,if_false]<;>omega
theorem z96(its:List Value)(lo hi:Option Int):slicePick its.toArray lo hi none=((its.drop (HT.sIx its.length 0 lo)).take (HT.sIx its.length its.length hi-HT.sIx its.length 0 lo)).toArray:=by
 obtain⟨h1,h2,h3⟩:=z68 lo hi its.toArray.size
 unfold slicePick
 rw[h1,h2,h3]
 simp only[sliceRange_one,pick_run,bK]<;>rfl
def rSlL(K:PySem.W.Frag):V->Option Int->Option Int->Hp->VK->Prop:=fun x lo hi H Q=>∃a xs,x=.ref a/\SqL K H a xs/\∀p,H p=none->Q (.ref p) (upd H p (.lst (P5 xs lo hi)))
theorem y5W:SlR X (rSlL X.K):=by
 intro pins s σ H x v vl vu lo hi sl Q I rx hs pl pu h
 obtain⟨a,xs,rfl,hx,q⟩:=h
 cases rx
 obtain⟨its,r,ht,hz⟩:=I.list hx
 have hlen:=r.length
 refine⟨"list",_,slot_list_getitem.lookup,ht.isList.typeIs,?_⟩
 refine wpAny_getItem_list_slice ht.isList hs pl pu .none (by simp) ?_ (by rw[bK]<;>omega)
 rw[z96,<- hlen]
 refine⟨.ref s.heap.objs.size,_,I.laid (t':=s.toks) (o:=.lst (P5 xs lo hi)) (fun b ob q=>b8 _ q) (bB _) ?_,rfl,q _ (I.hok.fresh (bB _))⟩
 exact⟨cO (z7w xs lo hi) hz,_,0,(r.drop (HT.sIx xs.length 0 lo)).take (HT.sIx xs.length xs.length hi-HT.sIx xs.length 0 lo),bC _ rfl⟩
def z1V:V->Bool
 | .non=>true
 | .bl _=>true
 | .int _=>true
 | .str _=>true
 | _=>false
def eqV:V->V->Bool
 | .non,.non=>true
 | .bl a,.bl b=>a == b
 | .bl a,.int b=>(if a then 1 else 0) == b
 | .int a,.bl b=>a == (if b then 1 else 0)
 | .int a,.int b=>a == b
 | .str a,.str b=>a == b
 | _,_=>false
theorem y5j{A:Around}{s:Shared}{y x:V}{u v:Value}(ry:RelV y u)(rx:RelV x v)(fy:z1V y=true)(fx:z1V x=true):SeqAt.EqAt A s u v (eqV y x):=by
 cases y with
 | non=>
  cases ry
  cases x with
  | non=>cases rx;exact SeqAt.EqAt.same _
  | bl b=>cases rx;exact SeqAt.EqAt.none_bool b
  | int b=>obtain⟨t,rfl⟩:=rx;exact SeqAt.EqAt.none_int b t
  | str b=>obtain⟨t,rfl⟩:=rx;exact SeqAt.EqAt.none_str b t
  | _=>exact absurd (show false=true from fx) bF
 | bl a=>
  cases ry
  cases x with
  | non=>cases rx;exact SeqAt.EqAt.bool_none a
  | bl b=>cases rx;exact SeqAt.EqAt.bool_bool a b
  | int b=>obtain⟨t,rfl⟩:=rx;exact SeqAt.EqAt.bool_int a b t
  | str b=>obtain⟨t,rfl⟩:=rx;exact SeqAt.EqAt.bool_str a b t
  | _=>exact absurd (show false=true from fx) bF
 | int a=>
  obtain⟨t',rfl⟩:=ry
  cases x with
  | non=>cases rx;exact SeqAt.EqAt.int_none a t'
  | bl b=>cases rx;exact SeqAt.EqAt.int_bool a t' b
  | int b=>obtain⟨t,rfl⟩:=rx;exact SeqAt.EqAt.int_int a t' b t
  | str b=>obtain⟨t,rfl⟩:=rx;exact SeqAt.EqAt.int_str a t' b t
  | _=>exact absurd (show false=true from fx) bF
 | str a=>
  obtain⟨t',rfl⟩:=ry
  cases x with
  | non=>cases rx;exact SeqAt.EqAt.str_none a t'
  | bl b=>cases rx;exact SeqAt.EqAt.str_bool a t' b
  | int b=>obtain⟨t,rfl⟩:=rx;exact SeqAt.EqAt.str_int a t' b t
  | str b=>obtain⟨t,rfl⟩:=rx;exact SeqAt.EqAt.str_str a t' b t
  | _=>exact absurd (show false=true from fx) bF
 | _=>exact absurd (show false=true from fy) bF
def eqU(x:V)(u:Value):Bool:=match u with
 | .none=>eqV .non x
 | .bool b=>eqV (.bl b) x
 | .int i _=>eqV (.int i) x
 | .str z _=>eqV (.str z) x
 | _=>false
theorem y46{x y:V}{u:Value}(r:RelV y u)(f:z1V y=true):eqU x u=eqV y x:=by
 cases y with
 | non=>cases r;rfl
 | bl b=>cases r;rfl
 | int i=>obtain⟨t,rfl⟩:=r;rfl
 | str z=>obtain⟨t,rfl⟩:=r;rfl
 | _=>exact absurd (show false=true from f) bF
theorem z7d{x:V}:∀{xs:List V}{us:List Value},Vals xs us->xs.all z1V=true->us.any (eqU x)=xs.any fun y=>eqV y x
 | _,_,.nil,_=>rfl
 | y::xs,u::us,.cons r t,f=>by
  rw[fV,bQ] at f
  rw[fW,fW,y46 r f.1,z7d t f.2]
theorem z4W{A:Around}{s:Shared}{x:V}{v:Value}(rx:RelV x v)(fx:z1V x=true):∀{xs:List V}{us:List Value},Vals xs us->xs.all z1V=true->∀u∈us,SeqAt.EqAt A s u v (eqU x u)
 | _,_,.nil,_=>fun u hu=>by cases hu
 | y::xs,u::us,.cons r t,f=>fun u' hu=>by
  rw[fV,bQ] at f
  rcases bA.mp hu with rfl|hu
  ·rw[y46 r f.1];exact y5j r rx f.1 fx
  ·exact z4W rx fx t f.2 u' hu
def inV(x:V)(xs:List V):Bool:=xs.any fun y=>eqV y x
def rIn(K:PySem.W.Frag)(neg:Bool):R2:=fun x y H Q=>∃p xs,y=.ref p/\(SqL K H p xs\/SqT K H p xs)/\z1V x=true/\xs.all z1V=true/\Q (.bl (if neg then !inV x xs else inV x xs)) H
theorem z3d:OpR X (compareOp .In) (rIn X.K false):=by
 intro pins s σ H x y v u Q I rx ry h
 obtain⟨p,xs,rfl,hq,fx,fs,q⟩:=h
 cases ry
 rcases hq with hq|hq
 ·obtain⟨its,r,pl,hz⟩:=I.list hq
  refine SeqAt.in_listAt (eqU x) pl.isList (fun w hw=>z4W rx fx r fs w (by simpa using hw)) ⟨.bl _,H,I,rfl,?_⟩
  rw[show its.toArray.any (eqU x)=its.any (eqU x) by simp,z7d r fs]
  exact q
 ·obtain⟨its,r,pl,hz⟩:=I.tuple hq
  refine SeqAt.in_tupleAt (eqU x) pl (fun w hw=>z4W rx fx r fs w (by simpa using hw)) ⟨.bl _,H,I,rfl,?_⟩
  rw[show its.toArray.any (eqU x)=its.any (eqU x) by simp,z7d r fs]
  exact q
theorem z2e:OpR X (compareOp .NotIn) (rIn X.K true):=by
 intro pins s σ H x y v u Q I rx ry h
 obtain⟨p,xs,rfl,hq,fx,fs,q⟩:=h
 cases ry
 rcases hq with hq|hq
 ·obtain⟨its,r,pl,hz⟩:=I.list hq
  refine SeqAt.notIn_listAt (eqU x) pl.isList (fun w hw=>z4W rx fx r fs w (by simpa using hw)) ⟨.bl _,H,I,rfl,?_⟩
  rw[show its.toArray.any (eqU x)=its.any (eqU x) by simp,z7d r fs]
  exact q
 ·obtain⟨its,r,pl,hz⟩:=I.tuple hq
  refine SeqAt.notIn_tupleAt (eqU x) pl (fun w hw=>z4W rx fx r fs w (by simpa using hw)) ⟨.bl _,H,I,rfl,?_⟩
  rw[show its.toArray.any (eqU x)=its.any (eqU x) by simp,z7d r fs]
  exact q
theorem z0f:z3b X (.builtin "len") (fun xs H Q=>∃p ys,xs=[.ref p]/\(SqL X.K H p ys\/SqT X.K H p ys)/\Q (.int ys.length) H):=by
 intro pins s σ H xs us Q I r h
 obtain⟨p,ys,rfl,hq,q⟩:=h
 obtain⟨u,rfl,rx⟩:=z3H r
 cases rx
 have hn:=z7o
 rcases hq with hq|hq
 ·obtain⟨its,r',pl,hz⟩:=I.list hq
  have hlen:=r'.length
  exact Calls.call_len_list pl.isList (by simp only[bK]<;>omega) ⟨.int ys.length,H,I.tok _,⟨s.toks+1,by rw[bK,hlen]⟩,q⟩
 ·obtain⟨its,r',pl,hz⟩:=I.tuple hq
  have hlen:=r'.length
  exact len_tuple pl (by simp only[bK]<;>omega) ⟨.int ys.length,H,I.tok _,⟨s.toks+1,by rw[bK,hlen]⟩,q⟩
theorem z9j:z3b X (.builtin "len") (fun xs H Q=>∃z,xs=[.str z]/\z.length≤sizeLine/\Q (.int z.length) H):=by
 intro pins s σ H xs us Q I r h
 obtain⟨z,rfl,hz,q⟩:=h
 obtain⟨u,rfl,t,rfl⟩:=z3H r
 have hn:=z7o
 exact len_str (by omega) ⟨.int z.length,H,I.tok _,⟨_,rfl⟩,q⟩
theorem z2M:z3b X (.type "list") (fun xs H Q=>∃p ys,xs=[.ref p]/\(SqL X.K H p ys\/SqT X.K H p ys)/\∀l,H l=none->Q (.ref l) (upd H l (.lst ys))):=by
 intro pins s σ H xs us Q I r h
 obtain⟨p,ys,rfl,hq,q⟩:=h
 obtain⟨u,rfl,rx⟩:=z3H r
 cases rx
 have fin:∀(its:List Value),Vals ys its->ys.length≤sizeLine->∀(h':Heap) (c':Nat),(∀b o',s.heap.get? b=some o'->h'.get? b=some o')->
   h'.get? s.heap.objs.size=some { cls:=.type "list",dict:=none,data:=.seq its.toArray c',slots:=#[] }->EP X pins σ Q (.ref s.heap.objs.size) { s with heap:=h' }:=fun its r' hz h' c' kp e=>
  ⟨.ref s.heap.objs.size,_,I.laid (t':=s.toks) kp (bB _) (show z1g X.prog X.w _ h' _ (.lst ys) from⟨hz,its,c',r',e⟩),rfl,q _ (I.hok.fresh (bB _))⟩
 rcases hq with hq|hq
 ·obtain⟨its,r',pl,hz⟩:=I.list hq
  have hlen:=r'.length
  obtain⟨o,ho,hc,n,hd⟩:=pl.isList
  exact call_list_seq p (.inl rfl) ho hc hd (fun h' c' kp e=>fin its r' hz h' c' kp e) (by simp only[bK]<;>omega)
 ·obtain⟨its,r',pl,hz⟩:=I.tuple hq
  have hlen:=r'.length
  obtain⟨o,ho,hc,n,hd⟩:=pl
  exact call_list_seq p (.inr rfl) ho hc hd (fun h' c' kp e=>fin its r' hz h' c' kp e) (by simp only[bK]<;>omega)
theorem z0s:z3b X (.type "tuple") (fun xs H Q=>∃p ys,xs=[.ref p]/\((SqL X.K H p ys/\∀l,H l=none->Q (.ref l) (upd H l (.tup ys)))\/(SqT X.K H p ys/\Q (.ref p) H))):=by
 intro pins s σ H xs us Q I r h
 obtain⟨p,ys,rfl,h⟩:=h
 obtain⟨u,rfl,rx⟩:=z3H r
 cases rx
 rcases h with ⟨hq,q⟩|⟨hq,q⟩
 ·obtain⟨its,r',pl,hz⟩:=I.list hq
  have hlen:=r'.length
  refine call_tuple_list pl.isList (fun h' kp=>?_) (by simp only[bK]<;>omega)
  have I1:Inv X pins σ H { s with heap:=h' }:=I.kept (t':=s.toks) kp
  have I2:Inv X pins σ (upd H h'.objs.size (.tup ys)) { s with heap:=h'.push { cls:=.type "tuple",data:=.seq its.toArray } }:=
   I1.laid (t':=s.toks) (fun b o e=>b8 _ e) (bB _) (show z1g X.prog X.w _ _ _ (.tup ys) from⟨hz,its,r',PlT.new _ _⟩)
  exact⟨.ref h'.objs.size,_,I2,rfl,q _ (I1.hok.fresh (bB _))⟩
 ·obtain⟨its,r',pl,hz⟩:=I.tuple hq
  exact call_tuple_same pl ⟨.ref p,H,I,rfl,q⟩
def tyV(K:PySem.W.Frag)(T:String)(x:V)(H:Hp):Prop:=match x with
 | .str _=>T="str"
 | .int _=>T="int"
 | .ref p=>(T="list"/\∃xs,SqL K H p xs)\/(T="tuple"/\∃o,K.lookup p=some o/\o.cls=.type "tuple"/\o.dict=none)\/
   (T="dict"/\((∃kvs,H p=some (.dK kvs))\/∃kvs,H p=some (.dT kvs)))\/(T="set"/\∃S n,H p=some (.set S n))
 | _=>False
theorem y71{pins:List (Addr×Obj)}{σ:St}{H:Hp}{s:Shared}{T:String}{x:V}{v:Value}(I:Inv X pins σ H s)(r:RelV x v)(ty:tyV X.K T x H) :
  s.TypeIs v T/\∀a,v=.ref a->∃ob,s.heap.get? a=some ob/\ob.dict=none:=by
 cases x with
 | str z=>
  obtain⟨t,rfl⟩:=r
  cases (show T="str" from ty)
  exact⟨typeIs_str s z t,fun _ e=>nomatch e⟩
 | int i=>
  obtain⟨t,rfl⟩:=r
  cases (show T="int" from ty)
  exact⟨typeIs_int s i t,fun _ e=>nomatch e⟩
 | ref p=>
  cases r
  rcases ty with ⟨rfl,xs,hq⟩|⟨rfl,o,hk,hc,hd⟩|⟨rfl,hk⟩|⟨rfl,S,n,hk⟩
  ·obtain⟨its,_,pl,_⟩:=I.list hq
   refine⟨pl.isList.typeIs,fun a e=>?_⟩
   cases e
   obtain⟨o,n,e,c,hd,_⟩:=pl
   exact⟨o,e,hd⟩
  ·refine⟨⟨o,I.kIn p o hk,hc⟩,fun a e=>?_⟩
   cases e
   exact⟨o,I.kIn _ o hk,hd⟩
  ·have z:∃o,s.heap.get? p=some o/\o.ExactDict:=by
    rcases hk with ⟨kvs,hk⟩|⟨kvs,hk⟩
    ·obtain⟨_,_,_,_,o,_,_,e,ex,_⟩:=I.hok p _ hk
     exact⟨o,e,ex⟩
    ·obtain⟨_,_,_,_,o,_,_,e,ex,_⟩:=I.hok p _ hk
     exact⟨o,e,ex⟩
   obtain⟨o,e,ex⟩:=z
   refine⟨⟨o,e,ex.1⟩,fun a e2=>?_⟩
   cases e2
   exact⟨o,e,ex.2.1⟩
  ·obtain⟨o,_,_,_,e,ex,_⟩:=I.hok p _ hk
   refine⟨⟨o,e,ex.1⟩,fun a e2=>?_⟩
   cases e2
   exact⟨o,e,ex.2.1⟩
 | _=>exact False.elim ty
def tBM(K:PySem.W.Frag)(T:String)(r:V->List V->Hp->VK->Prop)(to:TE)(t:TA):TE:=fun σ H Q=>to σ H fun x H1=>tyV K T x H1/\t σ H1 fun xs H2=>r x xs H2 Q
variable{o e:Expr}{es:List Expr}{to:TE}{t:TA}{name:Str}{apos S5:Pos}{T id:String}{r:V->List V->Hp->VK->Prop}
theorem z3I(pa:PlainAttrs T)(slot:Slot T name id)(hty:typeOf (.builtin id)=pure (.type "method_descriptor"))(hm:MtR X id r)(ho:PE X o to)(ha:PA X (e::es) t)
  (w0B:attributeBase o name X.env (eval o X.env)=eval o X.env:=by rfl)
  (hfew:((backTo S5 (starEach (e::es) X.env)).all (fun x=>!x.1) && (backToKw S5 (keywordEach [] X.env)).all (fun x=>x.1.isSome)
   && decide ((e::es).length+([]:List Keyword).length+(if ([]:List Keyword).isEmpty then 0 else 1)<30))=true:=by rfl)
  (w13:(apos.endLine == S5.line)=true:=by rfl) (hs:starEach (e::es) X.env=(false,eval e X.env)::starEach es X.env:=by rfl) (P0:(backTo S5 (starEach es X.env)).any (·.1)=false:=by rfl) :
  PE X (.Call (.Attribute o name apos) (e::es) [] S5) (tBM X.K T r to t):=by
 intro pins s σ H Q I h
 refine wpAny_Call_method_late w0B hfew w13 rfl (thn (ho pins s σ H _ I h) fun v s1 hz=>?_)
 obtain⟨x,H1,I1,r1,ty,q1⟩:=hz
 obtain⟨h1,h2⟩:=y71 I1 r1 ty
 refine⟨T,id,pa,slot,hty,h1,h2,?_⟩
 have hA:=ha S5 pins s1 σ H1 _ I1 q1
 rw[hs] at hA ⊢
 refine Calls.callWith_builtin (by show(false || (backTo S5 (starEach es X.env)).any (·.1))=false;rw[P0]<;>rfl) (Calls.evalArgs_plain ?_)
 exact thn hA fun us s2 ⟨vs,H2,I2,r2,q2⟩=>hm pins s2 σ H2 x vs v us Q I2 r1 r2 q2
end
def MtM(X:Cx)(id:String)(r:V->List V->Hp->VK->Prop):Prop:=
 ∀(pins:List (Addr×Obj)) (s:Shared) (σ:St) (H:Hp) (x:V) (xs:List V) (v:Value) (us:List Value) (Q:VK),Inv X pins σ H s->RelV x v->Vals xs us->r x xs H Q->
  wpAny (model X.prog X.w) X.A (call (.builtin id) (v::us)) (EP X pins σ Q) X.xe s
theorem Vals.one:∀{x:V}{us:List Value},Vals [x] us->∃u,us=[u]/\RelV x u
 | _,_,.cons r .nil=>⟨_,rfl,r⟩
section
variable{X:Cx}{pins:List (Addr×Obj)}{σ:St}{H:Hp}{s:Shared}{l b:Addr}{xs ys zs:List V}
theorem Inv.lset{its its':List Value}{n:Nat}{f:Array Value->Array Value}{t':Nat}(I:Inv X pins σ H s)(hH:H l=some (.lst xs))
  (e:s.heap.get? l=some { cls:=.type "list",data:=.seq its.toArray n }) (hf:f its.toArray=its'.toArray) (hv:Vals ys its') (hz:ys.length≤sizeLine) :
  Inv X pins σ (upd H l (.lst ys)) { s with heap:=s.heap.update l (Obj.mapSeq f),toks:=t' }:=by
 have q:=PySem.IsL.update e f
 rw[hf] at q
 refine I.write (x:=l) (e:=l) (by rw[hH];exact trivial) (.inl rfl) (fun b' u hb hu=>(cN s.heap (Obj.mapSeq f) (d9 hb)).trans hu) ⟨_,q⟩ ?_
 exact⟨hz,its',_,hv,q⟩
theorem Inv.lnew{its:List Value}{t':Nat}(I:Inv X pins σ H s)(hv:Vals ys its)(hz:ys.length≤sizeLine) :
  Inv X pins σ (upd H s.heap.objs.size (.lst ys)) { s with heap:=s.heap.push { cls:=.type "list",data:=.seq its.toArray },toks:=t' }:=
 I.laid (fun _ _ q=>b8 _ q) (bB _) ⟨hz,its,0,hv,bC _ rfl⟩
theorem Inv.fresh(I:Inv X pins σ H s):H s.heap.objs.size=none:=I.hok.fresh (bB _)
theorem Inv.V1(I:Inv X pins σ H s)(hH:H l=some (.lst xs)):xs.length≤sizeLine/\∃(its:List Value) (n:Nat),Vals xs its/\xs.length=its.length/\s.heap.get? l=some { cls:=.type "list",data:=.seq its.toArray n }:=by
 obtain⟨z,its,n,r,e⟩:=I.hok l _ hH
 exact⟨z,its,n,r,r.length,e⟩
theorem y49{n:Nat}(h:n≤sizeLine):Builtin.List.listTooLong n=false:=by
 unfold Builtin.List.listTooLong
 exact decide_eq_false (by omega)
end
section
variable{X:Cx}
def y60:V->List V->Hp->VK->Prop:=fun x vs H Q=>∃l xs y,x=.ref l/\vs=[y]/\H l=some (.lst xs)/\xs.length<sizeLine/\Q .non (upd H l (.lst (xs++[y])))
theorem z0O:MtM X "list.append" y60:=by
 intro pins s σ H x vs v us Q I rx rv h
 obtain⟨l,xs,y,rfl,rfl,hH,hz,q⟩:=h
 cases rx
 obtain⟨u,rfl,ru⟩:=rv.one
 obtain⟨z,its,n,r,hl,e⟩:=I.V1 hH
 refine call_meets F.slot_list_append ⟨_,e,rfl⟩ F.entry_list_append (F.args_list_append_2 _ _) (PySem.list_append l its.toArray n u (by rw[bK];omega)) ⟨e,?_⟩
 refine⟨.non,_,I.lset (its':=its++[u]) hH e (by simp) (r.append (.cons ru .nil)) ?_,rfl,q⟩
 rw[bI,dA]
 omega
def y6z:V->List V->Hp->VK->Prop:=fun x vs H Q=>∃l b xs zs,x=.ref l/\vs=[.ref b]/\H l=some (.lst xs)/\H b=some (.lst zs)/\xs.length+zs.length≤sizeLine/\Q .non (upd H l (.lst (xs++zs)))
theorem y6J:MtM X "list.extend" y6z:=by
 intro pins s σ H x vs v us Q I rx rv h
 obtain⟨l,b,xs,zs,rfl,rfl,hH,hB,hz,q⟩:=h
 cases rx
 obtain⟨u,rfl,ru⟩:=rv.one
 cases ru
 obtain⟨z,its,n,r,hl,e⟩:=I.V1 hH
 obtain⟨z2,L6,n2,r2,hl2,e2⟩:=I.V1 hB
 have hsz:its.toArray.size+L6.toArray.size≤sizeLine:=by rw[bK,bK];omega
 have w0H:¬(!its.toArray.isEmpty && Builtin.List.listTooLong (its.toArray.size+L6.toArray.size))=true:=by
  rw[y49 hsz,Bool.and_false]
  exact bF
 refine call_meets F.slot_list_extend ⟨_,e,rfl⟩ F.entry_list_extend (F.args_list_extend_2 _ _)
  (AutoSeq1.list_extend_list_list_0 l its.toArray n b L6.toArray n2 w0H (by rw[bK];omega) (by omega)) ⟨e,e2,?_⟩
 refine⟨.non,_,I.lset (its':=its++L6) hH e (by simp) (r.append r2) ?_,rfl,q⟩
 rw[bI]
 omega
def rCat:R2:=fun x y H Q=>∃l b xs zs,x=.ref l/\y=.ref b/\H l=some (.lst xs)/\H b=some (.lst zs)/\xs.length+zs.length≤sizeLine/\∀p,H p=none->Q (.ref p) (upd H p (.lst (xs++zs)))
theorem y2S:OpR X (binaryOp .Add) rCat:=by
 intro pins s σ H x y v u Q I rx ry h
 obtain⟨l,b,xs,zs,rfl,rfl,hH,hB,hz,q⟩:=h
 cases rx
 cases ry
 obtain⟨z,its,n,r,hl,e⟩:=I.V1 hH
 obtain⟨z2,L6,n2,r2,hl2,e2⟩:=I.V1 hB
 refine PySem.P.add_list e e2 ?_ (by rw[bK,bK];omega)
 have ea:its.toArray++L6.toArray=(its++L6).toArray:=by simp
 rw[ea]
 exact⟨.ref _,_,I.lnew (t':=s.toks) (r.append r2) (by rw[bI];omega),rfl,q _ I.fresh⟩
end
section
variable{prog:Program}{w:World}{A:Around}{E:Value->Shared->Prop}{s:Shared}
end
section
variable{X:Cx}
end
end L2
namespace Att
open PySem PySem.W PySem.Calls PyProof.Rows
theorem z7I{P:Params}{h:Heap}:∀(ns:List Int) (vs:List Value),WellAll P h vs (ns.map WData.int)->IntsAre vs ns:=by
 intro ns
 induction ns with
 | nil=>
  intro vs w
  rw[List.map_nil] at w
  cases w
  exact .nil
 | cons n ns ih=>
  intro vs w
  rw[cK] at w
  cases w with
  | cons a b=>
   cases a
   exact .cons _ _ (ih _ b)
theorem y2h{l:OpenLaw}{n:Nat}(hn:l.most=some n){P:Params}{h:Heap}{args:List WData}{vals:List Value}
  (W9:l.row.toRowW.claim.pre args=true) (hwl:WellAll P h vals args) :
  ∃a vs ns,vals=[Value.ref a]/\args=[WData.list (ns.map WData.int)]/\h.get? a=some { cls:=.type "list",data:=.seq vs.toArray }/\IntsAre vs ns/\ns.length≤n:=by
 have hsh:WShape.hasAll [] args [.list .int]=true:=(pre_splitW W9).1
 have hc:l.pre.holds [] { args:=args }=true:=(pre_splitW W9).2
 obtain⟨d,r,rfl,h1,h2⟩:=hasAllW_cons hsh
 obtain rfl:=hasAllW_nil h2
 obtain⟨xs,rfl,h3⟩:=hasW_list h1
 obtain⟨ns,rfl⟩:=items_int h3
 have hlen:ns.length≤n:=by
  unfold OpenLaw.pre at hc
  have h4:(WTm.not (.lt (.lit (.int (n:Int))) (.len (.arg 0)))).holds [] { args:=[.list (ns.map .int)] }=true:=by
   have h4:=(holds_andW hc).1
   rw[hn] at h4
   exact h4
  have h5:=condW_of h4 (w_not (w_lt w_lit (w_len_list (w_arg rfl))))
  rw[b7] at h5
  refine jJ fun q=>?_
  have q':(n:Int)<((ns.length:Nat):Int):=by omega
  first
   | (rw[decide_eq_true q'] at h5;exact absurd h5 (by decide))
   | (simp at h5;omega)
 cases hwl with
 | cons w1 w2=>
  cases w2
  cases w1 with
  | list ho B4=>exact⟨_,_,ns,rfl,rfl,ho,z7I ns _ B4,hlen⟩
theorem y2b(l:OpenLaw)(args:List WData):l.row.toRowW.claim.post args (.bool true) args=true:=
 postW_of (r:=l.row.toRowW) (X:=(true == true))
  (show WShape.has [] (.bool true) .bool=true by first|rfl|decide|simp[WShape.has,WShape.arms,WShape.armsAll])
  (show(WTm.eq .res (.lit (.bool true))).value [] { args:=args,res:=some (.bool true),after:=args }=some (.bool (true == true)) from w_eq_bool (w_res rfl) w_lit) rfl
theorem y0o{l:OpenLaw}{n:Nat}{q:Program}{loose:List Str}{XP:(Str->Option Value)->Heap->Prop}{YP:World->Heap->Prop}{d:DefRec}
  (hn:l.most=some n) (hdf:d.params.defaults=[])
  (call:∀(w:World) (s₀ s₁:Shared) (mg mb:Str->Option Value) (fa:Addr) (o:Obj) (pm cd doc:Value) (a:Addr) (vs:List Value) (ns:List Int),
   Ground q loose [] XP w s₀ mg mb s₁.heap->YP w s₁.heap->
   s₁.heap.get? fa=some o->o.data=.func (docDef d.name d.params d.body d.scope pm cd doc)->s₁.heap.CodeRec cd d.name->mg d.name=some (.ref fa)->
   s₁.heap.get? a=some { cls:=.type "list",data:=.seq vs.toArray }->IntsAre vs ns->ns.length≤n->s₁.gens=#[]->
   codeAny (model l.prog w) callerA (.call (.ref fa) ⟨[.ref a],[]⟩) (fun r s'=>r=.ok (.ret (.bool true))/\OldK s₁.heap s'.heap/\s'.os=s₁.os/\AllBare s'.gens) s₁) :
  WalkO q loose XP YP l.row.toRowW d [] (fun f vs=>PySem.call f vs):=by
 intro w s₀ s₁ mg mb G Y fa o pm cd doc dV kV ho hd hcd hD hmg hg args vals as W9 hlay hrd hwl hlo
 obtain rfl:dV=.none:=Dflts.none hD hdf
 obtain rfl:kV=.none:=Dflts.noKw hD
 obtain⟨a,vs,ns,rfl,rfl,hobj,hints,hlen⟩:=y2h hn W9 hwl
 refine enter_call (codeAny_mono (call w s₀ s₁ mg mb fa o pm cd doc a vs ns G Y ho (fd_plain hd) hcd hmg hobj hints hlen hg) fun r s' hq=>?_)
 obtain⟨rfl,h2,h3,h4⟩:=hq
 exact⟨.inl ⟨.bool true,.bool true,[],rfl,fun _=>rfl,.bool true,y2b l _,fun _=>⟨List.Pairwise.nil,fun _ hm=>(nomatch hm)⟩⟩,h2,h3,h4⟩
section
variable{prog:Program}{w:World}{A:Around}{E:Value->Shared->Prop}{s:Shared}{K:Frag}
end
end Att
namespace L2
open PySem PySem.Spec PyProof.Rows
theorem z40:∀{vs:List Value}{ns:List Int},IntsAre vs ns->Vals (ns.map V.int) vs
 | _,_,.nil=>.nil
 | _,_,.cons n t h=>.cons ⟨t,rfl⟩ (z40 h)
def Z8(H:Hp):Prop:=∀b,H b=none\/∃o xs,H b=some (.frz o (.lst xs))
theorem y4M{P:Program}{w:World}{K:PySem.W.Frag}{mg mb:Str->Option Value}{CX:CXT}{k:Nat}{fa a:Addr}{fd:FuncData}{x:Str}{sp:Sp}{s₁:Shared}{vs:List Value}{ns:List Int}
  (KX:K.In s₁.heap) (hns:s₁.heap.Ns mainGlobals mg) (hb:s₁.heap.Ns builtinsNs mb) (hbb:∀x:Str,x≠"__name__"->mb x=bootBuiltins x) (hlim:s₁.heap.NoLimit) (hg:s₁.gens=#[])
  (ha:s₁.heap.get? a=some { cls:=.type "list",data:=.seq vs.toArray }) (hi:IntsAre vs ns) (hl:ns.length≤sizeLine) (hr:C5 k callerA)
  (F:∀base:Heap,K.In base->base.Ns mainGlobals mg->A7 P w K mg base CX k fa fd [x] sp) (w15:∀(s:Shared) (u:Value),BindsTo s fd ⟨[u],[]⟩ [(x,u)])
  (hsp:∀H:Hp,Z8 H->SqL K H a (ns.map V.int)->sp [.ref a] H (fun v _=>v=.bl true) fun _ _ _=>False)
  (hCX:∀H e s',CX [] H s₁ (fun _ _ _=>False) e s'->False) :
  codeAny (model P w) callerA (.call (.ref fa) ⟨[.ref a],[]⟩) (fun r s'=>r=.ok (.ret (.bool true))/\OldK s₁.heap s'.heap/\s'.os=s₁.os/\AllBare s'.gens) s₁:=by
 have rv:=z40 hi
 have lenV:=hi.length
 have core:∀H:Hp,Z8 H->SqL K H a (ns.map V.int)->HOk P w H s₁.heap->(∀b,H b≠none->b=a)->(H a≠none->K.lookup a=none)->
   codeAny (model P w) callerA (.call (.ref fa) ⟨[.ref a],[]⟩) (fun r s'=>r=.ok (.ret (.bool true))/\OldK s₁.heap s'.heap/\s'.os=s₁.os/\AllBare s'.gens) s₁:=by
  intro H hO hS hok hA hK
  have U1:∀{b:Addr}{o:Obj},s₁.heap.get? b=some o->H b=none->(R0 s₁.heap H).get? b=some o:=fun e n=>y4n e n
  have noA:∀{b:Addr}{o:Obj}{es:Array DictEntry}{ep:Nat},s₁.heap.get? b=some o->o.data=.dict es ep->H b=none:=fun {b o es ep} e d=>by
   cases q:H b with
   | none=>rfl
   | some u=>
    have e':b=a:=hA b (by rw[q];simp)
    subst e'
    rw[ha] at e;cases e
    have d':Data.seq vs.toArray _=Data.dict es ep:=d
    cases d'
  have nsK:∀{b:Addr}{m:Str->Option Value},s₁.heap.Ns b m->(R0 s₁.heap H).Ns b m:=fun {b m} ⟨o,es,ep,e,d,r⟩=>⟨o,es,ep,U1 e (noA e d),d,r⟩
  have hKb:K.In (R0 s₁.heap H):=fun b o e=>U1 (KX b o e) (by
   cases q:H b with
   | none=>rfl
   | some u=>
    have e':b=a:=hA b (by rw[q];simp)
    subst e'
    rw[hK (by rw[q];simp)] at e;cases e)
  have hM:Mod K mg (R0 s₁.heap H):=⟨hKb,nsK hns,⟨mb,nsK hb,hbb⟩,let ⟨mc,h1,h2⟩:=hlim;⟨mc,nsK h1,h2⟩⟩
  have e0:T3 P w K mg (R0 s₁.heap H) callerA [] s₁ H:=⟨rfl,hM,fun b o e=>y61 e,Nat.le_of_eq (y3g _ _),trivial,fun b hb=>absurd (show b∈([]:List Addr) from hb) (by simp),hok,.of_eq hg⟩
  refine codeAny_mono ((F _ hKb (nsK hns)).run callerA [] s₁ H ⟨[.ref a],[]⟩ [.ref a] [.ref a] _ _ hr e0 (w15 s₁ (.ref a)) (.cons rfl .nil) (hsp H hO hS)) fun r s' h=>?_
  cases r with
  | error e=>exact(hCX H e s' h).elim
  | ok fl=>
   cases fl with
   | next=>exact False.elim h
   | brk=>exact False.elim h
   | cont=>exact False.elim h
   | ret u=>
    obtain⟨v,H',os,bare,un,hok',r',q⟩:=h
    have q':v=.bl true:=q
    subst q'
    obtain rfl:u=Value.bool true:=r'
    refine⟨rfl,OldK.of_keep fun b o e=>?_,os,bare⟩
    cases q:H b with
    | none=>exact un.keep b o e q (by intro z;exact absurd (show b∈([]:List Addr) from z) (by simp)) (by simp)
    | some u=>
     rcases hO b with z|⟨ob,xs,z⟩
     ·rw[q] at z;cases z
     ·have z2:=un.R3 b ob _ z
      obtain⟨e1,_⟩:=hok b _ z
      obtain⟨e2,_⟩:=hok' b _ z2
      rw[e] at e1;cases e1
      exact e2
 cases hk:K.lookup a with
 | some o=>
  have e:=KX a o hk
  rw[ha] at e
  cases e
  refine core (fun _=>none) (fun _=>.inl rfl) (.inr ⟨_,vs.toArray,_,hk,rfl,rfl,rfl,by rw[bK,lenV];exact hl,by simpa using rv⟩) (fun b u z=>by have z':(none:Option HO)=some u:=z;cases z') (fun b z=>absurd rfl z) fun z=>absurd rfl z
 | none=>
  refine core (fun b=>if b=a then some (.frz { cls:=.type "list",data:=.seq vs.toArray } (.lst (ns.map V.int))) else none) (fun b=>?_) (.inl (.inr ⟨{ cls:=.type "list",data:=.seq vs.toArray },if_pos rfl⟩)) (fun b u z=>?_) (fun b z=>?_) fun _=>hk
  ·by_cases hb:b=a
   ·exact .inr ⟨_,_,if_pos hb⟩
   ·exact .inl (if_neg hb)
  ·by_cases hb:b=a
   ·have z':=(if_pos hb).symm.trans z
    cases z'
    subst hb
    exact⟨ha,by rw[b7];exact hl,vs,_,rv,ha⟩
   ·have z':=(if_neg hb).symm.trans z
    cases z'
  ·by_cases hb:b=a
   ·exact hb
   ·exact absurd (if_neg hb) z
theorem y68{l:PySem.W.OpenLaw}{n k:Nat}{q:Program}{loose:List Str}{XP:(Str->Option Value)->Heap->Prop}{YP:World->Heap->Prop}{d:DefRec}{K:Params->PySem.W.Frag}{CX:World->CXT}{sp:World->Sp}{x:Str}
  (hn:l.most=some n) (hn2:n≤sizeLine) (hdf:d.params.defaults=[]) (hr:C5 k callerA)
  (hY:∀(w:World) (h:Heap),YP w h->(K w.params).In h)
  (F:∀(w:World) (mg:Str->Option Value) (fa:Addr) (h:Heap),(K w.params).In h->h.Ns mainGlobals mg->mg d.name=some (.ref fa)->
   ∃fd:FuncData,(∀(s:Shared) (u:Value),BindsTo s fd ⟨[u],[]⟩ [(x,u)])/\
    ∀base:Heap,(K w.params).In base->base.Ns mainGlobals mg->A7 l.prog w (K w.params) mg base (CX w) k fa fd [x] (sp w))
  (hsp:∀(w:World) (H:Hp) (a:Addr) (ns:List Int),ns.length≤n->Z8 H->SqL (K w.params) H a (ns.map V.int)->sp w [.ref a] H (fun v _=>v=.bl true) fun _ _ _=>False)
  (hCX:∀(w:World) (H:Hp) (s:Shared) (e:Value) (s':Shared),CX w [] H s (fun _ _ _=>False) e s'->False) :
  PySem.W.WalkO q loose XP YP l.row.toRowW d [] (fun f vs=>PySem.call f vs):=by
 refine Att.y0o hn hdf fun w s₀ s₁ mg mb fa o pm cd doc a vs ns G Y ho hd hcd hmg hobj hints hlen hg=>?_
 have KX:=hY w _ Y
 obtain⟨fd,hb,hF⟩:=F w mg fa _ KX G.T.g hmg
 exact y4M KX G.T.g G.T.b G.T.builtins G.T.nolimit hg hobj hints (cO hlen hn2) hr hF hb (fun H hO hS=>hsp w H a ns hlen hO hS) fun H e s'=>hCX w H s₁ e s'
def z13(s:Stmt)(j:Nat):Stmt:=match s with
 | .ClassDef _ _ _ body _ _ _ _ _ _ _=>body.getD j (.Pass ⟨0,0,0,0⟩)
 | _=>.Pass ⟨0,0,0,0⟩
def z1x(s:Stmt):Arguments:=match s with
 | .FunctionDef _ a _ _ _ _ _ _ _ _=>a
 | _=>{ posonlyargs:=[],args:=[],vararg:=none,kwonlyargs:=[],kw_defaults:=[],kwarg:=none,defaults:=[] }
def z1e(s:Stmt):List Stmt:=match s with
 | .FunctionDef _ _ b _ _ _ _ _ _ _=>b
 | _=>[]
def z07(s:Stmt):Scope:=match s with
 | .FunctionDef _ _ _ _ _ _ sc _ _ _=>sc
 | _=>{ kind:=.function,names:=[],isGenerator:=false,isCoroutine:=false }
abbrev CX0:CXT:=fun _ _ _ _ _ _=>False
abbrev E0:XK:=fun _ _ _=>False
theorem y1y{X:Cx}:z79 CX0 X E0:=fun _ _ _ _ _ _ _ h=>h.elim
structure Fun(K:PySem.W.Frag)(x qual:Str)(st:Stmt)(f:Addr)(fd:FuncData):Prop where
 ex:∃(oc:Value) (od:Option Addr) (kV doc pm:Value) (an:Option Addr) (cdv ct:Value) (osl:Array (Option Value)),
  fd=PySem.W.fnOf x qual (z1x st) (z1e st) (z07 st) .none kV doc pm an cdv ct/\K.lookup f=some ⟨oc,od,.func fd,osl⟩/\PySem.W.codeIn K cdv qual=true
 kp:PySem.W.keepIn K (.ref f)=true
section
variable{P:Program}{w:World}{K:PySem.W.Frag}{mg:Str->Option Value}{base:Heap}
theorem Fun.ok{x qual:Str}{st:Stmt}{f:Addr}{fd:FuncData}{N ps:List Str}{k:Nat}{sp:Sp}(F:Fun K x qual st f fd)(S:A2 N ps (z07 st))(len:∀vs H Q E,sp vs H Q E->vs.length=ps.length)
  (S6:∀(cdv:Value) (A:Around) (outer:List Env) (s:Shared) (H:Hp) (vs:List V) (Q:VK) (E:XK),C5 k (A.deeper (envOfC qual (z07 st) s.heap.objs.size f cdv))->sp vs H Q E->
   ∃t,PSs (T4 CX0 P w K mg base N qual (z07 st) f cdv A outer s H E).nox (z1e st) t/\t { nx:=fun _ H'=>Q .non H',rt:=Q } (z48 N vs) H):A7 P w K mg base CX0 (k+1) f fd ps sp:=by
 obtain⟨oc,od,kV,doc,pm,an,cdv,ct,osl,rfl,lk,hcd⟩:=F.ex
 refine y75 lk hcd S len fun A outer s H vs Q E hr hsp=>?_
 obtain⟨t,h,q⟩:=S6 cdv A outer s H vs Q E hr hsp
 exact⟨t,h.nox,q⟩
theorem Fun.binds{x qual:Str}{st:Stmt}{f:Addr}{fd:FuncData}{ps:List Str}(F:Fun K x qual st f fd)
  (h:∀(kV doc pm:Value) (an:Option Addr) (cdv ct:Value) (us:List Value),us.length=ps.length->bindArgs (PySem.W.fnOf x qual (z1x st) (z1e st) (z07 st) .none kV doc pm an cdv ct) ⟨us,[]⟩=pure (ps.zip us)):z1J K fd ps []:=by
 obtain⟨oc,od,kV,doc,pm,an,cdv,ct,osl,rfl,lk,hcd⟩:=F.ex
 exact .all (h kV doc pm an cdv ct)
theorem y7d{x qual:Str}{st:Stmt}{f:Addr}{oc:Value}{od an:Option Addr}{osl:Array (Option Value)}{kV doc pm cdv ct:Value}(l:K.lookup f=some ⟨oc,od,.func (PySem.W.fnOf x qual (z1x st) (z1e st) (z07 st) .none kV doc pm an cdv ct),osl⟩)
  (c:PySem.W.codeIn K cdv qual=true) (k:PySem.W.keepIn K (.ref f)=true):Fun K x qual st f (PySem.W.fnOf x qual (z1x st) (z1e st) (z07 st) .none kV doc pm an cdv ct):=⟨⟨oc,od,kV,doc,pm,an,cdv,ct,osl,rfl,l,c⟩,k⟩
end
theorem y0k{A:Around}{k:Nat}(hr:C5 k A):A.units+1<cLine:=fX (Nat.add_le_add_left (by decide:1≤64) _) hr.units
theorem z0g{n:Nat}(h:n≤1000):n<sizeLine:=fX h (by decide)
section
variable{X:Cx}
theorem pv(i:Nat){x:Str}{pos:Pos}(hN:X.N[i]? = some x:=by rfl)(hv:Vis X.env.scope x:=by first|exact Or.inl rfl|exact Or.inr (Or.inl rfl)|exact Or.inr (Or.inr rfl))(hd:(x == ("__debug__":Str))=false:=by decide)
  (hcd:(x == ("__classdict__":Str))=false:=by decide):PE X (.Name x pos) (S7 i):=y6Y hN hv hd hcd
end
theorem C3{A B:Prop}(h:B):if false=true then A else B:=by
 rw[if_neg bF]
 exact h
theorem O5{A B:Prop}(h:A):if true=true then A else B:=by
 rw[if_pos rfl]
 exact h
theorem A9{c A B:Prop}[Decidable c](h1:c->A)(h2:¬c->B):if c then A else B:=by
 by_cases h:c
 ·rw[if_pos h]
  exact h1 h
 ·rw[if_neg h]
  exact h2 h
theorem y6C{c A B:Prop}[Decidable c](hc:c)(h:B):if (!decide c)=true then A else B:=by
 rw[decide_eq_true hc]
 exact C3 h
def A4(H H':Hp):Prop:=∀b o,H b=some o->H' b=some o
theorem A4.refl(H:Hp):A4 H H:=fun _ _ h=>h
theorem A4.trans{H H1 H2:Hp}(a:A4 H H1)(b:A4 H1 H2):A4 H H2:=fun c o h=>b c o (a c o h)
theorem A4.free{H H':Hp}(e:A4 H H'){l:Addr}(h:H' l=Option.none):H l=Option.none:=by
 cases q:H l with
 | none=>rfl
 | some o=>
  rw[e l o q] at h
  cases h
theorem A4.seq{K:PySem.W.Frag}{H H':Hp}{a:Addr}{xs:List V}(e:A4 H H')(h:SqL K H a xs):SqL K H' a xs:=by
 rcases h with (h|⟨o,h⟩)|h
 ·exact .inl (.inl (e _ _ h))
 ·exact .inl (.inr ⟨o,e _ _ h⟩)
 ·exact .inr h
abbrev noE:Value->Shared->Prop:=fun _ _=>False
theorem y0z{prog:Program}{w:World}{A:Around}{R:Result->Shared->Prop}{s:Shared}{elt target iter:Expr}{ifs:List Expr}{scope:Scope}{pos:Pos}{it acc:Value}{env:Env}(I:Nat->Shared->Prop)
  (turn:∀n s,I n s->wpAny (model prog w) A (pyNext it) (fun r s1=>match r with
   | none=>R (.ok .next) s1
   | some v=>wpAny (model prog w) A (letOwnedTupleGo target it v) (fun _ s0=>wpAny (model prog w) A (assign target env v) (fun _ s2=>
     wpAny (model prog w) A (forIn ifs true fun c r=>if r=true then do let ok <- isTrue c env (eval c env);pure (ForInStep.yield ok) else pure (ForInStep.yield r)) (fun ok s3=>
      if ok=true then wpAny (model prog w) A (eval elt env) (fun x s4=>
       wpAny (model prog w) A (call (.builtin "list.append") [acc,x]) (fun _ s5=>∃m,m<n/\I m s5) noE s4) noE s3
      else ∃m,m<n/\I m s3) noE s2) noE s0) noE s1) noE s)
  (n:Nat) (h:I n s):codeAny (model prog w) A (.compLoop (.ListComp elt [⟨target,iter,ifs,0⟩] scope pos) 0 it acc env) R s:=by
 refine codeAny_loop rfl I (fun n s hI=>?_) n h
 show wpAny _ A ((compTurn (.ListComp elt [⟨target,iter,ifs,0⟩] scope pos) 0 it acc env).onRaise (fun x=>do noteFrame x env;theTreesLotGoes x)) _ _ s
 refine wpAny_noted ?_
 rw[compTurn_list]
 refine wpAny_bind (wpAny_standAt (wpAny_bind (wpAny_mono (turn n s hI) (fun r s1 h1=>?_) fun _ _ z=>False.elim z)))
 cases r with
 | none=>exact wpAny_pure h1
 | some v=>
  refine wpAny_bind (wpAny_mono h1 (fun _ s0 h0=>?_) fun _ _ z=>False.elim z)
  refine wpAny_bind (wpAny_mono h0 (fun _ s2 h2=>wpAny_bind (wpAny_mono h2 (fun ok s3 h3=>?_) fun _ _ z=>False.elim z)) fun _ _ z=>False.elim z)
  cases ok with
  | false=>exact wpAny_pure ⟨rfl,h3⟩
  | true=>
   exact wpAny_bind (wpAny_bind (wpAny_mono h3 (fun x s4 h4=>wpAny_bind (wpAny_mono h4 (fun _ s5 h5=>wpAny_pure (wpAny_pure ⟨rfl,h5⟩)) fun _ _ z=>False.elim z)) fun _ _ z=>False.elim z))
def z6R(cells:List (Str×Addr)):List (Str×NameKind)->List (Str×Addr)->Option (List (Str×Addr))
 | [],acc=>some acc
 | (n,k)::r,acc=>if k == .free then (match cells.lookup n with
   | some a=>z6R cells r ((n,a)::acc)
   | none=>none) else z6R cells r acc
theorem z5s{env:Env}:∀(names:List (Str×NameKind)) (acc cl:List (Str×Addr)),z6R env.cells names acc=some cl->
  (forIn names acc fun(x:Str×NameKind) (cs:List (Str×Addr))=>match x with
   | (name,kind)=>if (kind == NameKind.free)=true then do let c <- cellOf env name;pure (ForInStep.yield ((name,c)::cs)) else pure (ForInStep.yield cs):Sem (List (Str×Addr)))=pure cl
 | [],acc,cl,h=>by
  have h':acc=cl:=Option.some.inj h
  subst h'
  rfl
 | (n,k)::r,acc,cl,h=>by
  rw[List.forIn_cons]
  unfold z6R at h
  by_cases hk:(k == NameKind.free)=true
  ·rw[if_pos hk] at h
   cases e:env.cells.lookup n with
   | none=>rw[e] at h;cases h
   | some a=>
    rw[e] at h
    have ih:=z5s r ((n,a)::acc) cl h
    have hc:cellOf env n=pure a:=by unfold cellOf;rw[e]
    dsimp only
    rw[if_pos hk,hc]
    simpa using ih
  ·rw[if_neg hk] at h
   have ih:=z5s r acc cl h
   dsimp only
   rw[if_neg hk]
   simpa using ih
theorem z67{scope:Scope}{env:Env}{cl:List (Str×Addr)}(h:z6R env.cells scope.names []=some cl):closureFor scope env=pure cl:=by
 have q:=z5s (env:=env) scope.names [] cl h
 unfold closureFor
 simpa using q
theorem z76{cells:List (Str×Addr)}:∀{names:List (Str×NameKind)}{acc cl:List (Str×Addr)},z6R cells names acc=some cl->
  (∀x c,acc.lookup x=some c->cells.lookup x=some c)->∀x c,cl.lookup x=some c->cells.lookup x=some c
 | [],acc,cl,h,ha,x,c,e=>by
  have h':acc=cl:=Option.some.inj h
  subst h'
  exact ha x c e
 | (n,k)::r,acc,cl,h,ha,x,c,e=>by
  unfold z6R at h
  by_cases hk:(k == NameKind.free)=true
  ·rw[if_pos hk] at h
   cases q:cells.lookup n with
   | none=>rw[q] at h;cases h
   | some a=>
    rw[q] at h
    refine z76 (names:=r) (acc:=(n,a)::acc) h (fun y d z=>?_) x c e
    rw[hU] at z
    cases hy:y == n with
    | true=>
     rw[hy] at z
     have z':a=d:=Option.some.inj z
     rw[<- z',beq_iff_eq.mp hy]
     exact q
    | false=>
     rw[hy] at z
     exact ha y d z
  ·rw[if_neg hk] at h
   exact z76 (names:=r) (acc:=acc) h ha x c e
theorem z5f{cells:List (Str×Addr)}:∀{names:List (Str×NameKind)}{acc cl:List (Str×Addr)},z6R cells names acc=some cl->
  ∀x,((∃c,acc.lookup x=some c)\/(x,NameKind.free)∈names)->∃c,cl.lookup x=some c
 | [],acc,cl,h,x,hx=>by
  have h':acc=cl:=Option.some.inj h
  subst h'
  rcases hx with hx|hx
  ·exact hx
  ·cases hx
 | (n,k)::r,acc,cl,h,x,hx=>by
  unfold z6R at h
  by_cases hk:(k == NameKind.free)=true
  ·rw[if_pos hk] at h
   cases q:cells.lookup n with
   | none=>rw[q] at h;cases h
   | some a=>
    rw[q] at h
    refine z5f (names:=r) (acc:=(n,a)::acc) h x ?_
    rcases hx with ⟨c,hx⟩|hx
    ·left
     rw[hU]
     cases hy:x == n with
     | true=>exact⟨a,rfl⟩
     | false=>exact⟨c,hx⟩
    ·rcases bA.mp hx with e|e
     ·left
      have e1:x=n:=congrArg Prod.fst e
      rw[hU,e1,beq_self_eq_true]
      exact⟨a,rfl⟩
     ·exact .inr e
  ·rw[if_neg hk] at h
   refine z5f (names:=r) (acc:=acc) h x ?_
   rcases hx with hx|hx
   ·exact .inl hx
   ·rcases bA.mp hx with e|e
    ·have e2:NameKind.free=k:=congrArg Prod.snd e
     exact absurd (by rw[<- e2];rfl) hk
    ·exact .inr e
theorem z7k{α β:Type}[BEq α][LawfulBEq α]:∀{l:List (α×β)}{x:α}{b:β},l.lookup x=some b->(x,b)∈l
 | [],x,b,h=>by cases h
 | (a,c)::r,x,b,h=>by
  rw[hU] at h
  cases hx:x == a with
  | true=>
   rw[hx] at h
   have h':c=b:=Option.some.inj h
   rw[beq_iff_eq.mp hx,h']
   exact bS
  | false=>
   rw[hx] at h
   exact bM _ (z7k h)
theorem z6b{scope:Scope}{env:Env}(U5:∀y∈scope.names,y.2≠.cell){x:Str}(h:(relabel scope env).names.lookup x=some .cell\/(relabel scope env).names.lookup x=some .free):(x,NameKind.free)∈scope.names:=by
 have go:∀k,(relabel scope env).names.lookup x=some k->(k=.cell\/k=.free)->(x,NameKind.free)∈scope.names:=fun k h hk=>by
  have m:=z7k h
  obtain⟨⟨n,k'⟩,hm,e⟩:=cF.mp m
  dsimp only at e
  by_cases c:(k' == NameKind.free && env.scope.kind == .function && env.kindOf n == some .cell)=true
  ·rw[if_pos c] at e
   have e1:n=x:=congrArg Prod.fst e
   have c1:(k' == NameKind.free)=true:=by
    rw[bQ,bQ] at c
    exact c.1.1
   have c2:k'=.free:=eq_of_beq c1
   rw[<- e1,<- c2]
   exact hm
  ·rw[if_neg c] at e
   have e1:n=x:=congrArg Prod.fst e
   have e2:k'=k:=congrArg Prod.snd e
   rcases hk with z|z
   ·exact absurd (e2.trans z) (U5 _ hm)
   ·rw[<- e1,<- z,<- e2]
    exact hm
 rcases h with h|h
 ·exact go _ h (.inl rfl)
 ·exact go _ h (.inr rfl)
def z3C(X:Cx)(scope:Scope)(cl:List (Str×Addr))(N:List Str)(C:Addr)(s3:Shared)(H1:Hp)(ex:List Addr)(pins:List (Addr×Obj)):Cx:=
 { X with N:=N,s₀:=s3,H₀:=H1,env:=compEnvC scope cl C X.env,outer:=X.stack,ex:=ex,fn:=fun _=>false,pn:=X.pn++pins,xe:=noE }
def z7y(own:Nat)(ix:List Nat)(σ:St):St:=List.replicate own none++ix.map fun i=>(σ[i]?).join
structure E5(X:Cx)(scope:Scope)(cl:List (Str×Addr))(own D4:List Str)(ix:List Nat):Prop where
 T6:z6R X.env.cells scope.names []=some cl
 cell:∀y∈scope.names,y.2≠.cell
 kind:scope.kind=.function
 names:∀y∈scope.names,y.2=.local->scope.names.lookup y.1=some .local
 capn:D4.length=ix.length
 cap:∀(j i:Nat) (x:Str),D4[j]? = some x->ix[j]? = some i->X.N[i]? = some x/\X.env.kindOf x≠some .local/\Vis X.env.scope x/\((relabel scope X.env).names.lookup x=some .cell\/(relabel scope X.env).names.lookup x=some .free)
theorem Inv.w0v{X:Cx}{pins:List (Addr×Obj)}{σ:St}{H:Hp}{s:Shared}{D:Addr}{o:HO}(I:Inv X pins σ H s)(f:O4 X pins H D)(new:z1g X.prog X.w (upd H D o) s.heap D o):Inv X pins σ (upd H D o) s:=by
 obtain⟨f0,f1,f2,f3,f4,f5⟩:=f
 have q:=I.step (H':=upd H D o) (h':=s.heap) (g':=s.gens) (t':=s.toks) (d':=s.drawn) (ch:=[D]) (fun b hb=>by
   have e:b=D:=by simpa using hb
   subst e
   exact⟨f3,f1,f4,f5⟩)
  (fun _ _ _ _ _ e _=>e) (fun b ob _ _ _ e _=>⟨ob.slots,e⟩) (fun b ob hb _ n=>by
   have e:b≠D:=fun z=>hb (by simp[z])
   rw[z0e e];exact n)
  (fun b ob _ e=>⟨ob,e⟩) (fun b xs e=>by rw[z0e (z0l e f0)];exact e) (fun b ob u e=>by rw[z0e (z0l e f0)];exact e)
  (fun b ps e=>⟨#[],by rw[z0e (z0l e f0),e];simp⟩) (fun _ hm=>hm) (fun b u e=>by
   by_cases hb:b=D
   ·subst hb
    rw[z02] at e
    cases e
    exact new
   ·rw[z0e hb] at e
    exact(I.hok b u e).V0 (fun _ _ _ q=>q) (fun c q=>by rw[z0e (z0l q f0)];exact q) fun c xs q=>by rw[z0e (z0l q f0)];exact q) I.bare
 exact q
section
variable{X:Cx}{scope:Scope}{cl:List (Str×Addr)}{own D4:List Str}{ix:List Nat}
theorem E5.look(S:E5 X scope cl own D4 ix):∀x c,cl.lookup x=some c->X.env.cells.lookup x=some c:=
 z76 S.T6 fun x c e=>by cases e
theorem y4P{pins:List (Addr×Obj)}{σ:St}{H1:Hp}{s3:Shared}{h1:Heap}{ex:List Addr}{m:Str->Option Value}{tk:Nat}(S:E5 X scope cl own D4 ix)(I:Inv X pins σ H1 s3)
  (hex:∀b∈ex,b<s3.heap.objs.size/\b≠X.env.locals/\b∉X.fs/\(b∈X.ex\/X.s₀.heap.objs.size≤b)/\∀x c,X.env.cells.lookup x=some c->c≠b)
  (hn:h1.Ns s3.heap.objs.size m) (hk:∀b o,s3.heap.get? b=some o->h1.get? b=some o) :
  Inv (z3C X scope cl (own++D4) s3.heap.objs.size s3 H1 ex pins) [] (z7y own.length ix σ) H1 { s3 with heap:=h1,toks:=tk }:=by
 have stkN:∀b∈frs X.stack,b<s3.heap.objs.size:=fun b hb=>by
  obtain⟨_,o,ho,_⟩:=I.stack.mem hb
  exact bJ ho
 have lt0:∀b o,X.base.get? b=some o->b<X.s₀.heap.objs.size:=fun b o e=>bJ (I.ok.bs b o e).1
 refine⟨⟨I.ok.mod,S.kind,I.ok.glob,I.ok.blt,bB _,?_,?_,?_,I.ok.hd,I.ok.frames,.inl rfl,?_,I.bs,cO I.ok.bsz I.sz,?_,?_,I.stack,I.U4⟩,rfl,I.bare,?_,?_,?_,?_,?_,?_,?_,?_⟩
 ·intro x y c e1 e2
  exact I.ok.inj x y c (S.look x c e1) (S.look y c e2)
 ·intro x hx
  exact z5f S.T6 x (.inr (z6b S.cell hx))
 ·intro x c hf
  exact absurd hf bF
 ·intro b hb
  obtain⟨l,a1,a2,a3,a4⟩:=hex b hb
  exact⟨bU l,fun x c e=>a4 x c (S.look x c e)⟩
 ·intro b o e hb
  obtain⟨l,a1,a2,a3,a4⟩:=hex b hb
  rcases a3 with z|z
  ·exact I.ok.noex b o e z
  ·exact absurd (cR (lt0 b o e) z) (dP _)
 ·intro b hb hf
  obtain⟨l,a1,a2,a3,a4⟩:=hex b hb
  rcases bA.mp (I.P2 b hf) with z|z
  ·exact a1 z
  ·exact a2 z
 ·exact Un.kept hk
 ·refine⟨m,hn,fun i x v e1 e2 e3=>?_⟩
  have e2':(List.replicate own.length none++ix.map fun i=>(σ[i]?).join:St)[i]? = some (some v):=e2
  have e1':(own++D4)[i]? = some x:=e1
  by_cases hi:i<own.length
  ·rw[fH (by simpa using hi),gX,if_pos hi] at e2'
   cases e2'
  ·have hi':own.length≤i:=jJ hi
   rw[e7 (by simpa using hi'),j0,bH] at e2'
   rw[e7 hi'] at e1'
   cases q:ix[i-own.length]? with
   | none=>rw[q] at e2';cases e2'
   | some k=>
    rw[q] at e2'
    have X4:(σ[k]?).join=some v:=Option.some.inj e2'
    have e4:σ[k]? = some (some v):=by
     cases z:σ[k]? with
     | none=>rw[z] at X4;cases X4
     | some u=>rw[z] at X4;rw[show u=some v from X4]
    obtain⟨n1,n2,n3,n4⟩:=S.cap (i-own.length) k x e1' q
    obtain⟨mX,_,hl⟩:=I.loc
    obtain⟨u,r,l⟩:=hl k x v n1 e4 n3
    refine⟨u,r,?_⟩
    rcases l with ⟨kl,_⟩|⟨_,c,ec,ic⟩
    ·exact absurd kl n2
    ·obtain⟨c',ec'⟩:=z5f S.T6 x (.inr (z6b S.cell n4))
     have e5:=S.look x c' ec'
     rw[ec] at e5
     cases e5
     exact .inr ⟨n4,c,ec',ic.keeps hk⟩
 ·intro x c e
  obtain⟨v,q⟩:=I.cell x c (S.look x c e)
  exact⟨v,q.keeps hk⟩
 ·exact I.hok.fresh (bB _)
 ·intro x c e
  exact I.freeC x c (S.look x c e)
 ·intro p hp
  have hp':p∈X.pn++pins:=by
   have:p∈(X.pn++pins)++[]:=hp
   rwa [d7] at this
  obtain⟨e,n,ne,nf,d⟩:=I.pin p hp'
  refine⟨hk _ _ e,n,bU (bJ e),fun z=>?_,d⟩
  rcases bA.mp (I.P2 p.1 z) with z|z
  ·exact ne z
  ·exact nf z
 ·exact I.hok.kept hk
 ·show(List.replicate own.length none++ix.map fun i=>(σ[i]?).join:St).length=(own++D4).length
  rw[bI,j0,b7,bI,S.capn]
def PTs(X:Cx)(ifs:List Expr)(t:TT):Prop:=
 ∀(pins:List (Addr×Obj)) (s:Shared) (σ:St) (H:Hp) (Q:Bool->Hp->Prop),Inv X pins σ H s->t σ H Q->
  wpAny (model X.prog X.w) X.A (forIn ifs true fun c r=>if r=true then do let ok <- isTrue c X.env (eval c X.env);pure (ForInStep.yield ok) else pure (ForInStep.yield r)) (TP X pins σ Q) X.xe s
def tYes:TT:=fun _ H Q=>Q true H
theorem z26:PTs X [] tYes:=fun _ _ _ H _ I h=>wpAny_tests_nil ⟨H,I,h⟩
theorem z21{c:Expr}{t:TT}(hc:PT X c t):PTs X [c] t:=fun pins s σ H Q I h=>wpAny_tests_one (hc pins s σ H Q I h)
def z4X(n:Nat)(σ σ':St):Prop:=σ'.length=σ.length/\∀i,n≤i->σ'[i]? = σ[i]?
def T9(n:Nat)(g:TG):Prop:=∀v σ H Q,g v σ H Q->g v σ H fun σ' H'=>Q σ' H'/\z4X n σ σ'
def y39(n:Nat)(g:TGs):Prop:=∀vs σ H Q,g vs σ H Q->g vs σ H fun σ' H'=>Q σ' H'/\z4X n σ σ'
theorem z4X.refl(n:Nat)(σ:St):z4X n σ σ:=⟨rfl,fun _ _=>rfl⟩
theorem z4X.trans{n:Nat}{a b c:St}(x:z4X n a b)(y:z4X n b c):z4X n a c:=⟨y.1.trans x.1,fun i h=>(y.2 i h).trans (x.2 i h)⟩
theorem z0y{n i:Nat}(h:i<n):T9 n (y3q i):=fun v σ H Q q=>⟨q,by simp,fun j hj=>j6 (by omega)⟩
theorem z7G{n:Nat}:y39 n w07:=fun vs σ H Q q=>⟨q.1,q.2,z4X.refl n σ⟩
def z9C(g:TG):Prop:=∀v σ H (Q Q':St->Hp->Prop),(∀σ' H',Q σ' H'->Q' σ' H')->g v σ H Q->g v σ H Q'
def z8o(g:TGs):Prop:=∀vs σ H (Q Q':St->Hp->Prop),(∀σ' H',Q σ' H'->Q' σ' H')->g vs σ H Q->g vs σ H Q'
theorem z0c{i:Nat}:z9C (y3q i):=fun _ _ _ _ _ f q=>f _ _ q
theorem z16:z8o w07:=fun _ _ _ _ _ f q=>⟨q.1,f _ _ q.2⟩
theorem z0P{t:TG}{u:TGs}(a:z9C t)(b:z8o u):z8o (y65 t u):=fun vs σ H Q Q' f q=>by
 obtain⟨v,r,e,q⟩:=q
 exact⟨v,r,e,a _ _ _ _ _ (fun σ' H' z=>b _ _ _ _ _ f z) q⟩
theorem z6x{K:PySem.W.Frag}{n:Nat}{t:TGs}(a:z8o t):z9C (X1 K n t):=fun v σ H Q Q' f q=>by
 obtain⟨p,xs,e,h1,h2,q⟩:=q
 exact⟨p,xs,e,h1,h2,a _ _ _ _ _ f q⟩
theorem z1R{n:Nat}{t:TG}{u:TGs}(a:T9 n t)(m:z9C t)(b:y39 n u)(m':z8o u):y39 n (y65 t u):=fun vs σ H Q q=>by
 obtain⟨v,r,e,q⟩:=q
 refine⟨v,r,e,m _ _ _ _ _ (fun σ' H' z=>?_) (a _ _ _ _ q)⟩
 exact m' _ _ _ _ _ (fun σ2 H2 y=>⟨y.1,z.2.trans y.2⟩) (b _ _ _ _ z.1)
theorem z8I{K:PySem.W.Frag}{n k:Nat}{t:TGs}(a:y39 n t):T9 n (X1 K k t):=fun v σ H Q q=>by
 obtain⟨p,xs,e,h1,h2,q⟩:=q
 exact⟨p,xs,e,h1,h2,a _ _ _ _ q⟩
def z1z(g:TG)(tc:TT)(te:TE)(σ0:St)(x:V)(H:Hp)(ys:List V)(N:List V->Hp->Prop):Prop:=
 g x σ0 H fun σ2 H2=>tc σ2 H2 fun b H3=>if b=true then te σ2 H3 fun y H4=>N (ys++[y]) H4 else N ys H3
def y6D(own:Nat)(ix:List Nat)(wi:TI)(g:TG)(tc:TT)(te:TE)(σ:St)(H:Hp)(F:List V->Hp->Prop):Prop:=
 wi σ H fun J H1=>∃W:Nat->Nat->List V->Hp->Prop,(∃m,W 0 m [] H1)/\∀i m ys H,W i m ys H->
  (J.stop i H/\F ys H)\/(J.go i H/\ys.length<sizeLine/\∃N:List V->Hp->Prop,(∀zs H',N zs H'->∃m',m'<m/\W (i+1) m' zs H')/\
   ∀x H',J.yld i H x H'->z1z g tc te (z7y own ix σ) x H' ys N)
theorem z86{elt iter tg:Expr}{ifs:List Expr}{pos:Pos}{pins:List (Addr×Obj)}{σ:St}{s2:Shared}{itv:Value}{g:TG}{tc:TT}{te:TE}{F:List V->Hp->Prop}{RR:Value->Addr->Result->Shared->Prop}{E:Value->Shared->Prop}
  (S:E5 X scope cl own D4 ix) (hc:X.calm=true)
  (hg:∀C s3 H1 ex pn,PG (z3C X scope cl (own++D4) C s3 H1 ex pn) tg g) (og:T9 own.length g) (mg:z9C g)
  (ht:∀C s3 H1 ex pn,PTs (z3C X scope cl (own++D4) C s3 H1 ex pn) ifs tc)
  (he:∀C s3 H1 ex pn,PE (z3C X scope cl (own++D4) C s3 H1 ex pn) elt te)
  (h:PIE X pins σ tg (fun J H1=>∃W:Nat->Nat->List V->Hp->Prop,(∃m,W 0 m [] H1)/\∀i m ys H,W i m ys H->
   (J.stop i H/\F ys H)\/(J.go i H/\ys.length<sizeLine/\∃N:List V->Hp->Prop,(∀zs H',N zs H'->∃m',m'<m/\W (i+1) m' zs H')/\
    ∀x H',J.yld i H x H'->z1z g tc te (z7y own.length ix σ) x H' ys N)) itv s2)
  (hRR:∀D C m H' ys s',Inv X pins σ (upd H' D (.lst ys)) s'->O4 X pins (upd H' D (.lst ys)) C->s'.heap.Ns C m->H' D=none->F ys H'->RR (.ref D) C (.ok .next) s') :
  wpAny (model X.prog X.w) X.A (newList []) (fun acc s3=>wpAny (model X.prog X.w) X.A (newFunctionEnv scope X.env.globals cl [] X.env.qual none .none (some X.env)) (fun cenv s4=>
   codeAny (model X.prog X.w) X.A (.compStart (.ListComp elt [⟨tg,iter,ifs,0⟩] scope pos) 0 itv acc { cenv with scope:=relabel scope X.env }) (RR acc cenv.locals) s4) E s3) E s2:=by
 obtain⟨it,fp,tn,J,H1,e,I2,T,st2,f2,W,⟨m0,w0⟩,turn⟩:=h
 subst e
 refine wpAny_newObj_type (wpAny_newFunctionEnv S.cell (by intro y hy;simp at hy) (fun h1 hns1 hsb1=>?_) S.kind)
 dsimp only at hns1 hsb1 ⊢
 generalize hH2:s2.heap.push { cls:=.type "list",dict:=none,data:=.seq ([]:List Value).toArray }=h2 at hns1 hsb1 ⊢
 have V8:∀b o,s2.heap.get? b=some o->h2.get? b=some o:=fun b o e=>hH2 ▸ b8 _ e
 have sz2:h2.objs.size=s2.heap.objs.size+1:=by rw[<- hH2,eU]
 have hDC:s2.heap.objs.size≠h2.objs.size:=by omega
 have U2:∀b o,h2.get? b=some o->h1.get? b=some o:=fun b o e=>hsb1.extBut b o (bU (bJ e)) (b8 _ e)
 have w0b:h2.get? s2.heap.objs.size=some { cls:=.type "list",dict:=none,data:=.seq ([]:List Value).toArray }:=hH2 ▸ bC _ rfl
 have I3:Inv X pins σ H1 { s2 with heap:=h2,toks:=s2.toks }:=I2.kept V8
 have fD:O4 X pins H1 s2.heap.objs.size:=I2.R1 (bB _) I2.fresh
 have fDs:∀{H':Hp},H' s2.heap.objs.size=none->O4 X pins H' s2.heap.objs.size:=fun hn=>⟨hn,fD.2⟩
 have fpLt:∀b∈fp,b<s2.heap.objs.size:=fun b hb=>by
  obtain⟨o,e,_⟩:=T.obj _ _ st2 b hb
  exact bJ e
 have hDfp:s2.heap.objs.size∉fp:=fun z=>dP _ (fpLt _ z)
 have w05:∀b∈s2.heap.objs.size::fp,b<h2.objs.size/\b≠X.env.locals/\b∉X.fs/\(b∈X.ex\/X.s₀.heap.objs.size≤b)/\∀x c,X.env.cells.lookup x=some c->c≠b:=fun b hb=>by
  rcases bA.mp hb with rfl|hb
  ·exact⟨by omega,fD.2.1,fD.2.2.1,fD.2.2.2.1,fD.2.2.2.2.1⟩
  ·have:=fpLt b hb
   obtain⟨_,a1,a2,a3,a4,_⟩:=f2 b hb
   exact⟨by rw[sz2];exact dC this,a1,a2,a3,a4⟩
 have I4:Inv (z3C X scope cl (own++D4) h2.objs.size { s2 with heap:=h2,toks:=s2.toks } H1 (s2.heap.objs.size::fp) pins) [] (z7y own.length ix σ) H1 { s2 with heap:=h1,toks:=s2.toks+([]:List (Str×Value)).length }:=
  y4P S I3 w05 hns1 U2
 generalize hX:z3C X scope cl (own++D4) h2.objs.size { s2 with heap:=h2,toks:=s2.toks } H1 (s2.heap.objs.size::fp) pins=Y at I4
 have HG:PG Y tg g:=by rw[<- hX];exact hg _ _ _ _ _
 have HT:PTs Y ifs tc:=by rw[<- hX];exact ht _ _ _ _ _
 have HE:PE Y elt te:=by rw[<- hX];exact he _ _ _ _ _
 have eP:Y.prog=X.prog:=by rw[<- hX];rfl
 have eW:Y.w=X.w:=by rw[<- hX];rfl
 have eK:Y.K=X.K:=by rw[<- hX];rfl
 have eA:Y.A=X.A:=by rw[<- hX];rfl
 have eC:Y.calm=true:=by rw[<- hX];exact hc
 have eE:Y.xe=noE:=by rw[<- hX];rfl
 have W5:Y.env=compEnvC scope cl h2.objs.size X.env:=by rw[<- hX];rfl
 have eEx:Y.ex=s2.heap.objs.size::fp:=by rw[<- hX];rfl
 have ePn:Y.pn=X.pn++pins:=by rw[<- hX];rfl
 have eFs:Y.fs=frs X.stack:=by rw[<- hX];rfl
 have Z0:∀x c,Y.env.cells.lookup x=some c->X.env.cells.lookup x=some c:=fun x c e=>by
  rw[W5] at e
  exact S.look x c e
 have Y5:Y.env.locals=h2.objs.size:=by rw[W5];rfl
 have fY:∀{pl:List (Addr×Obj)}{H':Hp}{b:Addr},b∈s2.heap.objs.size::fp->H' b=none->(∀p∈pl,p.1≠b)->O4 Y pl H' b:=fun {pl H' b} hb hn hpl=>by
  obtain⟨l,a1,a2,a3,a4⟩:=w05 b hb
  refine⟨hn,by rw[Y5];exact bU l,fun z=>?_,.inl (by rw[eEx];exact hb),fun x c e=>a4 x c (Z0 x c e),fun p hp=>?_⟩
  ·rw[eFs] at z
   rcases bA.mp (I3.P2 b z) with z|z
   ·exact a1 z
   ·exact a2 z
  ·rcases bO.mp hp with z|z
   ·rw[ePn] at z
    rcases bA.mp hb with rfl|hb
    ·exact fD.2.2.2.2.2 p z
    ·exact(f2 b hb).2.2.2.2.2 p z
   ·exact hpl p z
 let IV:Nat->Shared->Prop:=fun n s'=>∃i ys its c H',Inv Y [] (z7y own.length ix σ) H' s'/\tn i s'.heap/\(∀b∈fp,H' b=none)/\H' s2.heap.objs.size=none/\Vals ys its/\
  s'.heap.get? s2.heap.objs.size=some { cls:=.type "list",data:=.seq its.toArray c }/\ys.length≤sizeLine/\W i n ys H'
 have loop:∀s3:Shared,s3={ s2 with heap:=h1,toks:=s2.toks+([]:List (Str×Value)).length }->
   codeAny (model X.prog X.w) X.A (.compLoop (.ListComp elt [⟨tg,iter,ifs,0⟩] scope pos) 0 (.ref it) (.ref s2.heap.objs.size) (compEnvC scope cl h2.objs.size X.env)) (RR (.ref s2.heap.objs.size) h2.objs.size) s3:=by
  rintro s3 rfl
  refine y0z IV ?_ m0 ⟨0,[],[],_,H1,I4,T.keep _ _ _ st2 fun b _ o e=>U2 b o (V8 b o e),fun b hb=>(f2 b hb).1,I2.fresh,.nil,U2 _ _ w0b,cQ _,w0⟩
  rintro n s5 ⟨i,ys,its,c,H5,I5,st5,fr5,nD5,v5,gD5,z5,w5⟩
  have I5p:Inv Y [(s2.heap.objs.size,{ cls:=.type "list",data:=.seq its.toArray c })] (z7y own.length ix σ) H5 s5:=I5.N7 fun p hp=>by
   have e:p=(s2.heap.objs.size,{ cls:=.type "list",data:=.seq its.toArray c }):=by simpa using hp
   subst e
   obtain⟨_,b1,b2,_⟩:=fY (pl:=[]) (H':=H5) (b:=s2.heap.objs.size) bS nD5 (fun p hp=>nomatch hp)
   exact⟨gD5,nD5,b1,b2,fun v z=>by cases z⟩
  have fps:∀{H':Hp},(∀b∈fp,H' b=none)->∀b∈fp,O4 Y [(s2.heap.objs.size,{ cls:=.type "list",data:=.seq its.toArray c })] H' b:=fun hn b hb=>
   fY (bM _ hb) (hn b hb) fun p hp=>by
    have e:p=(s2.heap.objs.size,{ cls:=.type "list",data:=.seq its.toArray c }):=by simpa using hp
    subst e
    exact fun z=>hDfp (by have z':s2.heap.objs.size=b:=z;rw[z'];exact hb)
  rcases turn i n ys H5 w5 with ⟨stop,fin⟩|⟨go,hlen,N,hN,step⟩
  ·have q:=T.done Y eP eW eK eC i _ s5 _ H5 noE I5p (fps fr5) st5 stop
   rw[eA] at q
   refine thn q fun r s6 ⟨hr,I6⟩=>?_
   subst hr
   have gD6:=(I6.pin (s2.heap.objs.size,{ cls:=.type "list",data:=.seq its.toArray c }) (bY _ (by simp))).1
   have u6:Un (frs X.stack) (s2.heap.objs.size::fp) H1 H5 h2 s6.heap:=by
    have:=I6.base
    rw[eFs,eEx] at this
    rw[<- hX] at this
    exact this
   have os6:s6.os=s2.os:=by
    have:=I6.os
    rw[<- hX] at this
    exact this
   have hok6:HOk X.prog X.w H5 s6.heap:=by
    have:=I6.hok
    rw[eP,eW] at this
    exact this
   have J6:Inv X pins σ H5 s6:=I3.w0x (s':=s6) os6 u6 hok6 I6.bare fun b hb=>by
    obtain⟨l,a1,a2,a3,a4⟩:=w05 b hb
    refine⟨a3,a1,a4,?_⟩
    rcases bA.mp hb with rfl|hb
    ·exact fD.2.2.2.2.2
    ·exact(f2 b hb).2.2.2.2.2
   have J7:Inv X pins σ (upd H5 s2.heap.objs.size (.lst ys)) s6:=J6.w0v (fDs nD5) ⟨z5,its,c,v5,gD6⟩
   obtain⟨mC,hC,_⟩:=I6.loc
   rw[Y5] at hC
   have nC:H5 h2.objs.size=none:=by
    have:=I6.free
    rw[Y5] at this
    exact this
   refine hRR _ _ mC H5 ys s6 J7 (I3.R1 (bB _) ?_) hC nD5 fin
   show upd H5 s2.heap.objs.size (.lst ys) h2.objs.size=none
   rw[z0e (d9 hDC)]
   exact nC
  ·have q:=T.item Y eP eW eK eC i _ s5 _ H5 noE I5p (fps fr5) st5 go
   rw[eA] at q
   refine thn q fun r s6 ⟨u,hr,h6⟩=>?_
   subst hr
   refine thn h6 fun _ s7 ⟨x,H7,I7,r7,y7,st7,fr7⟩=>?_
   have I7p:=I7.pinned (fps fr7) (T.obj _ _ st7)
   have st:=og _ _ _ _ (step x H7 y7)
   have q2:=HG _ s7 _ H7 x u _ I7p r7 st
   rw[eE,eP,eW,eA,W5] at q2
   refine thn q2 fun _ s8 ⟨σ8,H8,I8,q8,fr8⟩=>?_
   have q3:=HT _ s8 σ8 H8 _ I8 q8
   rw[eE,eP,eW,eA,W5] at q3
   refine thn q3 fun ok s9 ⟨H9,I9,q9⟩=>?_
   have back:∀{H':Hp}{s':Shared},Inv Y ([(s2.heap.objs.size,({ cls:=.type "list",data:=.seq its.toArray c }:Obj))]++z9c fp s7.heap) σ8 H' s'->
     Inv Y [] (z7y own.length ix σ) H' s'/\tn (i+1) s'.heap/\(∀b∈fp,H' b=none)/\H' s2.heap.objs.size=none/\s'.heap.get? s2.heap.objs.size=some { cls:=.type "list",data:=.seq its.toArray c }:=fun {H' s'} I'=>by
    have pD:=I'.pin (s2.heap.objs.size,{ cls:=.type "list",data:=.seq its.toArray c }) (bY _ (cX _ (by simp)))
    refine⟨(I'.N7 (pins':=[]) fun p hp=>nomatch hp).weak fr8.1.symm fun j v e=>?_,T.keep _ _ _ st7 fun b hb o e=>(I'.pin (b,o) (bY _ (bY _ (z4a hb e)))).1,fun b hb=>?_,pD.2.1,pD.1⟩
    ·by_cases hj:j<own.length
     ·have e':(List.replicate own.length none++ix.map fun i=>(σ[i]?).join:St)[j]? = some (some v):=e
      rw[fH (by simpa using hj),gX,if_pos hj] at e'
      cases e'
     ·rw[fr8.2 j (jJ hj)]
      exact e
    ·obtain⟨o,e,d⟩:=T.obj _ _ st7 b hb
     exact(I'.pin (b,o) (bY _ (bY _ (z4a hb e)))).2.1
   cases ok with
   | false=>
    obtain⟨m',hm,w9⟩:=hN _ _ (show N ys H9 from q9)
    obtain⟨b1,b2,b3,b4,b5⟩:=back I9
    exact⟨m',hm,i+1,ys,its,c,H9,b1,b2,b3,b4,v5,b5,z5,w9⟩
   | true=>
    have q9':te σ8 H9 fun y H4=>N (ys++[y]) H4:=q9
    have q4:=HE _ s9 σ8 H9 _ I9 q9'
    rw[eE,eP,eW,eA,W5] at q4
    refine thn q4 fun yv s10 ⟨y,H10,I10,r10,n10⟩=>?_
    obtain⟨b1,b2,b3,b4,b5⟩:=back I10
    obtain⟨m',hm,w10⟩:=hN _ _ n10
    have hl:=v5.length
    refine call_meets bX ⟨_,b5,rfl⟩ PySem.F.entry_list_append (PySem.F.args_list_append_2 _ _) (PySem.list_append s2.heap.objs.size its.toArray c yv (by rw[bK];omega)) ⟨b5,?_⟩
    have q5:=PySem.IsL.update b5 (fun a=>a.push yv)
    have e5:its.toArray.push yv=(its++[yv]).toArray:=by simp
    rw[e5] at q5
    have k5:∀b o,b≠s2.heap.objs.size->s10.heap.get? b=some o->(s10.heap.update s2.heap.objs.size (Obj.mapSeq fun a=>a.push yv)).get? b=some o:=fun b o hb e=>
     (cN s10.heap (Obj.mapSeq fun a=>a.push yv) (d9 hb)).trans e
    obtain⟨f0,f1,f2',f3,f4,f5⟩:=fY (pl:=[]) (H':=H10) (b:=s2.heap.objs.size) bS b4 (fun p hp=>nomatch hp)
    have b1':=b1.turned (t':=s10.toks) k5 f0 f1 f3 f4 f5
    refine⟨m',hm,i+1,ys++[y],its++[yv],_,H10,b1',T.keep _ _ _ b2 fun b hb o e=>k5 b o (fun z=>hDfp (by rw[<- z];exact hb)) e,b3,b4,v5.append (.cons r10 .nil),q5,?_,w10⟩
    ·rw[bI,dA]
     omega
 exact codeAny_compStart_list (loop _ rfl) (T.self _ 0 _ _ _ (T.keep _ _ _ st2 fun b _ o e=>U2 b o (V8 b o e)) (loop _ rfl))
def y7a(own:Nat)(ix:List Nat)(wi:TI)(g:TG)(tc:TT)(te:TE):TE:=fun σ H Q=>y6D own ix wi g tc te σ H fun ys H'=>∀D,H' D=none->Q (.ref D) (upd H' D (.lst ys))
theorem z1f{elt iter tg:Expr}{ifs:List Expr}{pos:Pos}{wi:TI}{g:TG}{tc:TT}{te:TE}(own D4:List Str)(ix:List Nat)
  (hc:X.calm=true) (S:E5 X scope cl own D4 ix) (hi:PI X tg iter wi)
  (hg:∀C s3 H1 ex pn,PG (z3C X scope cl (own++D4) C s3 H1 ex pn) tg g) (og:T9 own.length g) (mg:z9C g)
  (ht:∀C s3 H1 ex pn,PTs (z3C X scope cl (own++D4) C s3 H1 ex pn) ifs tc)
  (he:∀C s3 H1 ex pn,PE (z3C X scope cl (own++D4) C s3 H1 ex pn) elt te)
  (hs:∀x,foldedSetIterable iter X.env x=pure x:=by intro _;rfl) :
  PE X (.ListComp elt [⟨tg,iter,ifs,0⟩] scope pos) (y7a own.length ix wi g tc te):=by
 intro pins s σ H Q I h
 rw[eval_ListComp]
 refine wpAny_comprehension_free (use:=none) rfl hs (z67 S.T6) S.kind S.names (thn (hi pins s σ H _ I h) fun v s1 h1=>thn h1 fun itv s2 h2=>?_)
 refine z86 (RR:=fun acc C=>compPost (model X.prog X.w) X.A X.xe none (EP X pins σ Q) acc C) S hc hg og mg ht he h2 ?_
 intro D C m H' ys s' I' fC hn hD fin
 refine⟨m,hn,fun h' sb=>?_⟩
 obtain⟨f0,f1,f2,f3,f4,f5⟩:=fC
 have I2:=I'.turned (t':=s'.toks) (h':=h') (it:=C) (fun b o hb e=>(sb.2 b hb).trans e) f0 f1 f3 f4 f5
 exact⟨.ref D,_,I2,rfl,fin D hD⟩
theorem z4G{elt iter tg:Expr}{ifs:List Expr}{pos pos' spos:Pos}{x:Str}{i:Nat}{wi:TI}{g:TG}{tc:TT}{te:TE}(own D4:List Str)(ix:List Nat)
  (hc:X.calm=true) (hN:X.N.Nodup) (hx:X.N[i]? = some x) (hl:Loc X.env.scope x) (S:E5 X scope cl own D4 ix) (hi:PI X tg iter wi)
  (hg:∀C s3 H1 ex pn,PG (z3C X scope cl (own++D4) C s3 H1 ex pn) tg g) (og:T9 own.length g) (mg:z9C g)
  (ht:∀C s3 H1 ex pn,PTs (z3C X scope cl (own++D4) C s3 H1 ex pn) ifs tc)
  (he:∀C s3 H1 ex pn,PE (z3C X scope cl (own++D4) C s3 H1 ex pn) elt te)
  (hsw:swapsWith (.ListComp elt [⟨tg,iter,ifs,0⟩] scope pos) (some (.Name x pos')) spos.line X.env=pure true:=by rfl)
  (hf:X.fn x=true\/X.env.scope.names.lookup x=some .local:=by first|exact .inl rfl|exact .inr rfl|assumption)
  (hs:∀x,foldedSetIterable iter X.env x=pure x:=by intro _;rfl) :
  PS X (.Assign [.Name x pos'] (.ListComp elt [⟨tg,iter,ifs,0⟩] scope pos) spos) (tAsg (y7a own.length ix wi g tc te) (y3q i)):=by
 intro pins s σ H D I h
 rw[exec_Assign_Name_used _ _ _ _ hsw]
 refine wpAny_bind (wpAny_standAt (wpAny_bind ?_))
 show wpAny _ X.A (do let _ <- comprehension (.ListComp elt [⟨tg,iter,ifs,0⟩] scope pos) scope X.env _ (newList []) false (eval iter X.env) (some (assign (.Name x pos') X.env))) _ _ s
 refine wpAny_bind (wpAny_mono (wpAny_comprehension_free (use:=some (assign (.Name x pos') X.env)) (Q:=fun _ s'=>SP X pins D .next s') rfl hs (z67 S.T6) S.kind S.names
  (thn (hi pins s σ H _ I h) fun v s1 h1=>thn h1 fun itv s2 h2=>?_)) (fun _ s' hq=>wpAny_pure (wpAny_pure hq)) fun _ _ e=>e)
 refine z86 (RR:=fun acc C=>compPost (model X.prog X.w) X.A X.xe (some (assign (.Name x pos') X.env)) (fun _ s'=>SP X pins D .next s') acc C) S hc hg og mg ht he h2 ?_
 intro D' C m H' ys s' I' fC hn hD fin
 obtain⟨f0,f1,f2,f3,f4,f5⟩:=fC
 obtain⟨oC,es,ep,hoC,hdC,hr⟩:=id hn
 show wpAny _ X.A (assign (.Name x pos') X.env (.ref D')) _ _ _
 have Ip:Inv X (pins++[(C,oC)]) σ (upd H' D' (.lst ys)) s':=I'.N7 fun p hp=>(bO.mp hp).elim (fun z=>I'.pin p (bY _ z)) fun z=>by
  have e:p=(C,oC):=by simpa using z
  subst e
  exact⟨hoC,f0,f1,f2,fun v z=>by rw[hdC] at z;cases z⟩
 refine thn (z0j hN hx hl hf (pins++[(C,oC)]) s' σ _ (.ref D') (.ref D') _ Ip rfl (fin D' hD)) fun _ s3 ⟨σ3,H3,I3,q3⟩=>?_
 have pC:=I3.pin (C,oC) (bY _ (bY _ (by simp)))
 refine⟨m,⟨oC,es,ep,pC.1,hdC,hr⟩,fun h' sb=>?_⟩
 have I4:Inv X pins σ3 H3 s3:=I3.N6
 exact⟨σ3,H3,I4.turned (t':=s3.toks) (h':=h') (it:=C) (fun b o hb e=>(sb.2 b hb).trans e) pC.2.1 f1 f3 f4 f5,q3⟩
end
section
variable{prog:Program}{w:World}{A:Around}{R:Result->Shared->Prop}{I:Addr}{fp wr:List Addr}{n:Nat}{P:Nat->Value->Prop}{St:Nat->Heap->Prop}
theorem y4h(W:Walks prog w A.in1 I fp wr n P St)(bt:Nat->Nat->Bool)(O9:CmpOf prog w A.in1 .Gt P bt)(S:Addr)(hSf:S∉fp)(kw:List (Str×Value)) :
  ∀(k j:Nat) (s:Shared) (vb:Value) (c:Nat),n-(j+1)=k->j+1≤n->St (j+1) s.heap->P (argBest bt j) vb->
  s.heap.get? S=some { cls:=.type "list",dict:=none,data:=.seq #[vb,vb] c,slots:=#[] }->
  (∀v h' tk,P (argBest bt (n-1)) v->(∀b o,b∉wr->b≠S->s.heap.get? b=some o->h'.get? b=some o)->R (.ok (.ret v)) { s with heap:=h',toks:=tk })->
  codeAny (model prog w) A (.builtin "max.loop" ⟨[.ref I,.none,.ref S],kw⟩) R s:=by
 have hSw:S∉wr:=fun h=>hSf (W.sub _ h)
 have J8:(toString "max"++toString ".loop":String)="max.loop":=by decide
 intro k
 induction k with
 | zero=>
  intro j s vb c hk hj hst hPb hS hR
  have hin:j+1=n:=by omega
  refine codeAny_builtin g0 ?_
  rw[bZ dH _]
  show wpAny _ A.in1 (seqItems? (.ref S) >>= _) _ _ s
  refine wpAny_bind (wpAny_seqItems hS rfl ?_)
  show wpAny _ A.in1 (tryCatch (pyNext (.ref I)) _ >>= _) _ _ s
  refine wpAny_bind (wpAny_tryCatch (W.done s _ _ (hin ▸ hst) fun h' tk hk'=>?_))
  have hS':=hk' S _ hSw hS
  show wpAny _ A.in1 (updateSeq S (fun _=>#[]) >>= _) _ _ _
  refine wpAny_bind ?_
  refine wpAny_updateSeq hS' rfl (wpAny_bind (wpAny_letGo (wpAny_pure ?_)))
  refine hR vb _ tk (by rw[<- hin];exact hPb) fun b o hbw hbS e=>(cN _ _ (d9 hbS)).trans (hk' b o hbw e)
 | succ k ih=>
  intro j s vb c hk hj hst hPb hS hR
  have hlt:j+1<n:=by omega
  refine codeAny_builtin g0 ?_
  rw[bZ dH _]
  show wpAny _ A.in1 (seqItems? (.ref S) >>= _) _ _ s
  refine wpAny_bind (wpAny_seqItems hS rfl ?_)
  show wpAny _ A.in1 (tryCatch (pyNext (.ref I)) _ >>= _) _ _ s
  refine wpAny_bind (wpAny_tryCatch (W.item (j+1) s _ _ hlt hst fun v h' tk hP hst' hk'=>?_))
  have hS':=hk' S _ hSw hS
  show wpAny _ A.in1 (tryCatch (holding [v,v] (richCompare .Gt v vb >>= _)) _ >>= _) _ _ _
  refine wpAny_bind (wpAny_tryCatch (wpAny_holding (wpAny_bind (O9 (j+1) (argBest bt j) v vb _ _ _ hP hPb ?_))))
  refine wpAny_bind (wpAny_holding (wpAny_truthy_bool ?_))
  refine wpAny_bind (wpAny_letGo (wpAny_pure ?_))
  cases hb:bt (j+1) (argBest bt j) with
  | true=>
   simp only[if_true]
   refine wpAny_bind ?_
   refine wpAny_updateSeq hS' rfl (wpAny_bind (wpAny_letGo ?_))
   rw[J8]
   refine wpAny_pure ⟨plainId_quiet dH _,ih (j+1) _ v _ (by omega) hlt (W.frame _ _ _ hst' fun b hbf o e=>?_) (by simp only[argBest,hb,if_true];exact hP) (dB _ hS' rfl)
    fun v' h'' tk'' hP' hk''=>?_⟩
   ·exact(cN _ _ (fun h:S=b=>hSf (by rw[h];exact hbf))).trans e
   ·exact hR v' h'' tk'' hP' fun b o hbw hbS e=>hk'' b o hbw hbS ((cN _ _ (d9 hbS)).trans (hk' b o hbw e))
  | false=>
   simp only[e9,if_false]
   refine wpAny_bind (wpAny_letGo ?_)
   rw[J8]
   refine wpAny_pure ⟨plainId_quiet dH _,ih (j+1) _ vb c (by omega) hlt hst' (by simp only[argBest,hb,e9,if_false];exact hPb) hS' fun v' h'' tk'' hP' hk''=>?_⟩
   exact hR v' h'' tk'' hP' fun b o hbw hbS e=>hk'' b o hbw hbS (hk' b o hbw e)
theorem y35(W:Walks prog w A.in1 I fp wr n P St)(bt:Nat->Nat->Bool)(O9:CmpOf prog w A.in1 .Gt P bt)(S:Addr)(hSf:S∉fp)(kw:List (Str×Value))(hn:0<n){s:Shared}{c:Nat}(hst:St 0 s.heap)
  (hS:s.heap.get? S=some { cls:=.type "list",dict:=none,data:=.seq #[] c,slots:=#[] })
  (hR:∀v h' tk,P (argBest bt (n-1)) v->(∀b o,b∉wr->b≠S->s.heap.get? b=some o->h'.get? b=some o)->R (.ok (.ret v)) { s with heap:=h',toks:=tk }) :
  codeAny (model prog w) A (.builtin "max.loop" ⟨[.ref I,.none,.ref S],kw⟩) R s:=by
 have hSw:S∉wr:=fun h=>hSf (W.sub _ h)
 have J8:(toString "max"++toString ".loop":String)="max.loop":=by decide
 refine codeAny_builtin g0 ?_
 rw[bZ dH _]
 show wpAny _ A.in1 (seqItems? (.ref S) >>= _) _ _ s
 refine wpAny_bind (wpAny_seqItems hS rfl ?_)
 show wpAny _ A.in1 (tryCatch (pyNext (.ref I)) _ >>= _) _ _ s
 refine wpAny_bind (wpAny_tryCatch (W.item 0 s _ _ hn hst fun v h' tk hP hst' hk'=>?_))
 have hS':=hk' S _ hSw hS
 show wpAny _ A.in1 (updateSeq S (fun _=>#[v,v]) >>= _) _ _ _
 refine wpAny_bind ?_
 refine wpAny_updateSeq hS' rfl ?_
 rw[J8]
 refine wpAny_pure ⟨plainId_quiet dH _,y4h W bt O9 S hSf kw _ 0 _ v _ rfl hn (W.frame _ _ _ hst' fun b hbf o e=>?_) hP (dB _ hS' rfl) fun v' h'' tk'' hP' hk''=>?_⟩
 ·exact(cN _ _ (fun h:S=b=>hSf (by rw[h];exact hbf))).trans e
 ·exact hR v' h'' tk'' hP' fun b o hbw hbS e=>hk'' b o hbw hbS ((cN _ _ (d9 hbS)).trans (hk' b o hbw e))
theorem y4k(W:Walks prog w A.in1 I fp wr n P St)(S:Addr)(hSf:S∉fp)(kn:Str)(d:Value)(hn:n=0){s:Shared}{c:Nat}(hst:St 0 s.heap)
  (hS:s.heap.get? S=some { cls:=.type "list",dict:=none,data:=.seq #[] c,slots:=#[] })
  (hR:∀h' tk,(∀b o,b∉wr->s.heap.get? b=some o->h'.get? b=some o)->R (.ok (.ret d)) { s with heap:=h',toks:=tk }) :
  codeAny (model prog w) A (.builtin "max.loop" ⟨[.ref I,.none,.ref S],[(kn,d)]⟩) R s:=by
 refine codeAny_builtin g0 ?_
 rw[bZ dH _]
 show wpAny _ A.in1 (seqItems? (.ref S) >>= _) _ _ s
 refine wpAny_bind (wpAny_seqItems hS rfl ?_)
 show wpAny _ A.in1 (tryCatch (pyNext (.ref I)) _ >>= _) _ _ s
 refine wpAny_bind (wpAny_tryCatch (W.done s _ _ (hn ▸ hst) fun h' tk hk'=>?_))
 exact wpAny_bind (wpAny_rule (wpAny_pure (hR h' tk hk')))
theorem z6t(a v:Value):argsOk "max" ⟨[a],[(Str.ofString "default",v)]⟩:=by unfold argsOk;kernel_rfl
theorem y4f{x d:Value}{s:Shared}{E:Value->Shared->Prop}{Q:Value->Shared->Prop}
  (h:wpAny (model prog w) A.in1 (pyIter x) (fun it s2=>∃I fp wr n P St bt,it=.ref I/\Walks prog w A.in1 I fp wr n P St/\St 0 s2.heap/\(∀b∈fp,b<s2.heap.objs.size)/\CmpOf prog w A.in1 .Gt P bt/\
   (n=0->∀h' tk,(∀b o,b∉wr->s2.heap.get? b=some o->h'.get? b=some o)->Q d { s2 with heap:=h',toks:=tk })/\
   (0<n->∀v h' tk,P (argBest bt (n-1)) v->(∀b o,b∉wr->s2.heap.get? b=some o->h'.get? b=some o)->Q v { s2 with heap:=h',toks:=tk })) E s) :
  wpAny (model prog w) A (call (.builtin "max") [x] [(Str.ofString "default",d)]) Q E s:=by
 have J8:(toString "max"++toString ".loop":String)="max.loop":=by decide
 refine kmk_tree PySem.F.kind_max PySem.F.plain_max PySem.F.entry_max (z6t _ _) ?_
 show wpAny _ A.in1 (Builtin.Builtins.bindParams "max" ["key","default"] 0 ⟨[],[(Str.ofString "default",d)]⟩ >>= _) _ _ s
 refine wpAny_bind (wpAny_of_eq (show Builtin.Builtins.bindParams "max" ["key","default"] 0 ⟨[],[(Str.ofString "default",d)]⟩=pure [none,some d] from by kernel_rfl) ?_)
 refine wpAny_bind (wpAny_pure ?_)
 refine wpAny_bind (wpAny_mono h (fun it s2 h2=>?_) fun _ _ e=>e)
 obtain⟨I,fp,wr,n,P,St,bt,rfl,W,hst,hfp,O9,hQ0,hQ⟩:=h2
 refine wpAny_bind (wpAny_newObj_type ?_)
 have hSf:s2.heap.objs.size∉fp:=fun hm=>dP _ (hfp _ hm)
 rw[J8]
 refine wpAny_pure ⟨plainId_quiet dH _,?_⟩
 by_cases hn:n=0
 ·exact y4k W s2.heap.objs.size hSf _ d hn (W.frame _ _ _ hst fun b _ o e=>b8 _ e) (bC _ rfl) fun h' tk hk=>hQ0 hn h' tk fun b o hbw e=>hk b o hbw (b8 _ e)
 ·exact y35 W bt O9 s2.heap.objs.size hSf _ (gO hn) (W.frame _ _ _ hst fun b _ o e=>b8 _ e) (bC _ rfl) fun v h' tk hP hk=>
   hQ (gO hn) v h' tk hP fun b o hbw e=>hk b o hbw (bU (bJ e)) (b8 _ e)
theorem y4Q(W:Walks prog w A.in1 I fp wr n P St)(bt:Nat->Nat->Bool)(O9:CmpOf prog w A.in1 .Lt P bt)(S:Addr)(hSf:S∉fp)(kw:List (Str×Value)) :
  ∀(k j:Nat) (s:Shared) (vb:Value) (c:Nat),n-(j+1)=k->j+1≤n->St (j+1) s.heap->P (argBest bt j) vb->
  s.heap.get? S=some { cls:=.type "list",dict:=none,data:=.seq #[vb,vb] c,slots:=#[] }->
  (∀v h' tk,P (argBest bt (n-1)) v->(∀b o,b∉wr->b≠S->s.heap.get? b=some o->h'.get? b=some o)->R (.ok (.ret v)) { s with heap:=h',toks:=tk })->
  codeAny (model prog w) A (.builtin "min.loop" ⟨[.ref I,.none,.ref S],kw⟩) R s:=by
 have hSw:S∉wr:=fun h=>hSf (W.sub _ h)
 have J8:(toString "min"++toString ".loop":String)="min.loop":=by decide
 intro k
 induction k with
 | zero=>
  intro j s vb c hk hj hst hPb hS hR
  have hin:j+1=n:=by omega
  refine codeAny_builtin g9 ?_
  rw[bZ dI _]
  show wpAny _ A.in1 (seqItems? (.ref S) >>= _) _ _ s
  refine wpAny_bind (wpAny_seqItems hS rfl ?_)
  show wpAny _ A.in1 (tryCatch (pyNext (.ref I)) _ >>= _) _ _ s
  refine wpAny_bind (wpAny_tryCatch (W.done s _ _ (hin ▸ hst) fun h' tk hk'=>?_))
  have hS':=hk' S _ hSw hS
  show wpAny _ A.in1 (updateSeq S (fun _=>#[]) >>= _) _ _ _
  refine wpAny_bind ?_
  refine wpAny_updateSeq hS' rfl (wpAny_bind (wpAny_letGo (wpAny_pure ?_)))
  refine hR vb _ tk (by rw[<- hin];exact hPb) fun b o hbw hbS e=>(cN _ _ (d9 hbS)).trans (hk' b o hbw e)
 | succ k ih=>
  intro j s vb c hk hj hst hPb hS hR
  have hlt:j+1<n:=by omega
  refine codeAny_builtin g9 ?_
  rw[bZ dI _]
  show wpAny _ A.in1 (seqItems? (.ref S) >>= _) _ _ s
  refine wpAny_bind (wpAny_seqItems hS rfl ?_)
  show wpAny _ A.in1 (tryCatch (pyNext (.ref I)) _ >>= _) _ _ s
  refine wpAny_bind (wpAny_tryCatch (W.item (j+1) s _ _ hlt hst fun v h' tk hP hst' hk'=>?_))
  have hS':=hk' S _ hSw hS
  show wpAny _ A.in1 (tryCatch (holding [v,v] (richCompare .Lt v vb >>= _)) _ >>= _) _ _ _
  refine wpAny_bind (wpAny_tryCatch (wpAny_holding (wpAny_bind (O9 (j+1) (argBest bt j) v vb _ _ _ hP hPb ?_))))
  refine wpAny_bind (wpAny_holding (wpAny_truthy_bool ?_))
  refine wpAny_bind (wpAny_letGo (wpAny_pure ?_))
  cases hb:bt (j+1) (argBest bt j) with
  | true=>
   simp only[if_true]
   refine wpAny_bind ?_
   refine wpAny_updateSeq hS' rfl (wpAny_bind (wpAny_letGo ?_))
   rw[J8]
   refine wpAny_pure ⟨plainId_quiet dI _,ih (j+1) _ v _ (by omega) hlt (W.frame _ _ _ hst' fun b hbf o e=>?_) (by simp only[argBest,hb,if_true];exact hP) (dB _ hS' rfl)
    fun v' h'' tk'' hP' hk''=>?_⟩
   ·exact(cN _ _ (fun h:S=b=>hSf (by rw[h];exact hbf))).trans e
   ·exact hR v' h'' tk'' hP' fun b o hbw hbS e=>hk'' b o hbw hbS ((cN _ _ (d9 hbS)).trans (hk' b o hbw e))
  | false=>
   simp only[e9,if_false]
   refine wpAny_bind (wpAny_letGo ?_)
   rw[J8]
   refine wpAny_pure ⟨plainId_quiet dI _,ih (j+1) _ vb c (by omega) hlt hst' (by simp only[argBest,hb,e9,if_false];exact hPb) hS' fun v' h'' tk'' hP' hk''=>?_⟩
   exact hR v' h'' tk'' hP' fun b o hbw hbS e=>hk'' b o hbw hbS (hk' b o hbw e)
theorem y3h(W:Walks prog w A.in1 I fp wr n P St)(bt:Nat->Nat->Bool)(O9:CmpOf prog w A.in1 .Lt P bt)(S:Addr)(hSf:S∉fp)(kw:List (Str×Value))(hn:0<n){s:Shared}{c:Nat}(hst:St 0 s.heap)
  (hS:s.heap.get? S=some { cls:=.type "list",dict:=none,data:=.seq #[] c,slots:=#[] })
  (hR:∀v h' tk,P (argBest bt (n-1)) v->(∀b o,b∉wr->b≠S->s.heap.get? b=some o->h'.get? b=some o)->R (.ok (.ret v)) { s with heap:=h',toks:=tk }) :
  codeAny (model prog w) A (.builtin "min.loop" ⟨[.ref I,.none,.ref S],kw⟩) R s:=by
 have hSw:S∉wr:=fun h=>hSf (W.sub _ h)
 have J8:(toString "min"++toString ".loop":String)="min.loop":=by decide
 refine codeAny_builtin g9 ?_
 rw[bZ dI _]
 show wpAny _ A.in1 (seqItems? (.ref S) >>= _) _ _ s
 refine wpAny_bind (wpAny_seqItems hS rfl ?_)
 show wpAny _ A.in1 (tryCatch (pyNext (.ref I)) _ >>= _) _ _ s
 refine wpAny_bind (wpAny_tryCatch (W.item 0 s _ _ hn hst fun v h' tk hP hst' hk'=>?_))
 have hS':=hk' S _ hSw hS
 show wpAny _ A.in1 (updateSeq S (fun _=>#[v,v]) >>= _) _ _ _
 refine wpAny_bind ?_
 refine wpAny_updateSeq hS' rfl ?_
 rw[J8]
 refine wpAny_pure ⟨plainId_quiet dI _,y4Q W bt O9 S hSf kw _ 0 _ v _ rfl hn (W.frame _ _ _ hst' fun b hbf o e=>?_) hP (dB _ hS' rfl) fun v' h'' tk'' hP' hk''=>?_⟩
 ·exact(cN _ _ (fun h:S=b=>hSf (by rw[h];exact hbf))).trans e
 ·exact hR v' h'' tk'' hP' fun b o hbw hbS e=>hk'' b o hbw hbS ((cN _ _ (d9 hbS)).trans (hk' b o hbw e))
theorem y4E(W:Walks prog w A.in1 I fp wr n P St)(S:Addr)(hSf:S∉fp)(kn:Str)(d:Value)(hn:n=0){s:Shared}{c:Nat}(hst:St 0 s.heap)
  (hS:s.heap.get? S=some { cls:=.type "list",dict:=none,data:=.seq #[] c,slots:=#[] })
  (hR:∀h' tk,(∀b o,b∉wr->s.heap.get? b=some o->h'.get? b=some o)->R (.ok (.ret d)) { s with heap:=h',toks:=tk }) :
  codeAny (model prog w) A (.builtin "min.loop" ⟨[.ref I,.none,.ref S],[(kn,d)]⟩) R s:=by
 refine codeAny_builtin g9 ?_
 rw[bZ dI _]
 show wpAny _ A.in1 (seqItems? (.ref S) >>= _) _ _ s
 refine wpAny_bind (wpAny_seqItems hS rfl ?_)
 show wpAny _ A.in1 (tryCatch (pyNext (.ref I)) _ >>= _) _ _ s
 refine wpAny_bind (wpAny_tryCatch (W.done s _ _ (hn ▸ hst) fun h' tk hk'=>?_))
 exact wpAny_bind (wpAny_rule (wpAny_pure (hR h' tk hk')))
theorem z6u(a v:Value):argsOk "min" ⟨[a],[(Str.ofString "default",v)]⟩:=by unfold argsOk;kernel_rfl
theorem y4O{x d:Value}{s:Shared}{E:Value->Shared->Prop}{Q:Value->Shared->Prop}
  (h:wpAny (model prog w) A.in1 (pyIter x) (fun it s2=>∃I fp wr n P St bt,it=.ref I/\Walks prog w A.in1 I fp wr n P St/\St 0 s2.heap/\(∀b∈fp,b<s2.heap.objs.size)/\CmpOf prog w A.in1 .Lt P bt/\
   (n=0->∀h' tk,(∀b o,b∉wr->s2.heap.get? b=some o->h'.get? b=some o)->Q d { s2 with heap:=h',toks:=tk })/\
   (0<n->∀v h' tk,P (argBest bt (n-1)) v->(∀b o,b∉wr->s2.heap.get? b=some o->h'.get? b=some o)->Q v { s2 with heap:=h',toks:=tk })) E s) :
  wpAny (model prog w) A (call (.builtin "min") [x] [(Str.ofString "default",d)]) Q E s:=by
 have J8:(toString "min"++toString ".loop":String)="min.loop":=by decide
 refine kmk_tree PySem.F.kind_min PySem.F.plain_min PySem.F.entry_min (z6u _ _) ?_
 show wpAny _ A.in1 (Builtin.Builtins.bindParams "min" ["key","default"] 0 ⟨[],[(Str.ofString "default",d)]⟩ >>= _) _ _ s
 refine wpAny_bind (wpAny_of_eq (show Builtin.Builtins.bindParams "min" ["key","default"] 0 ⟨[],[(Str.ofString "default",d)]⟩=pure [none,some d] from by kernel_rfl) ?_)
 refine wpAny_bind (wpAny_pure ?_)
 refine wpAny_bind (wpAny_mono h (fun it s2 h2=>?_) fun _ _ e=>e)
 obtain⟨I,fp,wr,n,P,St,bt,rfl,W,hst,hfp,O9,hQ0,hQ⟩:=h2
 refine wpAny_bind (wpAny_newObj_type ?_)
 have hSf:s2.heap.objs.size∉fp:=fun hm=>dP _ (hfp _ hm)
 rw[J8]
 refine wpAny_pure ⟨plainId_quiet dI _,?_⟩
 by_cases hn:n=0
 ·exact y4E W s2.heap.objs.size hSf _ d hn (W.frame _ _ _ hst fun b _ o e=>b8 _ e) (bC _ rfl) fun h' tk hk=>hQ0 hn h' tk fun b o hbw e=>hk b o hbw (b8 _ e)
 ·exact y3h W bt O9 s2.heap.objs.size hSf _ (gO hn) (W.frame _ _ _ hst fun b _ o e=>b8 _ e) (bC _ rfl) fun v h' tk hP hk=>
   hQ (gO hn) v h' tk hP fun b o hbw e=>hk b o hbw (bU (bJ e)) (b8 _ e)
end
theorem z92(f:Nat->Int):∀k,argBest (fun i j=>decide (f i > f j)) k≤k/\∀i,i≤k->f i≤f (argBest (fun i j=>decide (f i > f j)) k)
 | 0=>⟨bB _,fun i hi=>by rw[Nat.le_zero.mp hi];exact dU _⟩
 | k+1=>by
  obtain⟨h1,h2⟩:=z92 f k
  unfold argBest
  by_cases c:f (k+1) > f (argBest (fun i j=>decide (f i > f j)) k)
  ·rw[if_pos (decide_eq_true c)]
   refine⟨bB _,fun i hi=>?_⟩
   by_cases e:i=k+1
   ·rw[e];exact dU _
   ·have:=h2 i (by omega)
    omega
  ·rw[if_neg (by rw[decide_eq_false c];exact bF)]
   refine⟨by omega,fun i hi=>?_⟩
   by_cases e:i=k+1
   ·rw[e];omega
   ·exact h2 i (by omega)
theorem z97(f:Nat->Int):∀k,argBest (fun i j=>decide (f i<f j)) k≤k/\∀i,i≤k->f (argBest (fun i j=>decide (f i<f j)) k)≤f i
 | 0=>⟨bB _,fun i hi=>by rw[Nat.le_zero.mp hi];exact dU _⟩
 | k+1=>by
  obtain⟨h1,h2⟩:=z97 f k
  unfold argBest
  by_cases c:f (k+1)<f (argBest (fun i j=>decide (f i<f j)) k)
  ·rw[if_pos (decide_eq_true c)]
   refine⟨bB _,fun i hi=>?_⟩
   by_cases e:i=k+1
   ·rw[e];exact dU _
   ·have:=h2 i (by omega)
    omega
  ·rw[if_neg (by rw[decide_eq_false c];exact bF)]
   refine⟨by omega,fun i hi=>?_⟩
   by_cases e:i=k+1
   ·rw[e];omega
   ·exact h2 i (by omega)
section
variable{X:Cx}
def SqI(K:PySem.W.Frag)(H:Hp)(p:Addr)(ns:List Int):Prop:=SqL K H p (ns.map V.int)\/SqT K H p (ns.map V.int)
theorem z2v{ns:List Int}{its:List Value}(r:Vals (ns.map V.int) its):∀(i:Nat) (v:Value),its.toArray[i]? = some v->∃t,v=.int (ns.getD i 0) t:=by
 intro i v e
 have e':its[i]? = some v:=by simpa using e
 have hi:i<its.length:=(cH.mp e').1
 have hl:=r.length
 rw[b7] at hl
 obtain⟨u,hu,ru⟩:=r.get (i:=i) (x:=.int (ns.getD i 0)) (by
  rw[bH,bP]
  have:ns[i]? = some ns[i]:=bG (by omega)
  rw[this];rfl)
 rw[e'] at hu
 cases hu
 exact ru
theorem z5a{pins:List (Addr×Obj)}{σ:St}{H:Hp}{s:Shared}{p:Addr}{ns:List Int}{A:Around}{E:Value->Shared->Prop}{Q:Value->Shared->Prop}(I:Inv X pins σ H s)(hh:A.handled=none)(hq:SqI X.K H p ns)
  (h:∀(it:Addr) (fp:List Addr) (St:Nat->Heap->Prop) (its:List Value) (s2:Shared),Vals (ns.map V.int) its->Walks X.prog X.w A it fp [it] its.toArray.size (fun i v=>its.toArray[i]? = some v) St->St 0 s2.heap->(∀b∈fp,b<s2.heap.objs.size)->
   (∀h' tk,(∀b o,b∉[it]->s2.heap.get? b=some o->h'.get? b=some o)->Inv X pins σ H { s2 with heap:=h',toks:=tk })->Q (.ref it) s2) :
  wpAny (model X.prog X.w) A (pyIter (.ref p)) Q E s:=by
 have back:∀(o:Obj) (h':Heap) (tk:Nat),(∀b ob,b∉[s.heap.objs.size]->(s.heap.push o).get? b=some ob->h'.get? b=some ob)->Inv X pins σ H { s with heap:=h',toks:=tk }:=fun o h' tk k=>
  I.kept fun b ob e=>k b ob (fun z=>absurd (bJ e) (by rw[b9.mp z];exact dP _)) (b8 _ e)
 rcases hq with hq|hq
 ·obtain⟨its,r,pl,hz⟩:=I.list hq
  have hlt:p<s.heap.objs.size:=by obtain⟨_,e,_⟩:=pl.isList;exact bJ e
  refine wpAny_pyIter_list pl.isList ?_
  refine h s.heap.objs.size [s.heap.objs.size,p] _ its _ r (Walks.list hh s.heap.objs.size p (bU hlt) its.toArray) ⟨⟨_,bC _ rfl,rfl,rfl⟩,pl.isList.push _⟩ (fun b hb=>?_) fun h' tk k=>back _ h' tk k
  show b<(s.heap.push _).objs.size
  rw[eU]
  rcases bA.mp hb with rfl|hb
  ·exact e8 _
  ·rw[b9.mp hb];exact dC hlt
 ·obtain⟨its,r,pl,hz⟩:=I.tuple hq
  have hlt:p<s.heap.objs.size:=by obtain⟨_,e,_⟩:=pl;exact bJ e
  refine wpAny_pyIter_tuple (show s.heap.IsTuple p its.toArray from pl) ?_
  refine h s.heap.objs.size [s.heap.objs.size,p] _ its _ r (Walks.tuple hh s.heap.objs.size p (bU hlt) its.toArray) ⟨⟨_,bC _ rfl,rfl,rfl⟩,?_⟩ (fun b hb=>?_) fun h' tk k=>back _ h' tk k
  ·obtain⟨o,e,c⟩:=(show s.heap.IsTuple p its.toArray from pl)
   exact⟨o,b8 _ e,c⟩
  ·show b<(s.heap.push _).objs.size
   rw[eU]
   rcases bA.mp hb with rfl|hb
   ·exact e8 _
   ·rw[b9.mp hb];exact dC hlt
def y5B(K:PySem.W.Frag)(le:Int->Int->Prop)(ta td:TA):TE:=fun σ H Q=>ta σ H fun xs H1=>td σ H1 fun ds H2=>∃p ns d,xs=[.ref p]/\ds=[d]/\SqI K H2 p ns/\(ns=[]->Q d H2)/\∀m,m∈ns->(∀y∈ns,le y m)->Q (.int m) H2
theorem z6v{ns:List Int}{i:Nat}(h:i<ns.length):ns.getD i 0∈ns:=by
 rw[bP,bG h]
 exact fM h
theorem z6w{ns:List Int}{y:Int}(h:y∈ns):∃i,i<ns.length/\ns.getD i 0=y:=by
 obtain⟨i,hi,e⟩:=List.mem_iff_getElem.mp h
 refine⟨i,hi,?_⟩
 rw[bP,bG hi]
 exact e
theorem y2f{e:Expr}{p pos kp:Pos}{dx:Expr}{ta td:TA}(hc:X.calm=true)(hg:Gl X "max")(hm:X.mg "max"=none)(ha:PA X [e] ta)(hd:PK X [⟨some (Str.ofString "default"),dx,kp⟩] td)
  (he:backTo pos (starEach [e] X.env)=(false,eval e X.env)::backTo pos (starEach [] X.env):=by rfl)
  (P0:(backTo pos (starEach [e] X.env)).any (·.1)=false:=by rfl)
  (B4:(backToKw pos (keywordEach [⟨some (Str.ofString "default"),dx,kp⟩] X.env)).all (·.1.isSome)=true:=by rfl)
  (hkw:(backToKw pos (keywordEach [⟨some (Str.ofString "default"),dx,kp⟩] X.env)).any (·.1.isNone)=false:=by rfl) :
  PE X (.Call (.Name "max" p) [e] [⟨some (Str.ofString "default"),dx,kp⟩] pos) (y5B X.K (fun y m=>y≤m) ta td):=by
 intro pins s σ H Q I h
 refine wpAny_Call_Name_kw (z4Y I hg hm gC ?_)
 refine PyProof.Rows.callWith_kw (thn (ha pos pins s σ H _ I h) fun us s1 ⟨vs,H1,I1,r,q⟩=>?_) he P0 B4 hkw
 refine thn (hd pos pins s1 σ H1 _ I1 q) fun ws s2 ⟨zs,H2,I2,rz,q2⟩=>?_
 obtain⟨a,ns,d,e1,e2,hq,q0,q1⟩:=q2
 subst e1 e2
 obtain⟨u,rfl,ru⟩:=z3H r
 cases ru
 obtain⟨dv,rfl,rd⟩:=z3H rz
 show wpAny _ X.A (call (.builtin "max") [.ref a] [(Str.ofString "default",dv)]) _ _ _
 refine y4f (z5a (A:=X.A.in1) I2 (I2.ok.hd hc) hq fun it fp St its s3 rv W st hfp back=>?_)
 have hl:=rv.length
 rw[b7] at hl
 refine⟨it,fp,[it],_,_,St,_,rfl,W,st,hfp,CmpOf.ints_gt (fun i=>ns.getD i 0) (z2v rv),fun hn h' tk k=>?_,fun hn v h' tk hv k=>?_⟩
 ·rw[bK] at hn
  exact⟨d,H2,back h' tk k,rd,q0 (cU (by omega))⟩
 ·rw[bK] at hn hv
  obtain⟨t,rfl⟩:=z2v rv _ _ hv
  obtain⟨b1,b2⟩:=z92 (fun i=>ns.getD i 0) (its.length-1)
  refine⟨.int _,H2,back h' tk k,⟨t,rfl⟩,q1 _ (z6v (by omega)) fun y hy=>?_⟩
  obtain⟨i,hi,rfl⟩:=z6w hy
  exact b2 i (by omega)
theorem y3e{e:Expr}{p pos kp:Pos}{dx:Expr}{ta td:TA}(hc:X.calm=true)(hg:Gl X "min")(hm:X.mg "min"=none)(ha:PA X [e] ta)(hd:PK X [⟨some (Str.ofString "default"),dx,kp⟩] td)
  (he:backTo pos (starEach [e] X.env)=(false,eval e X.env)::backTo pos (starEach [] X.env):=by rfl)
  (P0:(backTo pos (starEach [e] X.env)).any (·.1)=false:=by rfl)
  (B4:(backToKw pos (keywordEach [⟨some (Str.ofString "default"),dx,kp⟩] X.env)).all (·.1.isSome)=true:=by rfl)
  (hkw:(backToKw pos (keywordEach [⟨some (Str.ofString "default"),dx,kp⟩] X.env)).any (·.1.isNone)=false:=by rfl) :
  PE X (.Call (.Name "min" p) [e] [⟨some (Str.ofString "default"),dx,kp⟩] pos) (y5B X.K (fun y m=>m≤y) ta td):=by
 intro pins s σ H Q I h
 refine wpAny_Call_Name_kw (z4Y I hg hm gD ?_)
 refine PyProof.Rows.callWith_kw (thn (ha pos pins s σ H _ I h) fun us s1 ⟨vs,H1,I1,r,q⟩=>?_) he P0 B4 hkw
 refine thn (hd pos pins s1 σ H1 _ I1 q) fun ws s2 ⟨zs,H2,I2,rz,q2⟩=>?_
 obtain⟨a,ns,d,e1,e2,hq,q0,q1⟩:=q2
 subst e1 e2
 obtain⟨u,rfl,ru⟩:=z3H r
 cases ru
 obtain⟨dv,rfl,rd⟩:=z3H rz
 show wpAny _ X.A (call (.builtin "min") [.ref a] [(Str.ofString "default",dv)]) _ _ _
 refine y4O (z5a (A:=X.A.in1) I2 (I2.ok.hd hc) hq fun it fp St its s3 rv W st hfp back=>?_)
 have hl:=rv.length
 rw[b7] at hl
 refine⟨it,fp,[it],_,_,St,_,rfl,W,st,hfp,CmpOf.ints_lt (fun i=>ns.getD i 0) (z2v rv),fun hn h' tk k=>?_,fun hn v h' tk hv k=>?_⟩
 ·rw[bK] at hn
  exact⟨d,H2,back h' tk k,rd,q0 (cU (by omega))⟩
 ·rw[bK] at hn hv
  obtain⟨t,rfl⟩:=z2v rv _ _ hv
  obtain⟨b1,b2⟩:=z97 (fun i=>ns.getD i 0) (its.length-1)
  refine⟨.int _,H2,back h' tk k,⟨t,rfl⟩,q1 _ (z6v (by omega)) fun y hy=>?_⟩
  obtain⟨i,hi,rfl⟩:=z6w hy
  exact b2 i (by omega)
def Q9(i:Int)(n:Nat):List V:=(List.range n).map fun(k:Nat)=>V.int (i+(k:Int))
theorem y45:z3b X (.type "range") (fun xs H Q=>∃i j,xs=[.int i,.int j]/\∀p,H p=none->Q (.ref p) (upd H p (.rng i j))):=by
 intro pins s σ H xs us Q I r h
 obtain⟨i,j,rfl,q⟩:=h
 obtain⟨u,w',rfl,⟨t,rfl⟩,⟨t',rfl⟩⟩:=y4N r
 refine call_range_2 ?_
 refine⟨.ref s.heap.objs.size,_,I.laid (fun b o e=>b8 _ e) (bB _) (show z1g X.prog X.w _ _ _ (.rng i j) from⟨t,t',s.toks,bC _ rfl⟩),rfl,q _ (I.hok.fresh (bB _))⟩
theorem z99{prog:Program}{w:World}{A:Around}{E:Value->Shared->Prop}{s:Shared}{Q:List Value->Shared->Prop}{r:Addr}{a b c:Int}{t u v:Tok}{n:Nat}(hh:A.handled=none)(hr:IsRange s.heap r a b c t u v)(T1:Builtin.Range.small a b c=true)
  (hn:Builtin.Range.rangeSize a b c=n) (hlen:n≤2^24)
  (hQ:∀h' tk acc,(∀b o,s.heap.get? b=some o->h'.get? b=some o)->ItemsOf (fun i v=>∃t,v=.int (a+i*c) t) acc n->Q acc.toList { s with heap:=h',toks:=tk }) :
  wpAny (model prog w) A (collect (.ref r)) Q E s:=by
 unfold collect
 refine wpAny_bind (wpAny_runValue (codeAny_builtin PySem.F.entry_proto_collect ?_))
 rw[bZ gI _]
 show wpAny _ A.in1 (newList [] >>= fun l=>again (.builtin "list.__iadd__" ⟨[l,.ref r],[]⟩)) _ _ s
 refine wpAny_bind (wpAny_newObj_type ?_)
 refine wpAny_pure ⟨plainId_quiet dW _,codeAny_builtin PySem.F.entry_list_iadd ?_⟩
 rw[bZ dW _]
 show wpAny _ A.in1 (Builtin.List.listExtendWith (.ref s.heap.objs.size) (.ref r) (.ref s.heap.objs.size)) _ _ _
 have hS:(s.heap.push { cls:=.type "list",data:=.seq ([]:List Value).toArray }).get? s.heap.objs.size=some { cls:=.type "list",data:=.seq #[] 0 }:=bC _ rfl
 have fin:∀(r':Result) (s':Shared),(∃h' tk acc c',r'=.ok (.ret (.ref s.heap.objs.size))/\s'={ s with heap:=h',toks:=tk }/\(∀b o,s.heap.get? b=some o->h'.get? b=some o)/\
   h'.get? s.heap.objs.size=some { cls:=.type "list",dict:=none,data:=.seq acc c',slots:=#[] }/\ItemsOf (fun i v=>∃t,v=.int (a+i*c) t) acc n)->
   match r' with
   | Except.ok (Flow.ret v)=>wpAny (model prog w) A (match v with
     | Value.ref a=>do
      match (<- load a).data with
       | Data.seq xs _=>pure xs.toList
       | _=>unsupported "internal:collect"
     | _=>unsupported "internal:collect") Q E s'
   | Except.ok _=>False
   | Except.error e=>E e s':=by
  rintro r' s' ⟨h',tk,acc,c',rfl,rfl,hk,hS',hacc⟩
  show wpAny _ A (load s.heap.objs.size >>= _) _ _ _
  refine wpAny_bind (wpAny_load hS' ?_)
  exact wpAny_pure (hQ h' tk acc hk hacc)
 refine wpAny_mono (wpAny_extend_range (A:=A) (R:=fun r' s'=>∃h' tk acc c',r'=.ok (.ret (.ref s.heap.objs.size))/\s'={ s with heap:=h',toks:=tk }/\(∀b o,s.heap.get? b=some o->h'.get? b=some o)/\
   h'.get? s.heap.objs.size=some { cls:=.type "list",dict:=none,data:=.seq acc c',slots:=#[] }/\ItemsOf (fun i v=>∃t,v=.int (a+i*c) t) acc n)
  (s:={ s with heap:=s.heap.push { cls:=.type "list",data:=.seq ([]:List Value).toArray } }) hh (b8 _ hr) T1 hn hlen s.heap.objs.size _ 0 hS
  fun h' tk acc c' hk hS' hacc=>⟨h',tk,acc,c',rfl,rfl,fun b o e=>hk b o (bU (bJ e)) (b8 _ e),hS',hacc⟩) (fun f s' h=>?_) (fun e s' h=>?_)
 ·cases f with
  | done f=>exact fin _ _ h
  | again c'=>exact⟨h.1,codeAny_mono h.2 fun r' s'' hr'=>fin _ _ hr'⟩
 ·obtain⟨_,_,_,_,e,_⟩:=h
  cases e
theorem z6K(r:Addr)(a b:Int)(t u v:Tok)(n:Nat)(T1:Builtin.Range.small a b 1=true)(hn:Builtin.Range.rangeSize a b 1=n)(hlen:n≤2^24) :
  Meets (Builtin.«tuple.__new__» ⟨[.type "tuple",.ref r],[]⟩)
   (fun A R s=>A.handled=none/\IsRange s.heap r a b 1 t u v/\∀(h':Heap) (tk:Nat) (acc:Array Value),(∀b o,s.heap.get? b=some o->h'.get? b=some o)->ItemsOf (fun i v=>∃t,v=.int (a+i*1) t) acc n->
    R (.ok (.ret (.ref h'.objs.size))) { s with heap:=h'.push { cls:=.type "tuple",data:=.seq acc },toks:=tk }):=
 .of_wp fun prog w A R s h=>by
  obtain⟨hp,g,d,tk0,os⟩:=s
  obtain⟨hh,hr,h⟩:=h
  have hsub:=sub_tuple_self
  have hinit:=init_tuple_lookup
  have hmh:=madeHere_tuple
  have hT:Shared.TypeIs ⟨hp,g,d,tk0,os⟩ (.ref r) "range":=⟨_,hr,rfl⟩
  have hh1:A.in1.handled=none:=hh
  wp_walk using wpAny_typeOf hT,z99 hh1 hr T1 hn hlen
  intro h' tk acc hk hacc
  show wpAny _ _ (Builtin.Tuple.tupleExact acc.toList.toArray >>= fun v=>ret v) _ _ _
  unfold Builtin.Tuple.tupleExact
  refine wpAny_bind (wpAny_newObj_type ?_ (show acc.toList.toArray.size≤sizeLine by simp only[Array.toArray_toList];rw[hacc.1,sizeLine_eq];omega))
  refine wpAny_pure ⟨_,rfl,?_⟩
  have e:acc.toList.toArray=acc:=by simp
  rw[e]
  exact h h' tk acc hk hacc
theorem y4H{a:Int}{acc:Array Value}{n:Nat}(h:ItemsOf (fun i v=>∃t,v=Value.int (a+(i:Int)*1) t) acc n):Vals (Q9 a n) acc.toList:=by
 have go:∀(l:List Value) (k:Nat),(∀(j:Nat) (v:Value),l[j]? = some v->∃t,v=Value.int (a+((k+j:Nat):Int)) t)->Vals ((List.range' k l.length).map fun(j:Nat)=>V.int (a+(j:Int))) l:=by
  intro l
  induction l with
  | nil=>intro k _;exact .nil
  | cons x r ih=>
   intro k hx
   rw[cC,List.range'_succ,cK]
   refine .cons ?_ (ih (k+1) fun j v e=>?_)
   ·obtain⟨t,e⟩:=hx 0 x rfl
    exact⟨t,e⟩
   ·obtain⟨t,e'⟩:=hx (j+1) v (by simpa using e)
    refine⟨t,e'.trans ?_⟩
    congr 1
    omega
 have q:=go acc.toList 0 fun j v e=>by
  obtain⟨t,e'⟩:=h.2 j v (by simpa using e)
  exact⟨t,by rw[e'];congr 1;first|done|omega⟩
 unfold Q9
 rw[List.range_eq_range']
 have hn:acc.toList.length=n:=by simpa using h.1
 rw[hn] at q
 exact q
theorem z7U(hc:X.calm=true):z3b X (.type "tuple") (fun xs H Q=>∃p i j,xs=[.ref p]/\H p=some (.rng i j)/\(-(2^62)≤i/\i<2^62/\-(2^62)≤j/\j<2^62)/\(j-i).toNat≤2^24/\
  ∀l,H l=none->Q (.ref l) (upd H l (.tup (Q9 i (j-i).toNat)))):=by
 intro pins s σ H xs us Q I r h
 obtain⟨p,i,j,rfl,hp,⟨h1,h2,h3,h4⟩,hlen,q⟩:=h
 obtain⟨u,rfl,rx⟩:=z3H r
 cases rx
 obtain⟨t,u',v,e⟩:=(show z1g X.prog X.w H s.heap p (.rng i j) from I.hok p _ hp)
 have hn:Builtin.Range.rangeSize i j 1=(((j-i).toNat:Nat):Int):=by rw[rangeSize_one];split<;>omega
 refine callType_new PySem.F.called_tuple (by decide) (PySem.F.typeCall_tuple_1 _) (PySem.F.newCall_tuple_1 _) (fun obj=>PySem.F.args_object_init_2 obj _) PySem.F.entry_tuple_new
  (z6K p i j t u' v _ (small_one h1 h2 h3 h4) hn hlen) ⟨I.ok.hd hc,e,fun h' tk acc hk hacc=>⟨⟨_,bC _ rfl,rfl⟩,?_⟩⟩
 have I1:Inv X pins σ H { s with heap:=h',toks:=tk }:=I.kept hk
 have z:(Q9 i (j-i).toNat).length≤sizeLine:=by unfold Q9;rw[b7,dQ,sizeLine_eq];omega
 have I2:Inv X pins σ (upd H h'.objs.size (.tup (Q9 i (j-i).toNat))) { s with heap:=h'.push { cls:=.type "tuple",data:=.seq acc },toks:=tk }:=
  I1.laid (t':=tk) (fun b o e=>b8 _ e) (bB _) (show z1g X.prog X.w _ _ _ (.tup _) from⟨z,acc.toList,y4H hacc,by simpa using PlT.new h' acc⟩)
 exact⟨.ref h'.objs.size,_,I2,rfl,q _ (I1.hok.fresh (bB _))⟩
theorem z7c:z3b X (.builtin "sorted") (fun xs H Q=>∃(p:Addr) (ns:List Int),xs=[.ref p]/\SqL X.K H p (ns.map V.int)/\ns.length<64/\
  ∀(l:Addr) (ns':List Int),H l=none->ns'.Perm ns->ns'.Pairwise (·≤·)->Q (.ref l) (upd H l (.lst (ns'.map V.int)))):=by
 intro pins s σ H xs us Q I r h
 obtain⟨p,ns,rfl,hq,h64,q⟩:=h
 obtain⟨u,rfl,rx⟩:=z3H r
 cases rx
 obtain⟨its,rv,pl,hz⟩:=I.list hq
 have hl:=rv.length
 rw[b7] at hl hz
 refine sorted_ints pl.isList (y1X rv) (by omega) fun out ns' a1 a2 a3=>?_
 obtain⟨e,he⟩:=sortedAll_at s.heap its out
 have hlen:=a2.length_eq
 refine⟨.ref (s.heap.objs.size+1),_,I.laid (t':=s.toks) (fun b o e=>sortedAll_old e) (eI _) (show z1g X.prog X.w _ _ _ (.lst (ns'.map V.int)) from⟨?_,out.toList,e,z40 a1,?_⟩),rfl,q _ ns' (I.hok.fresh (eI _)) a2 a3⟩
 ·rw[b7,hlen];exact hz
 ·simpa using he
def Itd(hi:Int)(n:Nat):It:=⟨fun i _=>i<n,fun i H x H'=>H'=H/\x=.int (hi-i),fun i _=>n≤i⟩
theorem y3l{P:Program}{w:World}{K:PySem.W.Frag}{tg:Expr}(it:Addr)(hi:Int)(n:Nat):Turn P w K tg (Itd hi n) [it] it (fun i h=>IsRangeIter h it (hi+(i:Nat)*(-1)) ((n:Int)-(i:Nat)) (-1)) where
 mem:=by simp
 obj:=fun i h st b hb=>by
  have e:b=it:=by simpa using hb
  subst e
  exact⟨_,st,fun v z=>by
   have z':Data.fields _=Data.cell v:=z
   cases z'⟩
 keep:=fun i h h' st k=>k it (by simp) _ st
 item:=by
  intro X hP hw hK hc i pins s σ H E I hf st hg
  subst hP hw hK
  obtain⟨f0,f1,f2,f3,f4,f5⟩:=hf it (by simp)
  have W:=Walks.range (prog:=X.prog) (w:=X.w) (I.ok.hd hc) it hi (-1) n
  refine W.item i s _ _ hg st fun v h' tk hv st' kk=>?_
  obtain⟨t,rfl⟩:=hv
  have I1:Inv X pins σ H { s with heap:=h',toks:=tk }:=I.turned (fun b o hb e=>kk b o (by simpa using hb) e) f0 f1 f3 f4 f5
  refine⟨_,rfl,y29 (s:={ s with heap:=h',toks:=tk }) (n:="range_iterator") st' rfl rfl (by decide) ⟨.int (hi-i),H,I1,⟨t,?_⟩,⟨rfl,rfl⟩,st',fun b hb=>(hf b hb).1⟩⟩
  congr 1
  omega
 done:=by
  intro X hP hw hK hc i pins s σ H E I hf st hg
  subst hP hw hK
  obtain⟨f0,f1,f2,f3,f4,f5⟩:=hf it (by simp)
  exact wpAny_pyNext_range_end (I.ok.hd hc) st (by have:n≤i:=hg;omega) fun h' eb=>⟨rfl,I.turned (t':=s.toks) (fun b o hb e=>eb b o hb e) f0 f1 f3 f4 f5⟩
 self:=fun _ _ _ _ _ st h=>wpAny_pyIter_rangeiter st h
theorem z4r(a b:Int):Builtin.Range.rangeSize a b (-1)=(((a-b).toNat:Nat):Int):=by
 unfold Builtin.Range.rangeSize
 rw[if_neg (by decide)]
 by_cases h:a > b
 ·rw[if_pos h]
  have e:(a-b-1) / (- -1)=a-b-1:=by
   show(a-b-1) / 1=_
   exact Int.ediv_one _
  rw[e]
  omega
 ·rw[if_neg h]
  omega
theorem y1K{a b:Int}(ha:-(2^62)≤a)(ha':a<2^62)(hb:-(2^62)≤b)(hb':b<2^62):Builtin.Range.small a b (-1)=true:=by
 unfold Builtin.Range.small
 rw[z4r]
 simp only[Builtin.Range.rangeFitsLong,bQ,j7,decide_eq_true_eq,beq_iff_eq]
 refine⟨?_,?_⟩<;>first|omega|(split<;>omega)|(simp<;>omega)
end
section
variable{X:Cx}{tg:Expr}
def w0A(ta:TA):TI:=fun σ H R=>ta σ H fun vs H1=>∃i j:Int,vs=[.int i,.int j,.int (-1)]/\(-(2^62)≤i/\i<2^62/\-(2^62)≤j/\j<2^62)/\R (Itd i (i-j).toNat) H1
theorem y2t{a b c:Expr}{ta:TA}{p pos:Pos}(hg:Gl X "range")(hm:X.mg "range"=none)(ha:PA X [a,b,c] ta)
  (hs:starEach [a,b,c] X.env=[(false,eval a X.env),(false,eval b X.env),(false,eval c X.env)]:=by rfl) (hs2:starEach [b,c] X.env=[(false,eval b X.env),(false,eval c X.env)]:=by rfl) :
  PI X tg (.Call (.Name "range" p) [a,b,c] [] pos) (w0A ta):=by
 intro pins s σ H R I h
 refine Call_ (z4Y I hg hm boot_range (dZ (thn (ha pos pins s σ H _ I h) fun us s1 ⟨vs,H1,I1,r1,q1⟩=>?_) (by rw[hs,hs2]) (by rw[hs2];rfl)))
 obtain⟨i,j,e,⟨q1,q2,q3,q4⟩,q⟩:=q1
 subst e
 cases r1 with
 | cons r rr=>
  cases rr with
  | cons r' rr=>
   cases rr with
   | cons r'' rr=>
    cases rr
    obtain⟨t,rfl⟩:=r
    obtain⟨t',rfl⟩:=r'
    obtain⟨t'',rfl⟩:=r''
    refine call_range_3 (by decide) ?_ (.inl (PyProof.noPylong_small (by decide)))
    refine wpAny_pyIter_range (IsRange.new ..) (y1K q1 q2 q3 q4) ?_
    have I2:Inv X pins σ H1 { s1 with heap:=s1.heap.push { cls:=.type "range",data:=.fields #[.int i t,.int j t',.int (-1) t''] },toks:=s1.toks }:=I1.kept fun b o e=>b8 _ e
    refine⟨(s1.heap.push { cls:=.type "range",data:=.fields #[.int i t,.int j t',.int (-1) t''] }).objs.size,[(s1.heap.push { cls:=.type "range",data:=.fields #[.int i t,.int j t',.int (-1) t''] }).objs.size],_,_,H1,rfl,
     I2.kept (t':=s1.toks) fun b o e=>b8 _ e,y3l _ i (i-j).toNat,?_,fun b hb=>?_,q⟩
    ·have e1:i+((0:Nat):Int)*(-1)=i:=by simp
     have e2:(((i-j).toNat:Nat):Int)-((0:Nat):Int)=Builtin.Range.rangeSize i j (-1):=by rw[z4r];omega
     show IsRangeIter _ _ (i+((0:Nat):Int)*(-1)) ((((i-j).toNat:Nat):Int)-((0:Nat):Int)) (-1)
     rw[e1,e2]
     exact bC _ rfl
    ·have e:b=(s1.heap.push { cls:=.type "range",data:=.fields #[.int i t,.int j t',.int (-1) t''] }).objs.size:=by simpa using hb
     subst e
     exact I2.R1 (bB _) (I2.hok.fresh (bB _))
end
theorem y4Y{hi:Int}{n:Nat}{g:TG}{tb:TS}{D:Ends}{σ:St}{H:Hp}(Pv:Nat->St->Hp->Prop)(h0:Pv 0 σ H)
  (hs:∀i σ H,i<n->Pv i σ H->g (.int (hi-i)) σ H fun σ2 H2=>tb { D with nx:=Pv (i+1),ct:=Pv (i+1),bk:=D.nx } σ2 H2) (hd:∀σ H,Pv n σ H->D.nx σ H) :
  ∃W:Nat->Nat->St->Hp->Prop,(∃m,W 0 m σ H)/\∀i m σ H,W i m σ H->
   ((Itd hi n).stop i H/\D.nx σ H)\/((Itd hi n).go i H/\∃N:St->Hp->Prop,(∀σ' H',N σ' H'->∃m',m'<m/\W (i+1) m' σ' H')/\∀x H',(Itd hi n).yld i H x H'->g x σ H' fun σ2 H2=>tb { D with nx:=N,ct:=N,bk:=D.nx } σ2 H2):=by
 refine⟨fun i m σ H=>m=n-i/\i≤n/\Pv i σ H,⟨n,by simp,cQ _,h0⟩,?_⟩
 rintro i m σ H ⟨rfl,hi',p⟩
 by_cases hlt:i<n
 ·refine .inr ⟨hlt,Pv (i+1),fun σ' H' p'=>⟨n-(i+1),by omega,rfl,hlt,p'⟩,fun x H' y=>?_⟩
  obtain⟨e,y⟩:=y
  subst e y
  exact hs i σ _ hlt p
 ·have e:i=n:=by omega
  subst e
  exact .inl ⟨bB _,hd σ H p⟩
abbrev z9m(J:It)(g:TG)(tc:TT)(te:TE)(σ0:St)(H1:Hp)(F:List V->Hp->Prop):Prop:=
 ∃W:Nat->Nat->List V->Hp->Prop,(∃m,W 0 m [] H1)/\∀i m ys H,W i m ys H->
  (J.stop i H/\F ys H)\/(J.go i H/\ys.length<sizeLine/\∃N:List V->Hp->Prop,(∀zs H',N zs H'->∃m',m'<m/\W (i+1) m' zs H')/\
   ∀x H',J.yld i H x H'->z1z g tc te σ0 x H' ys N)
theorem z3Z{K:PySem.W.Frag}{a:Addr}{xs:List V}{g:TG}{tc:TT}{te:TE}{σ0:St}{H1:Hp}{F:List V->Hp->Prop}(Pv:Nat->List V->Hp->Prop)(h0:Pv 0 [] H1)
  (hl:∀i ys H,i≤xs.length->Pv i ys H->SqL K H a xs/\ys.length<sizeLine)
  (hs:∀i x ys H,xs[i]? = some x->Pv i ys H->z1z g tc te σ0 x H ys (Pv (i+1))) (hd:∀ys H,Pv xs.length ys H->F ys H):z9m (Itl K a) g tc te σ0 H1 F:=by
 refine⟨fun i m ys H=>m=xs.length-i/\i≤xs.length/\Pv i ys H,⟨xs.length,by simp,cQ _,h0⟩,?_⟩
 rintro i m ys H ⟨rfl,hi,p⟩
 obtain⟨q,z⟩:=hl i ys H hi p
 by_cases hlt:i<xs.length
 ·refine .inr ⟨⟨xs,xs[i],q,by simp[hlt]⟩,z,Pv (i+1),fun zs H' p'=>⟨xs.length-(i+1),by omega,rfl,hlt,p'⟩,fun x H' y=>?_⟩
  obtain⟨e,y⟩:=y
  subst e
  exact hs i x ys _ (y xs q) p
 ·have e:i=xs.length:=by omega
  subst e
  exact .inl ⟨⟨xs,q,bB _⟩,hd ys H p⟩
theorem z1r{K:PySem.W.Frag}{a:Addr}{xs:List V}{g:TG}{tc:TT}{te:TE}{σ0:St}{H1:Hp}{F:List V->Hp->Prop}(Pv:Nat->List V->Hp->Prop)(h0:Pv 0 [] H1)
  (hl:∀i ys H,i≤xs.length->Pv i ys H->SqT K H a xs/\ys.length<sizeLine)
  (hs:∀i x ys H,xs[i]? = some x->Pv i ys H->z1z g tc te σ0 x H ys (Pv (i+1))) (hd:∀ys H,Pv xs.length ys H->F ys H):z9m (Itt K a) g tc te σ0 H1 F:=by
 refine⟨fun i m ys H=>m=xs.length-i/\i≤xs.length/\Pv i ys H,⟨xs.length,by simp,cQ _,h0⟩,?_⟩
 rintro i m ys H ⟨rfl,hi,p⟩
 obtain⟨q,z⟩:=hl i ys H hi p
 by_cases hlt:i<xs.length
 ·refine .inr ⟨⟨xs,xs[i],q,by simp[hlt]⟩,z,Pv (i+1),fun zs H' p'=>⟨xs.length-(i+1),by omega,rfl,hlt,p'⟩,fun x H' y=>?_⟩
  obtain⟨e,y⟩:=y
  subst e
  exact hs i x ys _ (y xs q) p
 ·have e:i=xs.length:=by omega
  subst e
  exact .inl ⟨⟨xs,q,bB _⟩,hd ys H p⟩
theorem y20{lo:Int}{n:Nat}{g:TG}{tc:TT}{te:TE}{σ0:St}{H1:Hp}{F:List V->Hp->Prop}(Pv:Nat->List V->Hp->Prop)(h0:Pv 0 [] H1)
  (hl:∀i ys H,i≤n->Pv i ys H->ys.length<sizeLine)
  (hs:∀i ys H,i<n->Pv i ys H->z1z g tc te σ0 (.int (lo+i)) H ys (Pv (i+1))) (hd:∀ys H,Pv n ys H->F ys H):z9m (Itr lo n) g tc te σ0 H1 F:=by
 refine⟨fun i m ys H=>m=n-i/\i≤n/\Pv i ys H,⟨n,by simp,cQ _,h0⟩,?_⟩
 rintro i m ys H ⟨rfl,hi,p⟩
 have z:=hl i ys H hi p
 by_cases hlt:i<n
 ·refine .inr ⟨hlt,z,Pv (i+1),fun zs H' p'=>⟨n-(i+1),by omega,rfl,hlt,p'⟩,fun x H' y=>?_⟩
  obtain⟨e,y⟩:=y
  subst e y
  exact hs i ys _ hlt p
 ·have e:i=n:=by omega
  subst e
  exact .inl ⟨bB _,hd ys H p⟩
def z2b{α:Type}(p:α->Bool)(f:α->V)(zs:List α):List V:=(zs.filter p).map f
theorem z5V{α:Type}(p:α->Bool)(f:α->V)(zs:List α)(z:α):z2b p f (zs++[z])=if p z=true then z2b p f zs++[f z] else z2b p f zs:=by
 unfold z2b
 rw[dR,bD]
 cases h:p z<;>simp[h]
theorem z94{α:Type}(p:α->Bool)(f:α->V)(zs:List α):(z2b p f zs).length≤zs.length:=by
 unfold z2b
 rw[b7]
 exact cM _ _
theorem z0r{α:Type}{zs:List α}{i:Nat}{z:α}(h:zs[i]? = some z):zs.take (i+1)=zs.take i++[z]:=by
 rw[dX,h]
 rfl
theorem z9E{K:PySem.W.Frag}{a:Addr}{ns:List Int}{g:TG}{tc:TT}{te:TE}{σ0:St}{H1:Hp}{F:List V->Hp->Prop}(p:Int->Bool)(f:Int->V)(hq:SqL K H1 a (ns.map V.int))(hz:ns.length≤1000)
  (hs:∀n ys N,n∈ns->N (if p n=true then ys++[f n] else ys) H1->z1z g tc te σ0 (.int n) H1 ys N) (hd:F (z2b p f ns) H1):z9m (Itl K a) g tc te σ0 H1 F:=by
 refine z3Z (xs:=ns.map V.int) (fun i ys H=>H=H1/\ys=z2b p f (ns.take i)) ⟨rfl,rfl⟩ (fun i ys H hi hp=>?_) (fun i x ys H hx hp=>?_) (fun ys H hp=>?_)
 ·obtain⟨rfl,rfl⟩:=hp
  refine⟨hq,z0g ?_⟩
  have h1:=z94 p f (ns.take i)
  have h2:=List.length_take_le i ns
  have h3:(ns.take i).length≤ns.length:=by rw[bN];omega
  omega
 ·obtain⟨rfl,rfl⟩:=hp
  rw[bH] at hx
  cases e:ns[i]? with
  | none=>rw[e] at hx;cases hx
  | some n=>
   rw[e] at hx
   cases hx
   refine hs n _ _ (bT e) ⟨rfl,?_⟩
   rw[z0r e,z5V]
 ·obtain⟨rfl,rfl⟩:=hp
  rw[b7,bR]
  exact hd
theorem z83{K:PySem.W.Frag}{a:Addr}{ns:List Int}{g:TG}{tc:TT}{te:TE}{σ0:St}{H1:Hp}{F:List V->Hp->Prop}(p:Int->Bool)(f:Int->V)(hq:SqT K H1 a (ns.map V.int))(hz:ns.length≤1000)
  (hs:∀n ys N,n∈ns->N (if p n=true then ys++[f n] else ys) H1->z1z g tc te σ0 (.int n) H1 ys N) (hd:F (z2b p f ns) H1):z9m (Itt K a) g tc te σ0 H1 F:=by
 refine z1r (xs:=ns.map V.int) (fun i ys H=>H=H1/\ys=z2b p f (ns.take i)) ⟨rfl,rfl⟩ (fun i ys H hi hp=>?_) (fun i x ys H hx hp=>?_) (fun ys H hp=>?_)
 ·obtain⟨rfl,rfl⟩:=hp
  refine⟨hq,z0g ?_⟩
  have h1:=z94 p f (ns.take i)
  have h3:(ns.take i).length≤ns.length:=by rw[bN];omega
  omega
 ·obtain⟨rfl,rfl⟩:=hp
  rw[bH] at hx
  cases e:ns[i]? with
  | none=>rw[e] at hx;cases hx
  | some n=>
   rw[e] at hx
   cases hx
   refine hs n _ _ (bT e) ⟨rfl,?_⟩
   rw[z0r e,z5V]
 ·obtain⟨rfl,rfl⟩:=hp
  rw[b7,bR]
  exact hd
def upI(lo:Int)(n:Nat):List Int:=(List.range n).map fun(k:Nat)=>lo+(k:Int)
theorem z5c(lo:Int)(n:Nat):upI lo (n+1)=upI lo n++[lo+(n:Int)]:=by
 unfold upI
 rw[List.range_succ,bD]
 rfl
theorem z0T(lo:Int)(n:Nat):(upI lo n).length=n:=by unfold upI;rw[b7,dQ]
theorem z11{lo:Int}{n:Nat}{x:Int}:x∈upI lo n↔lo≤x/\x<lo+n:=by
 unfold upI
 rw[cF]
 constructor
 ·rintro⟨k,hk,rfl⟩
  have:=eQ.mp hk
  omega
 ·rintro⟨h1,h2⟩
  exact⟨(x-lo).toNat,eQ.mpr (by omega),by omega⟩
theorem z7J{lo:Int}{n:Nat}{g:TG}{tc:TT}{te:TE}{σ0:St}{H1:Hp}{F:List V->Hp->Prop}(p:Int->Bool)(f:Int->V)(hz:n≤1000)
  (hs:∀k ys N,lo≤k->k<lo+n->N (if p k=true then ys++[f k] else ys) H1->z1z g tc te σ0 (.int k) H1 ys N) (hd:F (z2b p f (upI lo n)) H1):z9m (Itr lo n) g tc te σ0 H1 F:=by
 refine y20 (fun i ys H=>H=H1/\ys=z2b p f (upI lo i)) ⟨rfl,rfl⟩ (fun i ys H hi hp=>?_) (fun i ys H hx hp=>?_) (fun ys H hp=>?_)
 ·obtain⟨rfl,rfl⟩:=hp
  have h1:=z94 p f (upI lo i)
  rw[z0T] at h1
  exact z0g (by omega)
 ·obtain⟨rfl,rfl⟩:=hp
  refine hs _ _ _ (by omega) (by omega) ⟨rfl,?_⟩
  rw[z5c,z5V]
 ·obtain⟨rfl,rfl⟩:=hp
  exact hd
section
variable{X:Cx}
theorem z0J:z3b X (.builtin "isinstance") (fun xs H Q=>∃x T t b,xs=[x,.ty T]/\N2 X.K H x t/\PySem.W.kitOne X.K t (.type T)=some b/\Q (.bl b) H):=by
 intro pins s σ H xs us Q I r h
 obtain⟨x,T,t,b,rfl,ty,e,q⟩:=h
 obtain⟨u,w',rfl,rx,ry⟩:=y4N r
 cases (show w'=Value.type T from ry)
 exact y2G I rx ty e fun tk=>⟨.bl b,H,I.tok _,rfl,q⟩
theorem y5g(hu:X.A.units<cLine):OpR X (compareOp .NotEq) (fun x y H Q=>∃a b xs,x=.ref a/\y=.ref b/\SqL X.K H a xs/\SqL X.K H b []/\Q (.bl (!xs.isEmpty)) H):=by
 intro pins s σ H x y v u Q I rx ry h
 obtain⟨a,b,xs,rfl,rfl,ha,hb,q⟩:=h
 cases rx
 cases ry
 obtain⟨its,r,pl,hz⟩:=I.list ha
 obtain⟨L6,r2,pl2,hz2⟩:=I.list hb
 cases r2
 have hl:=r.length
 cases xs with
 | nil=>
  cases r
  exact SeqAt.RcNeAt.lists (e:=fun _=>true) pl.isList pl2.isList rfl hu (fun j h1 _=>absurd h1 (fB _)) X.prog X.w X.xe _ ⟨.bl false,H,I,rfl,q⟩
 | cons x0 xr=>
  refine SeqAt.RcNeAt.lists_lengths pl.isList pl2.isList ?_ hu X.prog X.w X.xe _ ⟨.bl true,H,I,rfl,q⟩
  rw[bK,<- hl]
  rfl
end
def y18(N:List Str)(kind:Str->Option NameKind)(rl:List (Str×NameKind)):List Str->List Nat->Bool
 | x::xs,i::is=>decide (N[i]? = some x) && (decide (kind x=some .cell) || decide (kind x=some .free)) && (decide (rl.lookup x=some .cell) || decide (rl.lookup x=some .free)) && y18 N kind rl xs is
 | _,_=>true
theorem y5r{N:List Str}{kind:Str->Option NameKind}{rl:List (Str×NameKind)}:∀{D4:List Str}{ix:List Nat},y18 N kind rl D4 ix=true->∀(j i:Nat) (x:Str),D4[j]? = some x->ix[j]? = some i->
  N[i]? = some x/\(kind x=some .cell\/kind x=some .free)/\(rl.lookup x=some .cell\/rl.lookup x=some .free)
 | [],_,_,j,i,x,e,_=>by simp at e
 | _::_,[],_,j,i,x,_,e=>by simp at e
 | y::ys,k::ks,h,j,i,x,e1,e2=>by
  unfold y18 at h
  rw[bQ,bQ,bQ,j7,j7] at h
  obtain⟨⟨⟨h1,h2⟩,h3⟩,h4⟩:=h
  cases j with
  | zero=>
   simp at e1 e2
   subst e1 e2
   exact⟨of_decide_eq_true h1,h2.imp of_decide_eq_true of_decide_eq_true,h3.imp of_decide_eq_true of_decide_eq_true⟩
  | succ j=>exact y5r h4 j i x (by simpa using e1) (by simpa using e2)
theorem z0u{X:Cx}{scope:Scope}{cl:List (Str×Addr)}{own D4:List Str}{ix:List Nat}(T6:z6R X.env.cells scope.names []=some cl)(cell:∀y∈scope.names,y.2≠.cell)(kind:scope.kind=.function)
  (names:∀y∈scope.names,y.2=.local->scope.names.lookup y.1=some .local) (n:D4.length=ix.length) (cap:y18 X.N X.env.kindOf (relabel scope X.env).names D4 ix=true):E5 X scope cl own D4 ix:=
 ⟨T6,cell,kind,names,n,fun j i x e1 e2=>by
  obtain⟨a,b,c⟩:=y5r cap j i x e1 e2
  refine⟨a,fun z=>?_,b.elim (fun q=>.inr (.inl q)) (fun q=>.inr (.inr q)),c⟩
  rcases b with b|b<;>(rw[b] at z;cases z)⟩
theorem z8J{X:Cx}{K:PySem.W.Frag}{es:List Expr}{k:Nat}{t:TGs}{n:Nat}{pos:Pos}(hK:X.K=K)(hc:X.calm=true)(h:PGs X es t)
  (hn:(assignEach es X.env).length=n:=by rfl) (hst:(assignEach es X.env).findIdx? (·.1)=none:=by rfl):PG X (.Tuple es k pos) (X1 K n t):=by
 subst hK
 exact y6O hc h hn hst
structure Cal(P:Program)(w:World)(K:PySem.W.Frag)(mg:Str->Option Value)(base:Heap)(k:Nat)(x:Str)(ps:List Str)(sp:Sp):Prop where
 ex:∃(f:Addr) (fd:FuncData),A7 P w K mg base CX0 k f fd ps sp/\z1J K fd ps []/\PySem.W.keepIn K (.ref f)=true/\mg x=some (.ref f)
theorem Cal.mk'{P:Program}{w:World}{K:PySem.W.Frag}{mg:Str->Option Value}{base:Heap}{k:Nat}{x:Str}{ps:List Str}{sp:Sp}{f:Addr}{fd:FuncData}(a:A7 P w K mg base CX0 k f fd ps sp)(b:z1J K fd ps [])(c:PySem.W.keepIn K (.ref f)=true)(d:mg x=some (.ref f)) :
  Cal P w K mg base k x ps sp:=⟨⟨f,fd,a,b,c,d⟩⟩
theorem z0q{X:Cx}{k:Nat}{x:Str}{ps:List Str}{sp:Sp}{e:Expr}{es:List Expr}{t:TA}{p pos:Pos}(G:Cal X.prog X.w X.K X.mg X.base k x ps sp)(hr:C5 k X.A)(hg:Gl X x)(ha:PA X (e::es) t)
  (hdb:(x == ("__debug__":Str))=false:=by decide) (he:starEach (e::es) X.env=(false,eval e X.env)::starEach es X.env:=by rfl) (hpl:(backTo pos (starEach es X.env)).any (·.1)=false:=by rfl) :
  PE X (.Call (.Name x p) (e::es) [] pos) (y5P sp [] E0 t):=by
 obtain⟨f,fd,a,b,c,d⟩:=G.ex
 exact y3I a hr hg d c b .nil y1y ha hdb he hpl
def N4(z:Str)(lo hi:Option Int):Str:=⟨((z.cps.toList.drop (HT.sIx z.length 0 lo)).take (HT.sIx z.length z.length hi-HT.sIx z.length 0 lo)).toArray⟩
theorem z8z{x y:Str}(h:x.cps.toList=y.cps.toList):x=y:=by
 obtain⟨a⟩:=x
 obtain⟨b⟩:=y
 exact congrArg Str.mk (Array.toList_inj.mp h)
theorem z1u(z:Str):z.cps.toList.length=z.length:=by simp[Str.length]
theorem y0a(lo hi:Option Int)(n:Nat):Builtin.Str.strSliceIndices lo hi 1 n=(List.range (HT.sIx n n hi-HT.sIx n 0 lo)).map (fun k=>HT.sIx n 0 lo+k):=by
 obtain⟨h1,h2,h3⟩:=z68 lo hi n
 have e:Builtin.Str.strSliceIndices lo hi 1 n=sliceRange (sliceBounds lo hi none n).1 (sliceBounds lo hi none n).2.1 1:=by
  unfold Builtin.Str.strSliceIndices sliceBounds
  cases lo<;>cases hi<;>rfl
 rw[e,h1,h2,sliceRange_one]
theorem y4b{z:Str}{t:Tok}{l u:Option (Int×Tok)}{Q:Value->Shared->Prop}{s:Shared}(hz:z.length≤sizeLine)(h:∀t' tk,Q (.str (N4 z (l.map (·.1)) (u.map (·.1))) t') { s with toks:=tk }):(sliceMade z t l u none).post Q s:=by
 have picked:slicePicked z l u none=(List.range (HT.sIx z.length z.length (u.map (·.1))-HT.sIx z.length 0 (l.map (·.1)))).map (fun k=>HT.sIx z.length 0 (l.map (·.1))+k):=y0a _ _ _
 have items:(slicePicked z l u none).filterMap (z.cps[·]?)=(N4 z (l.map (·.1)) (u.map (·.1))).cps.toList:=by
  rw[picked,pick_run]
  rfl
 have lh:=HT.y5C z.length z.length (bB _) (u.map (·.1))
 unfold sliceMade
 by_cases c:(((none:Option (Int×Tok)).map (·.1)).getD 1 == 1 && (slicePicked z l u none).length == z.length)=true
 ·rw[if_pos c]
  rw[bQ] at c
  have c2:(slicePicked z l u none).length=z.length:=eq_of_beq c.2
  rw[picked,b7,dQ] at c2
  have e:N4 z (l.map (·.1)) (u.map (·.1))=z:=by
   apply z8z
   show(z.cps.toList.drop _).take _=_
   by_cases hz0:z.length=0
   ·have:z.cps.toList=[]:=cU (by rw[z1u];exact hz0)
    rw[this]
    simp
   ·have e1:HT.sIx z.length 0 (l.map (·.1))=0:=by omega
    rw[e1,gU,dJ]
    rw[z1u]
    omega
  have:=h t s.toks
  rw[e] at this
  exact this
 ·rw[if_neg c,items]
  refine⟨?_,?_⟩
  ·show(((N4 z (l.map (·.1)) (u.map (·.1))).cps.toList.toArray).size)≤sizeLine
   rw[bK]
   show((z.cps.toList.drop _).take _).length≤_
   rw[bN,fL,z1u]
   omega
  ·have:=h s.toks (s.toks+1)
   have e:(⟨(N4 z (l.map (·.1)) (u.map (·.1))).cps.toList.toArray⟩:Str)=N4 z (l.map (·.1)) (u.map (·.1)):=z8z (by simp)
   rw[e]
   exact this
section
variable{X:Cx}
theorem z6l{v:Value}{o:Option Int}(h:IsPart v o):∃p:Option (Int×Tok),v=partValue p/\p.map (·.1)=o:=by
 cases h with
 | none=>exact⟨none,rfl,rfl⟩
 | int i t=>exact⟨some (i,t),rfl,rfl⟩
def rSlS:V->Option Int->Option Int->Hp->VK->Prop:=fun x lo hi H Q=>∃z,x=.str z/\z.length≤sizeLine/\Q (.str (N4 z lo hi)) H
theorem y5c:SlR X rSlS:=by
 intro pins s σ H x v vl vu lo hi sl Q I rx hs pl pu h
 obtain⟨z,rfl,hz,q⟩:=h
 obtain⟨t,rfl⟩:=rx
 obtain⟨l,rfl,rfl⟩:=z6l pl
 obtain⟨u,rfl,rfl⟩:=z6l pu
 refine⟨"str",_,slot_str_getitem.lookup,typeIs_str s z t,?_⟩
 obtain⟨o,ho,hc,hd⟩:=hs
 refine wpAny_getItem_str_slice (l:=l) (u:=u) (st:=none) ⟨o,ho,hc,hd⟩ rfl (y4b hz fun t' tk=>?_)
 exact⟨.str _,H,I.tok _,⟨_,rfl⟩,q⟩
def W4(z:Str)(n:Nat):Str:=⟨(List.replicate n z.cps.toList).flatten.toArray⟩
theorem y0N(z:Array Nat):∀(n:Nat) (acc:Array Nat),(List.foldl (fun a b=>a++b) acc (List.replicate n z)).toList=acc.toList++(List.replicate n z.toList).flatten
 | 0,acc=>by simp
 | n+1,acc=>by
  rw[List.replicate_succ,cT,y0N z n]
  simp[List.replicate_succ]
theorem y1E:OpR X (binaryOp .Mult) (fun x y H Q=>∃z n,x=.str z/\y=.int n/\1≤n/\n≤1000/\z.length≤1000/\Q (.str (W4 z n.toNat)) H):=by
 intro pins s σ H x y v u Q I rx ry h
 obtain⟨z,n,rfl,rfl,h1,h2,hz,q⟩:=h
 obtain⟨t,rfl⟩:=rx
 obtain⟨t',rfl⟩:=ry
 have hs:sizeLine=16777216:=sizeLine_eq
 have hm:z.length*n.toNat≤1000*1000:=Nat.mul_le_mul hz (by omega)
 have fin:∀t' tk,EP X pins σ Q (.str (W4 z n.toNat) t') { s with toks:=tk }:=fun t' tk=>⟨.str _,H,I.tok _,⟨_,rfl⟩,q⟩
 refine PySem.P.mul_str ?_ (fun _ _=>?_) (fun _ _=>?_) ?_
 ·rw[decide_eq_false (show ¬n < -(2^63:Int) by omega),decide_eq_false (show ¬n≥2^63 by omega)]
  rfl
 ·have:(1000:Int)≤(2^63-1) / n:=by
   apply Int.le_ediv_of_mul_le (by omega)
   have:1000*n≤1000*1000:=Int.mul_le_mul_of_nonneg_left h2 (by decide)
   omega
  omega
 ·unfold Builtin.Str.tooLong
  exact decide_eq_false (by omega)
 ·rw[if_neg (by omega)]
  by_cases c:(n == 1 || z.length == 0)=true
  ·rw[if_pos c]
   have e:W4 z n.toNat=z:=by
    apply z8z
    show((List.replicate n.toNat z.cps.toList).flatten.toArray).toList=_
    rw[j7] at c
    rcases c with c|c
    ·have:n=1:=eq_of_beq c
     subst this
     simp
    ·have:z.length=0:=eq_of_beq c
     have:z.cps.toList=[]:=cU (by rw[z1u];exact this)
     rw[this]
     simp
   have:=fin t s.toks
   rw[e] at this
   exact this
  ·rw[if_neg c]
   have e:(⟨(List.replicate n.toNat z.cps).foldl (·++·) #[]⟩:Str)=W4 z n.toNat:=by
    apply z8z
    show(List.foldl (fun a b=>a++b) #[] (List.replicate n.toNat z.cps)).toList=((List.replicate n.toNat z.cps.toList).flatten.toArray).toList
    rw[y0N]
    simp
   refine⟨?_,?_⟩
   ·rw[e,<- z1u]
    show((List.replicate n.toNat z.cps.toList).flatten.toArray).toList.length≤sizeLine
    have:((List.replicate n.toNat z.cps.toList).flatten.toArray).toList.length=n.toNat*z.length:=by
     simp[List.length_flatten,List.map_replicate,z1u]
     rfl
    rw[this,Nat.mul_comm]
    omega
   ·rw[e]
    exact fin _ _
end
end L2
namespace L2
open PySem
inductive DV where
 | non|bl (b:Bool)|int (i:Int)|str (x:Str)|tup (l:List DV)
mutual
def A5(H:Hp):DV->V->Prop
 | .non,x=>x=.non
 | .bl b,x=>x=.bl b
 | .int i,x=>x=.int i
 | .str s,x=>x=.str s
 | .tup ds,x=>∃a xs,x=.ref a/\H a=some (.tup xs)/\xs.length≤1000000/\z0a H ds xs
def z0a(H:Hp):List DV->List V->Prop
 | [],xs=>xs=[]
 | d::ds,xs=>∃x r,xs=x::r/\A5 H d x/\z0a H ds r
end
mutual
theorem A5.keep{H H':Hp}(s:A4 H H'):∀(d:DV) (x:V),A5 H d x->A5 H' d x
 | .non,_,h=>h
 | .bl _,_,h=>h
 | .int _,_,h=>h
 | .str _,_,h=>h
 | .tup ds,_,h=>by
  unfold A5 at h ⊢
  obtain⟨a,xs,e,h1,h2,h3⟩:=h
  exact⟨a,xs,e,s _ _ h1,h2,z0a.keep s ds xs h3⟩
theorem z0a.keep{H H':Hp}(s:A4 H H'):∀(ds:List DV) (xs:List V),z0a H ds xs->z0a H' ds xs
 | [],_,h=>h
 | d::ds,_,h=>by
  unfold z0a at h ⊢
  obtain⟨x,r,e,h1,h2⟩:=h
  exact⟨x,r,e,A5.keep s d x h1,z0a.keep s ds r h2⟩
end
mutual
theorem A5.over{H:Hp}{l:Addr}{o o':HO}(hl:H l=some o)(hn:∀xs,o≠.tup xs):∀(d:DV) (x:V),A5 H d x->A5 (upd H l o') d x
 | .non,_,h=>h
 | .bl _,_,h=>h
 | .int _,_,h=>h
 | .str _,_,h=>h
 | .tup ds,_,h=>by
  unfold A5 at h ⊢
  obtain⟨a,xs,e,h1,h2,h3⟩:=h
  exact⟨a,xs,e,by rw[z0e (z5j h1 hl (fun z=>hn xs z.symm))];exact h1,h2,z0a.over hl hn ds xs h3⟩
theorem z0a.over{H:Hp}{l:Addr}{o o':HO}(hl:H l=some o)(hn:∀xs,o≠.tup xs):∀(ds:List DV) (xs:List V),z0a H ds xs->z0a (upd H l o') ds xs
 | [],_,h=>h
 | d::ds,_,h=>by
  unfold z0a at h ⊢
  obtain⟨x,r,e,h1,h2⟩:=h
  exact⟨x,r,e,A5.over hl hn d x h1,z0a.over hl hn ds r h2⟩
end
theorem z0a.length{H:Hp}:∀{ds:List DV}{xs:List V},z0a H ds xs->xs.length=ds.length
 | [],_,h=>by unfold z0a at h;rw[h];rfl
 | d::ds,_,h=>by
  unfold z0a at h
  obtain⟨x,r,rfl,_,h2⟩:=h
  rw[cC,cC,z0a.length h2]
theorem z0a.get{H:Hp}:∀{ds:List DV}{xs:List V},z0a H ds xs->∀(i:Nat) (d:DV),ds[i]? = some d->∃x,xs[i]? = some x/\A5 H d x
 | [],_,_,i,d,e=>by simp at e
 | d0::ds,_,h,0,d,e=>by
  unfold z0a at h
  obtain⟨x,r,rfl,h1,_⟩:=h
  simp at e
  subst e
  exact⟨x,rfl,h1⟩
 | d0::ds,_,h,i+1,d,e=>by
  unfold z0a at h
  obtain⟨x,r,rfl,_,h2⟩:=h
  obtain⟨y,e1,e2⟩:=z0a.get h2 i d (by simpa using e)
  exact⟨y,by simpa using e1,e2⟩
theorem z0a.at{H:Hp}:∀{ds:List DV}{xs:List V},z0a H ds xs->∀(i:Nat) (x:V),xs[i]? = some x->∃d,ds[i]? = some d/\A5 H d x
 | [],_,h,i,x,e=>by
  unfold z0a at h
  subst h
  simp at e
 | d0::ds,_,h,0,x,e=>by
  unfold z0a at h
  obtain⟨x0,r,rfl,h1,_⟩:=h
  simp at e
  subst e
  exact⟨d0,rfl,h1⟩
 | d0::ds,_,h,i+1,x,e=>by
  unfold z0a at h
  obtain⟨x0,r,rfl,_,h2⟩:=h
  obtain⟨y,e1,e2⟩:=z0a.at h2 i x (by simpa using e)
  exact⟨y,by simpa using e1,e2⟩
theorem z0a.nil{H:Hp}:z0a H [] []:=by unfold z0a;rfl
theorem z0a.cons{H:Hp}{d:DV}{ds:List DV}{x:V}{xs:List V}(h:A5 H d x)(t:z0a H ds xs):z0a H (d::ds) (x::xs):=by unfold z0a;exact⟨x,xs,rfl,h,t⟩
theorem z0a.snoc{H:Hp}:∀{ds:List DV}{xs:List V}{d:DV}{x:V},z0a H ds xs->A5 H d x->z0a H (ds++[d]) (xs++[x])
 | [],_,_,_,h,q=>by
  unfold z0a at h
  subst h
  exact z0a.cons q .nil
 | d0::ds,_,_,_,h,q=>by
  unfold z0a at h
  obtain⟨x0,r,rfl,h1,h2⟩:=h
  exact z0a.cons h1 (z0a.snoc h2 q)
theorem z0z{H:Hp}(i:Int):A5 H (.int i) (.int i):=by unfold A5;rfl
theorem z1P{H:Hp}(x:Str):A5 H (.str x) (.str x):=by unfold A5;rfl
theorem z8D{H:Hp}:A5 H .non .non:=by unfold A5;rfl
theorem z0x{H:Hp}{a:Addr}{xs:List V}{ds:List DV}(h:H a=some (.tup xs))(hl:ds.length≤1000000)(t:z0a H ds xs):A5 H (.tup ds) (.ref a):=by
 unfold A5
 exact⟨a,xs,rfl,h,by rw[t.length];exact hl,t⟩
theorem z5L{H:Hp}:∀(l:List Str),z0a H (l.map DV.str) (l.map V.str)
 | []=>.nil
 | i::r=>.cons (z1P i) (z5L r)
theorem z4q{H:Hp}:∀{l:List Str}{xs:List V},z0a H (l.map DV.str) xs->xs=l.map V.str
 | [],_,h=>by unfold z0a at h;exact h
 | i::r,_,h=>by
  rw[cK] at h
  unfold z0a at h
  obtain⟨x,t,rfl,h1,h2⟩:=h
  unfold A5 at h1
  rw[h1,z4q h2]
  rfl
theorem z0h{H:Hp}{ds:List DV}{x:V}(h:A5 H (.tup ds) x):∃a xs,x=.ref a/\H a=some (.tup xs)/\xs.length≤1000000/\z0a H ds xs:=by
 unfold A5 at h
 exact h
theorem z0G{H:Hp}{i:Int}{x:V}(h:A5 H (.int i) x):x=.int i:=by unfold A5 at h;exact h
theorem z2g{H:Hp}{i:Str}{x:V}(h:A5 H (.str i) x):x=.str i:=by unfold A5 at h;exact h
theorem z08{H:Hp}{d:DV}{ds:List DV}{xs:List V}(h:z0a H (d::ds) xs):∃x r,xs=x::r/\A5 H d x/\z0a H ds r:=by
 unfold z0a at h
 exact h
theorem z0E{H:Hp}{xs:List V}(h:z0a H [] xs):xs=[]:=by unfold z0a at h;exact h
mutual
def DV.deep:DV->Nat
 | .tup ds=>DV.O3 ds+1
 | _=>0
def DV.O3:List DV->Nat
 | []=>0
 | d::ds=>max d.deep (DV.O3 ds)
end
def y1r:V->Bool
 | .non=>true
 | .bl _=>true
 | .int _=>true
 | .str _=>true
 | _=>false
def z4h(H:Hp):Nat->V->V->Prop
 | 0,x,y=>x=y/\y1r x=true
 | n+1,x,y=>(x=y/\y1r x=true)\/∃(a b:Addr) (xs ys:List V),x=.ref a/\y=.ref b/\H a=some (.tup xs)/\H b=some (.tup ys)/\xs.length=ys.length/\ys.length≤1000000/\
   ∀(i:Nat) (u v:V),xs[i]? = some u->ys[i]? = some v->z4h H n u v
theorem z4h.keep{H H':Hp}(s:A4 H H'):∀{n:Nat}{x y:V},z4h H n x y->z4h H' n x y
 | 0,_,_,h=>h
 | n+1,x,y,h=>by
  rcases h with h|⟨a,b,xs,ys,e1,e2,h1,h2,hl,hm,h⟩
  ·exact .inl h
  ·exact .inr ⟨a,b,xs,ys,e1,e2,s _ _ h1,s _ _ h2,hl,hm,fun i u v hu hv=>z4h.keep s (h i u v hu hv)⟩
theorem z4h.up{H:Hp}:∀{n:Nat}{x y:V},z4h H n x y->z4h H (n+1) x y
 | 0,_,_,h=>.inl h
 | n+1,x,y,h=>by
  rcases h with h|⟨a,b,xs,ys,e1,e2,h1,h2,hl,hm,h⟩
  ·exact .inl h
  ·exact .inr ⟨a,b,xs,ys,e1,e2,h1,h2,hl,hm,fun i u v hu hv=>z4h.up (h i u v hu hv)⟩
theorem z4h.mono{H:Hp}{x y:V}{n m:Nat}(h:z4h H n x y)(hm:n≤m):z4h H m x y:=by
 induction hm with
 | refl=>exact h
 | step _ ih=>exact ih.up
mutual
theorem z5u{H:Hp}:∀(d:DV) (x y:V),A5 H d x->A5 H d y->z4h H d.deep x y
 | .non,x,y,h1,h2=>by
  unfold A5 at h1 h2
  subst h1 h2
  exact⟨rfl,rfl⟩
 | .bl _,x,y,h1,h2=>by
  unfold A5 at h1 h2
  subst h1 h2
  exact⟨rfl,rfl⟩
 | .int _,x,y,h1,h2=>by
  unfold A5 at h1 h2
  subst h1 h2
  exact⟨rfl,rfl⟩
 | .str _,x,y,h1,h2=>by
  unfold A5 at h1 h2
  subst h1 h2
  exact⟨rfl,rfl⟩
 | .tup ds,x,y,h1,h2=>by
  unfold A5 at h1 h2
  obtain⟨a,xs,rfl,a1,a2,a3⟩:=h1
  obtain⟨b,ys,rfl,b1,b2,b3⟩:=h2
  unfold DV.deep
  exact .inr ⟨a,b,xs,ys,rfl,rfl,a1,b1,by rw[a3.length,b3.length],b2,z6N ds xs ys a3 b3⟩
theorem z6N{H:Hp}:∀(ds:List DV) (xs ys:List V),z0a H ds xs->z0a H ds ys->∀(i:Nat) (u v:V),xs[i]? = some u->ys[i]? = some v->z4h H (DV.O3 ds) u v
 | [],xs,ys,h1,h2,i,u,v,e1,e2=>by
  unfold z0a at h1
  subst h1
  simp at e1
 | d::ds,xs,ys,h1,h2,0,u,v,e1,e2=>by
  unfold z0a at h1 h2
  obtain⟨x,r,rfl,a1,a2⟩:=h1
  obtain⟨y,t,rfl,b1,b2⟩:=h2
  simp at e1 e2
  subst e1 e2
  unfold DV.O3
  exact(z5u d x y a1 b1).mono (Nat.le_max_left _ _)
 | d::ds,xs,ys,h1,h2,i+1,u,v,e1,e2=>by
  unfold z0a at h1 h2
  obtain⟨x,r,rfl,a1,a2⟩:=h1
  obtain⟨y,t,rfl,b1,b2⟩:=h2
  unfold DV.O3
  exact(z6N ds r t a2 b2 i u v (by simpa using e1) (by simpa using e2)).mono (Nat.le_max_right _ _)
end
end L2
namespace L2
open PySem PySem.Spec PyProof.Rows
section
variable{κ:Type}[DecidableEq κ]
def C7(ks:List κ):List κ:=ks.foldl (fun acc k=>if k∈acc then acc else acc++[k]) []
theorem z7i(ks:List κ)(k:κ):C7 (ks++[k])=if k∈C7 ks then C7 ks else C7 ks++[k]:=by
 unfold C7
 rw[gZ]
 rfl
theorem y37{ks:List κ}{i:Nat}{k:κ}(h:ks[i]? = some k):C7 (ks.take (i+1))=if k∈C7 (ks.take i) then C7 (ks.take i) else C7 (ks.take i)++[k]:=by
 have e:ks.take (i+1)=ks.take i++[k]:=by rw[dX,h]<;>rfl
 rw[e,z7i]
theorem z7L(k:κ):∀(ks acc:List κ),k∈ks.foldl (fun acc k=>if k∈acc then acc else acc++[k]) acc↔k∈acc\/k∈ks
 | [],acc=>by simp
 | x::r,acc=>by
  rw[cT,z7L k r]
  by_cases h:x∈acc
  ·rw[if_pos h,bA]
   constructor
   ·rintro(a|a)
    ·exact .inl a
    ·exact .inr (.inr a)
   ·rintro(a|rfl|a)
    ·exact .inl a
    ·exact .inl h
    ·exact .inr a
  ·rw[if_neg h,bO,b9,bA,or_assoc]
theorem z2u{k:κ}{ks:List κ}:k∈C7 ks↔k∈ks:=by unfold C7;rw[z7L];simp
theorem z7n:∀(ks acc:List κ),(ks.foldl (fun acc k=>if k∈acc then acc else acc++[k]) acc).length≤acc.length+ks.length
 | [],acc=>by simp
 | x::r,acc=>by
  rw[cT]
  refine cO (z7n r _) ?_
  by_cases h:x∈acc
  ·rw[if_pos h,cC];omega
  ·rw[if_neg h,bI,cC,cC,j8];omega
theorem z6y(ks:List κ):(C7 ks).length≤ks.length:=by
 have:=z7n ks []
 simpa [C7] using this
theorem z84:∀(ks acc:List κ),(acc++ks).Nodup->ks.foldl (fun acc k=>if k∈acc then acc else acc++[k]) acc=acc++ks
 | [],acc,_=>by simp
 | x::r,acc,h=>by
  have hx:x∉acc:=fun hx=>by
   rw[fF] at h
   exact h.2.2 x hx x (bS) rfl
  rw[cT,if_neg hx,z84 r (acc++[x]) (by rw[fG];exact h),fG]
  rfl
theorem y3H{ks:List κ}(h:ks.Nodup):C7 ks=ks:=by
 have:=z84 ks [] (by simpa using h)
 simpa [C7] using this
end
section
variable{prog:Program}{w:World}{A:Around}{κ:Type}[DecidableEq κ]{kd:KeyKind prog w κ}{I:Addr}{fp wr:List Addr}{G:Array GenState->Array GenState->Prop}{n:Nat}{P:Nat->Value->Prop}{St:Nat->Shared->Prop}
abbrev z5g(kd:KeyKind prog w κ)(h:Heap)(a:Addr)(ks:List κ):Prop:=h.SetOf kd a (fun k=>decide (k∈ks)) (C7 ks).length
theorem z5g.at{h h':Heap}{a:Addr}{ks:List κ}(x:z5g kd h a ks)(e:∀o,h.get? a=some o->h'.get? a=some o):z5g kd h' a ks:=by
 obtain⟨o,es,ep,t,ho,r⟩:=x
 exact⟨o,es,ep,t,e o ho,r⟩
theorem z93{R:Result->Shared->Prop}(W:WalksS prog w A.in1 I fp wr G n P St){a:Addr}(out:a∉fp){ks:List κ}(lk:ks.length=n)
  (vals:∀i v,P i v->∃k,ks[i]? = some k/\kd.is k v=true/\v.scannable=true) (few:n+1<scanBound) :
  ∀(todo i:Nat) (s:Shared),i+todo=n->St i s->z5g kd s.heap a (ks.take i)->
   (∀s',Moved (a::wr) G s s'->z5g kd s'.heap a ks->R (.ok (.ret .none)) s')->codeAny (model prog w) A (.builtin "set.update.loop" ⟨[.ref a,.ref I],[]⟩) R s
 | 0,i,s,ei,st,sx,fin=>by
  have e:ks.take i=ks:=dJ (by omega)
  rw[e] at sx
  have ei':i=n:=by omega
  subst ei'
  refine codeAny_builtin F.entry_set_update_loop ?_
  rw[bZ gY _]
  refine wpAny_bind (W.done s _ _ st fun s' mv=>wpAny_pure (fin s' (mv.mono fun b hb=>.tail _ hb) (sx.at fun o=>mv.heap a o fun q=>out (W.sub _ q))))
 | todo+1,i,s,ei,st,sx,fin=>by
  refine codeAny_builtin F.entry_set_update_loop ?_
  rw[bZ gY _]
  refine wpAny_bind (W.item i s _ _ (by omega) st fun v s1 hv st1 mv=>?_)
  obtain⟨k,ek,iv,sc⟩:=vals i v hv
  have sx1:=sx.at (h':=s1.heap) fun o=>mv.heap a o fun q=>out (W.sub _ q)
  refine wpAny_bind (wpAny_holding (m:=setAdd a v) ?_)
  unfold setAdd
  refine wpAny_holding (wpAny_bind (kd.pyHash iv ?_))
  have lm:=z6y (ks.take i)
  rw[bN] at lm
  refine wpAny_setAddHashed_of (s:={ s1 with toks:=s1.toks+1 }) iv sc sx1 (by omega) fun h2 sb sx2=>?_
  have sx3:z5g kd h2 a (ks.take (i+1)):=by
   have e1:(fun k'=>decide (k'∈ks.take i) || decide (k'=k))=fun k'=>decide (k'∈ks.take (i+1)):=by
    funext k'
    rw[dX,ek]
    simp[Bool.decide_or]
   have e2:(if decide (k∈ks.take i)=true then (C7 (ks.take i)).length else (C7 (ks.take i)).length+1)=(C7 (ks.take (i+1))).length:=by
    rw[y37 ek]
    by_cases hk:k∈ks.take i
    ·rw[if_pos (decide_eq_true hk),if_pos (z2u.mpr hk)]
    ·rw[if_neg (by simpa using hk),if_neg (fun q=>hk (z2u.mp q)),bI]
     rfl
   rw[e1,e2] at sx2
   exact sx2
  have far:∀b,b≠a->h2.get? b=s1.heap.get? b:=fun b hb=>sb.2 b hb
  refine wpAny_pure ⟨plainId_quiet gY _,z93 W out lk vals few todo (i+1) _ (by omega) (W.frame _ s1 _ _ st1 (eI _) fun b hb o q=>?_) sx3 fun s3 mv3 sx4=>?_⟩
  ·rw[far b fun z=>out (z ▸ hb)];exact q
  ·refine fin s3 (.trans W.gtrans ((mv.mono fun b hb=>.tail _ hb).then_heap (eI _) fun b o hb q=>?_) mv3) sx4
   rw[far b fun z=>hb (z ▸ .head _)];exact q
end
namespace Ty
theorem z9F:isSubtype (.type "tuple") (.type "set")=pure false:=by rw[isSubtype_type];kernel_rfl
theorem z3J:isSubtype (.type "tuple") (.type "frozenset")=pure false:=by rw[isSubtype_type];kernel_rfl
end Ty
abbrev E1(led:Bool):Obj:={ cls:=.type "set",dict:=none,data:=.set #[] 0 (.fresh 0 0 led) }
section
variable{prog:Program}{w:World}{A:Around}{E:Value->Shared->Prop}{s:Shared}{κ:Type}[DecidableEq κ]{kd:KeyKind prog w κ}
theorem y51{T:String}{p:Addr}{o:Obj}{its:Array Value}{c0:Nat}{ks:List κ}{Q:Value->Shared->Prop}(hh:A.handled=none)(hp:s.heap.get? p=some o)(hc:o.cls=.type T)(hd:o.data=.seq its c0)(hT:T="list"\/T="tuple")
  (lk:ks.length=its.size) (vals:∀(i:Nat) v,its[i]? = some v->∃k,ks[i]? = some k/\kd.is k v=true/\v.scannable=true) (few:its.size+1<scanBound)
  (fin:∀(h':Heap) (t:Nat),z5g kd h' s.heap.objs.size ks->(∀b u,b<s.heap.objs.size->s.heap.get? b=some u->h'.get? b=some u)->Q (.ref s.heap.objs.size) { s with heap:=h',toks:=t }) :
  wpAny (model prog w) A (call (.type "set") [.ref p]) Q E s:=by
 obtain⟨c,tl,hmro⟩:=d8.mro
 have g1:=d8.made
 have g2:=d8.sub
 refine wpAny_call (codeAny_of_tree (wpAny_pure ⟨Code.quiet_builtin _ (by decide +kernel),codeAny_builtin F.entry_type_call ?_⟩))
 rw[Around.under_plain (weight_type_call_type "set" [.ref p] []) rfl]
 have g3:=d8.notType
 have g4:=d8.canCreate
 have g5:=F.typeCall_set_1 (.ref p)
 repeat (any_goals (first|assumption|wp_step))
 refine codeAny_mono (code_set_new_1 (.ref p) (E:=E) (Q₁:=fun u s1=>∃led,u=.ref s.heap.objs.size/\s1={ s with heap:=s.heap.push (E1 led) }) fun led=>⟨led,rfl,rfl⟩) fun r s1 q1=>?_
 rcases r with e|(_|_|_|u)
 all_goals try exact q1.elim
 all_goals try exact q1
 obtain⟨led,rfl,rfl⟩:=q1
 have at1:(s.heap.push (E1 led)).get? s.heap.objs.size=some (E1 led):=bC _ rfl
 have ty1:Shared.TypeIs { s with heap:=s.heap.push (E1 led) } (.ref s.heap.objs.size) "set":=⟨_,at1,rfl⟩
 have g6:=d8.init.lookup
 have g7:=d8.init.bind (.ref s.heap.objs.size)
 repeat (any_goals (first|assumption|wp_step))
 refine codeAny_mono (codeAny_call_builtin (R:=wants (fun r s2=>r=.none/\∃h' t,s2={ s with heap:=h',toks:=t }/\z5g kd h' s.heap.objs.size ks/\∀b u,b<s.heap.objs.size->s.heap.get? b=some u->h'.get? b=some u) E)
  d8.init.plain F.entry_set_init (check_set_init_1 ty1 ?_)) fun r s2 q2=>?_
 case _=>
  have hpS:p<s.heap.objs.size:=bJ hp
  obtain⟨oc,od,oa,os⟩:=o
  simp only at hc hd
  subst hc;subst hd
  have hp1:(s.heap.push (E1 led)).get? p=some { cls:=.type T,dict:=od,data:=.seq its c0,slots:=os }:=b8 _ hp
  have f1:isSubtype (.type T) (.type "set")=pure false:=by rcases hT with rfl|rfl<;>first|exact F.sub_list_set|exact Ty.z9F
  have f2:isSubtype (.type T) (.type "frozenset")=pure false:=by rcases hT with rfl|rfl<;>first|exact F.sub_list_frozenset|exact Ty.z3J
  have f3:(Value.type T == Value.type "dict")=false:=by rcases hT with rfl|rfl<;>decide
  have hh3:A.in1.in1.in1.handled=none:=by simp[hh]
  have sz:(s.heap.push (E1 led)).objs.size=s.heap.objs.size+1:=eU _ _
  have apart:p≠(s.heap.push (E1 led)).objs.size:=by rw[sz];exact bU (dC hpS)
  have out:s.heap.objs.size∉[(s.heap.push (E1 led)).objs.size,p]:=by rw[sz,bA,b9];exact fun z=>z.elim (bU (e8 _)) (fK hpS)
  have z48:∀x:Obj,z5g kd ((s.heap.push (E1 led)).push x) s.heap.objs.size (ks.take 0):=fun x=>by
   have z:=(setObjOf_fresh (knd:=kd) led).setOf (b8 x at1) (by unfold scanBound;omega)
   have e:(fun k:κ=>decide (k∈ks.take 0))=fun _=>false:=by funext k;simp
   show Heap.SetOf kd _ _ (fun k=>decide (k∈ks.take 0)) _
   rw[e]
   exact z
  have ends:∀(x:Obj) (s':Shared),Moved [s.heap.objs.size,(s.heap.push (E1 led)).objs.size] (fun a b=>b=a) { s with heap:=(s.heap.push (E1 led)).push x } s'->z5g kd s'.heap s.heap.objs.size ks->
    ∃h' t,s'={ s with heap:=h',toks:=t }/\z5g kd h' s.heap.objs.size ks/\∀b u,b<s.heap.objs.size->s.heap.get? b=some u->h'.get? b=some u:=fun x s' mv sx=>by
   obtain⟨h',g',d',t',o'⟩:=s'
   obtain rfl:g'=s.gens:=mv.gens
   obtain rfl:d'=s.drawn:=mv.drawn
   obtain rfl:o'=s.os:=mv.os
   exact⟨h',t',rfl,sx,fun b u hb q=>mv.heap b u (by rw[sz,bA,b9];exact fun z=>z.elim (bU hb) (bU (dC hb))) (b8 _ (b8 _ q))⟩
  unfold Builtin.«set.__init__» noKeywords Builtin.Frozenset.updateFrom
  generalize hPI:pyIter=PI
  wp_walk
  subst hPI
  rcases hT with rfl|rfl
  ·have hl:(s.heap.push (E1 led)).IsList p its:=⟨_,hp1,rfl,c0,rfl⟩
   refine wpAny_pyIter_list hl (wpAny_bind (wpAny_runValue ?_))
   refine z93 (kd:=kd) ((Walks.list hh3 _ p apart its).toS) out lk vals few its.size 0 _ (gE _) ⟨⟨_,bC _ rfl,rfl,rfl⟩,hl.push _⟩ (z48 _) fun s' mv sx=>?_
   exact wpAny_pure (wpAny_pure ⟨rfl,ends _ s' mv sx⟩)
  ·have hl:(s.heap.push (E1 led)).IsTuple p its:=⟨_,hp1,rfl,c0,rfl⟩
   refine wpAny_pyIter_tuple hl (wpAny_bind (wpAny_runValue ?_))
   refine z93 (kd:=kd) ((Walks.tuple hh3 _ p apart its).toS) out lk vals few its.size 0 _ (gE _) ⟨⟨_,bC _ rfl,rfl,rfl⟩,hl.push _⟩ (z48 _) fun s' mv sx=>?_
   exact wpAny_pure (wpAny_pure ⟨rfl,ends _ s' mv sx⟩)
 ·rcases r with e|(_|_|_|u)
  all_goals try exact q2.elim
  all_goals try exact q2
  obtain⟨rfl,h',t,rfl,sx,kp⟩:=q2
  repeat (any_goals (first|assumption|wp_step))
  exact fin _ _ sx kp
end
section
variable{X:Cx}
def O7(P:Program)(w:World)(a:Addr)(zs:List Str):HO:=.ext fun h=>z5g (strKind P w) h a zs
theorem O7.new{P:Program}{w:World}{H:Hp}{h:Heap}{a:Addr}{zs:List Str}(x:z5g (strKind P w) h a zs):z1g P w H h a (O7 P w a zs):=by
 refine⟨x,?_,fun h1 h2 y e=>z5g.at y e⟩
 obtain⟨o,_,_,_,e,_⟩:=x
 exact⟨o,e⟩
theorem y0K:∀{zs:List Str}{us:List Value},Vals (zs.map V.str) us->∀(i:Nat) (v:Value),us[i]? = some v->∃(k:Str) (t:Tok),zs[i]? = some k/\v=.str k t
 | [],_,.nil,i,v,h=>by simp at h
 | z::zs,u::us,.cons r rs,0,v,h=>by
  simp at h
  subst h
  obtain⟨t,rfl⟩:=r
  exact⟨z,t,rfl,rfl⟩
 | z::zs,u::us,.cons r rs,i+1,v,h=>by
  simp at h
  obtain⟨k,t,a,b⟩:=y0K rs i v h
  exact⟨k,t,by simpa using a,b⟩
theorem z4j(hc:X.calm=true):z3b X (.type "set") (fun xs H Q=>∃p zs,xs=[.ref p]/\(SqL X.K H p (zs.map V.str)\/SqT X.K H p (zs.map V.str))/\zs.length≤1000/\∀l,H l=none->Q (.ref l) (upd H l (O7 X.prog X.w l zs))):=by
 intro pins s σ H xs us Q I r h
 obtain⟨p,zs,rfl,hq,hl,q⟩:=h
 obtain⟨u,rfl,rx⟩:=z3H r
 cases rx
 have go:∀(T:String) (o:Obj) (its:List Value) (c0:Nat),s.heap.get? p=some o->o.cls=.type T->o.data=.seq its.toArray c0->(T="list"\/T="tuple")->Vals (zs.map V.str) its->wpAny (model X.prog X.w) X.A (call (.type "set") [.ref p]) (EP X pins σ Q) X.xe s:=
  fun T o its c0 ho hcl hda hT rv=>by
   have ln:zs.length=its.length:=by have:=rv.length;rwa [b7] at this
   refine y51 (kd:=strKind X.prog X.w) (ks:=zs) (I.ok.hd hc) ho hcl hda hT (by simpa using ln) (fun i v hv=>?_) (by simp[scanBound];omega) fun h' t sx kp=>?_
   ·obtain⟨k,t,a,rfl⟩:=y0K rv i v (by simpa using hv)
    exact⟨k,a,strKind_is _ _ _ _,rfl⟩
   ·refine⟨.ref s.heap.objs.size,_,I.laid (a:=s.heap.objs.size) (o:=O7 X.prog X.w s.heap.objs.size zs) (h':=h') (t':=t) (fun b u q1=>kp b u (bJ q1) q1) (bB _) (O7.new sx),rfl,q _ (I.hok.fresh (bB _))⟩
 rcases hq with hq|hq
 ·obtain⟨its,rv,pl,_⟩:=I.list hq
  obtain⟨o,ho,hcl,n,hda⟩:=pl.isList
  exact go "list" o its n ho hcl hda (.inl rfl) rv
 ·obtain⟨its,rv,pl,_⟩:=I.tuple hq
  obtain⟨o,ho,hcl,n,hda⟩:=pl
  exact go "tuple" o its n ho hcl hda (.inr rfl) rv
theorem z5n:z3b X (.builtin "len") (fun xs H Q=>∃p zs,xs=[.ref p]/\H p=some (O7 X.prog X.w p zs)/\zs.length≤1000/\Q (.int (C7 zs).length) H):=by
 intro pins s σ H xs us Q I r h
 obtain⟨p,zs,rfl,hp,hl,q⟩:=h
 obtain⟨u,rfl,rx⟩:=z3H r
 cases rx
 obtain⟨⟨o,es,ep,t,e1,e2,e3,_,_,_,e4,e5⟩,_⟩:=(show z1g X.prog X.w H s.heap p (O7 X.prog X.w p zs) from I.hok p _ hp)
 have:=z6y zs
 exact PySem.call_len_set e1 e2 e3 e4 (by omega) ⟨.int (C7 zs).length,H,I.tok _,⟨s.toks+1,by rw[e5]⟩,q⟩
end
section
variable{κ:Type}[DecidableEq κ]
def H0(kvs:List (κ×V))(k:κ):Option V:=(kvs.find? fun kv=>decide (kv.1=k)).map (·.2)
def putK(kvs:List (κ×V))(k:κ)(v:V):List (κ×V):=
 if (kvs.any fun kv=>decide (kv.1=k))=true then kvs.map (fun kv=>if kv.1=k then (kv.1,v) else kv) else kvs++[(k,v)]
theorem z5k{p:κ×V}{r:List (κ×V)}{k:κ}(e:p.1=k):H0 (p::r) k=some p.2:=by simp[H0,dN,e]
theorem z4Z{p:κ×V}{r:List (κ×V)}{k:κ}(e:¬p.1=k):H0 (p::r) k=H0 r k:=by simp[H0,dN,e]
theorem z6z(k:κ):∀kvs:List (κ×V),(kvs.any fun kv=>decide (kv.1=k))=(H0 kvs k).isSome
 | []=>rfl
 | p::r=>by
  rw[fW]
  by_cases e:p.1=k
  ·simp only[z5k e,decide_eq_true e,Bool.true_or,Option.isSome_some]
  ·rw[z4Z e,decide_eq_false e,Bool.false_or];exact z6z k r
theorem z7b(kvs:List (κ×V))(k:κ)(v:V):(putK kvs k v).length≤kvs.length+1:=by
 unfold putK
 split
 ·rw[b7];omega
 ·rw[bI,cC,j8];omega
theorem y53{kvs:List (κ×V)}{k:κ}(v:V)(h:H0 kvs k=none):putK kvs k v=kvs++[(k,v)]:=by
 unfold putK
 rw[z6z,h]
 exact if_neg (by decide)
theorem M1.N9{o:Option V}{u:Option Value}(r:M1 o u):o.isSome=u.isSome:=by
 cases o with
 | none=>cases u with
  | none=>rfl
  | some _=>exact(show False from r).elim
 | some _=>cases u with
  | none=>exact(show False from r).elim
  | some _=>rfl
theorem KV.val{kvs:List (κ×V)}{vs:List (κ×Value)}(r:KV kvs vs)(k:κ):M1 (H0 kvs k) (valueAt vs k):=by
 unfold KV at r
 induction r with
 | nil=>exact True.intro
 | @cons p q ps qs h t ih=>
  obtain⟨h1,h2⟩:=h
  by_cases e:p.1=k
  ·have e':q.1=k:=h1.symm.trans e
   have b:valueAt (q::qs) k=some q.2:=by simp[valueAt,dN,e']
   rw[z5k e,b];exact h2
  ·have e':¬q.1=k:=fun z=>e (h1.trans z)
   have b:valueAt (q::qs) k=valueAt qs k:=by simp[valueAt,dN,e']
   rw[z4Z e,b];exact ih
theorem KV.any{kvs:List (κ×V)}{vs:List (κ×Value)}(r:KV kvs vs)(k:κ):(kvs.any fun kv=>decide (kv.1=k))=vs.any fun kv=>decide (kv.1=k):=by
 unfold KV at r
 induction r with
 | nil=>rfl
 | cons h t ih=>rw[fW,fW,ih,h.1]
theorem KV.Z4{kvs:List (κ×V)}{vs:List (κ×Value)}(r:KV kvs vs)(k:κ){y:V}{u:Value}(ry:RelV y u) :
  KV (kvs.map fun kv=>if kv.1=k then (kv.1,y) else kv) (vs.map fun kv=>if kv.1=k then (kv.1,u) else kv):=by
 unfold KV at r ⊢
 induction r with
 | nil=>exact .nil
 | @cons p q ps qs h t ih=>
  rw[cK,cK]
  refine .cons ?_ ih
  obtain⟨h1,h2⟩:=h
  by_cases e:p.1=k
  ·rw[if_pos e,if_pos (h1.symm.trans e)];exact⟨h1,ry⟩
  ·rw[if_neg e,if_neg (fun z=>e (h1.trans z))];exact⟨h1,h2⟩
theorem KV.put{kvs:List (κ×V)}{vs:List (κ×Value)}(r:KV kvs vs)(k:κ){y:V}{u:Value}(ry:RelV y u):KV (putK kvs k y) (stored vs k u):=by
 unfold putK stored
 rw[r.any k]
 by_cases e:(vs.any fun kv=>decide (kv.1=k))=true
 ·rw[if_pos e,if_pos e];exact r.Z4 k ry
 ·rw[if_neg e,if_neg e];exact jC r ⟨rfl,ry⟩
theorem KV.keys{kvs:List (κ×V)}{vs:List (κ×Value)}(r:KV kvs vs):kvs.map (·.1)=vs.map (·.1):=by
 unfold KV at r
 induction r with
 | nil=>rfl
 | cons h t ih=>rw[cK,cK,ih,h.1]
theorem KV.length{kvs:List (κ×V)}{vs:List (κ×Value)}(r:KV kvs vs):kvs.length=vs.length:=Paired.length r
end
theorem y3Q{P:Program}{w:World}{k:Key}{u:Value}(r:RelV (kV k) u):(z1o P w).is k u=true:=by
 cases k with
 | inl i=>obtain⟨t,e⟩:=(show ∃t,u=Value.int i t from r);subst e;exact y0q P w i t
 | inr x=>obtain⟨t,e⟩:=(show ∃t,u=Value.str x t from r);subst e;exact y0r P w x t
theorem z9y{P:Program}{w:World}:∀{ks:List Key}{us:List Value},Vals (ks.map kV) us->ItemsAre (z1o P w) ks us
 | [],_,r=>by rw[List.map_nil] at r;cases r;exact .nil
 | k::ks,_,r=>by
  rw[cK] at r
  cases r with
  | cons h t=>exact .cons (y3Q h) (z9y t)
abbrev KT(H:Hp):List (List Key×V)->List (List Key×Addr×Value)->Prop:=Paired fun p q=>p.1=q.1/\H q.2.1=some (.tup (p.1.map kV))/\RelV p.2 q.2.2
theorem KT.val{H:Hp}{kvs:List (List Key×V)}{xs:List (List Key×Addr×Value)}(r:KT H kvs xs)(k:List Key):M1 (H0 kvs k) ((atKey xs k).map (·.2)):=by
 induction r with
 | nil=>exact True.intro
 | @cons p q ps qs h t ih=>
  obtain⟨h1,_,h2⟩:=h
  by_cases e:p.1=k
  ·have e':q.1=k:=h1.symm.trans e
   have b:atKey (q::qs) k=some q.2:=by simp[atKey,dN,e']
   rw[z5k e,b];exact h2
  ·have e':¬q.1=k:=fun z=>e (h1.trans z)
   have b:atKey (q::qs) k=atKey qs k:=by simp[atKey,dN,e']
   rw[z4Z e,b];exact ih
theorem KT.Z4{H:Hp}{kvs:List (List Key×V)}{xs:List (List Key×Addr×Value)}(r:KT H kvs xs)(k:List Key){y:V}{u:Value}(ry:RelV y u) :
  KT H (kvs.map fun kv=>if kv.1=k then (kv.1,y) else kv) (xs.map (putAt k u)):=by
 induction r with
 | nil=>exact .nil
 | @cons p q ps qs h t ih=>
  rw[cK,cK]
  refine .cons ?_ ih
  obtain⟨h1,h2,h3⟩:=h
  unfold putAt
  by_cases e:p.1=k
  ·rw[if_pos e,if_pos (h1.symm.trans e)];exact⟨h1,h2,ry⟩
  ·rw[if_neg e,if_neg (fun z=>e (h1.trans z))];exact⟨h1,h2,h3⟩
theorem KT.put{H:Hp}{kvs:List (List Key×V)}{xs:List (List Key×Addr×Value)}(r:KT H kvs xs)(k:List Key){b:Addr}{y:V}{u:Value}(hb:H b=some (.tup (k.map kV)))(ry:RelV y u) :
  KT H (putK kvs k y) (storedH xs k b u):=by
 have e:(kvs.any fun kv=>decide (kv.1=k))=(atKey xs k).isSome:=by
  rw[z6z,(r.val k).N9,Option.isSome_map]
 unfold putK storedH
 rw[e]
 by_cases q:(atKey xs k).isSome=true
 ·rw[if_pos q,if_pos q];exact r.Z4 k ry
 ·rw[if_neg q,if_neg q];exact jC r ⟨rfl,hb,ry⟩
theorem KT.keeps{H H':Hp}{kvs:List (List Key×V)}{xs:List (List Key×Addr×Value)}(r:KT H kvs xs)(ht:∀b ys,H b=some (.tup ys)->H' b=some (.tup ys)):KT H' kvs xs:=
 Paired.U8 r fun _ _ z=>⟨z.1,ht _ _ z.2.1,z.2.2⟩
section
variable{P:Program}{w:World}{H:Hp}{h:Heap}{a:Addr}
theorem y6K{u:HO}(ok:HOk P w H h)(e:Rd H a u):z1g P w H h a u:=e.ok ok
theorem y4i{kvs:List (Key×V)}(ok:HOk P w H h)(e:Rd H a (.dK kvs)):kvs.length≤sizeLine/\(a == sysModules)=false/\∃vs,KV kvs vs/\h.DictOf (z1o P w) a vs:=
 show z1g P w H h a (.dK kvs) from y6K ok e
theorem y6N{kvs:List (Key×V)}(ok:HOk P w H h)(e:H a=some (.dK kvs)):kvs.length≤sizeLine/\(a == sysModules)=false/\∃vs,KV kvs vs/\h.DictOf (z1o P w) a vs:=y4i ok (.inl e)
theorem y1e{ks:List Key}(ok:HOk P w H h)(e:H a=some (.tup (ks.map kV))):(tupleKind (z1o P w)).is h ks a:=by
 obtain⟨_,its,r,o,h1,h2,⟨n,h3⟩,_⟩:=(show z1g P w H h a (.tup (ks.map kV)) from ok a _ e)
 exact⟨o,its.toArray,n,h1,h2,h3,by simpa using z9y r⟩
theorem y4j{kvs:List (List Key×V)}(ok:HOk P w H h)(e:Rd H a (.dT kvs)):kvs.length≤sizeLine/\(a == sysModules)=false/\
  ∃xs,KT H kvs xs/\h.DictOfH (tupleKind (z1o P w)) a xs:=by
 obtain⟨z,y,xs,r,o,es,ep,h1,h2,h3,h4,h5⟩:=(show z1g P w H h a (.dT kvs) from y6K ok e)
 refine⟨z,y,xs,r,o,es,ep,h1,h2,h3,h4,fun x hx=>?_,h5⟩
 have all:∀{l:List (List Key×V)}{m:List (List Key×Addr×Value)},KT H l m->∀x∈m,(tupleKind (z1o P w)).is h x.1 x.2.1:=by
  intro l m q
  induction q with
  | nil=>intro x hx;exact nomatch hx
  | @cons p q ps qs hq t ih=>
   intro x hx
   rcases bA.mp hx with e|hx
   ·subst e
    exact y1e ok (by rw[<- hq.1];exact hq.2.1)
   ·exact ih x hx
 exact all r x hx
theorem w0V{kvs:List (List Key×V)}(ok:HOk P w H h)(e:H a=some (.dT kvs)):kvs.length≤sizeLine/\(a == sysModules)=false/\
  ∃xs,KT H kvs xs/\h.DictOfH (tupleKind (z1o P w)) a xs:=y4j ok (.inl e)
end
def L0(H:Hp)(a:Addr)(y:V)(r:Option V):Prop:=
 (∃kvs k,Rd H a (.dK kvs)/\y=kV k/\r=H0 kvs k)\/∃kvs k b,Rd H a (.dT kvs)/\y=.ref b/\H b=some (.tup (k.map kV))/\r=H0 kvs k
def V5(H:Hp)(a:Addr)(y v:V)(H':Hp):Prop:=
 (∃kvs k,H a=some (.dK kvs)/\y=kV k/\kvs.length<sizeLine/\H'=upd H a (.dK (putK kvs k v)))\/
 ∃kvs k b,H a=some (.dT kvs)/\y=.ref b/\H b=some (.tup (k.map kV))/\kvs.length<sizeLine/\H'=upd H a (.dT (putK kvs k v))
theorem L0.k{H:Hp}{a:Addr}{kvs:List (Key×V)}{k:Key}(e:H a=some (.dK kvs)):L0 H a (kV k) (H0 kvs k):=.inl ⟨kvs,k,.inl e,rfl,rfl⟩
theorem V5.k{H:Hp}{a:Addr}{kvs:List (Key×V)}{k:Key}{v:V}(e:H a=some (.dK kvs))(hl:kvs.length<sizeLine):V5 H a (kV k) v (upd H a (.dK (putK kvs k v))):=.inl ⟨kvs,k,e,rfl,hl,rfl⟩
section
variable{X:Cx}{pins:List (Addr×Obj)}{σ:St}{H:Hp}{s:Shared}{a:Addr}{y v:V}{u r:Value}{o:Option V}{A:Around}{E:Value->Shared->Prop}
theorem Inv.big(I:Inv X pins σ H s):sysModules<s.heap.objs.size:=by
 have h:mainGlobals<s.heap.objs.size:=(I.mod.glob.keeps I.bk).lt
 exact jK (by decide) h
theorem y2I{Q:Value->Shared->Prop}(hu:A.units+1<cLine)(I:Inv X pins σ H s)(g:L0 H a y (some v))(ry:RelV y u)(h:∀w' s',Inv X pins σ H s'->RelV v w'->Q w' s') :
  wpAny (model X.prog X.w) A (getItem (.ref a) u) Q E s:=by
 rcases g with ⟨kvs,k,e,ey,l⟩|⟨kvs,k,b,e,ey,eb,l⟩
 ·subst ey
  obtain⟨z,hd,vs,rel,dd⟩:=y4i I.hok e
  obtain⟨w',hw,rw'⟩:=M1.some_of (v:=v) (o:=valueAt vs k) (by rw[l];exact rel.val k)
  exact wpAny_getItem_of (y3Q ry) dd.mapOf hw (h w' _ (I.tok _) rw')
 ·subst ey
  cases (show u=Value.ref b from ry)
  obtain⟨z,hd,xs,rel,dd⟩:=y4j I.hok e
  obtain⟨w',hw,rw'⟩:=M1.some_of (v:=v) (o:=(atKey xs k).map (·.2)) (by rw[l];exact rel.val k)
  obtain⟨p,hp,hp2⟩:=cJ.mp hw
  refine wpAny_getItem_heap (tupleKind_room_in1 hu) (y1e I.hok eb) dd hp ?_
  rw[hp2]
  exact h w' _ (I.tok _) rw'
theorem d_in{Q:Value->Shared->Prop}(hu:A.units+1<cLine)(I:Inv X pins σ H s)(g:L0 H a y o)(ry:RelV y u)(h:∀s',Inv X pins σ H s'->Q (.bool o.isSome) s') :
  wpAny (model X.prog X.w) A (compareOp .In u (.ref a)) Q E s:=by
 rcases g with ⟨kvs,k,e,ey,l⟩|⟨kvs,k,b,e,ey,eb,l⟩
 ·subst ey
  obtain⟨z,hd,vs,rel,dd⟩:=y4i I.hok e
  refine wpAny_in_of (y3Q ry) hd dd.mapOf ?_
  rw[<- (rel.val k).N9,<- l]
  exact h _ (I.tok _)
 ·subst ey
  cases (show u=Value.ref b from ry)
  obtain⟨z,hd,xs,rel,dd⟩:=y4j I.hok e
  refine wpAny_in_heap (tupleKind_room_in1 hu) (y1e I.hok eb) hd dd ?_
  have q:=(rel.val k).N9
  rw[Option.isSome_map] at q
  rw[<- q,<- l]
  exact h _ (I.tok _)
theorem y3r{h':Heap}{t':Nat}{ob:HO}(I:Inv X pins σ H s)(mu:Mut (H a))(hs:Heap.SameBut a s.heap h')(he:∃q,h'.get? a=some q)(new:z1g X.prog X.w (upd H a ob) h' a ob) :
  Inv X pins σ (upd H a ob) { s with heap:=h',toks:=t' }:=
 I.write (x:=a) (e:=a) mu (.inl rfl) (fun b q hb z=>(hs.2 b hb).trans z) he new
theorem y5A{P:Program}{w:World}{H':Hp}{h':Heap}{kvs:List (Key×V)}{vs:List (Key×Value)}(z:kvs.length≤sizeLine)(hd:(a == sysModules)=false)(rel:KV kvs vs)(dd:h'.DictOf (z1o P w) a vs) :
  z1g P w H' h' a (.dK kvs):=⟨z,hd,vs,rel,dd⟩
theorem y2Q{H':Hp}{Q:Unit->Shared->Prop}(hu:A.units+1<cLine)(I:Inv X pins σ H s)(g:V5 H a y v H')(ry:RelV y u)(rv:RelV v r)(h:∀s',Inv X pins σ H' s'->Q () s') :
  wpAny (model X.prog X.w) A (setItem (.ref a) u r) Q E s:=by
 rcases g with ⟨kvs,k,e,ey,l,eH⟩|⟨kvs,k,b,e,ey,eb,l,eH⟩
 ·subst ey eH
  obtain⟨z,hd,vs,rel,dd⟩:=y6N I.hok e
  have hz:vs.length≤sizeLine:=by rw[<- rel.length];exact z
  have hl:(putK kvs k v).length≤sizeLine:=by have:=z7b kvs k v;omega
  refine wpAny_setItem_pairs (hsz:=hz) (y3Q ry) dd fun h' dd' hs=>h _ ?_
  have he:∃q,h'.get? a=some q:=let ⟨q,_,_,hq,_⟩:=dd';⟨q,hq⟩
  exact y3r I (by rw[e];exact True.intro) hs he (y5A hl hd (rel.put k rv) dd')
 ·subst ey eH
  cases (show u=Value.ref b from ry)
  obtain⟨z,hd,xs,rel,dd⟩:=w0V I.hok e
  have hz:xs.length≤sizeLine:=by rw[<- Paired.length rel];exact z
  have hl:(putK kvs k v).length≤sizeLine:=by have:=z7b kvs k v;omega
  refine wpAny_setItem_heap (hsz:=hz) (tupleKind_room_in1 hu) (y1e I.hok eb) dd fun h' dd' hs=>h _ ?_
  obtain⟨q,es,ep,hq,h2,h3,h4,_,h5⟩:=dd'
  refine y3r I (by rw[e];exact True.intro) hs ⟨q,hq⟩ ⟨hl,hd,_,(rel.put k eb rv).keeps fun c ys ec=>?_,q,es,ep,hq,h2,h3,h4,h5⟩
  rw[z0e (z5j ec e (fun z=>nomatch z))]
  exact ec
end
section
variable{X:Cx}{pins:List (Addr×Obj)}{σ:St}{H:Hp}{s:Shared}{a:Addr}{kvs:List (Key×V)}{k:Key}{u:Value}{A:Around}{E:Value->Shared->Prop}
end
def NoSl(i:Expr):Prop:=∀ov iv,subscripted i false ov iv=operate [ov,iv] (getItem ov iv)
theorem y5T{prog:Program}{w:World}{A:Around}{E:Value->Shared->Prop}{s:Shared}{env:Env}{value slice:Expr}{pos:Pos}{T id:String}{Q:Value->Shared->Prop}
  (hl:typeLookup (.type T) "__getitem__"=pure (some (.builtin id))) (hs:NoSl slice)
  (h:wpAny (model prog w) A (eval value env) (fun o s₁=>wpAny (model prog w) A (eval slice env) (fun i s₂=>s₂.TypeIs o T/\wpAny (model prog w) A (getItem o i) Q E s₂) E s₁) E s) :
  wpAny (model prog w) A (eval (.Subscript value slice pos) env) Q E s:=by
 refine Subscript_ (wpAny_mono h (fun o s₁ h₁=>wpAny_mono h₁ (fun i s₂ h₂=>?_) fun _ _ x=>x) fun _ _ x=>x)
 obtain⟨hT,h₂⟩:=h₂
 unfold subscriptTail
 refine wpAny_bind ?_
 rw[getitemInPython_of_ne hT.not_modules]
 refine wpAny_bind (wpAny_specialOf hT hl ?_)
 have fin:wpAny (model prog w) A (subscripted slice false o i) (fun r s₃=>wpAny (model prog w) A (letTemporaryGo value o r >>= fun _=>pure r) Q E s₃) E s₂:=by
  rw[hs o i]
  exact wpAny_operating (wpAny_mono h₂ (fun r s₃ h₃=>wpAny_bind (wpAny_letTemporaryGo (wpAny_pure h₃))) fun _ _ x=>x)
 first
  | exact wpAny_pure (wpAny_bind fin)
  | exact wpAny_bind (wpAny_pure (wpAny_bind fin))
  | exact wpAny_bind fin
theorem y0n{X:Cx}{pins:List (Addr×Obj)}{σ:St}{H:Hp}{s:Shared}{a:Addr}{y:V}{o:Option V}(I:Inv X pins σ H s)(g:L0 H a y o):s.TypeIs (.ref a) "dict":=by
 rcases g with ⟨kvs,k,e,_,_⟩|⟨kvs,k,b,e,_,_,_⟩
 ·obtain⟨_,_,vs,_,dd⟩:=y4i I.hok e
  exact dd.typeIs
 ·obtain⟨_,_,xs,_,dd⟩:=y4j I.hok e
  exact dd.typeIs
def w0n(td ty:TE):TE:=fun σ H Q=>td σ H fun x H1=>ty σ H1 fun y H2=>∃a v,x=.ref a/\L0 H2 a y (some v)/\Q v H2
def tDIn(ty td:TE):TE:=fun σ H Q=>ty σ H fun y H1=>td σ H1 fun x H2=>∃a o,x=.ref a/\L0 H2 a y o/\Q (.bl o.isSome) H2
def w0i(td ty tv:TE):TS:=fun D σ H=>tv σ H fun v H1=>td σ H1 fun x H2=>ty σ H2 fun y H3=>∃a H4,x=.ref a/\V5 H3 a y v H4/\D.nx σ H4
section
variable{X:Cx}{o i e value:Expr}{pos pos' tpos:Pos}{td ty tv:TE}
theorem z7v(hu:X.A.units+1<cLine)(ho:PE X o td)(hi:PE X i ty)(hs:NoSl i):PE X (.Subscript o i pos) (w0n td ty):=by
 intro pins s σ H Q I h
 refine y5T PySem.F.slot_dict_getitem.lookup hs (thn (ho pins s σ H _ I h) fun u s1 ⟨x,H1,I1,rx,q1⟩=>thn (hi pins s1 σ H1 _ I1 q1) fun iv s2 hz=>?_)
 obtain⟨y,H2,I2,ry,a,v,ex,g,q2⟩:=hz
 subst ex
 obtain rfl:u=Value.ref a:=rx
 exact⟨y0n I2 g,y2I hu I2 g ry fun w' s3 I3 rw'=>⟨v,H2,I3,rw',q2⟩⟩
theorem y3Z(hu:X.A.units+1<cLine)(hi:PE X i ty)(ho:PE X o td):PC X .In i o (tDIn ty td):=by
 intro pins s σ H Q I h
 refine thn (hi pins s σ H _ I h) fun iv s1 ⟨y,H1,I1,ry,q1⟩=>thn (ho pins s1 σ H1 _ I1 q1) fun u s2 hz=>?_
 obtain⟨x,H2,I2,rx,a,ov,ex,g,q2⟩:=hz
 subst ex
 obtain rfl:u=Value.ref a:=rx
 exact d_in hu I2 g ry fun s3 I3=>⟨.bl ov.isSome,H2,I3,rfl,q2⟩
theorem y5V(hu:X.A.units+1<cLine)(ho:PE X o td)(hi:PE X i ty)(hv:PE X value tv)(hs:swapsWith value (some (.Subscript o i pos')) pos.line X.env=pure false) :
  PS X (.Assign [.Subscript o i pos'] value pos) (w0i td ty tv):=by
 intro pins s σ H D I h
 refine wpAny_Assign_Subscript (thn (hv pins s σ H _ I h) fun r s1 ⟨v,H1,I1,rv,q1⟩=>thn (ho pins s1 σ H1 _ I1 q1) fun u s2 ⟨x,H2,I2,rx,q2⟩=>thn (hi pins s2 σ H2 _ I2 q2) fun iv s3 hz=>?_) hs
 obtain⟨y,H3,I3,ry,a,H4,ex,g,q3⟩:=hz
 subst ex
 obtain rfl:u=Value.ref a:=rx
 exact y2Q hu I3 g ry rv fun s4 I4=>⟨σ,H4,I4,q3⟩
end
theorem y4y{P:Program}{w:World}{H:Hp}(h:Heap)(hb:sysModules<h.objs.size):z1g P w H (h.push { cls:=.type "dict",data:=.dict #[] }) h.objs.size (.dK []):=
 ⟨cQ _,beq_eq_false_iff_ne.mpr (d9 (bU hb)),[],.nil,Heap.DictOf.new h⟩
def y6F:TE:=fun _ H Q=>∀p,H p=none->Q (.ref p) (upd H p (.dK []))
section
variable{X:Cx}{pos:Pos}
theorem y4L:PE X (.Dict [] [] pos) y6F:=fun pins s σ H Q I h=>
 wpAny_Dict_empty ⟨.ref s.heap.objs.size,_,I.laid (a:=s.heap.objs.size) (o:=.dK []) (t':=s.toks) (fun _ _ q=>b8 _ q) (bB _) (y4y s.heap I.big),rfl,h _ (I.hok.fresh (bB _))⟩
end
section
variable{X:Cx}{pins:List (Addr×Obj)}{σ:St}{H:Hp}{s:Shared}{a:Addr}{y d:V}{u r:Value}{o:Option V}{A:Around}{E:Value->Shared->Prop}
end
section
variable{X:Cx}{o e f:Expr}{apos S5:Pos}{td ty tx:TE}
end
section
variable{X:Cx}{pins:List (Addr×Obj)}{σ:St}{H:Hp}{s:Shared}{a:Addr}{kvs:List (Key×V)}{A:Around}{E:Value->Shared->Prop}
end
section
variable{X:Cx}{pins:List (Addr×Obj)}{σ:St}{H:Hp}{s:Shared}{a:Addr}{y:V}{u:Value}{A:Around}{E:Value->Shared->Prop}
end
structure D0(P:Program)(w:World)(K:PySem.W.Frag)(mg:Str->Option Value)(base:Heap)(k:Nat)(C:Addr)(m:Str)(ps:List Str)(sp:Sp):Prop where
 cl:Cls K C
 ex:∃(f:Addr) (fd:FuncData),A7 P w K mg base CX0 k f fd ps sp/\z1J K fd ps []/\Meth K C m f
theorem D0.mk'{P:Program}{w:World}{K:PySem.W.Frag}{mg:Str->Option Value}{base:Heap}{k:Nat}{C:Addr}{m:Str}{ps:List Str}{sp:Sp}{f:Addr}{fd:FuncData}(c:Cls K C)(a:A7 P w K mg base CX0 k f fd ps sp)(b:z1J K fd ps [])(d:Meth K C m f) :
  D0 P w K mg base k C m ps sp:=⟨c,f,fd,a,b,d⟩
section
variable{X:Cx}{k:Nat}{C:Addr}{m x:Str}{ps:List Str}{sp:Sp}{o e:Expr}{es:List Expr}{ta:TE}{t:TA}{p pos apos:Pos}{pl:Sem Bool}
theorem z1Q(G:D0 X.prog X.w X.K X.mg X.base k C m ps sp)(hr:C5 k X.A)(he:PE X o ta)(ha:PA X (e::es) t)
  (hst:starEach (e::es) X.env=(false,eval e X.env)::starEach es X.env:=by rfl) (hpl:(backTo pos (starEach es X.env)).any (·.1)=false:=by rfl)
  (ht:eval (.Call (.Attribute o m apos) (e::es) [] pos) X.env=(do
   let ov <- eval o X.env
   standAt apos.atName
   let (f,first) <- holding [ov] (getMethod ov m pl)
   callWith pos f first (backTo pos (starEach (e::es) X.env)) (backToKw pos (keywordEach [] X.env))):=by rfl) :
  PE X (.Call (.Attribute o m apos) (e::es) [] pos) (y2w C m sp [] E0 ta t):=by
 obtain⟨f,fd,a,b,d⟩:=G.ex
 exact y3S he G.cl d a hr b .nil y1y ha hst hpl ht
theorem z2L(G:D0 X.prog X.w X.K X.mg X.base k C m ps sp)(hr:C5 k X.A)(he:PE X o ta)
  (ht:eval (.Call (.Attribute o m apos) [] [] pos) X.env=(do
   let ov <- eval o X.env
   standAt apos.atName
   let (f,first) <- holding [ov] (getMethod ov m pl)
   callWith pos f first (backTo pos (starEach [] X.env)) (backToKw pos (keywordEach [] X.env))):=by rfl) :
  PE X (.Call (.Attribute o m apos) [] [] pos) (y2w C m sp [] E0 ta U6):=by
 obtain⟨f,fd,a,b,d⟩:=G.ex
 exact y4U he G.cl d a hr b .nil y1y ht
end
structure Mkr(P:Program)(w:World)(K:PySem.W.Frag)(mg:Str->Option Value)(base:Heap)(k:Nat)(C:Addr)(x:Str)(ps:List Str)(sp:Sp):Prop where
 ex:∃(f:Addr) (fd:FuncData),A7 P w K mg base CX0 k f fd ps sp/\z1J K fd ps []/\Mk K C f/\mg x=some (.ref C)
theorem Mkr.mk'{P:Program}{w:World}{K:PySem.W.Frag}{mg:Str->Option Value}{base:Heap}{k:Nat}{C:Addr}{x:Str}{ps:List Str}{sp:Sp}{f:Addr}{fd:FuncData}(a:A7 P w K mg base CX0 k f fd ps sp)(b:z1J K fd ps [])(c:Mk K C f)(d:mg x=some (.ref C)) :
  Mkr P w K mg base k C x ps sp:=⟨f,fd,a,b,c,d⟩
section
variable{X:Cx}{k:Nat}{C:Addr}{m x:Str}{ps:List Str}{sp:Sp}{o e:Expr}{es:List Expr}{ta:TE}{t:TA}{p pos apos:Pos}
theorem y3m(G:Mkr X.prog X.w X.K X.mg X.base k C x ps sp)(hr:C5 (k+1) X.A)(hg:Gl X x)(ha:PA X (e::es) t)
  (hdb:(x == ("__debug__":Str))=false:=by decide) (he:starEach (e::es) X.env=(false,eval e X.env)::starEach es X.env:=by rfl) (hpl:(backTo pos (starEach es X.env)).any (·.1)=false:=by rfl) :
  PE X (.Call (.Name x p) (e::es) [] pos) (y77 C sp [] E0 t):=by
 obtain⟨f,fd,a,b,c,d⟩:=G.ex
 exact y6i c a hr hg d b .nil y1y ha hdb he hpl
theorem z2w{n:Int}(hg:Gl X x)(hm:∃t,X.mg x=some (.int n t))(hd:(x == ("__debug__":Str))=false:=by decide):PE X (.Name x pos) (tC (.int n)):=by
 obtain⟨t,e⟩:=hm
 exact y3K hg e ⟨t,rfl⟩ hd
end
def y5n(K:PySem.W.Frag):List V->Hp->VK->Prop:=fun xs H Q=>∃p ys,xs=[.ref p]/\((SqL K H p ys/\∀l,H l=none->Q (.ref l) (upd H l (.tup ys)))\/(SqT K H p ys/\Q (.ref p) H))
section
variable{X:Cx}{K:PySem.W.Frag}
theorem z7P(h:X.K=K):z3b X (.type "tuple") (y5n K):=by
 subst h
 exact z0s
end
section
variable{X:Cx}
def y6B(K:PySem.W.Frag)(le:Int->Int->Prop):List V->Hp->VK->Prop:=fun xs H Q=>∃p ns,xs=[.ref p]/\SqI K H p ns/\ns≠[]/\∀m,m∈ns->(∀y∈ns,le y m)->Q (.int m) H
theorem z9o(hc:X.calm=true):z3b X (.builtin "max") (y6B X.K fun y m=>y≤m):=by
 intro pins s σ H xs us Q I r h
 obtain⟨a,ns,rfl,hq,hn,q⟩:=h
 obtain⟨u,rfl,ru⟩:=z3H r
 cases ru
 refine call_max_walk (z5a (A:=X.A.in1) I (I.ok.hd hc) hq fun it fp St its s3 rv W st hfp back=>?_)
 have hl:=rv.length
 rw[b7] at hl
 have h0:0<its.length:=by
  rw[<- hl]
  exact fP.mpr hn
 refine⟨it,fp,[it],_,_,St,_,rfl,W,st,hfp,by rw[bK];exact h0,CmpOf.ints_gt (fun i=>ns.getD i 0) (z2v rv),fun v h' tk hv k=>?_⟩
 rw[bK] at hv
 obtain⟨t,rfl⟩:=z2v rv _ _ hv
 obtain⟨b1,b2⟩:=z92 (fun i=>ns.getD i 0) (its.length-1)
 refine⟨.int _,H,back h' tk k,⟨t,rfl⟩,q _ (z6v (by omega)) fun y hy=>?_⟩
 obtain⟨i,hi,rfl⟩:=z6w hy
 exact b2 i (by omega)
theorem z7j(hc:X.calm=true):z3b X (.builtin "min") (y6B X.K fun y m=>m≤y):=by
 intro pins s σ H xs us Q I r h
 obtain⟨a,ns,rfl,hq,hn,q⟩:=h
 obtain⟨u,rfl,ru⟩:=z3H r
 cases ru
 refine call_min_walk (z5a (A:=X.A.in1) I (I.ok.hd hc) hq fun it fp St its s3 rv W st hfp back=>?_)
 have hl:=rv.length
 rw[b7] at hl
 have h0:0<its.length:=by
  rw[<- hl]
  exact fP.mpr hn
 refine⟨it,fp,[it],_,_,St,_,rfl,W,st,hfp,by rw[bK];exact h0,CmpOf.ints_lt (fun i=>ns.getD i 0) (z2v rv),fun v h' tk hv k=>?_⟩
 rw[bK] at hv
 obtain⟨t,rfl⟩:=z2v rv _ _ hv
 obtain⟨b1,b2⟩:=z97 (fun i=>ns.getD i 0) (its.length-1)
 refine⟨.int _,H,back h' tk k,⟨t,rfl⟩,q _ (z6v (by omega)) fun y hy=>?_⟩
 obtain⟨i,hi,rfl⟩:=z6w hy
 exact b2 i (by omega)
theorem y5m(hu:X.A.units<cLine):OpR X (compareOp .Eq) (fun x y H Q=>∃a b xs,x=.ref a/\y=.ref b/\SqL X.K H a xs/\SqL X.K H b []/\Q (.bl xs.isEmpty) H):=by
 intro pins s σ H x y v u Q I rx ry h
 obtain⟨a,b,xs,rfl,rfl,ha,hb,q⟩:=h
 cases rx
 cases ry
 obtain⟨its,r,pl,hz⟩:=I.list ha
 obtain⟨L6,r2,pl2,hz2⟩:=I.list hb
 cases r2
 have hl:=r.length
 cases xs with
 | nil=>
  cases r
  exact SeqAt.RcAt.lists (e:=fun _=>true) pl.isList pl2.isList rfl hu (fun j h1 _=>absurd h1 (fB _)) X.prog X.w X.xe _ ⟨.bl true,H,I,rfl,q⟩
 | cons x0 xr=>
  refine SeqAt.RcAt.lists_lengths pl.isList pl2.isList ?_ hu X.prog X.w X.xe _ ⟨.bl false,H,I,rfl,q⟩
  rw[bK,<- hl]
  rfl
end
end L2
namespace L2
open PySem
def Ris(xs:Array Nat):Prop:=∀i j,i<j->j<xs.size->xs.getD i 0<xs.getD j 0
theorem y4u{xs:Array Nat}{i d e:Nat}(h:i<xs.size):xs.getD i d=xs.getD i e:=by simp[Array.getD,h]
structure Lo(xs:Array Nat)(j r:Nat):Prop where
 le:r≤xs.size
 lt:∀i,i<r->xs.getD i 0<j
 ge:∀i,r≤i->i<xs.size->j≤xs.getD i 0
theorem z8L{xs:Array Nat}{j:Nat}(hr:Ris xs):∀(fuel lo hi:Nat),hi-lo≤fuel->lo≤hi->hi≤xs.size->(∀i,i<lo->xs.getD i 0<j)->(∀i,hi≤i->i<xs.size->j≤xs.getD i 0)->Lo xs j (SetTable.below.go xs j fuel lo hi)
 | 0,lo,hi,h,hl,hs,a,b=>by
  unfold SetTable.below.go
  have:lo=hi:=by omega
  subst this
  exact⟨hs,a,b⟩
 | fuel+1,lo,hi,h,hl,hs,a,b=>by
  unfold SetTable.below.go
  by_cases c:lo<hi
  ·rw[if_pos c]
   have m1:lo≤(lo+hi) / 2:=by omega
   have m2:(lo+hi) / 2<hi:=by omega
   have m3:(lo+hi) / 2<xs.size:=by omega
   dsimp only
   rw[y4u (e:=0) m3]
   by_cases d:xs.getD ((lo+hi) / 2) 0<j
   ·rw[if_pos d]
    refine z8L hr fuel _ hi (by omega) (by omega) hs (fun i hi'=>?_) b
    by_cases e:i=(lo+hi) / 2
    ·rw[e];exact d
    ·exact jK (hr i _ (by omega) m3) d
   ·rw[if_neg d]
    refine z8L hr fuel lo _ (by omega) m1 (by omega) a fun i hi' hz=>?_
    by_cases e:i=(lo+hi) / 2
    ·rw[e];omega
    ·have:=hr _ i (show(lo+hi) / 2<i by omega) hz
     omega
  ·rw[if_neg c]
   have:lo=hi:=by omega
   subst this
   exact⟨hs,a,b⟩
theorem y0Y{xs:Array Nat}(hr:Ris xs)(j:Nat):Lo xs j (SetTable.below xs j):=
 z8L hr _ _ _ (by omega) (cQ _) (bB _) (fun _ h=>absurd h (fB _)) fun i h h'=>by omega
theorem Lo.at{xs:Array Nat}{j r:Nat}(h:Lo xs j r){i:Nat}(hi:i<xs.size)(e:xs.getD i 0=j)(hr:Ris xs):r=i:=by
 rcases Nat.lt_trichotomy r i with a|a|a
 ·have h1:=h.ge r (bB _) (by omega)
  have h2:=hr r i a hi
  omega
 ·exact a
 ·have:=h.lt i a
  omega
theorem z8j{xs:Array Nat}{p j:Nat}(hp:p≤xs.size)(i:Nat):(SetTable.insertAt xs p j).getD i 0=if i<p then xs.getD i 0 else if i=p then j else xs.getD (i-1) 0:=by
 unfold SetTable.insertAt
 simp only[Array.getD_eq_getD_getElem?]
 by_cases h1:i<p
 ·rw[if_pos h1,Array.getElem?_append_left (by simp;omega),Array.getElem?_push,if_neg (by simp;omega),Array.getElem?_extract]
  rw[if_pos (by omega),gE]
 ·rw[if_neg h1]
  by_cases h2:i=p
  ·subst h2
   rw[if_pos rfl,Array.getElem?_append_left (by simp;omega),Array.getElem?_push,if_pos (by simp[Nat.min_eq_left hp])]
   rfl
  ·rw[if_neg h2,Array.getElem?_append_right (by simp;omega),Array.getElem?_extract]
   have e:p+(i-((xs.extract 0 p).push j).size)=i-1:=by simp;omega
   rw[e]
   by_cases h3:i-1<xs.size
   ·rw[if_pos (by simp;omega)]
   ·rw[if_neg (by simp;omega),gA (by omega)]
theorem y56{α:Type}{xs:Array α}{p:Nat}{j:α}(hp:p≤xs.size):(SetTable.insertAt xs p j).size=xs.size+1:=by
 unfold SetTable.insertAt
 simp
 omega
theorem y6u{xs:Array Nat}{j:Nat}(hr:Ris xs)(hj:xs[SetTable.below xs j]? ≠ some j):Ris (SetTable.insertAt xs (SetTable.below xs j) j):=by
 have lo:=y0Y hr j
 generalize SetTable.below xs j=p at lo hj
 intro a b hab hb
 rw[y56 lo.le] at hb
 rw[z8j lo.le,z8j lo.le]
 have hne:∀i,i<xs.size->p≤i->j<xs.getD i 0:=fun i hi hpi=>by
  have h1:=lo.ge i hpi hi
  rcases Nat.lt_or_ge j (xs.getD i 0) with q|q
  ·exact q
  ·have e:xs.getD i 0=j:=by omega
   have:=lo.at hi e hr
   subst this
   refine absurd ?_ hj
   rw[cY hi]
   simp[Array.getD,hi] at e
   rw[e]
 by_cases a1:a<p
 ·rw[if_pos a1]
  by_cases b1:b<p
  ·rw[if_pos b1]
   have:=lo.le
   exact hr a b hab (by omega)
  ·rw[if_neg b1]
   by_cases b2:b=p
   ·rw[if_pos b2]
    exact lo.lt a a1
   ·rw[if_neg b2]
    exact jK (lo.lt a a1) (hne _ (by omega) (by omega))
 ·rw[if_neg a1,if_neg (show ¬b<p by omega),if_neg (show ¬b=p by omega)]
  by_cases a2:a=p
  ·rw[if_pos a2]
   exact hne _ (by omega) (by omega)
  ·rw[if_neg a2]
   exact hr _ _ (by omega) (by omega)
structure N1(t:SetTable):Prop where
 ris:Ris t.place
 dum:t.dummies=#[]
theorem y2A(n:Nat):Ris (Array.range n):=fun i j h hj=>by
 have hj':j<n:=by simpa using hj
 simp[Array.getD,hj',show i<n by omega]
 omega
theorem z3A(t:SetTable)(n:Nat):N1 (t.standIn n):=⟨y2A n,rfl⟩
theorem y1F{t:SetTable}(hd:t.dummies=#[]){j:Nat}(h:t.slot j=.empty):t.place[SetTable.below t.place j]? ≠ some j:=by
 intro e
 unfold SetTable.slot at h
 dsimp only at h
 rw[e] at h
 simp at h
theorem y1z{t:SetTable}(hd:t.dummies=#[]){j:Nat}:t.slot j≠.dummy:=by
 unfold SetTable.slot
 dsimp only
 intro h
 split at h
 ·cases h
 ·split at h
  ·rename_i h2
   rw[hd] at h2
   unfold SetTable.has at h2
   simp at h2
  ·cases h
theorem y0X{t:SetTable}{ha:Nat->Int}{h:Int}(hd:t.dummies=#[])(hne:∀i,(ha i == h)=false):∀(fuel:Nat) (p:SetTable.Probe) (j:Nat) (d:Option Nat),p.dummy=none->SetTable.probe.go t ha h fuel p=some (.empty j d)->d=none/\t.slot j=.empty
 | 0,p,j,d,_,e=>by
  unfold SetTable.probe.go at e
  cases e
 | fuel+1,p,j,d,hp,e=>by
  unfold SetTable.probe.go at e
  cases hs:t.slot p.j with
  | empty=>
   rw[hs] at e
   simp at e
   obtain⟨rfl,rfl⟩:=e
   exact⟨hp,hs⟩
  | dummy=>exact absurd hs (y1z hd)
  | live i=>
   rw[hs] at e
   dsimp only at e
   rw[hne i,if_neg bF] at e
   refine y0X hd hne fuel _ j d ?_ e
   unfold SetTable.advance
   split
   ·exact hp
   ·exact hp
theorem y23{t:SetTable}{es:Array (Int×Value)}{h:Int}{x:Value}(k:N1 t):N1 (layNew t es h x).2.1/\(layNew t es h x).2.1.led=t.led:=by
 unfold layNew
 cases e:t.freeSlot h with
 | none=>exact⟨z3A _ _,rfl⟩
 | some q=>
  obtain⟨slot,wd⟩:=q
  have ok:t.place[SetTable.below t.place slot]? ≠ some slot:=by
   unfold SetTable.freeSlot at e
   cases ep:t.probe (fun _=>h+1) h (t.probeStart h) with
   | none=>rw[ep] at e;cases e
   | some m=>
    rw[ep] at e
    cases m with
    | candidate a b c=>cases e
    | empty j d=>
     obtain⟨d0,hs⟩:=y0X k.dum (fun _=>by simp;omega) _ _ j d rfl ep
     subst d0
     simp at e
     obtain⟨rfl,_⟩:=e
     exact y1F k.dum hs
  dsimp only
  have kp:N1 (t.put slot).1/\(t.put slot).1.led=t.led:=by
   unfold SetTable.put
   refine⟨⟨y6u k.ris ok,?_⟩,rfl⟩
   dsimp only
   rw[k.dum]
   split
   ·rename_i h2
    unfold SetTable.has at h2
    simp at h2
   ·rfl
  unfold SetTable.orStandIn
  split
  ·exact kp
  ·exact⟨z3A _ _,kp.2⟩
theorem y4D{l:List Nat}(hp:l.Pairwise (· < ·)):Ris l.toArray:=fun i j hij hj=>by
 have hj':j<l.length:=by simpa using hj
 have:=List.pairwise_iff_getElem.mp hp i j (by omega) hj' hij
 simp[Array.getD,hj',show i<l.length by omega]
 exact this
theorem y4q(owner:Array (Option Nat))(m:Nat):Ris (((List.range m).filterMap fun j=>(owner.getD j none).map (j,·)).map (·.1)).toArray:=by
 have hp:(((List.range m).filterMap fun j=>(owner.getD j none).map (j,·)).map (·.1)).Pairwise (· < ·):=by
  rw[dY]
  refine List.Pairwise.filterMap _ ?_ h9
  intro a b hab c hc d hd
  simp only[cJ] at hc hd
  obtain⟨_,_,rfl⟩:=hc
  obtain⟨_,_,rfl⟩:=hd
  exact hab
 exact y4D hp
theorem y2g{t:SetTable}{es:Array (Int×Value)}{wanted:Nat}:N1 (relayAll t es wanted).2.1/\(relayAll t es wanted).2.1.led=t.led:=by
 unfold relayAll
 cases e:t.relaid (es.map (·.1)) wanted with
 | none=>exact⟨z3A _ _,rfl⟩
 | some q=>
  obtain⟨t',order⟩:=q
  dsimp only
  split
  ·unfold SetTable.relaid SetTable.laid at e
   simp only[Option.bind_eq_bind,Option.bind_eq_some_iff] at e
   obtain⟨owner,_,e2⟩:=e
   injection e2 with e2
   injection e2 with e3 e4
   subst e3
   exact⟨⟨y4q _ _,rfl⟩,rfl⟩
  ·exact⟨z3A _ _,rfl⟩
section
variable{prog:Program}{w:World}{A:Around}{E:Value->Shared->Prop}{s:Shared}{κ:Type}[DecidableEq κ]{kd:KeyKind prog w κ}{led:Bool}
def F1(kd:KeyKind prog w κ)(led:Bool)(h:Heap)(a:Addr)(ks:List κ):Prop:=
 ∃o es ep t,h.get? a=some o/\o.ExactSet/\o.data=.set es ep t/\ElemsOf kd es.toList/\(∀k,k∈ks↔∃e∈es.toList,kd.is k e.2=true)/\es.size<scanBound/\t.fits es.size=true/\es.size=(C7 ks).length/\N1 t/\t.led=led
theorem F1.at{h h':Heap}{a:Addr}{ks:List κ}(x:F1 kd led h a ks)(e:∀o,h.get? a=some o->h'.get? a=some o):F1 kd led h' a ks:=by
 obtain⟨o,es,ep,t,ho,r⟩:=x
 exact⟨o,es,ep,t,e o ho,r⟩
theorem F1.stored{h:Heap}{a:Addr}{o:Obj}{es es':Array (Int×Value)}{ep:Nat}{t t':SetTable}{ks:List κ}(ho:h.get? a=some o)(hx:o.ExactSet)(hd:o.data=.set es ep t)(el:ElemsOf kd es'.toList)(mem:∀k,k∈ks↔∃e∈es'.toList,kd.is k e.2=true)
  (few:es'.size<scanBound) (fit:t'.fits es'.size=true) (sz:es'.size=(C7 ks).length) (tab:N1 t') (hl:t'.led=led) :
  (h.update a (Obj.putSet es' t')).get? a=some { o with data:=.set es' (ep+1) t' }/\F1 kd led (h.update a (Obj.putSet es' t')) a ks:=by
 have g:(h.update a (Obj.putSet es' t')).get? a=some { o with data:=.set es' (ep+1) t' }:=by
  have:=dB (Obj.putSet es' t') ho (by rw[putSet_of es' t' hd];rfl)
  rw[putSet_of es' t' hd] at this
  exact this
 exact⟨g,_,es',ep+1,t',g,hx,rfl,el,mem,few,fit,sz,tab,hl⟩
theorem z9H{g:Bool->Sem Unit}(hg:∀(b:Bool) (s₁:Shared) (Q':Unit->Shared->Prop),Q' () s₁->wpAny (model prog w) A (g b) Q' E s₁){a:Addr}{o:Obj}{es es1:Array (Int×Value)}{ep:Nat}{t t2:SetTable}{ks:List κ}(ho:s.heap.get? a=some o)(hx:o.ExactSet)(hd:o.data=.set es ep t)
  (el:ElemsOf kd es1.toList) (mem:∀k,k∈ks↔∃e∈es1.toList,kd.is k e.2=true) (few:es1.size<scanBound) (fit:t2.fits es1.size=true) (sz:es1.size=(C7 ks).length) (tab:N1 t2) (hl:t2.led=led) {wd:Bool}{R:Option Bool->Shared->Prop}
  (fin:∀h',Heap.SameBut a s.heap h'->F1 kd led h' a ks->R (some true) { s with heap:=h' }) :
  wpAny (model prog w) A (do
    storeSet a es1 t2
    if (!wd && t2.tooFull)=true then do
      g (relayAll t2 es1 (SetTable.grown es1.size)).2.2
      storeSet a (relayAll t2 es1 (SetTable.grown es1.size)).1 (relayAll t2 es1 (SetTable.grown es1.size)).2.1
      pure (some true)
     else pure (some true)) R E s:=by
 refine wpAny_bind (wpAny_storeSet_of ho hd ?_ (fits_of_scanBound few))
 obtain⟨g1,w1⟩:=F1.stored ho hx hd el mem few fit sz tab hl
 have sb1:=fQ s.heap a (Obj.putSet es1 t2)
 split
 ·have pm:=relayAll_perm t2 es1 (SetTable.grown es1.size)
  have ft:=relayAll_fits t2 es1 (SetTable.grown es1.size)
  have tb:=y2g (t:=t2) (es:=es1) (wanted:=SetTable.grown es1.size)
  generalize relayAll t2 es1 (SetTable.grown es1.size)=L at pm ft tb
  obtain⟨es2,t3,gave⟩:=L
  dsimp only at pm ft tb ⊢
  have sz2:es2.size=es1.size:=by rw[<- cL,pm.length_eq,cL]
  refine wpAny_bind (hg _ _ _ (wpAny_bind (wpAny_storeSet_of g1 rfl ?_ (fits_of_scanBound (by omega)))))
  obtain⟨_,w2⟩:=F1.stored (kd:=kd) (ks:=ks) g1 hx rfl (el.perm pm) (fun k=>(mem k).trans ⟨fun⟨e,he,q⟩=>⟨e,pm.mem_iff.mpr he,q⟩,fun⟨e,he,q⟩=>⟨e,pm.mem_iff.mp he,q⟩⟩) (by omega) ft (by omega) tb.1 (tb.2.trans hl)
  exact wpAny_pure (fin _ (sb1.trans (fQ _ a _)) w2)
 ·exact wpAny_pure (fin _ sb1 w1)
theorem y4x{a:Addr}{ks:List κ}{k:κ}{x:Value}{Q:Bool->Shared->Prop}(iv:kd.is k x=true)(sc:x.scannable=true)(hS:F1 kd led s.heap a ks)(room:ks.length+1<scanBound)
  (fin:∀(b:Bool) (h':Heap),Heap.SameBut a s.heap h'->F1 kd led h' a (ks++[k])->Q b { s with heap:=h' }):wpAny (model prog w) A (setAddHashed a x (kd.hash k)) Q E s:=by
 obtain⟨o,es,ep,t,ho,hx,hd,hel,mem,hb,fit,sz,tab,hl⟩:=hS
 have lm:=z6y ks
 unfold setAddHashed setAddHashedIn
 refine wpAny_holding (wpAny_bind (wpAny_setState_of ho hd fit ?_))
 dsimp only
 rw[byScan_of sc hb hel,if_pos rfl]
 unfold setAddByScan
 refine wpAny_bind (wpAny_bind (wpAny_rule (wpAny_bind (wpAny_setScan_of iv ho hd fit hel ?_))))
 cases hr:List.findIdx? (fun e=>kd.is k e.2) es.toList with
 | some j=>
  obtain⟨hj,hpj,_⟩:=List.findIdx?_eq_some_iff_getElem.mp hr
  have hk:k∈ks:=(mem k).mpr ⟨_,fM hj,hpj⟩
  refine wpAny_pure (wpAny_pure ?_)
  have e:s={ s with heap:=s.heap }:=by cases s;rfl
  rw[e]
  refine fin _ s.heap (Heap.SameBut.refl a s.heap) ⟨o,es,ep,t,ho,hx,hd,hel,fun k'=>?_,hb,fit,?_,tab,hl⟩
  ·rw[<- mem k',bO,b9]
   exact⟨fun h=>h.elim id fun e=>e ▸ hk,.inl⟩
  ·rw[z7i,if_pos (z2u.mpr hk)]
   exact sz
 | none=>
  have hk:k∉ks:=fun hk=>by
   obtain⟨e,he,hp⟩:=(mem k).mp hk
   have:=List.findIdx?_eq_none_iff.mp hr e he
   rw[hp] at this
   cases this
  have gw:∀(b:Bool) {s₁:Shared}{Q':Unit->Shared->Prop},Q' () s₁->wpAny (model prog w) A (match b with|true=>rule "set.scan.the-table-gave-way"|false=>pure ()) Q' E s₁:=fun b _ _ hq=>by
   cases b
   ·exact wpAny_pure hq
   ·exact wpAny_rule hq
  have pm:=layNew_perm t es (kd.hash k) x
  have ft:=layNew_fits t es (kd.hash k) x
  have tb:=y23 (es:=es) (h:=kd.hash k) (x:=x) tab
  generalize layNew t es (kd.hash k) x=L at pm ft tb
  obtain⟨es1,t1,wd,gave⟩:=L
  dsimp only at pm ft tb ⊢
  rw[Array.toList_push] at pm
  have el1:ElemsOf kd es1.toList:=(hel.push iv sc).perm pm
  have mem1:∀k',k'∈ks++[k]↔∃e∈es1.toList,kd.is k' e.2=true:=fun k'=>by
   rw[bO,b9,mem k']
   constructor
   ·rintro(⟨e,he,hp⟩|rfl)
    ·exact⟨e,pm.mem_iff.mpr (cX _ he),hp⟩
    ·exact⟨_,pm.mem_iff.mpr (bY _ bS),iv⟩
   ·rintro⟨e,he,hp⟩
    rcases bO.mp (pm.mem_iff.mp he) with he|he
    ·exact .inl ⟨e,he,hp⟩
    ·rw[b9] at he
     subst he
     exact .inr (kd.inj x k' k hp iv)
  have sz1:es1.size=(C7 (ks++[k])).length:=by
   rw[z7i,if_neg (fun q=>hk (z2u.mp q)),bI,<- sz,<- cL,pm.length_eq,bI,cL]
   rfl
  have lm1:=z6y (ks++[k])
  rw[bI,cC,j8] at lm1
  have few1:es1.size<scanBound:=by omega
  refine wpAny_bind (gw _ ?_)
  have fin':∀h',Heap.SameBut a s.heap h'->F1 kd led h' a (ks++[k])->Q true { s with heap:=h' }:=fun h' sb sw=>fin true h' sb sw
  split
  ·refine wpAny_bind ?_
   rw[hashByValue_scannable 8 sc]
   refine wpAny_pure (z9H (fun b _ _ hq=>gw b hq) ho hx hd el1 mem1 few1 ?_ sz1 ?_ ?_ fun h' sb sw=>wpAny_pure (fin' h' sb sw))
   ·split
    ·exact ft
    ·exact SetTable.fits_plain_off ft
   ·split
    ·exact tb.1
    ·exact⟨tb.1.ris,tb.1.dum⟩
   ·split
    ·exact tb.2.trans hl
    ·exact tb.2.trans hl
  ·refine wpAny_bind (wpAny_pure ?_)
   rw[if_pos rfl]
   exact z9H (fun b _ _ hq=>gw b hq) ho hx hd el1 mem1 few1 ft sz1 tb.1 (tb.2.trans hl) fun h' sb sw=>wpAny_pure (fin' h' sb sw)
abbrev z7W(w:World):Bool:=!w.params.followText "set-order"
theorem z8M(x:Value){Q:Value->Shared->Prop}(h:Q (.ref s.heap.objs.size) { s with heap:=s.heap.push (E1 (z7W w)) }) :
  codeAny (model prog w) A (.call (.builtin "set.__new__") ⟨[.type "set",x],[]⟩) (wants Q E) s:=by
 refine codeAny_of_tree (show wpAny _ A.in1 (do checkBuiltinCall "set.__new__" ⟨[.type "set",x],[]⟩;again (.builtin "set.__new__" ⟨[.type "set",x],[]⟩)) _ _ s from ?_)
 refine wpAny_bind (wpAny_of_eq (PySem.F.newCall_set_1 x) (wpAny_pure ⟨plainId_quiet F.plain_set_new _,codeAny_builtin F.entry_set_new ?_⟩))
 rw[bZ F.plain_set_new _];unfold Builtin.«set.__new__» Builtin.Frozenset.newClass
 have hsub:=sub_set_self
 obtain⟨hp,g,d,tk,os⟩:=s;dsimp only
 wp_walk
 refine wpAny_askSetting (wpAny_pure ?_);dsimp only;simp only[newObj]
 exact wpAny_bind (wpAny_alloc (wpAny_pure (wpAny_pure h)))
theorem z6L{R:Result->Shared->Prop}{I:Addr}{fp wr:List Addr}{G:Array GenState->Array GenState->Prop}{n:Nat}{P:Nat->Value->Prop}{St:Nat->Shared->Prop}(W:WalksS prog w A.in1 I fp wr G n P St){a:Addr}(out:a∉fp){ks:List κ}(lk:ks.length=n)
  (vals:∀(i:Nat) v,P i v->∃k,ks[i]? = some k/\kd.is k v=true/\v.scannable=true) (few:n+1<scanBound) :
  ∀(todo i:Nat) (s:Shared),i+todo=n->St i s->F1 kd led s.heap a (ks.take i)->
   (∀s',Moved (a::wr) G s s'->F1 kd led s'.heap a ks->R (.ok (.ret .none)) s')->codeAny (model prog w) A (.builtin "set.update.loop" ⟨[.ref a,.ref I],[]⟩) R s
 | 0,i,s,ei,st,sx,fin=>by
  have e:ks.take i=ks:=dJ (by omega)
  rw[e] at sx
  have ei':i=n:=by omega
  subst ei'
  refine codeAny_builtin gP ?_
  rw[bZ eZ _]
  refine wpAny_bind (W.done s _ _ st fun s' mv=>wpAny_pure (fin s' (mv.mono fun b hb=>.tail _ hb) (sx.at fun o=>mv.heap a o fun q=>out (W.sub _ q))))
 | todo+1,i,s,ei,st,sx,fin=>by
  refine codeAny_builtin gP ?_
  rw[bZ eZ _]
  refine wpAny_bind (W.item i s _ _ (by omega) st fun v s1 hv st1 mv=>?_)
  obtain⟨k,ek,iv,sc⟩:=vals i v hv
  have sx1:=sx.at (h':=s1.heap) fun o=>mv.heap a o fun q=>out (W.sub _ q)
  refine wpAny_bind (wpAny_holding (m:=setAdd a v) ?_)
  unfold setAdd
  refine wpAny_holding (wpAny_bind (kd.pyHash iv ?_))
  refine y4x (s:={ s1 with toks:=s1.toks+1 }) iv sc sx1 (by rw[bN];omega) fun bb h2 sb sx2=>?_
  have e1:ks.take i++[k]=ks.take (i+1):=by rw[dX,ek]<;>rfl
  rw[e1] at sx2
  have far:∀b,b≠a->h2.get? b=s1.heap.get? b:=fun b hb=>sb.2 b hb
  refine wpAny_pure ⟨plainId_quiet eZ _,z6L W out lk vals few todo (i+1) _ (by omega) (W.frame _ s1 _ _ st1 (eI _) fun b hb o q=>?_) sx2 fun s3 mv3 sx4=>?_⟩
  ·rw[far b fun z=>out (z ▸ hb)];exact q
  ·refine fin s3 (.trans W.gtrans ((mv.mono fun b hb=>.tail _ hb).then_heap (eI _) fun b o hb q=>?_) mv3) sx4
   rw[far b fun z=>hb (z ▸ .head _)];exact q
theorem y3y{T:String}{p:Addr}{o:Obj}{its:Array Value}{c0:Nat}{ks:List κ}{Q:Value->Shared->Prop}(hh:A.handled=none)(hp:s.heap.get? p=some o)(hc:o.cls=.type T)(hd:o.data=.seq its c0)(hT:T="list"\/T="tuple")
  (lk:ks.length=its.size) (vals:∀(i:Nat) v,its[i]? = some v->∃k,ks[i]? = some k/\kd.is k v=true/\v.scannable=true) (few:its.size+1<scanBound)
  (fin:∀(h':Heap) (t:Nat),F1 kd (z7W w) h' s.heap.objs.size ks->(∀b u,b<s.heap.objs.size->s.heap.get? b=some u->h'.get? b=some u)->Q (.ref s.heap.objs.size) { s with heap:=h',toks:=t }) :
  wpAny (model prog w) A (call (.type "set") [.ref p]) Q E s:=by
 obtain⟨c,tl,hmro⟩:=d8.mro
 have g1:=d8.made
 have g2:=d8.sub
 refine wpAny_call (codeAny_of_tree (wpAny_pure ⟨Code.quiet_builtin _ (by decide +kernel),codeAny_builtin F.entry_type_call ?_⟩))
 rw[Around.under_plain (weight_type_call_type "set" [.ref p] []) rfl]
 have g3:=d8.notType
 have g4:=d8.canCreate
 have g5:=PySem.F.typeCall_set_1 (.ref p)
 repeat (any_goals (first|assumption|wp_step))
 refine codeAny_mono (z8M (.ref p) (E:=E) (Q:=fun u s1=>u=.ref s.heap.objs.size/\s1={ s with heap:=s.heap.push (E1 (z7W w)) }) ⟨rfl,rfl⟩) fun r s1 q1=>?_
 rcases r with e|(_|_|_|u)
 all_goals try exact q1.elim
 all_goals try exact q1
 obtain⟨rfl,rfl⟩:=q1
 generalize hled:z7W w=led at *
 have at1:(s.heap.push (E1 led)).get? s.heap.objs.size=some (E1 led):=bC _ rfl
 have ty1:Shared.TypeIs { s with heap:=s.heap.push (E1 led) } (.ref s.heap.objs.size) "set":=⟨_,at1,rfl⟩
 have g6:=d8.init.lookup
 have g7:=d8.init.bind (.ref s.heap.objs.size)
 repeat (any_goals (first|assumption|wp_step))
 refine codeAny_mono (codeAny_call_builtin (R:=wants (fun r s2=>r=.none/\∃h' t,s2={ s with heap:=h',toks:=t }/\F1 kd led h' s.heap.objs.size ks/\∀b u,b<s.heap.objs.size->s.heap.get? b=some u->h'.get? b=some u) E)
  d8.init.plain F.entry_set_init (check_set_init_1 ty1 ?_)) fun r s2 q2=>?_
 case _=>
  have hpS:p<s.heap.objs.size:=bJ hp
  obtain⟨oc,od,oa,os⟩:=o
  simp only at hc hd
  subst hc;subst hd
  have hp1:(s.heap.push (E1 led)).get? p=some { cls:=.type T,dict:=od,data:=.seq its c0,slots:=os }:=b8 _ hp
  have f1:isSubtype (.type T) (.type "set")=pure false:=by rcases hT with rfl|rfl<;>first|exact PySem.F.sub_list_set|exact Ty.z9F
  have f2:isSubtype (.type T) (.type "frozenset")=pure false:=by rcases hT with rfl|rfl<;>first|exact PySem.F.sub_list_frozenset|exact Ty.z3J
  have f3:(Value.type T == Value.type "dict")=false:=by rcases hT with rfl|rfl<;>decide
  have hh3:A.in1.in1.in1.handled=none:=by simp[hh]
  have sz:(s.heap.push (E1 led)).objs.size=s.heap.objs.size+1:=eU _ _
  have apart:p≠(s.heap.push (E1 led)).objs.size:=by rw[sz];exact bU (dC hpS)
  have out:s.heap.objs.size∉[(s.heap.push (E1 led)).objs.size,p]:=by rw[sz,bA,b9];exact fun z=>z.elim (bU (e8 _)) (fK hpS)
  have z48:∀x:Obj,F1 kd led ((s.heap.push (E1 led)).push x) s.heap.objs.size (ks.take 0):=fun x=>by
   refine⟨E1 led,#[],0,_,b8 x at1,⟨rfl,rfl,rfl⟩,rfl,fun e he=>by simp at he,fun k=>by simp,by simp[scanBound],rfl,by rw[d6];rfl,⟨fun i j _ h=>absurd h (fB _),rfl⟩,rfl⟩
  have ends:∀(x:Obj) (s':Shared),Moved [s.heap.objs.size,(s.heap.push (E1 led)).objs.size] (fun a b=>b=a) { s with heap:=(s.heap.push (E1 led)).push x } s'->F1 kd led s'.heap s.heap.objs.size ks->
    ∃h' t,s'={ s with heap:=h',toks:=t }/\F1 kd led h' s.heap.objs.size ks/\∀b u,b<s.heap.objs.size->s.heap.get? b=some u->h'.get? b=some u:=fun x s' mv sx=>by
   obtain⟨h',g',d',t',o'⟩:=s'
   obtain rfl:g'=s.gens:=mv.gens
   obtain rfl:d'=s.drawn:=mv.drawn
   obtain rfl:o'=s.os:=mv.os
   exact⟨h',t',rfl,sx,fun b u hb q=>mv.heap b u (by rw[sz,bA,b9];exact fun z=>z.elim (bU hb) (bU (dC hb))) (b8 _ (b8 _ q))⟩
  unfold Builtin.«set.__init__» noKeywords Builtin.Frozenset.updateFrom
  generalize hPI:pyIter=PI
  wp_walk
  subst hPI
  rcases hT with rfl|rfl
  ·have hl:(s.heap.push (E1 led)).IsList p its:=⟨_,hp1,rfl,c0,rfl⟩
   refine wpAny_pyIter_list hl (wpAny_bind (wpAny_runValue ?_))
   refine z6L (kd:=kd) ((Walks.list hh3 _ p apart its).toS) out lk vals few its.size 0 _ (gE _) ⟨⟨_,bC _ rfl,rfl,rfl⟩,hl.push _⟩ (z48 _) fun s' mv sx=>?_
   exact wpAny_pure (wpAny_pure ⟨rfl,ends _ s' mv sx⟩)
  ·have hl:(s.heap.push (E1 led)).IsTuple p its:=⟨_,hp1,rfl,c0,rfl⟩
   refine wpAny_pyIter_tuple hl (wpAny_bind (wpAny_runValue ?_))
   refine z6L (kd:=kd) ((Walks.tuple hh3 _ p apart its).toS) out lk vals few its.size 0 _ (gE _) ⟨⟨_,bC _ rfl,rfl,rfl⟩,hl.push _⟩ (z48 _) fun s' mv sx=>?_
   exact wpAny_pure (wpAny_pure ⟨rfl,ends _ s' mv sx⟩)
 ·rcases r with e|(_|_|_|u)
  all_goals try exact q2.elim
  all_goals try exact q2
  obtain⟨rfl,h',t,rfl,sx,kp⟩:=q2
  repeat (any_goals (first|assumption|wp_step))
  exact fin _ _ sx kp
end
end L2
namespace L2
open PySem PySem.Spec PyProof.Rows
namespace Ty
theorem z1w:Slot "set_iterator" "__next__" "set_iterator.__next__":=
 .of (owner:="set_iterator") (n:="__next__") (by rw[typeLookup_type,builtinLookup_eq_fast];kernel_rfl) (by decide +kernel) (by decide +kernel) (by decide +kernel) (by first|exact .inl (by decide +kernel)|exact .inr (by decide +kernel)) (by rw[isSubtype_type];kernel_rfl)
theorem z4c:entryFor table "set_iterator.__next__"=some Builtin.«set_iterator.__next__»:=entryFor_of_tree (by kernel_rfl)
theorem y1N:entryFor table "set.__iter__"=some Builtin.«frozenset.__iter__»:=entryFor_alias (id':="frozenset.__iter__") (by kernel_rfl) rfl (by decide +kernel) (by kernel_rfl)
theorem z55(a:Value):argsOk "set_iterator.__next__" ⟨[a],[]⟩:=by unfold argsOk;kernel_rfl
end Ty
theorem z5J{α:Type}:∀(l:List α) (i:Nat) (h:i<l.length),(l[i]::l.eraseIdx i).Perm l
 | x::r,0,h=>List.Perm.refl _
 | x::r,i+1,h=>by
  have:=z5J r i (by simpa using h)
  rw[List.eraseIdx_cons_succ,List.getElem_cons_succ]
  exact(List.Perm.swap x _ _).trans (this.cons x)
theorem y43{α:Type}(next:Nat->Nat):∀(fuel k:Nat) (left:List α) (out:Array α),left.length=fuel->(pickOrder.go next fuel k left out).toList.Perm (out.toList++left)
 | 0,k,left,out,h=>by
  unfold pickOrder.go
  rw[cU h,d7]
 | fuel+1,k,left,out,h=>by
  unfold pickOrder.go
  have hi:next k%left.length<left.length:=Nat.mod_lt _ (by omega)
  rw[bG hi]
  dsimp only
  refine(y43 next fuel (k+1) _ _ (by rw[List.length_eraseIdx_of_lt hi];omega)).trans ?_
  rw[Array.toList_push,fG]
  exact List.Perm.append_left _ (z5J _ _ hi)
theorem z6W{α:Type}(next:Nat->Nat)(xs:Array α):(pickOrder next xs).toList.Perm xs.toList:=by
 have:=y43 next xs.size 0 xs.toList #[] (by simp)
 simpa [pickOrder] using this
section
variable{prog:Program}{w:World}{A:Around}{E:Value->Shared->Prop}{s:Shared}
theorem y22{α:Type}(n:Nat):∀(xs:List α) (s:Shared) (Q:List α->Shared->Prop),xs.length=n->(∀(ys:List α) (d:Drawn),ys.Perm xs->Q ys { s with drawn:=d })->wpAny (model prog w) A (drawOrder n xs) Q E s:=by
 induction n with
 | zero=>
  intro xs s Q h fin
  rw[cU h] at fin ⊢
  exact wpAny_pure (fin [] s.drawn (List.Perm.refl _))
 | succ n ih=>
  intro xs s Q h fin
  obtain⟨x,r,rfl⟩:=cS h
  show wpAny _ _ (choose .order (x::r).length >>= _) _ _ s
  have hi:(model prog w).w.draws .order (s.drawn.get .order)%(x::r).length<(x::r).length:=Nat.mod_lt _ (Nat.succ_pos _)
  refine wpAny_bind (fun Γ p hΓ=>?_)
  unfold choose
  rw[Sem.wp_choose]
  refine⟨by simp,?_⟩
  show wpAny _ _ _ _ _ _
  generalize (model prog w).w.draws .order (s.drawn.get .order)%(x::r).length=i at hi
  rw[bG hi]
  dsimp only
  refine wpAny_bind (ih _ _ _ (by rw[List.length_eraseIdx_of_lt hi,h];rfl) fun ys d hp=>wpAny_pure (fin _ d ?_))
  exact(hp.cons _).trans (z5J _ _ hi)
abbrev z4F(f:Value)(i n:Nat)(a:Addr)(ep:Nat):Obj:={ cls:=.type "set_iterator",dict:=none,data:=.fields #[f,.int i 0,.ref a,.int n 0,.int ep 0],slots:=#[] }
theorem y0F{I a:Addr}{o:Obj}{es:Array (Int×Value)}{ep:Nat}{t:SetTable}{slot i nx:Nat}{x:Value}{Q:Option Value->Shared->Prop}(hI:s.heap.get? I=some (z4F (.int slot 0) i es.size a ep))(ho:s.heap.get? a=some o)(hd:o.data=.set es ep t)(fit:t.fits es.size=true)
  (step:∀(A':Around) (E':Value->Shared->Prop) (Q':Option (Value×Nat)->Shared->Prop),Q' (some (x,nx)) s->wpAny (model prog w) A' (setNext a slot i ep) Q' E' s)
  (fin:∀h',h'.get? I=some (z4F (.int nx 0) (i+1) es.size a ep)->Heap.SameBut I s.heap h'->Q (some x) { s with heap:=h' }):wpAny (model prog w) A (pyNext (.ref I)) Q E s:=by
 have hT:s.TypeIs (.ref I) "set_iterator":=⟨_,hI,rfl⟩
 unfold pyNext
 refine wpAny_bind (wpAny_attempt (wpAny_callSpecial?_slot (name:=Str.ofString "__next__") hT Ty.z1w (wpAny_call_entry Ty.z1w hT Ty.z4c ?_ (Ty.z55 _))))
 show wpAny _ _ (fieldsOf (.ref I) >>= _) _ _ s
 refine wpAny_bind (wpAny_fieldsOf hI rfl ?_)
 dsimp only
 unfold setEntries
 refine wpAny_bind (wpAny_bind (wpAny_setState_of ho hd fit (wpAny_pure ?_)))
 rw[if_neg (by simp)]
 refine wpAny_bind ?_
 simp only[fE]
 refine step _ _ _ ?_
 refine wpAny_bind (wpAny_setField_rec hI (by simp) fun h1 g1 b1=>?_)
 refine wpAny_bind (wpAny_setField_rec (s:={ s with heap:=h1 }) g1 (by simp) fun h2 g2 b2=>?_)
 refine wpAny_pure ⟨x,rfl,wpAny_pure (fin h2 ?_ (b1.trans b2))⟩
 rw[g2]
 simp[rawInt]
theorem y0L{I:Addr}{Q:Option Value->Shared->Prop}(hh:A.handled=none)(fin:∀h',(∀b o,s.heap.get? b=some o->h'.get? b=some o)->Q none { s with heap:=h' }) :
  wpAny (model prog w) A.in1 (newExc (Value.type "StopIteration") [] >>= fun x=>(raiseNew x:Sem Fin)) (fun fin s'=>∃v,fin=Fin.done (Flow.ret v)/\wpAny (model prog w) A (pure (some v)) Q E s')
   (fun e s'=>wpAny (model prog w) A (do
     let J9 <- isInstance e (Value.type "StopIteration")
     if J9=true then pure none else throw e) Q E s') s:=by
 refine wpAny_bind ?_
 simp only[newExc,newTuple]
 refine wpAny_bind (wpAny_newObj_type ?_ (by size_fits))
 refine wpAny_bind (m:=firstArgMember _ _) (wpAny_of_eq (a:=Value.none) (by first|rfl|(simp only[firstArgMember];rfl)) (wpAny_newObj_type ?_ (by size_fits)))
 simp only[raiseNew]
 refine wpAny_bind (wpAny_handled ?_)
 rw[show A.in1.handled=none from hh]
 refine wpAny_bind (wpAny_pure (wpAny_throw ?_))
 refine wpAny_bind (wpAny_isInstance (T:="StopIteration") (b:=true) ⟨_,bC _ rfl,rfl⟩ isSubtype_stop ?_)
 exact wpAny_pure (fin _ fun b o e=>b8 _ (b8 _ e))
theorem z6g{I a:Addr}{o:Obj}{es:Array (Int×Value)}{ep:Nat}{t:SetTable}{slot i:Nat}{Q:Option Value->Shared->Prop}(hh:A.handled=none)(hI:s.heap.get? I=some (z4F (.int slot 0) i es.size a ep))(ho:s.heap.get? a=some o)(hd:o.data=.set es ep t)(fit:t.fits es.size=true)
  (step:∀(A':Around) (E':Value->Shared->Prop) (Q':Option (Value×Nat)->Shared->Prop),Q' none s->wpAny (model prog w) A' (setNext a slot i ep) Q' E' s)
  (fin:∀h',(∀b o,b≠I->s.heap.get? b=some o->h'.get? b=some o)->Q none { s with heap:=h' }):wpAny (model prog w) A (pyNext (.ref I)) Q E s:=by
 have hT:s.TypeIs (.ref I) "set_iterator":=⟨_,hI,rfl⟩
 unfold pyNext
 refine wpAny_bind (wpAny_attempt (wpAny_callSpecial?_slot (name:=Str.ofString "__next__") hT Ty.z1w (wpAny_call_entry Ty.z1w hT Ty.z4c ?_ (Ty.z55 _))))
 show wpAny _ _ (fieldsOf (.ref I) >>= _) _ _ s
 refine wpAny_bind (wpAny_fieldsOf hI rfl ?_)
 dsimp only
 unfold setEntries
 refine wpAny_bind (wpAny_bind (wpAny_setState_of ho hd fit (wpAny_pure ?_)))
 rw[if_neg (by simp)]
 refine wpAny_bind ?_
 simp only[fE]
 refine step _ _ _ ?_
 refine wpAny_bind (wpAny_setField_rec hI (by simp) fun h1 g1 b1=>?_)
 exact y0L (I:=I) hh fun h' k=>fin h' fun b o hb e=>k b o ((b1.2 b hb).trans e)
theorem y41{I a tp:Addr}{o:Obj}{es:Array (Int×Value)}{ep:Nat}{t:SetTable}{i pl:Nat}{x:Value}{hx:Int}{pls:Array Value}{Q:Option Value->Shared->Prop}(hI:s.heap.get? I=some (z4F (.ref tp) i es.size a ep))(ho:s.heap.get? a=some o)(hd:o.data=.set es ep t)(fit:t.fits es.size=true)
  (ht:s.heap.IsTuple tp pls) (hp:pls[i]? = some (.int pl 0)) (he:es[pl]? = some (hx,x))
  (fin:∀h',h'.get? I=some (z4F (.ref tp) (i+1) es.size a ep)->Heap.SameBut I s.heap h'->Q (some x) { s with heap:=h' }):wpAny (model prog w) A (pyNext (.ref I)) Q E s:=by
 have hT:s.TypeIs (.ref I) "set_iterator":=⟨_,hI,rfl⟩
 obtain⟨ot,hot,_,nt,hdt⟩:=ht
 unfold pyNext
 refine wpAny_bind (wpAny_attempt (wpAny_callSpecial?_slot (name:=Str.ofString "__next__") hT Ty.z1w (wpAny_call_entry Ty.z1w hT Ty.z4c ?_ (Ty.z55 _))))
 show wpAny _ _ (fieldsOf (.ref I) >>= _) _ _ s
 refine wpAny_bind (wpAny_fieldsOf hI rfl ?_)
 dsimp only
 unfold setEntries
 refine wpAny_bind (wpAny_bind (wpAny_setState_of ho hd fit (wpAny_pure ?_)))
 rw[if_neg (by simp)]
 refine wpAny_bind (wpAny_seqItems hot hdt ?_)
 simp only[fE,hp]
 refine wpAny_bind ?_
 unfold setNextDrawn
 refine wpAny_bind (wpAny_setState_of ho hd fit ?_)
 dsimp only
 rw[if_neg (by simp),he]
 refine wpAny_pure (wpAny_bind (wpAny_setField_rec hI (by simp) fun h1 g1 b1=>?_))
 refine wpAny_pure ⟨x,rfl,wpAny_pure (fin h1 ?_ b1)⟩
 rw[g1]
 simp[rawInt]
theorem z8S{I a tp:Addr}{o:Obj}{es:Array (Int×Value)}{ep:Nat}{t:SetTable}{i:Nat}{pls:Array Value}{Q:Option Value->Shared->Prop}(hh:A.handled=none)(hI:s.heap.get? I=some (z4F (.ref tp) i es.size a ep))(ho:s.heap.get? a=some o)(hd:o.data=.set es ep t)(fit:t.fits es.size=true)
  (ht:s.heap.IsTuple tp pls) (hp:pls[i]? = none)
  (fin:∀h',(∀b o,b≠I->s.heap.get? b=some o->h'.get? b=some o)->Q none { s with heap:=h' }):wpAny (model prog w) A (pyNext (.ref I)) Q E s:=by
 have hT:s.TypeIs (.ref I) "set_iterator":=⟨_,hI,rfl⟩
 obtain⟨ot,hot,_,nt,hdt⟩:=ht
 unfold pyNext
 refine wpAny_bind (wpAny_attempt (wpAny_callSpecial?_slot (name:=Str.ofString "__next__") hT Ty.z1w (wpAny_call_entry Ty.z1w hT Ty.z4c ?_ (Ty.z55 _))))
 show wpAny _ _ (fieldsOf (.ref I) >>= _) _ _ s
 refine wpAny_bind (wpAny_fieldsOf hI rfl ?_)
 dsimp only
 unfold setEntries
 refine wpAny_bind (wpAny_bind (wpAny_setState_of ho hd fit (wpAny_pure ?_)))
 rw[if_neg (by simp)]
 refine wpAny_bind (wpAny_seqItems hot hdt ?_)
 simp only[fE,hp]
 refine wpAny_bind (wpAny_setField_rec hI (by simp) fun h1 g1 b1=>?_)
 refine wpAny_bind (wpAny_setField_rec (s:={ s with heap:=h1 }) g1 (by simp) fun h2 g2 b2=>?_)
 exact y0L (I:=I) hh fun h' k=>fin h' fun b o hb e=>k b o ((b2.2 b hb).trans ((b1.2 b hb).trans e))
theorem z9g{a:Addr}{o:Obj}{es:Array (Int×Value)}{ep:Nat}{t:SetTable}{slot i:Nat}{Q:Option (Value×Nat)->Shared->Prop}(ho:s.heap.get? a=some o)(hd:o.data=.set es ep t)(fit:t.fits es.size=true)(ht:w.params.followText "set-order"=true)
  (h:Q ((pickOrder (w.params.setOrder a ep) es)[i]?.map fun e=>(e.2,slot)) s):wpAny (model prog w) A (setNext a slot i ep) Q E s:=by
 unfold setNext
 refine wpAny_bind (wpAny_setState_of ho hd fit ?_)
 dsimp only
 unfold setsByText
 refine wpAny_bind (wpAny_bind (wpAny_askSetting (wpAny_pure ?_)))
 dsimp only
 have ht':(model prog w).w.params.followText "set-order"=true:=ht
 rw[if_pos ht',if_neg (by simp)]
 unfold setWalk
 refine wpAny_bind (wpAny_bind (wpAny_setState_of ho hd fit ?_))
 dsimp only
 unfold setsByText
 refine wpAny_bind (wpAny_bind (wpAny_askSetting (wpAny_pure ?_)))
 dsimp only
 rw[if_pos ht']
 exact wpAny_bind (wpAny_askSetting (wpAny_pure (wpAny_pure h)))
theorem z82{a:Addr}{o:Obj}{es:Array (Int×Value)}{ep:Nat}{t:SetTable}{slot i:Nat}{Q:Option (Value×Nat)->Shared->Prop}(ho:s.heap.get? a=some o)(hd:o.data=.set es ep t)(fit:t.fits es.size=true)(ht:w.params.followText "set-order"=false)
  (hdr:(!t.plain && decide (es.size > 1))=false) (hl:t.led=true) (h:Q (match es[SetTable.below t.place slot]?,t.place[SetTable.below t.place slot]? with|some (_,x),some j=>some (x,j+1)|_,_=>none) s):wpAny (model prog w) A (setNext a slot i ep) Q E s:=by
 unfold setNext
 refine wpAny_bind (wpAny_setState_of ho hd fit ?_)
 dsimp only
 unfold setsByText
 refine wpAny_bind (wpAny_bind (wpAny_askSetting (wpAny_pure ?_)))
 dsimp only
 have ht':(model prog w).w.params.followText "set-order"=false:=ht
 rw[ht',if_neg bF]
 show wpAny _ _ (if (!t.plain && decide (es.size > 1))=true then _ else _) _ _ _
 rw[hdr,if_neg bF]
 refine wpAny_bind ?_
 show wpAny _ _ (if (!t.led && !es.isEmpty)=true then _ else _) _ _ _
 rw[hl,if_neg (by simp)]
 exact wpAny_pure (wpAny_pure h)
end
namespace Ty
theorem y2x:Slot "set_iterator" "__iter__" "set_iterator.__iter__":=
 .of (owner:="set_iterator") (n:="__iter__") (by rw[typeLookup_type,builtinLookup_eq_fast];kernel_rfl) (by decide +kernel) (by decide +kernel) (by decide +kernel) (by first|exact .inl (by decide +kernel)|exact .inr (by decide +kernel)) (by rw[isSubtype_type];kernel_rfl)
theorem y4s:entryFor table "set_iterator.__iter__"=some Builtin.«dict_keyiterator.__iter__»:=entryFor_alias (id':="dict_keyiterator.__iter__") (by kernel_rfl) (by first|rfl|decide +kernel) (by decide +kernel) (by kernel_rfl)
theorem y6p(a:Value):argsOk "set_iterator.__iter__" ⟨[a],[]⟩:=by unfold argsOk;kernel_rfl
end Ty
theorem z7p{prog:Program}{w:World}{A:Around}{E:Value->Shared->Prop}{s:Shared}{I:Addr}{f:Value}{i n ep:Nat}{a:Addr}{Q:Value->Shared->Prop}(hI:s.heap.get? I=some (z4F f i n a ep))(q:Q (.ref I) s):wpAny (model prog w) A (pyIter (.ref I)) Q E s:=by
 have hT:s.TypeIs (.ref I) "set_iterator":=⟨_,hI,rfl⟩
 refine wpAny_pyIter_slot hT Ty.y2x (wpAny_call_entry Ty.y2x hT Ty.y4s ?_ (Ty.y6p _))
 show wpAny _ _ (ret (.ref I)) _ _ s
 exact wpAny_pure ⟨_,rfl,"set_iterator",_,hT,Ty.z1w.lookup,q⟩
section
variable{prog:Program}{w:World}{A:Around}{E:Value->Shared->Prop}{s:Shared}{κ:Type}[DecidableEq κ]{kd:KeyKind prog w κ}
theorem y3W{α β:Type}{f:α->Option β}:∀{l:List α},(∀x∈l,(f x).isSome=true)->∀(i:Nat),(l.filterMap f)[i]? = l[i]?.bind f
 | [],_,i=>by simp
 | x::r,h,i=>by
  cases e:f x with
  | none=>
   have:=h x bS
   rw[e] at this
   cases this
  | some y=>
   rw[eO,e]
   dsimp only
   cases i with
   | zero=>simp[e]
   | succ i=>simpa using y3W (fun z hz=>h z (bM _ hz)) i
theorem y2V{I a:Addr}{o:Obj}{es:Array (Int×Value)}{ep:Nat}{t:SetTable}(hh:A.handled=none)(ne:a≠I)(hd:o.data=.set es ep t)(fit:t.fits es.size=true)(ht:w.params.followText "set-order"=true) :
  Walks prog w A I [I,a] [I] es.size (fun i v=>((pickOrder (w.params.setOrder a ep) es).toList.map (·.2))[i]? = some v) (fun i h=>h.get? I=some (z4F (.int ((0:Nat):Int) 0) i es.size a ep)/\h.get? a=some o) where
 sub:=fun b hb=>by simp at hb;simp[hb]
 frame:=fun i h h' st k=>⟨k I (by simp) _ st.1,k a (by simp) _ st.2⟩
 item:=fun i s Q E hi st fin=>by
  have sz:(pickOrder (w.params.setOrder a ep) es).size=es.size:=by rw[<- cL,(z6W _ es).length_eq,cL]
  have e1:(pickOrder (w.params.setOrder a ep) es)[i]? = some (pickOrder (w.params.setOrder a ep) es)[i]:=cY (by omega)
  refine y0F (x:=(pickOrder (w.params.setOrder a ep) es)[i].2) (nx:=0) st.1 st.2 hd fit (fun A' E' Q' q=>z9g st.2 hd fit ht (by rw[e1];exact q)) fun h' g b=>?_
  refine fin _ h' s.toks ?_ ⟨g,(b.2 a ne).trans st.2⟩ fun b' o' hb e=>(b.2 b' (fun z=>hb (by simp[z]))).trans e
  rw[bH,eB,e1]
  rfl
 done:=fun s Q E st fin=>by
  have sz:(pickOrder (w.params.setOrder a ep) es).size=es.size:=by rw[<- cL,(z6W _ es).length_eq,cL]
  refine z6g hh st.1 st.2 hd fit (fun A' E' Q' q=>z9g st.2 hd fit ht (by rw[gA (by omega)];exact q)) fun h' k=>?_
  exact fin h' s.toks fun b o' hb e=>k b o' (fun z=>hb (by simp[z])) e
 self:=fun i s Q E st q=>z7p st.1 q
def slotAt(t:SetTable)(i:Nat):Nat:=if i=0 then 0 else t.place.getD (i-1) 0+1
theorem z8m{t:SetTable}(hr:Ris t.place){i:Nat}(hi:i≤t.place.size):SetTable.below t.place (slotAt t i)=i:=by
 have lo:=y0Y hr (slotAt t i)
 generalize SetTable.below t.place (slotAt t i)=r at lo
 unfold slotAt at lo
 rcases Nat.lt_trichotomy r i with h|h|h
 ·have h1:=lo.ge r (bB _) (by omega)
  rw[if_neg (by omega)] at h1
  by_cases e:r=i-1
  ·subst e
   omega
  ·have:=hr r (i-1) (by omega) (by omega)
   omega
 ·exact h
 ·have h1:=lo.lt i h
  have:=lo.le
  by_cases e:i=0
  ·rw[if_pos e] at h1
   omega
  ·rw[if_neg e] at h1
   have:=hr (i-1) i (by omega) (by omega)
   omega
theorem z9K{t:SetTable}{n:Nat}(h:t.fits n=true):t.place.size=n:=by
 unfold SetTable.fits at h
 rw[bQ,beq_iff_eq] at h
 exact h.1
theorem y1W{I a:Addr}{o:Obj}{es:Array (Int×Value)}{ep:Nat}{t:SetTable}(hh:A.handled=none)(ne:a≠I)(hd:o.data=.set es ep t)(fit:t.fits es.size=true)(tab:N1 t)(ht:w.params.followText "set-order"=false)(hdr:(!t.plain && decide (es.size > 1))=false)(hl:t.led=true) :
  Walks prog w A I [I,a] [I] es.size (fun i v=>(es.toList.map (·.2))[i]? = some v) (fun i h=>h.get? I=some (z4F (.int (slotAt t i:Nat) 0) i es.size a ep)/\h.get? a=some o) where
 sub:=fun b hb=>by simp at hb;simp[hb]
 frame:=fun i h h' st k=>⟨k I (by simp) _ st.1,k a (by simp) _ st.2⟩
 item:=fun i s Q E hi st fin=>by
  have ps:=z9K fit
  have bs:=z8m tab.ris (i:=i) (by omega)
  have e1:es[i]? = some es[i]:=cY hi
  have e2:t.place[i]? = some t.place[i]:=cY (by omega)
  have e3:slotAt t (i+1)=t.place[i]+1:=by
   unfold slotAt
   rw[if_neg (by omega),Nat.add_sub_cancel]
   simp[Array.getD,show i<t.place.size by omega]
  refine y0F (x:=es[i].2) (nx:=slotAt t (i+1)) st.1 st.2 hd fit (fun A' E' Q' q=>z82 st.2 hd fit ht hdr hl (by rw[bs,e1,e2];dsimp only;rw[<- e3];exact q)) fun h' g b=>?_
  refine fin _ h' s.toks ?_ ⟨g,(b.2 a ne).trans st.2⟩ fun b' o' hb e=>(b.2 b' (fun z=>hb (by simp[z]))).trans e
  rw[bH,eB,e1]
  rfl
 done:=fun s Q E st fin=>by
  have ps:=z9K fit
  have bs:=z8m tab.ris (i:=es.size) (by omega)
  refine z6g hh st.1 st.2 hd fit (fun A' E' Q' q=>z82 st.2 hd fit ht hdr hl (by rw[bs,gA (bB _)];exact q)) fun h' k=>?_
  exact fin h' s.toks fun b o' hb e=>k b o' (fun z=>hb (by simp[z])) e
 self:=fun i s Q E st q=>z7p st.1 q
theorem y1j{I a tp:Addr}{o:Obj}{es:Array (Int×Value)}{ep:Nat}{t:SetTable}{ord:List Nat}(hh:A.handled=none)(ne:a≠I)(net:tp≠I)(hd:o.data=.set es ep t)(fit:t.fits es.size=true)(hp:ord.Perm (List.range es.size)) :
  Walks prog w A I [I,a,tp] [I] es.size (fun i v=>(ord.filterMap fun j=>es[j]?.map (·.2))[i]? = some v) (fun i h=>h.get? I=some (z4F (.ref tp) i es.size a ep)/\h.get? a=some o/\h.IsTuple tp (ord.map fun(j:Nat)=>rawInt j).toArray) where
 sub:=fun b hb=>by simp at hb;simp[hb]
 frame:=fun i h h' st k=>⟨k I (by simp) _ st.1,k a (by simp) _ st.2.1,st.2.2.at fun o e=>k tp (by simp) _ e⟩
 item:=fun i s Q E hi st fin=>by
  have lo:ord.length=es.size:=by rw[hp.length_eq,dQ]
  have hj:ord[i]? = some ord[i]:=bG (by omega)
  have hlt:ord[i]<es.size:=eQ.mp (hp.mem_iff.mp (fM _))
  have e1:es[ord[i]]? = some es[ord[i]]:=cY hlt
  refine y41 (x:=es[ord[i]].2) (hx:=es[ord[i]].1) (pl:=ord[i]) st.1 st.2.1 hd fit st.2.2 (by simp[hj,rawInt]) e1 fun h' g b=>?_
  refine fin _ h' s.toks ?_ ⟨g,(b.2 a ne).trans st.2.1,st.2.2.at fun o e=>(b.2 tp net).trans e⟩ fun b' o' hb e=>(b.2 b' (fun z=>hb (by simp[z]))).trans e
  have all:∀j∈ord,(es[j]?.map (·.2)).isSome=true:=fun j hj=>by
   have:=eQ.mp (hp.mem_iff.mp hj)
   rw[cY this]
   rfl
  rw[y3W all,hj]
  simp[e1]
 done:=fun s Q E st fin=>by
  have lo:ord.length=es.size:=by rw[hp.length_eq,dQ]
  refine z8S hh st.1 st.2.1 hd fit st.2.2 (by simp[lo]) fun h' k=>?_
  exact fin h' s.toks fun b o' hb e=>k b o' (fun z=>hb (by simp[z])) e
 self:=fun i s Q E st q=>z7p st.1 q
theorem z8k{es:Array (Int×Value)}{ord:List Nat}(hp:ord.Perm (List.range es.size)):(ord.filterMap fun j=>es[j]?.map (·.2)).Perm (es.toList.map (·.2)):=by
 have e:(List.range es.size).filterMap (fun j=>es[j]?.map (·.2))=es.toList.map (·.2):=by
  refine jG fun i=>?_
  rw[y3W (fun j hj=>by
   rw[cY (eQ.mp hj)]
   rfl),bH]
  by_cases h:i<es.size
  ·rw[fR h,eB]
   rfl
  ·have n1:(List.range es.size)[i]? = none:=eF (by rw[dQ];omega)
   have n2:es.toList[i]? = none:=eF (by rw[cL];omega)
   rw[n1,n2]
   rfl
 rw[<- e]
 exact hp.filterMap _
structure J3(kd:KeyKind prog w κ)(ks:List κ)(ord:List Value):Prop where
 len:ord.length=(C7 ks).length
 mem:∀k,k∈ks↔∃v∈ord,kd.is k v=true
 key:∀v∈ord,∃k,kd.is k v=true
theorem J3.of{ks:List κ}{es:Array (Int×Value)}{ord:List Value}(hp:ord.Perm (es.toList.map (·.2)))(hel:ElemsOf kd es.toList)(mem:∀k,k∈ks↔∃e∈es.toList,kd.is k e.2=true)(sz:es.size=(C7 ks).length):J3 kd ks ord:=by
 refine⟨by rw[hp.length_eq,b7,cL,sz],fun k=>?_,fun v hv=>?_⟩
 ·rw[mem k]
  constructor
  ·rintro⟨e,he,q⟩
   exact⟨e.2,hp.mem_iff.mpr (gM he),q⟩
  ·rintro⟨v,hv,q⟩
   obtain⟨e,he,rfl⟩:=cF.mp (hp.mem_iff.mp hv)
   exact⟨e,he,q⟩
 ·obtain⟨e,he,rfl⟩:=cF.mp (hp.mem_iff.mp hv)
  obtain⟨⟨k,hk,_⟩,_⟩:=hel e he
  exact⟨k,hk⟩
theorem y4d{a:Addr}{ks:List κ}{Q:Value->Shared->Prop}(hh:A.handled=none)(hS:F1 kd (z7W w) s.heap a ks)
  (fin:∀(I:Addr) (fp:List Addr) (n:Nat) (ord:List Value) (P:Nat->Value->Prop) (St:Nat->Heap->Prop) (h2:Heap) (d2:Drawn),Walks prog w A I fp [I] n P St->(∀i v,P i v->ord[i]? = some v)->ord.length=n->St 0 h2->(∀b∈fp,b=a\/s.heap.objs.size≤b)->s.heap.objs.size≤I->
   (∀b o,s.heap.get? b=some o->h2.get? b=some o)->J3 kd ks ord->Q (.ref I) { s with heap:=h2,drawn:=d2 }):wpAny (model prog w) A (pyIter (.ref a)) Q E s:=by
 obtain⟨o,es,ep,t,ho,hx,hd,hel,mem,few,fit,sz,tab,hl⟩:=hS
 have hT:s.TypeIs (.ref a) "set":=⟨o,ho,hx.1⟩
 have ha:a<s.heap.objs.size:=bJ ho
 refine wpAny_pyIter_slot hT PySem.F.slot_set_iter (wpAny_call_entry PySem.F.slot_set_iter hT Ty.y1N ?_ (PySem.F.args_set_iter_1 _))
 show wpAny _ _ (Builtin.Frozenset.sizeOf a >>= _) _ _ s
 unfold Builtin.Frozenset.sizeOf setEntries
 refine wpAny_bind (wpAny_bind (wpAny_bind (wpAny_setState_of ho hd fit (wpAny_pure (wpAny_pure ?_)))))
 dsimp only
 unfold setDrawn
 refine wpAny_bind (wpAny_bind (wpAny_setState_of ho hd fit ?_))
 dsimp only
 unfold setsByText
 refine wpAny_bind (wpAny_bind (wpAny_askSetting (wpAny_pure ?_)))
 refine wpAny_pure ?_
 show wpAny _ _ (if (!w.params.followText "set-order" && (!t.plain && decide (es.size > 1)))=true then _ else _) _ _ s
 have hgo:∀b∈[s.heap.objs.size,a],b=a\/s.heap.objs.size≤b:=fun b hb=>by
  rcases bA.mp hb with rfl|hb
  ·exact .inr (bB _)
  ·exact .inl (b9.mp hb)
 have plain:(!w.params.followText "set-order" && (!t.plain && decide (es.size > 1)))=false->wpAny (model prog w) A.in1 (do
   let first <- pure (rawInt 0)
   let J9 <- setEpoch a
   let J9 <- newFields "set_iterator" [first,rawInt 0,Value.ref a,rawInt ↑es.size,rawInt ↑J9]
   (ret J9:Sem Fin)) (fun fin s'=>∃v,fin=Fin.done (Flow.ret v)/\∃T' r,s'.TypeIs v T'/\typeLookup (Value.type T') (Str.ofString "__next__")=pure (some r)/\Q v s') E s:=fun hc=>by
  refine wpAny_bind (wpAny_pure (wpAny_bind (wpAny_setEpoch_of ho hd fit (wpAny_bind (wpAny_newObj_type (wpAny_pure ⟨_,rfl,"set_iterator",_,⟨_,bC _ rfl,rfl⟩,Ty.z1w.lookup,?_⟩))))))
  have hI:(s.heap.push (z4F (.int ((0:Nat):Int) 0) 0 es.size a ep)).get? s.heap.objs.size=some (z4F (.int ((0:Nat):Int) 0) 0 es.size a ep):=bC _ rfl
  have ha2:(s.heap.push (z4F (.int ((0:Nat):Int) 0) 0 es.size a ep)).get? a=some o:=b8 _ ho
  have eS:({ s with heap:=s.heap.push (z4F (.int ((0:Nat):Int) 0) 0 es.size a ep) }:Shared)={ s with heap:=s.heap.push (z4F (.int ((0:Nat):Int) 0) 0 es.size a ep),drawn:=s.drawn }:=rfl
  cases hb:w.params.followText "set-order" with
  | true=>
   have lp:(pickOrder (w.params.setOrder a ep) es).toList.Perm es.toList:=z6W _ _
   exact fin s.heap.objs.size [s.heap.objs.size,a] es.size ((pickOrder (w.params.setOrder a ep) es).toList.map (·.2)) _ _ _ s.drawn (y2V hh (bU ha) hd fit hb) (fun i v q=>q) (by rw[b7,lp.length_eq,cL]) ⟨hI,ha2⟩ hgo (bB _)
    (fun b o' e=>b8 _ e) (J3.of (lp.map _) hel mem sz)
  | false=>
   rw[hb] at hc
   have hl':t.led=true:=by rw[hl];unfold z7W;rw[hb];rfl
   exact fin s.heap.objs.size [s.heap.objs.size,a] es.size (es.toList.map (·.2)) _ _ _ s.drawn (y1W hh (bU ha) hd fit tab hb (by simpa using hc) hl') (fun i v q=>q) (by rw[b7,cL]) ⟨hI,ha2⟩ hgo (bB _)
    (fun b o' e=>b8 _ e) (J3.of (List.Perm.refl _) hel mem sz)
 cases hc:(!w.params.followText "set-order" && (!t.plain && decide (es.size > 1))) with
 | false=>
  rw[if_neg bF]
  exact plain hc
 | true=>
  rw[if_pos rfl]
  refine wpAny_bind (y22 es.size (List.range es.size) s _ dQ fun ord d hp=>?_)
  have lo:ord.length=es.size:=by rw[hp.length_eq,dQ]
  have l4:es.size<4096:=few
  simp only[newTuple]
  refine wpAny_bind (wpAny_newObj_type ?_ (by
   show(ord.map fun(i:Nat)=>rawInt (i:Int)).toArray.size≤sizeLine
   rw[bK,b7,lo,sizeLine_eq]
   omega))
  have ho2:=b8 { cls:=.type "tuple",data:=.seq (ord.map fun(i:Nat)=>rawInt (i:Int)).toArray } ho
  refine wpAny_bind (wpAny_setEpoch_of (s:={ s with heap:=s.heap.push { cls:=.type "tuple",data:=.seq (ord.map fun(i:Nat)=>rawInt (i:Int)).toArray },drawn:=d }) ho2 hd fit (wpAny_bind (wpAny_newObj_type (wpAny_pure ⟨_,rfl,"set_iterator",_,⟨_,bC _ rfl,rfl⟩,Ty.z1w.lookup,?_⟩))))
  have s1:(s.heap.push { cls:=.type "tuple",data:=.seq (ord.map fun(i:Nat)=>rawInt (i:Int)).toArray }).objs.size=s.heap.objs.size+1:=eU _ _
  have ht:(s.heap.push { cls:=.type "tuple",data:=.seq (ord.map fun(i:Nat)=>rawInt (i:Int)).toArray }).IsTuple s.heap.objs.size (ord.map fun(i:Nat)=>rawInt (i:Int)).toArray:=⟨_,bC _ rfl,rfl,_,rfl⟩
  refine fin _ [_,a,s.heap.objs.size] es.size (ord.filterMap fun j=>es[j]?.map (·.2)) _ _ _ d (y1j hh (by rw[s1];exact bU (dC ha)) (by rw[s1];exact bU (e8 _)) hd fit hp) (fun i v q=>q) ?_ ⟨bC _ rfl,b8 _ ho2,ht.push _⟩ (fun b hb=>?_) ?_ (fun b o' e=>b8 _ (b8 _ e)) (J3.of (z8k hp) hel mem sz)
  ·rw[(z8k hp).length_eq,b7,cL]
  ·rcases bA.mp hb with rfl|hb
   ·right
    rw[s1]
    exact eI _
   ·rcases bA.mp hb with rfl|hb
    ·exact .inl rfl
    ·rw[b9.mp hb]
     exact .inr (bB _)
  ·rw[s1]
   exact eI _
theorem y4V{r:Addr}{Q:Bool->Shared->Prop}(hT:s.TypeIs (.ref r) "set")(h:Q false s):wpAny (model prog w) A (Builtin.List.listLengthHint (.ref r)) Q E s:=by
 unfold Builtin.List.listLengthHint
 refine wpAny_bind (wpAny_specialOf hT PySem.F.slot_set_len.lookup ?_)
 generalize hid:("set.__len__":String)=id0;wp_delta
 rw[show splitId id0=some ("set","__len__") from by subst hid;decide +kernel];subst hid
 refine wpAny_bind (wpAny_isInstance (T:="set") (b:=true) hT (by rw[isSubtype_type];kernel_rfl) (wpAny_ite_split (fun hab=>absurd hab (by decide)) fun _=>wpAny_ite_split (fun _=>wpAny_bind (wpAny_typeOf hT (wpAny_pure h))) fun hab=>absurd (by decide +kernel) hab))
theorem y1T{R:Result->Shared->Prop}{a:Addr}{ks:List κ}(hh:A.handled=none)(hS:F1 kd (z7W w) s.heap a ks)(few:(C7 ks).length≤sizeLine)(S:Addr)(hSa:S≠a)(res:Value)(c0:Nat)(hL:s.heap.get? S=some { cls:=.type "list",data:=.seq #[] c0 })
  (fin:∀(h':Heap) (tk:Nat) (d:Drawn) (acc:Array Value) (c':Nat),(∀b o,b≠S->s.heap.get? b=some o->h'.get? b=some o)->h'.get? S=some { cls:=.type "list",dict:=none,data:=.seq acc c',slots:=#[] }->J3 kd ks acc.toList->R (.ok (.ret res)) { s with heap:=h',toks:=tk,drawn:=d }) :
  wpAny (model prog w) A.in1 (Builtin.List.listExtendWith (.ref S) (.ref a) res)
   (fun fin s'=>match fin with|.done f=>R (.ok f) s'|.again c'=>c'.quiet=true/\codeAny (model prog w) A c' R s') (fun e s'=>R (.error e) s') s:=by
 have hT:s.TypeIs (.ref a) "set":=by
  obtain⟨o,es,ep,t,ho,hx,_⟩:=hS
  exact⟨o,ho,hx.1⟩
 have hSlt:S<s.heap.objs.size:=bJ hL
 unfold Builtin.List.listExtendWith
 refine wpAny_bind (wpAny_typeOf (T:="set") hT ?_)
 have h1:Builtin.List.listSameRef (.ref S) (.ref a)=false:=by simp[Builtin.List.listSameRef,hSa]
 simp only[h1,show(Value.type "set" == Value.type "list")=false by decide,show(Value.type "set" == Value.type "tuple")=false by decide,Bool.or_false,e9,if_false]
 refine wpAny_bind (y4d (A:=A.in1) hh hS fun I fp n ord P St h2 d2 W hP ln st hfp hI kp so=>?_)
 have hL2:=kp _ _ hL
 have out:S∉fp:=fun m=>by
  rcases hfp S m with e|e
  ·exact hSa e
  ·exact absurd hSlt (Nat.not_lt.mpr e)
 have key:∀(h:Heap) (c1 tk:Nat),St 0 h->(∀b o,b≠S->s.heap.get? b=some o->h.get? b=some o)->h.get? S=some { cls:=.type "list",data:=.seq #[] c1 }->
   codeAny (model prog w) A (.builtin "list.extend.loop" ⟨[.ref S,.ref I,res],[]⟩) R { s with heap:=h,toks:=tk,drawn:=d2 }:=fun h c1 tk hst k hS1=>by
  refine codeAny_extend_loopS W.toS (by rw[<- ln,so.len];exact few) S out res n 0 _ #[] c1 rfl (cQ _) hst hS1 (ItemsOf.nil _) fun s' acc c' mv hS' items=>?_
  obtain⟨h',g',d',t',o'⟩:=s'
  obtain rfl:g'=s.gens:=mv.gens
  obtain rfl:d'=d2:=mv.drawn
  obtain rfl:o'=s.os:=mv.os
  have ea:acc.toList=ord:=jG fun i=>by
   by_cases hi:i<n
   ·have hi2:i<acc.size:=by rw[items.1];exact hi
    have e1:acc[i]? = some acc[i]:=cY hi2
    rw[eB,e1,hP i _ (items.2 i _ e1)]
   ·rw[eB,gA (by rw[items.1];omega),eF (by omega)]
  refine fin h' t' d' acc c' (fun b o hb e=>mv.heap b o (fun m=>?_) (k b o hb e)) hS' (by rw[ea];exact so)
  rcases bA.mp m with e'|m
  ·exact hb e'
  ·exact absurd (bJ e) (Nat.not_lt.mpr (by rw[b9.mp m];exact hI))
 have hT2:Shared.TypeIs { s with heap:=h2,drawn:=d2 } (.ref a) "set":=by
  obtain⟨o,ho,hc⟩:=hT
  exact⟨o,kp _ _ ho,hc⟩
 refine wpAny_bind (wpAny_holding (y4V hT2 ?_))
 refine wpAny_ite_split (fun _=>?_) fun _=>wpAny_pure ⟨plainId_quiet PySem.F.plain_extend_loop _,key _ c0 _ st (fun b o _ e=>kp b o e) hL2⟩
 refine wpAny_bind (wpAny_rule (wpAny_bind (show wpAny _ _ (updateSeq S (·.push .none) >>= fun _=>updateSeq S (·.pop)) _ _ _ from wpAny_bind (wpAny_updateSeq hL2 rfl ?_))))
 have g2:=dB (Obj.mapSeq (·.push Value.none)) hL2 rfl
 refine wpAny_updateSeq (hz:=by seq_fits) g2 rfl ?_
 have g3:=dB (Obj.mapSeq (·.pop)) g2 rfl
 have oth:∀b o,b≠S->h2.get? b=some o->((h2.update S (Obj.mapSeq (·.push Value.none))).update S (Obj.mapSeq (·.pop))).get? b=some o:=fun b o hb e=>(cN _ _ (d9 hb)).trans ((cN _ _ (d9 hb)).trans e)
 exact wpAny_pure ⟨plainId_quiet PySem.F.plain_extend_loop _,key _ _ _ (W.frame 0 _ _ st fun b hb o e=>oth b o (fun z=>out (z ▸ hb)) e) (fun b o hb e=>oth b o hb (kp b o e)) g3⟩
theorem y0C{R:List Value->Shared->Prop}{a:Addr}{ks:List κ}(hh:A.handled=none)(hS:F1 kd (z7W w) s.heap a ks)(few:(C7 ks).length≤sizeLine)
  (fin:∀(h':Heap) (tk:Nat) (d:Drawn) (vs:List Value),(∀b o,s.heap.get? b=some o->h'.get? b=some o)->s.heap.objs.size<h'.objs.size->J3 kd ks vs->R vs { s with heap:=h',toks:=tk,drawn:=d }):wpAny (model prog w) A (collect (.ref a)) R E s:=by
 have ha:a<s.heap.objs.size:=by
  obtain⟨o,es,ep,t,ho,_⟩:=hS
  exact bJ ho
 unfold collect
 refine wpAny_bind (wpAny_runValue (codeAny_builtin entry_proto_collect' ?_))
 rw[bZ gI _]
 refine(show wpAny _ A.in1 (newList [] >>= fun l=>again (.builtin "list.__iadd__" ⟨[l,.ref a],[]⟩)) _ _ s from wpAny_bind (wpAny_newObj_type (wpAny_pure ⟨plainId_quiet dW _,codeAny_builtin entry_list_iadd' ?_⟩)))
 rw[bZ dW _]
 have g1:(s.heap.push { cls:=.type "list",data:=.seq ([]:List Value).toArray }).get? s.heap.objs.size=some { cls:=.type "list",data:=.seq #[] }:=bC _ rfl
 have ext:=y1T (A:=A) (s:={ s with heap:=s.heap.push { cls:=.type "list",data:=.seq ([]:List Value).toArray } }) (kd:=kd) (ks:=ks)
  (R:=fun(q:Result) (s':Shared)=>∃(h':Heap) (tk:Nat) (d:Drawn) (acc:Array Value) (c':Nat),q=.ok (.ret (.ref s.heap.objs.size))/\s'={ s with heap:=h',toks:=tk,drawn:=d }/\(∀b o,s.heap.get? b=some o->h'.get? b=some o)/\
   h'.get? s.heap.objs.size=some { cls:=.type "list",dict:=none,data:=.seq acc c',slots:=#[] }/\J3 kd ks acc.toList)
  hh (hS.at fun o e=>b8 _ e) few s.heap.objs.size (fK ha) (.ref s.heap.objs.size) 0 g1
  (fun h' tk d acc c' k hS' so=>⟨h',tk,d,acc,c',rfl,rfl,fun b o e=>k b o (bU (bJ e)) (b8 _ e),hS',so⟩)
 refine(show wpAny _ A.in1 (Builtin.List.listExtendWith (.ref s.heap.objs.size) (.ref a) (.ref s.heap.objs.size)) _ _ _ from wpAny_mono ext (fun r s' x=>?_) fun e s' x=>?_)
 ·cases r with
  | done f=>
   obtain⟨h',tk,d,acc,c',e,rfl,k,hS',so⟩:=x
   cases e
   exact(show wpAny _ A (load s.heap.objs.size >>= _) _ _ _ from wpAny_bind (wpAny_load hS' (wpAny_pure (fin h' tk d _ k (bJ hS') so))))
  | again c1=>
   refine⟨x.1,codeAny_mono x.2 fun q s2 y=>?_⟩
   obtain⟨h',tk,d,acc,c',rfl,rfl,k,hS',so⟩:=y
   exact(show wpAny _ A (load s.heap.objs.size >>= _) _ _ _ from wpAny_bind (wpAny_load hS' (wpAny_pure (fin h' tk d _ k (bJ hS') so))))
 ·obtain⟨_,_,_,_,_,e',_⟩:=x
  cases e'
end
theorem y3s{α:Type}[DecidableEq α]:∀{l1 l2:List α},l1.Nodup->(∀x∈l1,x∈l2)->l2.length=l1.length->l1.Perm l2
 | [],l2,_,_,h=>by
  rw[cU h]
 | x::r,l2,nd,sub,h=>by
  rw[cW] at nd
  have hx:=sub x bS
  have hp:=List.perm_cons_erase hx
  refine((y3s (l1:=r) (l2:=l2.erase x) nd.2 (fun y hy=>?_) ?_).cons x).trans hp.symm
  ·have ne:y≠x:=fun e=>nd.1 (e ▸ hy)
   exact(j9 ne).mpr (sub y (bM _ hy))
  ·rw[gQ hx,h]
   rfl
theorem z5w{κ:Type}[DecidableEq κ](ks:List κ):(C7 ks).Nodup:=by
 have go:∀(ks acc:List κ),acc.Nodup->(ks.foldl (fun acc k=>if k∈acc then acc else acc++[k]) acc).Nodup:=by
  intro ks
  induction ks with
  | nil=>intro acc h;exact h
  | cons k r ih=>
   intro acc h
   rw[cT]
   refine ih _ ?_
   by_cases hk:k∈acc
   ·rw[if_pos hk];exact h
   ·rw[if_neg hk,fF]
    exact⟨h,by simp,fun a h1 b h2 e=>by rw[b9] at h2;subst h2;subst e;exact hk h1⟩
 exact go ks [] List.nodup_nil
section
variable{X:Cx}
theorem Inv.X2{pins:List (Addr×Obj)}{σ:St}{H:Hp}{s:Shared}(I:Inv X pins σ H s)(d:Drawn):Inv X pins σ H { s with drawn:=d }:=by
 cases I
 constructor<;>assumption
def O1(P:Program)(w:World)(a:Addr)(ns:List Int):HO:=.ext fun h=>F1 (intKind P w) (z7W w) h a ns
theorem O1.new{P:Program}{w:World}{H:Hp}{h:Heap}{a:Addr}{ns:List Int}(x:F1 (intKind P w) (z7W w) h a ns):z1g P w H h a (O1 P w a ns):=by
 refine⟨x,?_,fun h1 h2 y e=>F1.at y e⟩
 obtain⟨o,_,_,_,e,_⟩:=x
 exact⟨o,e⟩
theorem z50(hc:X.calm=true):z3b X (.type "set") (fun xs H Q=>∃p ns,xs=[.ref p]/\SqI X.K H p ns/\ns.length≤1000/\∀l,H l=none->Q (.ref l) (upd H l (O1 X.prog X.w l ns))):=by
 intro pins s σ H xs us Q I r h
 obtain⟨p,ns,rfl,hq,hl,q⟩:=h
 obtain⟨u,rfl,rx⟩:=z3H r
 cases rx
 have go:∀(T:String) (o:Obj) (its:List Value) (c0:Nat),s.heap.get? p=some o->o.cls=.type T->o.data=.seq its.toArray c0->(T="list"\/T="tuple")->Vals (ns.map V.int) its->wpAny (model X.prog X.w) X.A (call (.type "set") [.ref p]) (EP X pins σ Q) X.xe s:=
  fun T o its c0 ho hcl hda hT rv=>by
   have ln:ns.length=its.length:=by have:=rv.length;rwa [b7] at this
   refine y3y (kd:=intKind X.prog X.w) (ks:=ns) (I.ok.hd hc) ho hcl hda hT (by simpa using ln) (fun i v hv=>?_) (by simp[scanBound];omega) fun h' t sx kp=>?_
   ·obtain⟨t,rfl⟩:=z2v rv i v hv
    have hi:i<ns.length:=by
     have:=(Array.getElem?_eq_some_iff.mp hv).1
     simp at this
     omega
    refine⟨ns.getD i 0,?_,intKind_is _ _ _ _,rfl⟩
    rw[bP,bG hi]
    rfl
   ·refine⟨.ref s.heap.objs.size,_,I.laid (a:=s.heap.objs.size) (o:=O1 X.prog X.w s.heap.objs.size ns) (h':=h') (t':=t) (fun b u q1=>kp b u (bJ q1) q1) (bB _) (O1.new sx),rfl,q _ (I.hok.fresh (bB _))⟩
 rcases hq with hq|hq
 ·obtain⟨its,rv,pl,_⟩:=I.list hq
  obtain⟨o,ho,hcl,n,hda⟩:=pl.isList
  exact go "list" o its n ho hcl hda (.inl rfl) rv
 ·obtain⟨its,rv,pl,_⟩:=I.tuple hq
  obtain⟨o,ho,hcl,n,hda⟩:=pl
  exact go "tuple" o its n ho hcl hda (.inr rfl) rv
theorem y0i{P:Program}{w:World}{ns:List Int}{vs:List Value}(so:J3 (intKind P w) ns vs):∃ks,IntsAre vs ks/\ks.Perm (C7 ns):=by
 have all:∀{l:List Value},(∀v∈l,∃k,(intKind P w).is k v=true)->∃ks,IntsAre l ks:=by
  intro l
  induction l with
  | nil=>intro _;exact⟨[],.nil⟩
  | cons v r ih=>
   intro h
   obtain⟨k,hk⟩:=h v bS
   obtain⟨t,rfl⟩:=Value.isInt_shape hk
   obtain⟨ks,hks⟩:=ih fun x hx=>h x (bM _ hx)
   exact⟨k::ks,.cons k t hks⟩
 obtain⟨ks,hi⟩:=all so.key
 have mm:∀{l:List Value}{ks:List Int},IntsAre l ks->∀k,(∃v∈l,(intKind P w).is k v=true)->k∈ks:=by
  intro l ks h
  induction h with
  | nil=>rintro k ⟨v,hv,_⟩;cases hv
  | cons n t h ih=>
   rintro k ⟨v,hv,hk⟩
   rcases bA.mp hv with rfl|hv
   ·obtain⟨t',e⟩:=Value.isInt_shape (show Value.isInt k (.int n t)=true from hk)
    cases e
    exact bS
   ·exact bM _ (ih k ⟨v,hv,hk⟩)
 refine⟨ks,hi,(y3s (z5w ns) (fun k hk=>mm hi k ((so.mem k).mp (z2u.mp hk))) ?_).symm⟩
 rw[<- IntsAre.length hi,so.len]
theorem z3Q(hc:X.calm=true):z3b X (.builtin "sorted") (fun xs H Q=>∃(p:Addr) (ns:List Int),xs=[.ref p]/\H p=some (O1 X.prog X.w p ns)/\(C7 ns).length<64/\
  ∀(l:Addr) (ms:List Int),H l=none->ms.Perm (C7 ns)->ms.Pairwise (·≤·)->Q (.ref l) (upd H l (.lst (ms.map V.int)))):=by
 intro pins s σ H xs us Q I r h
 obtain⟨p,ns,rfl,hp,h64,q⟩:=h
 obtain⟨u,rfl,rx⟩:=z3H r
 cases rx
 obtain⟨sw,_⟩:=(show z1g X.prog X.w H s.heap p (O1 X.prog X.w p ns) from I.hok p _ hp)
 refine Calls.call_function_entry kind_sorted plain_sorted entry_sorted (args_sorted1 _) ?_
 unfold Builtin.«sorted»
 refine wpAny_bind (m:=checkCount "sorted" 1 1 _) (wpAny_pure ?_)
 refine wpAny_bind (y0C (A:=X.A.in1) (kd:=intKind X.prog X.w) (I.ok.hd hc) sw (by rw[sizeLine_eq];omega) fun h' tk d vs kp slt so=>?_)
 obtain⟨ks,hi,pk⟩:=y0i so
 have lv:vs.length<64:=by rw[IntsAre.length hi,pk.length_eq];exact h64
 refine wpAny_bind (wpAny_newList ?_ (by rw[sizeLine_eq];omega))
 have g1:(h'.push (seqObj "list" vs.toArray 0)).get? h'.objs.size=some (seqObj "list" vs.toArray 0):=bC _ rfl
 refine wpAny_bind (wpAny_holding (wpAny_call_entry slot_list_sort ⟨_,g1,rfl⟩ entry_list_sort (list_sort_tree g1 hi lv fun out ns' a1 a2 a3=>⟨_,rfl,?_⟩) (args_list_sort _)))
 refine wpAny_pure ⟨_,rfl,?_⟩
 obtain⟨e,he⟩:=sortedHeap_at (out:=out) g1
 have old:∀b o,s.heap.get? b=some o->(sortedHeap (h'.push (seqObj "list" vs.toArray 0)) h'.objs.size vs out).get? b=some o:=fun b o e=>by
  have hb:=bJ (kp b o e)
  rw[sortedHeap_old (bU hb) (by rw[size_push'];exact dC hb)]
  exact b8 _ (kp b o e)
 have sle:s.heap.objs.size≤h'.objs.size:=eY slt
 refine⟨.ref h'.objs.size,_,(I.X2 d).laid (a:=h'.objs.size) (o:=.lst (ns'.map V.int)) (t':=tk) old sle (show z1g X.prog X.w _ _ _ (.lst (ns'.map V.int)) from⟨?_,out.toList,e,z40 a1,?_⟩),rfl,q _ ns' (I.hok.fresh sle) (a2.trans pk) a3⟩
 ·rw[b7,a2.length_eq,pk.length_eq,sizeLine_eq]
  omega
 ·simpa using he
end
theorem z2f:Slot "reversed" "__next__" "reversed.__next__":=
 .of (owner:="reversed") (n:="__next__") (by rw[typeLookup_type,builtinLookup_eq_fast];kernel_rfl) (by decide +kernel) (by decide +kernel) (by decide +kernel) (by first|exact .inl (by decide +kernel)|exact .inr (by decide +kernel)) (by rw[isSubtype_type];kernel_rfl)
theorem z6h:Slot "reversed" "__iter__" "reversed.__iter__":=
 .of (owner:="reversed") (n:="__iter__") (by rw[typeLookup_type,builtinLookup_eq_fast];kernel_rfl) (by decide +kernel) (by decide +kernel) (by decide +kernel) (by first|exact .inl (by decide +kernel)|exact .inr (by decide +kernel)) (by rw[isSubtype_type];kernel_rfl)
theorem y00:Slot "reversed" "__init__" "object.__init__":=
 .of (owner:="object") (n:="__init__") (by rw[typeLookup_type,builtinLookup_eq_fast];kernel_rfl) (by decide +kernel) (by decide +kernel) (by decide +kernel) (by first|exact .inl (by decide +kernel)|exact .inr (by decide +kernel)) (by rw[isSubtype_type];kernel_rfl)
theorem z54:entryFor table "reversed.__next__"=some Builtin.«reversed.__next__»:=entryFor_of_tree (by kernel_rfl)
theorem z8N:entryFor table "reversed.__iter__"=some Builtin.«dict_keyiterator.__iter__»:=entryFor_alias (id':="dict_keyiterator.__iter__") (by kernel_rfl) (by first|rfl|decide +kernel|(unfold String.splitOn;simp +decide [String.splitOnAux])) (by decide +kernel) (by kernel_rfl)
theorem z6r(a:Value):argsOk "reversed.__next__" ⟨[a],[]⟩:=by unfold argsOk;kernel_rfl
theorem z9i(a:Value):argsOk "reversed.__iter__" ⟨[a],[]⟩:=by unfold argsOk;kernel_rfl
theorem z6T:TypeCalled "reversed" "reversed.__new__" "object.__init__":=
 ⟨by decide +kernel,by decide +kernel,⟨_,_,PySem.F.mro_reversed⟩,PySem.F.made_reversed,by decide +kernel,PySem.F.sub_reversed_self,y00⟩
theorem z8A:typeLookup (.type "tuple") "__reversed__"=pure none:=by rw[typeLookup_type,builtinLookup_eq_fast];kernel_rfl
theorem y1B:isSubtype (.type "tuple") (.type "dict")=pure false:=by rw[isSubtype_type];kernel_rfl
abbrev z8w(t:Addr)(i:Int):Obj:={ cls:=.type "reversed",dict:=none,data:=.fields #[.ref t,rawInt i],slots:=#[] }
section
variable{prog:Program}{w:World}{A:Around}{E:Value->Shared->Prop}{s:Shared}
theorem y09{t:Addr}{items:Array Value}{Q:Value->Shared->Prop}(ht:IsTup s.heap t items)(hf:(items.size:Int)<2^63)(h:∀tk,Q (.ref s.heap.objs.size) { s with heap:=s.heap.push (z8w t ((items.size:Int)-1)),toks:=tk }) :
  codeAny (model prog w) A (.call (.builtin "reversed.__new__") ⟨[.type "reversed",.ref t],[]⟩) (wants Q E) s:=by
 refine codeAny_of_tree ?_
 show wpAny _ A.in1 (do checkBuiltinCall "reversed.__new__" ⟨[.type "reversed",.ref t],[]⟩;again (.builtin "reversed.__new__" ⟨[.type "reversed",.ref t],[]⟩)) _ _ s
 refine wpAny_bind (wpAny_of_eq (PySem.F.newCall_reversed_1 _) (wpAny_pure ⟨plainId_quiet PySem.F.plain_reversed_new _,codeAny_builtin PySem.F.entry_reversed_new ?_⟩))
 rw[bZ PySem.F.plain_reversed_new _]
 unfold Builtin.«reversed.__new__»
 refine wpAny_bind (wpAny_of_eq (newClass_reversed _) ?_)
 try dsimp only
 refine wpAny_bind (wpAny_of_eq (a:=()) (by first|rfl|kernel_rfl) ?_)
 refine wpAny_bind (wpAny_of_eq (a:=()) (by first|rfl|kernel_rfl) ?_)
 try dsimp only
 refine wpAny_bind (wpAny_specialOf ht.typeIs z8A ?_)
 try dsimp only
 refine wpAny_bind ?_
 show wpAny _ _ (isInstance (.ref t) (.type "dict") >>= fun b=>_) _ _ _
 refine wpAny_bind (wpAny_isInstance (T:="tuple") ht.typeIs y1B ?_)
 rw[if_neg (by decide)]
 refine wpAny_bind (wpAny_specialOf ht.typeIs slot_tuple_getitem.lookup ?_)
 dsimp only
 rw[if_pos (by decide +kernel)]
 refine wpAny_pure ?_
 rw[if_neg (by decide)]
 refine wpAny_bind (len_tuple ht hf ?_)
 refine wpAny_bind (wpAny_of_eq (a:=some (items.size:Int)) rfl ?_)
 dsimp only
 refine wpAny_bind ?_
 show wpAny _ _ (newObj (.type "reversed") (.fields #[.ref t,rawInt ((items.size:Int)-1)])) _ _ _
 exact wpAny_newObj_type (wpAny_pure (h _)) (by size_fits)
theorem y6q{t:Addr}{items:Array Value}{Q:Value->Shared->Prop}(ht:IsTup s.heap t items)(hf:(items.size:Int)<2^63)(h:∀tk,Q (.ref s.heap.objs.size) { s with heap:=s.heap.push (z8w t ((items.size:Int)-1)),toks:=tk }) :
  wpAny (model prog w) A (call (.type "reversed") [.ref t]) Q E s:=by
 refine callType_codes (Q₁:=fun obj s₁=>obj=.ref s.heap.objs.size/\∃tk,s₁={ s with heap:=s.heap.push (z8w t ((items.size:Int)-1)),toks:=tk }) z6T (PySem.F.typeCall_reversed_1 _) F.entry_object_init (y09 ht hf fun tk=>⟨rfl,tk,rfl⟩) ?_
 rintro obj s₁ ⟨rfl,tk,rfl⟩
 have ty:Shared.TypeIs { s with heap:=s.heap.push (z8w t ((items.size:Int)-1)),toks:=tk } (.ref s.heap.objs.size) "reversed":=⟨_,bC _ rfl,rfl⟩
 exact⟨ty,F.args_object_init_2 _ _,object_init_meets z6T.init.lookup z6T.made (by decide) _ _ _ _ _ ⟨ty,rfl,h tk⟩⟩
theorem y5Z{I t:Addr}{i:Nat}{items:Array Value}{x:Value}{Q:Option Value->Shared->Prop}(hI:s.heap.get? I=some (z8w t (i:Int)))(ht:IsTup s.heap t items)(hx:items[i]? = some x)(hz:(items.size:Int)<2^63)
  (hQ:∀h' tk,h'.get? I=some (z8w t ((i:Int)-1))->Heap.SameBut I s.heap h'->Q (some x) { s with heap:=h',toks:=tk }):wpAny (model prog w) A (pyNext (.ref I)) Q E s:=by
 have ty:s.TypeIs (.ref I) "reversed":=⟨_,hI,rfl⟩
 have hi:i<items.size:=(Array.getElem?_eq_some_iff.mp hx).1
 unfold pyNext
 refine wpAny_bind (wpAny_attempt (wpAny_callSpecial?_slot (name:=Str.ofString "__next__") ty z2f
  (wpAny_call_entry z2f ty z54 ?_ (z6r _))))
 unfold Builtin.«reversed.__next__»
 refine wpAny_bind (wpAny_of_eq (a:=(Value.ref I,[])) rfl ?_)
 try dsimp only
 refine wpAny_bind (wpAny_field hI rfl (x:=.ref t) rfl ?_)
 refine wpAny_bind (wpAny_field hI rfl (x:=rawInt (i:Int)) rfl ?_)
 show wpAny _ _ (if (i:Int)<0 then _ else _) _ _ s
 rw[if_neg (by omega)]
 refine wpAny_bind (wpAny_specialOf ht.typeIs slot_tuple_getitem.lookup ?_)
 rw[if_neg (by decide)]
 refine wpAny_bind (wpAny_mkInt ?_)
 refine wpAny_bind (wpAny_attempt (getItem_tuple (j:=i) (x:=x) ht (by omega) (by omega) ?_ hx ?_))
 ·exact seqIndex_of (by omega) (by omega)
 dsimp only
 refine wpAny_bind (wpAny_field hI rfl (x:=rawInt (i:Int)) rfl ?_)
 show wpAny _ _ (setField (.ref I) 1 (rawInt ((i:Int)-1)) >>= _) _ _ _
 refine wpAny_bind (wpAny_setField hI rfl (by simp) ?_)
 refine wpAny_pure ⟨x,rfl,wpAny_pure (hQ _ _ ?_ (fQ ..))⟩
 exact dB _ hI rfl
theorem y7c{I t:Addr}{Q:Option Value->Shared->Prop}(hh:A.handled=none)(hI:s.heap.get? I=some (z8w t (-1)))
  (hQ:∀h',Heap.ExtBut I s.heap h'->Q none { s with heap:=h' }):wpAny (model prog w) A (pyNext (.ref I)) Q E s:=by
 have ty:s.TypeIs (.ref I) "reversed":=⟨_,hI,rfl⟩
 unfold pyNext
 refine wpAny_bind (wpAny_attempt (wpAny_callSpecial?_slot (name:=Str.ofString "__next__") ty z2f
  (wpAny_call_entry z2f ty z54 ?_ (z6r _))))
 unfold Builtin.«reversed.__next__»
 refine wpAny_bind (wpAny_of_eq (a:=(Value.ref I,[])) rfl ?_)
 try dsimp only
 refine wpAny_bind (wpAny_field hI rfl (x:=.ref t) rfl ?_)
 refine wpAny_bind (wpAny_field hI rfl (x:=rawInt (-1)) rfl ?_)
 show wpAny _ _ (if (-1:Int)<0 then _ else _) _ _ s
 rw[if_pos (by decide)]
 refine wpAny_bind (wpAny_rule ?_)
 refine wpAny_bind ?_
 show wpAny _ _ (setField (.ref I) 1 (rawInt (-1)) >>= fun _=>setField (.ref I) 0 .none) _ _ _
 refine wpAny_bind (wpAny_setField hI rfl (by simp) ?_)
 have g1:=dB (Obj.mapFields (·.setIfInBounds 1 (rawInt (-1)))) hI rfl
 have b1:Heap.SameBut I s.heap (s.heap.update I (Obj.mapFields (·.setIfInBounds 1 (rawInt (-1))))):=fQ ..
 refine wpAny_setField (vs:=#[.ref t,rawInt (-1)]) g1 rfl (by simp) ?_
 have b2:Heap.SameBut I (s.heap.update I (Obj.mapFields (·.setIfInBounds 1 (rawInt (-1))))) ((s.heap.update I (Obj.mapFields (·.setIfInBounds 1 (rawInt (-1))))).update I (Obj.mapFields (·.setIfInBounds 0 .none))):=fQ ..
 refine wpAny_bind ?_
 unfold Builtin.SmallTypes.stopIteration
 refine wpAny_bind ?_
 simp only[newExc,newTuple]
 refine wpAny_bind (wpAny_newObj_type ?_ (by size_fits))
 refine wpAny_bind (m:=firstArgMember _ _) (wpAny_of_eq (a:=Value.none) (by first|rfl|(simp only[firstArgMember];rfl)) (wpAny_newObj_type ?_ (by size_fits)))
 simp only[raiseNew]
 refine wpAny_bind (wpAny_handled ?_)
 rw[show A.in1.handled=none from hh]
 refine wpAny_bind (wpAny_pure (wpAny_throw ?_))
 refine wpAny_bind (wpAny_isInstance (T:="StopIteration") (b:=true) ⟨_,bC _ rfl,rfl⟩ isSubtype_stop ?_)
 exact wpAny_pure (hQ _ fun b o hb e=>b8 _ (b8 _ ((b2.2 b hb).trans ((b1.2 b hb).trans e))))
theorem y2J{I t:Addr}{i:Int}{Q:Value->Shared->Prop}(hI:s.heap.get? I=some (z8w t i))(h:Q (.ref I) s):wpAny (model prog w) A (pyIter (.ref I)) Q E s:=by
 have ty:s.TypeIs (.ref I) "reversed":=⟨_,hI,rfl⟩
 refine wpAny_pyIter_slot ty z6h (wpAny_call_entry z6h ty z8N ?_ (z9i _))
 show wpAny _ _ (ret (.ref I)) _ _ s
 exact wpAny_pure ⟨_,rfl,"reversed",_,ty,z2f.lookup,h⟩
end
def Itv(K:PySem.W.Frag)(a:Addr)(n:Nat):It:=
 ⟨fun i H=>i<n/\∃xs,SqT K H a xs/\xs.length=n,fun i H x H'=>H'=H/\∀xs,SqT K H a xs->xs.reverse[i]? = some x,fun i H=>n≤i⟩
theorem y4W{P:Program}{w:World}{K:PySem.W.Frag}{tg:Expr}(a it:Addr)(n:Nat):Turn P w K tg (Itv K a n) [it] it (fun i h=>i≤n/\h.get? it=some (z8w a ((n:Int)-1-(i:Int)))) where
 mem:=by simp
 obj:=fun i h st b hb=>by
  have e:b=it:=by simpa using hb
  subst e
  exact⟨_,st.2,fun v z=>by
   have z':Data.fields _=Data.cell v:=z
   cases z'⟩
 keep:=fun i h h' st k=>⟨st.1,k it (by simp) _ st.2⟩
 item:=by
  intro X hP hw hK hc i pins s σ H E I hf st hg
  subst hP hw hK
  obtain⟨hi,xs,hq,hn⟩:=hg
  obtain⟨its,rv,p,hz⟩:=I.tuple hq
  have ln:xs.length=its.length:=rv.length
  have hk:n-1-i<xs.length:=by omega
  obtain⟨u,hu,ru⟩:=rv.get (bG hk)
  obtain⟨f0,f1,f2,f3,f4,f5⟩:=hf it (by simp)
  have e1:(n:Int)-1-(i:Int)=((n-1-i:Nat):Int):=by omega
  have st1:=st.2
  rw[e1] at st1
  refine y5Z st1 (show IsTup s.heap a its.toArray from p) (x:=u) (by simpa using hu) ?_ fun h' tk st' sb=>?_
  ·have:its.toArray.size=xs.length:=by simp[ln]
   rw[this]
   have:=fX hz z7o
   omega
  have I1:Inv X pins σ H { s with heap:=h',toks:=tk }:=I.turned (t':=tk) (fun b o hb e=>(sb.2 b hb).trans e) f0 f1 f3 f4 f5
  refine⟨u,rfl,y29 (s:={ s with heap:=h',toks:=tk }) st' rfl rfl (by decide) ⟨xs[n-1-i],H,I1,ru,⟨rfl,fun ys hy=>?_⟩,⟨hi,?_⟩,fun b hb=>(hf b hb).1⟩⟩
  ·rw[I.Q5 hy hq,j3 (by omega),bG (by omega)]
   congr 2
   omega
  ·have e2:(n:Int)-1-((i+1:Nat):Int)=((n-1-i:Nat):Int)-1:=by omega
   rw[e2]
   exact st'
 done:=by
  intro X hP hw hK hc i pins s σ H E I hf st hg
  subst hP hw hK
  obtain⟨f0,f1,f2,f3,f4,f5⟩:=hf it (by simp)
  have hg':n≤i:=hg
  have st1:=st.2
  rw[show(n:Int)-1-(i:Int)=-1 by have:=st.1;omega] at st1
  exact y7c (I.ok.hd hc) st1 fun h' eb=>⟨rfl,I.turned (t':=s.toks) (fun b o hb e=>eb b o hb e) f0 f1 f3 f4 f5⟩
 self:=fun _ _ _ _ _ st h=>y2J st.2 h
section
variable{X:Cx}{tg:Expr}
def iRev(K:PySem.W.Frag)(ta:TA):TI:=fun σ H R=>ta σ H fun vs H1=>∃a xs,vs=[.ref a]/\SqT K H1 a xs/\R (Itv K a xs.length) H1
theorem y5s{e:Expr}{ta:TA}{p pos:Pos}(hg:Gl X "reversed")(hm:X.mg "reversed"=none)(ha:PA X [e] ta)(hs:starEach [e] X.env=[(false,eval e X.env)]:=by rfl):PI X tg (.Call (.Name "reversed" p) [e] [] pos) (iRev X.K ta):=by
 intro pins s σ H R I h
 refine Call_ (z4Y I hg hm boot_reversed (dZ (thn (ha pos pins s σ H _ I h) fun us s1 ⟨vs,H1,I1,r1,q1⟩=>?_) hs rfl))
 obtain⟨a,xs,e,hq,q⟩:=q1
 subst e
 cases r1 with
 | cons r rr=>
  cases rr
  cases r
  obtain⟨its,rv,p,hz⟩:=I1.tuple hq
  have ln:(its.toArray.size:Int)=xs.length:=by simp[rv.length]
  refine y6q (show IsTup s1.heap a its.toArray from p) ?_ fun tk=>?_
  ·rw[ln]
   have:=fX hz z7o
   omega
  refine y2J (bC _ rfl) ?_
  refine⟨s1.heap.objs.size,[s1.heap.objs.size],_,_,H1,rfl,I1.kept (t':=tk) fun b o e=>b8 _ e,y4W a _ xs.length,⟨cQ _,?_⟩,fun b hb=>?_,q⟩
  ·rw[show(xs.length:Int)-1-((0:Nat):Int)=(its.toArray.size:Int)-1 by rw[ln];simp]
   exact bC _ rfl
  ·have e:b=s1.heap.objs.size:=by simpa using hb
   subst e
   exact I1.R1 (bB _) (I1.hok.fresh (bB _))
end
theorem y4a{K:PySem.W.Frag}{a:Addr}{xs:List V}{g:TG}{tc:TT}{te:TE}{σ0:St}{H1:Hp}{F:List V->Hp->Prop}(Pv:Nat->List V->Hp->Prop)(h0:Pv 0 [] H1)
  (hl:∀i ys H,i≤xs.length->Pv i ys H->SqT K H a xs/\ys.length<sizeLine)
  (hs:∀i x ys H,xs.reverse[i]? = some x->Pv i ys H->z1z g tc te σ0 x H ys (Pv (i+1))) (hd:∀ys H,Pv xs.length ys H->F ys H):z9m (Itv K a xs.length) g tc te σ0 H1 F:=by
 refine⟨fun i m ys H=>m=xs.length-i/\i≤xs.length/\Pv i ys H,⟨xs.length,by simp,cQ _,h0⟩,?_⟩
 rintro i m ys H ⟨rfl,hi,p⟩
 obtain⟨q,z⟩:=hl i ys H hi p
 by_cases hlt:i<xs.length
 ·refine .inr ⟨⟨hlt,xs,q,rfl⟩,z,Pv (i+1),fun zs H' p'=>⟨xs.length-(i+1),by omega,rfl,hlt,p'⟩,fun x H' y=>?_⟩
  obtain⟨e,y⟩:=y
  subst e
  exact hs i x ys _ (y xs q) p
 ·have e:i=xs.length:=by omega
  subst e
  exact .inl ⟨bB _,hd ys H p⟩
theorem y67{K:PySem.W.Frag}{a:Addr}{xs:List V}{g:TG}{tb:TS}{D:Ends}{σ:St}{H:Hp}(Pv:Nat->St->Hp->Prop)(h0:Pv 0 σ H)(hl:∀i σ H,i≤xs.length->Pv i σ H->SqT K H a xs)
  (hs:∀i x σ H,xs.reverse[i]? = some x->Pv i σ H->g x σ H fun σ2 H2=>tb { D with nx:=Pv (i+1),ct:=Pv (i+1),bk:=D.nx } σ2 H2) (hd:∀σ H,Pv xs.length σ H->D.nx σ H) :
  ∃W:Nat->Nat->St->Hp->Prop,(∃m,W 0 m σ H)/\∀i m σ H,W i m σ H->
   ((Itv K a xs.length).stop i H/\D.nx σ H)\/((Itv K a xs.length).go i H/\∃N:St->Hp->Prop,(∀σ' H',N σ' H'->∃m',m'<m/\W (i+1) m' σ' H')/\∀x H',(Itv K a xs.length).yld i H x H'->g x σ H' fun σ2 H2=>tb { D with nx:=N,ct:=N,bk:=D.nx } σ2 H2):=by
 refine⟨fun i m σ H=>m=xs.length-i/\i≤xs.length/\Pv i σ H,⟨xs.length,by simp,cQ _,h0⟩,?_⟩
 rintro i m σ H ⟨rfl,hi',p⟩
 have q:=hl i σ H hi' p
 by_cases hlt:i<xs.length
 ·refine .inr ⟨⟨hlt,xs,q,rfl⟩,Pv (i+1),fun σ' H' p'=>⟨xs.length-(i+1),by omega,rfl,hlt,p'⟩,fun x H' y=>?_⟩
  obtain⟨e,y⟩:=y
  subst e
  exact hs i x σ _ (y xs q) p
 ·have e:i=xs.length:=by omega
  subst e
  exact .inl ⟨bB _,hd σ H p⟩
theorem len0{us:List Value}{p:List Value->Prop}(h:us.length=0)(k:p []):p us:=by rw[cU h];exact k
theorem Q3{us:List Value}{p:List Value->Prop}(h:us.length=1)(k:∀a,p [a]):p us:=by
 obtain⟨a,r,rfl⟩:=cS h
 exact len0 (p:=fun r=>p (a::r)) (Nat.succ.inj h) (k a)
theorem T7{us:List Value}{p:List Value->Prop}(h:us.length=2)(k:∀a b,p [a,b]):p us:=by
 obtain⟨a,r,rfl⟩:=cS h
 exact Q3 (p:=fun r=>p (a::r)) (Nat.succ.inj h) (k a)
theorem w06{us:List Value}{p:List Value->Prop}(h:us.length=3)(k:∀a b c,p [a,b,c]):p us:=by
 obtain⟨a,r,rfl⟩:=cS h
 exact T7 (p:=fun r=>p (a::r)) (Nat.succ.inj h) (k a)
theorem len4{us:List Value}{p:List Value->Prop}(h:us.length=4)(k:∀a b c d,p [a,b,c,d]):p us:=by
 obtain⟨a,r,rfl⟩:=cS h
 exact w06 (p:=fun r=>p (a::r)) (Nat.succ.inj h) (k a)
theorem len5{us:List Value}{p:List Value->Prop}(h:us.length=5)(k:∀a b c d e,p [a,b,c,d,e]):p us:=by
 obtain⟨a,r,rfl⟩:=cS h
 exact len4 (p:=fun r=>p (a::r)) (Nat.succ.inj h) (k a)
theorem len6{us:List Value}{p:List Value->Prop}(h:us.length=6)(k:∀a b c d e f,p [a,b,c,d,e,f]):p us:=by
 obtain⟨a,r,rfl⟩:=cS h
 exact len5 (p:=fun r=>p (a::r)) (Nat.succ.inj h) (k a)
theorem Cal.mono{P:Program}{w:World}{K:PySem.W.Frag}{mg:Str->Option Value}{base:Heap}{j k:Nat}{x:Str}{ps:List Str}{sp:Sp}(G:Cal P w K mg base j x ps sp)(h:j≤k):Cal P w K mg base k x ps sp:=by
 obtain⟨f,fd,a,b,c,d⟩:=G.ex
 exact⟨f,fd,a.mono h,b,c,d⟩
theorem D0.mono{P:Program}{w:World}{K:PySem.W.Frag}{mg:Str->Option Value}{base:Heap}{j k:Nat}{C:Addr}{m:Str}{ps:List Str}{sp:Sp}(G:D0 P w K mg base j C m ps sp)(h:j≤k):D0 P w K mg base k C m ps sp:=by
 obtain⟨f,fd,a,b,c⟩:=G.ex
 exact⟨G.cl,f,fd,a.mono h,b,c⟩
theorem Mkr.mono{P:Program}{w:World}{K:PySem.W.Frag}{mg:Str->Option Value}{base:Heap}{j k:Nat}{C:Addr}{x:Str}{ps:List Str}{sp:Sp}(G:Mkr P w K mg base j C x ps sp)(h:j≤k):Mkr P w K mg base k C x ps sp:=by
 obtain⟨f,fd,a,b,c,d⟩:=G.ex
 exact⟨f,fd,a.mono h,b,c,d⟩
theorem z29{X:Cx}{x z:Str}{pos:Pos}(hg:Gl X x)(hm:∃t,X.mg x=some (.str z t))(hd:(x == ("__debug__":Str))=false:=by decide):PE X (.Name x pos) (tC (.str z)):=by
 obtain⟨t,e⟩:=hm
 exact y3K hg e ⟨t,rfl⟩ hd
section
variable{X:Cx}
theorem z69{P:Program}{w:World}:∀{ns:List Int}{vs:List Value},vs.length=ns.length->(∀(j:Nat) (v:Value),vs[j]? = some v->∃k:Key,(ns.map Sum.inl)[j]? = some k/\(z1o P w).is k v=true)->IntsAre vs ns
 | [],[],_,_=>.nil
 | [],_::_,h,_=>by cases h
 | _::_,[],h,_=>by cases h
 | n::ns,v::vs,h,q=>by
  obtain⟨k,e,hk⟩:=q 0 v rfl
  cases e
  rcases z14 (show y0t (Sum.inl n) v=true from hk) with ⟨i,t,e1,rfl⟩|⟨x,t,e1,_⟩
  ·cases e1
   exact .cons n t (z69 (Nat.succ.inj h) fun j u hu=>q (j+1) u hu)
  ·cases e1
theorem z9R{prog:Program}{w:World}{A:Around}{E:Value->Shared->Prop}{s:Shared}{R:List Value->Shared->Prop}{T:String}{r d:Addr}{n:Nat}{P:Nat->Value->Prop}{OK:Heap->Prop}(K:PySem.W.KdlSrc prog w T r d n P OK)(hh:A.handled=none)(hok:OK s.heap)(hn:n≤sizeLine)
  (fin:∀(h':Heap) (tk:Nat) (acc:Array Value),(∀b o,s.heap.get? b=some o->h'.get? b=some o)->s.heap.objs.size<h'.objs.size->ItemsOf P acc n->R acc.toList { s with heap:=h',toks:=tk }):wpAny (model prog w) A (collect (.ref r)) R E s:=by
 have hlt:=K.there _ hok
 unfold collect
 refine wpAny_bind (wpAny_runValue (codeAny_builtin entry_proto_collect' ?_))
 rw[bZ gI _]
 refine(show wpAny _ A.in1 (newList [] >>= fun l=>again (.builtin "list.__iadd__" ⟨[l,.ref r],[]⟩)) _ _ s from wpAny_bind (wpAny_newObj_type (wpAny_pure ⟨plainId_quiet dW _,codeAny_builtin entry_list_iadd' ?_⟩)))
 rw[bZ dW _]
 have g1:(s.heap.push { cls:=.type "list",data:=.seq ([]:List Value).toArray }).get? s.heap.objs.size=some { cls:=.type "list",data:=.seq #[] }:=bC _ rfl
 have ext:=PySem.W.kdl_extend (A:=A) (s:={ s with heap:=s.heap.push { cls:=.type "list",data:=.seq ([]:List Value).toArray } })
  (R:=fun(q:Result) (s':Shared)=>∃(h':Heap) (tk:Nat) (acc:Array Value) (c':Nat),q=.ok (.ret (.ref s.heap.objs.size))/\s'={ s with heap:=h',toks:=tk }/\(∀b o,s.heap.get? b=some o->h'.get? b=some o)/\
   h'.get? s.heap.objs.size=some { cls:=.type "list",dict:=none,data:=.seq acc c',slots:=#[] }/\ItemsOf P acc n)
  K hh (K.keep _ _ hok fun b _ o e=>b8 _ e) s.heap.objs.size (fK hlt.1) (fK hlt.2) (.ref s.heap.objs.size) 0 g1
  (fun h' tk acc c' k hS' so=>⟨h',tk,acc,c',rfl,rfl,fun b o e=>k b o (bU (bJ e)) (b8 _ e),hS',so⟩) hn
 refine(show wpAny _ A.in1 (Builtin.List.listExtendWith (.ref s.heap.objs.size) (.ref r) (.ref s.heap.objs.size)) _ _ _ from wpAny_mono ext (fun f s' x=>?_) fun e s' x=>?_)
 ·cases f with
  | done f=>
   obtain⟨h',tk,acc,c',e,rfl,k,hS',so⟩:=x
   cases e
   exact(show wpAny _ A (load s.heap.objs.size >>= _) _ _ _ from wpAny_bind (wpAny_load hS' (wpAny_pure (fin h' tk _ k (bJ hS') so))))
  | again c1=>
   refine⟨x.1,codeAny_mono x.2 fun q s2 y=>?_⟩
   obtain⟨h',tk,acc,c',rfl,rfl,k,hS',so⟩:=y
   exact(show wpAny _ A (load s.heap.objs.size >>= _) _ _ _ from wpAny_bind (wpAny_load hS' (wpAny_pure (fin h' tk _ k (bJ hS') so))))
 ·obtain⟨_,_,_,_,e',_⟩:=x
  cases e'
theorem z6s(hc:X.calm=true):z3b X (.builtin "sorted") (fun xs H Q=>∃(p:Addr) (kvs:List (Key×V)) (ns:List Int),xs=[.ref p]/\H p=some (.dK kvs)/\kvs.map (·.1)=ns.map Sum.inl/\ns.length<64/\
  ∀(l:Addr) (ms:List Int),H l=none->ms.Perm ns->ms.Pairwise (·≤·)->Q (.ref l) (upd H l (.lst (ms.map V.int)))):=by
 intro pins s σ H xs us Q I r h
 obtain⟨p,kvs,ns,rfl,hp,hk,h64,q⟩:=h
 obtain⟨u,rfl,rx⟩:=z3H r
 cases rx
 obtain⟨_,lo,kv,rk,dd⟩:=y6N I.hok hp
 obtain⟨ep,hat⟩:=dd.dictAt
 have lk:kv.length=ns.length:=by
  have e1:=rk.length
  have e2:=congrArg List.length hk
  rw[b7,b7] at e2
  omega
 refine Calls.call_function_entry kind_sorted plain_sorted entry_sorted (args_sorted1 _) ?_
 unfold Builtin.«sorted»
 refine wpAny_bind (m:=checkCount "sorted" 1 1 _) (wpAny_pure ?_)
 refine wpAny_bind (z9R (A:=X.A.in1) (PySem.W.kdl_dict (knd:=z1o X.prog X.w) (kvs:=kv) (ep:=ep) lo) (I.ok.hd hc) hat (by rw[sizeLine_eq];omega) fun h' tk acc kp slt items=>?_)
 have hi:IntsAre acc.toList ns:=z69 (P:=X.prog) (w:=X.w) (by rw[cL,items.1,lk]) fun j v hv=>by
  obtain⟨k,x,e,ik⟩:=items.2 j v (by rw[<- eB];exact hv)
  refine⟨k,?_,ik⟩
  rw[<- hk,rk.keys,bH,e]
  rfl
 have lv:acc.toList.length<64:=by rw[IntsAre.length hi];exact h64
 refine wpAny_bind (wpAny_newList ?_ (by rw[sizeLine_eq];omega))
 have g1:(h'.push (seqObj "list" acc.toList.toArray 0)).get? h'.objs.size=some (seqObj "list" acc.toList.toArray 0):=bC _ rfl
 refine wpAny_bind (wpAny_holding (wpAny_call_entry slot_list_sort ⟨_,g1,rfl⟩ entry_list_sort (list_sort_tree g1 hi lv fun out ns' a1 a2 a3=>⟨_,rfl,?_⟩) (args_list_sort _)))
 refine wpAny_pure ⟨_,rfl,?_⟩
 obtain⟨e,he⟩:=sortedHeap_at (out:=out) g1
 have sle:s.heap.objs.size≤h'.objs.size:=eY slt
 have old:∀b o,s.heap.get? b=some o->(sortedHeap (h'.push (seqObj "list" acc.toList.toArray 0)) h'.objs.size acc.toList out).get? b=some o:=fun b o e=>by
  have hb:=bJ (kp b o e)
  rw[sortedHeap_old (bU hb) (by rw[size_push'];exact dC hb)]
  exact b8 _ (kp b o e)
 refine⟨.ref h'.objs.size,_,I.laid (a:=h'.objs.size) (o:=.lst (ns'.map V.int)) (t':=tk) old sle (show z1g X.prog X.w _ _ _ (.lst (ns'.map V.int)) from⟨?_,out.toList,e,z40 a1,?_⟩),rfl,q _ ns' (I.hok.fresh sle) a2 a3⟩
 ·rw[b7,a2.length_eq,sizeLine_eq]
  omega
 ·simpa using he
end
theorem z7R:typeLookup (.type "list") "keys"=pure none:=am_miss_of_fast (by kernel_rfl)
theorem z78:typeLookup (.type "tuple") "keys"=pure none:=am_miss_of_fast (by kernel_rfl)
theorem z9f:typeLookup (.type "list") "__getattr__"=pure none:=by rw[typeLookup_type,builtinLookup_eq_fast];kernel_rfl
theorem z8B:typeLookup (.type "tuple") "__getattr__"=pure none:=by rw[typeLookup_type,builtinLookup_eq_fast];kernel_rfl
section
variable{prog:Program}{w:World}{A:Around}{E:Value->Shared->Prop}{s:Shared}
theorem z9X{a:Addr}{items:Array Value}{n:Nat}{sl:Array (Option Value)}{u:Tok}{R:Result->Shared->Prop}(hA:A.handled=none)(ho:s.heap.get? a=some ⟨.type "list",none,.seq items n,sl⟩)(h:∀h' tk e,Heap.NewAttrErr s.heap h' e (.ref a) "keys"->R (.error (.ref e)) { s with heap:=h',toks:=tk }) :
  wpAny (model prog w) A.in1 (Builtin.«object.__getattribute__» ⟨[.ref a,.str "keys" u],[]⟩) (fun fin s'=>match fin with|.done f=>R (.ok f) s'|.again c'=>c'.quiet=true/\codeAny (model prog w) A c' R s') (fun e s'=>R (.error e) s') s:=by
 obtain⟨hp,g,d,tk,os⟩:=s
 have hT:(⟨hp,g,d,tk,os⟩:Shared).TypeIs (.ref a) "list":=⟨_,ho,rfl⟩
 have f1:=z7R
 unfold Builtin.«object.__getattribute__»
 repeat (any_goals (first|assumption|wp_step))
 exact wpAny_raiseAttrError hA h (attrMsg_fits (by decide +kernel) (by decide +kernel))
theorem z8W{a:Addr}{items:Array Value}{n:Nat}{sl:Array (Option Value)}{u:Tok}{R:Result->Shared->Prop}(hA:A.handled=none)(ho:s.heap.get? a=some ⟨.type "tuple",none,.seq items n,sl⟩)(h:∀h' tk e,Heap.NewAttrErr s.heap h' e (.ref a) "keys"->R (.error (.ref e)) { s with heap:=h',toks:=tk }) :
  wpAny (model prog w) A.in1 (Builtin.«object.__getattribute__» ⟨[.ref a,.str "keys" u],[]⟩) (fun fin s'=>match fin with|.done f=>R (.ok f) s'|.again c'=>c'.quiet=true/\codeAny (model prog w) A c' R s') (fun e s'=>R (.error e) s') s:=by
 obtain⟨hp,g,d,tk,os⟩:=s
 have hT:(⟨hp,g,d,tk,os⟩:Shared).TypeIs (.ref a) "tuple":=⟨_,ho,rfl⟩
 have f1:=z78
 unfold Builtin.«object.__getattribute__»
 repeat (any_goals (first|assumption|wp_step))
 exact wpAny_raiseAttrError hA h (attrMsg_fits (by decide +kernel) (by decide +kernel))
theorem z7S{a:Addr}{items:Array Value}{n:Nat}{sl:Array (Option Value)}{u:Tok}{R:Result->Shared->Prop}(hA:A.handled=none)(ho:s.heap.get? a=some ⟨.type "list",none,.seq items n,sl⟩)(h:∀h' tk e,Heap.NewAttrErr s.heap h' e (.ref a) "keys"->R (.error (.ref e)) { s with heap:=h',toks:=tk }) :
  codeAny (model prog w) A (.call (.builtin "list.__getattribute__") ⟨[.ref a,.str "keys" u],[]⟩) R s:=
 codeAny_call_builtin fN.plain F.entry_list_ga (fN.check _ _ _ _ _ _ _ _ (show s.TypeIs (.ref a) "list" from⟨_,ho,rfl⟩) (F.args_list_getattribute_2 _ _) (z9X (R:=R) hA ho h))
theorem z7T{a:Addr}{items:Array Value}{n:Nat}{sl:Array (Option Value)}{Q:Option Value->Shared->Prop}(hA:A.handled=none)(ho:s.heap.get? a=some ⟨.type "list",none,.seq items n,sl⟩)(h:∀h' tk,(∀b o,s.heap.get? b=some o->h'.get? b=some o)->Q none { s with heap:=h',toks:=tk }) :
  wpAny (model prog w) A (getAttr? (.ref a) "keys") Q E s:=by
 obtain⟨hp,g,d,tk,os⟩:=s
 have hT:∀tk',(⟨hp,g,d,tk',os⟩:Shared).TypeIs (.ref a) "list":=fun _=>⟨_,ho,rfl⟩
 have f1:=sub_AttributeError
 have f3:=fN.lookup
 have f4:=fN.bind (.ref a)
 have f5:=z9f
 unfold getAttr? getAttrBy? getAttrBy
 repeat (any_goals (first|assumption|exact hT _|wp_step))
 refine z7S (s:=⟨hp,g,d,tk+1,os⟩) hA ho fun h' tk' e hx=>?_
 obtain⟨t',u',he⟩:=hx.there
 show wpAny _ _ (getattributeRaised _ _ _ _ _ _ _) _ _ _
 unfold getattributeRaised
 repeat (any_goals (first|assumption|wp_step))
 exact h _ _ hx.keeps
theorem z6U{a:Addr}{items:Array Value}{n:Nat}{sl:Array (Option Value)}{u:Tok}{R:Result->Shared->Prop}(hA:A.handled=none)(ho:s.heap.get? a=some ⟨.type "tuple",none,.seq items n,sl⟩)(h:∀h' tk e,Heap.NewAttrErr s.heap h' e (.ref a) "keys"->R (.error (.ref e)) { s with heap:=h',toks:=tk }) :
  codeAny (model prog w) A (.call (.builtin "tuple.__getattribute__") ⟨[.ref a,.str "keys" u],[]⟩) R s:=
 codeAny_call_builtin fI.plain F.entry_tuple_ga (fI.check _ _ _ _ _ _ _ _ (show s.TypeIs (.ref a) "tuple" from⟨_,ho,rfl⟩) (F.args_tuple_getattribute_2 _ _) (z8W (R:=R) hA ho h))
theorem z6Q{a:Addr}{items:Array Value}{n:Nat}{sl:Array (Option Value)}{Q:Option Value->Shared->Prop}(hA:A.handled=none)(ho:s.heap.get? a=some ⟨.type "tuple",none,.seq items n,sl⟩)(h:∀h' tk,(∀b o,s.heap.get? b=some o->h'.get? b=some o)->Q none { s with heap:=h',toks:=tk }) :
  wpAny (model prog w) A (getAttr? (.ref a) "keys") Q E s:=by
 obtain⟨hp,g,d,tk,os⟩:=s
 have hT:∀tk',(⟨hp,g,d,tk',os⟩:Shared).TypeIs (.ref a) "tuple":=fun _=>⟨_,ho,rfl⟩
 have f1:=sub_AttributeError
 have f3:=fI.lookup
 have f4:=fI.bind (.ref a)
 have f5:=z8B
 unfold getAttr? getAttrBy? getAttrBy
 repeat (any_goals (first|assumption|exact hT _|wp_step))
 refine z6U (s:=⟨hp,g,d,tk+1,os⟩) hA ho fun h' tk' e hx=>?_
 obtain⟨t',u',he⟩:=hx.there
 show wpAny _ _ (getattributeRaised _ _ _ _ _ _ _) _ _ _
 unfold getattributeRaised
 repeat (any_goals (first|assumption|wp_step))
 exact h _ _ hx.keeps
end
theorem z4s:entryFor table "dict.update.loop"=some Builtin.«dict.update.loop»:=entryFor_of_tree (by kernel_rfl)
theorem z1H:plainId "dict.update.loop"=true:=by decide +kernel
section
variable{prog:Program}{w:World}{A:Around}{κ:Type}[DecidableEq κ]{kd:KeyKind prog w κ}{I:Addr}{fp wr:List Addr}{G:Array GenState->Array GenState->Prop}{n:Nat}{P:Nat->Value->Prop}{St:Nat->Shared->Prop}
def z9O(kd:KeyKind prog w κ)(h:Heap)(v:Value)(kv:κ×Value)(out:List Addr):Prop:=∃(a:Addr) (o:Obj) (T:String) (k:Value) (c:Nat),v=.ref a/\h.get? a=some o/\o.cls=.type T/\(T="list"\/T="tuple")/\o.data=.seq #[k,kv.2] c/\kd.is kv.1 k=true/\a∉out
theorem z71{R:Result->Shared->Prop}(W:WalksS prog w A.in1 I fp wr G n P St){d:Addr}(out:d∉fp){h0:Heap}{vs:List (κ×Value)}(lk:vs.length=n)
  (vals:∀i v,P i v->∃kv,vs[i]? = some kv/\z9O kd h0 v kv (d::wr)) (few:n≤1000) :
  ∀(todo i:Nat) (s:Shared),i+todo=n->St i s->s.heap.DictOf kd d (merged [] (vs.take i))->(∀b o,b∉d::wr->h0.get? b=some o->s.heap.get? b=some o)->
   (∀s',Moved (d::wr) G s s'->s'.heap.DictOf kd d (merged [] vs)->R (.ok (.ret .none)) s')->codeAny (model prog w) A (.builtin "dict.update.loop" ⟨[.ref d,.ref I,rawInt i,.none],[]⟩) R s
 | 0,i,s,ei,st,sx,kp,fin=>by
  have e:vs.take i=vs:=dJ (by omega)
  rw[e] at sx
  have ei':i=n:=by omega
  subst ei'
  refine codeAny_builtin z4s ?_
  rw[bZ z1H _]
  refine wpAny_bind (W.done s _ _ st fun s' mv=>wpAny_bind (wpAny_pure (wpAny_pure (fin s' (mv.mono fun b hb=>.tail _ hb) (sx.at fun o=>mv.heap d o fun q=>out (W.sub _ q))))))
 | todo+1,i,s,ei,st,sx,kp,fin=>by
  refine codeAny_builtin z4s ?_
  rw[bZ z1H _]
  refine wpAny_bind (W.item i s _ _ (by omega) st fun v s1 hv st1 mv=>?_)
  obtain⟨⟨key,y⟩,ek,a,o,T,k,c,rfl,ho,hc,hT,hd,ik,na⟩:=vals i v hv
  have sx1:=sx.at (h':=s1.heap) fun o=>mv.heap d o fun q=>out (W.sub _ q)
  have ho1:s1.heap.get? a=some o:=mv.heap a o (fun q=>na (.tail _ q)) (kp a o na ho)
  have ty:s1.TypeIs (.ref a) T:=⟨o,ho1,hc⟩
  refine wpAny_bind (wpAny_holding (m:=(Builtin.Dict.pairItems (.ref a)).tryCatch _ >>= _) (wpAny_bind (wpAny_tryCatch ?_)))
  unfold Builtin.Dict.pairItems
  refine wpAny_bind (wpAny_typeOf ty ?_)
  rw[if_pos (by rcases hT with rfl|rfl<;>decide)]
  refine wpAny_bind (wpAny_seqItems ho1 hd (wpAny_pure ?_))
  show wpAny _ _ (holding [k,y] (dictSet d k y)) _ _ _
  have lm:=merged_length_le [] (vs.take i)
  rw[bN,j8] at lm
  refine wpAny_holding (wpAny_dictSet_pairs (hsz:=by rw[sizeLine_eq];omega) ik sx1 fun h2 sx2 sb=>?_)
  rw[<- merged_take_succ [] vs i (key,y) ek] at sx2
  have far:∀b,b≠d->h2.get? b=s1.heap.get? b:=fun b hb=>sb.2 b hb
  refine wpAny_pure ⟨plainId_quiet z1H _,z71 W out lk vals few todo (i+1) _ (by omega) (W.frame _ s1 _ _ st1 (eI _) fun b hb o q=>?_) sx2 (fun b o nb q=>?_) fun s3 mv3 sx4=>?_⟩
  ·rw[far b fun z=>out (z ▸ hb)];exact q
  ·rw[far b fun z=>nb (z ▸ .head _)]
   exact mv.heap b o (fun q=>nb (.tail _ q)) (kp b o nb q)
  ·refine fin s3 (.trans W.gtrans ((mv.mono fun b hb=>.tail _ hb).then_heap (eI _) fun b o hb q=>?_) mv3) sx4
   rw[far b fun z=>hb (z ▸ .head _)];exact q
end
section
variable{prog:Program}{w:World}{A:Around}{E:Value->Shared->Prop}{s:Shared}{κ:Type}[DecidableEq κ]{kd:KeyKind prog w κ}
theorem y6f{T:String}{p:Addr}{its:Array Value}{c0:Nat}{sl:Array (Option Value)}{vs:List (κ×Value)}{Q:Value->Shared->Prop}(hh:A.handled=none)(hp:s.heap.get? p=some ⟨.type T,none,.seq its c0,sl⟩)(hT:T="list"\/T="tuple")
  (lk:vs.length=its.size) (vals:∀(i:Nat) v,its[i]? = some v->∃kv,vs[i]? = some kv/\z9O kd s.heap v kv []) (few:its.size≤1000) (nd:(vs.map (·.1)).Nodup)
  (fin:∀(h':Heap) (t:Nat),h'.DictOf kd s.heap.objs.size vs->(∀b u,s.heap.get? b=some u->h'.get? b=some u)->Q (.ref s.heap.objs.size) { s with heap:=h',toks:=t }) :
  wpAny (model prog w) A (call (.type "dict") [.ref p]) Q E s:=by
 refine callType_codes (Q₁:=fun obj s₁=>obj=.ref s.heap.objs.size/\s₁={ s with heap:=s.heap.push { cls:=.type "dict",data:=.dict #[] } }) PySem.F.kt_called_dict (PySem.F.kt_typeCall_dict_1 _) F.entry_dict_init (kt_code_dict_new _ ⟨rfl,rfl⟩) ?_
 rintro obj s₁ ⟨rfl,rfl⟩
 have w04:(s.heap.push { cls:=.type "dict",data:=.dict #[] }).DictOf kd s.heap.objs.size []:=Heap.DictOf.new s.heap
 have hp1:(s.heap.push { cls:=.type "dict",data:=.dict #[] }).get? p=some ⟨.type T,none,.seq its c0,sl⟩:=b8 _ hp
 have hpl:p<s.heap.objs.size:=bJ hp
 refine⟨w04.typeIs,F.args_dict_init_2 _ _,?_⟩
 unfold Builtin.«dict.__init__»
 refine wpAny_bind ?_
 unfold Builtin.Dict.selfAndRest
 refine wpAny_bind (wpAny_notOrdered_dict w04.typeIs ?_)
 show wpAny _ _ (pure (s.heap.objs.size,[Value.ref p])) _ _ _
 refine wpAny_pure ?_
 show wpAny _ _ (Builtin.Dict.updateFrom "dict.__init__" s.heap.objs.size (.ref p) [] .none) _ _ _
 unfold Builtin.Dict.updateFrom
 refine wpAny_bind (wpAny_typeOf (T:=T) ⟨_,hp1,rfl⟩ ?_)
 rw[if_pos (by rcases hT with rfl|rfl<;>decide)]
 have main:∀(h1:Heap) (tk:Nat),(∀b o,(s.heap.push { cls:=.type "dict",data:=.dict #[] }).get? b=some o->h1.get? b=some o)->
   wpAny (model prog w) A.in1.in1 (do
    rule (toString "dict.__init__"++toString ".from-pairs")
    return <- again (.builtin "dict.update.loop" ⟨[.ref s.heap.objs.size,<- pyIter (.ref p),rawInt 0,.none],[]⟩))
    (fun fin s'=>match fin with|.done f=>wants (fun r s₂=>r=.none/\Q (.ref s.heap.objs.size) s₂) E (.ok f) s'|.again c'=>c'.quiet=true/\codeAny (model prog w) A.in1 c' (wants (fun r s₂=>r=.none/\Q (.ref s.heap.objs.size) s₂) E) s')
    (fun e s'=>wants (fun r s₂=>r=.none/\Q (.ref s.heap.objs.size) s₂) E (.error e) s') { s with heap:=h1,toks:=tk }:=by
  intro h1 tk k1
  have hd1:=w04.keep k1
  have dlt:s.heap.objs.size<h1.objs.size:=by
   obtain⟨_,_,_,e,_⟩:=hd1
   exact bJ e
  have hp2:=k1 _ _ hp1
  have apart:p≠h1.objs.size:=bU (bJ hp2)
  have out:s.heap.objs.size∉[h1.objs.size,p]:=by rw[bA,b9];exact fun z=>z.elim (bU dlt) (fK hpl)
  have hh2:A.in1.in1.handled=none:=by simp[hh]
  have nin:∀{b:Addr}{o:Obj},s.heap.get? b=some o->b∉[s.heap.objs.size,h1.objs.size]:=fun e m=>by
   have hb:=bJ e
   rcases bA.mp m with z|z
   ·exact absurd hb (by rw[z];exact dP _)
   ·rw[b9] at z
    exact absurd (jK hb dlt) (by rw[z];exact dP _)
  have Y0:∀(i:Nat) v,its[i]? = some v->∃kv,vs[i]? = some kv/\z9O kd s.heap v kv [s.heap.objs.size,h1.objs.size]:=fun i v hv=>by
   obtain⟨kv,e,a,o,T,k,c,e1,e2,e3,e4,e5,e6,_⟩:=vals i v hv
   exact⟨kv,e,a,o,T,k,c,e1,e2,e3,e4,e5,e6,nin e2⟩
  have ends:∀(x:Obj) (s':Shared),Moved [s.heap.objs.size,h1.objs.size] (fun a b=>b=a) { s with heap:=h1.push x,toks:=tk } s'->s'.heap.DictOf kd s.heap.objs.size (merged [] vs)->Q (.ref s.heap.objs.size) s':=fun x s' mv sx=>by
   obtain⟨h',g',d',t',o'⟩:=s'
   obtain rfl:g'=s.gens:=mv.gens
   obtain rfl:d'=s.drawn:=mv.drawn
   obtain rfl:o'=s.os:=mv.os
   rw[merged_nil_of_nodup vs nd] at sx
   exact fin h' t' sx fun b u q=>mv.heap b u (nin q) (b8 _ (k1 _ _ (b8 _ q)))
  refine wpAny_bind (wpAny_rule ?_)
  rcases hT with rfl|rfl
  ·have hl:h1.IsList p its:=⟨_,hp2,rfl,c0,rfl⟩
   refine wpAny_bind (wpAny_pyIter_list hl (wpAny_pure ⟨plainId_quiet z1H _,?_⟩))
   exact z71 (kd:=kd) ((Walks.list hh2 _ p apart its).toS) out (h0:=s.heap) lk Y0 few its.size 0 _ (gE _) ⟨⟨_,bC _ rfl,rfl,rfl⟩,hl.push _⟩ (by rw[d6];exact hd1.push _) (fun b o _ q=>b8 _ (k1 _ _ (b8 _ q))) fun s' mv sx=>⟨rfl,ends _ s' mv sx⟩
  ·have hl:h1.IsTuple p its:=⟨_,hp2,rfl,c0,rfl⟩
   refine wpAny_bind (wpAny_pyIter_tuple hl (wpAny_pure ⟨plainId_quiet z1H _,?_⟩))
   exact z71 (kd:=kd) ((Walks.tuple hh2 _ p apart its).toS) out (h0:=s.heap) lk Y0 few its.size 0 _ (gE _) ⟨⟨_,bC _ rfl,rfl,rfl⟩,hl.push _⟩ (by rw[d6];exact hd1.push _) (fun b o _ q=>b8 _ (k1 _ _ (b8 _ q))) fun s' mv sx=>⟨rfl,ends _ s' mv sx⟩
 have hh2:A.in1.in1.handled=none:=by simp[hh]
 rcases hT with rfl|rfl
 ·refine wpAny_bind (z7T hh2 hp1 fun h1 tk k1=>?_)
  exact main h1 tk k1
 ·refine wpAny_bind (z6Q hh2 hp1 fun h1 tk k1=>?_)
  exact main h1 tk k1
end
section
variable{X:Cx}
def y28(K:PySem.W.Frag)(H:Hp)(u:V)(kv:Key×V):Prop:=∃a,u=.ref a/\(SqL K H a [kV kv.1,kv.2]\/SqT K H a [kV kv.1,kv.2])
def SqP(K:PySem.W.Frag)(H:Hp)(p:Addr)(ys:List V):Prop:=SqL K H p ys\/H p=some (.tup ys)
def y5R(K:PySem.W.Frag):List V->Hp->VK->Prop:=fun xs H Q=>∃p ys kvs,xs=[.ref p]/\SqP K H p ys/\Paired (y28 K H) ys kvs/\ys.length≤1000/\(kvs.map (·.1)).Nodup/\∀l,H l=none->Q (.ref l) (upd H l (.dK kvs))
theorem z8a{pins:List (Addr×Obj)}{σ:St}{H:Hp}{s:Shared}(I:Inv X pins σ H s):∀{ys:List V}{kvs:List (Key×V)}{its:List Value},Paired (y28 X.K H) ys kvs->Vals ys its->
  ∃vs,KV kvs vs/\vs.length=its.length/\∀(i:Nat) v,its[i]? = some v->∃kv,vs[i]? = some kv/\z9O (z1o X.prog X.w) s.heap v kv []
 | _,_,_,.nil,.nil=>⟨[],.nil,rfl,fun i v h=>by simp at h⟩
 | _::ys,kv::kvs,_::its,.cons ⟨a,e,hq⟩ t,.cons r rr=>by
  obtain⟨vs,k1,l1,p1⟩:=z8a I t rr
  subst e
  cases r
  have go:∀(T:String) (o:Obj) (us:List Value) (c:Nat),s.heap.get? a=some o->o.cls=.type T->(T="list"\/T="tuple")->o.data=.seq us.toArray c->Vals [kV kv.1,kv.2] us->
    ∃vs',KV (kv::kvs) vs'/\vs'.length=(Value.ref a::its).length/\∀(i:Nat) v,(Value.ref a::its)[i]? = some v->∃kv,vs'[i]? = some kv/\z9O (z1o X.prog X.w) s.heap v kv []:=fun T o us c h1 h2 h3 h4 h5=>by
   obtain⟨u1,u2,rfl,r1,r2⟩:=y4N h5
   refine⟨(kv.1,u2)::vs,.cons ⟨rfl,r2⟩ k1,by rw[cC,cC,l1],fun i v hv=>?_⟩
   cases i with
   | zero=>
    simp at hv
    subst hv
    exact⟨_,rfl,a,o,T,u1,c,rfl,h1,h2,h3,by simpa using h4,y3Q r1,by simp⟩
   | succ i=>exact p1 i v (by simpa using hv)
  rcases hq with hq|hq
  ·obtain⟨us,rv,pl,_⟩:=I.list hq
   obtain⟨o,ho,hcl,n,hda⟩:=pl.isList
   exact go "list" o us n ho hcl (.inl rfl) hda rv
  ·obtain⟨us,rv,pl,_⟩:=I.tuple hq
   obtain⟨o,ho,hcl,n,hda⟩:=pl
   exact go "tuple" o us n ho hcl (.inr rfl) hda rv
theorem z3Y{K:PySem.W.Frag}(hK:X.K=K)(hc:X.calm=true):z3b X (.type "dict") (y5R K):=by
 subst hK
 intro pins s σ H xs us Q I r h
 obtain⟨p,ys,kvs,rfl,hq,pr,hl,nd,q⟩:=h
 obtain⟨u,rfl,rx⟩:=z3H r
 cases rx
 have go:∀(T:String) (its:List Value) (c0:Nat) (sl:Array (Option Value)),s.heap.get? p=some ⟨.type T,none,.seq its.toArray c0,sl⟩->(T="list"\/T="tuple")->Vals ys its->wpAny (model X.prog X.w) X.A (call (.type "dict") [.ref p]) (EP X pins σ Q) X.xe s:=
  fun T its c0 sl ho hT rv=>by
   obtain⟨vs,k1,l1,p1⟩:=z8a I pr rv
   have ln:ys.length=its.length:=rv.length
   refine y6f (kd:=z1o X.prog X.w) (vs:=vs) (I.ok.hd hc) ho hT (by simpa using l1) (fun i v hv=>p1 i v (by simpa using hv)) (by simp;omega) (by rw[<- k1.keys];exact nd) fun h' t dd kp=>?_
   have big:=I.big
   refine⟨.ref s.heap.objs.size,_,I.laid (a:=s.heap.objs.size) (o:=.dK kvs) (h':=h') (t':=t) kp (bB _) (y5A ?_ ?_ k1 dd),rfl,q _ (I.hok.fresh (bB _))⟩
   ·have:=k1.length
    rw[sizeLine_eq]
    omega
   ·exact beq_false_of_ne (fK big)
 rcases hq with hq|hq
 ·obtain⟨its,rv,pl,_⟩:=I.list hq
  obtain⟨o,n,ho,hcl,hdi,hda⟩:=pl
  obtain⟨oc,od,oa,os⟩:=o
  simp only at hcl hdi hda
  subst hcl hdi hda
  exact go "list" its n os ho (.inl rfl) rv
 ·obtain⟨_,its,rv,o,ho,hcl,⟨n,hda⟩,hdi⟩:=(show z1g X.prog X.w H s.heap p (.tup ys) from I.hok p _ hq)
  obtain⟨oc,od,oa,os⟩:=o
  simp only at hcl hdi hda
  subst hcl hdi hda
  exact go "tuple" its n os ho (.inr rfl) rv
end
def SqS(K:PySem.W.Frag)(t:Bool)(H:Hp)(a:Addr)(xs:List V):Prop:=if t then SqL K H a xs else SqT K H a xs
theorem SqS.of{K:PySem.W.Frag}{H:Hp}{a:Addr}{xs:List V}(h:SqL K H a xs\/SqT K H a xs):∃t,SqS K t H a xs:=h.elim (fun q=>⟨true,q⟩) fun q=>⟨false,q⟩
theorem SqS.keep{K:PySem.W.Frag}{t:Bool}{H H':Hp}{a:Addr}{xs:List V}(s:A4 H H')(h:SqS K t H a xs):SqS K t H' a xs:=by
 cases t
 ·rcases(show SqT K H a xs from h) with (h|⟨o,h⟩)|h
  ·exact .inl (.inl (s _ _ h))
  ·exact .inl (.inr ⟨o,s _ _ h⟩)
  ·exact .inr h
 ·exact s.seq (show SqL K H a xs from h)
def Its(K:PySem.W.Frag)(t:Bool)(a:Addr):It:=if t then Itl K a else Itt K a
section
variable{X:Cx}{tg:Expr}
def iSeq(K:PySem.W.Frag)(tl:TE):TI:=fun σ H R=>tl σ H fun x H1=>∃a t,x=.ref a/\(∃xs,SqS K t H1 a xs)/\R (Its K t a) H1
theorem y38{l:Expr}{tl:TE}(hl:PE X l tl):PI X tg l (iSeq X.K tl):=by
 intro pins s σ H R I h
 refine thn (hl pins s σ H _ I h) fun v s1 ⟨x,H1,I1,r1,q1⟩=>?_
 obtain⟨a,t,e,⟨xs,hq⟩,q⟩:=q1
 subst e
 cases r1
 cases t
 ·obtain⟨its,rv,p,hz⟩:=I1.tuple hq
  refine wpAny_pyIter_tuple (show s1.heap.IsTuple a its.toArray from p) ?_
  refine⟨s1.heap.objs.size,[s1.heap.objs.size],_,_,H1,rfl,I1.kept (t':=s1.toks) fun b o e=>b8 _ e,z7Y a _,⟨_,bC _ rfl,rfl,rfl⟩,fun b hb=>?_,q⟩
  have e:b=s1.heap.objs.size:=by simpa using hb
  subst e
  exact I1.R1 (bB _) (I1.hok.fresh (bB _))
 ·obtain⟨its,rv,p,hz⟩:=I1.list hq
  refine wpAny_pyIter_list p.isList ?_
  refine⟨s1.heap.objs.size,[s1.heap.objs.size],_,_,H1,rfl,I1.kept (t':=s1.toks) fun b o e=>b8 _ e,z9S a _,⟨_,bC _ rfl,rfl,rfl⟩,fun b hb=>?_,q⟩
  have e:b=s1.heap.objs.size:=by simpa using hb
  subst e
  exact I1.R1 (bB _) (I1.hok.fresh (bB _))
end
theorem y1g{K:PySem.W.Frag}{t:Bool}{a:Addr}{xs:List V}{g:TG}{tc:TT}{te:TE}{σ0:St}{H1:Hp}{F:List V->Hp->Prop}(Pv:Nat->List V->Hp->Prop)(h0:Pv 0 [] H1)
  (hl:∀i ys H,i≤xs.length->Pv i ys H->SqS K t H a xs/\ys.length<sizeLine)
  (hs:∀i x ys H,xs[i]? = some x->Pv i ys H->z1z g tc te σ0 x H ys (Pv (i+1))) (hd:∀ys H,Pv xs.length ys H->F ys H):z9m (Its K t a) g tc te σ0 H1 F:=by
 cases t
 ·exact z1r Pv h0 hl hs hd
 ·exact z3Z Pv h0 hl hs hd
theorem y6v{K:PySem.W.Frag}{t:Bool}{a:Addr}{xs:List V}{g:TG}{tb:TS}{D:Ends}{σ:St}{H:Hp}(Pv:Nat->St->Hp->Prop)(h0:Pv 0 σ H)(hl:∀i σ H,i≤xs.length->Pv i σ H->SqS K t H a xs)
  (hs:∀i x σ H,xs[i]? = some x->Pv i σ H->g x σ H fun σ2 H2=>tb { D with nx:=Pv (i+1),ct:=Pv (i+1),bk:=D.nx } σ2 H2) (hd:∀σ H,Pv xs.length σ H->D.nx σ H) :
  ∃W:Nat->Nat->St->Hp->Prop,(∃m,W 0 m σ H)/\∀i m σ H,W i m σ H->
   ((Its K t a).stop i H/\D.nx σ H)\/((Its K t a).go i H/\∃N:St->Hp->Prop,(∀σ' H',N σ' H'->∃m',m'<m/\W (i+1) m' σ' H')/\∀x H',(Its K t a).yld i H x H'->g x σ H' fun σ2 H2=>tb { D with nx:=N,ct:=N,bk:=D.nx } σ2 H2):=by
 cases t
 ·exact z7a Pv h0 hl hs hd
 ·exact z1s Pv h0 hl hs hd
section
variable{prog:Program}{w:World}{A:Around}{E:Value->Shared->Prop}
theorem y07{it t:Addr}{items:Array Value}(hne:t≠it):∀(n i:Nat) (s:Shared) (Q:List Value->Shared->Prop),s.heap.IsListIter it t i->s.heap.IsList t items->i+n≤items.size->
  (∀h',h'.IsListIter it t (i+n)->Heap.SameBut it s.heap h'->Q ((items.toList.drop i).take n) { s with heap:=h' })->wpAny (model prog w) A (draw (.ref it) n) Q E s
 | 0,i,s,Q,hit,_,_,hQ=>by
  show wpAny _ _ (pure []) Q E s
  exact wpAny_pure (by simpa using hQ s.heap hit (Heap.SameBut.refl ..))
 | n+1,i,s,Q,hit,ht,hle,hQ=>by
  have hlt:i<items.size:=by omega
  show wpAny _ _ (pyNext (.ref it) >>= _) Q E s
  refine wpAny_bind (wpAny_pyNext_list_item hit ht (x:=items[i]) (by simp[hlt]) fun h₁ hit₁ hs₁=>?_)
  refine wpAny_bind (wpAny_holding (y07 hne n (i+1) _ _ hit₁ (ht.at fun o e=>(hs₁.2 t hne).trans e) (by omega) fun h₂ hit₂ hs₂=>wpAny_pure ?_))
  have hd:items.toList.drop i=items[i]::items.toList.drop (i+1):=by simp[List.drop_eq_getElem_cons,hlt]
  have:=hQ h₂ (by rw[show i+(n+1)=i+1+n by omega];exact hit₂) (hs₁.trans hs₂)
  rw[hd,List.take_succ_cons] at this
  exact this
theorem y0h{s:Shared}{t:Addr}{items:Array Value}{Q:List Value->Shared->Prop}(hh:A.handled=none)(ht:s.heap.IsList t items)
  (hQ:∀h',Heap.ExtBut s.heap.objs.size s.heap h'->Q items.toList { s with heap:=h' }):wpAny (model prog w) A (unpackItems (.ref t) items.size none) Q E s:=by
 have hlt:t≠s.heap.objs.size:=by obtain⟨o,ho,_⟩:=ht;exact bU (bJ ho)
 unfold unpackItems
 refine wpAny_bind ?_
 unfold notIterableAtAll
 refine wpAny_bind (wpAny_specialOf ht.typeIs PySem.F.slot_list_iter.lookup ?_)
 refine wpAny_pure ?_
 simp only[e9,if_false]
 refine wpAny_bind (wpAny_holding (wpAny_pyIter_list ht ?_))
 refine wpAny_bind (wpAny_holding (y07 hlt items.size 0 _ _ ⟨_,bC _ rfl,rfl,rfl⟩ (ht.push _) (by omega) fun h₁ hit₁ hs₁=>?_))
 have B4:List.take items.size (List.drop 0 items.toList)=items.toList:=by
  rw[gU];exact dJ (by simp)
 rw[B4]
 rw[if_neg (by simp)]
 have ht₁:h₁.IsList t items:=(ht.push _).at fun o e=>(hs₁.2 t hlt).trans e
 refine wpAny_bind (wpAny_holding (wpAny_pyNext_list_end hh hit₁ ht₁ (by simp) fun h₂ he₂=>?_))
 simp only[Option.isSome_none,e9,if_false]
 exact wpAny_pure (hQ h₂ fun b o hb e=>he₂ b o hb (hs₁.extBut b o hb (b8 _ e)))
theorem z5R{s:Shared}{env:Env}{elts:List Expr}{x1}{pos:Pos}{t:Addr}{items:Array Value}{Q:Unit->Shared->Prop}(hh:A.handled=none)(ht:s.heap.IsList t items)
  (hn:(assignEach elts env).length=items.size) (w0a:(assignEach elts env).findIdx? (·.1)=none)
  (h:∀h',Heap.ExtBut s.heap.objs.size s.heap h'->wpAny (model prog w) A (assignInOrder ((assignEach elts env).map (·.2)) items.toList) Q E { s with heap:=h' }) :
  wpAny (model prog w) A (assign (.Tuple elts x1 pos) env (.ref t)) Q E s:=by
 rw[assign_Tuple]
 refine wpAny_bind (wpAny_standAt ?_)
 unfold unpack
 rw[hn,w0a]
 exact wpAny_bind (wpAny_holding (y0h hh ht h))
end
def w03(K:PySem.W.Frag)(n:Nat)(t:TGs):TG:=fun v σ H Q=>∃a xs,v=.ref a/\(SqL K H a xs\/SqT K H a xs)/\xs.length=n/\t xs σ H Q
theorem y3M{X:Cx}{K:PySem.W.Frag}{es:List Expr}{k:Nat}{t:TGs}{n:Nat}{pos:Pos}(hK:X.K=K)(hc:X.calm=true)(h:PGs X es t)
  (hn:(assignEach es X.env).length=n:=by rfl) (hst:(assignEach es X.env).findIdx? (·.1)=none:=by rfl):PG X (.Tuple es k pos) (w03 K n t):=by
 subst hK
 intro pins s σ H v u Q I r hw
 obtain⟨a,xs,e1,hq,hl,hw⟩:=hw
 subst e1
 cases r
 rcases hq with hq|hq
 ·obtain⟨its,rv,ht,hz⟩:=I.list hq
  refine z5R (I.ok.hd hc) ht.isList (by simp[hn,<- hl,rv.length]) hst fun h' hx=>?_
  have I1:Inv X pins σ H { s with heap:=h' }:=I.kept (t':=s.toks) fun b o e=>hx b o (bU (bJ e)) e
  exact h pins _ σ H xs _ Q I1 (by simpa using rv) hw
 ·obtain⟨its,rv,ht,hz⟩:=I.tuple hq
  refine assign_Tuple_tuple (I.ok.hd hc) ht (by simp[hn,<- hl,rv.length]) hst fun h' hx=>?_
  have I1:Inv X pins σ H { s with heap:=h' }:=I.kept (t':=s.toks) fun b o e=>hx b o (bU (bJ e)) e
  exact h pins _ σ H xs _ Q I1 (by simpa using rv) hw
theorem y4v{K:PySem.W.Frag}{n:Nat}{t:TGs}(a:z8o t):z9C (w03 K n t):=fun v σ H Q Q' f q=>by
 obtain⟨p,xs,e,h1,h2,q⟩:=q
 exact⟨p,xs,e,h1,h2,a _ _ _ _ _ f q⟩
theorem y6x{K:PySem.W.Frag}{n k:Nat}{t:TGs}(a:y39 n t):T9 n (w03 K k t):=fun v σ H Q q=>by
 obtain⟨p,xs,e,h1,h2,q⟩:=q
 exact⟨p,xs,e,h1,h2,a _ _ _ _ q⟩
theorem y0G{X:Cx}{K:PySem.W.Frag}(hK:X.K=K):OpR X (binaryOp .Add) (y6Q K):=by
 subst hK
 exact y6g
section
variable{X:Cx}
end
structure Q1(K:PySem.W.Frag)(x qual:Str)(st:Stmt)(f:Addr)(fd:FuncData)(T:Addr)(items:Array Value):Prop where
 ex:∃(oc:Value) (od:Option Addr) (kV doc pm:Value) (an:Option Addr) (cdv ct:Value) (osl:Array (Option Value)),
  fd=PySem.W.fnOf x qual (z1x st) (z1e st) (z07 st) (.ref T) kV doc pm an cdv ct/\K.lookup f=some ⟨oc,od,.func fd,osl⟩/\PySem.W.codeIn K cdv qual=true
 kp:PySem.W.keepIn K (.ref f)=true
 dt:∃(o:Obj) (n:Nat),K.lookup T=some o/\o.data=.seq items n
section
variable{P:Program}{w:World}{K:PySem.W.Frag}{mg:Str->Option Value}{base:Heap}
theorem Q1.ok{x qual:Str}{st:Stmt}{f T:Addr}{items:Array Value}{fd:FuncData}{N ps:List Str}{k:Nat}{sp:Sp}(F:Q1 K x qual st f fd T items)(S:A2 N ps (z07 st))(len:∀vs H Q E,sp vs H Q E->vs.length=ps.length)
  (S6:∀(cdv:Value) (A:Around) (outer:List Env) (s:Shared) (H:Hp) (vs:List V) (Q:VK) (E:XK),C5 k (A.deeper (envOfC qual (z07 st) s.heap.objs.size f cdv))->sp vs H Q E->
   ∃t,PSs (T4 CX0 P w K mg base N qual (z07 st) f cdv A outer s H E).nox (z1e st) t/\t { nx:=fun _ H'=>Q .non H',rt:=Q } (z48 N vs) H):A7 P w K mg base CX0 (k+1) f fd ps sp:=by
 obtain⟨oc,od,kV,doc,pm,an,cdv,ct,osl,rfl,lk,hcd⟩:=F.ex
 refine y75 lk hcd S len fun A outer s H vs Q E hr hsp=>?_
 obtain⟨t,h,q⟩:=S6 cdv A outer s H vs Q E hr hsp
 exact⟨t,h.nox,q⟩
theorem Q1.binds{x qual:Str}{st:Stmt}{f T:Addr}{items:Array Value}{fd:FuncData}{ps:List Str}{ds:List Value}(F:Q1 K x qual st f fd T items)
  (h:∀(kV doc pm:Value) (an:Option Addr) (cdv ct:Value) (us:List Value),us.length+ds.length=ps.length->∃k,bindArgs (PySem.W.fnOf x qual (z1x st) (z1e st) (z07 st) (.ref T) kV doc pm an cdv ct) ⟨us,[]⟩=seqItems? (.ref T) >>= k/\k (some items)=pure (ps.zip (us++ds))):z1J K fd ps ds:=by
 obtain⟨oc,od,kV,doc,pm,an,cdv,ct,osl,rfl,lk,hcd⟩:=F.ex
 obtain⟨o,n,lt,hs⟩:=F.dt
 intro s us KX hl
 rw[bI] at hl
 obtain⟨k,h1,h2⟩:=h kV doc pm an cdv ct us hl
 exact .of_defaults rfl (KX _ _ lt) hs h1 h2
theorem y62{x qual:Str}{st:Stmt}{f T:Addr}{oc oct:Value}{od odt an:Option Addr}{osl oslt:Array (Option Value)}{items:Array Value}{n:Nat}{kV doc pm cdv ct:Value}(l:K.lookup f=some ⟨oc,od,.func (PySem.W.fnOf x qual (z1x st) (z1e st) (z07 st) (.ref T) kV doc pm an cdv ct),osl⟩)
  (lt:K.lookup T=some ⟨oct,odt,.seq items n,oslt⟩) (c:PySem.W.codeIn K cdv qual=true) (k:PySem.W.keepIn K (.ref f)=true):Q1 K x qual st f (PySem.W.fnOf x qual (z1x st) (z1e st) (z07 st) (.ref T) kV doc pm an cdv ct) T items:=⟨⟨oc,od,kV,doc,pm,an,cdv,ct,osl,rfl,l,c⟩,k,_,n,lt,rfl⟩
end
structure P6(P:Program)(w:World)(K:PySem.W.Frag)(mg:Str->Option Value)(base:Heap)(k:Nat)(x:Str)(ps:List Str)(sp:Sp)(dvs:List V):Prop where
 ex:∃(f:Addr) (fd:FuncData) (ds:List Value),A7 P w K mg base CX0 k f fd ps sp/\z1J K fd ps ds/\Vals dvs ds/\PySem.W.keepIn K (.ref f)=true/\mg x=some (.ref f)
theorem P6.mk'{P:Program}{w:World}{K:PySem.W.Frag}{mg:Str->Option Value}{base:Heap}{k:Nat}{x:Str}{ps:List Str}{sp:Sp}{dvs:List V}{ds:List Value}{f:Addr}{fd:FuncData}(v:Vals dvs ds)(a:A7 P w K mg base CX0 k f fd ps sp)(b:z1J K fd ps ds)(c:PySem.W.keepIn K (.ref f)=true)(d:mg x=some (.ref f)) :
  P6 P w K mg base k x ps sp dvs:=⟨⟨f,fd,ds,a,b,v,c,d⟩⟩
theorem P6.mono{P:Program}{w:World}{K:PySem.W.Frag}{mg:Str->Option Value}{base:Heap}{j k:Nat}{x:Str}{ps:List Str}{sp:Sp}{dvs:List V}(G:P6 P w K mg base j x ps sp dvs)(h:j≤k):P6 P w K mg base k x ps sp dvs:=by
 obtain⟨f,fd,ds,a,b,v,c,d⟩:=G.ex
 exact⟨f,fd,ds,a.mono h,b,v,c,d⟩
theorem y6c{X:Cx}{k:Nat}{x:Str}{ps:List Str}{sp:Sp}{dvs:List V}{e:Expr}{es:List Expr}{t:TA}{p pos:Pos}(G:P6 X.prog X.w X.K X.mg X.base k x ps sp dvs)(hr:C5 k X.A)(hg:Gl X x)(ha:PA X (e::es) t)
  (hdb:(x == ("__debug__":Str))=false:=by decide) (he:starEach (e::es) X.env=(false,eval e X.env)::starEach es X.env:=by rfl) (hpl:(backTo pos (starEach es X.env)).any (·.1)=false:=by rfl) :
  PE X (.Call (.Name x p) (e::es) [] pos) (y5P sp dvs E0 t):=by
 obtain⟨f,fd,ds,a,b,v,c,d⟩:=G.ex
 exact y3I a hr hg d c b v y1y ha hdb he hpl
structure K6(P:Program)(w:World)(K:PySem.W.Frag)(mg:Str->Option Value)(base:Heap)(k:Nat)(C:Addr)(m:Str)(ps:List Str)(sp:Sp)(dvs:List V):Prop where
 cl:Cls K C
 ex:∃(f:Addr) (fd:FuncData) (ds:List Value),A7 P w K mg base CX0 k f fd ps sp/\z1J K fd ps ds/\Vals dvs ds/\Meth K C m f
theorem K6.mk'{P:Program}{w:World}{K:PySem.W.Frag}{mg:Str->Option Value}{base:Heap}{k:Nat}{C:Addr}{m:Str}{ps:List Str}{sp:Sp}{dvs:List V}{ds:List Value}{f:Addr}{fd:FuncData}(v:Vals dvs ds)(c:Cls K C)(a:A7 P w K mg base CX0 k f fd ps sp)(b:z1J K fd ps ds)(d:Meth K C m f) :
  K6 P w K mg base k C m ps sp dvs:=⟨c,f,fd,ds,a,b,v,d⟩
theorem K6.mono{P:Program}{w:World}{K:PySem.W.Frag}{mg:Str->Option Value}{base:Heap}{j k:Nat}{C:Addr}{m:Str}{ps:List Str}{sp:Sp}{dvs:List V}(G:K6 P w K mg base j C m ps sp dvs)(h:j≤k):K6 P w K mg base k C m ps sp dvs:=by
 obtain⟨f,fd,ds,a,b,v,c⟩:=G.ex
 exact⟨G.cl,f,fd,ds,a.mono h,b,v,c⟩
theorem z9b{X:Cx}{k:Nat}{C:Addr}{m:Str}{ps:List Str}{sp:Sp}{dvs:List V}{o e:Expr}{es:List Expr}{ta:TE}{t:TA}{pos apos:Pos}{pl:Sem Bool}(G:K6 X.prog X.w X.K X.mg X.base k C m ps sp dvs)(hr:C5 k X.A)(he:PE X o ta)(ha:PA X (e::es) t)
  (hst:starEach (e::es) X.env=(false,eval e X.env)::starEach es X.env:=by rfl) (hpl:(backTo pos (starEach es X.env)).any (·.1)=false:=by rfl)
  (ht:eval (.Call (.Attribute o m apos) (e::es) [] pos) X.env=(do
   let ov <- eval o X.env
   standAt apos.atName
   let (f,first) <- holding [ov] (getMethod ov m pl)
   callWith pos f first (backTo pos (starEach (e::es) X.env)) (backToKw pos (keywordEach [] X.env))):=by rfl) :
  PE X (.Call (.Attribute o m apos) (e::es) [] pos) (y2w C m sp dvs E0 ta t):=by
 obtain⟨f,fd,ds,a,b,v,d⟩:=G.ex
 exact y3S he G.cl d a hr b v y1y ha hst hpl ht
end L2
namespace HT
open PySem PySem.Spec PyProof.Rows L2
section
variable{prog:Program}{w:World}{A:Around}{E:Value->Shared->Prop}{s:Shared}
theorem z5Y{t sl:Addr}{items:Array Value}{vl vu:Value}{lo hi:Option Int}{Q:Value->Shared->Prop}(ht:IsTup s.heap t items)(hs:s.heap.IsSliceOf sl vl vu .none)(pl:IsPart vl lo)(pu:IsPart vu hi)
  (hw:sIx items.size 0 lo=0/\sIx items.size items.size hi=items.size) (h:Q (.ref t) s):wpAny (model prog w) A (getItem (.ref t) (.ref sl)) Q E s:=by
 obtain⟨os,hos,hcs,hds⟩:=id hs
 have hTs:s.TypeIs (.ref sl) "slice":=⟨os,hos,hcs⟩
 unfold getItem
 try with_reducible refine wpAny_holding ?_
 first|refine wpAny_bind (wpAny_pure ?_)|skip
 refine wpAny_bind (wpAny_sequenceKey ht.typeIs (by decide) ?_)
 refine wpAny_bind (wpAny_callSpecial?_slot (name:=Str.ofString "__getitem__") ht.typeIs dD
  (wpAny_call_entry dD ht.typeIs entry_tuple_getitem ?_ (args_tuple_getitem _ _)))
 show wpAny _ _ (Builtin.Tuple.tupleItemsOf (.ref t) >>= _) _ _ s
 refine wpAny_bind (tupleItemsOf_ ht ?_)
 refine wpAny_bind (wpAny_typeOf hTs ?_)
 rw[if_pos (by decide)]
 refine wpAny_bind (z3E hs pl pu ?_)
 have hyes:(((sIx items.size 0 lo:Nat):Int) == 0 && (1:Int) == 1 && (sIx items.size items.size hi-sIx items.size 0 lo) == items.size)=true:=by
  rw[hw.1,hw.2]
  simp
 show wpAny _ _ (if (((sIx items.size 0 lo:Nat):Int) == 0 && (1:Int) == 1 && (sIx items.size items.size hi-sIx items.size 0 lo) == items.size)=true then _ else _) _ _ s
 rw[if_pos hyes]
 refine wpAny_bind (m:=Builtin.Tuple.tupleIsExact _) (wpAny_bind (wpAny_typeOf ht.typeIs (wpAny_pure ?_)))
 rw[if_pos (by decide)]
 refine wpAny_bind (wpAny_rule ?_)
 exact wpAny_pure ⟨_,rfl,wpAny_pure h⟩
end
end HT
namespace L2
open PySem PySem.Spec PyProof.Rows
def z3c:List V->List V->Bool
 | [],[]=>true
 | x::xs,y::ys=>eqV x y && z3c xs ys
 | _,_=>false
theorem y0M:∀xs ys:List V,((List.range (min xs.length ys.length)).all (fun j=>eqV (xs.getD j .non) (ys.getD j .non)) && xs.length == ys.length)=z3c xs ys
 | [],[]=>rfl
 | [],_::_=>rfl
 | _::_,[]=>rfl
 | x::xs,y::ys=>by
  have ih:=y0M xs ys
  unfold z3c
  rw[<- ih,cC,cC,Nat.succ_min_succ,List.range_succ_eq_map,fV,jL,Bool.and_assoc]
  congr 1
  congr 1
  rw[dL]
  simp
theorem z8C:∀{x:V},z1V x=true->eqV x x=true:=fun {x} h=>by
 cases x with
 | non=>rfl
 | bl b=>exact beq_self_eq_true b
 | int i=>exact beq_self_eq_true i
 | str z=>exact beq_self_eq_true z
 | _=>exact absurd (show false=true from h) bF
theorem z8u:∀{xs:List V},xs.all z1V=true->z3c xs xs=true
 | [],_=>rfl
 | x::xs,h=>by
  rw[fV,bQ] at h
  unfold z3c
  rw[z8C h.1,z8u h.2]
  rfl
theorem y0B:∀{xs:List V}{us:List Value},Vals xs us->xs.all z1V=true->∀(j:Nat) (h:j<us.length),RelV (xs.getD j .non) us[j]/\z1V (xs.getD j .non)=true
 | _,_,.nil,_,j,h=>absurd h (fB _)
 | x::xs,u::us,.cons r t,f,0,h=>by
  rw[fV,bQ] at f
  exact⟨r,f.1⟩
 | x::xs,u::us,.cons r t,f,j+1,h=>by
  rw[fV,bQ] at f
  exact y0B t f.2 j (Nat.lt_of_succ_lt_succ h)
def eqI:List Value->List V->Bool
 | [],[]=>true
 | u::us,x::xs=>eqU x u && eqI us xs
 | _,_=>false
theorem y3a:∀{ys:List V}{us:List Value} (xs:List V),Vals ys us->ys.all z1V=true->eqI us xs=z3c ys xs
 | _,_,[],.nil,_=>rfl
 | _,_,_::_,.nil,_=>rfl
 | y::ys,u::us,[],.cons r t,f=>rfl
 | y::ys,u::us,x::xs,.cons r t,f=>by
  rw[fV,bQ] at f
  unfold eqI z3c
  rw[y46 r f.1,y3a xs t f.2]
section
variable{X:Cx}
theorem y36{A:Around}{s:Shared}{a b:Addr}{its L6:List Value}{xs ys:List V}(pl:s.heap.IsTuple a its.toArray)(pl2:s.heap.IsTuple b L6.toArray)(r:Vals xs its)(r2:Vals ys L6)(f:xs.all z1V=true)(f2:ys.all z1V=true)(hu:A.units<cLine) :
  SeqAt.RcAt A s (.ref a) (.ref b) (z3c xs ys):=by
 have h:=SeqAt.RcAt.tuples (e:=fun j=>eqV (xs.getD j .non) (ys.getD j .non)) pl pl2 hu fun j h1 h2=>by
  rw[bK] at h1 h2
  obtain⟨q1,q2⟩:=y0B r f j h1
  obtain⟨q3,q4⟩:=y0B r2 f2 j h2
  exact y5j q1 q3 q2 q4
 rw[bK,bK,<- r.length,<- r2.length,y0M] at h
 exact h
def rEqT(K:PySem.W.Frag):R2:=fun x y H Q=>∃a b xs ys,x=.ref a/\y=.ref b/\SqT K H a xs/\SqT K H b ys/\xs.all z1V=true/\ys.all z1V=true/\Q (.bl (z3c xs ys)) H
theorem y79(hu:X.A.units<cLine):OpR X (compareOp .Eq) (rEqT X.K):=by
 intro pins s σ H x y v u Q I rx ry h
 obtain⟨a,b,xs,ys,rfl,rfl,ha,hb,f1,f2,q⟩:=h
 cases rx
 cases ry
 obtain⟨its,r,pl,hz⟩:=I.tuple ha
 obtain⟨L6,r2,pl2,hz2⟩:=I.tuple hb
 exact y36 pl pl2 r r2 f1 f2 hu X.prog X.w X.xe _ ⟨.bl _,H,I,rfl,q⟩
def z3v(s:Shared)(xs:List V):Value->Bool
 | .ref b=>match s.heap.get? b with
  | some o=>match o.data with
   | .seq its _=>eqI its.toList xs
   | _=>false
  | none=>false
 | _=>false
def y5Y(K:PySem.W.Frag):R2:=fun x y H Q=>∃a p xs us yss,x=.ref a/\y=.ref p/\SqT K H a xs/\xs.all z1V=true/\SqL K H p us/\Paired (fun u ys=>∃b,u=.ref b/\SqT K H b ys/\ys.all z1V=true) us yss/\Q (.bl (!yss.any fun ys=>z3c ys xs)) H
theorem y3O(hu:X.A.units+1<cLine):OpR X (compareOp .NotIn) (y5Y X.K):=by
 intro pins s σ H x y v u Q I rx ry h
 obtain⟨a,p,xs,us,yss,rfl,rfl,ha,f1,hp,pr,q⟩:=h
 cases rx
 cases ry
 obtain⟨its,r,pl,hz⟩:=I.tuple ha
 obtain⟨L6,r2,pl2,hz2⟩:=I.list hp
 have item:∀(b:Addr) (ys:List V),SqT X.K H b ys->ys.all z1V=true->z3v s xs (.ref b)=z3c ys xs/\SeqAt.EqAt X.A.in1 s (.ref b) (.ref a) (z3c ys xs):=fun b ys hb fb=>by
  obtain⟨its3,r3,pl3,hz3⟩:=I.tuple hb
  have e1:z3v s xs (.ref b)=z3c ys xs:=by
   obtain⟨o,ho,hc,n,hd⟩:=pl3
   unfold z3v
   simp only[ho,hd]
   exact y3a xs r3 fb
  refine⟨e1,?_⟩
  by_cases hne:b=a
  ·subst hne
   have e2:z3c ys xs=true:=by
    rw[<- e1]
    obtain⟨o,ho,hc,n,hd⟩:=pl
    unfold z3v
    simp only[ho,hd]
    rw[y3a xs r f1]
    exact z8u f1
   rw[e2]
   exact SeqAt.EqAt.same _
  ·exact SeqAt.EqAt.of_refs hne (y36 pl3 pl r3 r fb f1 hu)
 have all:∀{us:List V}{yss:List (List V)}{vs:List Value},Paired (fun u ys=>∃b,u=.ref b/\SqT X.K H b ys/\ys.all z1V=true) us yss->Vals us vs->vs.any (z3v s xs)=yss.any (fun ys=>z3c ys xs)/\∀v∈vs,SeqAt.EqAt X.A.in1 s v (.ref a) (z3v s xs v):=by
  intro us yss vs pr
  induction pr generalizing vs with
  | nil=>
   intro r
   cases r
   exact⟨rfl,fun v hv=>(nomatch hv)⟩
  | cons h t ih=>
   intro r
   cases r with
   | cons r1 rt=>
    obtain⟨b,rfl,hb,fb⟩:=h
    cases r1
    obtain⟨i1,i2⟩:=ih rt
    obtain⟨j1,j2⟩:=item b _ hb fb
    refine⟨by rw[fW,fW,i1,j1],fun v hv=>?_⟩
    rcases bA.mp hv with rfl|hv
    ·rw[j1];exact j2
    ·exact i2 v hv
 obtain⟨a1,a2⟩:=all pr r2
 refine SeqAt.notIn_listAt (z3v s xs) pl2.isList (fun w hw=>a2 w (by simpa using hw)) ⟨.bl _,H,I,rfl,?_⟩
 rw[show L6.toArray.any (z3v s xs)=L6.any (z3v s xs) by simp,a1]
 exact q
end
def rSlA(K:PySem.W.Frag):V->Option Int->Option Int->Hp->VK->Prop:=fun x lo hi H Q=>∃a xs,x=.ref a/\SqT K H a xs/\((HT.sIx xs.length 0 lo=0/\HT.sIx xs.length xs.length hi=xs.length)->Q (.ref a) H)/\
 (¬(HT.sIx xs.length 0 lo=0/\HT.sIx xs.length xs.length hi=xs.length)->∀p,H p=none->Q (.ref p) (upd H p (.tup (P5 xs lo hi))))
theorem y66{X:Cx}:SlR X (rSlA X.K):=by
 intro pins s σ H x v vl vu lo hi sl Q I rx hs pl pu h
 obtain⟨a,xs,rfl,hx,q1,q2⟩:=h
 by_cases hw:HT.sIx xs.length 0 lo=0/\HT.sIx xs.length xs.length hi=xs.length
 ·cases rx
  obtain⟨its,r,ht,hz⟩:=I.tuple hx
  have hlen:its.toArray.size=xs.length:=by rw[bK];exact r.length.symm
  exact⟨"tuple",_,dD.lookup,ht.typeIs,HT.z5Y ht hs pl pu (by rw[hlen];exact hw) ⟨.ref a,H,I,rfl,q1 hw⟩⟩
 ·exact y5E pins s σ H (.ref a) v vl vu lo hi sl Q I rx hs pl pu ⟨a,xs,rfl,hx,hw,q2 hw⟩
section
variable{X:Cx}{tg:Expr}
end
def tCut(t u:TS):TS:=fun D σ H=>∃W:St->Hp->Prop,t { D with nx:=W } σ H/\∀σ' H',W σ' H'->u D σ' H'
theorem y5M{X:Cx}{st:Stmt}{rest:List Stmt}{t u:TS}(h1:PS X st t)(h2:PSs X rest u):PSs X (st::rest) (tCut t u):=by
 intro pins s σ H D I h
 obtain⟨W,h,hw⟩:=h
 refine wpAny_execs_cons (thn (h1 pins s σ H { D with nx:=W } I h) fun f s1 q=>?_)
 cases f with
 | next=>
  obtain⟨σ',H',I',q⟩:=q
  exact h2 pins s1 σ' H' D I' (hw σ' H' q)
 | ret v=>exact q
 | brk=>exact q
 | cont=>exact q
end L2
namespace HT
open PySem PySem.Spec PyProof.Rows L2
section
variable{prog:Program}{w:World}{A:Around}{E:Value->Shared->Prop}{s:Shared}
end
end HT
namespace L2
open PySem PySem.Spec PyProof.Rows
section
variable{X:Cx}
theorem z2I(zs:List Str):(zs.map V.str).all z1V=true:=by
 rw[jL,jM]
 intro z _
 rfl
end
def DfK(K:PySem.W.Frag)(x q:Str)(st:Stmt)(dV:Value)(f:Addr):Prop:=∃(oc:Value) (od:Option Addr) (kV doc pm:Value) (an:Option Addr) (cdv ct:Value) (osl:Array (Option Value)),
 K.lookup f=some ⟨oc,od,.func (PySem.W.fnOf x q (z1x st) (z1e st) (z07 st) dV kV doc pm an cdv ct),osl⟩/\PySem.W.codeIn K cdv q=true/\PySem.W.keepIn K (.ref f)=true
def DfT(K:PySem.W.Frag)(x:Str)(st:Stmt)(dV:Value)(f:Addr):Prop:=PySem.W.nsIn K mainGlobals x=some (some (.ref f))/\DfK K x x st dV f
def DfM(K:PySem.W.Frag)(C:Addr)(x q:Str)(st:Stmt)(dV:Value)(f:Addr):Prop:=PySem.W.findIn K (.ref C) x=some (some (.ref f))/\PySem.W.isFn K (.ref f)=true/\DfK K x q st dV f
def DfD(K:PySem.W.Frag)(T:Addr)(its:Array Value):Prop:=∃oct odt nt slt,K.lookup T=some ⟨oct,odt,.seq its nt,slt⟩
def DfC(K:PySem.W.Frag)(x:Str)(C:Addr):Prop:=PySem.W.nsIn K mainGlobals x=some (some (.ref C))/\PySem.W.plainGet K C Str.empty=true/\PySem.W.hasDictIn K C=true/\PySem.W.plainOver K C=true/\PySem.W.findIn K (.ref C) "__setattr__"=some (some (.builtin "object.__setattr__"))/\PySem.W.makesIn K C=true/\PySem.W.keepIn K (.ref C)=true
section
variable{K:PySem.W.Frag}{mg:Str->Option Value}{x q:Str}{st:Stmt}{f C T:Addr}{fd:FuncData}{its:Array Value}
theorem DfK.fn(h:DfK K x q st .none f):∃fd,Fun K x q st f fd:=by
 obtain⟨oc,od,kV,doc,pm,an,cdv,ct,osl,l,c,k⟩:=h
 exact⟨_,y7d l c k⟩
theorem DfK.fnD(h:DfK K x q st (.ref T) f)(d:DfD K T its):∃fd,Q1 K x q st f fd T its:=by
 obtain⟨oc,od,kV,doc,pm,an,cdv,ct,osl,l,c,k⟩:=h
 obtain⟨_,_,_,_,d⟩:=d
 exact⟨_,y62 l d c k⟩
theorem z0C{h:Heap}(X:K.In h)(G:h.Ns mainGlobals mg)(a:DfT K x st .none f):∃fd,Fun K x x st f fd/\mg x=some (.ref f):=by
 obtain⟨fd,F⟩:=a.2.fn
 exact⟨fd,F,dE X G a.1⟩
theorem y6y{h:Heap}(X:K.In h)(G:h.Ns mainGlobals mg)(a:DfT K x st (.ref T) f)(d:DfD K T its):∃fd,Q1 K x x st f fd T its/\mg x=some (.ref f):=by
 obtain⟨fd,F⟩:=a.2.fnD d
 exact⟨fd,F,dE X G a.1⟩
theorem z1A(a:DfM K C x q st .none f):∃fd,Fun K x q st f fd/\Meth K C x f:=by
 obtain⟨fd,F⟩:=a.2.2.fn
 exact⟨fd,F,a.1,a.2.1,F.kp⟩
theorem y4e(a:DfM K C x q st (.ref T) f)(d:DfD K T its):∃fd,Q1 K x q st f fd T its/\Meth K C x f:=by
 obtain⟨fd,F⟩:=a.2.2.fnD d
 exact⟨fd,F,a.1,a.2.1,F.kp⟩
theorem y0y{y:Str}(c:DfC K y C)(a:DfM K C "__init__" q st .none f):∃fd,Fun K "__init__" q st f fd/\Mk K C f:=by
 obtain⟨fd,F⟩:=a.2.2.fn
 exact⟨fd,F,c.2.2.2.2.2.1,a.1,a.2.1,c.2.2.2.2.2.2⟩
theorem DfC.cls{y:Str}(c:DfC K y C):Cls K C:=⟨c.2.1,c.2.2.1,c.2.2.2.1,c.2.2.2.2.1⟩
theorem DfC.nm{h:Heap}(X:K.In h)(G:h.Ns mainGlobals mg){y:Str}(c:DfC K y C):mg y=some (.ref C):=dE X G c.1
theorem y30{p:Str}(F:Fun K x q st f fd)(h:∀kV doc pm an cdv ct v,bindArgs (PySem.W.fnOf x q (z1x st) (z1e st) (z07 st) .none kV doc pm an cdv ct) ⟨[v],[]⟩=pure [(p,v)]:=by intros;rfl):∀(s:Shared) (v:Value),BindsTo s fd ⟨[v],[]⟩ [(p,v)]:=by
 obtain⟨oc,od,kV,doc,pm,an,cdv,ct,osl,rfl,l,c⟩:=F.ex
 exact fun s v=>.of_eq (h _ _ _ _ _ _ _)
theorem b0(F:Fun K x q st f fd)(h:∀kV doc pm an cdv ct,bindArgs (PySem.W.fnOf x q (z1x st) (z1e st) (z07 st) .none kV doc pm an cdv ct) ⟨[],[]⟩=pure (List.zip [] []):=by intros;rfl):z1J K fd [] []:=
 F.binds fun kV doc pm an cdv ct us hl=>len0 (p:=fun us=>bindArgs _ ⟨us,[]⟩=pure (List.zip _ us)) hl (h kV doc pm an cdv ct)
theorem b1{p1:Str}(F:Fun K x q st f fd)(h:∀kV doc pm an cdv ct a,bindArgs (PySem.W.fnOf x q (z1x st) (z1e st) (z07 st) .none kV doc pm an cdv ct) ⟨[a],[]⟩=pure (List.zip [p1] [a]):=by intros;rfl):z1J K fd [p1] []:=
 F.binds fun kV doc pm an cdv ct us hl=>Q3 (p:=fun us=>bindArgs _ ⟨us,[]⟩=pure (List.zip _ us)) hl (h kV doc pm an cdv ct)
theorem b2{p1 p2:Str}(F:Fun K x q st f fd)(h:∀kV doc pm an cdv ct a b,bindArgs (PySem.W.fnOf x q (z1x st) (z1e st) (z07 st) .none kV doc pm an cdv ct) ⟨[a,b],[]⟩=pure (List.zip [p1,p2] [a,b]):=by intros;rfl):z1J K fd [p1,p2] []:=
 F.binds fun kV doc pm an cdv ct us hl=>T7 (p:=fun us=>bindArgs _ ⟨us,[]⟩=pure (List.zip _ us)) hl (h kV doc pm an cdv ct)
theorem b3{p1 p2 p3:Str}(F:Fun K x q st f fd)(h:∀kV doc pm an cdv ct a b c,bindArgs (PySem.W.fnOf x q (z1x st) (z1e st) (z07 st) .none kV doc pm an cdv ct) ⟨[a,b,c],[]⟩=pure (List.zip [p1,p2,p3] [a,b,c]):=by intros;rfl):z1J K fd [p1,p2,p3] []:=
 F.binds fun kV doc pm an cdv ct us hl=>w06 (p:=fun us=>bindArgs _ ⟨us,[]⟩=pure (List.zip _ us)) hl (h kV doc pm an cdv ct)
theorem b4{p1 p2 p3 p4:Str}(F:Fun K x q st f fd)(h:∀kV doc pm an cdv ct a b c d,bindArgs (PySem.W.fnOf x q (z1x st) (z1e st) (z07 st) .none kV doc pm an cdv ct) ⟨[a,b,c,d],[]⟩=pure (List.zip [p1,p2,p3,p4] [a,b,c,d]):=by intros;rfl):z1J K fd [p1,p2,p3,p4] []:=
 F.binds fun kV doc pm an cdv ct us hl=>len4 (p:=fun us=>bindArgs _ ⟨us,[]⟩=pure (List.zip _ us)) hl (h kV doc pm an cdv ct)
theorem b5{p1 p2 p3 p4 p5:Str}(F:Fun K x q st f fd)(h:∀kV doc pm an cdv ct a b c d e,bindArgs (PySem.W.fnOf x q (z1x st) (z1e st) (z07 st) .none kV doc pm an cdv ct) ⟨[a,b,c,d,e],[]⟩=pure (List.zip [p1,p2,p3,p4,p5] [a,b,c,d,e]):=by intros;rfl):z1J K fd [p1,p2,p3,p4,p5] []:=
 F.binds fun kV doc pm an cdv ct us hl=>len5 (p:=fun us=>bindArgs _ ⟨us,[]⟩=pure (List.zip _ us)) hl (h kV doc pm an cdv ct)
theorem b6{p1 p2 p3 p4 p5 p6:Str}(F:Fun K x q st f fd)(h:∀kV doc pm an cdv ct a b c d e g,bindArgs (PySem.W.fnOf x q (z1x st) (z1e st) (z07 st) .none kV doc pm an cdv ct) ⟨[a,b,c,d,e,g],[]⟩=pure (List.zip [p1,p2,p3,p4,p5,p6] [a,b,c,d,e,g]):=by intros;rfl):z1J K fd [p1,p2,p3,p4,p5,p6] []:=
 F.binds fun kV doc pm an cdv ct us hl=>len6 (p:=fun us=>bindArgs _ ⟨us,[]⟩=pure (List.zip _ us)) hl (h kV doc pm an cdv ct)
end
theorem calF(P:Program)(w:World)(K:PySem.W.Frag)(mg:Str->Option Value)(base:Heap){k:Nat}{x:Str}{ps:List Str}{sp:Sp}{st:Stmt}{f:Addr}{fd:FuncData}(F:Fun K x x st f fd/\mg x=some (.ref f))(a:A7 P w K mg base CX0 k f fd ps sp)(b:z1J K fd ps []):Cal P w K mg base k x ps sp:=.mk' a b F.1.kp F.2
theorem mclF(P:Program)(w:World)(K:PySem.W.Frag)(mg:Str->Option Value)(base:Heap){k:Nat}{C:Addr}{x q:Str}{ps:List Str}{sp:Sp}{st:Stmt}{f:Addr}{fd:FuncData}(c:Cls K C)(F:Fun K x q st f fd/\Meth K C x f)(a:A7 P w K mg base CX0 k f fd ps sp)(b:z1J K fd ps []):D0 P w K mg base k C x ps sp:=.mk' c a b F.2
theorem mkrF(P:Program)(w:World)(K:PySem.W.Frag)(mg:Str->Option Value)(base:Heap){k:Nat}{C:Addr}{x y q:Str}{ps:List Str}{sp:Sp}{st:Stmt}{f:Addr}{fd:FuncData}(c:mg x=some (.ref C))(F:Fun K y q st f fd/\Mk K C f)(a:A7 P w K mg base CX0 k f fd ps sp)(b:z1J K fd ps []):Mkr P w K mg base k C x ps sp:=.mk' a b F.2 c
theorem scp{N P:List Str}{sc:Scope}(h1:sc.kind=.function:=by rfl)(h2:sc.isCoroutine=false:=by rfl)(h3:sc.isGenerator=false:=by rfl)(h4:N.Nodup:=by decide +kernel)(h5:N.take P.length=P:=by rfl)
  (h6:∀x∈P,sc.names.lookup x=some .local\/sc.names.lookup x=some .cell:=by decide +kernel) (h7:∀y∈sc.names,y.2≠.free:=by decide +kernel):A2 N P sc:=⟨h1,h2,h3,h4,h5,h6,h7⟩
theorem rm{j k:Nat}{A:Around}(r:C5 k A)(h:j≤k:=by omega):C5 j A:=r.mono h
theorem Cal.up{P:Program}{w:World}{K:PySem.W.Frag}{mg:Str->Option Value}{base:Heap}{j k:Nat}{x:Str}{ps:List Str}{sp:Sp}(G:Cal P w K mg base j x ps sp)(h:j≤k:=by decide):Cal P w K mg base k x ps sp:=G.mono h
theorem P6.up{P:Program}{w:World}{K:PySem.W.Frag}{mg:Str->Option Value}{base:Heap}{j k:Nat}{x:Str}{ps:List Str}{sp:Sp}{d:List V}(G:P6 P w K mg base j x ps sp d)(h:j≤k:=by decide):P6 P w K mg base k x ps sp d:=G.mono h
theorem D0.up{P:Program}{w:World}{K:PySem.W.Frag}{mg:Str->Option Value}{base:Heap}{j k:Nat}{C:Addr}{x:Str}{ps:List Str}{sp:Sp}(G:D0 P w K mg base j C x ps sp)(h:j≤k:=by decide):D0 P w K mg base k C x ps sp:=G.mono h
theorem K6.up{P:Program}{w:World}{K:PySem.W.Frag}{mg:Str->Option Value}{base:Heap}{j k:Nat}{C:Addr}{x:Str}{ps:List Str}{sp:Sp}{d:List V}(G:K6 P w K mg base j C x ps sp d)(h:j≤k:=by decide):K6 P w K mg base k C x ps sp d:=G.mono h
theorem Mkr.up{P:Program}{w:World}{K:PySem.W.Frag}{mg:Str->Option Value}{base:Heap}{j k:Nat}{C:Addr}{x:Str}{ps:List Str}{sp:Sp}(G:Mkr P w K mg base j C x ps sp)(h:j≤k:=by decide):Mkr P w K mg base k C x ps sp:=G.mono h
section
variable{X:Cx}{mg:Str->Option Value}
end
end L2
namespace HT
open PySem PySem.Spec PyProof.Rows L2
section
variable{prog:Program}{w:World}{A:Around}{E:Value->Shared->Prop}{s:Shared}
end
end HT
namespace L2
open PySem PySem.Spec PyProof.Rows
section
variable{X:Cx}{es:List Expr}{ec:Nat}{tp:Pos}
end
section
variable{X:Cx}
end
end L2
namespace My
open PySem L2
def top(i:Nat):Stmt:=PySem.Challenge.pw_backissues_k39_whole_catch_up.main.body.getD i (.Pass ⟨0,0,0,0⟩)
abbrev z2o:Stmt:=top 1
abbrev z4P:Stmt:=top 2
abbrev z5N:Stmt:=top 3
abbrev z1v:Stmt:=top 4
abbrev z3y:Stmt:=top 5
abbrev z1G:Stmt:=top 6
abbrev z1Z:Stmt:=top 27
abbrev z20:Stmt:=top 28
abbrev z2D:Stmt:=top 29
abbrev z1F:Stmt:=top 30
abbrev z7E:Stmt:=top 35
abbrev z2Z:Stmt:=top 36
abbrev z8x:Stmt:=top 37
abbrev z5r:Stmt:=top 38
abbrev z7r:Stmt:=top 39
abbrev z2H:Stmt:=top 40
abbrev z5t:Stmt:=top 41
abbrev z2A:Stmt:=top 43
abbrev z7B:Stmt:=top 44
abbrev z7H:Stmt:=top 46
abbrev z27:Stmt:=top 48
abbrev z2p:Stmt:=top 49
abbrev z30:Stmt:=top 50
abbrev z2T:Stmt:=top 51
abbrev z2m:Stmt:=z13 (top 52) 0
abbrev z1n:Stmt:=z13 (top 52) 1
abbrev z3k:Stmt:=z13 (top 52) 2
abbrev z36:Stmt:=z13 (top 52) 3
abbrev z3p:Stmt:=z13 (top 52) 4
abbrev z2x:Stmt:=z13 (top 54) 0
abbrev z5H:Stmt:=z13 (top 54) 1
abbrev z5E:Stmt:=z13 (top 54) 2
abbrev z3o:Stmt:=z13 (top 54) 3
abbrev z31:Stmt:=z13 (top 54) 4
abbrev z35:Stmt:=z13 (top 54) 5
abbrev z1L:Stmt:=top 58
abbrev z33:Stmt:=z13 (top 59) 0
abbrev z0V:Stmt:=z13 (top 59) 1
abbrev z15:Stmt:=z13 (top 59) 2
abbrev z4T:Stmt:=z13 (top 59) 3
abbrev z3w:Stmt:=z13 (top 59) 4
abbrev z3L:Stmt:=z13 (top 59) 5
abbrev z4A:Stmt:=z13 (top 59) 6
abbrev z4y:Stmt:=z13 (top 59) 7
abbrev z60:Stmt:=z13 (top 59) 8
abbrev z4L:Stmt:=z13 (top 59) 9
abbrev z8Q:Stmt:=top 61
abbrev z5Z:Stmt:=top 62
abbrev z7s:Stmt:=top 63
abbrev z4x:Stmt:=top 64
abbrev z4f:Stmt:=top 65
abbrev z4E:Stmt:=top 66
abbrev z3r:Stmt:=top 67
abbrev z5O:Stmt:=top 68
abbrev z4Q:Stmt:=top 69
abbrev z3M:Stmt:=top 70
abbrev z6X:Stmt:=top 71
abbrev z42:Stmt:=top 72
abbrev z5x:Stmt:=top 73
abbrev z5P:Stmt:=top 74
abbrev z4D:Stmt:=top 75
abbrev z4M:Stmt:=top 76
abbrev z4w:Stmt:=top 77
abbrev z3u:Stmt:=top 78
abbrev z5X:Stmt:=top 79
abbrev z3S:Stmt:=top 80
abbrev Y2:Stmt:=top 81
abbrev z2k:List Str:=["had"]
abbrev z4O:List Str:=["number","reach"]
abbrev z61:List Str:=["had","number","reach"]
abbrev z10:List Str:=["had","reach"]
abbrev z3x:List Str:=["had","reach"]
abbrev z18:List Str:=["had","reach","behind"]
abbrev z24:List Str:=["names"]
abbrev z25:List Str:=["reach"]
abbrev z1U:List Str:=["names","reach"]
abbrev z17:List Str:=["names","name"]
abbrev z3a:List Str:=["shelf","name"]
abbrev z2Y:List Str:=["shelf","number","teller"]
abbrev z8G:List Str:=["shelf"]
abbrev z4e:List Str:=["shelf","name"]
abbrev z5i:List Str:=["shelf","name"]
abbrev z2F:List Str:=["shelf","name"]
abbrev z5B:List Str:=["shelf"]
abbrev z2C:List Str:=["had","reach","behind"]
abbrev z43:List Str:=["shelf","name"]
abbrev z7g:List Str:=["sets","reach"]
abbrev z22:List Str:=["value"]
abbrev z2l:List Str:=["names","rows"]
abbrev z2R:List Str:=["names","rows"]
abbrev z2V:List Str:=["rows"]
abbrev z2q:List Str:=["self","names","reach"]
abbrev z0W:List Str:=["self","rows"]
abbrev z3t:List Str:=["self","rows"]
abbrev z2W:List Str:=["self"]
abbrev z1O:List Str:=["self","number"]
abbrev z2y:List Str:=["self","names","reach"]
abbrev z5A:List Str:=["self","issue"]
abbrev z23:List Str:=["self"]
abbrev z57:List Str:=["self"]
abbrev z34:List Str:=["self","number"]
abbrev z2X:List Str:=["self","number"]
abbrev z1K:List Str:=["readers"]
abbrev z32:List Str:=["self","names","reach","readers"]
abbrev z0I:List Str:=["self","reader"]
abbrev z0S:List Str:=["self"]
abbrev z4J:List Str:=["self","rows"]
abbrev z3q:List Str:=["self","reader","number"]
abbrev z64:List Str:=["self"]
abbrev z77:List Str:=["self","number"]
abbrev z6J:List Str:=["self"]
abbrev z8e:List Str:=["self","which"]
abbrev z2J:List Str:=["self","reader","deed"]
abbrev z6C:List Str:=["_law_script","_law_k"]
abbrev z4g:List Str:=["_law_cell","_law_size"]
abbrev z3P:List Str:=["_law_cell","_law_many","_law_size"]
abbrev z4z:List Str:=["_law_found"]
abbrev z28:List Str:=["_law_found","_law_due"]
abbrev z4B:List Str:=["_law_cell","_law_many"]
abbrev z3l:List Str:=["_law_times"]
abbrev z5v:List Str:=["_law_names","_law_cell","_law_many"]
abbrev z4R:List Str:=["_law_figure","_law_place"]
abbrev z45:List Str:=["_law_sets_here","_law_cell"]
abbrev z7q:List Str:=["_law_cell","_law_many"]
abbrev z3N:List Str:=["_law_had_here","_law_number","_law_reach"]
abbrev z5D:List Str:=["_law_had_here","_law_rows","_law_reach"]
abbrev z5Q:List Str:=["_law_had_here","_law_rows","_law_name"]
abbrev z4V:List Str:=["_law_gaps_here","_law_number","_law_name"]
abbrev z4I:List Str:=["_law_gaps_here","_law_number","_law_name"]
abbrev z4C:List Str:=["_law_names","_law_had_here","_law_rows","_law_reach"]
abbrev z3m:List Str:=["_law_script","_law_names"]
abbrev z5M:List Str:=["_law_rows","_law_latest","_law_name"]
abbrev z3O:List Str:=["_law_shelf","_law_table_here","_law_latest","_law_had_here"]
abbrev plaw:List Str:=["_law_script"]
theorem z37:A2 ["had","latest"] z2k (z07 z2o):=scp
theorem z6k:A2 ["number","reach"] z4O (z07 z4P):=scp
theorem z6I:A2 ["had","number","reach","tellers"] z61 (z07 z5N):=scp
theorem z1Y:A2 ["had","reach"] z10 (z07 z1v):=scp
theorem z4k:A2 ["had","reach"] z3x (z07 z3y):=scp
theorem z2i:A2 ["had","reach","behind"] z18 (z07 z1G):=scp
theorem z2O:A2 ["names"] z24 (z07 z1Z):=scp
theorem z2K:A2 ["reach"] z25 (z07 z20):=scp
theorem z3D:A2 ["names","reach"] z1U (z07 z2D):=scp
theorem z2c:A2 ["names","name"] z17 (z07 z1F):=scp
theorem z8d:A2 ["shelf","name","number","values"] z3a (z07 z7E):=scp
theorem z3V:A2 ["shelf","number","teller"] z2Y (z07 z2Z):=scp
theorem z9w:A2 ["shelf","lacking"] z8G (z07 z8x):=scp
theorem z6V:A2 ["shelf","name","held_from"] z4e (z07 z5r):=scp
theorem z81:A2 ["shelf","name","held_from","dark_behind"] z5i (z07 z7r):=scp
theorem z3F:A2 ["shelf","name"] z2F (z07 z2H):=scp
theorem z75:A2 ["shelf"] z5B (z07 z5t):=scp
theorem z3B:A2 ["had","reach","behind","fewest","apart","dark"] z2C (z07 z2A):=scp
theorem z8c:A2 ["shelf","name","asked","held_from"] z43 (z07 z7B):=scp
theorem z8n:A2 ["sets","reach","number","ahead"] z7g (z07 z7H):=scp
theorem z2N:A2 ["value"] z22 (z07 z27):=scp
theorem z3f:A2 ["names","rows","set_names","name","value"] z2l (z07 z2p):=scp
theorem z3R:A2 ["names","rows","values"] z2R (z07 z30):=scp
theorem z3W:A2 ["rows"] z2V (z07 z2T):=scp
theorem z39:A2 ["self","names","reach"] z2q (z07 z2m):=scp
theorem z1S:A2 ["self","rows"] z0W (z07 z1n):=scp
theorem z4i:A2 ["self","rows","number","sets"] z3t (z07 z3k):=scp
theorem z3K:A2 ["self"] z2W (z07 z36):=scp
theorem z4n:A2 ["self","number"] z1O (z07 z3p):=scp
theorem z3G:A2 ["self","names","reach"] z2y (z07 z2x):=scp
theorem z7h:A2 ["self","issue","number"] z5A (z07 z5H):=scp
theorem z6F:A2 ["self"] z23 (z07 z5E):=scp
theorem z4u:A2 ["self"] z57 (z07 z3o):=scp
theorem z3X:A2 ["self","number"] z34 (z07 z31):=scp
theorem z3T:A2 ["self","number"] z2X (z07 z35):=scp
theorem z2t:A2 ["readers"] z1K (z07 z1L):=scp
theorem z41:A2 ["self","names","reach","readers"] z32 (z07 z33):=scp
theorem z1p:A2 ["self","reader"] z0I (z07 z0V):=scp
theorem z1E:A2 ["self"] z0S (z07 z15):=scp
theorem z6o:A2 ["self","rows","number"] z4J (z07 z4T):=scp
theorem z4p:A2 ["self","reader","number","getting","lacked"] z3q (z07 z3w):=scp
theorem z58:A2 ["self"] z64 (z07 z3L):=scp
theorem z6f:A2 ["self","number"] z77 (z07 z4A):=scp
theorem z6p:A2 ["self"] z6J (z07 z4y):=scp
theorem z74:A2 ["self","which"] z8e (z07 z60):=scp
theorem z6d:A2 ["self","reader","deed","behind","told","past"] z2J (z07 z4L):=scp
theorem z9l:A2 ["_law_script","_law_k"] z6C (z07 z8Q):=scp
theorem z6G:A2 ["_law_cell","_law_size","_law_once"] z4g (z07 z5Z):=scp
theorem z8t:A2 ["_law_cell","_law_many","_law_size","_law_rest","_law_mixed","_law_figures","_law_k"] z3P (z07 z7s):=scp
theorem z66:A2 ["_law_found"] z4z (z07 z4x):=scp
theorem z70:A2 ["_law_found","_law_due","_law_k"] z28 (z07 z4f):=scp
theorem z62:A2 ["_law_cell","_law_many","_law_signs","_law_turn","_law_stem","_law_spot"] z4B (z07 z4E):=scp
theorem z4l:A2 ["_law_times","_law_many","_law_turn"] z3l (z07 z3r):=scp
theorem z7e:A2 ["_law_names","_law_cell","_law_many","_law_size","_law_sets_here","_law_figure","_law_mask","_law_chosen","_law_name"] z5v (z07 z5O):=scp
theorem z65:A2 ["_law_figure","_law_place"] z4R (z07 z4Q):=scp
theorem z51:A2 ["_law_sets_here","_law_cell","_law_figures","_law_rows","_law_k","_law_one","_law_place"] z45 (z07 z3M):=scp
theorem z7X:A2 ["_law_cell","_law_many","_law_flags","_law_numbers_here","_law_number","_law_jump","_law_figure"] z7q (z07 z6X):=scp
theorem z5e:A2 ["_law_had_here","_law_number","_law_reach","_law_above"] z3N (z07 z42):=scp
theorem z7M:A2 ["_law_had_here","_law_rows","_law_reach","_law_gaps_here","_law_number","_law_teller_here"] z5D (z07 z5x):=scp
theorem z6Z:A2 ["_law_had_here","_law_rows","_law_name","_law_held_here","_law_number","_law_row_here"] z5Q (z07 z5P):=scp
theorem z6a:A2 ["_law_gaps_here","_law_number","_law_name"] z4V (z07 z4D):=scp
theorem z63:A2 ["_law_gaps_here","_law_number","_law_name"] z4I (z07 z4M):=scp
theorem z6e:A2 ["_law_names","_law_had_here","_law_rows","_law_reach","_law_gaps_here","_law_table_here","_law_name","_law_held_here"] z4C (z07 z4w):=scp
theorem z4v:A2 ["_law_script","_law_names","_law_many","_law_sets_here"] z3m (z07 z3u):=scp
theorem z6Y:A2 ["_law_rows","_law_latest","_law_name","_law_last_here","_law_number","_law_row_here"] z5M (z07 z5X):=scp
theorem z53:A2 ["_law_shelf","_law_table_here","_law_latest","_law_had_here","_law_wanted_here","_law_plan","_law_one","_law_again_here","_law_number"] z3O (z07 z3S):=scp
theorem y7k:A2 ["_law_script","_law_names","_law_rows","_law_reach","_law_had_here","_law_latest","_law_book","_law_one","_law_number","_law_table_here","_law_wanted_here","_law_was","_law_due","_law_name","_law_last_here"] plaw (z07 Y2):=scp
structure F9(K:PySem.W.Frag)(mg:Str->Option Value)(C:Addr):Prop where
 cl:Cls K C
 mgC:mg "Office"=some (.ref C)
 n_names:z2z K C "names"
 n_reach:z2z K C "reach"
 n_written:z2z K C "written"
structure C4(K:PySem.W.Frag)(mg:Str->Option Value)(C:Addr):Prop where
 cl:Cls K C
 mgC:mg "Shelf"=some (.ref C)
 n_names:z2z K C "names"
 n_reach:z2z K C "reach"
 n_issues:z2z K C "issues"
structure F3(K:PySem.W.Frag)(mg:Str->Option Value)(C:Addr):Prop where
 cl:Cls K C
 mgC:mg "Book"=some (.ref C)
 n_office:z2z K C "office"
 n_readers:z2z K C "readers"
 n_done:z2z K C "done"
structure Bl(mg:Str->Option Value):Prop where
 len:mg "len"=none
 range:mg "range"=none
 tuple:mg "tuple"=none
 list:mg "list"=none
 max:mg "max"=none
 min:mg "min"=none
 sorted:mg "sorted"=none
 isinstance:mg "isinstance"=none
 bool:mg "bool"=none
 int:mg "int"=none
 str:mg "str"=none
 set:mg "set"=none
 reversed:mg "reversed"=none
 dict:mg "dict"=none
 zip:mg "zip"=none
 all:mg "all"=none
 MOST_NAMES:∃t,mg "MOST_NAMES"=some (.int 12 t)
 MOST_REACH:∃t,mg "MOST_REACH"=some (.int 10 t)
 MOST_NUMBERS:∃t,mg "MOST_NUMBERS"=some (.int 60 t)
 MOST_VALUE:∃t,mg "MOST_VALUE"=some (.int 1000000 t)
 MOST_READERS:∃t,mg "MOST_READERS"=some (.int 10 t)
 MOST_DEEDS:∃t,mg "MOST_DEEDS"=some (.int 400 t)
 SURE:∃t,mg "SURE"=some (.str "sure" t)
 STALE:∃t,mg "STALE"=some (.str "stale" t)
 OPEN:∃t,mg "OPEN"=some (.str "open" t)
 WRITE:∃t,mg "WRITE"=some (.str "write" t)
 DELIVER:∃t,mg "DELIVER"=some (.str "deliver" t)
theorem z01{H:Hp}{p:Addr}(h:H p=none)(o:HO):A4 H (upd H p o):=fun b u q=>by rw[z0e (z0l q h)];exact q
theorem z3s{H H':Hp}{l:Addr}{o:HO}(hs:A4 H H')(hl:H l=none):A4 H (upd H' l o):=fun b u e=>by rw[z0e (z0l e hl)];exact hs b u e
theorem z8V{n:Nat}(h:n≤1000):n≤sizeLine:=eY (z0g h)
theorem y08{ns:List Int}{k:Int}(h0:0≤k)(h:k<(ns.length:Int)):atI (ns.map V.int) k=some (.int (ns.getD k.toNat 0)):=by
 have hk:k.toNat<ns.length:=by omega
 have ek:k=((k.toNat:Nat):Int):=by omega
 have q:atI (ns.map V.int) ((k.toNat:Nat):Int)=some (.int (ns.getD k.toNat 0)):=z1m (by
  rw[bH,bG hk,bP,bG hk]<;>rfl)
 rw[<- ek] at q
 exact q
theorem z6A{K:PySem.W.Frag}{H H':Hp}{a:Addr}{xs:List V}(e:A4 H H')(h:SqT K H a xs):SqT K H' a xs:=by
 rcases h with (h|⟨o,h⟩)|h
 ·exact .inl (.inl (e _ _ h))
 ·exact .inl (.inr ⟨o,e _ _ h⟩)
 ·exact .inr h
theorem z0A{p:Prop}[Decidable p](h:decide p=true):p:=of_decide_eq_true h
theorem z3e{p:Prop}[Decidable p](h:¬decide p=true):¬p:=fun q=>h (decide_eq_true q)
section
variable{P:Program}{w:World}{K:PySem.W.Frag}{mg:Str->Option Value}{base:Heap}{f:Addr}{fd:FuncData}
theorem z2a:∀{l1 l2:List Int},l1.Pairwise (· < ·)->l2.Pairwise (· < ·)->(∀x,x∈l1↔x∈l2)->l1=l2
 | [],[],_,_,_=>rfl
 | [],y::_,_,_,h=>by have:=(h y).mpr bS;cases this
 | x::_,[],_,_,h=>by have:=(h x).mp bS;cases this
 | x::r,y::t,p1,p2,h=>by
  rw[fA] at p1 p2
  have e:x=y:=by
   rcases bA.mp ((h x).mp bS) with e|hx
   ·exact e
   ·rcases bA.mp ((h y).mpr bS) with e|hy
    ·exact e.symm
    ·have:=p1.1 y hy
     have:=p2.1 x hx
     omega
  subst e
  refine congrArg (x::·) (z2a p1.2 p2.2 fun z=>⟨fun hz=>?_,fun hz=>?_⟩)
  ·rcases bA.mp ((h z).mp (bM _ hz)) with e|q
   ·have:=p1.1 z hz
    omega
   ·exact q
  ·rcases bA.mp ((h z).mpr (bM _ hz)) with e|q
   ·have:=p2.1 z hz
    omega
   ·exact q
theorem z1D(lo:Int):∀n,(upI lo n).Pairwise (· < ·)
 | 0=>List.Pairwise.nil
 | n+1=>by
  rw[z5c]
  refine dO.mpr ⟨z1D lo n,fT _ _,fun x hx y hy=>?_⟩
  have h1:=z11.mp hx
  rw[b9.mp hy]
  omega
theorem y6b(lo:Int)(n:Nat):Q9 lo n=(upI lo n).map V.int:=by
 unfold Q9 upI
 rw[eJ]
 rfl
def Z6(K:PySem.W.Frag):Sp:=fun vs H Q _=>∃(a:Addr) (ns:List Int) (k:Int),vs=[.ref a,.int k]/\SqL K H a (ns.map V.int)/\0≤k/\Q (.int (ns.getD k.toNat 0)) H
theorem w0C(M:Bl mg)(F:Fun K "_law_at" "_law_at" z8Q f fd):A7 P w K mg base CX0 1 f fd z6C (Z6 K):=by
 have nd:=z9l.nd
 refine F.ok z9l (fun vs H Q E h=>?_) (fun cdv A outer s H vs Q E hr h=>?_)
 ·obtain⟨a,ns,k,rfl,_⟩:=h
  rfl
 obtain⟨a,ns,k,rfl,hS,h0,q⟩:=h
 refine⟨_,(z04 (z0R (z09 z7V (pv 1) (z0d z0f rfl M.len bW (z00 (pv 0) z03)) (z0m _)) (z05 (z0i (z0Q z1I (pv 0) (pv 1) (fun _ _=>rfl)))) z0p) (z05 (z0i z06))),?_⟩
 have hl:(ns.map V.int).length=ns.length:=b7 _
 refine⟨_,rfl,_,rfl,a,_,rfl,.inl hS,_,_,rfl,rfl,_,rfl,?_⟩
 refine A9 (fun c=>?_) (fun c=>?_)
 ·have c':=z0A c
  rw[hl] at c'
  exact⟨_,rfl,_,rfl,a,_,_,_,rfl,rfl,hS,y08 h0 c',q⟩
 ·have c':=z3e c
  rw[hl] at c'
  have e:ns.getD k.toNat 0=0:=by rw[bP,eF (by omega)];rfl
  rw[e] at q
  exact q
def y2d:Sp:=fun vs H Q _=>∃c n:Int,vs=[.int c,.int n]/\0<n/\∀r,0≤r->r<n->Q (.int r) H
theorem y5L(F:Fun K "_law_pick" "_law_pick" z5Z f fd):A7 P w K mg base CX0 1 f fd z4g y2d:=by
 have nd:=z6G.nd
 refine F.ok z6G (fun vs H Q E h=>?_) (fun cdv A outer s H vs Q E hr h=>?_)
 ·obtain⟨c,n,rfl,_⟩:=h
  rfl
 obtain⟨c,n,rfl,hn,q⟩:=h
 refine⟨_,(z04 (z0R (z09 z2r (z0v z1d (pv 0) z06) z06 (z0m _)) (z05 (z0i (z0v z1d (z0v z1l (pv 0) z06) (pv 1)))) z0p) (z04 (z0n (i:=2) nd rfl (Or.inl rfl) (z0v z1d (z0v z6j (z0v z1l (pv 0) z06) z06) z06)) (z05 (z0i (z0v z1d (z0v z1d (z0v z6j (z0v z1M (pv 2) z06) z06) z06) (pv 1)))))),?_⟩
 refine⟨_,rfl,_,_,rfl,rfl,(by show(0:Int)<2;decide),rfl,_,rfl,?_⟩
 refine A9 (fun _=>?_) (fun _=>?_)
 ·exact⟨_,rfl,_,_,rfl,rfl,⟨by decide,by decide⟩,_,rfl,_,_,rfl,rfl,hn,q _ (dG _ (by omega)) (cV _ hn)⟩
 ·refine⟨_,rfl,_,_,rfl,rfl,⟨by decide,by decide⟩,_,_,rfl,rfl,.inr ⟨by decide,by decide⟩,_,_,rfl,rfl,(by show(0:Int)<2147483647;decide),?_⟩
  refine⟨_,rfl,_,_,rfl,rfl,_,_,rfl,rfl,.inr ⟨by decide,by decide⟩,_,_,rfl,rfl,(by show(0:Int)<2147483647;decide),_,rfl,_,_,rfl,rfl,hn,?_⟩
  exact q _ (dG _ (by omega)) (cV _ hn)
def y03:Nat->Sp
 | 0=>fun _ _ _ _=>False
 | n+1=>fun vs H Q _=>∃x y,vs=[x,y]/\z4h H n x y/\∀H',A4 H H'->Q (.bl true) H'
theorem y3F:A7 P w K mg base CX0 0 f fd z28 (y03 0):=
 ⟨fun vs H Q E h=>h.elim,fun A outer s H args us vs Q E _ _ _ _ h=>h.elim⟩
def tyOf:V->String
 | .non=>"NoneType"
 | .bl _=>"bool"
 | .int _=>"int"
 | _=>"str"
theorem z4K{H:Hp}{x:V}(h:y1r x=true):N2 K H x (.type (tyOf x)):=by
 cases x with
 | non=>exact .non
 | bl b=>exact .bl b
 | int i=>exact .int i
 | str z=>exact .str z
 | _=>exact absurd h bF
def kitB:V->String->Bool
 | .bl _,T=>T == "bool" || T == "int"
 | .int _,T=>T == "int"
 | .str _,T=>T == "str"
 | _,_=>false
theorem z49(T:String)(hT:T="tuple"\/T="bool"\/T="int"\/T="str"){x:V}(h:y1r x=true):PySem.W.kitOne K (.type (tyOf x)) (.type T)=some (kitB x T):=by
 cases x with
 | non=>rcases hT with rfl|rfl|rfl|rfl<;>kernel_rfl
 | bl b=>rcases hT with rfl|rfl|rfl|rfl<;>kernel_rfl
 | int i=>rcases hT with rfl|rfl|rfl|rfl<;>kernel_rfl
 | str z=>rcases hT with rfl|rfl|rfl|rfl<;>kernel_rfl
 | _=>exact absurd h bF
theorem y1J(x:V):kitB x "tuple"=false:=by cases x<;>rfl
theorem z5C:PySem.W.kitOne K (.type "tuple") (.type "tuple")=some true:=by kernel_rfl
theorem y5w{xs:List V}{i:Nat}(h:i<xs.length):∃v,xs[i]? = some v/\atI xs (i:Int)=some v:=⟨xs[i],bG h,z1m (bG h)⟩
theorem y5H{x:V}(h:y1r x=true):w01 x x=true:=by
 cases x<;>first|rfl|exact absurd h bF
theorem y6A{n:Nat}(M:Bl mg)(F:Fun K "_law_same" "_law_same" z4f f fd)(K4:Cal P w K mg base n "_law_same" z28 (y03 n)) :
  A7 P w K mg base CX0 (n+1) f fd z28 (y03 (n+1)):=by
 have nd:=z70.nd
 refine F.ok z70 (fun vs H Q E h=>?_) (fun cdv A outer s H vs Q E hr h=>?_)
 ·obtain⟨x,y,rfl,_⟩:=h
  rfl
 obtain⟨x,y,rfl,ha,q⟩:=h
 refine⟨_,(z04 (z0R (z5d (z0d z0J rfl M.isinstance cI (z00 (pv 1) (z00 (z1T (v:=.ty "tuple") rfl M.tuple bL rfl) z03)))) (z04 (z0R (PW.pt (z38 (z6n (z5d (z0d z0J rfl M.isinstance cI (z00 (pv 0) (z00 (z1T (v:=.ty "tuple") rfl M.tuple bL rfl) z03))))) (z2s (z09 z8K (z0d z0f rfl M.len bW (z00 (pv 0) z03)) (z0d z0f rfl M.len bW (z00 (pv 1) z03)) (z0m _))))) (z05 (z0i z7Q)) z0p) (z04 (z1c cG rfl (z2h rfl M.range (z00 (z0d z0f rfl M.len bW (z00 (pv 1) z03)) z03)) (z0j (i:=2) nd rfl (Or.inl rfl)) (z05 (z0R (z6n (z5d (z0q K4 (rm hr) rfl (z00 (z0Q z0H (pv 0) (pv 2) (fun _ _=>rfl)) (z00 (z0Q z0H (pv 1) (pv 2) (fun _ _=>rfl)) z03))))) (z05 (z0i z7Q)) z0p))) (z05 (z0i z7Q)))) z0p) (z04 (z0R (PW.pt (z38 (z09 z8K (z0d z0J rfl M.isinstance cI (z00 (pv 0) (z00 (z1T (v:=.ty "bool") rfl M.bool hE rfl) z03))) (z0d z0J rfl M.isinstance cI (z00 (pv 1) (z00 (z1T (v:=.ty "bool") rfl M.bool hE rfl) z03))) (z0m _)) (z2s (z09 z8K (z0d z0J rfl M.isinstance cI (z00 (pv 0) (z00 (z1T (v:=.ty "int") rfl M.int j4 rfl) z03))) (z0d z0J rfl M.isinstance cI (z00 (pv 1) (z00 (z1T (v:=.ty "int") rfl M.int j4 rfl) z03))) (z0m _))))) (z05 (z0i z7Q)) z0p) (z04 (z0R (PW.pt (z38 (z09 z8K (z0d z0J rfl M.isinstance cI (z00 (pv 0) (z00 (z1T (v:=.ty "str") rfl M.str PyProof.Rows.boot_str rfl) z03))) (z0d z0J rfl M.isinstance cI (z00 (pv 1) (z00 (z1T (v:=.ty "str") rfl M.str PyProof.Rows.boot_str rfl) z03))) (z0m _)) (z2s (z09 z8K (y5y (z9J (pv 0))) (y5y (z9J (pv 1))) (z0m _))))) (z05 (z0i z7Q)) z0p) (z05 (z0i (y2X z2r (pv 0) (pv 1) (z0m _))))))),?_⟩
 have ha':(x=y/\y1r x=true)\/∃(m:Nat) (a b:Addr) (xs ys:List V),n=m+1/\x=.ref a/\y=.ref b/\H a=some (.tup xs)/\H b=some (.tup ys)/\xs.length=ys.length/\ys.length≤1000000/\
   ∀(i:Nat) (u v:V),xs[i]? = some u->ys[i]? = some v->z4h H m u v:=by
  cases n with
  | zero=>exact .inl ha
  | succ n=>
   rcases ha with ha|⟨a,b,xs,ys,e1,e2,h1,h2,hl,hm,hi⟩
   ·exact .inl ha
   ·exact .inr ⟨n,a,b,xs,ys,rfl,e1,e2,h1,h2,hl,hm,hi⟩
 rcases ha' with ⟨rfl,hs⟩|⟨m,a,b,xs,ys,rfl,rfl,rfl,h1,h2,hl,hm,hi⟩
 ·have k1:=z49 (K:=K) "tuple" (.inl rfl) hs
  have k2:=z49 (K:=K) "bool" (.inr (.inl rfl)) hs
  have k3:=z49 (K:=K) "int" (.inr (.inr (.inl rfl))) hs
  have k4:=z49 (K:=K) "str" (.inr (.inr (.inr rfl))) hs
  rw[y1J] at k1
  refine⟨_,rfl,_,_,_,_,rfl,z4K hs,k1,_,rfl,C3 ?_⟩
  refine⟨_,rfl,_,_,_,_,rfl,z4K hs,k2,_,rfl,_,_,_,_,rfl,z4K hs,k2,rfl,_,rfl,?_⟩
  rw[decide_eq_true rfl]
  refine C3 ⟨_,rfl,_,_,_,_,rfl,z4K hs,k3,_,rfl,_,_,_,_,rfl,z4K hs,k3,rfl,_,rfl,?_⟩
  rw[decide_eq_true rfl]
  refine C3 ?_
  refine⟨_,rfl,_,_,_,_,rfl,z4K hs,k4,_,rfl,_,_,_,_,rfl,z4K hs,k4,rfl,_,rfl,?_⟩
  rw[decide_eq_true rfl]
  refine C3 ⟨_,rfl,_,rfl,rfl,_,rfl,?_⟩
  rw[decide_eq_true rfl]
  refine C3 ?_
  refine⟨_,rfl,_,rfl,y5H hs,?_⟩
  rw[decide_eq_true rfl]
  exact q H (A4.refl H)
 ·refine⟨_,rfl,_,_,_,_,rfl,.tup h2,z5C,_,rfl,O5 ?_⟩
  refine⟨_,rfl,_,_,_,_,rfl,.tup h1,z5C,_,rfl,C3 ?_⟩
  refine⟨_,rfl,a,xs,rfl,.inr (SqT.of h1),_,rfl,b,ys,rfl,.inr (SqT.of h2),rfl,_,rfl,?_⟩
  rw[hl,decide_eq_true rfl]
  refine C3 ?_
  refine⟨_,rfl,b,ys,rfl,.inr (SqT.of h2),_,rfl,by omega,by omega,?_⟩
  refine z3h (lo:=0) (n:=ys.length) (fun _ σ H'=>A4 H H'/\∃o,σ=[some (.ref a),some (.ref b),o]) ⟨A4.refl H,_,rfl⟩ (fun i σ H' hi' hp=>?_) (fun σ H' hp=>?_)
  ·obtain⟨hS,o,rfl⟩:=hp
   obtain⟨u,hu,au⟩:=y5w (xs:=xs) (i:=i) (by omega)
   obtain⟨v,hv,av⟩:=y5w (xs:=ys) (i:=i) hi'
   have ei:(0:Int)+(i:Int)=(i:Int):=Int.zero_add _
   refine⟨_,rfl,_,rfl,a,_,_,_,rfl,rfl,SqT.of (hS _ _ h1),(by rw[ei];exact au),_,rfl,_,rfl,b,_,_,_,rfl,rfl,SqT.of (hS _ _ h2),(by rw[ei];exact av),?_⟩
   refine⟨u,v,rfl,(hi i u v hu hv).keep hS,fun H2 hS2=>⟨_,rfl,?_⟩⟩
   exact C3 ⟨hS.trans hS2,_,rfl⟩
  ·obtain⟨hS,o,rfl⟩:=hp
   exact q H' hS
theorem y15(M:Bl mg)(F:Fun K "_law_same" "_law_same" z4f f fd)(B:z1J K fd z28 [])(N:mg "_law_same"=some (.ref f)) :
  ∀n,Cal P w K mg base n "_law_same" z28 (y03 n)
 | 0=>.mk' y3F B F.kp N
 | n+1=>.mk' (y6A M F (y15 M F B N n)) B F.kp N
theorem z9a{ns:List Int}{n:Nat}(h:ns.length≤n)(hn:n≤1000):(ns.map V.int).length<sizeLine:=z0g (by rw[b7];omega)
def y4K:Sp:=fun vs H Q _=>∃c m z:Int,vs=[.int c,.int m,.int z]/\0≤m/\m≤900/\0<z/\z<1073741824/\
 ∀(l:Addr) (ns:List Int) (H':Hp),H l=none->A4 H H'->H' l=some (.lst (ns.map V.int))->ns.length=m.toNat->(∀x∈ns,0≤x/\x<z)->Q (.ref l) H'
theorem y6E(M:Bl mg)(F:Fun K "_law_row" "_law_row" z7s f fd):A7 P w K mg base CX0 1 f fd z3P y4K:=by
 have nd:=z8t.nd
 refine F.ok z8t (fun vs H Q E h=>?_) (fun cdv A outer s H vs Q E hr h=>?_)
 ·obtain⟨c,m,z,rfl,_⟩:=h
  rfl
 obtain⟨c,m,z,rfl,m0,m1,z0,z1,q⟩:=h
 refine⟨_,(z04 (z0n (i:=3) nd rfl (Or.inl rfl) (z0v z1l (pv 0) z06)) (z04 (z0n (i:=4) nd rfl (Or.inl rfl) (z0v z1d (z0v z6j (pv 3) z06) z06)) (z04 (z0n (i:=5) nd rfl (Or.inl rfl) (z1t z03)) (z04 (z1c cG rfl (z2h rfl M.range (z00 (pv 1) z03)) (z0j (i:=6) nd rfl (Or.inl rfl)) (z04 (z0n (i:=4) nd rfl (Or.inl rfl) (z0v z1d (z0v z1M (z0v z1M (z0v z6j (pv 4) z06) (pv 6)) z06) z06)) (z05 (z0R (z09 z2r (z0v z1d (pv 0) z06) z06 (z0m _)) (z04 (z0B (z3I cE bX cD z0O (pv 5) (z00 (z0v z1d (pv 3) (pv 2)) z03))) (z05 (z0n (i:=3) nd rfl (Or.inl rfl) (z0v z1l (pv 3) (pv 2))))) (z05 (z0B (z3I cE bX cD z0O (pv 5) (z00 (z0v z1d (z0v z1l (pv 4) z06) (pv 2)) z03)))))))) (z05 (z0i (pv 5))))))),?_⟩
 refine⟨_,rfl,_,_,rfl,rfl,⟨by decide,by decide⟩,?_⟩
 refine⟨_,rfl,_,_,rfl,rfl,.inr ⟨by decide,by decide⟩,_,_,rfl,rfl,(by show(0:Int)<2147483647;decide),?_⟩
 refine⟨(by show 0≤sizeLine;decide),fun l hl=>?_⟩
 refine⟨_,rfl,_,rfl,by omega,by omega,?_⟩
 refine z3h (lo:=0) (n:=m.toNat) (fun i σ H'=>∃(ns:List Int) (r mx:Int) (o:Option V),ns.length=i/\(∀x∈ns,0≤x/\x<z)/\H'=upd H l (.lst (ns.map V.int))/\
  σ=[some (.int c),some (.int m),some (.int z),some (.int r),some (.int mx),some (.ref l),o]) ⟨[],_,_,_,rfl,(fun _ h=>nomatch h),rfl,rfl⟩ (fun i σ H' hi hp=>?_) (fun σ H' hp=>?_)
 ·obtain⟨ns,r,mx,o,hlen,B4,rfl,rfl⟩:=hp
  refine⟨_,rfl,_,_,rfl,rfl,.inr ⟨by decide,by decide⟩,_,rfl,_,_,rfl,rfl,_,_,rfl,rfl,_,_,rfl,rfl,(by show(0:Int)<2147483647;decide),?_⟩
  refine⟨_,rfl,_,_,rfl,rfl,(by show(0:Int)<2;decide),rfl,_,rfl,?_⟩
  have grow:∀y:Int,(∀x∈ns++[y%z],0≤x/\x<z):=fun y x hx=>by
   rcases bO.mp hx with h|h
   ·exact B4 x h
   ·rw[b9.mp h]
    exact⟨dG _ (by omega),cV _ z0⟩
  have put:∀y:Int,upd (upd H l (.lst (ns.map V.int))) l (.lst (ns.map V.int++[.int (y%z)]))=upd H l (.lst ((ns++[y%z]).map V.int)):=fun y=>by
   rw[z7K,bD]
   rfl
  refine A9 (fun _=>?_) (fun _=>?_)
  ·refine⟨_,rfl,.inl ⟨rfl,_,SqL.of z02⟩,_,rfl,_,rfl,_,_,rfl,rfl,z0,l,_,_,rfl,rfl,z02,z9a (n:=i) (by omega) (by omega),?_⟩
   refine⟨_,rfl,_,rfl,_,_,rfl,rfl,⟨z0,z1⟩,?_⟩
   exact⟨ns++[r%z],_,_,_,by rw[bI,hlen];rfl,grow r,put r,rfl⟩
  ·refine⟨_,rfl,.inl ⟨rfl,_,SqL.of z02⟩,_,rfl,_,_,rfl,rfl,⟨by decide,by decide⟩,_,rfl,_,_,rfl,rfl,z0,l,_,_,rfl,rfl,z02,z9a (n:=i) (by omega) (by omega),?_⟩
   exact⟨ns++[_%z],_,_,_,by rw[bI,hlen];rfl,grow _,put _,rfl⟩
 ·obtain⟨ns,r,mx,o,hlen,B4,rfl,rfl⟩:=hp
  exact⟨_,rfl,q l ns _ hl (z01 hl _) z02 hlen B4⟩
theorem z3j(x:Int)(ns:List Int):inV (.int x) (ns.map V.int)=decide (x∈ns):=by
 unfold inV
 rw[dL,gR,hV,decide_eq_true_eq]
 constructor
 ·rintro⟨y,hy,e⟩
  have e':(y == x)=true:=e
  rw[<- eq_of_beq e']
  exact hy
 ·intro h
  exact⟨x,h,show(x == x)=true from beq_self_eq_true x⟩
theorem z2B(ns:List Int):(ns.map V.int).all z1V=true:=by
 rw[jL,jM]
 intro x _
 rfl
theorem y2D{l:List Int}{x:Int}(h:l.Pairwise (· < ·))(hx:∀y∈l,y<x):(l++[x]).Pairwise (· < ·):=
 dO.mpr ⟨h,fT _ _,fun a ha b hb=>by rw[b9.mp hb];exact hx a ha⟩
theorem y2W{l:List Int}(h:l.Pairwise (· < ·)):(l.map fun x=>x+1).Pairwise (· < ·):=by
 rw[dY]
 exact h.imp fun {a b} h=>by omega
theorem z9Y:∀{l:List Int},l.Pairwise (·≤·)->l.Nodup->l.Pairwise (· < ·)
 | [],_,_=>.nil
 | x::r,h,n=>by
  rw[fA] at h ⊢
  rw[cW] at n
  refine⟨fun y hy=>?_,z9Y h.2 n.2⟩
  have:=h.1 y hy
  have:x≠y:=fun e=>n.1 (e ▸ hy)
  omega
def y6L:Sp:=fun vs H Q _=>∃c m:Int,vs=[.int c,.int m]/\0≤m/\m≤60/\
 ∀(l:Addr) (ns:List Int) (H':Hp),H l=none->A4 H H'->H' l=some (.lst (ns.map V.int))->ns.Pairwise (· < ·)->(∀x∈ns,1≤x/\x≤m)->ns.length≤60->Q (.ref l) H'
theorem y7i(M:Bl mg)(F:Fun K "_law_had" "_law_had" z6X f fd)(C1:Cal P w K mg base 1 "_law_row" z3P y4K):A7 P w K mg base CX0 2 f fd z7q y6L:=by
 have nd:=z7X.nd
 refine F.ok z7X (fun vs H Q E h=>?_) (fun cdv A outer s H vs Q E hr h=>?_)
 ·obtain⟨c,m,rfl,_⟩:=h
  rfl
 obtain⟨c,m,rfl,m0,m1,q⟩:=h
 refine⟨_,(z04 (z0R (z09 z2r (z0v z1d (pv 0) z06) z06 (z0m _)) (z04 (z0n (i:=2) nd rfl (Or.inr rfl) (z0q C1 (rm hr) rfl (z00 (z0v z1l (pv 0) z06) (z00 (pv 1) (z00 z06 z03))))) (z05 (z0i (z1f ["_law_k"] ["_law_flags"] [2] rfl (z0u rfl (by decide +kernel) rfl (by decide +kernel) rfl rfl) (z2h rfl M.range (z00 (pv 1) z03)) (fun _ _ _ _ _=>(z0j (i:=0) (show((["_law_k"]:List PySem.Str)++(["_law_flags"]:List PySem.Str)).Nodup from by decide +kernel) rfl (Or.inl rfl))) (z0y (by decide)) z0c (fun _ _ _ _ _=>(z21 (z09 z2r (z0Q (r:=w00 K) z1I (pv 1) (pv 0) (fun _ _=>rfl)) z06 (z0m _)))) (fun _ _ _ _ _=>(z0v z1M (pv 0) z06)))))) z0p) (z04 (z0n (i:=3) nd rfl (Or.inl rfl) (z1t z03)) (z04 (z0R (z09 z2r (z0v z1d (pv 0) z06) z06 (z0m _)) (z04 (z0n (i:=4) nd rfl (Or.inl rfl) z06) (z04 (z1c cG rfl (z1k (z0q C1 (rm hr) rfl (z00 (z0v z1l (pv 0) z06) (z00 (pv 1) (z00 z06 z03))))) (z0j (i:=5) nd rfl (Or.inl rfl)) (z04 (z0n (i:=4) nd rfl (Or.inl rfl) (z0v z1M (z0v z1M (pv 4) z06) (pv 5))) (z05 (z0R (z09 y5G (pv 4) (pv 1) (z0m _)) (z05 (z0B (z3I cE bX cD z0O (pv 3) (z00 (pv 4) z03)))) z0p)))) (z05 (z0i (pv 3))))) z0p) (z04 (z1c cG rfl (z1k (z0q C1 (rm hr) rfl (z00 (z0v z1l (pv 0) z06) (z00 z06 (z00 (z0v z1M (pv 1) z06) z03))))) (z0j (i:=6) nd rfl (Or.inl rfl)) (z05 (z0R (PW.pt (z4t (z09 z2E (pv 6) z06 (z0m _)) (z2U (z09 z2e (pv 6) (pv 3) (by with_unfolding_all rfl))))) (z05 (z0B (z3I cE bX cD z0O (pv 3) (z00 (pv 6) z03)))) z0p))) (z05 (z0i (z0d z7c rfl M.sorted eM (z00 (pv 3) z03)))))))),?_⟩
 refine⟨_,rfl,_,_,rfl,rfl,(by show(0:Int)<3;decide),rfl,_,rfl,?_⟩
 refine A9 (fun _=>?_) (fun _=>?_)
 ·refine⟨_,rfl,_,_,rfl,rfl,⟨by decide,by decide⟩,_,rfl,_,m,2,rfl,m0,by omega,by decide,by decide,fun lf fs H1 nlf s1 e1 Q3 all1=>?_⟩
  refine⟨_,rfl,_,rfl,by omega,by omega,?_⟩
  refine z7J (lo:=0) (n:=m.toNat) (fun k=>decide (fs.getD k.toNat 0=1)) (fun k=>.int (k+1)) (by omega) (fun k ys N k0 k1 hN=>?_) ?_
  ·refine⟨_,rfl,_,rfl,lf,_,_,_,rfl,rfl,SqL.of e1,y08 k0 (by omega),rfl,_,rfl,?_⟩
   refine A9 (fun c2=>?_) (fun c2=>?_)
   ·have c3:decide (fs.getD k.toNat 0=1)=true:=decide_eq_true (V.int.inj (z0A c2))
    rw[if_pos c3] at hN
    exact⟨_,rfl,_,_,rfl,rfl,hN⟩
   ·have c3:¬decide (fs.getD k.toNat 0=1)=true:=fun z=>c2 (decide_eq_true (congrArg V.int (z0A z)))
    rw[if_neg c3] at hN
    exact hN
  ·intro D hD
   have e:z2b (fun k=>decide (fs.getD k.toNat 0=1)) (fun k=>V.int (k+1)) (upI 0 m.toNat)=(((upI 0 m.toNat).filter fun k=>decide (fs.getD k.toNat 0=1)).map fun x=>x+1).map V.int:=by
    unfold z2b
    rw[eJ]
    rfl
   refine q D (((upI 0 m.toNat).filter fun k=>decide (fs.getD k.toNat 0=1)).map fun x=>x+1) _ (s1.free hD) (s1.trans (z01 hD _)) ?_ (y2W ((z1D 0 _).filter _)) (fun x hx=>?_) ?_
   ·rw[z02,e]
   ·obtain⟨y,hy,rfl⟩:=cF.mp hx
    have:=z11.mp (bV.mp hy).1
    omega
   ·rw[b7]
    have h:=cM (fun k:Int=>decide (fs.getD k.toNat 0=1)) (upI 0 m.toNat)
    rw[z0T] at h
    omega
 ·refine⟨(by show 0≤sizeLine;decide),fun l hl=>?_⟩
  refine⟨_,rfl,_,_,rfl,rfl,(by show(0:Int)<3;decide),rfl,_,rfl,?_⟩
  refine A9 (fun _=>?_) (fun _=>?_)
  ·refine⟨_,rfl,_,_,rfl,rfl,⟨by decide,by decide⟩,_,rfl,_,m,15,rfl,m0,by omega,by decide,by decide,fun lf fs H1 nlf s1 e1 Q3 all1=>?_⟩
   have nl:lf≠l:=fun z=>by rw[z,z02] at nlf;cases nlf
   refine⟨lf,rfl,⟨_,SqL.of e1⟩,?_⟩
   refine z1s (xs:=fs.map V.int) (fun i σ H'=>∃(ns:List Int) (x:Int) (o1 o2 o3:Option V),ns.Pairwise (· < ·)/\(∀y∈ns,1≤y/\y≤m/\y≤x)/\0≤x/\ns.length≤i/\H' l=some (.lst (ns.map V.int))/\H' lf=some (.lst (fs.map V.int))/\A4 H H'/\
    σ=[some (.int c),some (.int m),o1,some (.ref l),some (.int x),o2,o3]) ⟨[],0,_,_,_,.nil,(fun _ h=>nomatch h),dU 0,bB 0,s1 _ _ z02,e1,(z01 hl _).trans s1,rfl⟩ (fun i σ H' hi hp=>?_) (fun i x σ H' hx hp=>?_) (fun σ H' hp=>?_)
   ·obtain⟨ns,x,o1,o2,o3,_,_,_,_,_,h2,_⟩:=hp
    exact SqL.of h2
   ·obtain⟨ns,v,o1,o2,o3,p1,p2,p3,p4,p5,p6,p7,rfl⟩:=hp
    rw[bH] at hx
    cases ef:fs[i]? with
    | none=>rw[ef] at hx;cases hx
    | some j=>
     rw[ef] at hx
     cases hx
     have hj:=all1 j (bT ef)
     have hi:i<fs.length:=(cH.mp ef).1
     refine⟨_,rfl,_,_,rfl,rfl,_,rfl,_,_,rfl,rfl,?_⟩
     refine⟨_,rfl,_,rfl,_,_,rfl,rfl,_,rfl,?_⟩
     refine A9 (fun c2=>?_) (fun c2=>?_)
     ·have c3:=z0A c2
      refine⟨_,rfl,.inl ⟨rfl,_,SqL.of p5⟩,_,rfl,l,_,_,rfl,rfl,p5,z9a (n:=i) p4 (by omega),?_⟩
      refine⟨ns++[v+1+j],v+1+j,_,_,_,y2D p1 fun y hy=>by have:=p2 y hy;omega,fun y hy=>?_,by omega,by rw[bI,dA];omega,?_,?_,z3s p7 hl,rfl⟩
      ·rcases bO.mp hy with h|h
       ·have:=p2 y h;omega
       ·rw[b9.mp h];omega
      ·rw[z02,bD];rfl
      ·rw[z0e nl];exact p6
     ·exact⟨ns,v+1+j,_,_,_,p1,fun y hy=>by have:=p2 y hy;omega,by omega,by omega,p5,p6,p7,rfl⟩
   ·obtain⟨ns,x,o1,o2,o3,p1,p2,p3,p4,p5,p6,p7,rfl⟩:=hp
    rw[b7] at p4
    exact⟨_,rfl,q l ns _ hl p7 p5 p1 (fun y hy=>⟨(p2 y hy).1,(p2 y hy).2.1⟩) (by omega)⟩
  ·refine⟨_,rfl,_,_,rfl,rfl,⟨by decide,by decide⟩,_,rfl,_,_,rfl,rfl,_,4,m+1,rfl,by decide,by decide,by omega,by omega,fun lf fs H1 nlf s1 e1 Q3 all1=>?_⟩
   have nl:lf≠l:=fun z=>by rw[z,z02] at nlf;cases nlf
   refine⟨lf,rfl,⟨_,SqL.of e1⟩,?_⟩
   refine z1s (xs:=fs.map V.int) (fun i σ H'=>∃(ns:List Int) (o1 o2 o3 o4:Option V),ns.Nodup/\(∀y∈ns,1≤y/\y≤m)/\ns.length≤i/\H' l=some (.lst (ns.map V.int))/\H' lf=some (.lst (fs.map V.int))/\A4 H H'/\
    σ=[some (.int c),some (.int m),o1,some (.ref l),o2,o3,o4]) ⟨[],_,_,_,_,.nil,(fun _ h=>nomatch h),bB 0,s1 _ _ z02,e1,(z01 hl _).trans s1,rfl⟩ (fun i σ H' hi hp=>?_) (fun i x σ H' hx hp=>?_) (fun σ H' hp=>?_)
   ·obtain⟨ns,o1,o2,o3,o4,_,_,_,_,h2,_⟩:=hp
    exact SqL.of h2
   ·obtain⟨ns,o1,o2,o3,o4,p1,p2,p4,p5,p6,p7,rfl⟩:=hp
    rw[bH] at hx
    cases ef:fs[i]? with
    | none=>rw[ef] at hx;cases hx
    | some j=>
     rw[ef] at hx
     cases hx
     have hj:=all1 j (bT ef)
     have hi:i<fs.length:=(cH.mp ef).1
     have same:∃(ns':List Int) (o1 o2 o3 o4:Option V),ns'.Nodup/\(∀y∈ns',1≤y/\y≤m)/\ns'.length≤i+1/\H' l=some (.lst (ns'.map V.int))/\H' lf=some (.lst (fs.map V.int))/\A4 H H'/\
       ([some (.int c),some (.int m),o1,some (.ref l),o2,o3,o4]:St)=[some (.int c),some (.int m),o1,some (.ref l),o2,o3,o4]:=⟨ns,o1,o2,o3,o4,p1,p2,by omega,p5,p6,p7,rfl⟩
     refine⟨_,rfl,_,_,rfl,rfl,_,rfl,?_⟩
     refine A9 (fun c2=>?_) (fun c2=>?_)
     ·have c3:=z0A c2
      refine⟨_,rfl,_,rfl,l,_,rfl,.inl (SqL.of p5),rfl,z2B ns,_,rfl,?_⟩
      rw[if_pos rfl,z3j]
      refine A9 (fun c4=>?_) (fun c4=>?_)
      ·have c5:j∉ns:=fun z=>by rw[decide_eq_true z] at c4;exact absurd c4 bF
       refine⟨_,rfl,.inl ⟨rfl,_,SqL.of p5⟩,_,rfl,l,_,_,rfl,rfl,p5,z9a (n:=i) p4 (by omega),?_⟩
       refine⟨ns++[j],_,_,_,_,?_,fun y hy=>?_,by rw[bI,dA];omega,?_,?_,z3s p7 hl,rfl⟩
       ·rw[fF]
        exact⟨p1,cW.mpr ⟨dS,List.nodup_nil⟩,fun y hy z hz=>by rw[b9.mp hz];exact fun e=>c5 (e ▸ hy)⟩
       ·rcases bO.mp hy with h|h
        ·exact p2 y h
        ·rw[b9.mp h];omega
       ·rw[z02,bD];rfl
       ·rw[z0e nl];exact p6
      ·exact⟨ns,_,_,_,_,p1,p2,by omega,p5,p6,p7,rfl⟩
     ·refine C3 ?_
      exact⟨ns,_,_,_,_,p1,p2,by omega,p5,p6,p7,rfl⟩
   ·obtain⟨ns,o1,o2,o3,o4,p1,p2,p4,p5,p6,p7,rfl⟩:=hp
    rw[b7] at p4
    refine⟨_,rfl,l,ns,rfl,SqL.of p5,by omega,fun l2 ns2 hl2 perm srt=>?_⟩
    refine q l2 ns2 _ (p7.free hl2) (p7.trans (z01 hl2 _)) z02 (z9Y srt (perm.nodup_iff.mpr p1)) (fun x hx=>p2 x (perm.mem_iff.mp hx)) ?_
    have:=perm.length_eq
    omega
def z1a(ns:List Int):List Int:=(upI 1 60).filter fun x=>decide (x∉ns) && decide (∃y∈ns,x<y)
theorem z0U{ns:List Int}{x:Int}:x∈z1a ns↔(1≤x/\x<1+60)/\x∉ns/\∃y∈ns,x<y:=by
 unfold z1a
 rw[bV,z11,bQ,decide_eq_true_eq,decide_eq_true_eq]
 rfl
theorem z4b(ns:List Int):(z1a ns).Pairwise (· < ·):=(z1D 1 60).filter _
theorem z2d(ns:List Int):(z1a ns).length≤60:=by
 have h:=cM (fun x=>decide (x∉ns) && decide (∃y∈ns,x<y)) (upI 1 60)
 rw[z0T] at h
 exact h
theorem y34{ns:List Int}{m:Int}(hm:m∈ns)(B4:∀x∈ns,1≤x/\x≤60)(top:∀y∈ns,y≤m):(upI 1 (m+1-1).toNat).filter (fun x=>!decide (x∈ns))=z1a ns:=
 z2a ((z1D _ _).filter _) (z4b _) fun x=>by
  have hm':=B4 m hm
  rw[bV,z11,z0U,jH,decide_eq_false_iff_not]
  constructor
  ·rintro⟨⟨a,b⟩,c⟩
   refine⟨by omega,c,m,hm,?_⟩
   have:x≠m:=fun e=>c (e ▸ hm)
   omega
  ·rintro⟨a,b,y,hy,c⟩
   have:=top y hy
   exact⟨by omega,b⟩
theorem z9I:z1a []=[]:=by
 refine z2a (z4b _) .nil fun x=>?_
 rw[z0U]
 constructor
 ·rintro⟨_,_,y,hy,_⟩
  cases hy
 ·intro h
  cases h
theorem SqI.keep{K:PySem.W.Frag}{H H':Hp}{a:Addr}{ns:List Int}(e:A4 H H')(h:SqI K H a ns):SqI K H' a ns:=by
 rcases h with h|h
 ·exact .inl (e.seq h)
 ·rcases h with (h|⟨o,h⟩)|h
  ·exact .inr (.inl (.inl (e _ _ h)))
  ·exact .inr (.inl (.inr ⟨o,e _ _ h⟩))
  ·exact .inr (.inr h)
theorem z85{c:Int->Bool}{t:Int}:∀{l:List Int},l.Pairwise (· < ·)->t∈l->c t=true->(∀y∈l,c y=true->t≤y)->l.find? c=some t
 | [],_,h,_,_=>by cases h
 | x::r,p,h,hc,hm=>by
  rw[fA] at p
  rw[dN]
  rcases bA.mp h with rfl|h
  ·rw[hc]
  ·cases e:c x with
   | true=>
    have h1:=p.1 t h
    have h2:=hm x bS e
    omega
   | false=>exact z85 p.2 h hc fun y hy=>hm y (bM _ hy)
theorem y3X{c:Int->Bool}{t:Int}:∀{l:List Int},l.Pairwise (· < ·)->l.find? c=some t->t∈l/\c t=true/\∀y∈l,c y=true->t≤y
 | [],_,h=>by cases h
 | x::r,p,h=>by
  rw[fA] at p
  rw[dN] at h
  cases e:c x with
  | true=>
   rw[e] at h
   have h':x=t:=Option.some.inj h
   subst h'
   refine⟨bS,e,fun y hy _=>?_⟩
   rcases bA.mp hy with rfl|hy
   ·exact dU _
   ·have:=p.1 y hy
    omega
  | false=>
   rw[e] at h
   obtain⟨h1,h2,h3⟩:=y3X p.2 h
   refine⟨bM _ h1,h2,fun y hy hc=>?_⟩
   rcases bA.mp hy with rfl|hy
   ·rw[e] at hc
    cases hc
   ·exact h3 y hy hc
def y0u(ns:List Int)(n r:Int)(y:Int):Bool:=decide (n<y) && decide (y-r≤n) && decide (y∈ns)
def z0M(ns:List Int)(n r:Int):Int:=((upI 1 60).find? (y0u ns n r)).getD 0
theorem z3U{ns:List Int}{n r y:Int}:y0u ns n r y=true↔n<y/\y-r≤n/\y∈ns:=by
 unfold y0u
 rw[bQ,bQ,decide_eq_true_eq,decide_eq_true_eq,decide_eq_true_eq,and_assoc]
theorem y14{ns:List Int}{n r t:Int}(B4:∀x∈ns,1≤x/\x≤60)(ht:t∈ns)(h1:n<t)(h2:t-r≤n)(hm:∀y∈ns,n<y->y-r≤n->t≤y):z0M ns n r=t:=by
 unfold z0M
 rw[z85 (z1D 1 60) (t:=t) (z11.mpr (by have:=B4 t ht;omega)) (z3U.mpr ⟨h1,h2,ht⟩) fun y _ hy=>by
  obtain⟨a,b,c⟩:=z3U.mp hy
  exact hm y c a b]
 rfl
theorem z4d{ns:List Int}{n r:Int}(h:∀y∈ns,n<y->¬y-r≤n):z0M ns n r=0:=by
 unfold z0M
 have e:(upI 1 60).find? (y0u ns n r)=none:=gS.mpr fun y _ hy=>by
  obtain⟨a,b,c⟩:=z3U.mp hy
  exact h y c a b
 rw[e]
 rfl
def z9D(K:PySem.W.Frag):Sp:=fun vs H Q _=>∃(p:Addr) (ns:List Int) (n r:Int),vs=[.ref p,.int n,.int r]/\SqL K H p (ns.map V.int)/\(∀x∈ns,1≤x/\x≤60)/\ns.length≤900/\0≤r/\
 ∀H',A4 H H'->Q (.int (z0M ns n r)) H'
theorem y1H(M:Bl mg)(F:Fun K "_law_teller" "_law_teller" z42 f fd):A7 P w K mg base CX0 1 f fd z3N (z9D K):=by
 have nd:=z5e.nd
 refine F.ok z5e (fun vs H Q E h=>?_) (fun cdv A outer s H vs Q E hr h=>?_)
 ·obtain⟨p,ns,n,r,rfl,_⟩:=h
  rfl
 obtain⟨p,ns,n,r,rfl,hS,B4,hlen,r0,q⟩:=h
 refine⟨_,(z04 (z4G (i:=3) ["_law_other"] ["_law_number"] [1] rfl nd rfl (Or.inl rfl) (z0u rfl (by decide +kernel) rfl (by decide +kernel) rfl rfl) (z1k (pv 0)) (fun _ _ _ _ _=>(z0j (i:=0) (show((["_law_other"]:List PySem.Str)++(["_law_number"]:List PySem.Str)).Nodup from by decide +kernel) rfl (Or.inl rfl))) (z0y (by decide)) z0c (fun _ _ _ _ _=>(z21 (z09 z2E (pv 0) (pv 1) (z0m _)))) (fun _ _ _ _ _=>(pv 0))) (z04 (z0R (PW.pt (z38 (z09 (y5m hr.P8) (pv 3) (z1t z03) (z0m _)) (z2s (z09 z2E (z0v z4m (z0d (z7j rfl) rfl M.min gD (z00 (pv 3) z03)) (pv 1)) (pv 2) (z0m _))))) (z05 (z0i z06)) z0p) (z05 (z0i (z0d (z7j rfl) rfl M.min gD (z00 (pv 3) z03)))))),?_⟩
 refine⟨_,rfl,p,rfl,⟨_,hS⟩,?_⟩
 refine z9E (ns:=ns) (fun y=>decide (n<y)) (fun y=>.int y) hS (by omega) (fun y ys N hy hN=>?_) (fun D hD=>?_)
 ·refine⟨_,rfl,_,rfl,_,_,rfl,rfl,_,rfl,?_⟩
  refine A9 (fun c=>?_) (fun c=>?_)
  ·rw[if_pos c] at hN
   exact⟨_,rfl,hN⟩
  ·rw[if_neg c] at hN
   exact hN
 have eD:upd H D (.lst (z2b (fun y=>decide (n<y)) (fun y=>V.int y) ns)) D=some (.lst ((ns.filter fun y=>decide (n<y)).map V.int)):=z02
 have sD:=z01 hD (.lst (z2b (fun y=>decide (n<y)) (fun y=>V.int y) ns))
 generalize upd H D (.lst (z2b (fun y=>decide (n<y)) (fun y=>V.int y) ns))=H1 at eD sD
 have mem:∀y,y∈ns.filter (fun y=>decide (n<y))↔y∈ns/\n<y:=fun y=>by rw[bV,decide_eq_true_eq]
 generalize ns.filter (fun y=>decide (n<y))=ab at eD mem
 refine⟨_,rfl,(by show 0≤sizeLine;decide),fun e0 he0=>⟨D,e0,_,rfl,rfl,SqL.of (z01 he0 _ _ _ eD),SqL.of z02,_,rfl,?_⟩⟩
 have s2:=sD.trans (z01 he0 (.lst []))
 cases ab with
 | nil=>
  refine O5 ?_
  have e:z0M ns n r=0:=z4d fun y hy h1 _=>by
   have:=(mem y).mpr ⟨hy,h1⟩
   cases this
  exact(by rw[<- e];exact q _ s2)
 | cons y0 yr=>
  refine C3 ?_
  have eL:=z01 he0 (.lst []) _ _ eD
  generalize upd H1 e0 (.lst [])=H2 at s2 eL
  refine⟨_,rfl,D,_,rfl,.inl (SqL.of eL),by simp,fun m hm hl=>⟨_,rfl,_,_,rfl,rfl,_,rfl,_,_,rfl,rfl,_,rfl,?_⟩⟩
  have hm':=(mem m).mp hm
  refine A9 (fun c=>?_) (fun c=>?_)
  ·have c':r<m-n:=z0A c
   have e:z0M ns n r=0:=z4d fun y hy h1 h2=>by
    have:=hl y ((mem y).mpr ⟨hy,h1⟩)
    omega
   exact(by rw[<- e];exact q _ s2)
  ·have c':¬r<m-n:=z3e c
   refine⟨_,rfl,D,_,rfl,.inl (SqL.of eL),by simp,fun m2 hm2 hl2=>?_⟩
   have h2:=(mem m2).mp hm2
   have e:z0M ns n r=m2:=y14 B4 h2.1 h2.2 (by have:=hl2 m hm;omega) fun y hy h1 _=>hl2 y ((mem y).mpr ⟨hy,h1⟩)
   exact(by rw[<- e];exact q _ s2)
def y3t:Sp:=fun vs H Q _=>∃i:Int,vs=[.int i]/\Q (.bl true) H
theorem y54(M:Bl mg)(F:Fun K "_law_whole" "_law_whole" z4x f fd):A7 P w K mg base CX0 1 f fd z4z y3t:=by
 have nd:=z66.nd
 refine F.ok z66 (fun vs H Q E h=>?_) (fun cdv A outer s H vs Q E hr h=>?_)
 ·obtain⟨i,rfl,_⟩:=h
  rfl
 obtain⟨i,rfl,q⟩:=h
 refine⟨_,(z05 (z0i (y6G (z0d z0J rfl M.isinstance cI (z00 (pv 0) (z00 (z1T (v:=.ty "int") rfl M.int j4 rfl) z03))) (y6U (y7j (z0d z0J rfl M.isinstance cI (z00 (pv 0) (z00 (z1T (v:=.ty "bool") rfl M.bool hE rfl) z03)))))))),?_⟩
 have k2:=z49 (K:=K) "bool" (.inr (.inl rfl)) (x:=.int i) rfl
 have k3:=z49 (K:=K) "int" (.inr (.inr (.inl rfl))) (x:=.int i) rfl
 refine⟨_,rfl,_,_,_,_,rfl,.int i,k3,_,rfl,?_⟩
 refine O5 ⟨_,rfl,_,_,_,_,rfl,.int i,k2,?_⟩
 exact⟨_,rfl,q⟩
def sgL:List Nat:=(("mM ~aA0.xX_9":Str).cps.toList)
theorem y0l:sgL.length=12:=by decide +kernel
theorem y33:sgL.Nodup:=by decide +kernel
abbrev V2:Str:="a stranger of twenty"
abbrev z8H:Str:="a long stem of them"
structure Nms(nm:List Str):Prop where
 nd:nm.Nodup
 lo:∀x∈nm,1≤x.length
 hi:∀x∈nm,x.length≤20
 far:V2∉nm
theorem y0v(a b:Str):(a++b).cps.toList=a.cps.toList++b.cps.toList:=by
 show(a.cps++b.cps).toList=_
 simp
theorem y6h(c:Nat):(⟨#[c]⟩:Str).cps.toList=[c]:=rfl
theorem z46{α β:Type}{g:α->β}:∀{l:List α},l.Nodup->(∀x∈l,∀y∈l,g x=g y->x=y)->(l.map g).Nodup
 | [],_,_=>List.nodup_nil
 | x::r,n,h=>by
  rw[cW] at n
  rw[cK,cW]
  refine⟨fun hm=>?_,z46 n.2 fun a ha b hb=>h a (bM _ ha) b (bM _ hb)⟩
  obtain⟨y,hy,e⟩:=cF.mp hm
  have:=h x bS y (bM _ hy) e.symm
  exact n.1 (this ▸ hy)
theorem z9t(lo:Int)(n:Nat):(upI lo n).Nodup:=(z1D lo n).imp fun {a b} h=>by omega
theorem y1d{t a b:Int}(ht:0≤t)(ht2:t<12)(a0:0≤a)(a1:a<12)(b0:0≤b)(b1:b<12)(h:(t+a)%12=(t+b)%12):a=b:=by omega
def W7(c:Nat)(t k:Int):Str:=W4 ⟨#[c]⟩ (1+(t+k)%12).toNat
theorem z5o(c:Nat)(t k:Int):(W7 c t k).length=(1+(t+k)%12).toNat:=by
 unfold W7
 rw[<- z1u]
 show((List.replicate _ [c]).flatten.toArray).toList.length=_
 simp
theorem y6d(c:Nat){t:Int}(h0:0≤t)(h1:t<12){m:Nat}(hm:m≤12):Nms ((upI 0 m).map (W7 c t)) where
 nd:=z46 (z9t _ _) fun a ha b hb e=>by
  have ha':=z11.mp ha
  have hb':=z11.mp hb
  have e2:=congrArg Str.length e
  rw[z5o,z5o] at e2
  exact y1d h0 h1 (by omega) (by omega) (by omega) (by omega) (by omega)
 lo:=fun x hx=>by
  obtain⟨k,hk,rfl⟩:=cF.mp hx
  rw[z5o]
  omega
 hi:=fun x hx=>by
  obtain⟨k,hk,rfl⟩:=cF.mp hx
  rw[z5o]
  omega
 far:=fun hx=>by
  obtain⟨k,hk,e⟩:=cF.mp hx
  have e2:=congrArg Str.length e
  rw[z5o] at e2
  have e3:V2.length=20:=by decide +kernel
  omega
def z8R(st:Str)(sp:Int)(t k:Int):Str:=N4 st none (some sp)++⟨#[sgL.getD ((t+k)%12).toNat 0]⟩++N4 st (some sp) none
theorem y0E{n d:Nat}{v:Int}(h0:0≤v)(h1:v≤n):HT.sIx n d (some v)=v.toNat:=by
 show(if v<0 then (v+(n:Int)).toNat else min v.toNat n)=_
 rw[if_neg (by omega),Nat.min_eq_left (by omega)]
theorem y5D(st:Str){sp:Int}(h0:0≤sp)(h1:sp≤st.length):(N4 st none (some sp)).cps.toList=st.cps.toList.take sp.toNat:=by
 show((st.cps.toList.drop 0).take (HT.sIx st.length st.length (some sp)-0))=_
 rw[y0E h0 h1,gU,jN]
theorem y5b(st:Str){sp:Int}(h0:0≤sp)(h1:sp≤st.length):(N4 st (some sp) none).cps.toList=st.cps.toList.drop sp.toNat:=by
 show((st.cps.toList.drop (HT.sIx st.length 0 (some sp))).take (st.length-HT.sIx st.length 0 (some sp)))=_
 rw[y0E h0 h1,dJ]
 rw[fL,z1u]
 exact bB _
theorem z5q(st:Str){sp:Int}(h0:0≤sp)(h1:sp≤st.length)(t k:Int):(z8R st sp t k).cps.toList=st.cps.toList.take sp.toNat++sgL.getD ((t+k)%12).toNat 0::st.cps.toList.drop sp.toNat:=by
 unfold z8R
 rw[y0v,y0v,y5D st h0 h1,y5b st h0 h1,y6h,fG]
 rfl
theorem z7z(st:Str){sp:Int}(h0:0≤sp)(h1:sp≤st.length)(t k:Int):(z8R st sp t k).length=st.length+1:=by
 rw[<- z1u,z5q st h0 h1,bI,cC,bN,fL,z1u]
 omega
theorem y4R:∀s<20,∀i<12,z8H.cps.toList.take s++sgL.getD i 0::z8H.cps.toList.drop s≠V2.cps.toList:=by decide +kernel
theorem y4X{st:Str}(hst:st=""\/st="row"\/st=z8H){sp:Int}(h0:0≤sp)(h1:sp≤st.length){t:Int}(t0:0≤t)(t1:t<12){m:Nat}(hm:m≤12):Nms ((upI 0 m).map (z8R st sp t)) where
 nd:=z46 (z9t _ _) fun a ha b hb e=>by
  have ha':=z11.mp ha
  have hb':=z11.mp hb
  have e2:(z8R st sp t a).cps.toList=(z8R st sp t b).cps.toList:=congrArg (fun z:Str=>z.cps.toList) e
  rw[z5q st h0 h1,z5q st h0 h1] at e2
  have e3:=List.append_cancel_left e2
  have e4:sgL.getD ((t+a)%12).toNat 0=sgL.getD ((t+b)%12).toNat 0:=(List.cons.inj e3).1
  have l1:((t+a)%12).toNat<sgL.length:=by rw[y0l];omega
  have l2:((t+b)%12).toNat<sgL.length:=by rw[y0l];omega
  rw[bP,bG l1,bP,bG l2] at e4
  have e5:=(List.getElem_inj y33).mp e4
  exact y1d t0 t1 (by omega) (by omega) (by omega) (by omega) (by omega)
 lo:=fun x hx=>by
  obtain⟨k,hk,rfl⟩:=cF.mp hx
  rw[z7z st h0 h1]
  omega
 hi:=fun x hx=>by
  obtain⟨k,hk,rfl⟩:=cF.mp hx
  rw[z7z st h0 h1]
  have l1:("":Str).length=0:=by decide +kernel
  have l2:("row":Str).length=3:=by decide +kernel
  have l3:z8H.length=19:=by decide +kernel
  rcases hst with rfl|rfl|rfl<;>omega
 far:=fun hx=>by
  obtain⟨k,hk,e⟩:=cF.mp hx
  have l1:("":Str).length=0:=by decide +kernel
  have l2:("row":Str).length=3:=by decide +kernel
  have l3:z8H.length=19:=by decide +kernel
  have l4:V2.length=20:=by decide +kernel
  have e2:=congrArg Str.length e
  rw[z7z st h0 h1] at e2
  rcases hst with rfl|rfl|rfl
  ·omega
  ·omega
  ·have e3:(z8R z8H sp t k).cps.toList=V2.cps.toList:=congrArg (fun z:Str=>z.cps.toList) e
   rw[z5q z8H h0 h1] at e3
   exact y4R sp.toNat (by omega) ((t+k)%12).toNat (by omega) e3
def y2H:Sp:=fun vs H Q _=>∃c m:Int,vs=[.int c,.int m]/\0≤m/\m≤12/\
 ∀(l:Addr) (nm:List Str) (H':Hp),H l=none->A4 H H'->H' l=some (.lst (nm.map V.str))->nm.length=m.toNat->Nms nm->Q (.ref l) H'
theorem y10{f:Int->V}(l:List Int):z2b (fun _=>true) f l=l.map f:=by
 unfold z2b
 rw[List.filter_eq_self.mpr fun _ _=>rfl]
theorem y57(M:Bl mg)(F:Fun K "_law_named" "_law_named" z4E f fd):A7 P w K mg base CX0 1 f fd z4B y2H:=by
 have nd:=z62.nd
 refine F.ok z62 (fun vs H Q E h=>?_) (fun cdv A outer s H vs Q E hr h=>?_)
 ·obtain⟨c,m,rfl,_⟩:=h
  rfl
 obtain⟨c,m,rfl,m0,m1,q⟩:=h
 refine⟨_,(z04 (z0n (i:=2) nd rfl (Or.inr rfl) z2Q) (z04 (z0n (i:=3) nd rfl (Or.inr rfl) (z0v z1d (z0v z1l (pv 0) z06) z06)) (z04 (z0R (z09 z2r (z0v z1d (pv 0) z06) z06 (z0m _)) (z05 (z0i (z1f ["_law_k"] ["_law_cell","_law_turn"] [0,3] rfl (z0u rfl (by decide +kernel) rfl (by decide +kernel) rfl rfl) (z2h rfl M.range (z00 (pv 1) z03)) (fun _ _ _ _ _=>(z0j (i:=0) (show((["_law_k"]:List PySem.Str)++(["_law_cell","_law_turn"]:List PySem.Str)).Nodup from by decide +kernel) rfl (Or.inl rfl))) (z0y (by decide)) z0c (fun _ _ _ _ _=>z26) (fun _ _ _ _ _=>(z0v y1E (z0Q y42 z2Q (z0v z1d (z0v z1l (pv 1) z06) z06) (fun _ _=>rfl)) (z0v z1M z06 (z0v z1d (z0v z1M (pv 2) (pv 0)) z06))))))) z0p) (z04 (z0n (i:=4) nd rfl (Or.inr rfl) (z0Q z1I (z1t (z00 z2Q (z00 z2Q (z00 z2Q z03)))) (z0v z1d (pv 0) z06) (fun _ _=>rfl))) (z04 (z0n (i:=5) nd rfl (Or.inr rfl) (z0v z1d (z0v z1l (pv 0) z06) (z0v z1M (z0d z9j rfl M.len bW (z00 (pv 4) z03)) z06))) (z05 (z0i (z1f ["_law_k"] ["_law_stem","_law_signs","_law_spot","_law_turn"] [4,2,5,3] rfl (z0u rfl (by decide +kernel) rfl (by decide +kernel) rfl rfl) (z2h rfl M.range (z00 (pv 1) z03)) (fun _ _ _ _ _=>(z0j (i:=0) (show((["_law_k"]:List PySem.Str)++(["_law_stem","_law_signs","_law_spot","_law_turn"]:List PySem.Str)).Nodup from by decide +kernel) rfl (Or.inl rfl))) (z0y (by decide)) z0c (fun _ _ _ _ _=>z26) (fun _ _ _ _ _=>(z0v z8v (z0v z8v (z5m y5c (pv 1) z73 (z7O (pv 3))) (z0Q y42 (pv 2) (z0v z1d (z0v z1M (pv 4) (pv 0)) z06) (fun _ _=>rfl))) (z5m y5c (pv 1) (z7O (pv 3)) z73))))))))))),?_⟩
 have t0:0≤c / 4%12:=dG _ (by decide)
 have t1:c / 4%12<12:=cV _ (by decide)
 refine⟨_,rfl,_,_,rfl,rfl,⟨by decide,by decide⟩,_,_,rfl,rfl,(by show(0:Int)<12;decide),?_⟩
 refine⟨_,rfl,_,_,rfl,rfl,(by show(0:Int)<4;decide),rfl,_,rfl,?_⟩
 refine A9 (fun _=>?_) (fun cn=>?_)
 ·obtain⟨sg,hsg⟩:∃sg,atI (("a ~":Str).cps.toList) (c / 48%3)=some sg:=by
   have h0:0≤c / 48%3:=dG _ (by decide)
   have h1:c / 48%3<3:=cV _ (by decide)
   have ek:c / 48%3=(((c / 48%3).toNat:Nat):Int):=by omega
   have hl:(("a ~":Str).cps.toList).length=3:=by decide +kernel
   rw[ek]
   exact⟨_,z1m (bG (by rw[hl];omega))⟩
  refine⟨_,rfl,_,rfl,by omega,by omega,?_⟩
  refine z7J (lo:=0) (n:=m.toNat) (fun _=>true) (fun k=>.str (W7 sg (c / 4%12) k)) (by omega) (fun k ys N k0 k1 hN=>?_) ?_
  ·refine⟨_,rfl,_,_,rfl,rfl,⟨by decide,by decide⟩,_,_,rfl,rfl,(by show(0:Int)<3;decide),_,_,sg,rfl,rfl,(by decide +kernel),hsg,?_⟩
   refine⟨_,rfl,_,rfl,_,_,rfl,rfl,_,_,rfl,rfl,(by show(0:Int)<12;decide),_,_,rfl,rfl,_,_,rfl,rfl,?_,?_,?_,?_⟩
   ·have:=dG (c / 4%12+k) (show(12:Int)≠0 by decide)
    omega
   ·have:=cV (c / 4%12+k) (show(0:Int)<12 by decide)
    omega
   ·show 1≤1000
    decide
   ·exact hN
  ·intro D hD
   rw[y10]
   refine q D ((upI 0 m.toNat).map (W7 sg (c / 4%12))) _ hD (z01 hD _) ?_ (by rw[b7,z0T]) (y6d sg t0 t1 (by omega))
   rw[z02,eJ]
   rfl
 ·have c4:c%4=0\/c%4=1\/c%4=2:=by
   have h1:=dG c (show(4:Int)≠0 by decide)
   have h2:=cV c (show(0:Int)<4 by decide)
   have h3:c%4≠3:=fun e=>cn (decide_eq_true (congrArg V.int e))
   omega
  obtain⟨st,hat,hst⟩:∃st:Str,atI [V.str "",V.str "row",V.str "a long stem of them"] (c%4)=some (.str st)/\(st=""\/st="row"\/st=z8H):=by
   rcases c4 with e|e|e<;>rw[e]
   ·exact⟨_,rfl,.inl rfl⟩
   ·exact⟨_,rfl,.inr (.inl rfl)⟩
   ·exact⟨_,rfl,.inr (.inr rfl)⟩
  have stl:st.length≤19:=by
   have l1:("":Str).length=0:=by decide +kernel
   have l2:("row":Str).length=3:=by decide +kernel
   have l3:z8H.length=19:=by decide +kernel
   rcases hst with rfl|rfl|rfl<;>omega
  refine⟨(by show 3≤sizeLine;decide),fun p hp=>⟨_,rfl,_,_,rfl,rfl,(by show(0:Int)<4;decide),p,_,_,_,rfl,rfl,SqL.of z02,hat,?_⟩⟩
  refine⟨_,rfl,_,_,rfl,rfl,⟨by decide,by decide⟩,_,rfl,st,rfl,z8V (by omega),_,_,rfl,rfl,_,_,rfl,rfl,by omega,?_⟩
  have s0:0≤c / 48%((st.length:Int)+1):=dG _ (by omega)
  have s1:c / 48%((st.length:Int)+1)≤(st.length:Int):=by
   have:=cV (c / 48) (show(0:Int)<(st.length:Int)+1 by omega)
   omega
  refine⟨_,rfl,_,rfl,by omega,by omega,?_⟩
  refine z7J (lo:=0) (n:=m.toNat) (fun _=>true) (fun k=>.str (z8R st (c / 48%((st.length:Int)+1)) (c / 4%12) k)) (by omega) (fun k ys N k0 k1 hN=>?_) ?_
  ·have i0:=dG (c / 4%12+k) (show(12:Int)≠0 by decide)
   have i1:=cV (c / 4%12+k) (show(0:Int)<12 by decide)
   have hsg:atI (("mM ~aA0.xX_9":Str).cps.toList) ((c / 4%12+k)%12)=some (sgL.getD ((c / 4%12+k)%12).toNat 0):=by
    have ek:(c / 4%12+k)%12=((((c / 4%12+k)%12).toNat:Nat):Int):=by omega
    have l1:((c / 4%12+k)%12).toNat<sgL.length:=by rw[y0l];omega
    have q1:atI sgL ((((c / 4%12+k)%12).toNat:Nat):Int)=some (sgL.getD ((c / 4%12+k)%12).toNat 0):=z1m (by
     rw[bP,bG l1]
     rfl)
    rw[<- ek] at q1
    exact q1
   have la:(N4 st none (some (c / 48%((st.length:Int)+1)))).length≤19:=by
    rw[<- z1u,y5D st s0 s1,bN,z1u]
    omega
   have lb:(N4 st (some (c / 48%((st.length:Int)+1))) none).length≤19:=by
    rw[<- z1u,y5b st s0 s1,fL,z1u]
    omega
   have lc:∀(x:Nat),(⟨#[x]⟩:Str).length=1:=fun _=>rfl
   have lab:∀(x:Nat),(N4 st none (some (c / 48%((st.length:Int)+1)))++(⟨#[x]⟩:Str)).length≤20:=fun x=>by
    rw[<- z1u,y0v,bI,z1u,z1u,lc]
    omega
   refine⟨_,rfl,_,rfl,_,rfl,st,rfl,z8V (by omega),?_⟩
   refine⟨_,rfl,_,rfl,_,rfl,_,_,rfl,rfl,_,_,rfl,rfl,(by show(0:Int)<12;decide),_,_,_,rfl,rfl,(by decide +kernel),hsg,?_⟩
   refine⟨_,_,rfl,rfl,z8V (by rw[lc];omega),?_⟩
   refine⟨_,rfl,_,rfl,_,rfl,st,rfl,z8V (by omega),_,_,rfl,rfl,z8V (by have:=lab (sgL.getD ((c / 4%12+k)%12).toNat 0);omega),?_⟩
   exact hN
  ·intro D hD
   rw[y10]
   refine q D ((upI 0 m.toNat).map (z8R st (c / 48%((st.length:Int)+1)) (c / 4%12))) _ ((z01 hp _).free hD) ((z01 hp _).trans (z01 hD _)) ?_ (by rw[b7,z0T]) (y4X hst s0 s1 t0 t1 (by omega))
   rw[z02,eJ]
   rfl
def z9p:Sp:=fun vs H Q _=>∃t:Int,vs=[.int t]/\0≤t/\t<1000000/\Q (.int (2^t.toNat)) H
theorem y1t(M:Bl mg)(F:Fun K "_law_doubled" "_law_doubled" z3r f fd):A7 P w K mg base CX0 1 f fd z3l z9p:=by
 have nd:=z4l.nd
 refine F.ok z4l (fun vs H Q E h=>?_) (fun cdv A outer s H vs Q E hr h=>?_)
 ·obtain⟨t,rfl,_⟩:=h
  rfl
 obtain⟨t,rfl,t0,t1,q⟩:=h
 refine⟨_,(z04 (z0n (i:=1) nd rfl (Or.inl rfl) z06) (z04 (z1c cG rfl (z2h rfl M.range (z00 (pv 0) z03)) (z0j (i:=2) nd rfl (Or.inl rfl)) (z05 (z0n (i:=1) nd rfl (Or.inl rfl) (z0v z6j (pv 1) z06)))) (z05 (z0i (pv 1))))),?_⟩
 refine⟨_,rfl,_,rfl,by omega,by omega,?_⟩
 refine z3h (lo:=0) (n:=t.toNat) (fun i σ H'=>H'=H/\∃o,σ=[some (.int t),some (.int (2^i)),o]) ⟨rfl,_,rfl⟩ (fun i σ H' hi hp=>?_) (fun σ H' hp=>?_)
 ·obtain⟨rfl,o,rfl⟩:=hp
  refine⟨_,rfl,_,_,rfl,rfl,.inr ⟨by decide,by decide⟩,rfl,some (.int (0+(i:Int))),?_⟩
  rw[Int.pow_succ]
  rfl
 ·obtain⟨rfl,o,rfl⟩:=hp
  exact⟨_,rfl,q⟩
def z9x(H:Hp)(l:Addr)(v:V)(s:List Str):Prop:=∃a,v=.ref a/\a≠l/\H a=some (.lst (s.map V.str))
theorem z9x.keep{H H':Hp}(g:A4 H H'){l:Addr}{v:V}{s:List Str}(h:z9x H l v s):z9x H' l v s:=let ⟨a,e,n,q⟩:=h;⟨a,e,n,g _ _ q⟩
theorem z9x.over{H:Hp}{l:Addr}{o:HO}{v:V}{s:List Str}(h:z9x H l v s):z9x (upd H l o) l v s:=let ⟨a,e,n,q⟩:=h;⟨a,e,n,by rw[z0e n];exact q⟩
abbrev z1X(H:Hp)(l:Addr):List V->List (List Str)->Prop:=Paired (z9x H l)
theorem z1X.keep{H H':Hp}(g:A4 H H'){l:Addr}:∀{xs:List V}{ss:List (List Str)},z1X H l xs ss->z1X H' l xs ss
 | _,_,.nil=>.nil
 | _,_,.cons r t=>.cons (r.keep g) (z1X.keep g t)
theorem z1X.over{H:Hp}{l:Addr}{o:HO}:∀{xs:List V}{ss:List (List Str)},z1X H l xs ss->z1X (upd H l o) l xs ss
 | _,_,.nil=>.nil
 | _,_,.cons r t=>.cons r.over (z1X.over t)
theorem z1X.len{H:Hp}{l:Addr}:∀{xs:List V}{ss:List (List Str)},z1X H l xs ss->xs.length=ss.length
 | _,_,.nil=>rfl
 | _,_,.cons _ t=>by rw[cC,cC,z1X.len t]
theorem z1X.get{H:Hp}{l:Addr}:∀{xs:List V}{ss:List (List Str)},z1X H l xs ss->∀(i:Nat) (s:List Str),ss[i]? = some s->∃v,xs[i]? = some v/\z9x H l v s
 | _,_,.nil,i,s,e=>by simp at e
 | _,_,.cons r t,0,s,e=>by
  simp at e
  subst e
  exact⟨_,rfl,r⟩
 | _,_,.cons r t,i+1,s,e=>by
  obtain⟨v,h1,h2⟩:=z1X.get t i s (by simpa using e)
  exact⟨v,by simpa using h1,h2⟩
theorem z2I(ns:List Str):(ns.map V.str).all z1V=true:=by
 rw[jL,jM]
 intro x _
 rfl
theorem y6t{ns:List Str}{k:Int}(h0:0≤k)(h:k<(ns.length:Int)):∃x,ns[k.toNat]? = some x/\atI (ns.map V.str) k=some (.str x):=by
 have hk:k.toNat<ns.length:=by omega
 have ek:k=((k.toNat:Nat):Int):=by omega
 have q:atI (ns.map V.str) ((k.toNat:Nat):Int)=some (.str ns[k.toNat]):=z1m (by rw[bH,bG hk];rfl)
 rw[<- ek] at q
 exact⟨_,bG hk,q⟩
def y5h(K:PySem.W.Frag):Sp:=fun vs H Q _=>∃(ln:Addr) (nm:List Str) (c m:Int),vs=[.ref ln,.int c,.int m]/\SqL K H ln (nm.map V.str)/\1≤nm.length/\nm.length≤12/\0≤m/\m≤900/\
 ∀(l:Addr) (xs:List V) (ss:List (List Str)) (H':Hp),H l=none->A4 H H'->H' l=some (.lst xs)->z1X H' l xs ss->ss.length=m.toNat->(∀s∈ss,s.Sublist nm)->Q (.ref l) H'
theorem two_pow_le{n:Nat}(h:n≤12):(1:Int)≤2^n/\(2:Int)^n≤4096:=by
 have:∀k≤12,(1:Int)≤2^k/\(2:Int)^k≤4096:=by decide
 exact this n h
theorem y6w(M:Bl mg)(F:Fun K "_law_sets" "_law_sets" z5O f fd)(C1:Cal P w K mg base 1 "_law_row" z3P y4K)(J0:Cal P w K mg base 1 "_law_doubled" z3l z9p) :
  A7 P w K mg base CX0 2 f fd z5v (y5h K):=by
 have nd:=z7e.nd
 refine F.ok z7e (fun vs H Q E h=>?_) (fun cdv A outer s H vs Q E hr h=>?_)
 ·obtain⟨ln,nm,c,m,rfl,_⟩:=h
  rfl
 obtain⟨ln,nm,c,m,rfl,hS,n1,n2,m0,m1,q⟩:=h
 refine⟨_,(z04 (z0n (i:=3) nd rfl (Or.inl rfl) (z0q J0 (rm hr) rfl (z00 (z0d z0f rfl M.len bW (z00 (pv 0) z03)) z03))) (z04 (z0n (i:=4) nd rfl (Or.inl rfl) (z1t z03)) (z04 (z1c cG rfl (z1k (z0q C1 (rm hr) rfl (z00 (pv 1) (z00 (pv 2) (z00 (z0v z6j z06 (pv 3)) z03))))) (z0j (i:=5) nd rfl (Or.inl rfl)) (z04 (z0n (i:=6) nd rfl (Or.inl rfl) (z0v z1d (pv 5) (pv 3))) (z04 (z0n (i:=7) nd rfl (Or.inl rfl) (z1t z03)) (z04 (z1c cG rfl (z1k (pv 0)) (z0j (i:=8) nd rfl (Or.inl rfl)) (z04 (z0R (z09 z2r (z0v z1d (pv 6) z06) z06 (z0m _)) (z05 (z0B (z3I cE bX cD z0O (pv 7) (z00 (pv 8) z03)))) z0p) (z05 (z0n (i:=6) nd rfl (Or.inl rfl) (z0v z1l (pv 6) z06))))) (z04 (z0R (z09 z2r (z0v z1l (pv 5) (pv 3)) z06 (z0m _)) (z05 (z0n (i:=7) nd rfl (Or.inl rfl) (z1t (z00 (z0Q z1I (pv 0) (z0v z1d (pv 5) (z0d z0f rfl M.len bW (z00 (pv 0) z03))) (fun _ _=>rfl)) z03)))) z0p) (z04 (z0R (z09 z2r (z0v z1l (pv 5) (pv 3)) z06 (z0m _)) (z05 (z0n (i:=7) nd rfl (Or.inl rfl) (z1t z03))) z0p) (z04 (z0R (z09 z2r (z0v z1l (pv 5) (pv 3)) z06 (z0m _)) (z05 (z0n (i:=7) nd rfl (Or.inl rfl) (z0t z2M rfl M.list gB (z00 (pv 0) z03)))) z0p) (z05 (z0B (z3I cE bX cD z0O (pv 4) (z00 (pv 7) z03))))))))))) (z05 (z0i (pv 4)))))),?_⟩
 have hl0:(nm.map V.str).length=nm.length:=b7 _
 refine⟨_,rfl,ln,_,rfl,.inl hS,_,rfl,by omega,by omega,?_⟩
 have pw:=two_pow_le n2
 rw[hl0]
 have ez:(2:Int)^(((nm.length:Nat):Int).toNat)=2^nm.length:=rfl
 rw[ez]
 generalize hz:(2:Int)^nm.length=z at pw ⊢
 refine⟨(by show 0≤sizeLine;decide),fun l hl=>?_⟩
 refine⟨_,rfl,_,rfl,_,rfl,_,_,rfl,rfl,.inl ⟨by decide,by decide⟩,c,m,4*z,rfl,m0,m1,by omega,by omega,fun lf fs H1 nlf s1 e1 Q3 all1=>?_⟩
 have sl:=z01 (H:=H) hl (.lst [])
 have nl:lf≠l:=fun e=>by rw[e,z02] at nlf;cases nlf
 have el1:H1 l=some (.lst []):=s1 _ _ z02
 refine⟨lf,rfl,⟨_,SqL.of e1⟩,?_⟩
 refine z1s (xs:=fs.map V.int) (fun i σ H'=>∃(xs:List V) (ss:List (List Str)) (o1 o2 o3 o4:Option V),H' l=some (.lst xs)/\z1X H' l xs ss/\ss.length=i/\(∀s∈ss,s.Sublist nm)/\H' lf=some (.lst (fs.map V.int))/\A4 H H'/\
  σ=[some (.ref ln),some (.int c),some (.int m),some (.int z),some (.ref l),o1,o2,o3,o4]) ⟨[],[],_,_,_,_,el1,.nil,rfl,(fun _ h=>nomatch h),e1,sl.trans s1,rfl⟩ (fun i σ H' hi hp=>?_) (fun i x σ H' hx hp=>?_) (fun σ H' hp=>?_)
 ·obtain⟨xs,ss,o1,o2,o3,o4,_,_,_,_,h2,_⟩:=hp
  exact SqL.of h2
 ·obtain⟨xs,ss,o1,o2,o3,o4,p1,p2,p3,p4,p5,p6,rfl⟩:=hp
  rw[bH] at hx
  cases ef:fs[i]? with
  | none=>rw[ef] at hx;cases hx
  | some g=>
   rw[ef] at hx
   cases hx
   have hg:=all1 g (bT ef)
   have hi:i<fs.length:=(cH.mp ef).1
   have lx:=p2.len
   have cd:CDiv g z:=⟨by omega,by omega⟩
   refine⟨_,rfl,_,rfl,_,_,rfl,rfl,(by omega),?_⟩
   refine⟨(by show 0≤sizeLine;decide),fun a ha=>?_⟩
   have nal:a≠l:=fun e=>by rw[e,p1] at ha;cases ha
   have naf:a≠lf:=fun e=>by rw[e,p5] at ha;cases ha
   refine⟨_,rfl,ln,rfl,⟨_,(p6.trans (z01 ha _)).seq hS⟩,?_⟩
   refine z1s (xs:=nm.map V.str) (fun k σ H2=>∃(ch:List Str) (mk:Int) (o4:Option V),ch.Sublist (nm.take k)/\H2=upd H' a (.lst (ch.map V.str))/\
    σ=[some (.ref ln),some (.int c),some (.int m),some (.int z),some (.ref l),some (.int g),some (.int mk),some (.ref a),o4]) ⟨[],_,_,jI _,rfl,rfl⟩ (fun k σ H2 hk hp=>?_) (fun k y σ H2 hy hp=>?_) (fun σ H2 hp=>?_)
   ·obtain⟨ch,mk,o4,_,rfl,_⟩:=hp
    exact(p6.trans (z01 ha _)).seq hS
   ·obtain⟨ch,mk,o4,hch,rfl,rfl⟩:=hp
    rw[bH] at hy
    cases en:nm[k]? with
    | none=>rw[en] at hy;cases hy
    | some nk=>
     rw[en] at hy
     cases hy
     have tk:=z0r en
     have hcl:ch.length≤12:=by
      have:=hch.length_le
      rw[bN] at this
      omega
     refine⟨_,rfl,_,_,rfl,rfl,(by show(0:Int)<2;decide),rfl,_,rfl,?_⟩
     refine A9 (fun _=>?_) (fun _=>?_)
     ·refine⟨_,rfl,.inl ⟨rfl,_,SqL.of z02⟩,_,rfl,a,_,_,rfl,rfl,z02,z0g (by rw[b7];omega),?_⟩
      refine⟨_,rfl,_,_,rfl,rfl,⟨by decide,by decide⟩,ch++[nk],_,some (.str nk),?_,?_,rfl⟩
      ·rw[tk]
       exact hch.append (jI _)
      ·rw[z7K,bD]
       rfl
     ·refine⟨_,rfl,_,_,rfl,rfl,⟨by decide,by decide⟩,ch,_,some (.str nk),?_,rfl,rfl⟩
      rw[tk]
      exact hch.trans (List.sublist_append_left _ _)
   ·obtain⟨ch,mk,o4,hch,rfl,rfl⟩:=hp
    rw[b7,bR] at hch
    have fin:∀(b:Addr) (cs:List Str) (H3:Hp) (o2 o4:Option V),cs.Sublist nm->b≠l->H3 b=some (.lst (cs.map V.str))->A4 (upd H' a (.lst (ch.map V.str))) H3->
      ∃(xs':List V) (ss':List (List Str)) (o1' o2' o3' o4':Option V),upd H3 l (.lst (xs++[.ref b])) l=some (.lst xs')/\z1X (upd H3 l (.lst (xs++[.ref b]))) l xs' ss'/\ss'.length=i+1/\(∀s∈ss',s.Sublist nm)/\
       upd H3 l (.lst (xs++[.ref b])) lf=some (.lst (fs.map V.int))/\A4 H (upd H3 l (.lst (xs++[.ref b])))/\
       ([some (.ref ln),some (.int c),some (.int m),some (.int z),some (.ref l),some (.int g),o2,some (.ref b),o4]:St)=[some (.ref ln),some (.int c),some (.int m),some (.int z),some (.ref l),o1',o2',o3',o4']:=by
     intro b cs H3 o2 o4 hcs hb hb3 g3
     have g4:A4 H' H3:=(z01 ha _).trans g3
     refine⟨_,ss++[cs],_,_,_,_,z02,?_,by rw[bI,p3];rfl,fun s' hs'=>?_,?_,z3s (p6.trans g4) hl,rfl⟩
     ·exact jC (p2.keep g4).over ⟨b,rfl,hb,by rw[z0e hb];exact hb3⟩
     ·rcases bO.mp hs' with h|h
      ·exact p4 s' h
      ·rw[b9.mp h]
       exact hcs
     ·rw[z0e nl]
      exact g4 _ _ p5
    have el:∀{H3:Hp},A4 (upd H' a (.lst (ch.map V.str))) H3->H3 l=some (.lst xs):=fun {H3} g3=>g3 _ _ ((z01 ha _) _ _ p1)
    have app:∀{H3:Hp},A4 (upd H' a (.lst (ch.map V.str))) H3->xs.length<sizeLine:=fun _=>z0g (by omega)
    refine⟨_,rfl,_,rfl,_,_,rfl,rfl,cd,rfl,_,rfl,?_⟩
    refine A9 (fun d1=>?_) (fun d1=>?_)
    ·obtain⟨x1,hx1,ax1⟩:=y6t (ns:=nm) (k:=g%(((nm.map V.str).length:Nat):Int)) (dG _ (by omega)) (by rw[hl0];exact cV _ (by omega))
     have q1:g / z=1:=V.int.inj (z0A d1)
     refine⟨_,rfl,_,rfl,_,rfl,ln,_,rfl,.inl ((p6.trans (z01 ha _)).seq hS),_,_,rfl,rfl,(by rw[hl0];omega),ln,_,_,_,rfl,rfl,(p6.trans (z01 ha _)).seq hS,ax1,(by show 1≤sizeLine;decide),fun b1 hb1=>?_⟩
     have g1:=z01 hb1 (.lst [.str x1])
     have sub1:[x1].Sublist nm:=List.singleton_sublist.mpr (bT hx1)
     refine⟨_,rfl,_,rfl,_,_,rfl,rfl,cd,rfl,_,rfl,?_⟩
     refine A9 (fun d=>absurd (show g / z=2 from V.int.inj (z0A d)) (by omega)) (fun _=>⟨_,rfl,_,rfl,_,_,rfl,rfl,cd,rfl,_,rfl,?_⟩)
     refine A9 (fun d=>absurd (show g / z=3 from V.int.inj (z0A d)) (by omega)) (fun _=>?_)
     refine⟨_,rfl,.inl ⟨rfl,_,SqL.of (el g1)⟩,_,rfl,l,_,_,rfl,rfl,el g1,app g1,?_⟩
     exact fin b1 [x1] _ _ _ sub1 (fun e=>by rw[e,(z01 ha (.lst (ch.map V.str))) _ _ p1] at hb1;cases hb1) z02 g1
    ·refine⟨_,rfl,_,rfl,_,_,rfl,rfl,cd,rfl,_,rfl,?_⟩
     refine A9 (fun d2=>?_) (fun d2=>?_)
     ·have q2:g / z=2:=V.int.inj (z0A d2)
      refine⟨(by show 0≤sizeLine;decide),fun b1 hb1=>?_⟩
      have g1:=z01 hb1 (.lst [])
      refine⟨_,rfl,_,rfl,_,_,rfl,rfl,cd,rfl,_,rfl,?_⟩
      refine A9 (fun d=>absurd (show g / z=3 from V.int.inj (z0A d)) (by omega)) (fun _=>?_)
      refine⟨_,rfl,.inl ⟨rfl,_,SqL.of (el g1)⟩,_,rfl,l,_,_,rfl,rfl,el g1,app g1,?_⟩
      exact fin b1 [] _ _ _ (List.nil_sublist _) (fun e=>by rw[e,(z01 ha (.lst (ch.map V.str))) _ _ p1] at hb1;cases hb1) z02 g1
     ·refine⟨_,rfl,_,rfl,_,_,rfl,rfl,cd,rfl,_,rfl,?_⟩
      refine A9 (fun d3=>?_) (fun d3=>?_)
      ·refine⟨_,rfl,ln,_,rfl,.inl ((p6.trans (z01 ha _)).seq hS),fun b1 hb1=>?_⟩
       have g1:=z01 hb1 (.lst (nm.map V.str))
       refine⟨_,rfl,.inl ⟨rfl,_,SqL.of (el g1)⟩,_,rfl,l,_,_,rfl,rfl,el g1,app g1,?_⟩
       exact fin b1 nm _ _ _ (jI _) (fun e=>by rw[e,(z01 ha (.lst (ch.map V.str))) _ _ p1] at hb1;cases hb1) z02 g1
      ·refine⟨_,rfl,.inl ⟨rfl,_,SqL.of (el (A4.refl _))⟩,_,rfl,l,_,_,rfl,rfl,el (A4.refl _),app (A4.refl _),?_⟩
       exact fin a ch _ _ _ hch nal z02 (A4.refl _)
 ·obtain⟨xs,ss,o1,o2,o3,o4,p1,p2,p3,p4,p5,p6,rfl⟩:=hp
  rw[b7] at p3
  exact⟨_,rfl,q l xs ss _ hl p6 p1 p2 (by rw[p3,Q3]) p4⟩
abbrev Row:=List (Str×Int)
def z98(p:Str×Int):DV:=.tup [.str p.1,.int p.2]
def L9(r:Row):DV:=.tup (r.map z98)
theorem y32{H:Hp}{a:Addr}{x:Str}{z:Int}(h:H a=some (.tup [.str x,.int z])):A5 H (z98 (x,z)) (.ref a):=z0x h (by show 2≤1000000;decide) (.cons (z1P x) (.cons (z0z z) .nil))
theorem y5t{xs:List V}:∀ys,HO.lst xs≠.tup ys:=fun _ e=>by cases e
def y3A:Sp:=fun vs H Q _=>∃g p:Int,vs=[.int g,.int p]/\∀r,0≤r->r≤1000000->Q (.int r) H
theorem y4m(F:Fun K "_law_value" "_law_value" z4Q f fd):A7 P w K mg base CX0 1 f fd z4R y3A:=by
 have nd:=z65.nd
 refine F.ok z65 (fun vs H Q E h=>?_) (fun cdv A outer s H vs Q E hr h=>?_)
 ·obtain⟨g,p,rfl,_⟩:=h
  rfl
 obtain⟨g,p,rfl,q⟩:=h
 refine⟨_,(z04 (z0R (z09 z2r (z0v z1l (pv 0) z06) z06 (z0m _)) (z05 (z0i (z0v z1d (z0v z1M (pv 0) (z0v z6j z06 (pv 1))) z06))) z0p) (z04 (z0R (z09 z2r (z0v z1l (pv 0) z06) z06 (z0m _)) (z05 (z0i (z0v z6j z06 (z0v z1d (z0v z1M (pv 0) (pv 1)) z06)))) z0p) (z05 (z0i (z0v z1d (z0v z1M (pv 0) (pv 1)) z06))))),?_⟩
 refine⟨_,rfl,_,_,rfl,rfl,⟨by decide,by decide⟩,rfl,_,rfl,?_⟩
 refine A9 (fun _=>?_) (fun _=>?_)
 ·refine⟨_,rfl,_,rfl,_,_,rfl,rfl,.inl ⟨by decide,by decide⟩,_,_,rfl,rfl,_,_,rfl,rfl,(by show(0:Int)<1000001;decide),?_⟩
  have h1:=dG (g+7*p) (show(1000001:Int)≠0 by decide)
  have h2:=cV (g+7*p) (show(0:Int)<1000001 by decide)
  exact q _ h1 (by omega)
 ·refine⟨_,rfl,_,_,rfl,rfl,⟨by decide,by decide⟩,rfl,_,rfl,?_⟩
  have h1:=dG (g+p) (show(2:Int)≠0 by decide)
  have h2:=cV (g+p) (show(0:Int)<2 by decide)
  refine A9 (fun _=>?_) (fun _=>?_)
  ·refine⟨_,rfl,_,rfl,_,_,rfl,rfl,_,_,rfl,rfl,(by show(0:Int)<2;decide),_,_,rfl,rfl,.inl ⟨by decide,by decide⟩,?_⟩
   exact q _ (by omega) (by omega)
  ·refine⟨_,rfl,_,rfl,_,_,rfl,rfl,_,_,rfl,rfl,(by show(0:Int)<2;decide),?_⟩
   exact q _ h1 (by omega)
structure Rws(nm:List Str)(rows:List Row):Prop where
 sub:∀r∈rows,(r.map Prod.fst).Sublist nm
 val:∀r∈rows,∀p∈r,0≤p.2/\p.2≤1000000
def y1b:Sp:=fun vs H Q _=>∃(l:Addr) (xs:List V) (ss:List (List Str)) (c:Int),vs=[.ref l,.int c]/\H l=some (.lst xs)/\z1X H l xs ss/\ss.length≤900/\(∀s∈ss,s.length≤12)/\
 ∀(lr:Addr) (us:List V) (rows:List Row) (H':Hp),H lr=none->A4 H H'->H' lr=some (.lst us)->z0a H' (rows.map L9) us->rows.map (fun r=>r.map Prod.fst)=ss->(∀r∈rows,∀p∈r,0≤p.2/\p.2≤1000000)->Q (.ref lr) H'
theorem y3d(M:Bl mg)(F:Fun K "_law_valued" "_law_valued" z3M f fd)(C1:Cal P w K mg base 1 "_law_row" z3P y4K)(L7:Cal P w K mg base 1 "_law_value" z4R y3A) :
  A7 P w K mg base CX0 2 f fd z45 y1b:=by
 have nd:=z51.nd
 refine F.ok z51 (fun vs H Q E h=>?_) (fun cdv A outer s H vs Q E hr h=>?_)
 ·obtain⟨l,xs,ss,c,rfl,_⟩:=h
  rfl
 obtain⟨l,xs,ss,c,rfl,hL,hSs,n0,n1,q⟩:=h
 refine⟨_,(z04 (z0n (i:=2) nd rfl (Or.inl rfl) (z0q C1 (rm hr) rfl (z00 (pv 1) (z00 (z0d z0f rfl M.len bW (z00 (pv 0) z03)) (z00 z06 z03))))) (z04 (z0n (i:=3) nd rfl (Or.inl rfl) (z1t z03)) (z04 (z1c cG rfl (z2h rfl M.range (z00 (z0d z0f rfl M.len bW (z00 (pv 0) z03)) z03)) (z0j (i:=4) nd rfl (Or.inl rfl)) (z04 (z0n (i:=5) nd rfl (Or.inl rfl) (z1t z03)) (z04 (z1c cG rfl (z2h rfl M.range (z00 (z0d z0f rfl M.len bW (z00 (z0Q z1I (pv 0) (pv 4) (fun _ _=>rfl)) z03)) z03)) (z0j (i:=6) nd rfl (Or.inl rfl)) (z05 (z0B (z3I cE bX cD z0O (pv 5) (z00 (z0Y (z00 (z0Q z1I (z0Q z1I (pv 0) (pv 4) (fun _ _=>rfl)) (pv 6) (fun _ _=>rfl)) (z00 (z0q L7 (rm hr) rfl (z00 (z0Q z1I (pv 2) (pv 4) (fun _ _=>rfl)) (z00 (pv 6) z03))) z03))) z03))))) (z05 (z0B (z3I cE bX cD z0O (pv 3) (z00 (z0t z0s rfl M.tuple bL (z00 (pv 5) z03)) z03))))))) (z05 (z0i (pv 3)))))),?_⟩
 have hl0:=hSs.len
 refine⟨_,rfl,_,rfl,l,_,rfl,.inl (SqL.of hL),_,_,_,rfl,by omega,by omega,by decide,by decide,fun lf fs H1 nlf s1 e1 Q3 all1=>?_⟩
 have len1':fs.length=ss.length:=by rw[Q3,hl0];rfl
 refine⟨(by show 0≤sizeLine;decide),fun lr hlr=>?_⟩
 have nr:lf≠lr:=z0l e1 hlr
 have nlr0:H lr=none:=s1.free hlr
 refine⟨_,rfl,l,_,rfl,.inl (SqL.of ((s1.trans (z01 hlr _)) _ _ hL)),_,rfl,by omega,by omega,?_⟩
 refine z3h (lo:=0) (n:=((xs.length:Nat):Int).toNat) (fun i σ H'=>∃(us:List V) (rows:List Row) (o1 o2 o3:Option V),H' lr=some (.lst us)/\z0a H' (rows.map L9) us/\rows.map (fun r=>r.map Prod.fst)=ss.take i/\(∀r∈rows,∀p∈r,0≤p.2/\p.2≤1000000)/\A4 H1 H'/\
  σ=[some (.ref l),some (.int c),some (.ref lf),some (.ref lr),o1,o2,o3]) ⟨[],[],_,_,_,z02,.nil,rfl,(fun _ h=>nomatch h),z01 hlr _,rfl⟩ (fun i σ H' hi hp=>?_) (fun σ H' hp=>?_)
 ·obtain⟨us,rows,o1,o2,o3,p1,p2,p3,p4,p5,rfl⟩:=hp
  have hi':i<ss.length:=by
   have:((xs.length:Nat):Int).toNat=xs.length:=rfl
   omega
  have ei:(0:Int)+(i:Int)=(i:Int):=Int.zero_add _
  have es:ss[i]? = some ss[i]:=bG hi'
  generalize ss[i]=sI at es
  have hsI:=n1 sI (bT es)
  obtain⟨v,hv,a,rfl,na,ha⟩:=hSs.get i sI es
  have lus:=p2.length
  rw[b7] at lus
  have lrows:rows.length=i:=by
   have:=congrArg List.length p3
   rw[b7,bN] at this
   omega
  have atv:atI xs ((0:Int)+(i:Int))=some (.ref a):=by rw[ei];exact z1m hv
  have gl:∀{H2:Hp},A4 H' H2->H2 l=some (.lst xs)/\H2 a=some (.lst (sI.map V.str))/\H2 lf=some (.lst (fs.map V.int)):=fun {H2} g=>⟨(s1.trans (p5.trans g)) _ _ hL,(s1.trans (p5.trans g)) _ _ ha,(p5.trans g) _ _ e1⟩
  refine⟨(by show 0≤sizeLine;decide),fun lo hlo=>?_⟩
  have go:=z01 (H:=H') hlo (.lst [])
  refine⟨_,rfl,_,rfl,l,_,_,_,rfl,rfl,SqL.of (gl go).1,atv,a,_,rfl,.inl (SqL.of (gl go).2.1),_,rfl,by omega,by rw[b7];omega,?_⟩
  have hls:(sI.map V.str).length=sI.length:=b7 _
  refine z3h (lo:=0) (n:=(((sI.map V.str).length:Nat):Int).toNat) (fun j σ H2=>∃(zs:List V) (row:Row) (o3:Option V),H2 lo=some (.lst zs)/\z0a H2 (row.map z98) zs/\row.map Prod.fst=sI.take j/\(∀p∈row,0≤p.2/\p.2≤1000000)/\A4 H' H2/\
   σ=[some (.ref l),some (.int c),some (.ref lf),some (.ref lr),some (.int (0+(i:Int))),some (.ref lo),o3]) ⟨[],[],_,z02,.nil,rfl,(fun _ h=>nomatch h),go,rfl⟩ (fun j σ H2 hj hp=>?_) (fun σ H2 hp=>?_)
  ·obtain⟨zs,row,o3,r1,r2,r3,r4,r5,rfl⟩:=hp
   have hj':j<sI.length:=by
    have:(((sI.map V.str).length:Nat):Int).toNat=sI.length:=by rw[hls];rfl
    omega
   have ej:(0:Int)+(j:Int)=(j:Int):=Int.zero_add _
   have ex:sI[j]? = some sI[j]:=bG hj'
   generalize sI[j]=x at ex
   have atx:atI (sI.map V.str) ((0:Int)+(j:Int))=some (.str x):=by
    rw[ej]
    exact z1m (by rw[bH,ex];rfl)
   have atf:atI (fs.map V.int) ((0:Int)+(i:Int))=some (.int (fs.getD i 0)):=by
    rw[ei]
    exact y08 (ns:=fs) (k:=(i:Int)) (by omega) (by omega)
   have lrow:row.length=j:=by
    have:=congrArg List.length r3
    rw[b7,bN] at this
    omega
   have lz:=r2.length
   rw[b7] at lz
   refine⟨_,rfl,.inl ⟨rfl,_,SqL.of r1⟩,_,rfl,_,rfl,l,_,_,_,rfl,rfl,SqL.of (gl r5).1,atv,_,rfl,a,_,_,_,rfl,rfl,SqL.of (gl r5).2.1,atx,?_⟩
   refine⟨_,rfl,_,rfl,lf,_,_,_,rfl,rfl,SqL.of (gl r5).2.2,atf,_,rfl,_,_,rfl,fun z z0 z1=>⟨(by show 2≤sizeLine;decide),fun t ht=>?_⟩⟩
   have gt:=z01 (H:=H2) ht (.tup [.str x,.int z])
   refine⟨lo,zs,_,rfl,rfl,gt _ _ r1,z0g (by omega),?_⟩
   refine⟨_,row++[(x,z)],some (.int (0+(j:Int))),z02,?_,?_,fun p hp=>?_,z3s (r5.trans gt) hlo,rfl⟩
   ·rw[bD]
    exact z0a.over (gt _ _ r1) y5t _ _ (z0a.snoc (z0a.keep gt _ _ r2) (y32 z02))
   ·rw[bD,r3,z0r ex]
    rfl
   ·rcases bO.mp hp with h|h
    ·exact r4 p h
    ·rw[b9.mp h]
     exact⟨z0,z1⟩
  ·obtain⟨zs,row,o3,r1,r2,r3,r4,r5,rfl⟩:=hp
   have er:(((sI.map V.str).length:Nat):Int).toNat=sI.length:=by rw[hls];rfl
   rw[er,bR] at r3
   have lrow:row.length≤12:=by
    have:=congrArg List.length r3
    rw[b7] at this
    omega
   refine⟨_,rfl,.inl ⟨rfl,_,SqL.of (r5 _ _ p1)⟩,_,rfl,lo,_,rfl,.inl ⟨SqL.of r1,fun t ht=>?_⟩⟩
   have gt:=z01 (H:=H2) ht (.tup zs)
   have el:=(r5.trans gt) _ _ p1
   refine⟨lr,us,_,rfl,rfl,el,z0g (by omega),?_⟩
   refine⟨_,rows++[row],_,_,_,z02,?_,?_,fun r hr'=>?_,z3s (p5.trans (r5.trans gt)) hlr,rfl⟩
   ·rw[bD]
    refine z0a.over el y5t _ _ (z0a.snoc (z0a.keep (r5.trans gt) _ _ p2) (z0x z02 ?_ (z0a.keep gt _ _ r2)))
    rw[b7]
    omega
   ·rw[bD,p3,z0r es]
    exact congrArg (ss.take i++·) (congrArg (fun z=>[z]) r3)
   ·rcases bO.mp hr' with h|h
    ·exact p4 r h
    ·rw[b9.mp h]
     exact r4
 ·obtain⟨us,rows,o1,o2,o3,p1,p2,p3,p4,p5,rfl⟩:=hp
  have er:((xs.length:Nat):Int).toNat=ss.length:=by rw[hl0];rfl
  rw[er,bR] at p3
  exact⟨_,rfl,q lr us rows _ nlr0 (s1.trans p5) p1 p2 p3 p4⟩
def z9M(K:PySem.W.Frag):Sp:=fun vs H Q _=>∃(a ln:Addr) (ns:List Int) (nm:List Str),vs=[.ref a,.ref ln]/\SqL K H a (ns.map V.int)/\SqL K H ln (nm.map V.str)/\1≤nm.length/\nm.length≤12/\
 ∀(lr:Addr) (us:List V) (rows:List Row) (H':Hp),H lr=none->A4 H H'->H' lr=some (.lst us)->z0a H' (rows.map L9) us->rows.length≤60->Rws nm rows->Q (.ref lr) H'
theorem y1s(F:Fun K "_law_numbers" "_law_numbers" z3u f fd)(C6:Cal P w K mg base 1 "_law_at" z6C (Z6 K))(D5:Cal P w K mg base 1 "_law_pick" z4g y2d)
  (M9:Cal P w K mg base 2 "_law_sets" z5v (y5h K)) (K2:Cal P w K mg base 2 "_law_valued" z45 y1b):A7 P w K mg base CX0 3 f fd z3m (z9M K):=by
 have nd:=z4v.nd
 refine F.ok z4v (fun vs H Q E h=>?_) (fun cdv A outer s H vs Q E hr h=>?_)
 ·obtain⟨a,ln,ns,nm,rfl,_⟩:=h
  rfl
 obtain⟨a,ln,ns,nm,rfl,hS,hN,n1,n2,q⟩:=h
 refine⟨_,(z04 (z0n (i:=2) nd rfl (Or.inl rfl) (z0q D5 (rm hr) rfl (z00 (z0q C6 (rm hr) rfl (z00 (pv 0) (z00 z06 z03))) (z00 z06 z03)))) (z04 (z0n (i:=3) nd rfl (Or.inl rfl) (z0q M9 (rm hr) rfl (z00 (pv 1) (z00 (z0q C6 (rm hr) rfl (z00 (pv 0) (z00 z06 z03))) (z00 (pv 2) z03))))) (z05 (z0i (z0q K2 (rm hr) rfl (z00 (pv 3) (z00 (z0q C6 (rm hr) rfl (z00 (pv 0) (z00 z06 z03))) z03))))))),?_⟩
 refine⟨_,rfl,a,ns,1,rfl,hS,by decide,_,_,rfl,(by decide),fun r h0 h1=>?_⟩
 refine⟨_,rfl,_,rfl,a,ns,2,rfl,hS,by decide,_,rfl,ln,nm,_,r,rfl,hN,n1,n2,h0,by omega,fun l xs ss H1 nl g1 e1 st len sub=>?_⟩
 refine⟨_,rfl,_,rfl,a,ns,3,rfl,g1.seq hS,by decide,l,xs,ss,_,rfl,e1,st,by omega,fun s hs=>cO (sub s hs).length_le n2,fun lr us rows H2 nlr g2 e2 tl hm hv=>?_⟩
 refine q lr us rows H2 (g1.free nlr) (g1.trans g2) e2 tl ?_ ⟨fun r hr'=>?_,hv⟩
 ·have:=congrArg List.length hm
  rw[b7] at this
  omega
 ·have:r.map Prod.fst∈ss:=by rw[<- hm];exact gM hr'
  exact sub _ this
def P9(s:List Str):DV:=.tup (s.map DV.str)
def dnI(hi:Int)(j:Nat):List Int:=(List.range j).map fun(k:Nat)=>hi-(k:Int)
theorem y4p(hi:Int)(j:Nat):dnI hi (j+1)=dnI hi j++[hi-(j:Int)]:=by
 unfold dnI
 rw[List.range_succ,bD]
 rfl
theorem y0w(hi:Int)(j:Nat):(dnI hi j).length=j:=by unfold dnI;rw[b7,dQ]
theorem z7D{hi:Int}{j:Nat}{x:Int}:x∈dnI hi j↔hi-j<x/\x≤hi:=by
 unfold dnI
 rw[cF]
 constructor
 ·rintro⟨k,hk,rfl⟩
  have:=eQ.mp hk
  omega
 ·rintro⟨h1,h2⟩
  exact⟨(hi-x).toNat,eQ.mpr (by omega),by omega⟩
def z1N(r:Row):List Str:=r.map Prod.fst
def z0D(rows:List Row)(n:Int):Row:=rows.getD (n-1).toNat []
def y1S(rows:List Row)(k:Int):DV:=.tup [.int k,P9 (z1N (z0D rows k))]
def z5K(n r:Int):List Int:=(dnI (n-1) (n-1).toNat).filter fun k=>decide (n-k≤r)
def y4C(rows:List Row)(n r:Int):DV:=.tup ((z5K n r).map (y1S rows))
def z0Z(rows:List Row)(n r:Int):DV:=.tup [.int n,L9 (z0D rows n),y4C rows n r]
theorem z6S{H:Hp}{rows:List Row}{us:List V}(h:z0a H (rows.map L9) us){k:Int}(k0:1≤k)(k1:k≤rows.length):∃v,us[(k-1).toNat]? = some v/\atI us (k-1)=some v/\A5 H (L9 (z0D rows k)) v:=by
 have hk:(k-1).toNat<rows.length:=by omega
 obtain⟨v,e,t⟩:=h.get (k-1).toNat (L9 (z0D rows k)) (by
  unfold z0D
  rw[bH,bP,bG hk]
  rfl)
 have ek:k-1=(((k-1).toNat:Nat):Int):=by omega
 exact⟨v,e,by rw[ek];exact z1m e,t⟩
theorem z3z{H:Hp}:∀{r:Row}{xs:List V},z0a H (r.map z98) xs->∀(i:Nat) (x:V),xs[i]? = some x->∃(p:Str×Int) (a:Addr),r[i]? = some p/\x=.ref a/\H a=some (.tup [.str p.1,.int p.2]):=by
 intro r xs h i x e
 obtain⟨d,e1,t⟩:=h.at i x e
 rw[bH] at e1
 cases er:r[i]? with
 | none=>rw[er] at e1;cases e1
 | some p=>
  rw[er] at e1
  have e2:z98 p=d:=Option.some.inj e1
  subst e2
  obtain⟨a,ys,rfl,h1,_,h2⟩:=z0h t
  obtain⟨y1,r1,rfl,t1,h3⟩:=z08 h2
  obtain⟨y2,r2,rfl,t2,h4⟩:=z08 h3
  have:=z0E h4
  subst this
  rw[z2g t1,z0G t2] at h1
  exact⟨p,a,rfl,rfl,h1⟩
theorem y3z{rows:List Row}(h:∀w∈rows,w.length≤12)(k:Int):(z0D rows k).length≤12:=by
 unfold z0D
 rw[bP]
 cases e:rows[(k-1).toNat]? with
 | none=>exact cQ _
 | some w=>exact h w (bT e)
structure E2(zs:List Str):Prop where
 lo:1≤zs.length
 hi:zs.length≤12
 nd:zs.Nodup
def SqN(K:PySem.W.Frag)(H:Hp)(p:Addr)(zs:List Str):Prop:=SqL K H p (zs.map V.str)\/SqT K H p (zs.map V.str)
theorem SqN.keep{K:PySem.W.Frag}{H H':Hp}{p:Addr}{zs:List Str}(h:A4 H H')(x:SqN K H p zs):SqN K H' p zs:=x.imp (fun q=>h.seq q) fun q=>z6A h q
def z8q(K:PySem.W.Frag):Sp:=fun vs H Q _=>∃(p:Addr) (zs:List Str),vs=[.ref p]/\SqN K H p zs/\E2 zs/\∀H',A4 H H'->Q .non H'
theorem y0c(M:Bl mg)(F:Fun K "refuse_bad_names" "refuse_bad_names" z1Z f fd):A7 P w K mg base CX0 1 f fd z24 (z8q K):=by
 have nd:=z2O.nd
 refine F.ok z2O (fun vs H Q E h=>?_) (fun cdv A outer s H vs Q E hr h=>?_)
 ·obtain⟨p,zs,rfl,_⟩:=h
  rfl
 ·obtain⟨p,zs,rfl,hp,g,k⟩:=h
  refine⟨_,(z04 (z0R (z09 z7V (z0d z0f rfl M.len bW (z00 (pv 0) z03)) z06 (z0m _)) (z05 z1q) z0p) (z04 (z0R (z09 z2E (z0d z0f rfl M.len bW (z00 (pv 0) z03)) (z2w rfl M.MOST_NAMES) (z0m _)) (z05 z1q) z0p) (z05 (z0R (z09 z8K (z0d z5n rfl M.len bW (z00 (z0t (z4j rfl) rfl M.set gG (z00 (pv 0) z03)) z03)) (z0d z0f rfl M.len bW (z00 (pv 0) z03)) (z0m _)) (z05 z1q) z0p)))),?_⟩
  have:=g.lo
  have:=g.hi
  have el:(zs.map V.str).length=zs.length:=b7 _
  refine⟨_,rfl,p,_,rfl,hp,_,_,rfl,rfl,_,rfl,A9 (fun q=>absurd (z0A q) (by omega)) fun _=>?_⟩
  refine⟨_,rfl,p,_,rfl,hp,_,_,rfl,rfl,_,rfl,A9 (fun q=>absurd (z0A q) (by omega)) fun _=>?_⟩
  refine⟨_,rfl,p,zs,rfl,hp,by omega,fun l hl=>⟨l,zs,rfl,z02,by omega,_,rfl,p,zs.map V.str,rfl,SqN.keep (z01 hl _) hp,rfl,_,rfl,?_⟩⟩
  refine y6C ?_ (k _ (z01 hl _))
  rw[y3H g.nd,el]
def z8r:Sp:=fun vs H Q _=>∃r:Int,vs=[.int r]/\0≤r/\r≤10/\Q .non H
theorem y0j(M:Bl mg)(F:Fun K "refuse_bad_reach" "refuse_bad_reach" z20 f fd):A7 P w K mg base CX0 1 f fd z25 z8r:=by
 have nd:=z2K.nd
 refine F.ok z2K (fun vs H Q E h=>?_) (fun cdv A outer s H vs Q E hr h=>?_)
 ·obtain⟨r,rfl,_⟩:=h
  rfl
 ·obtain⟨r,rfl,r0,r1,k⟩:=h
  refine⟨_,(z05 (z0R (PW.pt (z38 (z09 z7V (pv 0) z06 (z0m _)) (z2s (z09 z2E (pv 0) (z2w rfl M.MOST_REACH) (z0m _))))) (z05 z1q) z0p)),?_⟩
  refine⟨_,rfl,_,_,rfl,rfl,_,rfl,A9 (fun q=>absurd (z0A q) (by omega)) fun _=>?_⟩
  exact⟨_,rfl,_,_,rfl,rfl,_,rfl,A9 (fun q=>absurd (z0A q) (by omega)) fun _=>k⟩
def HdN(K:PySem.W.Frag)(H:Hp)(p:Addr)(zs:List Str):Prop:=SqL K H p (zs.map V.str)\/H p=some (.tup (zs.map V.str))
theorem HdN.sq{K:PySem.W.Frag}{H:Hp}{p:Addr}{zs:List Str}(h:HdN K H p zs):SqN K H p zs:=h.imp id SqT.of
theorem HdN.keep{K:PySem.W.Frag}{H H':Hp}{p:Addr}{zs:List Str}(s:A4 H H')(h:HdN K H p zs):HdN K H' p zs:=h.imp (fun q=>s.seq q) fun q=>s _ _ q
def z5G(K:PySem.W.Frag):Sp:=fun vs H Q _=>∃(p:Addr) (zs:List Str) (r:Int),vs=[.ref p,.int r]/\HdN K H p zs/\E2 zs/\0≤r/\r≤10/\∀(l:Addr) (H':Hp),A4 H H'->H' l=some (.tup (zs.map V.str))->Q (.ref l) H'
theorem y0d(M:Bl mg)(F:Fun K "bulletin_names" "bulletin_names" z2D f fd)(D6:Cal P w K mg base 1 "refuse_bad_names" z24 (z8q K))(D7:Cal P w K mg base 1 "refuse_bad_reach" z25 z8r) :
  A7 P w K mg base CX0 2 f fd z1U (z5G K):=by
 have nd:=z3D.nd
 refine F.ok z3D (fun vs H Q E h=>?_) (fun cdv A outer s H vs Q E hr h=>?_)
 ·obtain⟨p,zs,r,rfl,_⟩:=h
  rfl
 ·obtain⟨p,zs,r,rfl,hp,g,r0,r1,k⟩:=h
  refine⟨_,(z04 (z0B (z0q D6 (rm hr) rfl (z00 (pv 0) z03))) (z04 (z0B (z0q D7 (rm hr) rfl (z00 (pv 1) z03))) (z05 (z0i (z0t z0s rfl M.tuple bL (z00 (pv 0) z03)))))),?_⟩
  refine⟨_,rfl,p,zs,rfl,hp.sq,g,fun H1 s1=>⟨_,rfl,r,rfl,r0,r1,_,rfl,p,zs.map V.str,rfl,?_⟩⟩
  rcases hp.keep s1 with hq|hq
  ·exact .inl ⟨hq,fun l hl=>k l _ (s1.trans (z01 hl _)) z02⟩
  ·exact .inr ⟨SqT.of hq,k p _ s1 hq⟩
def z0o(fp:List Addr)(H H':Hp):Prop:=∀b o,H b=some o->b∉fp->H' b=some o
theorem z0o.of{fp:List Addr}{H H':Hp}(h:A4 H H'):z0o fp H H':=fun b o e _=>h b o e
theorem z0o.then{fp:List Addr}{H H1 H2:Hp}(h:z0o fp H H1)(g:A4 H1 H2):z0o fp H H2:=fun b o e n=>g b o (h b o e n)
def z47(H:Hp)(fp:List Addr):Prop:=∀b∈fp,∀xs,H b≠some (.tup xs)
mutual
theorem A5.but{fp:List Addr}{H H':Hp}(s:z0o fp H H')(n:z47 H fp):∀(d:DV) (x:V),A5 H d x->A5 H' d x
 | .non,_,h=>by unfold A5 at h ⊢;exact h
 | .bl _,_,h=>by unfold A5 at h ⊢;exact h
 | .int _,_,h=>by unfold A5 at h ⊢;exact h
 | .str _,_,h=>by unfold A5 at h ⊢;exact h
 | .tup ds,_,h=>by
  unfold A5 at h ⊢
  obtain⟨a,xs,e,h1,h2,h3⟩:=h
  exact⟨a,xs,e,s _ _ h1 (fun m=>n a m xs h1),h2,z0a.but s n ds xs h3⟩
theorem z0a.but{fp:List Addr}{H H':Hp}(s:z0o fp H H')(n:z47 H fp):∀(ds:List DV) (xs:List V),z0a H ds xs->z0a H' ds xs
 | [],_,h=>by unfold z0a at h ⊢;exact h
 | d::ds,_,h=>by
  unfold z0a at h ⊢
  obtain⟨x,r,e,h1,h2⟩:=h
  exact⟨x,r,e,A5.but s n d x h1,z0a.but s n ds r h2⟩
end
theorem y04{H:Hp}{x dx b:Addr}{o u v:HO}(nx:H x=none)(ndx:H dx=none)(h:H b=some o):upd (upd H dx u) x v b=some o:=by
 rw[z0e (z0l h nx),z0e (z0l h ndx)]
 exact h
theorem z7t{H H1:Hp}{C x dx:Addr}(s:A4 H H1)(nx:H1 x=none)(ndx:H1 dx=none):A4 H (upd (upd H1 dx (.own x)) x (.ins C dx [])):=fun _ _ e=>y04 nx ndx (s _ _ e)
theorem z7C{H H1 H2:Hp}{x:Addr}(b:z0o [x] H1 H2)(m:A4 H H1)(nx:H x=none):A4 H H2:=fun c o e=>b c o (m c o e) (by
 rw[b9]
 exact z0l e nx)
theorem z5U{H H1:Hp}{x dx b:Addr}(m:A4 H H1)(nx:H x=none)(ndx:H dx=none)(h:b=x\/b=dx\/H1 b=none):H b=none:=by
 rcases h with rfl|rfl|h
 ·exact nx
 ·exact ndx
 ·exact m.free h
theorem y2k{fp fp' fp2:List Addr}{H7 H' GW:Hp}(bt:z0o fp H7 H')(ff:∀b∈fp',b∈fp\/H7 b=none)(gW:A4 H' GW)(hf2:∀b∈fp2,b∈fp'\/GW b=none):∀b∈fp2,b∈fp\/H7 b=none:=fun b m=>(hf2 b m).elim (ff b) fun z=>by
 cases e:H7 b with
 | none=>exact .inr rfl
 | some o=>
  by_cases nb:b∈fp
  ·exact .inl nb
  ·rw[gW _ _ (bt b o e nb)] at z
   cases z
def z0b(had:List Int):List Int:=(upI 1 60).filter fun x=>decide (x∈had)
def W0(had:List Int):Int:=(z0b had).getLastD 0
def O8(had:List Int)(n:Int):List Int:=if n∈had then had else had++[n]
theorem y17{had:List Int}{n x:Int}:x∈O8 had n↔x∈had\/x=n:=by
 unfold O8
 by_cases h:n∈had
 ·rw[if_pos h]
  exact⟨.inl,fun q=>q.elim id fun e=>e ▸ h⟩
 ·rw[if_neg h,bO,b9]
theorem z0L{had:List Int}{x:Int}:x∈z0b had↔(1≤x/\x<1+60)/\x∈had:=by
 unfold z0b
 rw[bV,z11,decide_eq_true_eq]
 rfl
theorem z1j(had:List Int):(z0b had).Pairwise (· < ·):=(z1D 1 60).filter _
theorem z2G(had:List Int):(z0b had).length≤60:=by
 have h:=cM (fun x=>decide (x∈had)) (upI 1 60)
 rw[z0T] at h
 exact h
theorem y1O{a b:List Int}(h:∀x,x∈a↔x∈b):z0b a=z0b b:=by
 unfold z0b
 congr 1
 funext x
 exact decide_eq_decide.mpr (h x)
theorem y0e{ns ms:List Int}(nd:ns.Nodup)(B4:∀x∈ns,1≤x/\x≤60)(hp:ms.Perm ns)(hs:ms.Pairwise (·≤·)):ms=z0b ns:=by
 have n2:ms.Nodup:=hp.nodup_iff.mpr nd
 have lt:ms.Pairwise (· < ·):=by
  have:=List.pairwise_and_iff.mpr ⟨hs,n2⟩
  exact this.imp fun h=>by
   have:=h.1
   have:=h.2
   omega
 refine z2a lt (z1j _) fun x=>?_
 rw[z0L,hp.mem_iff]
 exact⟨fun h=>⟨by have:=B4 x h;omega,h⟩,fun h=>h.2⟩
abbrev ShP:=Hp->Addr->List Addr->List Str->Int->(Int->DV)->List Int->Prop
structure T8(C:Addr)(ms:List Str)(Sh:ShP):Prop where
 ins:∀{H p fp zs r iss had},Sh H p fp zs r iss had->∃dx fs,H p=some (.ins C dx fs)/\∀m∈ms,fs.lookup m=none
 own:∀{H p fp zs r iss had},Sh H p fp zs r iss had->∀b∈fp,∃o,H b=some o/\∀xs,o≠.tup xs
 keep:∀{H H' p fp gp zs r iss had},Sh H p fp zs r iss had->z0o gp H H'->(∀b∈gp,b∉fp)->z47 H gp->Sh H' p fp zs r iss had
theorem T8.same{C:Addr}{ms:List Str}{Sh:ShP}(O:T8 C ms Sh){H H':Hp}{p:Addr}{fp:List Addr}{zs:List Str}{r:Int}{iss:Int->DV}{had:List Int}(h:Sh H p fp zs r iss had)(s:A4 H H'):Sh H' p fp zs r iss had:=
 O.keep (gp:=[]) h (.of s) (fun _ q=>by cases q) fun _ q=>by cases q
theorem T8.N3{C:Addr}{ms:List Str}{Sh:ShP}(O:T8 C ms Sh){H:Hp}{p:Addr}{fp:List Addr}{zs:List Str}{r:Int}{iss:Int->DV}{had:List Int}(h:Sh H p fp zs r iss had):z47 H fp:=fun b m xs e=>by
 obtain⟨o,e1,n⟩:=O.own h b m
 rw[e1] at e
 exact n xs (Option.some.inj e)
def y0I(K:PySem.W.Frag)(C:Addr)(Sh:ShP):Sp:=fun vs H Q _=>∃(x dx pn:Addr) (zs:List Str) (r:Int),vs=[.ref x,.ref pn,.int r]/\H x=some (.ins C dx [])/\dx≠x/\H dx=some (.own x)/\HdN K H pn zs/\E2 zs/\0≤r/\r≤10/\
 ∀(fp:List Addr) (H':Hp),(∀b∈fp,b=x\/b=dx\/H b=none)->z0o [x] H H'->(∀iss,Sh H' x fp zs r iss [])->Q .non H'
def y6S(Sh:ShP):Sp:=fun vs H Q _=>∃(p:Addr) (v:V) (fp:List Addr) (zs:List Str) (r:Int) (iss:Int->DV) (had:List Int) (n:Int) (ds:List DV),vs=[.ref p,v]/\Sh H p fp zs r iss had/\A5 H (iss n) v/\iss n=.tup (.int n::ds)/\1≤n/\n≤60/\
 ∀(fp':List Addr) (H':Hp),(∀b∈fp',b∈fp\/H b=none)->z0o fp H H'->Sh H' p fp' zs r iss (O8 had n)->Q (.bl (decide (n∉had))) H'
def z5T(Sh:ShP):Sp:=fun vs H Q _=>∃(p:Addr) (fp:List Addr) (zs:List Str) (r:Int) (iss:Int->DV) (had:List Int),vs=[.ref p]/\Sh H p fp zs r iss had/\
 ∀(l:Addr) (H':Hp),A4 H H'->H' l=some (.tup ((z0b had).map V.int))->Q (.ref l) H'
def y1G(Sh:ShP):Sp:=fun vs H Q _=>∃(p:Addr) (fp:List Addr) (zs:List Str) (r:Int) (iss:Int->DV) (had:List Int),vs=[.ref p]/\Sh H p fp zs r iss had/\∀H',A4 H H'->Q (.int (W0 had)) H'
def ShD(K:PySem.W.Frag)(C:Addr):ShP:=fun H p fp zs r iss had=>∃(dx pn pd:Addr) (fs:List (Str×V)) (kvs:List (Key×V)),fp=[p,dx,pd]/\H p=some (.ins C dx fs)/\H dx=some (.own p)/\H pn=some (.tup (zs.map V.str))/\H pd=some (.dK kvs)/\
 fs.lookup ("names":Str)=some (V.ref pn)/\fs.lookup ("reach":Str)=some (V.int r)/\fs.lookup ("issues":Str)=some (V.ref pd)/\(∀m∈(["put","had","latest","rows_of","tail_of"]:List Str),fs.lookup m=none)/\
 kvs.map (·.1)=had.map Sum.inl/\had.Nodup/\(∀n∈had,1≤n/\n≤60)/\(∀n v,(Sum.inl n,v)∈kvs->A5 H (iss n) v)/\E2 zs/\0≤r/\r≤10
theorem ShD.ins{K:PySem.W.Frag}{C:Addr}{H:Hp}{p:Addr}{fp:List Addr}{zs:List Str}{r:Int}{iss:Int->DV}{had:List Int}(h:ShD K C H p fp zs r iss had):∃dx fs,H p=some (.ins C dx fs)/\∀m∈(["put","had","latest","rows_of","tail_of"]:List Str),fs.lookup m=none:=by
 obtain⟨dx,pn,pd,fs,kvs,e,h1,h2,h3,h4,l1,l2,l3,lm,_⟩:=h
 exact⟨dx,fs,h1,lm⟩
theorem F6{K:PySem.W.Frag}{C:Addr}:T8 C ["put","had","latest"] (ShD K C):=by
 refine⟨fun h=>?_,fun h b hb=>?_,fun h s out nt=>?_⟩
 ·obtain⟨dx,fs,h1,lm⟩:=ShD.ins h
  refine⟨dx,fs,h1,fun m hm=>lm m ?_⟩
  simp only[bA,dS,or_false] at hm ⊢
  rcases hm with h|h|h<;>simp[h]
 ·obtain⟨dx,pn,pd,fs,kvs,rfl,h1,h2,h3,h4,_⟩:=h
  rcases bA.mp hb with rfl|hb
  ·exact⟨_,h1,fun xs z=>by cases z⟩
  rcases bA.mp hb with rfl|hb
  ·exact⟨_,h2,fun xs z=>by cases z⟩
  rw[b9.mp hb]
  exact⟨_,h4,fun xs z=>by cases z⟩
 ·obtain⟨dx,pn,pd,fs,kvs,rfl,h1,h2,h3,h4,l1,l2,l3,lm,kk,nd,all,tl,g⟩:=h
  exact⟨dx,pn,pd,fs,kvs,rfl,s _ _ h1 (fun m=>out _ m (by simp)),s _ _ h2 (fun m=>out _ m (by simp)),s _ _ h3 (fun m=>nt _ m _ h3),s _ _ h4 (fun m=>out _ m (by simp)),l1,l2,l3,lm,kk,nd,all,fun n v hv=>A5.but s nt _ _ (tl n v hv),g⟩
theorem y2N{A0:Addr}(M:Bl mg)(T:C4 K mg A0)(F:Fun K "__init__" "Shelf.__init__" z2x f fd)(B9:Cal P w K mg base 2 "bulletin_names" z1U (z5G K)) :
  A7 P w K mg base CX0 3 f fd z2y (y0I K A0 (ShD K A0)):=by
 have nd:=z3G.nd
 refine F.ok z3G (fun vs H Q E h=>?_) (fun cdv A outer s H vs Q E hr h=>?_)
 ·obtain⟨x,dx,pn,zs,r,rfl,_⟩:=h
  rfl
 obtain⟨x,dx,pn,zs,r,rfl,hx,ne,hdx,hn,g,r0,r1,k⟩:=h
 refine⟨_,(z04 (z52 (pv 0) (z0q B9 (rm hr) rfl (z00 (pv 1) (z00 (pv 2) z03))) rfl) (z04 (z52 (pv 0) (pv 2) rfl) (z05 (z52 (pv 0) y4L rfl)))),?_⟩
 refine⟨_,rfl,_,rfl,pn,zs,r,rfl,hn,g,r0,r1,fun l H1 s1 e1=>?_⟩
 refine⟨_,rfl,x,A0,dx,[],rfl,s1 _ _ hx,T.cl,T.n_names,by decide,?_⟩
 have z1:=z1y "names" (.ref l) []
 have z2:=z1y "reach" (.int r) (F0 "names" (.ref l) [])
 have z0:([]:List (Str×V)).length=0:=rfl
 refine⟨_,rfl,_,rfl,x,A0,dx,_,rfl,z02,T.cl,T.n_reach,(by omega),?_⟩
 rw[z7K]
 intro pd hd
 have nx:x≠pd:=z0l z02 hd
 have ndd:dx≠pd:=z0l (show upd H1 x _ dx=some _ by rw[z0e ne];exact s1 _ _ hdx) hd
 have nl:l≠x:=z5j e1 (s1 _ _ hx) (fun z=>by cases z)
 have nlp:l≠pd:=z0l (show upd H1 x _ l=some _ by rw[z0e nl];exact e1) hd
 have dfr:H1 pd=none:=by rw[z0e (d9 nx)] at hd;exact hd
 refine⟨_,rfl,x,A0,dx,_,rfl,(by rw[z0e nx,z02]),T.cl,T.n_issues,(by omega),?_⟩
 refine k [x,dx,pd] _ (fun b hb=>?_) (fun b o e nb=>?_) (fun iss=>⟨dx,l,pd,_,[],rfl,z02,?_,?_,?_,?_,?_,?_,?_,rfl,.nil,fun _ q=>(nomatch q),fun _ _ q=>(nomatch q),g,r0,r1⟩)
 ·simp only[bA,dS,or_false] at hb
  rcases hb with rfl|rfl|rfl
  ·exact .inl rfl
  ·exact .inr (.inl rfl)
  ·exact .inr (.inr (s1.free dfr))
 ·rw[b9] at nb
  rw[z0e nb,z0e (z0l e (s1.free dfr)),z0e nb]
  exact s1 _ _ e
 ·rw[z0e ne,z0e ndd,z0e ne]
  exact s1 _ _ hdx
 ·rw[z0e nl,z0e nlp,z0e nl]
  exact e1
 ·rw[z0e (d9 nx),z02]
 ·rw[z0k,if_neg (by decide +kernel),z0k,if_neg (by decide +kernel),z0k,if_pos rfl]
 ·rw[z0k,if_neg (by decide +kernel),z0k,if_pos rfl]
 ·rw[z0k,if_pos rfl]
 ·intro m hm
  simp only[bA,dS,or_false] at hm
  rcases hm with rfl|rfl|rfl|rfl|rfl<;>rw[z0k,if_neg (by decide +kernel),z0k,if_neg (by decide +kernel),z0k,if_neg (by decide +kernel)]<;>rfl
theorem y6T{α:Type}[DecidableEq α]:∀{l1 l2:List α},l1.Nodup->(∀x∈l1,x∈l2)->l1.length≤l2.length
 | [],_,_,_=>cQ _
 | x::r,l2,nd,sub=>by
  rw[cW] at nd
  have hx:=sub x bS
  have:=y6T (l1:=r) (l2:=l2.erase x) nd.2 fun y hy=>(j9 (fun(e:y=x)=>nd.1 (e ▸ hy))).mpr (sub y (bM _ hy))
  rw[gQ hx] at this
  have h0:=List.length_pos_of_mem hx
  rw[cC]
  omega
theorem y3T{had:List Int}(nd:had.Nodup)(all:∀n∈had,1≤n/\n≤60):had.length≤60:=by
 have h:=y6T (l2:=upI 1 60) nd fun n hn=>z11.mpr (by have:=all n hn;omega)
 rw[z0T] at h
 exact h
theorem y0x{kvs:List (Key×V)}{had:List Int}(kk:kvs.map (·.1)=had.map Sum.inl)(n:Int):(H0 kvs (Sum.inl n)).isSome=decide (n∈had):=by
 rw[<- z6z]
 have e:(kvs.any fun kv=>decide (kv.1=Sum.inl n))=(kvs.map (·.1)).any fun k=>decide (k=Sum.inl n):=by rw[gR];rfl
 rw[e,kk,gR]
 by_cases h:n∈had
 ·rw[decide_eq_true h,hV]
  exact⟨n,h,decide_eq_true rfl⟩
 ·rw[decide_eq_false h,jE]
  intro m hm z
  have e:=of_decide_eq_true z
  cases e
  exact h hm
theorem y72{A0:Addr}(M:Bl mg)(T:C4 K mg A0)(F:Fun K "put" "Shelf.put" z5H f fd):A7 P w K mg base CX0 1 f fd z5A (y6S (ShD K A0)):=by
 have nd:=z7h.nd
 refine F.ok z7h (fun vs H Q E h=>?_) (fun cdv A outer s H vs Q E hr h=>?_)
 ·obtain⟨p,v,fp,zs,r,iss,had,n,ds,rfl,_⟩:=h
  rfl
 obtain⟨p,v,fp,zs,r,iss,had,n,ds,rfl,sh,tv,en,n1,n2,k⟩:=h
 have hu:=y0k hr
 refine⟨_,(z04 (z0n (i:=2) nd rfl (Or.inl rfl) (z0Q z0H (pv 1) z06 (fun _ _=>rfl))) (z04 (z0R (z87 (y3Z hu (pv 2) (z0F (pv 0) rfl))) (z05 (z0i z7Q)) z0p) (z04 (y5V hu (z0F (pv 0) rfl) (pv 2) (pv 1) rfl) (z05 (z0i z7Q))))),?_⟩
 obtain⟨dx,pn,pd,fs,kvs,rfl,h1,h2,h3,h4,l1,l2,l3,lm,kk,ndh,all,tl,g,r0,r1⟩:=sh
 rw[en] at tv
 obtain⟨a,us,rfl,ea,_,tu⟩:=z0h tv
 obtain⟨x0,ur,rfl,t0,_⟩:=z08 tu
 cases z0G t0
 refine⟨_,rfl,a,_,_,_,rfl,rfl,SqT.of ea,z1m rfl,?_⟩
 refine⟨_,rfl,_,rfl,p,A0,dx,fs,_,rfl,h1,T.cl,T.n_issues,l3,pd,_,rfl,L0.k (k:=Sum.inl n) h4,?_⟩
 refine⟨_,rfl,?_⟩
 rw[y0x kk]
 have fr:∀b∈[p,dx,pd],∃o,H b=some o:=fun b hb=>by
  simp only[bA,dS,or_false] at hb
  rcases hb with rfl|rfl|rfl
  ·exact⟨_,h1⟩
  ·exact⟨_,h2⟩
  ·exact⟨_,h4⟩
 refine A9 (fun c=>?_) (fun c=>?_)
 ·have c':=z0A c
  have e:=k [p,dx,pd] H (fun b hb=>.inl hb) (fun b o e _=>e) ⟨dx,pn,pd,fs,kvs,rfl,h1,h2,h3,h4,l1,l2,l3,lm,by unfold O8;rw[if_pos c'];exact kk,by unfold O8;rw[if_pos c'];exact ndh,fun m hm=>?_,tl,g,r0,r1⟩
  ·rw[decide_eq_false (fun z=>z c')] at e
   exact e
  ·unfold O8 at hm
   rw[if_pos c'] at hm
   exact all m hm
 ·have c':=z3e c
  have lk:kvs.length≤60:=by
   have e2:=congrArg List.length kk
   rw[b7,b7] at e2
   have:=y3T ndh all
   omega
  have en':H0 kvs (Sum.inl n:Key)=none:=by
   have:=y0x kk n
   rw[decide_eq_false c'] at this
   cases e:H0 kvs (Sum.inl n:Key) with
   | none=>rfl
   | some v=>rw[e] at this;cases this
  refine⟨_,rfl,_,rfl,p,A0,dx,fs,_,rfl,h1,T.cl,T.n_issues,l3,_,rfl,pd,_,rfl,V5.k (k:=Sum.inl n) h4 (z0g (by omega)),?_⟩
  rw[y53 _ en']
  have np:p≠pd:=z5j h1 h4 (fun z=>by cases z)
  have nx:dx≠pd:=z5j h2 h4 (fun z=>by cases z)
  have nn:pn≠pd:=z5j h3 h4 (fun z=>by cases z)
  have e:=k [p,dx,pd] (upd H pd (.dK (kvs++[(Sum.inl n,.ref a)]))) (fun b hb=>.inl hb) (fun b o e nb=>by rw[z0e (fun z=>nb (by rw[z];simp))];exact e)
   ⟨dx,pn,pd,fs,_,rfl,by rw[z0e np];exact h1,by rw[z0e nx];exact h2,by rw[z0e nn];exact h3,z02,l1,l2,l3,lm,?_,?_,fun m hm=>?_,fun m v hv=>?_,g,r0,r1⟩
  ·rw[decide_eq_true c'] at e
   exact e
  ·unfold O8
   rw[if_neg c',bD,bD,kk]
   rfl
  ·unfold O8
   rw[if_neg c',fF]
   exact⟨ndh,by simp,fun x hx y hy z=>by rw[b9] at hy;subst hy;subst z;exact c' hx⟩
  ·rcases y17.mp hm with h|rfl
   ·exact all m h
   ·omega
  ·refine A5.over h4 (fun _ z=>by cases z) _ _ ?_
   rcases bO.mp hv with h|h
   ·exact tl m v h
   ·rw[b9] at h
    cases h
    rw[en]
    exact tv
theorem y4G{A0:Addr}(M:Bl mg)(T:C4 K mg A0)(F:Fun K "had" "Shelf.had" z5E f fd):A7 P w K mg base CX0 1 f fd z23 (z5T (ShD K A0)):=by
 have nd:=z6F.nd
 refine F.ok z6F (fun vs H Q E h=>?_) (fun cdv A outer s H vs Q E hr h=>?_)
 ·obtain⟨p,fp,zs,r,iss,had,rfl,_⟩:=h
  rfl
 obtain⟨p,fp,zs,r,iss,had,rfl,sh,k⟩:=h
 refine⟨_,(z05 (z0i (z0t z0s rfl M.tuple bL (z00 (z0d (z6s rfl) rfl M.sorted eM (z00 (z0F (pv 0) rfl) z03)) z03)))),?_⟩
 obtain⟨dx,pn,pd,fs,kvs,rfl,h1,h2,h3,h4,l1,l2,l3,lm,kk,ndh,all,tl,g,r0,r1⟩:=sh
 refine⟨_,rfl,p,A0,dx,fs,_,rfl,h1,T.cl,T.n_issues,l3,pd,kvs,had,rfl,h4,kk,fX (y3T ndh all) (by decide),fun l ms hl hp hs=>?_⟩
 rw[y0e ndh all hp hs]
 exact⟨l,_,rfl,.inl ⟨SqL.of z02,fun t ht=>k t _ ((z01 hl _).trans (z01 ht _)) z02⟩⟩
theorem y59{had:List Int}{m:Int}(hm:m∈z0b had)(hb:∀y∈z0b had,y≤m):m=W0 had:=by
 unfold W0
 have ne:z0b had≠[]:=fun z=>by rw[z] at hm;cases hm
 have e:(z0b had).getLastD 0=(z0b had).getLast ne:=by rw[List.getLastD_eq_getLast?,List.getLast?_eq_some_getLast ne]<;>rfl
 rw[e]
 have h1:=hb _ (List.getLast_mem ne)
 have d:z0b had=(z0b had).dropLast++[(z0b had).getLast ne]:=(eV ne).symm
 have rs:=z1j had
 rw[d] at hm rs
 rcases bO.mp hm with h|h
 ·have:=(dO.mp rs).2.2 m h _ (b9.mpr rfl)
  omega
 ·exact b9.mp h
theorem y2M{A0:Addr}(M:Bl mg)(T:C4 K mg A0)(F:Fun K "latest" "Shelf.latest" z3o f fd)(B1:D0 P w K mg base 1 A0 "had" z23 (z5T (ShD K A0))):A7 P w K mg base CX0 2 f fd z57 (y1G (ShD K A0)):=by
 have nd:=z4u.nd
 refine F.ok z4u (fun vs H Q E h=>?_) (fun cdv A outer s H vs Q E hr h=>?_)
 ·obtain⟨p,fp,zs,r,iss,had,rfl,_⟩:=h
  rfl
 obtain⟨p,fp,zs,r,iss,had,rfl,sh,k⟩:=h
 refine⟨_,(z05 (z0i (y2f rfl rfl M.max (z00 (z2L B1 (rm hr) (pv 0)) z03) (z8Z z06 y0W)))),?_⟩
 obtain⟨dx,fs,h1,lm⟩:=F6.ins sh
 refine⟨_,rfl,p,dx,fs,rfl,h1,lm _ (by simp),p,fp,zs,r,iss,had,rfl,sh,fun l H1 s1 e1=>?_⟩
 refine⟨l,z0b had,_,rfl,rfl,.inr (SqT.of e1),fun z=>?_,fun m hm hb=>?_⟩
 ·have e:W0 had=0:=by unfold W0;rw[z];rfl
  have:=k H1 s1
  rw[e] at this
  exact this
 ·rw[y59 hm hb]
  exact k H1 s1
def P1(ns:List Int)(rows:List Row)(r n:Int):DV:=.tup [.int n,.int (z0M ns n r),if z0M ns n r=0 then .tup [] else P9 (z1N (z0D rows n))]
def z8Y(ns:List Int)(rows:List Row)(r:Int):List DV:=(z1a ns).map (P1 ns rows r)
theorem z9e{ns:List Int}{n r:Int}:0≤z0M ns n r:=by
 unfold z0M
 cases e:(upI 1 60).find? (y0u ns n r) with
 | none=>exact dU _
 | some y=>
  have:=z11.mp (fJ e)
  show 0≤y
  omega
theorem y3V{ns:List Int}{m:Int}(hm:m∈ns\/(ns=[]/\m=0))(B4:∀x∈ns,1≤x/\x≤60)(top:∀y∈ns,y≤m):(upI 1 (m-1).toNat).filter (fun x=>!decide (x∈ns))=z1a ns:=by
 rcases hm with hm|⟨rfl,rfl⟩
 ·refine z2a ((z1D _ _).filter _) (z4b _) fun x=>?_
  have hm':=B4 m hm
  rw[bV,z11,z0U,jH,decide_eq_false_iff_not]
  constructor
  ·rintro⟨⟨a,b⟩,c⟩
   exact⟨by omega,c,m,hm,by omega⟩
  ·rintro⟨a,b,y,hy,c⟩
   have:=top y hy
   exact⟨by omega,b⟩
 ·rw[z9I]
  rfl
theorem z6M{ns:List Int}(i:Nat):(upI 1 (i+1)).filter (fun x=>!decide (x∈ns))=(upI 1 i).filter (fun x=>!decide (x∈ns))++(if (1:Int)+(i:Int)∈ns then [] else [1+(i:Int)]):=by
 rw[z5c,dR,eX]
 by_cases h:(1:Int)+(i:Int)∈ns
 ·rw[if_pos h,decide_eq_true h]
  rfl
 ·rw[if_neg h,decide_eq_false h]
  rfl
def C0(w:Row)(z:Str):Option Int:=w.foldl (fun acc p=>if p.1=z then some p.2 else acc) none
theorem z5b(w:Row)(p:Str×Int)(z:Str):C0 (w++[p]) z=if p.1=z then some p.2 else C0 w z:=by
 unfold C0
 rw[gZ]
 rfl
def z0w(ms:List Int)(rows:List Row)(z:Str):Option (Int×Int):=ms.foldl (fun acc n=>match C0 (z0D rows n) z with|some v=>some (n,v)|none=>acc) none
theorem z5W(ms:List Int)(n:Int)(rows:List Row)(z:Str):z0w (ms++[n]) rows z=match C0 (z0D rows n) z with|some v=>some (n,v)|none=>z0w ms rows z:=by
 unfold z0w
 rw[gZ]
 rfl
def z9d:Option (Int×Int)->DV
 | some (n,v)=>.tup [.int n,.int v]
 | none=>.tup [.int 0,.non]
def z0N(o:Option (Int×Int)):Int:=(o.map Prod.fst).getD 0
def y2n:Option (Int×Int)->DV
 | some (_,v)=>.int v
 | none=>.non
theorem z3n{H:Hp}{o:Option (Int×Int)}{v:V}(h:A5 H (z9d o) v):∃(a:Addr) (y:V),v=.ref a/\H a=some (.tup [.int (z0N o),y])/\A5 H (y2n o) y:=by
 cases o with
 | none=>
  obtain⟨a,xs,rfl,ha,_,ta⟩:=z0h (show A5 H (.tup [.int 0,.non]) v from h)
  obtain⟨y1,r1,rfl,t1,h3⟩:=z08 ta
  obtain⟨y2,r2,rfl,t2,h4⟩:=z08 h3
  have:=z0E h4
  subst this
  rw[z0G t1] at ha
  exact⟨a,y2,rfl,ha,t2⟩
 | some p=>
  obtain⟨n,x⟩:=p
  obtain⟨a,xs,rfl,ha,_,ta⟩:=z0h (show A5 H (.tup [.int n,.int x]) v from h)
  obtain⟨y1,r1,rfl,t1,h3⟩:=z08 ta
  obtain⟨y2,r2,rfl,t2,h4⟩:=z08 h3
  have:=z0E h4
  subst this
  rw[z0G t1] at ha
  exact⟨a,y2,rfl,ha,t2⟩
def y2p(K:PySem.W.Frag):Sp:=fun vs H Q _=>∃(p lr:Addr) (ns:List Int) (us:List V) (rows:List Row) (z:Str),vs=[.ref p,.ref lr,.str z]/\SqL K H p (ns.map V.int)/\ns.length<64/\ns.Nodup/\(∀x∈ns,1≤x/\x≤60)/\(∀x∈ns,x≤rows.length)/\
 SqL K H lr us/\z0a H (rows.map L9) us/\∀(v:V) (H':Hp),A4 H H'->A5 H' (z9d (z0w (z0b ns) rows z)) v->Q v H'
theorem y47(M:Bl mg)(F:Fun K "_law_held" "_law_held" z5P f fd):A7 P w K mg base CX0 1 f fd z5Q (y2p K):=by
 have nd:=z6Z.nd
 refine F.ok z6Z (fun vs H Q E h=>?_) (fun cdv A outer s H vs Q E hr h=>?_)
 ·obtain⟨p,lr,ns,us,rows,z,rfl,_⟩:=h
  rfl
 obtain⟨p,lr,ns,us,rows,z,rfl,hP,h64,nds,B4,hup,hR,tl,q⟩:=h
 refine⟨_,(z04 (z0n (i:=3) nd rfl (Or.inl rfl) (z0Y (z00 z06 (z00 z8p z03)))) (z04 (z1c cG rfl (z1k (z0d z7c rfl M.sorted eM (z00 (pv 0) z03))) (z0j (i:=4) nd rfl (Or.inl rfl)) (z05 (z1c cG rfl (z1W (z0Q z1I (pv 1) (z0v z4m (pv 4) z06) (fun _ _=>rfl))) (z0j (i:=5) nd rfl (Or.inl rfl)) (z05 (z0R (z09 z2r (z0Q z0H (pv 5) z06 (fun _ _=>rfl)) (pv 2) (z0m _)) (z05 (z0n (i:=3) nd rfl (Or.inl rfl) (z0Y (z00 (pv 4) (z00 (z0Q z0H (pv 5) z06 (fun _ _=>rfl)) z03))))) z0p))))) (z05 (z0i (pv 3))))),?_⟩
 refine⟨(by show 2≤sizeLine;decide),fun t0 ht0=>?_⟩
 have s1:=z01 ht0 (.tup [V.int 0,V.non])
 have e1:upd H t0 (.tup [V.int 0,V.non]) t0=some (.tup [V.int 0,V.non]):=z02
 generalize upd H t0 (.tup [V.int 0,V.non])=H1 at s1 e1
 refine⟨_,rfl,p,ns,rfl,s1.seq hP,h64,fun ls ms nls hp hs=>?_⟩
 have er:=y0e nds B4 hp hs
 have s2:=s1.trans (z01 nls (.lst (ms.map V.int)))
 have e2:=z01 nls (.lst (ms.map V.int)) _ _ e1
 have els:upd H1 ls (.lst (ms.map V.int)) ls=some (.lst (ms.map V.int)):=z02
 generalize upd H1 ls (.lst (ms.map V.int))=H2 at s2 e2 els
 refine⟨ls,rfl,⟨_,SqL.of els⟩,z1s (K:=K) (a:=ls) (xs:=ms.map V.int) (fun i σ H'=>∃(hv:V) (o1 o2:Option V),A4 H2 H'/\A5 H' (z9d (z0w (ms.take i) rows z)) hv/\σ=[some (.ref p),some (.ref lr),some (.str z),some hv,o1,o2])
  ⟨.ref t0,none,none,A4.refl _,z0x e2 (by show 2≤1000000;decide) (.cons (z0z 0) (.cons z8D .nil)),rfl⟩ (fun i σ H' _ ⟨_,_,_,g,_⟩=>SqL.of (g _ _ els)) ?_ ?_⟩
 ·rintro i x σ H' hi ⟨hv,o1,o2,g,th,rfl⟩
  obtain⟨n,hn,rfl⟩:∃n,ms[i]? = some n/\x=V.int n:=by
   rw[bH] at hi
   cases e:ms[i]? with
   | none=>rw[e] at hi;cases hi
   | some n=>rw[e] at hi;exact⟨n,rfl,(Option.some.inj hi).symm⟩
  have nin:n∈ns:=hp.mem_iff.mp (bT hn)
  have hn1:=B4 n nin
  have hn2:=hup n nin
  obtain⟨v,_,av,tv⟩:=z6S (z0a.keep (s2.trans g) _ _ tl) (k:=n) hn1.1 hn2
  obtain⟨ar,xs,rfl,er',_,tp⟩:=z0h tv
  have lw:xs.length=(z0D rows n).length:=by rw[tp.length,b7]
  refine⟨_,rfl,_,rfl,_,_,rfl,rfl,lr,us,_,_,rfl,rfl,(s2.trans g).seq hR,av,ar,rfl,⟨_,SqT.of er'⟩,?_⟩
  refine z7a (K:=K) (a:=ar) (xs:=xs) (fun j σ H2'=>∃(hv:V) (o2:Option V),A4 H' H2'/\A5 H2' (z9d (match C0 ((z0D rows n).take j) z with|some v=>some (n,v)|none=>z0w (ms.take i) rows z)) hv/\
    σ=[some (.ref p),some (.ref lr),some (.str z),some hv,some (.int n),o2]) ⟨hv,o2,A4.refl _,th,rfl⟩ (fun j σ H2' _ ⟨_,_,g2,_⟩=>SqT.of (g2 _ _ er')) ?_ ?_
  ·rintro j y σ H2' hy ⟨hv2,o3,g2,th2,rfl⟩
   obtain⟨pq,b,e1',rfl,e2'⟩:=z3z tp j y hy
   have sb:SqT K H2' b [V.str pq.1,V.int pq.2]:=SqT.of (g2 _ _ e2')
   refine⟨_,rfl,b,_,0,_,rfl,rfl,sb,rfl,_,rfl,rfl,_,rfl,?_⟩
   have tk:(z0D rows n).take (j+1)=(z0D rows n).take j++[pq]:=z0r e1'
   refine A9 (fun c=>?_) (fun c=>?_)
   ·have c':pq.1=z:=by
     have:=z0A c
     injection this
    refine⟨_,rfl,_,rfl,b,_,1,_,rfl,rfl,sb,rfl,(by show 2≤sizeLine;decide),fun t ht=>?_⟩
    refine⟨.ref t,_,g2.trans (z01 ht _),?_,rfl⟩
    rw[tk,z5b,if_pos c']
    exact z0x z02 (by show 2≤1000000;decide) (.cons (z0z _) (.cons (z0z _) .nil))
   ·have c':¬pq.1=z:=fun e=>z3e c (by rw[e])
    refine⟨hv2,_,g2,?_,rfl⟩
    rw[tk,z5b,if_neg c']
    exact th2
  ·rintro σ H2' ⟨hv2,o3,g2,th2,rfl⟩
   rw[lw,bR] at th2
   refine⟨hv2,_,_,g.trans g2,?_,rfl⟩
   rw[z0r hn,z5W]
   exact th2
 ·rintro σ H' ⟨hv,o1,o2,g,th,rfl⟩
  rw[b7,bR,er] at th
  exact⟨_,rfl,q hv H' (s2.trans g) th⟩
def y5p(K:PySem.W.Frag):Sp:=fun vs H Q _=>∃(p lr:Addr) (ns:List Int) (us:List V) (rows:List Row) (r:Int),vs=[.ref p,.ref lr,.int r]/\H p=some (.lst (ns.map V.int))/\(∀x∈ns,1≤x/\x≤60)/\ns.length≤900/\(∀x∈ns,x≤rows.length)/\
 SqL K H lr us/\z0a H (rows.map L9) us/\(∀w∈rows,w.length≤12)/\0≤r/\∀(l:Addr) (zs:List V) (H':Hp),H l=none->A4 H H'->H' l=some (.lst zs)->z0a H' (z8Y ns rows r) zs->Q (.ref l) H'
theorem y6r(M:Bl mg)(F:Fun K "_law_gaps" "_law_gaps" z5x f fd)(K3:Cal P w K mg base 1 "_law_teller" z3N (z9D K)):A7 P w K mg base CX0 2 f fd z5D (y5p K):=by
 have nd:=z7M.nd
 refine F.ok z7M (fun vs H Q E h=>?_) (fun cdv A outer s H vs Q E hr h=>?_)
 ·obtain⟨p,lr,ns,us,rows,r,rfl,_⟩:=h
  rfl
 obtain⟨p,lr,ns,us,rows,r,rfl,hP,B4,hlen,hup,hR,tl,h12,r0,q⟩:=h
 refine⟨_,(z04 (z0n (i:=3) nd rfl (Or.inl rfl) (z1t z03)) (z04 (z1c cG rfl (z9A rfl M.range (z00 z06 (z00 (z0d (z9o rfl) rfl M.max gC (z00 (z0v y2S (pv 0) (z1t (z00 z06 z03))) z03)) z03))) (z0j (i:=4) nd rfl (Or.inl rfl)) (z04 (z0n (i:=5) nd rfl (Or.inl rfl) (z0q K3 (rm hr) rfl (z00 (pv 0) (z00 (pv 4) (z00 (pv 2) z03))))) (z04 (z0R (PW.pt (z4t (z09 z2e (pv 4) (pv 0) (by with_unfolding_all rfl)) (z2U (z09 z2r (pv 5) z06 (z0m _))))) (z05 (z0B (z3I cE bX cD z0O (pv 3) (z00 (z0Y (z00 (pv 4) (z00 z06 (z00 (z0Y z03) z03)))) z03)))) z0p) (z05 (z0R (PW.pt (z4t (z09 z2e (pv 4) (pv 0) (by with_unfolding_all rfl)) (z2U (z09 z2E (pv 5) z06 (z0m _))))) (z05 (z0B (z3I cE bX cD z0O (pv 3) (z00 (z0Y (z00 (pv 4) (z00 (pv 5) (z00 (z0t z0s rfl M.tuple bL (z00 (z1f ["_law_row_here"] [] [] rfl (z0u rfl (by decide +kernel) rfl (by decide +kernel) rfl rfl) (z1W (z0Q z1I (pv 1) (z0v z4m (pv 4) z06) (fun _ _=>rfl))) (fun _ _ _ _ _=>(z0j (i:=0) (show((["_law_row_here"]:List PySem.Str)++([]:List PySem.Str)).Nodup from by decide +kernel) rfl (Or.inl rfl))) (z0y (by decide)) z0c (fun _ _ _ _ _=>z26) (fun _ _ _ _ _=>(z0Q (r:=M0 K) z0H (pv 0) z06 (fun _ _=>rfl)))) z03)) z03)))) z03)))) z0p))))) (z05 (z0i (pv 3))))),?_⟩
 refine⟨(by show 0≤sizeLine;decide),fun lg hlg=>?_⟩
 have s1:=z01 hlg (.lst [])
 refine⟨_,rfl,(by show 1≤sizeLine;decide),fun l0 hl0=>⟨p,l0,_,_,rfl,rfl,z01 hl0 _ _ _ (s1 _ _ hP),z02,?_,fun lc hlc=>?_⟩⟩
 ·rw[b7]
  exact eY (z0g (by show ns.length+1≤1000;omega))
 have s2:=s1.trans ((z01 hl0 (.lst [V.int 0])).trans (z01 hlc (.lst (ns.map V.int++[V.int 0]))))
 have eg:upd (upd (upd H lg (.lst [])) l0 (.lst [V.int 0])) lc (.lst (ns.map V.int++[V.int 0])) lg=some (.lst []):=(z01 hl0 _).trans (z01 hlc _) _ _ z02
 have ec:upd (upd (upd H lg (.lst [])) l0 (.lst [V.int 0])) lc (.lst (ns.map V.int++[V.int 0])) lc=some (.lst ((ns++[0]).map V.int)):=by
  rw[z02,bD]
  rfl
 generalize upd (upd (upd H lg (.lst [])) l0 (.lst [V.int 0])) lc (.lst (ns.map V.int++[V.int 0]))=H2 at s2 eg ec
 refine⟨lc,ns++[0],rfl,.inl (SqL.of ec),by simp,fun m hm top=>?_⟩
 have hm':m∈ns\/(ns=[]/\m=0):=by
  rcases bO.mp hm with h|h
  ·exact .inl h
  ·rw[b9] at h
   subst h
   cases ns with
   | nil=>exact .inr ⟨rfl,rfl⟩
   | cons x xs=>
    have h1:=top x (by simp)
    have h2:=B4 x bS
    omega
 have m60:0≤m/\m≤60:=by
  rcases hm' with h|⟨_,h⟩
  ·have:=B4 m h
   omega
  ·omega
 have topn:∀y∈ns,y≤m:=fun y hy=>top y (cX _ hy)
 refine⟨1,m,rfl,⟨by decide,by decide,by omega,by omega⟩,?_⟩
 refine z3h (lo:=1) (n:=(m-1).toNat) (fun i σ H'=>∃(zs:List V) (o1 o2:Option V),(∀b u,H b=some u->H' b=some u)/\H' lg=some (.lst zs)/\z0a H' (((upI 1 i).filter fun x=>!decide (x∈ns)).map (P1 ns rows r)) zs/\
   σ=[some (.ref p),some (.ref lr),some (.int r),some (.ref lg),o1,o2]) ⟨[],none,none,s2,eg,.nil,rfl⟩ (fun i σ H' hi hp=>?_) (fun σ H' hp=>?_)
 ·obtain⟨zs,o1,o2,g,eG,tG,rfl⟩:=hp
  have g':A4 H H':=g
  have hn:(1:Int)+(i:Int)≤rows.length:=by
   rcases hm' with h|⟨_,h⟩
   ·have:=hup m h
    omega
   ·omega
  have lz:zs.length≤i:=by
   rw[tG.length,b7]
   have:=cM (fun x=>!decide (x∈ns)) (upI 1 i)
   rw[z0T] at this
   exact this
  refine⟨_,rfl,_,rfl,_,rfl,p,ns,1+(i:Int),r,rfl,SqL.of (g _ _ hP),B4,hlen,r0,fun H3 s3=>?_⟩
  have t0:=z9e (ns:=ns) (n:=1+(i:Int)) (r:=r)
  have g3:A4 H H3:=g'.trans s3
  have eG3:=s3 _ _ eG
  have tG3:=z0a.keep s3 _ _ tG
  refine⟨_,rfl,_,rfl,p,_,rfl,.inl (SqL.of (g3 _ _ hP)),rfl,z2B ns,_,rfl,?_⟩
  rw[if_pos rfl,z3j]
  by_cases hin:(1:Int)+(i:Int)∈ns
  ·rw[decide_eq_true hin]
   refine C3 (C3 ?_)
   refine⟨_,rfl,_,rfl,p,_,rfl,.inl (SqL.of (g3 _ _ hP)),rfl,z2B ns,_,rfl,?_⟩
   rw[if_pos rfl,z3j,decide_eq_true hin]
   refine C3 (C3 ⟨zs,_,_,g3,eG3,?_,rfl⟩)
   rw[z6M,if_pos hin,d7]
   exact tG3
  ·rw[decide_eq_false hin]
   refine O5 ⟨_,rfl,rfl,_,rfl,?_⟩
   refine A9 (fun c=>?_) (fun c=>?_)
   ·have c0:z0M ns (1+(i:Int)) r=0:=by
     have:=z0A c
     injection this
    refine⟨_,rfl,.inl ⟨rfl,_,SqL.of eG3⟩,_,rfl,(by show 0≤sizeLine;decide),fun t0 ht0=>⟨(by show 3≤sizeLine;decide),fun t ht=>?_⟩⟩
    have s4:=(z01 ht0 (.tup [])).trans (z01 ht (.tup [V.int (1+(i:Int)),V.int 0,V.ref t0]))
    have et:upd (upd H3 t0 (.tup [])) t (.tup [V.int (1+(i:Int)),V.int 0,V.ref t0]) t=some (.tup [V.int (1+(i:Int)),V.int 0,V.ref t0]):=z02
    have et0:upd (upd H3 t0 (.tup [])) t (.tup [V.int (1+(i:Int)),V.int 0,V.ref t0]) t0=some (.tup []):=z01 ht _ _ _ z02
    generalize upd (upd H3 t0 (.tup [])) t (.tup [V.int (1+(i:Int)),V.int 0,V.ref t0])=H4 at s4 et et0
    refine⟨lg,_,_,rfl,rfl,s4 _ _ eG3,z0g (by omega),?_⟩
    have g5:∀b u,H b=some u->upd H4 lg (.lst (zs++[V.ref t])) b=some u:=fun b u e=>by
     rw[z0e (z0l e hlg)]
     exact s4 _ _ (g3 _ _ e)
    have tg:A5 H4 (P1 ns rows r (1+(i:Int))) (.ref t):=by
     unfold P1
     rw[if_pos c0,c0]
     exact z0x et (by show 3≤1000000;decide) (.cons (z0z _) (.cons (z0z _) (.cons (z0x et0 (by show 0≤1000000;decide) .nil) .nil)))
    have t5:z0a (upd H4 lg (.lst (zs++[V.ref t]))) (((upI 1 (i+1)).filter fun x=>!decide (x∈ns)).map (P1 ns rows r)) (zs++[V.ref t]):=by
     rw[z6M,if_neg hin,bD]
     exact z0a.over (s4 _ _ eG3) (fun _ e=>by cases e) _ _ (z0a.snoc (z0a.keep s4 _ _ tG3) tg)
    refine⟨_,rfl,_,rfl,p,_,rfl,.inl (SqL.of (g5 _ _ hP)),rfl,z2B ns,_,rfl,?_⟩
    rw[if_pos rfl,z3j,decide_eq_false hin]
    refine O5 ⟨_,rfl,_,_,rfl,rfl,_,rfl,?_⟩
    rw[c0]
    exact C3 ⟨_,_,_,g5,z02,t5,rfl⟩
   ·have c0:z0M ns (1+(i:Int)) r≠0:=fun e=>z3e c (by rw[e])
    refine⟨_,rfl,_,rfl,p,_,rfl,.inl (SqL.of (g3 _ _ hP)),rfl,z2B ns,_,rfl,?_⟩
    rw[if_pos rfl,z3j,decide_eq_false hin]
    refine O5 ⟨_,rfl,_,_,rfl,rfl,_,rfl,?_⟩
    rw[decide_eq_true (show(0:Int)<z0M ns (1+(i:Int)) r by omega)]
    refine O5 ?_
    obtain⟨v,_,av,tv⟩:=z6S (z0a.keep g3 _ _ tl) (k:=1+(i:Int)) (by omega) hn
    obtain⟨ar,xs,rfl,er,_,tp⟩:=z0h tv
    have lw:xs.length=(z0D rows (1+(i:Int))).length:=by rw[tp.length,b7]
    have w12:=y3z h12 (1+(i:Int))
    refine⟨_,rfl,.inl ⟨rfl,_,SqL.of eG3⟩,_,rfl,_,rfl,_,rfl,_,rfl,_,_,rfl,rfl,lr,us,_,_,rfl,rfl,g3.seq hR,av,ar,rfl,⟨_,SqT.of er⟩,?_⟩
    refine z1r (xs:=xs) (fun j ys H2=>H2=H3/\ys=((z1N (z0D rows (1+(i:Int)))).take j).map V.str) ⟨rfl,rfl⟩ (fun j ys H2 hj hp=>?_) (fun j y ys H2 hy hp=>?_) (fun ys H2 hp=>?_)
    ·obtain⟨rfl,rfl⟩:=hp
     refine⟨SqT.of er,z0g ?_⟩
     rw[b7,bN]
     omega
    ·obtain⟨rfl,rfl⟩:=hp
     obtain⟨pq,b,e1,rfl,e2⟩:=z3z tp j y hy
     refine⟨_,rfl,b,_,0,_,rfl,rfl,SqT.of e2,rfl,rfl,?_⟩
     have e3:(z1N (z0D rows (1+(i:Int))))[j]? = some pq.1:=by
      unfold z1N
      rw[bH,e1]
      rfl
     rw[z0r e3,bD]
     rfl
    obtain⟨rfl,rfl⟩:=hp
    have ll:(z1N (z0D rows (1+(i:Int)))).take xs.length=z1N (z0D rows (1+(i:Int))):=dJ (by unfold z1N;rw[b7];omega)
    rw[ll]
    intro D hD
    refine⟨D,_,rfl,.inl ⟨SqL.of z02,fun t0 ht0=>⟨(by show 3≤sizeLine;decide),fun t ht=>?_⟩⟩⟩
    generalize hN:(z1N (z0D rows (1+(i:Int)))).map V.str=nv at hD ht0 ht
    have s4:=(z01 hD (.lst nv)).trans ((z01 ht0 (.tup nv)).trans (z01 ht (.tup [V.int (1+(i:Int)),V.int (z0M ns (1+(i:Int)) r),V.ref t0])))
    have et:upd (upd (upd H2 D (.lst nv)) t0 (.tup nv)) t (.tup [V.int (1+(i:Int)),V.int (z0M ns (1+(i:Int)) r),V.ref t0]) t=some (.tup [V.int (1+(i:Int)),V.int (z0M ns (1+(i:Int)) r),V.ref t0]):=z02
    have et0:upd (upd (upd H2 D (.lst nv)) t0 (.tup nv)) t (.tup [V.int (1+(i:Int)),V.int (z0M ns (1+(i:Int)) r),V.ref t0]) t0=some (.tup nv):=z01 ht _ _ _ z02
    generalize upd (upd (upd H2 D (.lst nv)) t0 (.tup nv)) t (.tup [V.int (1+(i:Int)),V.int (z0M ns (1+(i:Int)) r),V.ref t0])=H4 at s4 et et0
    refine⟨lg,_,_,rfl,rfl,s4 _ _ eG3,z0g (by omega),?_⟩
    have g5:∀b u,H b=some u->upd H4 lg (.lst (zs++[V.ref t])) b=some u:=fun b u e=>by
     rw[z0e (z0l e hlg)]
     exact s4 _ _ (g3 _ _ e)
    have tg:A5 H4 (P1 ns rows r (1+(i:Int))) (.ref t):=by
     unfold P1
     rw[if_neg c0]
     refine z0x et (by show 3≤1000000;decide) (.cons (z0z _) (.cons (z0z _) (.cons (z0x et0 ?_ ?_) .nil)))
     ·rw[b7]
      unfold z1N
      rw[b7]
      omega
     ·rw[<- hN]
      exact z5L _
    refine⟨_,_,_,g5,z02,?_,rfl⟩
    rw[z6M,if_neg hin,bD]
    exact z0a.over (s4 _ _ eG3) (fun _ e=>by cases e) _ _ (z0a.snoc (z0a.keep s4 _ _ tG3) tg)
 ·obtain⟨zs,o1,o2,g,eG,tG,rfl⟩:=hp
  rw[y3V hm' B4 topn] at tG
  exact⟨_,rfl,q lg zs H' hlg g eG tG⟩
theorem z6B(x:Str)(ns:List Str):inV (.str x) (ns.map V.str)=decide (x∈ns):=by
 unfold inV
 rw[dL,gR,hV,decide_eq_true_eq]
 constructor
 ·rintro⟨y,hy,e⟩
  have:y=x:=by simpa [eqV] using e
  exact this ▸ hy
 ·intro h
  exact⟨x,h,by simp[eqV]⟩
def z2j(ns:List Int)(rows:List Row)(r n:Int):List Str:=if z0M ns n r=0 then [] else z1N (z0D rows n)
theorem y5O(ns:List Int)(rows:List Row)(r n:Int):P1 ns rows r n=.tup [.int n,.int (z0M ns n r),P9 (z2j ns rows r n)]:=by
 unfold P1 z2j
 by_cases h:z0M ns n r=0
 ·rw[if_pos h,if_pos h]
  rfl
 ·rw[if_neg h,if_neg h]
def z1h(ns:List Int)(rows:List Row)(r num:Int)(z:Str):List Int:=(z1a ns).filter fun n=>decide (num<n) && decide (z∈z2j ns rows r n)
def y2u(ns:List Int)(rows:List Row)(r num:Int)(z:Str):DV:=.tup ((z1h ns rows r num z).map fun n=>.tup [.int n,.int (z0M ns n r)])
theorem z8i(ns:List Int)(rows:List Row)(r num:Int)(z:Str):(z1h ns rows r num z).length≤60:=cO (cM _ _) (z2d ns)
theorem z6O{H:Hp}{ns:List Int}{rows:List Row}{r:Int}{zs:List V}(h:z0a H (z8Y ns rows r) zs){i:Nat}{x:V}(e:zs[i]? = some x) :
  ∃(n:Int) (a b:Addr),(z1a ns)[i]? = some n/\x=.ref a/\H a=some (.tup [.int n,.int (z0M ns n r),.ref b])/\H b=some (.tup ((z2j ns rows r n).map V.str)):=by
 obtain⟨d,e1,t⟩:=h.at i x e
 unfold z8Y at e1
 rw[bH] at e1
 cases er:(z1a ns)[i]? with
 | none=>rw[er] at e1;cases e1
 | some n=>
  rw[er] at e1
  have e2:P1 ns rows r n=d:=Option.some.inj e1
  rw[y5O] at e2
  subst e2
  obtain⟨a,ys,rfl,h1,_,h2⟩:=z0h t
  obtain⟨y1,r1,rfl,t1,h3⟩:=z08 h2
  obtain⟨y2,r2,rfl,t2,h4⟩:=z08 h3
  obtain⟨y3,r3,rfl,t3,h5⟩:=z08 h4
  have:=z0E h5
  subst this
  obtain⟨b,ws,rfl,hb,_,tb⟩:=z0h t3
  rw[z0G t1,z0G t2] at h1
  rw[z4q tb] at hb
  exact⟨n,a,b,rfl,rfl,h1,hb⟩
theorem z6P{H:Hp}{ns:List Int}{rows:List Row}{r:Int}{zs:List V}(h:z0a H (z8Y ns rows r) zs):zs.length=(z1a ns).length:=by
 rw[h.length]
 unfold z8Y
 rw[b7]
def y2v(K:PySem.W.Frag):Sp:=fun vs H Q _=>∃(lg:Addr) (zs:List V) (ns:List Int) (rows:List Row) (r num:Int) (z:Str),vs=[.ref lg,.int num,.str z]/\SqL K H lg zs/\z0a H (z8Y ns rows r) zs/\
 ∀(v:V) (H':Hp),A4 H H'->A5 H' (y2u ns rows r num z) v->Q v H'
theorem y50(M:Bl mg)(F:Fun K "_law_again" "_law_again" z4D f fd):A7 P w K mg base CX0 1 f fd z4V (y2v K):=by
 have nd:=z6a.nd
 refine F.ok z6a (fun vs H Q E h=>?_) (fun cdv A outer s H vs Q E hr h=>?_)
 ·obtain⟨lg,zs,ns,rows,r,num,z,rfl,_⟩:=h
  rfl
 obtain⟨lg,zs,ns,rows,r,num,z,rfl,hG,tG,q⟩:=h
 refine⟨_,(z05 (z0i (z0t z0s rfl M.tuple bL (z00 (z1f ["_law_gap"] ["_law_number","_law_name"] [1,2] rfl (z0u rfl (by decide +kernel) rfl (by decide +kernel) rfl rfl) (z1k (pv 0)) (fun _ _ _ _ _=>(z0j (i:=0) (show((["_law_gap"]:List PySem.Str)++(["_law_number","_law_name"]:List PySem.Str)).Nodup from by decide +kernel) rfl (Or.inl rfl))) (z0y (by decide)) z0c (fun _ _ _ _ _=>(z21 (PW.pt (z4t (z09 z2E (z0Q (r:=M0 K) z0H (pv 0) z06 (fun _ _=>rfl)) (pv 1) (z0m _)) (z2U (z09 (r:=rIn K false) z3d (pv 2) (z0Q (r:=M0 K) z0H (pv 0) z06 (fun _ _=>rfl)) (by with_unfolding_all rfl))))))) (fun _ _ _ _ _=>(z0Y (z00 (z0Q (r:=M0 K) z0H (pv 0) z06 (fun _ _=>rfl)) (z00 (z0Q (r:=M0 K) z0H (pv 0) z06 (fun _ _=>rfl)) z03))))) z03)))),?_⟩
 have lz:=z6P tG
 have l60:=z2d ns
 refine⟨_,rfl,lg,rfl,⟨_,hG⟩,?_⟩
 refine z3Z (xs:=zs) (fun i ys H'=>A4 H H'/\z0a H' ((((z1a ns).take i).filter fun n=>decide (num<n) && decide (z∈z2j ns rows r n)).map fun n=>.tup [.int n,.int (z0M ns n r)]) ys) ⟨A4.refl _,by rw[d6];exact .nil⟩
  (fun i ys H' hi hp=>?_) (fun i x ys H' hx hp=>?_) (fun ys H' hp=>?_)
 ·obtain⟨g,t⟩:=hp
  refine⟨g.seq hG,z0g ?_⟩
  have:=cM (fun n=>decide (num<n) && decide (z∈z2j ns rows r n)) ((z1a ns).take i)
  rw[bN] at this
  rw[t.length,b7]
  omega
 ·obtain⟨g,t⟩:=hp
  obtain⟨n,a,b,en,rfl,ha,hb⟩:=z6O tG hx
  have sa:SqT K H' a [V.int n,V.int (z0M ns n r),V.ref b]:=SqT.of (g _ _ ha)
  have tks:=z0r en
  refine⟨_,rfl,a,_,0,_,rfl,rfl,sa,rfl,_,rfl,_,_,rfl,rfl,_,rfl,?_⟩
  rw[tks,dR,eX]
  refine A9 (fun c=>?_) (fun c=>?_)
  ·refine⟨_,rfl,_,rfl,a,_,2,_,rfl,rfl,sa,rfl,b,_,rfl,.inr (SqT.of (g _ _ hb)),rfl,z2I _,_,rfl,?_⟩
   rw[if_neg bF,z6B,c,gL]
   refine A9 (fun c2=>?_) (fun c2=>?_)
   ·rw[if_pos c2,bD]
    refine⟨_,rfl,a,_,0,_,rfl,rfl,sa,rfl,_,rfl,a,_,1,_,rfl,rfl,sa,rfl,(by show 2≤sizeLine;decide),fun u hu=>⟨g.trans (z01 hu _),?_⟩⟩
    exact z0a.snoc (z0a.keep (z01 hu _) _ _ t) (z0x z02 (by show 2≤1000000;decide) (.cons (z0z _) (.cons (z0z _) .nil)))
   ·rw[if_neg c2,fZ,d7]
    exact⟨g,t⟩
  ·rw[h8.mpr c,gT]
   refine C3 ?_
   rw[if_neg bF,fZ,d7]
   exact⟨g,t⟩
 ·obtain⟨g,t⟩:=hp
  rw[lz,bR] at t
  intro D hD
  refine⟨D,_,rfl,.inl ⟨SqL.of z02,fun l hl=>?_⟩⟩
  have s2:=(z01 hD (.lst ys)).trans (z01 hl (.tup ys))
  refine q _ _ (g.trans s2) (z0x z02 ?_ (z0a.keep s2 _ _ t))
  have:=z8i ns rows r num z
  rw[b7]
  omega
def z1C(ns:List Int)(r num:Int):List Int:=(z1a ns).filter fun n=>decide (num<n) && decide (z0M ns n r=0)
def z0K(ns:List Int)(rows:List Row)(r num:Int)(z:Str):Str:=if 0<(z1h ns rows r num z).length then "stale" else if z1C ns r num=[] then "sure" else "open"
def y3c(K:PySem.W.Frag):Sp:=fun vs H Q _=>∃(lg:Addr) (zs:List V) (ns:List Int) (rows:List Row) (r num:Int) (z:Str),vs=[.ref lg,.int num,.str z]/\SqL K H lg zs/\z0a H (z8Y ns rows r) zs/\
 ∀H',A4 H H'->Q (.str (z0K ns rows r num z)) H'
theorem y2q(M:Bl mg)(F:Fun K "_law_state" "_law_state" z4M f fd)(L8:Cal P w K mg base 1 "_law_again" z4V (y2v K)):A7 P w K mg base CX0 2 f fd z4I (y3c K):=by
 have nd:=z63.nd
 refine F.ok z63 (fun vs H Q E h=>?_) (fun cdv A outer s H vs Q E hr h=>?_)
 ·obtain⟨lg,zs,ns,rows,r,num,z,rfl,_⟩:=h
  rfl
 obtain⟨lg,zs,ns,rows,r,num,z,rfl,hG,tG,q⟩:=h
 refine⟨_,(z04 (z0R (z09 z2E (z0d z0f rfl M.len bW (z00 (z0q L8 (rm hr) rfl (z00 (pv 0) (z00 (pv 1) (z00 (pv 2) z03)))) z03)) z06 (z0m _)) (z05 (z0i z2Q)) z0p) (z04 (z0R (z09 (y5g hr.P8) (z1f ["_law_gap"] ["_law_number"] [1] rfl (z0u rfl (by decide +kernel) rfl (by decide +kernel) rfl rfl) (z1k (pv 0)) (fun _ _ _ _ _=>(z0j (i:=0) (show((["_law_gap"]:List PySem.Str)++(["_law_number"]:List PySem.Str)).Nodup from by decide +kernel) rfl (Or.inl rfl))) (z0y (by decide)) z0c (fun _ _ _ _ _=>(z21 (PW.pt (z4t (z09 z2E (z0Q (r:=M0 K) z0H (pv 0) z06 (fun _ _=>rfl)) (pv 1) (z0m _)) (z2U (z09 z2r (z0Q (r:=M0 K) z0H (pv 0) z06 (fun _ _=>rfl)) z06 (z0m _))))))) (fun _ _ _ _ _=>(z0Q (r:=M0 K) z0H (pv 0) z06 (fun _ _=>rfl)))) (z1t z03) (z0m _)) (z05 (z0i z2Q)) z0p) (z05 (z0i z2Q)))),?_⟩
 have lz:=z6P tG
 have l60:=z2d ns
 refine⟨_,rfl,_,rfl,_,rfl,lg,zs,ns,rows,r,num,z,rfl,hG,tG,fun v H1 s1 t1=>?_⟩
 obtain⟨a,xs,rfl,ha,_,ta⟩:=z0h t1
 have lx:xs.length=(z1h ns rows r num z).length:=by rw[ta.length,b7]
 refine⟨a,xs,rfl,.inr (SqT.of ha),_,_,rfl,rfl,_,rfl,?_⟩
 rw[lx]
 refine A9 (fun c=>?_) (fun c=>?_)
 ·have c':(0:Int)<((z1h ns rows r num z).length:Int):=z0A c
  have e:z0K ns rows r num z="stale":=by
   unfold z0K
   rw[if_pos (by omega)]
  exact(by rw[<- e];exact q _ s1)
 have c':¬(0:Int)<((z1h ns rows r num z).length:Int):=z3e c
 have nx:¬0<(z1h ns rows r num z).length:=by omega
 refine⟨_,rfl,lg,rfl,⟨_,s1.seq hG⟩,?_⟩
 refine z3Z (xs:=zs) (fun i ys H'=>H'=H1/\ys=(((z1a ns).take i).filter fun n=>decide (num<n) && decide (z0M ns n r=0)).map V.int) ⟨rfl,rfl⟩ (fun i ys H' hi hp=>?_) (fun i x ys H' hx hp=>?_) (fun ys H' hp=>?_)
 ·obtain⟨rfl,rfl⟩:=hp
  refine⟨s1.seq hG,z0g ?_⟩
  have:=cM (fun n=>decide (num<n) && decide (z0M ns n r=0)) ((z1a ns).take i)
  rw[bN] at this
  rw[b7]
  omega
 ·obtain⟨rfl,rfl⟩:=hp
  obtain⟨n,a2,b2,en,rfl,ha2,hb2⟩:=z6O (z0a.keep s1 _ _ tG) hx
  have sa:SqT K H' a2 [V.int n,V.int (z0M ns n r),V.ref b2]:=SqT.of ha2
  have tks:=z0r en
  refine⟨_,rfl,a2,_,0,_,rfl,rfl,sa,rfl,_,rfl,_,_,rfl,rfl,_,rfl,?_⟩
  rw[tks,dR,eX]
  refine A9 (fun c=>?_) (fun c=>?_)
  ·refine⟨_,rfl,a2,_,1,_,rfl,rfl,sa,rfl,rfl,_,rfl,?_⟩
   rw[c,gL]
   refine A9 (fun c2=>?_) (fun c2=>?_)
   ·have c3:z0M ns n r=0:=by
     have:=z0A c2
     injection this
    rw[decide_eq_true c3,if_pos rfl,bD]
    exact⟨_,rfl,a2,_,0,_,rfl,rfl,sa,rfl,rfl,rfl⟩
   ·have c3:¬z0M ns n r=0:=fun e=>z3e c2 (by rw[e])
    rw[decide_eq_false c3,if_neg bF,fZ,d7]
    exact⟨rfl,rfl⟩
  ·rw[h8.mpr c,gT]
   refine C3 ?_
   rw[if_neg bF,fZ,d7]
   exact⟨rfl,rfl⟩
 ·obtain⟨rfl,rfl⟩:=hp
  rw[lz,bR]
  have ed:((z1a ns).filter fun n=>decide (num<n) && decide (z0M ns n r=0))=z1C ns r num:=rfl
  rw[ed]
  intro D hD
  refine⟨(by show 0≤sizeLine;decide),fun e0 he0=>⟨D,e0,_,rfl,rfl,SqL.of (z01 he0 _ _ _ z02),SqL.of z02,_,rfl,?_⟩⟩
  have s2:=s1.trans ((z01 hD (.lst ((z1C ns r num).map V.int))).trans (z01 he0 (.lst [])))
  cases e:z1C ns r num with
  | nil=>
   rw[e] at s2
   refine C3 ?_
   have es:z0K ns rows r num z="sure":=by
    unfold z0K
    rw[if_neg nx,if_pos e]
   exact(by rw[<- es];exact q _ s2)
  | cons y ys=>
   rw[e] at s2
   refine O5 ?_
   have es:z0K ns rows r num z="open":=by
    unfold z0K
    rw[if_neg nx,if_neg (by rw[e];simp)]
   exact(by rw[<- es];exact q _ s2)
def R4(ns:List Int)(rows:List Row)(r:Int)(z:Str):DV:=.tup [.str z,.str (z0K ns rows r (z0N (z0w (z0b ns) rows z)) z),.int (z0N (z0w (z0b ns) rows z)),y2n (z0w (z0b ns) rows z)]
def z7l(nm:List Str)(ns:List Int)(rows:List Row)(r:Int):DV:=.tup (nm.map (R4 ns rows r))
def y3Y(K:PySem.W.Frag):Sp:=fun vs H Q _=>∃(ln p lr:Addr) (nm:List Str) (ns:List Int) (us:List V) (rows:List Row) (r:Int),vs=[.ref ln,.ref p,.ref lr,.int r]/\SqL K H ln (nm.map V.str)/\nm.length≤12/\H p=some (.lst (ns.map V.int))/\ns.length<64/\ns.Nodup/\(∀x∈ns,1≤x/\x≤60)/\(∀x∈ns,x≤rows.length)/\
 SqL K H lr us/\z0a H (rows.map L9) us/\(∀w∈rows,w.length≤12)/\0≤r/\∀(v:V) (H':Hp),A4 H H'->A5 H' (z7l nm ns rows r) v->Q v H'
theorem y58(M:Bl mg)(F:Fun K "_law_table" "_law_table" z4w f fd)(M8:Cal P w K mg base 2 "_law_gaps" z5D (y5p K))(M7:Cal P w K mg base 1 "_law_held" z5Q (y2p K))
  (K8:Cal P w K mg base 2 "_law_state" z4I (y3c K)):A7 P w K mg base CX0 3 f fd z4C (y3Y K):=by
 have nd:=z6e.nd
 refine F.ok z6e (fun vs H Q E h=>?_) (fun cdv A outer s H vs Q E hr h=>?_)
 ·obtain⟨ln,p,lr,nm,ns,us,rows,r,rfl,_⟩:=h
  rfl
 obtain⟨ln,p,lr,nm,ns,us,rows,r,rfl,hN,n12,hP,h64,nds,B4,hup,hR,tl,h12,r0,q⟩:=h
 refine⟨_,(z04 (z0n (i:=4) nd rfl (Or.inl rfl) (z0q M8 (rm hr) rfl (z00 (pv 1) (z00 (pv 2) (z00 (pv 3) z03))))) (z04 (z0n (i:=5) nd rfl (Or.inl rfl) (z1t z03)) (z04 (z1c cG rfl (z1k (pv 0)) (z0j (i:=6) nd rfl (Or.inl rfl)) (z04 (z0n (i:=7) nd rfl (Or.inl rfl) (z0q M7 (rm hr) rfl (z00 (pv 1) (z00 (pv 2) (z00 (pv 6) z03))))) (z05 (z0B (z3I cE bX cD z0O (pv 5) (z00 (z0Y (z00 (pv 6) (z00 (z0q K8 (rm hr) rfl (z00 (pv 4) (z00 (z0Q z0H (pv 7) z06 (fun _ _=>rfl)) (z00 (pv 6) z03)))) (z00 (z0Q z0H (pv 7) z06 (fun _ _=>rfl)) (z00 (z0Q z0H (pv 7) z06 (fun _ _=>rfl)) z03))))) z03)))))) (z05 (z0i (z0t z0s rfl M.tuple bL (z00 (pv 5) z03))))))),?_⟩
 refine⟨_,rfl,_,rfl,_,rfl,p,lr,ns,us,rows,r,rfl,hP,B4,by omega,hup,hR,tl,h12,r0,fun lg gz H1 nlg s1 eG tG=>?_⟩
 refine⟨(by show 0≤sizeLine;decide),fun lt hlt=>?_⟩
 refine⟨_,rfl,ln,rfl,⟨_,(s1.trans (z01 hlt _)).seq hN⟩,z1s (K:=K) (a:=ln) (xs:=nm.map V.str) (fun i σ H'=>∃(ts:List V) (o1 o2:Option V),(∀b u,H1 b=some u->H' b=some u)/\H' lt=some (.lst ts)/\z0a H' ((nm.take i).map (R4 ns rows r)) ts/\
   σ=[some (.ref ln),some (.ref p),some (.ref lr),some (.int r),some (.ref lg),some (.ref lt),o1,o2])
  ⟨[],none,none,z01 hlt _,z02,by rw[d6];exact .nil,rfl⟩ (fun i σ H' _ ⟨_,_,_,g,_⟩=>(s1.trans g).seq hN) ?_ ?_⟩
 ·rintro i x σ H' hi ⟨ts,o1,o2,g,eT,tT,rfl⟩
  have g':A4 H1 H':=g
  obtain⟨z,hz,rfl⟩:∃z,nm[i]? = some z/\x=V.str z:=by
   rw[bH] at hi
   cases e:nm[i]? with
   | none=>rw[e] at hi;cases hi
   | some z=>rw[e] at hi;exact⟨z,rfl,(Option.some.inj hi).symm⟩
  have lts:ts.length≤12:=by
   rw[tT.length,b7,bN]
   omega
  have sg:=s1.trans g'
  refine⟨_,rfl,_,rfl,_,rfl,p,lr,ns,us,rows,z,rfl,SqL.of (sg _ _ hP),h64,nds,B4,hup,sg.seq hR,z0a.keep sg _ _ tl,fun hv H3 s3 th=>?_⟩
  obtain⟨ah,y,rfl,eh,ty⟩:=z3n th
  have sah:SqT K H3 ah [V.int (z0N (z0w (z0b ns) rows z)),y]:=SqT.of eh
  refine⟨_,rfl,.inl ⟨rfl,_,SqL.of (s3 _ _ eT)⟩,_,rfl,_,rfl,_,rfl,ah,_,0,_,rfl,rfl,sah,rfl,_,rfl,lg,gz,ns,rows,r,_,z,rfl,SqL.of (s3 _ _ (g _ _ eG)),z0a.keep (g'.trans s3) _ _ tG,fun H4 s4=>?_⟩
  have sah4:SqT K H4 ah [V.int (z0N (z0w (z0b ns) rows z)),y]:=SqT.of (s4 _ _ eh)
  refine⟨_,rfl,ah,_,0,_,rfl,rfl,sah4,rfl,_,rfl,ah,_,1,_,rfl,rfl,sah4,rfl,(by show 4≤sizeLine;decide),fun t ht=>?_⟩
  have s34:=s3.trans (s4.trans (z01 ht (.tup [V.str z,V.str (z0K ns rows r (z0N (z0w (z0b ns) rows z)) z),V.int (z0N (z0w (z0b ns) rows z)),y])))
  refine⟨lt,_,_,rfl,rfl,s34 _ _ eT,z0g (by omega),?_⟩
  refine⟨_,_,_,fun b u e=>?_,z02,?_,rfl⟩
  ·rw[z0e (z0l e hlt)]
   exact s34 _ _ (g b u e)
  ·rw[z0r hz,bD]
   refine z0a.over (s34 _ _ eT) (fun _ e=>by cases e) _ _ (z0a.snoc (z0a.keep s34 _ _ tT) (z0x z02 (by show 4≤1000000;decide) (.cons (z1P _) (.cons (z1P _) (.cons (z0z _) (.cons ?_ .nil))))))
   exact A5.keep (s4.trans (z01 ht _)) _ _ ty
 ·rintro σ H' ⟨ts,o1,o2,g,eT,tT,rfl⟩
  rw[b7,bR] at tT
  refine⟨_,rfl,lt,ts,rfl,.inl ⟨SqL.of eT,fun l hl=>?_⟩⟩
  refine q _ _ (s1.trans (A4.trans g (z01 hl _))) (z0x z02 ?_ (z0a.keep (z01 hl _) _ _ tT))
  rw[b7]
  omega
theorem y4F{ds:List DV}{n:Nat}(h:∀d∈ds,d.deep≤n):DV.O3 ds≤n:=by
 induction ds with
 | nil=>unfold DV.O3;exact cQ _
 | cons d r ih=>
  unfold DV.O3
  exact Nat.max_le.mpr ⟨h d bS,ih fun x hx=>h x (bM _ hx)⟩
theorem y0V{ds:List DV}{n:Nat}(h:∀d∈ds,d.deep≤n):(DV.tup ds).deep≤n+1:=by
 unfold DV.deep
 exact hW (y4F h)
theorem y0J(i:Int)(n:Nat):(DV.int i).deep≤n:=by unfold DV.deep;exact cQ _
theorem y1f(i:Str)(n:Nat):(DV.str i).deep≤n:=by unfold DV.deep;exact cQ _
theorem z89{rows:List Row}{j:Nat}{k:Int}(h0:1≤k)(h:k≤j):z0D (rows.take j) k=z0D rows k:=by
 unfold z0D
 have hk:(k-1).toNat<j:=by omega
 rw[bP,bP,List.getElem?_take,if_pos hk]
theorem y0p{rows:List Row}{j:Nat}{n r:Int}(h0:1≤n)(h:n≤j):z0Z (rows.take j) n r=z0Z rows n r:=by
 unfold z0Z y4C
 rw[z89 h0 h]
 have e:(z5K n r).map (y1S (rows.take j))=(z5K n r).map (y1S rows):=jB fun k hk=>by
  unfold z5K at hk
  rw[bV,z7D] at hk
  unfold y1S
  rw[z89 (by omega) (by omega)]
 rw[e]
abbrev OfP:=Hp->Addr->List Addr->List Str->Int->List Row->Prop
structure V7(C:Addr)(ms:List Str)(Of:OfP):Prop where
 ins:∀{H p fp zs r rows},Of H p fp zs r rows->∃dx fs,H p=some (.ins C dx fs)/\∀m∈ms,fs.lookup m=none
 own:∀{H p fp zs r rows},Of H p fp zs r rows->∀b∈fp,∃o,H b=some o/\∀xs,o≠.tup xs
 keep:∀{H H' p fp gp zs r rows},Of H p fp zs r rows->z0o gp H H'->(∀b∈gp,b∉fp)->z47 H gp->Of H' p fp zs r rows
theorem V7.same{C:Addr}{ms:List Str}{Of:OfP}(O:V7 C ms Of){H H':Hp}{p:Addr}{fp:List Addr}{zs:List Str}{r:Int}{rows:List Row}(h:Of H p fp zs r rows)(s:A4 H H'):Of H' p fp zs r rows:=
 O.keep (gp:=[]) h (.of s) (fun _ q=>by cases q) fun _ q=>by cases q
theorem V7.N3{C:Addr}{ms:List Str}{Of:OfP}(O:V7 C ms Of){H:Hp}{p:Addr}{fp:List Addr}{zs:List Str}{r:Int}{rows:List Row}(h:Of H p fp zs r rows):z47 H fp:=fun b m xs e=>by
 obtain⟨o,e1,n⟩:=O.own h b m
 rw[e1] at e
 exact n xs (Option.some.inj e)
def z8U(K:PySem.W.Frag)(H:Hp)(fp:List Addr)(u:V)(p:Str×Int):Prop:=∃a,u=.ref a/\(SqL K H a [.str p.1,.int p.2]\/SqT K H a [.str p.1,.int p.2])/\a∉fp
def y3N(K:PySem.W.Frag)(H:Hp)(fp:List Addr)(v:V)(pr:Row):Prop:=∃a us,v=.ref a/\SqP K H a us/\a∉fp/\Paired (z8U K H fp) us pr
def z1b(zs:List Str)(pr:Row):Row:=zs.filterMap fun z=>pr.find? fun p=>decide (p.1=z)
structure GoodR(zs:List Str)(pr:Row):Prop where
 nd:(pr.map Prod.fst).Nodup
 sub:∀p∈pr,p.1∈zs
 val:∀p∈pr,0≤p.2/\p.2≤1000000
def y11(K:PySem.W.Frag)(C:Addr)(Of:OfP):Sp:=fun vs H Q _=>∃(x dx pn:Addr) (zs:List Str) (r:Int),vs=[.ref x,.ref pn,.int r]/\H x=some (.ins C dx [])/\dx≠x/\H dx=some (.own x)/\HdN K H pn zs/\E2 zs/\0≤r/\r≤10/\
 ∀(fp:List Addr) (H':Hp),(∀b∈fp,b=x\/b=dx\/H b=none)->z0o [x] H H'->Of H' x fp zs r []->Q .non H'
def z9B(K:PySem.W.Frag)(Of:OfP):Sp:=fun vs H Q _=>∃(p:Addr) (v:V) (fp:List Addr) (zs:List Str) (r:Int) (rows:List Row) (pr:Row),vs=[.ref p,v]/\Of H p fp zs r rows/\y3N K H fp v pr/\GoodR zs pr/\pr.length≤12/\rows.length<60/\
 ∀(fp':List Addr) (H':Hp),(∀b∈fp',b∈fp\/H b=none)->z0o fp H H'->Of H' p fp' zs r (rows++[z1b zs pr])->Q (.int (rows.length+1)) H'
def z8h(Of:OfP):Sp:=fun vs H Q _=>∃(p:Addr) (fp:List Addr) (zs:List Str) (r:Int) (rows:List Row),vs=[.ref p]/\Of H p fp zs r rows/\∀H',A4 H H'->Q (.int rows.length) H'
def z59(Of:OfP):Sp:=fun vs H Q _=>∃(p:Addr) (fp:List Addr) (zs:List Str) (r:Int) (rows:List Row) (n:Int),vs=[.ref p,.int n]/\Of H p fp zs r rows/\1≤n/\n≤rows.length/\
 ∀(v:V) (H':Hp),A4 H H'->A5 H' (z0Z rows n r) v->Q v H'
theorem z2P{z:Str}{zs:List Str}{pr:Row}:z1b (z::zs) pr=(match pr.find? fun p=>decide (p.1=z) with|some p=>p::z1b zs pr|none=>z1b zs pr):=by
 unfold z1b
 rw[eO]
 cases pr.find? fun p=>decide (p.1=z)<;>rfl
theorem z6q{p:Str×Int}{w:Row}:∀{zs:List Str},p.1∉zs->z1b zs (p::w)=z1b zs w
 | [],_=>rfl
 | y::ys,h=>by
  rw[bA,not_or] at h
  rw[z2P,z2P,dN,decide_eq_false h.1,z6q h.2]
theorem z4N:∀{zs:List Str}{w:Row},zs.Nodup->(w.map Prod.fst).Sublist zs->z1b zs w=w
 | [],w,_,h=>by
  have:w.map Prod.fst=[]:=List.sublist_nil.mp h
  rw[List.map_eq_nil_iff] at this
  rw[this]
  rfl
 | z::zs,w,nd,h=>by
  rw[cW] at nd
  generalize e:w.map Prod.fst=l at h
  cases h with
  | cons _ h=>
   subst e
   have no:w.find? (fun p=>decide (p.1=z))=none:=gS.mpr fun p hp=>by
    have:p.1∈zs:=h.subset (gM hp)
    intro e
    exact nd.1 (of_decide_eq_true e ▸ this)
   rw[z2P,no]
   exact z4N nd.2 h
  | cons_cons _ h=>
   cases w with
   | nil=>cases e
   | cons p w=>
    rw[cK] at e
    injection e with e1 e2
    subst e2
    rw[z2P,dN,decide_eq_true e1,z6q (by rw[e1];exact nd.1),z4N nd.2 h]
def tsN(n:Int)(j:Nat):List Int:=(dnI n j).filter fun k=>decide (1≤k)
def tsP(ss:List (List Str))(k:Int):DV:=.tup [.int k,P9 (ss.getD (k-1).toNat [])]
def tsD(ss:List (List Str))(r:Int):DV:=.tup ((tsN ss.length r.toNat).map (tsP ss))
theorem y6k(n:Int)(j:Nat):(tsN n j).length≤j:=by
 have h:=cM (fun k=>decide (1≤k)) (dnI n j)
 rw[y0w] at h
 exact h
def y5o(K:PySem.W.Frag):Sp:=fun vs H Q _=>∃(p:Addr) (xs:List V) (ss:List (List Str)) (r:Int),vs=[.ref p,.int r]/\(SqL K H p xs\/SqT K H p xs)/\z0a H (ss.map P9) xs/\ss.length≤59/\(∀s∈ss,s.length≤12)/\0≤r/\r≤10/\
 ∀(v:V) (H':Hp),A4 H H'->A5 H' (tsD ss r) v->Q v H'
def y01:Sp:=fun vs H Q _=>∃n r:Int,vs=[.int n,.int r]/\1≤n/\n≤60/\0≤r/\r≤10/\
 ∀(l:Addr) (H':Hp),A4 H H'->H' l=some (.tup (((upI 1 60).filter fun x=>decide (x≤n) && decide (n-x≤r)).map V.int))->Q (.ref l) H'
theorem y1n{n r:Int}(h1:1≤n)(h2:n≤60)(h3:0≤r)(h4:r≤10) :
  Q9 (if n-r > 1 then n-r else 1) (n+1-(if n-r > 1 then n-r else 1)).toNat=((upI 1 60).filter fun x=>decide (x≤n) && decide (n-x≤r)).map V.int:=by
 rw[y6b]
 refine congrArg (List.map V.int) (z2a (z1D _ _) ((z1D _ _).filter _) fun x=>?_)
 rw[bV,z11,z11,bQ,decide_eq_true_eq,decide_eq_true_eq]
 split<;>omega
theorem y1v(M:Bl mg)(F:Fun K "reached_by" "reached_by" z4P f fd):A7 P w K mg base CX0 1 f fd z4O y01:=by
 have nd:=z6k.nd
 refine F.ok z6k (fun vs H Q E h=>?_) (fun cdv A outer s H vs Q E hr h=>?_)
 ·obtain⟨n,r,rfl,_⟩:=h
  rfl
 obtain⟨n,r,rfl,h1,h2,h3,h4,q⟩:=h
 refine⟨_,(z05 (z0i (z0t (z7U rfl) rfl M.tuple bL (z00 (z0t y45 rfl M.range PyProof.Rows.boot_range (z00 (z0d (y2E rfl) rfl M.max gC (z00 z06 (z00 (z0v z4m (pv 0) (pv 1)) z03))) (z00 (z0v z1M (pv 0) z06) z03))) z03)))),?_⟩
 refine⟨_,rfl,_,rfl,_,_,rfl,rfl,_,_,rfl,_,rfl,_,_,rfl,rfl,_,_,rfl,fun p hp=>?_⟩
 refine⟨p,_,_,rfl,z02,⟨?_,?_,?_,?_⟩,?_,fun l hl=>?_⟩
 ·split<;>omega
 ·split<;>omega
 ·omega
 ·omega
 ·split<;>omega
 ·refine q l _ ((z01 hp _).trans (z01 hl _)) ?_
  rw[z02,y1n h1 h2 h3 h4]
theorem z7m(hi:Int)(j:Nat):(dnI hi j).Pairwise (· > ·):=by
 unfold dnI
 rw[dY]
 exact h9.imp fun h=>by omega
theorem z7A{n:Int}{j:Nat}{x:Int}:x∈tsN n j↔1≤x/\n-j<x/\x≤n:=by
 unfold tsN
 rw[bV,z7D,decide_eq_true_eq]
 omega
theorem y6o(n:Int)(j:Nat):(tsN n j).reverse.Pairwise (· < ·):=by
 rw[j5]
 exact((z7m n j).filter _).imp fun h=>h
theorem y3C{n r:Int}(h0:0≤n)(h1:n≤59)(r0:0≤r)(r1:r≤10):((upI 1 60).filter fun x=>decide (x≤n+1) && decide (n+1-x≤r))=(tsN n r.toNat).reverse++[n+1]:=by
 refine z2a ((z1D _ _).filter _) (dO.mpr ⟨y6o _ _,fT _ _,fun x hx y hy=>?_⟩) fun x=>?_
 ·rw[gJ,z7A] at hx
  rw[b9] at hy
  omega
 ·rw[bV,z11,bQ,decide_eq_true_eq,decide_eq_true_eq,bO,gJ,z7A,b9]
  omega
theorem y5Q(M:Bl mg)(F:Fun K "tail_for" "tail_for" z7H f fd)(K9:Cal P w K mg base 1 "reached_by" z4O y01):A7 P w K mg base CX0 2 f fd z7g (y5o K):=by
 have nd:=z8n.nd
 refine F.ok z8n (fun vs H Q E h=>?_) (fun cdv A outer s H vs Q E hr h=>?_)
 ·obtain⟨p,xs,ss,r,rfl,_⟩:=h
  rfl
 obtain⟨p,xs,ss,r,rfl,hS,tS,l60,l12,r0,r1,k⟩:=h
 refine⟨_,(z04 (z0n (i:=2) nd rfl (Or.inl rfl) (z0v z1M (z0d z0f rfl M.len bW (z00 (pv 0) z03)) z06)) (z04 (z0n (i:=3) nd rfl (Or.inl rfl) (z5m y5E (z0q K9 (rm hr) rfl (z00 (pv 2) (z00 (pv 1) z03))) z73 (z7O (y2e z9h z06)))) (z05 (z0i (z0t z0s rfl M.tuple bL (z00 (z1f ["earlier"] ["sets"] [0] rfl (z0u rfl (by decide +kernel) rfl (by decide +kernel) rfl rfl) (y5s rfl M.reversed (z00 (pv 3) z03)) (fun _ _ _ _ _=>(z0j (i:=0) (show((["earlier"]:List PySem.Str)++(["sets"]:List PySem.Str)).Nodup from by decide +kernel) rfl (Or.inl rfl))) (z0y (by decide)) z0c (fun _ _ _ _ _=>z26) (fun _ _ _ _ _=>(z0Y (z00 (pv 0) (z00 (z0t (z7P (K:=K) rfl) rfl M.tuple bL (z00 (z0Q (r:=rIx K) y76 (pv 1) (z0v z4m (pv 0) z06) (fun _ _=>rfl)) z03)) z03))))) z03)))))),?_⟩
 have lx:xs.length=ss.length:=by rw[tS.length,b7]
 have lx':(xs.length:Int)=ss.length:=by omega
 refine⟨_,rfl,p,xs,rfl,hS,_,_,rfl,rfl,?_⟩
 refine⟨_,rfl,_,rfl,(xs.length:Int)+1,r,rfl,by omega,by omega,r0,r1,fun l H1 s1 e1=>?_⟩
 rw[lx',y3C (by omega) (by omega) r0 r1] at e1
 have eL:(((tsN ss.length r.toNat).reverse++[(ss.length:Int)+1]).map V.int).length=(tsN ss.length r.toNat).length+1:=by
  rw[b7,bI,fS]
  rfl
 have sx:HT.sIx (((tsN ss.length r.toNat).reverse++[(ss.length:Int)+1]).map V.int).length (((tsN ss.length r.toNat).reverse++[(ss.length:Int)+1]).map V.int).length (some (-1))=(tsN ss.length r.toNat).length:=by
  rw[eL]
  show(if (-1:Int)<0 then (-1+(((tsN ss.length r.toNat).length+1:Nat):Int)).toNat else min (-1:Int).toNat ((tsN ss.length r.toNat).length+1))=_
  rw[if_pos (by decide)]
  omega
 have cut:P5 (((tsN ss.length r.toNat).reverse++[(ss.length:Int)+1]).map V.int) none (some (-1))=(tsN ss.length r.toNat).reverse.map V.int:=by
  unfold P5
  rw[sx]
  show List.take ((tsN ss.length r.toNat).length-0) (List.drop 0 _)=_
  rw[gU,jN,bD,List.take_left' (by rw[b7,fS])]
 refine⟨_,rfl,-1,rfl,l,_,rfl,SqT.of e1,?_,fun a ha=>?_⟩
 ·rintro⟨_,z⟩
  rw[sx,eL] at z
  omega
 rw[cut]
 have s2:=s1.trans (z01 ha (.tup ((tsN ss.length r.toNat).reverse.map V.int)))
 have e2:upd H1 a (.tup ((tsN ss.length r.toNat).reverse.map V.int)) a=some (.tup ((tsN ss.length r.toNat).reverse.map V.int)):=z02
 generalize upd H1 a (.tup ((tsN ss.length r.toNat).reverse.map V.int))=H2 at s2 e2
 have le:=y6k ss.length r.toNat
 have lr:((tsN ss.length r.toNat).reverse.map V.int).length=(tsN ss.length r.toNat).length:=by rw[b7,fS]
 refine⟨_,rfl,a,_,rfl,SqT.of e2,?_⟩
 refine y4a (fun i ys H'=>A4 H2 H'/\z0a H' (((tsN ss.length r.toNat).take i).map (tsP ss)) ys) ⟨A4.refl _,by rw[d6];exact .nil⟩ (fun i ys H' hi hp=>?_) (fun i x ys H' hx hp=>?_) (fun ys H' hp=>?_)
 ·obtain⟨g,t⟩:=hp
  refine⟨SqT.of (g _ _ e2),z0g ?_⟩
  rw[t.length,b7,bN]
  omega
 ·obtain⟨g,t⟩:=hp
  rw[<- List.map_reverse,gK,bH] at hx
  obtain⟨m,hm,rfl⟩:=cJ.mp hx
  have hb:=z7A.mp (bT hm)
  have hk:(m-1).toNat<ss.length:=by omega
  have t2:=z0a.keep (s2.trans g) _ _ tS
  obtain⟨v,ev,tv⟩:=t2.get (m-1).toNat (P9 (ss.getD (m-1).toNat [])) (by
   rw[bH,bP,bG hk]
   rfl)
  have av:atI xs (m-1)=some v:=by
   have e:m-1=(((m-1).toNat:Nat):Int):=by omega
   rw[e]
   exact z1m ev
  obtain⟨b,us,rfl,eb,_,_⟩:=z0h tv
  refine⟨_,rfl,_,rfl,_,rfl,_,_,rfl,rfl,?_⟩
  have go:∀(z:A5 H' (P9 (ss.getD (m-1).toNat [])) (.ref b)),y5n K [.ref b] H' fun x H3=>[V.int m,x].length≤sizeLine/\∀q,H3 q=none->A4 H2 (upd H3 q (.tup [.int m,x]))/\z0a (upd H3 q (.tup [.int m,x])) (((tsN ss.length r.toNat).take (i+1)).map (tsP ss)) (ys++[.ref q]):=fun z=>
   ⟨b,us,rfl,.inr ⟨SqT.of eb,by show 2≤sizeLine;decide,fun q hq=>⟨g.trans (z01 hq _),by
    rw[dX,hm,bD]
    exact z0a.snoc (z0a.keep (z01 hq _) _ _ t) (z0x z02 (by show 2≤1000000;decide) (.cons (z0z _) (.cons (A5.keep (z01 hq _) _ _ z) .nil)))⟩⟩⟩
  rcases hS with hS|hS
  ·exact .inl ⟨p,xs,_,.ref b,rfl,rfl,(s2.trans g).seq hS,av,go tv⟩
  ·exact .inr (.inl ⟨p,xs,_,.ref b,rfl,rfl,z6A (s2.trans g) hS,av,go tv⟩)
 ·obtain⟨g,t⟩:=hp
  rw[lr,bR] at t
  intro D hD
  refine⟨D,ys,rfl,.inl ⟨SqL.of z02,fun q hq=>k _ _ (s2.trans (g.trans ((z01 hD _).trans (z01 hq _)))) (z0x z02 ?_ (z0a.keep ((z01 hD _).trans (z01 hq _)) _ _ t))⟩⟩
  rw[b7]
  omega
def kvR(p:Str×Int):Key×V:=(Sum.inr p.1,.int p.2)
def y5S(K:PySem.W.Frag):Sp:=fun vs H Q _=>∃(p:Addr) (zs:List Str) (z:Str),vs=[.ref p,.str z]/\SqN K H p zs/\z∈zs/\Q .non H
theorem z9Z(x:Str)(ns:List Str):inV (.str x) (ns.map V.str)=decide (x∈ns):=by
 unfold inV
 rw[dL,gR,hV,decide_eq_true_eq]
 constructor
 ·rintro⟨y,hy,e⟩
  have:y=x:=by simpa [eqV] using e
  exact this ▸ hy
 ·intro h
  exact⟨x,h,by simp[eqV]⟩
theorem y6I(M:Bl mg)(F:Fun K "refuse_unknown_name" "refuse_unknown_name" z1F f fd):A7 P w K mg base CX0 1 f fd z17 (y5S K):=by
 have nd:=z2c.nd
 refine F.ok z2c (fun vs H Q E h=>?_) (fun cdv A outer s H vs Q E hr h=>?_)
 ·obtain⟨p,zs,z,rfl,_⟩:=h
  rfl
 obtain⟨p,zs,z,rfl,hp,hz,k⟩:=h
 refine⟨_,(z05 (z0R (z09 z2e (pv 1) (pv 0) (by with_unfolding_all rfl)) (z05 z1q) z0p)),?_⟩
 refine⟨_,rfl,_,rfl,p,_,rfl,hp,rfl,z2I zs,_,rfl,?_⟩
 rw[if_pos rfl,z9Z,decide_eq_true hz]
 exact A9 (fun c=>absurd c (by decide)) fun _=>k
def y1c:Sp:=fun vs H Q _=>∃v:Int,vs=[.int v]/\0≤v/\v≤1000000/\Q .non H
theorem y3E(M:Bl mg)(F:Fun K "refuse_bad_value" "refuse_bad_value" z27 f fd):A7 P w K mg base CX0 1 f fd z22 y1c:=by
 have nd:=z2N.nd
 refine F.ok z2N (fun vs H Q E h=>?_) (fun cdv A outer s H vs Q E hr h=>?_)
 ·obtain⟨r,rfl,_⟩:=h
  rfl
 obtain⟨r,rfl,r0,r1,k⟩:=h
 refine⟨_,(z05 (z0R (PW.pt (z38 (z09 z7V (pv 0) z06 (z0m _)) (z2s (z09 z2E (pv 0) (z2w rfl M.MOST_VALUE) (z0m _))))) (z05 z1q) z0p)),?_⟩
 refine⟨_,rfl,_,_,rfl,rfl,_,rfl,A9 (fun q=>absurd (z0A q) (by omega)) fun _=>?_⟩
 exact⟨_,rfl,_,_,rfl,rfl,_,rfl,A9 (fun q=>absurd (z0A q) (by omega)) fun _=>k⟩
def z2n(K:PySem.W.Frag)(H:Hp)(u:V)(p:Str×Int):Prop:=∃a,u=.ref a/\(SqL K H a [.str p.1,.int p.2]\/SqT K H a [.str p.1,.int p.2])
theorem z2n.keep{K:PySem.W.Frag}{H H':Hp}(s:A4 H H'):∀{us:List V}{pr:Row},Paired (z2n K H) us pr->Paired (z2n K H') us pr
 | _,_,.nil=>.nil
 | _,_,.cons ⟨a,e,h⟩ t=>.cons ⟨a,e,h.imp (fun q=>s.seq q) fun q=>z6A s q⟩ (z2n.keep s t)
theorem z2n.at{K:PySem.W.Frag}{H:Hp}:∀{us:List V}{pr:Row},Paired (z2n K H) us pr->∀(i:Nat) (x:V),us[i]? = some x->∃p,pr[i]? = some p/\z2n K H x p
 | _,_,.nil,i,x,e=>by simp at e
 | _,_,.cons r t,0,x,e=>by
  simp at e
  subst e
  exact⟨_,rfl,r⟩
 | _,_,.cons r t,i+1,x,e=>by
  obtain⟨y,h1,h2⟩:=z2n.at t i x (by simpa using e)
  exact⟨y,by simpa using h1,h2⟩
theorem z2n.pairs{K:PySem.W.Frag}{H:Hp}:∀{us:List V}{pr:Row},Paired (z2n K H) us pr->Paired (y28 K H) us (pr.map kvR)
 | _,_,.nil=>.nil
 | _,_,.cons ⟨a,e,h⟩ t=>.cons ⟨a,e,h⟩ (z2n.pairs t)
theorem z2n.of{K:PySem.W.Frag}{H:Hp}{fp:List Addr}:∀{us:List V}{pr:Row},Paired (z8U K H fp) us pr->Paired (z2n K H) us pr
 | _,_,.nil=>.nil
 | _,_,.cons ⟨a,e,h,_⟩ t=>.cons ⟨a,e,h⟩ (z2n.of t)
theorem SqP.or{K:PySem.W.Frag}{H:Hp}{a:Addr}{us:List V}(h:SqP K H a us):SqL K H a us\/SqT K H a us:=h.imp id SqT.of
theorem SqP.keep{K:PySem.W.Frag}{H H':Hp}{a:Addr}{us:List V}(s:A4 H H')(h:SqP K H a us):SqP K H' a us:=h.imp (fun q=>s.seq q) fun q=>s _ _ q
def y06(K:PySem.W.Frag):Sp:=fun vs H Q _=>∃(pn a:Addr) (zs:List Str) (us:List V) (pr:Row),vs=[.ref pn,.ref a]/\SqN K H pn zs/\SqP K H a us/\Paired (z2n K H) us pr/\GoodR zs pr/\pr.length≤12/\∀H',A4 H H'->Q .non H'
theorem y1V(M:Bl mg)(F:Fun K "refuse_bad_rows" "refuse_bad_rows" z2p f fd)(B3:Cal P w K mg base 1 "refuse_unknown_name" z17 (y5S K))
  (D8:Cal P w K mg base 1 "refuse_bad_value" z22 y1c):A7 P w K mg base CX0 2 f fd z2l (y06 K):=by
 have nd:=z3f.nd
 refine F.ok z3f (fun vs H Q E h=>?_) (fun cdv A outer s H vs Q E hr h=>?_)
 ·obtain⟨pn,a,zs,us,pr,rfl,_⟩:=h
  rfl
 obtain⟨pn,a,zs,us,pr,rfl,hn,ha,hp,g,l12,k⟩:=h
 refine⟨_,(z04 (z4G (i:=2) ["name","value"] [] [] rfl nd rfl (Or.inl rfl) (z0u rfl (by decide +kernel) rfl (by decide +kernel) rfl rfl) (y38 (pv 1)) (fun _ _ _ _ _=>(y3M (K:=K) (n:=2) rfl rfl (z1B (z0j (i:=0) (show((["name","value"]:List PySem.Str)++([]:List PySem.Str)).Nodup from by decide +kernel) rfl (Or.inl rfl)) (z1B (z0j (i:=1) (show((["name","value"]:List PySem.Str)++([]:List PySem.Str)).Nodup from by decide +kernel) rfl (Or.inl rfl)) z5F)))) (y6x (z1R (z0y (by decide)) z0c (z1R (z0y (by decide)) z0c z7G z16) (z0P z0c z16))) (y4v (z0P z0c (z0P z0c z16))) (fun _ _ _ _ _=>z26) (fun _ _ _ _ _=>(pv 0))) (z04 (z1c cG rfl (z1k (pv 2)) (z0j (i:=3) nd rfl (Or.inl rfl)) (z05 (z0B (z0q B3 (rm hr) rfl (z00 (pv 0) (z00 (pv 3) z03)))))) (z04 (z0R (z09 z8K (z0d z5n rfl M.len bW (z00 (z0t (z4j rfl) rfl M.set gG (z00 (pv 2) z03)) z03)) (z0d z0f rfl M.len bW (z00 (pv 2) z03)) (z0m _)) (z05 z1q) z0p) (z05 (z1c cG rfl (y38 (pv 1)) (y3M (K:=K) (n:=2) rfl rfl (z1B (z0j (i:=3) nd rfl (Or.inl rfl)) (z1B (z0j (i:=4) nd rfl (Or.inl rfl)) z5F))) (z05 (z0B (z0q D8 (rm hr) rfl (z00 (pv 4) z03))))))))),?_⟩
 obtain⟨t,ht⟩:=SqS.of (SqP.or ha)
 have lu:us.length=pr.length:=hp.length
 refine⟨_,rfl,a,t,rfl,⟨_,ht⟩,?_⟩
 refine y1g (xs:=us) (fun i ys H'=>H'=H/\ys=((pr.take i).map Prod.fst).map V.str) ⟨rfl,rfl⟩ (fun i ys H' hi hq=>?_) (fun i x ys H' hx hq=>?_) (fun ys H' hq=>?_)
 ·obtain⟨rfl,rfl⟩:=hq
  refine⟨ht,z0g ?_⟩
  rw[b7,b7,bN]
  omega
 ·obtain⟨rfl,rfl⟩:=hq
  obtain⟨p,ep,b,rfl,hb⟩:=z2n.at hp i x hx
  refine⟨b,_,rfl,hb,rfl,_,_,rfl,_,_,rfl,rfl,?_⟩
  refine⟨_,rfl,rfl,?_⟩
  rw[z0r ep,bD,bD]
  rfl
 obtain⟨rfl,rfl⟩:=hq
 rw[lu,bR]
 intro D hD
 have s1:=z01 hD (.lst ((pr.map Prod.fst).map V.str))
 have e1:upd H' D (.lst ((pr.map Prod.fst).map V.str)) D=some (.lst ((pr.map Prod.fst).map V.str)):=z02
 generalize upd H' D (.lst ((pr.map Prod.fst).map V.str))=H1 at s1 e1
 have hn1:=SqN.keep s1 hn
 have ht1:=SqS.keep s1 ht
 have hp1:=z2n.keep s1 hp
 refine⟨_,rfl,D,rfl,⟨_,SqL.of e1⟩,z1s (K:=K) (a:=D) (xs:=(pr.map Prod.fst).map V.str) (fun i σ H2=>∃o:Option V,H2=H1/\σ=[some (.ref pn),some (.ref a),some (.ref D),o,none]) ⟨none,rfl,rfl⟩ (fun i σ H2 _ ⟨_,e,_⟩=>e ▸ SqL.of e1) (fun i x σ H2 hx hq=>?_) (fun σ H2 hq=>?_)⟩
 ·obtain⟨o,rfl,rfl⟩:=hq
  rw[bH] at hx
  obtain⟨z,ez,rfl⟩:=cJ.mp hx
  have hz:z∈zs:=by
   obtain⟨p,hpm,rfl⟩:=cF.mp (bT ez)
   exact g.sub p hpm
  exact⟨_,rfl,_,rfl,pn,zs,z,rfl,hn1,hz,_,rfl,rfl⟩
 obtain⟨o,rfl,rfl⟩:=hq
 have lf:(pr.map Prod.fst).length=pr.length:=b7 _
 refine⟨_,rfl,D,pr.map Prod.fst,rfl,.inl (SqL.of e1),by omega,fun l hl=>⟨l,pr.map Prod.fst,rfl,z02,by omega,_,rfl,D,_,rfl,.inl (SqL.of (z01 hl _ _ _ e1)),rfl,_,rfl,?_⟩⟩
 refine y6C (by rw[y3H g.nd,b7 (f:=V.str)]) ?_
 have s2:=s1.trans (z01 hl (O7 P w l (pr.map Prod.fst)))
 have ht2:=SqS.keep (z01 hl (O7 P w l (pr.map Prod.fst))) ht1
 have hp2:=z2n.keep (z01 hl (O7 P w l (pr.map Prod.fst))) hp1
 refine⟨_,rfl,a,t,rfl,⟨_,ht2⟩,?_⟩
 refine y6v (xs:=us) (fun i σ H3=>∃o1 o2:Option V,H3=upd H2 l (O7 P w l (pr.map Prod.fst))/\σ=[some (.ref pn),some (.ref a),some (.ref D),o1,o2]) ⟨_,_,rfl,rfl⟩ (fun i σ H3 _ ⟨_,_,e,_⟩=>e ▸ ht2) (fun i x σ H3 hx hq=>?_) (fun σ H3 hq=>?_)
 ·obtain⟨o1,o2,rfl,rfl⟩:=hq
  obtain⟨p,ep,b,rfl,hb⟩:=z2n.at hp2 i x hx
  have hv:=g.val p (bT ep)
  refine⟨b,_,rfl,hb,rfl,_,_,rfl,_,_,rfl,rfl,?_⟩
  exact⟨_,rfl,p.2,rfl,hv.1,hv.2,_,_,rfl,rfl⟩
 ·obtain⟨o1,o2,rfl,rfl⟩:=hq
  exact k _ s2
def z9z(K:PySem.W.Frag):Sp:=fun vs H Q _=>∃(pn a:Addr) (zs:List Str) (us:List V) (pr:Row),vs=[.ref pn,.ref a]/\SqN K H pn zs/\zs.length≤12/\SqP K H a us/\Paired (z2n K H) us pr/\(pr.map Prod.fst).Nodup/\pr.length≤12/\∀(v:V) (H':Hp),A4 H H'->A5 H' (L9 (z1b zs pr)) v->Q v H'
theorem z8F{z:Str}:∀{pr:Row},H0 (pr.map kvR) (Sum.inr z:Key)=(pr.find? fun p=>decide (p.1=z)).map fun p=>V.int p.2
 | []=>rfl
 | p::w=>by
  rw[cK,dN]
  by_cases e:p.1=z
  ·rw[z5k (show(kvR p).1=Sum.inr z by unfold kvR;rw[e]),decide_eq_true e]
   rfl
  ·rw[z4Z (show ¬(kvR p).1=Sum.inr z from fun q=>e (Sum.inr.inj q)),decide_eq_false e]
   exact z8F
theorem z9N(zs:List Str)(z:Str)(pr:Row):z1b (zs++[z]) pr=z1b zs pr++(match pr.find? fun p=>decide (p.1=z) with|some p=>[p]|none=>[]):=by
 unfold z1b
 rw[List.filterMap_append,eO]
 cases pr.find? fun p=>decide (p.1=z)<;>rfl
theorem z4U(zs:List Str)(pr:Row):(z1b zs pr).length≤zs.length:=List.length_filterMap_le _ _
theorem y21(M:Bl mg)(F:Fun K "rows_in_order" "rows_in_order" z30 f fd):A7 P w K mg base CX0 1 f fd z2R (z9z K):=by
 have nd:=z3R.nd
 refine F.ok z3R (fun vs H Q E h=>?_) (fun cdv A outer s H vs Q E hr h=>?_)
 ·obtain⟨pn,a,zs,us,pr,rfl,_⟩:=h
  rfl
 obtain⟨pn,a,zs,us,pr,rfl,hn,z12,ha,hp,ndr,l12,k⟩:=h
 have hu:=y0k hr
 refine⟨_,(z04 (z0n (i:=2) nd rfl (Or.inr rfl) (z0t (z3Y (K:=K) rfl rfl) rfl M.dict hJ (z00 (pv 1) z03))) (z05 (z0i (z0t z0s rfl M.tuple bL (z00 (z1f ["name"] ["values"] [2] rfl (z0u rfl (by decide +kernel) rfl (by decide +kernel) rfl rfl) (y38 (pv 0)) (fun _ _ _ _ _=>(z0j (i:=0) (show((["name"]:List PySem.Str)++(["values"]:List PySem.Str)).Nodup from by decide +kernel) rfl (Or.inl rfl))) (z0y (by decide)) z0c (fun _ _ _ _ _=>(z21 (z87 (y3Z hu (pv 0) (pv 1))))) (fun _ _ _ _ _=>(z0Y (z00 (pv 0) (z00 (z7v hu (pv 1) (pv 0) (fun _ _=>rfl)) z03))))) z03))))),?_⟩
 have lu:us.length=pr.length:=hp.length
 refine⟨_,rfl,a,us,pr.map kvR,rfl,ha,z2n.pairs hp,by omega,?_,fun d hd=>?_⟩
 ·have e:(pr.map kvR).map (·.1)=(pr.map Prod.fst).map Sum.inr:=by rw[eJ,eJ];rfl
  rw[e,dF,dY]
  exact(dF.mp ndr).imp fun h e=>h (Sum.inr.inj e)
 have s1:=z01 hd (.dK (pr.map kvR))
 have e1:upd H d (.dK (pr.map kvR)) d=some (.dK (pr.map kvR)):=z02
 generalize upd H d (.dK (pr.map kvR))=H1 at s1 e1
 obtain⟨t,ht⟩:=SqS.of (SqN.keep s1 hn)
 refine⟨_,rfl,pn,t,rfl,⟨_,ht⟩,?_⟩
 refine y1g (xs:=zs.map V.str) (fun i ys H'=>A4 H1 H'/\z0a H' ((z1b (zs.take i) pr).map z98) ys) ⟨A4.refl _,by rw[d6];exact .nil⟩ (fun i ys H' hi hq=>?_) (fun i x ys H' hx hq=>?_) (fun ys H' hq=>?_)
 ·obtain⟨g,t'⟩:=hq
  refine⟨SqS.keep g ht,z0g ?_⟩
  have:=z4U (zs.take i) pr
  rw[bN] at this
  rw[t'.length,b7]
  omega
 ·obtain⟨g,t'⟩:=hq
  rw[bH] at hx
  obtain⟨z,ez,rfl⟩:=cJ.mp hx
  refine⟨_,rfl,_,rfl,d,_,rfl,L0.k (k:=Sum.inr z) (g _ _ e1),_,rfl,?_⟩
  rw[z8F,z0r ez,z9N]
  cases ev:pr.find? fun p=>decide (p.1=z) with
  | none=>
   refine C3 ⟨g,?_⟩
   rw[d7]
   exact t'
  | some p=>
   have ep:p.1=z:=by
    have:=List.find?_some ev
    exact of_decide_eq_true this
   refine O5 ⟨_,rfl,_,rfl,_,rfl,d,_,rfl,(show L0 _ d (kV (Sum.inr z)) (some (V.int p.2)) by rw[<- show H0 (pr.map kvR) (Sum.inr z:Key)=some (V.int p.2) by rw[z8F,ev];rfl];exact L0.k (g _ _ e1)),(by show 2≤sizeLine;decide),fun q hq=>⟨g.trans (z01 hq _),?_⟩⟩
   rw[bD]
   refine z0a.snoc (z0a.keep (z01 hq _) _ _ t') ?_
   rw[<- ep]
   exact z0x z02 (by show 2≤1000000;decide) (.cons (z1P _) (.cons (z0z _) .nil))
 ·obtain⟨g,t'⟩:=hq
  rw[b7,bR] at t'
  intro D hD
  refine⟨D,ys,rfl,.inl ⟨SqL.of z02,fun q hq=>k _ _ (s1.trans (g.trans ((z01 hD _).trans (z01 hq _)))) (z0x z02 ?_ (z0a.keep ((z01 hD _).trans (z01 hq _)) _ _ t'))⟩⟩
  have:=z4U zs pr
  rw[b7]
  omega
def y3p:Sp:=fun vs H Q _=>∃(a:Addr) (xs:List V) (w:Row),vs=[.ref a]/\H a=some (.tup xs)/\z0a H (w.map z98) xs/\w.length≤12/\∀(l:Addr) (H':Hp),A4 H H'->H' l=some (.tup ((z1N w).map V.str))->Q (.ref l) H'
theorem y4g(M:Bl mg)(F:Fun K "names_of_rows" "names_of_rows" z2T f fd):A7 P w K mg base CX0 1 f fd z2V y3p:=by
 have nd:=z3W.nd
 refine F.ok z3W (fun vs H Q E h=>?_) (fun cdv A outer s H vs Q E hr h=>?_)
 ·obtain⟨a,xs,w,rfl,_⟩:=h
  rfl
 obtain⟨a,xs,w,rfl,ha,tw,l12,k⟩:=h
 refine⟨_,(z05 (z0i (z0t z0s rfl M.tuple bL (z00 (z1f ["name","value"] [] [] rfl (z0u rfl (by decide +kernel) rfl (by decide +kernel) rfl rfl) (z1W (pv 0)) (fun _ _ _ _ _=>(z8J (K:=K) (n:=2) rfl rfl (z1B (z0j (i:=0) (show((["name","value"]:List PySem.Str)++([]:List PySem.Str)).Nodup from by decide +kernel) rfl (Or.inl rfl)) (z1B (z0j (i:=1) (show((["name","value"]:List PySem.Str)++([]:List PySem.Str)).Nodup from by decide +kernel) rfl (Or.inl rfl)) z5F)))) (z8I (z1R (z0y (by decide)) z0c (z1R (z0y (by decide)) z0c z7G z16) (z0P z0c z16))) (z6x (z0P z0c (z0P z0c z16))) (fun _ _ _ _ _=>z26) (fun _ _ _ _ _=>(pv 0))) z03)))),?_⟩
 have lx:xs.length=w.length:=by rw[tw.length,b7]
 refine⟨_,rfl,a,rfl,⟨_,SqT.of ha⟩,?_⟩
 refine z1r (xs:=xs) (fun i ys H'=>H'=H/\ys=(z1N (w.take i)).map V.str) ⟨rfl,rfl⟩ (fun i ys H' hi hq=>?_) (fun i x ys H' hx hq=>?_) (fun ys H' hq=>?_)
 ·obtain⟨rfl,rfl⟩:=hq
  refine⟨SqT.of ha,z0g ?_⟩
  unfold z1N
  rw[b7,b7,bN]
  omega
 ·obtain⟨rfl,rfl⟩:=hq
  obtain⟨p,b,ep,rfl,hb⟩:=z3z tw i x hx
  refine⟨b,_,rfl,SqT.of hb,rfl,_,_,rfl,_,_,rfl,rfl,?_⟩
  refine⟨_,rfl,rfl,?_⟩
  unfold z1N
  rw[z0r ep,bD,bD]
  rfl
 ·obtain⟨rfl,rfl⟩:=hq
  rw[lx,bR]
  intro D hD
  exact⟨D,_,rfl,.inl ⟨SqL.of z02,fun q hq=>k q _ ((z01 hD _).trans (z01 hq _)) z02⟩⟩
def OfD(K:PySem.W.Frag)(C:Addr):OfP:=fun H p fp zs r rows=>∃(dx pn pl:Addr) (fs:List (Str×V)) (xs:List V),fp=[p,dx,pl]/\H p=some (.ins C dx fs)/\H dx=some (.own p)/\H pn=some (.tup (zs.map V.str))/\H pl=some (.lst xs)/\
 fs.lookup ("names":Str)=some (V.ref pn)/\fs.lookup ("reach":Str)=some (V.int r)/\fs.lookup ("written":Str)=some (V.ref pl)/\(∀m∈(["refuse_writing","write","latest","issue"]:List Str),fs.lookup m=none)/\
 z0a H ((upI 1 rows.length).map fun n=>z0Z rows n r) xs/\rows.length≤60/\(∀w∈rows,w.length≤12)/\E2 zs/\0≤r/\r≤10
theorem N8{K:PySem.W.Frag}{C:Addr}:V7 C ["write","latest","issue"] (OfD K C):=by
 refine⟨fun h=>?_,fun h b hb=>?_,fun h s out nt=>?_⟩
 ·obtain⟨dx,pn,pl,fs,xs,e,h1,h2,h3,h4,l1,l2,l3,lm,_⟩:=h
  refine⟨dx,fs,h1,fun m hm=>lm m ?_⟩
  simp only[bA,dS,or_false] at hm ⊢
  rcases hm with h|h|h<;>simp[h]
 ·obtain⟨dx,pn,pl,fs,xs,rfl,h1,h2,h3,h4,_⟩:=h
  rcases bA.mp hb with rfl|hb
  ·exact⟨_,h1,fun xs z=>by cases z⟩
  rcases bA.mp hb with rfl|hb
  ·exact⟨_,h2,fun xs z=>by cases z⟩
  rw[b9.mp hb]
  exact⟨_,h4,fun xs z=>by cases z⟩
 ·obtain⟨dx,pn,pl,fs,xs,rfl,h1,h2,h3,h4,l1,l2,l3,lm,tl,g⟩:=h
  exact⟨dx,pn,pl,fs,xs,rfl,s _ _ h1 (fun m=>out _ m (by simp)),s _ _ h2 (fun m=>out _ m (by simp)),s _ _ h3 (fun m=>nt _ m _ h3),s _ _ h4 (fun m=>out _ m (by simp)),l1,l2,l3,lm,z0a.but s nt _ _ tl,g⟩
theorem y2s{A1:Addr}(M:Bl mg)(T:F9 K mg A1)(F:Fun K "__init__" "Office.__init__" z2m f fd)(B9:Cal P w K mg base 2 "bulletin_names" z1U (z5G K)) :
  A7 P w K mg base CX0 3 f fd z2q (y11 K A1 (OfD K A1)):=by
 have nd:=z39.nd
 refine F.ok z39 (fun vs H Q E h=>?_) (fun cdv A outer s H vs Q E hr h=>?_)
 ·obtain⟨x,dx,pn,zs,r,rfl,_⟩:=h
  rfl
 obtain⟨x,dx,pn,zs,r,rfl,hx,ne,hdx,hn,g,r0,r1,k⟩:=h
 refine⟨_,(z04 (z52 (pv 0) (z0q B9 (rm hr) rfl (z00 (pv 1) (z00 (pv 2) z03))) rfl) (z04 (z52 (pv 0) (pv 2) rfl) (z05 (z52 (pv 0) (z1t z03) rfl)))),?_⟩
 refine⟨_,rfl,_,rfl,pn,zs,r,rfl,hn,g,r0,r1,fun l H1 s1 e1=>?_⟩
 refine⟨_,rfl,x,A1,dx,[],rfl,s1 _ _ hx,T.cl,T.n_names,by decide,?_⟩
 have z1:=z1y "names" (.ref l) []
 have z2:=z1y "reach" (.int r) (F0 "names" (.ref l) [])
 have z0:([]:List (Str×V)).length=0:=rfl
 refine⟨_,rfl,_,rfl,x,A1,dx,_,rfl,z02,T.cl,T.n_reach,(by omega),?_⟩
 rw[z7K]
 refine⟨(by show 0≤sizeLine;decide),fun pd hd=>?_⟩
 have nx:x≠pd:=z0l z02 hd
 have ndd:dx≠pd:=z0l (show upd H1 x _ dx=some _ by rw[z0e ne];exact s1 _ _ hdx) hd
 have nl:l≠x:=z5j e1 (s1 _ _ hx) (fun z=>by cases z)
 have nlp:l≠pd:=z0l (show upd H1 x _ l=some _ by rw[z0e nl];exact e1) hd
 have dfr:H1 pd=none:=by rw[z0e (d9 nx)] at hd;exact hd
 refine⟨_,rfl,x,A1,dx,_,rfl,(by rw[z0e nx,z02]),T.cl,T.n_written,(by omega),?_⟩
 refine k [x,dx,pd] _ (fun b hb=>?_) (fun b o e nb=>?_) ⟨dx,l,pd,_,[],rfl,z02,?_,?_,?_,?_,?_,?_,?_,.nil,by decide,fun _ q=>(nomatch q),g,r0,r1⟩
 ·simp only[bA,dS,or_false] at hb
  rcases hb with rfl|rfl|rfl
  ·exact .inl rfl
  ·exact .inr (.inl rfl)
  ·exact .inr (.inr (s1.free dfr))
 ·rw[b9] at nb
  rw[z0e nb,z0e (z0l e (s1.free dfr)),z0e nb]
  exact s1 _ _ e
 ·rw[z0e ne,z0e ndd,z0e ne]
  exact s1 _ _ hdx
 ·rw[z0e nl,z0e nlp,z0e nl]
  exact e1
 ·rw[z0e (d9 nx),z02]
 ·rw[z0k,if_neg (by decide +kernel),z0k,if_neg (by decide +kernel),z0k,if_pos rfl]
 ·rw[z0k,if_neg (by decide +kernel),z0k,if_pos rfl]
 ·rw[z0k,if_pos rfl]
 ·intro m hm
  simp only[bA,dS,or_false] at hm
  rcases hm with rfl|rfl|rfl|rfl<;>rw[z0k,if_neg (by decide +kernel),z0k,if_neg (by decide +kernel),z0k,if_neg (by decide +kernel)]<;>rfl
theorem y0m{A1:Addr}(M:Bl mg)(T:F9 K mg A1)(F:Fun K "latest" "Office.latest" z36 f fd):A7 P w K mg base CX0 1 f fd z2W (z8h (OfD K A1)):=by
 have nd:=z3K.nd
 refine F.ok z3K (fun vs H Q E h=>?_) (fun cdv A outer s H vs Q E hr h=>?_)
 ·obtain⟨p,fp,zs,r,rows,rfl,_⟩:=h
  rfl
 obtain⟨p,fp,zs,r,rows,rfl,of,k⟩:=h
 refine⟨_,(z05 (z0i (z0d z0f rfl M.len bW (z00 (z0F (pv 0) rfl) z03)))),?_⟩
 obtain⟨dx,pn,pl,fs,xs,rfl,h1,h2,h3,h4,l1,l2,l3,lm,tl,r60,w12,g,r0,r1⟩:=of
 have lx:xs.length=rows.length:=by rw[tl.length,b7,z0T]
 refine⟨_,rfl,p,A1,dx,fs,_,rfl,h1,T.cl,T.n_written,l3,pl,xs,rfl,.inl (SqL.of h4),?_⟩
 rw[lx]
 exact k H (A4.refl _)
theorem y1P{A1:Addr}(M:Bl mg)(T:F9 K mg A1)(F:Fun K "issue" "Office.issue" z3p f fd):A7 P w K mg base CX0 1 f fd z1O (z59 (OfD K A1)):=by
 have nd:=z4n.nd
 refine F.ok z4n (fun vs H Q E h=>?_) (fun cdv A outer s H vs Q E hr h=>?_)
 ·obtain⟨p,fp,zs,r,rows,n,rfl,_⟩:=h
  rfl
 obtain⟨p,fp,zs,r,rows,n,rfl,of,n1,n2,k⟩:=h
 refine⟨_,(z04 (z0R (PW.pt (z38 (z09 z7V (pv 1) z06 (z0m _)) (z2s (z09 z2E (pv 1) (z0d z0f rfl M.len bW (z00 (z0F (pv 0) rfl) z03)) (z0m _))))) (z05 z1q) z0p) (z05 (z0i (z0Q z1I (z0F (pv 0) rfl) (z0v z4m (pv 1) z06) (fun _ _=>rfl))))),?_⟩
 obtain⟨dx,pn,pl,fs,xs,rfl,h1,h2,h3,h4,l1,l2,l3,lm,tl,r60,w12,g,r0,r1⟩:=of
 have lx:xs.length=rows.length:=by rw[tl.length,b7,z0T]
 refine⟨_,rfl,_,_,rfl,rfl,_,rfl,A9 (fun q=>absurd (z0A q) (by omega)) fun _=>?_⟩
 refine⟨_,rfl,_,rfl,p,A1,dx,fs,_,rfl,h1,T.cl,T.n_written,l3,pl,xs,rfl,.inl (SqL.of h4),_,_,rfl,rfl,_,rfl,A9 (fun q=>absurd (z0A q) (by omega)) fun _=>?_⟩
 have hk:(n-1).toNat<rows.length:=by omega
 obtain⟨v,ev,tv⟩:=tl.get (n-1).toNat (z0Z rows n r) (by
  unfold upI
  rw[bH,bH,fR hk]
  show some (z0Z rows (1+((n-1).toNat:Int)) r)=_
  rw[show(1:Int)+((n-1).toNat:Int)=n by omega])
 have av:atI xs (n-1)=some v:=by
  rw[show n-1=(((n-1).toNat:Nat):Int) by omega]
  exact z1m ev
 exact⟨_,rfl,p,A1,dx,fs,_,rfl,h1,T.cl,T.n_written,l3,_,rfl,_,_,rfl,rfl,pl,xs,_,v,rfl,rfl,SqL.of h4,av,k v H (A4.refl _) tv⟩
def z7x(K:PySem.W.Frag)(Of:OfP):Sp:=fun vs H Q _=>∃(p a:Addr) (fp:List Addr) (zs:List Str) (r:Int) (rows:List Row) (us:List V) (pr:Row),vs=[.ref p,.ref a]/\Of H p fp zs r rows/\SqP K H a us/\Paired (z2n K H) us pr/\GoodR zs pr/\pr.length≤12/\rows.length<60/\∀H',A4 H H'->Q .non H'
theorem y1u{A1:Addr}(M:Bl mg)(T:F9 K mg A1)(F:Fun K "refuse_writing" "Office.refuse_writing" z1n f fd)(E6:Cal P w K mg base 2 "refuse_bad_rows" z2l (y06 K)) :
  A7 P w K mg base CX0 3 f fd z0W (z7x K (OfD K A1)):=by
 have nd:=z1S.nd
 refine F.ok z1S (fun vs H Q E h=>?_) (fun cdv A outer s H vs Q E hr h=>?_)
 ·obtain⟨p,a,fp,zs,r,rows,us,pr,rfl,_⟩:=h
  rfl
 obtain⟨p,a,fp,zs,r,rows,us,pr,rfl,of,ha,hp,g',l12,l60,k⟩:=h
 refine⟨_,(z04 (z0R (z09 y6R (z0d z0f rfl M.len bW (z00 (z0F (pv 0) rfl) z03)) (z2w rfl M.MOST_NUMBERS) (z0m _)) (z05 z1q) z0p) (z05 (z0B (z0q E6 (rm hr) rfl (z00 (z0F (pv 0) rfl) (z00 (pv 1) z03)))))),?_⟩
 obtain⟨dx,pn,pl,fs,xs,rfl,h1,h2,h3,h4,l1,l2,l3,lm,tl,r60,w12,g,r0,r1⟩:=of
 have lx:xs.length=rows.length:=by rw[tl.length,b7,z0T]
 refine⟨_,rfl,p,A1,dx,fs,_,rfl,h1,T.cl,T.n_written,l3,pl,xs,rfl,.inl (SqL.of h4),_,_,rfl,rfl,_,rfl,A9 (fun q=>absurd (z0A q) (by omega)) fun _=>?_⟩
 exact⟨_,rfl,p,A1,dx,fs,_,rfl,h1,T.cl,T.n_names,l1,_,rfl,pn,a,zs,us,pr,rfl,.inr (SqT.of h3),ha,hp,g',l12,fun H' s=>k H' s⟩
theorem y0A(rows:List Row)(x:Row){n r:Int}(n1:1≤n)(n2:n≤rows.length):z0Z (rows++[x]) n r=z0Z rows n r:=by
 have e:=y0p (rows:=rows++[x]) (j:=rows.length) (r:=r) n1 n2
 rw[List.take_left] at e
 exact e.symm
theorem y3J(m:Nat)(r:Int)(r0:0≤r):z5K ((m:Int)+1) r=tsN m r.toNat:=by
 have w0I:∀{l1 l2:List Int},l1.Pairwise (· > ·)->l2.Pairwise (· > ·)->(∀x,x∈l1↔x∈l2)->l1=l2:=fun {l1 l2} p1 p2 h=>by
  have e:=z2a (l1:=l1.reverse) (l2:=l2.reverse) (j5.mpr p1) (j5.mpr p2) fun x=>by rw[gJ,gJ];exact h x
  have e2:=congrArg List.reverse e
  rw[gK,gK] at e2
  exact e2
 refine w0I ((z7m _ _).filter _) ((z7m _ _).filter _) fun x=>?_
 rw[z7A]
 unfold z5K
 rw[bV,z7D,decide_eq_true_eq]
 omega
theorem y3U(rows:List Row)(x:Row)(r:Int)(r0:0≤r):y4C (rows++[x]) ((rows.length:Int)+1) r=tsD (rows.map z1N) r:=by
 unfold y4C tsD
 rw[y3J _ _ r0,b7]
 congr 1
 refine jB fun k hk=>?_
 have hk:=z7A.mp hk
 unfold y1S tsP z0D
 have h1:(k-1).toNat<rows.length:=by omega
 rw[bP,bP,fH h1,bH,bG h1]
 rfl
theorem y1A{A1:Addr}(M:Bl mg)(T:F9 K mg A1)(F:Fun K "write" "Office.write" z3k f fd)(B0:D0 P w K mg base 3 A1 "refuse_writing" z0W (z7x K (OfD K A1)))
  (G0:Cal P w K mg base 1 "names_of_rows" z2V y3p) (F5:Cal P w K mg base 1 "rows_in_order" z2R (z9z K)) (O2:Cal P w K mg base 2 "tail_for" z7g (y5o K)) :
  A7 P w K mg base CX0 4 f fd z3t (z9B K (OfD K A1)):=by
 have nd:=z4i.nd
 refine F.ok z4i (fun vs H Q E h=>?_) (fun cdv A outer s H vs Q E hr h=>?_)
 ·obtain⟨p,v,fp,zs,r,rows,pr,rfl,_⟩:=h
  rfl
 obtain⟨p,v,fp,zs,r,rows,pr,rfl,of,⟨a,us,rfl,ha,na,hp⟩,gr,l12,l60,k⟩:=h
 refine⟨_,(z04 (z0B (z1Q B0 (rm hr) (pv 0) (z00 (pv 1) z03))) (z04 (z0n (i:=2) nd rfl (Or.inl rfl) (z0v z1M (z0d z0f rfl M.len bW (z00 (z0F (pv 0) rfl) z03)) z06)) (z04 (z4G (i:=3) ["issue"] [] [] rfl nd rfl (Or.inl rfl) (z0u rfl (by decide +kernel) rfl (by decide +kernel) rfl rfl) (z1k (z0F (pv 0) rfl)) (fun _ _ _ _ _=>(z0j (i:=0) (show((["issue"]:List PySem.Str)++([]:List PySem.Str)).Nodup from by decide +kernel) rfl (Or.inl rfl))) (z0y (by decide)) z0c (fun _ _ _ _ _=>z26) (fun _ _ _ _ _=>(z0q G0 (rm hr) rfl (z00 (z0Q (r:=M0 K) z0H (pv 0) z06 (fun _ _=>rfl)) z03)))) (z04 (z0B (z3I cE bX cD z0O (z0F (pv 0) rfl) (z00 (z0Y (z00 (pv 2) (z00 (z0q F5 (rm hr) rfl (z00 (z0F (pv 0) rfl) (z00 (pv 1) z03))) (z00 (z0q O2 (rm hr) rfl (z00 (pv 3) (z00 (z0F (pv 0) rfl) z03))) z03)))) z03))) (z05 (z0i (pv 2))))))),?_⟩
 have hp':=z2n.of hp
 obtain⟨dx,pn,pl,fs,xs,rfl,h1,h2,h3,h4,l1,l2,l3,lm,tl,r60,w12,g,r0,r1⟩:=id of
 have lx:xs.length=rows.length:=by rw[tl.length,b7,z0T]
 refine⟨_,rfl,p,dx,fs,rfl,h1,lm _ (by simp),_,rfl,p,a,_,zs,r,rows,us,pr,rfl,of,ha,hp',gr,l12,l60,fun H1 s1=>?_⟩
 refine⟨_,rfl,p,A1,dx,fs,_,rfl,s1 _ _ h1,T.cl,T.n_written,l3,pl,xs,rfl,.inl (SqL.of (s1 _ _ h4)),_,_,rfl,rfl,?_⟩
 refine⟨_,rfl,p,A1,dx,fs,_,rfl,s1 _ _ h1,T.cl,T.n_written,l3,pl,rfl,⟨_,SqL.of (s1 _ _ h4)⟩,?_⟩
 refine z3Z (xs:=xs) (fun i ys H'=>A4 H1 H'/\z0a H' (((rows.take i).map z1N).map P9) ys) ⟨A4.refl _,by rw[d6];exact .nil⟩ (fun i ys H' hi hq=>?_) (fun i x ys H' hx hq=>?_) (fun ys H' hq=>?_)
 ·obtain⟨gg,t⟩:=hq
  refine⟨SqL.of (gg _ _ (s1 _ _ h4)),z0g ?_⟩
  rw[t.length,b7,b7,bN]
  omega
 ·obtain⟨gg,t⟩:=hq
  have hi:i<rows.length:=by
   have:=(cH.mp hx).1
   omega
  obtain⟨d,ed,td⟩:=tl.at i x hx
  unfold upI at ed
  rw[bH,bH,fR hi] at ed
  have ed':z0Z rows (1+(i:Int)) r=d:=Option.some.inj ed
  subst ed'
  have ew:z0D rows (1+(i:Int))=rows[i]:=by
   unfold z0D
   rw[show(1+(i:Int)-1).toNat=i by omega,bP,bG hi]
   rfl
  obtain⟨b,bs,rfl,eb,_,tb⟩:=z0h td
  obtain⟨x0,ur,rfl,t0,tb⟩:=z08 tb
  obtain⟨x1,ur,rfl,t1,tb⟩:=z08 tb
  rw[ew] at t1
  obtain⟨c,cs,rfl,ec,_,tc⟩:=z0h t1
  refine⟨_,rfl,b,_,_,_,rfl,rfl,SqT.of (gg _ _ (s1 _ _ eb)),z1m rfl,c,cs,rows[i],rfl,gg _ _ (s1 _ _ ec),z0a.keep (s1.trans gg) _ _ tc,w12 _ (fM hi),fun l H2 s2 e2=>⟨gg.trans s2,?_⟩⟩
  rw[z0r (bG hi),bD,bD]
  refine z0a.snoc (z0a.keep s2 _ _ t) (z0x e2 ?_ (z5L _))
  have:=w12 _ (fM hi)
  unfold z1N
  rw[b7,b7]
  omega
 obtain⟨gg,t⟩:=hq
 rw[lx,bR] at t
 intro D hD
 have s2:=s1.trans (gg.trans (z01 hD (.lst ys)))
 have eD:upd H' D (.lst ys) D=some (.lst ys):=z02
 have t2:=z0a.keep (z01 hD (.lst ys)) _ _ t
 generalize upd H' D (.lst ys)=H2 at s2 eD t2
 have l60':((rows.map z1N)).length≤59:=by rw[b7];omega
 refine⟨_,rfl,p,A1,dx,fs,_,rfl,s2 _ _ h1,T.cl,T.n_written,l3,.inl ⟨rfl,_,SqL.of (s2 _ _ h4)⟩,?_⟩
 refine⟨_,rfl,_,rfl,p,A1,dx,fs,_,rfl,s2 _ _ h1,T.cl,T.n_names,l1,_,rfl,pn,a,zs,us,pr,rfl,.inr (SqT.of (s2 _ _ h3)),g.hi,SqP.keep s2 ha,z2n.keep s2 hp',gr.nd,l12,fun v1 H3 s3 tv1=>?_⟩
 have s23:=s2.trans s3
 refine⟨_,rfl,_,rfl,p,A1,dx,fs,_,rfl,s23 _ _ h1,T.cl,T.n_reach,l2,D,ys,rows.map z1N,r,rfl,.inl (SqL.of (s3 _ _ eD)),z0a.keep s3 _ _ t2,l60',?_,r0,r1,fun v2 H4 s4 tv2=>?_⟩
 ·intro w' hw'
  obtain⟨w0,hw0,rfl⟩:=cF.mp hw'
  have:=w12 w0 hw0
  unfold z1N
  rw[b7]
  exact this
 refine⟨(by show 3≤sizeLine;decide),fun q hq=>?_⟩
 have s24:=s23.trans (s4.trans (z01 hq (.tup [V.int ((xs.length:Int)+1),v1,v2])))
 have eq':upd H4 q (.tup [V.int ((xs.length:Int)+1),v1,v2]) q=some (.tup [V.int ((xs.length:Int)+1),v1,v2]):=z02
 have tv1':=A5.keep (s4.trans (z01 hq (.tup [V.int ((xs.length:Int)+1),v1,v2]))) _ _ tv1
 have tv2':=A5.keep (z01 hq (.tup [V.int ((xs.length:Int)+1),v1,v2])) _ _ tv2
 generalize upd H4 q (.tup [V.int ((xs.length:Int)+1),v1,v2])=H5 at s24 eq' tv1' tv2'
 refine⟨pl,xs,.ref q,rfl,rfl,s24 _ _ h4,z0g (by omega),?_⟩
 refine⟨_,rfl,?_⟩
 have np:p≠pl:=z5j h1 h4 (fun z=>by cases z)
 have nx:dx≠pl:=z5j h2 h4 (fun z=>by cases z)
 have nn:pn≠pl:=z5j h3 h4 (fun z=>by cases z)
 have h5:=s24 _ _ h4
 have e:=k [p,dx,pl] (upd H5 pl (.lst (xs++[.ref q]))) (fun b hb=>.inl hb) (fun b o e nb=>by rw[z0e (fun z=>nb (by rw[z];simp))];exact s24 _ _ e)
  ⟨dx,pn,pl,fs,_,rfl,by rw[z0e np];exact s24 _ _ h1,by rw[z0e nx];exact s24 _ _ h2,by rw[z0e nn];exact s24 _ _ h3,z02,l1,l2,l3,lm,?_,?_,?_,g,r0,r1⟩
 ·rw[<- lx] at e
  exact e
 ·refine z0a.over h5 (fun _ z=>by cases z) _ _ ?_
  rw[bI,dA,z5c,bD]
  have e1:(upI 1 rows.length).map (fun n=>z0Z (rows++[z1b zs pr]) n r)=(upI 1 rows.length).map fun n=>z0Z rows n r:=jB fun n hn=>by
   have:=z11.mp hn
   exact y0A rows _ (by omega) (by omega)
  rw[e1]
  refine z0a.snoc (z0a.keep s24 _ _ tl) ?_
  have en:(1:Int)+(rows.length:Int)=(rows.length:Int)+1:=by omega
  have er:z0D (rows++[z1b zs pr]) ((rows.length:Int)+1)=z1b zs pr:=by
   unfold z0D
   rw[show((rows.length:Int)+1-1).toNat=rows.length by omega,bP,List.getElem?_concat_length]
   rfl
  show A5 H5 (z0Z (rows++[z1b zs pr]) (1+(rows.length:Int)) r) (.ref q)
  unfold z0Z
  rw[en,er,y3U rows _ r r0]
  rw[lx] at eq'
  exact z0x eq' (by show 3≤1000000;decide) (.cons (z0z _) (.cons tv1' (.cons tv2' .nil)))
 ·rw[bI,dA]
  omega
 ·intro w' hw'
  rcases bO.mp hw' with hw'|hw'
  ·exact w12 w' hw'
  ·rw[b9] at hw'
   rw[hw']
   exact cO (z4U zs pr) g.hi
abbrev B7:=Option Int×Int
def z2S:B7->List V
 | (none,n)=>[.str "write",.int n]
 | (some r,n)=>[.str "deliver",.int r,.int n]
def z4o(H:Hp)(u:V)(d:B7):Prop:=∃b,u=.ref b/\H b=some (.tup (z2S d))
theorem z3i{H:Hp}{us:List V}{log:List B7}(h:Paired (z4o H) us log):us.length=log.length:=by
 induction h with
 | nil=>rfl
 | cons _ _ ih=>rw[cC,cC,ih]
def N5(log:List B7)(rd:Int):List Int:=log.foldl (fun acc d=>if d.1=some rd then O8 acc d.2 else acc) []
theorem y3R(log:List B7)(d:B7)(rd:Int):N5 (log++[d]) rd=if d.1=some rd then O8 (N5 log rd) d.2 else N5 log rd:=by
 unfold N5
 rw[gZ]
 rfl
theorem z8P{log:List B7}{rd n:Int}:n∈N5 log rd↔((some rd,n):B7)∈log:=by
 have go:∀(log:List B7) (acc:List Int),n∈log.foldl (fun acc d=>if d.1=some rd then O8 acc d.2 else acc) acc↔n∈acc\/((some rd,n):B7)∈log:=by
  intro log
  induction log with
  | nil=>intro acc;exact⟨.inl,fun h=>h.elim id fun q=>(nomatch q)⟩
  | cons d log ih=>
   intro acc
   rw[cT,ih,bA]
   obtain⟨a,m⟩:=d
   by_cases c:a=some rd
   ·subst c
    rw[if_pos rfl,y17,or_assoc]
    exact or_congr Iff.rfl (or_congr ⟨fun e=>by rw[e],fun e=>congrArg Prod.snd e⟩ Iff.rfl)
   ·rw[if_neg c]
    exact or_congr Iff.rfl ⟨.inr,fun h=>h.elim (fun e=>absurd (congrArg Prod.fst e).symm c) id⟩
 unfold N5
 rw[go]
 exact⟨fun h=>h.elim (fun q=>(nomatch q)) id,.inr⟩
abbrev BkP:=Hp->Addr->List Addr->List Str->Int->Int->List Row->List B7->Prop
structure U9(C:Addr)(ms:List Str)(Bk:BkP):Prop where
 ins:∀{H p fp zs r k rows log},Bk H p fp zs r k rows log->∃dx fs,H p=some (.ins C dx fs)/\∀m∈ms,fs.lookup m=none
 own:∀{H p fp zs r k rows log},Bk H p fp zs r k rows log->∀b∈fp,∃o,H b=some o/\∀xs,o≠.tup xs
 keep:∀{H H' p fp gp zs r k rows log},Bk H p fp zs r k rows log->z0o gp H H'->(∀b∈gp,b∉fp)->z47 H gp->Bk H' p fp zs r k rows log
theorem U9.same{C:Addr}{ms:List Str}{Bk:BkP}(O:U9 C ms Bk){H H':Hp}{p:Addr}{fp:List Addr}{zs:List Str}{r k:Int}{rows:List Row}{log:List B7}(h:Bk H p fp zs r k rows log)(s:A4 H H'):Bk H' p fp zs r k rows log:=
 O.keep (gp:=[]) h (.of s) (fun _ q=>by cases q) fun _ q=>by cases q
theorem U9.N3{C:Addr}{ms:List Str}{Bk:BkP}(O:U9 C ms Bk){H:Hp}{p:Addr}{fp:List Addr}{zs:List Str}{r k:Int}{rows:List Row}{log:List B7}(h:Bk H p fp zs r k rows log):z47 H fp:=fun b m xs e=>by
 obtain⟨o,e1,n⟩:=O.own h b m
 rw[e1] at e
 exact n xs (Option.some.inj e)
def y0U(K:PySem.W.Frag)(C:Addr)(Bk:BkP):Sp:=fun vs H Q _=>∃(x dx pn:Addr) (zs:List Str) (r k:Int),vs=[.ref x,.ref pn,.int r,.int k]/\H x=some (.ins C dx [])/\dx≠x/\H dx=some (.own x)/\HdN K H pn zs/\E2 zs/\0≤r/\r≤10/\1≤k/\k≤10/\
 ∀(fp:List Addr) (H':Hp),(∀b∈fp,b=x\/b=dx\/H b=none)->z0o [x] H H'->Bk H' x fp zs r k [] []->Q .non H'
def z9s(K:PySem.W.Frag)(Bk:BkP):Sp:=fun vs H Q _=>∃(p:Addr) (v:V) (fp:List Addr) (zs:List Str) (r k:Int) (rows:List Row) (log:List B7) (pr:Row),vs=[.ref p,v]/\Bk H p fp zs r k rows log/\y3N K H fp v pr/\GoodR zs pr/\pr.length≤12/\rows.length<60/\log.length<400/\
 ∀(fp':List Addr) (H':Hp),(∀b∈fp',b∈fp\/H b=none)->z0o fp H H'->Bk H' p fp' zs r k (rows++[z1b zs pr]) (log++[(none,(rows.length:Int)+1)])->Q (.int (rows.length+1)) H'
def z7u(Bk:BkP):Sp:=fun vs H Q _=>∃(p:Addr) (fp:List Addr) (zs:List Str) (r k:Int) (rows:List Row) (log:List B7) (rd n:Int),vs=[.ref p,.int rd,.int n]/\Bk H p fp zs r k rows log/\1≤rd/\rd≤k/\1≤n/\n≤rows.length/\log.length<400/\
 ∀(H':Hp),z0o fp H H'->Bk H' p fp zs r k rows (log++[(some rd,n)])->Q (.bl (decide (((some rd,n):B7)∉log))) H'
def y2B(Bk:BkP):Sp:=fun vs H Q _=>∃(p:Addr) (fp:List Addr) (zs:List Str) (r k:Int) (rows:List Row) (log:List B7),vs=[.ref p]/\Bk H p fp zs r k rows log/\Q (.int log.length) H
def Y7:Option Nat->V
 | none=>.non
 | some d=>.int d
def z5l(Bk:BkP)(Sh:ShP):Sp:=fun vs H Q _=>∃(p:Addr) (fp:List Addr) (zs:List Str) (r k:Int) (rows:List Row) (log:List B7) (rd:Int) (o:Option Nat),vs=[.ref p,.int rd,Y7 o]/\Bk H p fp zs r k rows log/\1≤rd/\rd≤k/\(∀d,o=some d->d≤log.length)/\
 ∀(x:Addr) (fq:List Addr) (H':Hp),(∀b∈fq,H b=none)->A4 H H'->Sh H' x fq zs r (fun n=>z0Z rows n r) (N5 (log.take (o.getD log.length)) rd)->Q (.ref x) H'
theorem R6.but{fp:List Addr}{H H':Hp}{us:List V}{log:List B7}(s:z0o fp H H')(n:z47 H fp)(h:Paired (z4o H) us log):Paired (z4o H') us log:=
 L2.Paired.U8 h fun u d ⟨b,e,q⟩=>⟨b,e,s _ _ q fun m=>n b m _ q⟩
structure BkIn(K:PySem.W.Frag)(CB CO:Addr)(H:Hp)(p dx po pd:Addr)(fs:List (Str×V))(fo:List Addr)(us:List V)(zs:List Str)(r k:Int)(rows:List Row)(log:List B7):Prop where
 hp:H p=some (.ins CB dx fs)
 hdx:H dx=some (.own p)
 of:OfD K CO H po fo zs r rows
 hd:H pd=some (.lst us)
 ds:Paired (z4o H) us log
 npo:p∉fo
 ndo:dx∉fo
 ndn:pd∉fo
 lo:fs.lookup ("office":Str)=some (V.ref po)
 lr:fs.lookup ("readers":Str)=some (V.int k)
 ld:fs.lookup ("done":Str)=some (V.ref pd)
 lm:∀m∈(["refuse_unknown_reader","refuse_further_deed","write","deliver","latest","issue","deeds","deed","shelf"]:List Str),fs.lookup m=none
 l4:log.length≤400
 in1:∀d∈log,1≤d.2/\d.2≤rows.length
 k1:1≤k
 k10:k≤10
def BkD(K:PySem.W.Frag)(CB CO:Addr):BkP:=fun H p fp zs r k rows log=>∃(dx po pd:Addr) (fs:List (Str×V)) (fo:List Addr) (us:List V),fp=p::dx::pd::fo/\BkIn K CB CO H p dx po pd fs fo us zs r k rows log
theorem Z2{K:PySem.W.Frag}{CB CO:Addr}:U9 CB ["write","deliver","latest","issue","deeds","deed","shelf"] (BkD K CB CO):=by
 refine⟨fun h=>?_,fun h b hb=>?_,fun h s out nt=>?_⟩
 ·obtain⟨dx,po,pd,fs,fo,us,rfl,B⟩:=h
  refine⟨dx,fs,B.hp,fun m hm=>B.lm m ?_⟩
  exact bM _ (bM _ hm)
 ·obtain⟨dx,po,pd,fs,fo,us,rfl,B⟩:=h
  rcases bA.mp hb with rfl|hb
  ·exact⟨_,B.hp,fun xs z=>by cases z⟩
  rcases bA.mp hb with rfl|hb
  ·exact⟨_,B.hdx,fun xs z=>by cases z⟩
  rcases bA.mp hb with rfl|hb
  ·exact⟨_,B.hd,fun xs z=>by cases z⟩
  exact N8.own B.of b hb
 ·obtain⟨dx,po,pd,fs,fo,us,rfl,B⟩:=h
  exact⟨dx,po,pd,fs,fo,us,rfl,{ B with
   hp:=s _ _ B.hp fun m=>out _ m (by simp)
   hdx:=s _ _ B.hdx fun m=>out _ m (by simp)
   of:=N8.keep B.of s (fun b m z=>out b m (by simp[z])) nt
   hd:=s _ _ B.hd fun m=>out _ m (by simp)
   ds:=R6.but s nt B.ds }⟩
def z6c:Sp:=fun vs H Q _=>∃k:Int,vs=[.int k]/\1≤k/\k≤10/\Q .non H
theorem z8E(M:Bl mg)(F:Fun K "refuse_bad_readers" "refuse_bad_readers" z1L f fd):A7 P w K mg base CX0 1 f fd z1K z6c:=by
 have nd:=z2t.nd
 refine F.ok z2t (fun vs H Q E h=>?_) (fun cdv A outer s H vs Q E hr h=>?_)
 ·obtain⟨r,rfl,_⟩:=h
  rfl
 ·obtain⟨r,rfl,r0,r1,k⟩:=h
  refine⟨_,(z05 (z0R (PW.pt (z38 (z09 z7V (pv 0) z06 (z0m _)) (z2s (z09 z2E (pv 0) (z2w rfl M.MOST_READERS) (z0m _))))) (z05 z1q) z0p)),?_⟩
  refine⟨_,rfl,_,_,rfl,rfl,_,rfl,A9 (fun q=>absurd (z0A q) (by omega)) fun _=>?_⟩
  exact⟨_,rfl,_,_,rfl,rfl,_,rfl,A9 (fun q=>absurd (z0A q) (by omega)) fun _=>k⟩
def z4S(Bk:BkP):Sp:=fun vs H Q _=>∃(p:Addr) (fp:List Addr) (zs:List Str) (r k:Int) (rows:List Row) (log:List B7) (rd:Int),vs=[.ref p,.int rd]/\Bk H p fp zs r k rows log/\1≤rd/\rd≤k/\Q .non H
theorem z9G{A3 A1:Addr}(M:Bl mg)(T:F3 K mg A3)(F:Fun K "refuse_unknown_reader" "Book.refuse_unknown_reader" z0V f fd):A7 P w K mg base CX0 1 f fd z0I (z4S (BkD K A3 A1)):=by
 have nd:=z1p.nd
 refine F.ok z1p (fun vs H Q E h=>?_) (fun cdv A outer s H vs Q E hr h=>?_)
 ·obtain⟨p,fp,zs,r,k,rows,log,rd,rfl,_⟩:=h
  rfl
 obtain⟨p,fp,zs,r,k,rows,log,rd,rfl,⟨dx,po,pd,fs,fo,us,rfl,B⟩,r1,r2,q⟩:=h
 refine⟨_,(z05 (z0R (PW.pt (z38 (z09 z7V (pv 1) z06 (z0m _)) (z2s (z09 z2E (pv 1) (z0F (pv 0) rfl) (z0m _))))) (z05 z1q) z0p)),?_⟩
 refine⟨_,rfl,_,_,rfl,rfl,_,rfl,A9 (fun q=>absurd (z0A q) (by omega)) fun _=>?_⟩
 exact⟨_,rfl,_,rfl,p,A3,dx,fs,_,rfl,B.hp,T.cl,T.n_readers,B.lr,_,_,rfl,rfl,_,rfl,A9 (fun q=>absurd (z0A q) (by omega)) fun _=>q⟩
def z7N(Bk:BkP):Sp:=fun vs H Q _=>∃(p:Addr) (fp:List Addr) (zs:List Str) (r k:Int) (rows:List Row) (log:List B7),vs=[.ref p]/\Bk H p fp zs r k rows log/\log.length<400/\Q .non H
theorem y26{A3 A1:Addr}(M:Bl mg)(T:F3 K mg A3)(F:Fun K "refuse_further_deed" "Book.refuse_further_deed" z15 f fd):A7 P w K mg base CX0 1 f fd z0S (z7N (BkD K A3 A1)):=by
 have nd:=z1E.nd
 refine F.ok z1E (fun vs H Q E h=>?_) (fun cdv A outer s H vs Q E hr h=>?_)
 ·obtain⟨p,fp,zs,r,k,rows,log,rfl,_⟩:=h
  rfl
 obtain⟨p,fp,zs,r,k,rows,log,rfl,⟨dx,po,pd,fs,fo,us,rfl,B⟩,l4,q⟩:=h
 refine⟨_,(z05 (z0R (z09 y6R (z0d z0f rfl M.len bW (z00 (z0F (pv 0) rfl) z03)) (z2w rfl M.MOST_DEEDS) (z0m _)) (z05 z1q) z0p)),?_⟩
 have lu:=z3i B.ds
 exact⟨_,rfl,p,A3,dx,fs,_,rfl,B.hp,T.cl,T.n_done,B.ld,pd,us,rfl,.inl (SqL.of B.hd),_,_,rfl,rfl,_,rfl,A9 (fun q=>absurd (z0A q) (by omega)) fun _=>q⟩
theorem y1o{A3 A1:Addr}(M:Bl mg)(T:F3 K mg A3)(F:Fun K "deeds" "Book.deeds" z4y f fd):A7 P w K mg base CX0 1 f fd z6J (y2B (BkD K A3 A1)):=by
 have nd:=z6p.nd
 refine F.ok z6p (fun vs H Q E h=>?_) (fun cdv A outer s H vs Q E hr h=>?_)
 ·obtain⟨p,fp,zs,r,k,rows,log,rfl,_⟩:=h
  rfl
 obtain⟨p,fp,zs,r,k,rows,log,rfl,⟨dx,po,pd,fs,fo,us,rfl,B⟩,q⟩:=h
 refine⟨_,(z05 (z0i (z0d z0f rfl M.len bW (z00 (z0F (pv 0) rfl) z03)))),?_⟩
 have lu:=z3i B.ds
 refine⟨_,rfl,p,A3,dx,fs,_,rfl,B.hp,T.cl,T.n_done,B.ld,pd,us,rfl,.inl (SqL.of B.hd),?_⟩
 rw[lu]
 exact q
theorem y2C{A3 A1:Addr}(M:Bl mg)(T:F3 K mg A3)(F:Fun K "__init__" "Book.__init__" z33 f fd)(Q7:Mkr P w K mg base 3 A1 "Office" z2q (y11 K A1 (OfD K A1)))
  (C9:Cal P w K mg base 1 "refuse_bad_readers" z1K z6c):A7 P w K mg base CX0 6 f fd z32 (y0U K A3 (BkD K A3 A1)):=by
 have nd:=z41.nd
 refine F.ok z41 (fun vs H Q E h=>?_) (fun cdv A outer s H vs Q E hr h=>?_)
 ·obtain⟨x,dx,pn,zs,r,k,rfl,_⟩:=h
  rfl
 obtain⟨x,dx,pn,zs,r,k,rfl,hx,ne,hdx,hn,g,r0,r1,k1,k10,q⟩:=h
 refine⟨_,(z04 (z52 (pv 0) (y3m Q7 (rm hr) rfl (z00 (pv 1) (z00 (pv 2) z03))) rfl) (z04 (z0B (z0q C9 (rm hr) rfl (z00 (pv 3) z03))) (z04 (z52 (pv 0) (pv 3) rfl) (z05 (z52 (pv 0) (z1t z03) rfl))))),?_⟩
 refine⟨_,rfl,_,rfl,fun po dxo nx ndx neo=>?_⟩
 have m1:=z7t (C:=A1) (A4.refl H) nx ndx
 refine⟨po,dxo,pn,zs,r,rfl,z02,neo,by rw[z0e neo,z02],HdN.keep m1 hn,g,r0,r1,fun fo H1 ff sb of=>⟨rfl,?_⟩⟩
 have s1:A4 H H1:=z7C sb m1 nx
 have f1:∀b∈fo,H b=none:=fun b hb=>z5U m1 nx ndx (ff b hb)
 refine⟨_,rfl,x,A3,dx,[],rfl,s1 _ _ hx,T.cl,T.n_office,by decide,?_⟩
 have z1:=z1y "office" (.ref po) []
 have z2:=z1y "readers" (.int k) (F0 "office" (.ref po) [])
 have z0:([]:List (Str×V)).length=0:=rfl
 refine⟨_,rfl,k,rfl,k1,k10,?_⟩
 refine⟨_,rfl,_,rfl,x,A3,dx,_,rfl,z02,T.cl,T.n_readers,(by omega),?_⟩
 rw[z7K]
 refine⟨(by show 0≤sizeLine;decide),fun pd hd=>?_⟩
 have nxp:x≠pd:=z0l z02 hd
 have dfr:H1 pd=none:=by rw[z0e (d9 nxp)] at hd;exact hd
 have ndd:dx≠pd:=z0l (s1 _ _ hdx) dfr
 have out:∀{b:Addr}{o:HO},H b=some o->b∉fo:=fun e m=>by rw[f1 _ m] at e;cases e
 refine⟨_,rfl,x,A3,dx,_,rfl,(by rw[z0e nxp,z02]),T.cl,T.n_done,(by omega),?_⟩
 have sx:z0o [x] H1 (upd (upd (upd H1 x (.ins A3 dx (F0 "readers" (.int k) (F0 "office" (.ref po) [])))) pd (.lst [])) x (.ins A3 dx (F0 "done" (.ref pd) (F0 "readers" (.int k) (F0 "office" (.ref po) []))))):=fun b o e nb=>by
  rw[b9] at nb
  rw[z0e nb,z0e (z0l e dfr),z0e nb]
  exact e
 refine q (x::dx::pd::fo) _ (fun b hb=>?_) (fun b o e nb=>sx b o (s1 _ _ e) nb) ⟨dx,po,pd,_,fo,[],rfl,⟨z02,?_,?_,?_,.nil,out hx,out hdx,?_,?_,?_,?_,?_,by decide,fun _ q=>(nomatch q),k1,k10⟩⟩
 ·rcases bA.mp hb with rfl|hb
  ·exact .inl rfl
  rcases bA.mp hb with rfl|hb
  ·exact .inr (.inl rfl)
  rcases bA.mp hb with rfl|hb
  ·exact .inr (.inr (s1.free dfr))
  ·exact .inr (.inr (f1 b hb))
 ·exact sx _ _ (s1 _ _ hdx) (by rw[b9];exact ne)
 ·refine N8.keep of sx (fun b m=>?_) fun b m xs e=>?_
  ·rw[b9.mp m]
   exact out hx
  ·rw[b9.mp m,s1 _ _ hx] at e
   cases e
 ·rw[z0e (d9 nxp),z02]
 ·intro m
  obtain⟨o,e,_⟩:=N8.own of pd m
  rw[dfr] at e
  cases e
 ·rw[z0k,if_neg (by decide +kernel),z0k,if_neg (by decide +kernel),z0k,if_pos rfl]
 ·rw[z0k,if_neg (by decide +kernel),z0k,if_pos rfl]
 ·rw[z0k,if_pos rfl]
 ·intro m hm
  simp only[bA,dS,or_false] at hm
  rcases hm with rfl|rfl|rfl|rfl|rfl|rfl|rfl|rfl|rfl<;>rw[z0k,if_neg (by decide +kernel),z0k,if_neg (by decide +kernel),z0k,if_neg (by decide +kernel)]<;>rfl
theorem y5i{K:PySem.W.Frag}{CB CO:Addr}{H H1:Hp}{p dx po pd t:Addr}{fs:List (Str×V)}{fo fo':List Addr}{us:List V}{zs:List Str}{r k:Int}{rows U0:List Row}{log:List B7}{d:B7}(B:BkIn K CB CO H p dx po pd fs fo us zs r k rows log)
  (sb:z0o fo H H1) (of:OfD K CO H1 po fo' zs r U0) (ff:∀b∈fo',b∈fo\/H b=none) (ht:H1 t=some (.tup (z2S d))) (hl:rows.length≤U0.length) (hd1:1≤d.2/\d.2≤U0.length) (l4:log.length<400) :
  z0o (p::dx::pd::fo) H (upd H1 pd (.lst (us++[.ref t])))/\BkD K CB CO (upd H1 pd (.lst (us++[.ref t]))) p (p::dx::pd::fo') zs r k U0 (log++[d]):=by
 have ntf:z47 H fo:=N8.N3 B.of
 have hd':=sb _ _ B.hd B.ndn
 have out:∀{b:Addr}{o:HO},H b=some o->b∉fo->b∉fo':=fun e n m=>(ff _ m).elim n fun z=>by rw[z] at e;cases e
 have s2:z0o [pd] H1 (upd H1 pd (.lst (us++[.ref t]))):=fun b o e nb=>by
  rw[b9] at nb
  rw[z0e nb]
  exact e
 have nt2:z47 H1 [pd]:=fun b m xs e=>by
  rw[b9.mp m,hd'] at e
  cases e
 have npd:p≠pd:=z5j B.hp B.hd (fun z=>by cases z)
 have ndd:dx≠pd:=z5j B.hdx B.hd (fun z=>by cases z)
 refine⟨fun b o e nb=>?_,dx,po,pd,fs,fo',us++[.ref t],rfl,{ B with
  hp:=by rw[z0e npd];exact sb _ _ B.hp B.npo
  hdx:=by rw[z0e ndd];exact sb _ _ B.hdx B.ndo
  of:=N8.keep of s2 (fun b m=>by rw[b9.mp m];exact out B.hd B.ndn) nt2
  hd:=z02
  ds:=?_
  npo:=out B.hp B.npo
  ndo:=out B.hdx B.ndo
  ndn:=out B.hd B.ndn
  l4:=by rw[bI];exact l4
  in1:=fun x hx=>?_ }⟩
 ·rw[bA,bA,bA,not_or,not_or,not_or] at nb
  rw[z0e nb.2.2.1]
  exact sb _ _ e nb.2.2.2
 ·exact jC (R6.but s2 nt2 (R6.but sb ntf B.ds)) ⟨t,rfl,s2 _ _ ht fun m=>nt2 t m _ ht⟩
 ·rcases bO.mp hx with hx|hx
  ·have:=B.in1 x hx
   omega
  ·rw[b9.mp hx]
   exact hd1
theorem y1I{A3 A1:Addr}(M:Bl mg)(T:F3 K mg A3)(F:Fun K "write" "Book.write" z4T f fd)(B0:D0 P w K mg base 3 A1 "refuse_writing" z0W (z7x K (OfD K A1)))
  (J5:D0 P w K mg base 4 A1 "write" z3t (z9B K (OfD K A1))) (A8:D0 P w K mg base 1 A3 "refuse_further_deed" z0S (z7N (BkD K A3 A1))) :
  A7 P w K mg base CX0 5 f fd z4J (z9s K (BkD K A3 A1)):=by
 have nd:=z6o.nd
 refine F.ok z6o (fun vs H Q E h=>?_) (fun cdv A outer s H vs Q E hr h=>?_)
 ·obtain⟨p,v,fp,zs,r,k,rows,log,pr,rfl,_⟩:=h
  rfl
 obtain⟨p,v,fp,zs,r,k,rows,log,pr,rfl,bk,⟨a,vs,rfl,ha,na,hpr⟩,gr,l12,l60,l4,q⟩:=h
 refine⟨_,(z04 (z0B (z1Q B0 (rm hr) (z0F (pv 0) rfl) (z00 (pv 1) z03))) (z04 (z0B (z2L A8 (rm hr) (pv 0))) (z04 (z0n (i:=2) nd rfl (Or.inl rfl) (z1Q J5 (rm hr) (z0F (pv 0) rfl) (z00 (pv 1) z03))) (z04 (z0B (z3I cE bX cD z0O (z0F (pv 0) rfl) (z00 (z0Y (z00 (z29 rfl M.WRITE) (z00 (pv 2) z03))) z03))) (z05 (z0i (pv 2))))))),?_⟩
 obtain⟨dx,po,pd,fs,fo,us,rfl,B⟩:=id bk
 have no:∀{b:Addr},b∉p::dx::pd::fo->b∉fo:=fun n m=>n (by simp[m])
 have hand:Paired (z8U K H fo) vs pr:=L2.Paired.U8 hpr fun u x ⟨b,e,q,n⟩=>⟨b,e,q,no n⟩
 obtain⟨dxo,pno,plo,fso,xso,efo,h1,h2,h3,h4,l1,l2,l3,lmo,_⟩:=id B.of
 refine⟨_,rfl,p,A3,dx,fs,_,rfl,B.hp,T.cl,T.n_office,B.lo,po,dxo,fso,rfl,h1,lmo _ (by simp),_,rfl,po,a,fo,zs,r,rows,vs,pr,rfl,B.of,ha,z2n.of hand,gr,l12,l60,fun H1 s1=>?_⟩
 refine⟨_,rfl,p,dx,fs,rfl,s1 _ _ B.hp,B.lm _ (by simp),p,_,zs,r,k,rows,log,rfl,Z2.same bk s1,l4,?_⟩
 have ha1:y3N K H1 fo (.ref a) pr:=⟨a,vs,rfl,SqP.keep s1 ha,no na,L2.Paired.U8 hand fun u x ⟨b,e,q,n⟩=>⟨b,e,q.imp (fun z=>s1.seq z) fun z=>z6A s1 z,n⟩⟩
 refine⟨_,rfl,p,A3,dx,fs,_,rfl,s1 _ _ B.hp,T.cl,T.n_office,B.lo,po,dxo,fso,rfl,s1 _ _ h1,lmo _ (by simp),_,rfl,po,.ref a,fo,zs,r,rows,pr,rfl,N8.same B.of s1,ha1,gr,l12,l60,fun fo' H2 ff sb of2=>?_⟩
 have sb2:z0o fo H H2:=fun b o e n=>sb _ _ (s1 _ _ e) n
 have lu:=z3i B.ds
 refine⟨_,rfl,p,A3,dx,fs,_,rfl,sb2 _ _ B.hp B.npo,T.cl,T.n_done,B.ld,.inl ⟨rfl,_,SqL.of (sb2 _ _ B.hd B.ndn)⟩,?_⟩
 refine⟨_,rfl,(by show 2≤sizeLine;decide),fun t ht=>⟨pd,us,_,rfl,rfl,z01 ht _ _ _ (sb2 _ _ B.hd B.ndn),z0g (by omega),?_⟩⟩
 have s3:=z01 ht (.tup [V.str "write",V.int ((rows.length:Int)+1)])
 have et:upd H2 t (.tup [V.str "write",V.int ((rows.length:Int)+1)]) t=some (.tup (z2S (none,(rows.length:Int)+1))):=z02
 have sb3:z0o fo H (upd H2 t (.tup [V.str "write",V.int ((rows.length:Int)+1)])):=fun b o e n=>s3 _ _ (sb2 _ _ e n)
 have of3:=N8.same of2 s3
 obtain⟨g1,g2⟩:=y5i B sb3 of3 (fun b m=>(ff b m).imp id fun z=>s1.free z) et (by rw[bI];omega) ⟨by show(1:Int)≤rows.length+1;omega,by show((rows.length:Int)+1)≤_;rw[bI];exact dU _⟩ l4
 refine⟨_,rfl,q (p::dx::pd::fo') _ (fun b hb=>?_) g1 g2⟩
 rcases bA.mp hb with rfl|hb
 ·exact .inl (by simp)
 rcases bA.mp hb with rfl|hb
 ·exact .inl (by simp)
 rcases bA.mp hb with rfl|hb
 ·exact .inl (by simp)
 exact(ff b hb).imp (fun z=>by simp[z]) fun z=>s1.free z
theorem y3f(d:B7)(rd n:Int):z3c (z2S d) (z2S (some rd,n))=decide (d=(some rd,n)):=by
 obtain⟨a,m⟩:=d
 cases a with
 | none=>
  rw[decide_eq_false (fun e=>by cases e)]
  rfl
 | some r=>
  show(eqV (.str "deliver") (.str "deliver") && (eqV (.int r) (.int rd) && (eqV (.int m) (.int n) && true)))=_
  rw[z8C rfl,gL,Bool.and_true,dL,bQ,decide_eq_true_eq]
  show(r == rd)=true/\(m == n)=true↔_
  rw[beq_iff_eq,beq_iff_eq]
  exact⟨fun h=>by rw[h.1,h.2],fun h=>by cases h;exact⟨rfl,rfl⟩⟩
theorem y4J(log:List B7)(rd n:Int):(!(log.map z2S).any fun ys=>z3c ys (z2S (some rd,n)))=decide (((some rd,n):B7)∉log):=by
 rw[gR,dL,jH,decide_eq_true_eq,jE]
 refine⟨fun h m=>h _ m ?_,fun h d hd e=>h ?_⟩
 ·show z3c _ _=true
  rw[y3f]
  exact decide_eq_true rfl
 ·have e':z3c (z2S d) (z2S (some rd,n))=true:=e
  rw[y3f] at e'
  rw[<- of_decide_eq_true e']
  exact hd
theorem z9W(d:B7):(z2S d).all z1V=true:=by
 obtain⟨a,m⟩:=d
 cases a<;>rfl
theorem z9v{A3 A1:Addr}(M:Bl mg)(T:F3 K mg A3)(F:Fun K "deliver" "Book.deliver" z3w f fd)(B6:D0 P w K mg base 1 A1 "issue" z1O (z59 (OfD K A1)))
  (A6:D0 P w K mg base 1 A3 "refuse_unknown_reader" z0I (z4S (BkD K A3 A1))) (A8:D0 P w K mg base 1 A3 "refuse_further_deed" z0S (z7N (BkD K A3 A1))) :
  A7 P w K mg base CX0 5 f fd z3q (z7u (BkD K A3 A1)):=by
 have nd:=z4p.nd
 refine F.ok z4p (fun vs H Q E h=>?_) (fun cdv A outer s H vs Q E hr h=>?_)
 ·obtain⟨p,fp,zs,r,k,rows,log,rd,n,rfl,_⟩:=h
  rfl
 obtain⟨p,fp,zs,r,k,rows,log,rd,n,rfl,bk,r1,r2,n1,n2,l4,q⟩:=h
 have hu:=y0k hr
 refine⟨_,(z04 (z0B (z1Q B6 (rm hr) (z0F (pv 0) rfl) (z00 (pv 2) z03))) (z04 (z0B (z1Q A6 (rm hr) (pv 0) (z00 (pv 1) z03))) (z04 (z0B (z2L A8 (rm hr) (pv 0))) (z04 (z0n (i:=3) nd rfl (Or.inl rfl) (z0Y (z00 (z29 rfl M.DELIVER) (z00 (pv 1) (z00 (pv 2) z03))))) (z04 (z0n (i:=4) nd rfl (Or.inl rfl) (y2X (y3O hu) (pv 3) (z0F (pv 0) rfl) (by with_unfolding_all rfl))) (z04 (z0B (z3I cE bX cD z0O (z0F (pv 0) rfl) (z00 (pv 3) z03))) (z05 (z0i (pv 4))))))))),?_⟩
 obtain⟨dx,po,pd,fs,fo,us,rfl,B⟩:=id bk
 obtain⟨dxo,pno,plo,fso,xso,efo,h1,h2,h3,h4,l1,l2,l3,lmo,_⟩:=id B.of
 refine⟨_,rfl,p,A3,dx,fs,_,rfl,B.hp,T.cl,T.n_office,B.lo,po,dxo,fso,rfl,h1,lmo _ (by simp),_,rfl,po,fo,zs,r,rows,n,rfl,B.of,n1,n2,fun v H1 s1 _=>?_⟩
 have bk1:=Z2.same bk s1
 refine⟨_,rfl,p,dx,fs,rfl,s1 _ _ B.hp,B.lm _ (by simp),_,rfl,p,_,zs,r,k,rows,log,rd,rfl,bk1,r1,r2,?_⟩
 refine⟨_,rfl,p,dx,fs,rfl,s1 _ _ B.hp,B.lm _ (by simp),p,_,zs,r,k,rows,log,rfl,bk1,l4,?_⟩
 refine⟨_,rfl,_,rfl,(by show 3≤sizeLine;decide),fun t ht=>?_⟩
 have s2:=s1.trans (z01 ht (.tup [V.str "deliver",V.int rd,V.int n]))
 have et:upd H1 t (.tup [V.str "deliver",V.int rd,V.int n]) t=some (.tup (z2S (some rd,n))):=z02
 generalize upd H1 t (.tup [V.str "deliver",V.int rd,V.int n])=H2 at s2 et
 have lu:=z3i B.ds
 have prs:Paired (fun u ys=>∃b,u=.ref b/\SqT K H2 b ys/\ys.all z1V=true) us (log.map z2S):=by
  have go:∀{us:List V}{log:List B7},Paired (z4o H) us log->Paired (fun u ys=>∃b,u=.ref b/\SqT K H2 b ys/\ys.all z1V=true) us (log.map z2S):=by
   intro us log h
   induction h with
   | nil=>exact .nil
   | cons h t ih=>
    obtain⟨b,e,q⟩:=h
    exact .cons ⟨b,e,SqT.of (s2 _ _ q),z9W _⟩ ih
  exact go B.ds
 refine⟨_,rfl,_,rfl,p,A3,dx,fs,_,rfl,s2 _ _ B.hp,T.cl,T.n_done,B.ld,t,pd,_,us,_,rfl,rfl,SqT.of et,z9W _,SqL.of (s2 _ _ B.hd),prs,?_⟩
 rw[y4J]
 refine⟨_,rfl,p,A3,dx,fs,_,rfl,s2 _ _ B.hp,T.cl,T.n_done,B.ld,.inl ⟨rfl,_,SqL.of (s2 _ _ B.hd)⟩,_,rfl,pd,us,_,rfl,rfl,s2 _ _ B.hd,z0g (by omega),?_⟩
 obtain⟨g1,g2⟩:=y5i B (.of s2) (N8.same B.of s2) (fun b m=>.inl m) et (bB _) ⟨n1,n2⟩ l4
 exact⟨_,rfl,q _ g1 g2⟩
theorem y5d{xs:List V}{k:Nat}(h:k≤xs.length):P5 xs none (some (k:Int))=xs.take k:=by
 unfold P5
 have e1:HT.sIx xs.length 0 none=0:=rfl
 have e2:HT.sIx xs.length xs.length (some (k:Int))=k:=by
  rw[HT.y3x,Nat.min_eq_left h]
 rw[e1,e2,gU,jN]
theorem y4T{H:Hp}:∀{us:List V}{log:List B7},Paired (z4o H) us log->∀(c i:Nat) (u:V),(us.take c)[i]? = some u->∃d,(log.take c)[i]? = some d/\z4o H u d:=by
 intro us log h
 induction h with
 | nil=>intro c i u e;rw[List.take_nil] at e;simp at e
 | cons h t ih=>
  intro c i u e
  cases c with
  | zero=>simp at e
  | succ c=>
   rw[List.take_succ_cons] at e ⊢
   cases i with
   | zero=>
    simp at e
    subst e
    exact⟨_,rfl,h⟩
   | succ i=>
    obtain⟨d,q1,q2⟩:=ih c i u (by simpa using e)
    exact⟨d,by simpa using q1,q2⟩
theorem y4I(d:B7)(rd:Int):z3c ((z2S d).take 2) [.str "deliver",.int rd]=decide (d.1=some rd):=by
 obtain⟨a,m⟩:=d
 cases a with
 | none=>
  rw[decide_eq_false (fun e=>by cases e)]
  rfl
 | some r=>
  show(eqV (.str "deliver") (.str "deliver") && (eqV (.int r) (.int rd) && true))=_
  rw[z8C rfl,gL,Bool.and_true,dL,decide_eq_true_eq]
  show(r == rd)=true↔_
  rw[beq_iff_eq]
  exact⟨fun h=>by rw[h],fun h=>Option.some.inj h⟩
theorem z8f{A3 A1 A0 T0:Addr}{items:Array Value}(M:Bl mg)(T:F3 K mg A3)(TO:F9 K mg A1)(F:Q1 K "shelf" "Book.shelf" z4L f fd T0 items)(B6:D0 P w K mg base 1 A1 "issue" z1O (z59 (OfD K A1)))
  (A6:D0 P w K mg base 1 A3 "refuse_unknown_reader" z0I (z4S (BkD K A3 A1))) (Q8:Mkr P w K mg base 3 A0 "Shelf" z2y (y0I K A0 (ShD K A0)))
  (K5:D0 P w K mg base 1 A0 "put" z5A (y6S (ShD K A0))):A7 P w K mg base CX0 6 f fd z2J (z5l (BkD K A3 A1) (ShD K A0)):=by
 have nd:=z6d.nd
 refine F.ok z6d (fun vs H Q E h=>?_) (fun cdv A outer s H vs Q E hr h=>?_)
 ·obtain⟨p,fp,zs,r,k,rows,log,rd,o,rfl,_⟩:=h
  rfl
 obtain⟨p,fp,zs,r,k,rows,log,rd,o,rfl,bk,r1,r2,od,q⟩:=h
 refine⟨_,(z04 (z0n (i:=3) nd rfl (Or.inl rfl) (z90 (z87 (z9J (pv 2))) (z0d z0f rfl M.len bW (z00 (z0F (pv 0) rfl) z03)) (pv 2))) (z04 (z0R (PW.pt (z38 (z09 z7V (pv 3) z06 (z0m _)) (z2s (z09 z2E (pv 3) (z0d z0f rfl M.len bW (z00 (z0F (pv 0) rfl) z03)) (z0m _))))) (z05 z1q) z0p) (z04 (z0B (z1Q A6 (rm hr) (pv 0) (z00 (pv 1) z03))) (z04 (z0n (i:=4) nd rfl (Or.inl rfl) (y3m Q8 (rm hr) rfl (z00 (z0F (z0F (pv 0) rfl) rfl) (z00 (z0F (z0F (pv 0) rfl) rfl) z03)))) (z04 (z1c cG rfl (z1k (z5m y5W (z0F (pv 0) rfl) z73 (z7O (pv 3)))) (z0j (i:=5) nd rfl (Or.inl rfl)) (z05 (z0R (z09 (y79 hr.P8) (z5m y66 (pv 5) z73 (z7O z06)) (z0Y (z00 (z29 rfl M.DELIVER) (z00 (pv 1) z03))) (z0m _)) (z05 (z0B (z1Q K5 (rm hr) (pv 4) (z00 (z1Q B6 (rm hr) (z0F (pv 0) rfl) (z00 (z0Q z0H (pv 5) z06 (fun _ _=>rfl)) z03)) z03)))) z0p))) (z05 (z0i (pv 4)))))))),?_⟩
 obtain⟨dx,po,pd,fs,fo,us,rfl,B⟩:=id bk
 obtain⟨dxo,pno,plo,fso,xso,efo,h1,h2,h3,h4,l1,l2,l3,lmo,_,_,_,g,r0,r10⟩:=id B.of
 have lu:=z3i B.ds
 have cle:o.getD log.length≤log.length:=by
  cases o with
  | none=>exact bB _
  | some d=>exact od d rfl
 have beh:∀(Qk:VK),Qk (.int (o.getD log.length:Nat)) H->tIf (tB (Z9 (S7 2))) (tCB (fun xs H_1 Q=>∃p ys,xs=[V.ref p]/\(SqL K H_1 p ys\/SqT K H_1 p ys)/\Q (V.int ys.length) H_1) (y4Z (Z7 K (S7 0) "done") U6)) (S7 2) (z48 ["self","reader","deed","behind","told","past"] [.ref p,.int rd,Y7 o]) H Qk:=fun Qk hq=>by
  cases o with
  | none=>
   refine⟨_,rfl,_,rfl,O5 ⟨_,rfl,p,A3,dx,fs,_,rfl,B.hp,T.cl,T.n_done,B.ld,pd,us,rfl,.inl (SqL.of B.hd),?_⟩⟩
   rw[lu]
   exact hq
  | some d=>exact⟨_,rfl,_,rfl,C3 ⟨_,rfl,hq⟩⟩
 refine beh _ ?_
 generalize o.getD log.length=c at cle q
 clear beh
 refine⟨_,rfl,_,_,rfl,rfl,_,rfl,A9 (fun q=>absurd (z0A q) (by omega)) fun _=>⟨_,rfl,_,rfl,p,A3,dx,fs,_,rfl,B.hp,T.cl,T.n_done,B.ld,pd,us,rfl,.inl (SqL.of B.hd),_,_,rfl,rfl,_,rfl,A9 (fun q=>absurd (z0A q) (by omega)) fun _=>?_⟩⟩
 refine⟨_,rfl,p,dx,fs,rfl,B.hp,B.lm _ (by simp),_,rfl,p,_,zs,r,k,rows,log,rd,rfl,bk,r1,r2,?_⟩
 refine⟨_,rfl,p,A3,dx,fs,_,rfl,B.hp,T.cl,T.n_office,B.lo,po,A1,dxo,fso,_,rfl,h1,TO.cl,TO.n_names,l1,_,rfl,p,A3,dx,fs,_,rfl,B.hp,T.cl,T.n_office,B.lo,po,A1,dxo,fso,_,rfl,h1,TO.cl,TO.n_reach,l2,fun x dxs nx ndx ne=>?_⟩
 have m1:=z7t (C:=A0) (A4.refl H) nx ndx
 refine⟨x,dxs,pno,zs,r,rfl,z02,ne,by rw[z0e ne,z02],.inr (m1 _ _ h3),g,r0,r10,fun fq H1 ff sb sh=>⟨rfl,?_⟩⟩
 have s1:A4 H H1:=z7C sb m1 nx
 have f1:∀b∈fq,H b=none:=fun b hb=>z5U m1 nx ndx (ff b hb)
 have sh1:ShD K A0 H1 x fq zs r (fun n=>z0Z rows n r) []:=sh _
 refine⟨_,rfl,p,A3,dx,fs,_,rfl,s1 _ _ B.hp,T.cl,T.n_done,B.ld,_,rfl,_,rfl,pd,_,rfl,SqL.of (s1 _ _ B.hd),fun lq hlq=>?_⟩
 rw[y5d (by omega)]
 have s2:=s1.trans (z01 hlq (.lst (us.take c)))
 have e2:upd H1 lq (.lst (us.take c)) lq=some (.lst (us.take c)):=z02
 have sh2:=F6.same sh1 (z01 hlq (.lst (us.take c)))
 have f2:lq∉fq:=fun m=>by
  obtain⟨o,e,_⟩:=F6.own sh1 lq m
  rw[hlq] at e
  cases e
 generalize upd H1 lq (.lst (us.take c))=H2 at s2 e2 sh2
 have nt2:z47 H2 fq:=F6.N3 sh2
 have out:∀{b:Addr}{o:HO},H b=some o->b∉fq:=fun e m=>by rw[f1 _ m] at e;cases e
 have lt:(us.take c).length=c:=by rw[bN];omega
 refine⟨lq,rfl,⟨_,SqL.of e2⟩,z1s (K:=K) (a:=lq) (xs:=us.take c) (fun i σ H'=>∃(fq':List Addr) (o5:Option V),z0o fq H2 H'/\ShD K A0 H' x fq' zs r (fun n=>z0Z rows n r) (N5 ((log.take c).take i) rd)/\(∀b∈fq',b∈fq\/H2 b=none)/\
   σ=[some (.ref p),some (.int rd),some (Y7 o),some (.int c),some (.ref x),o5]) ⟨fq,none,.of (A4.refl _),sh2,fun b m=>.inl m,rfl⟩ (fun i σ H' _ ⟨_,_,bt,_⟩=>SqL.of (bt _ _ e2 f2)) ?_ ?_⟩
 ·rintro i u σ H' hi ⟨fq',o5,bt,shx,ffx,rfl⟩
  obtain⟨d,ed,b,rfl,hb⟩:=y4T B.ds c i u hi
  have sk:∀{b:Addr}{o:HO},H b=some o->H' b=some o:=fun e=>bt _ _ (s2 _ _ e) (out e)
  have hin:=B.in1 d (List.mem_of_mem_take (bT ed))
  have l2d:2≤(z2S d).length:=by
   obtain⟨a,m⟩:=d
   cases a
   ·show 2≤2;decide
   ·show 2≤3;decide
  have cut:∀(Qk:VK),(∀(t1:Addr) (G:Hp),A4 H' G->G t1=some (.tup ((z2S d).take 2))->Qk (.ref t1) G)->rSlA K (.ref b) none (some 2) H' Qk:=fun Qk hq=>by
   refine⟨b,_,rfl,SqT.of (sk hb),fun hw=>hq b H' (A4.refl _) ?_,fun _ t1 ht1=>hq t1 _ (z01 ht1 _) ?_⟩
   ·rw[sk hb,dJ]
    have:=hw.2
    have e:HT.sIx (z2S d).length (z2S d).length (some (2:Int))=min 2 (z2S d).length:=HT.y3x _ _ 2
    omega
   ·rw[z02]
    exact congrArg (fun z=>some (HO.tup z)) (y5d (k:=2) l2d)
  refine⟨_,rfl,_,rfl,cut _ fun t1 G sG e1'=>⟨_,rfl,(by show 2≤sizeLine;decide),fun t2 ht2=>?_⟩⟩
  have s3:=sG.trans (z01 ht2 (.tup [V.str "deliver",V.int rd]))
  have e3:upd G t2 (.tup [V.str "deliver",V.int rd]) t1=some (.tup ((z2S d).take 2)):=z01 ht2 _ _ _ e1'
  have e4:upd G t2 (.tup [V.str "deliver",V.int rd]) t2=some (.tup [V.str "deliver",V.int rd]):=z02
  generalize upd G t2 (.tup [V.str "deliver",V.int rd])=H3 at s3 e3 e4
  have fl:((z2S d).take 2).all z1V=true:=by
   obtain⟨a,m⟩:=d
   cases a<;>rfl
  refine⟨t1,t2,_,_,rfl,rfl,SqT.of e3,SqT.of e4,fl,rfl,_,rfl,?_⟩
  rw[y4I,z0r ed,y3R]
  have sh3:=F6.same shx s3
  refine A9 (fun cc=>?_) (fun cc=>?_)
  ·have c':=z0A cc
   rw[if_pos c']
   obtain⟨a,n⟩:=d
   have ea:a=some rd:=c'
   subst ea
   obtain⟨d1,g1,z1,w1⟩:=F6.ins sh3
   refine⟨_,rfl,x,d1,g1,rfl,z1,w1 _ (by simp),_,rfl,p,A3,dx,fs,_,rfl,s3 _ _ (sk B.hp),T.cl,T.n_office,B.lo,po,dxo,fso,rfl,s3 _ _ (sk h1),lmo _ (by simp),_,rfl,b,_,2,_,rfl,rfl,SqT.of (s3 _ _ (sk hb)),rfl,po,fo,zs,r,rows,n,rfl,?_,hin.1,hin.2,fun v H4 s4 tv=>?_⟩
   ·exact N8.same (N8.keep (N8.same B.of s2) bt (fun b m z=>by
     obtain⟨o,e,_⟩:=N8.own B.of b z
     exact out e m) nt2) s3
   have n60:rows.length≤60:=by
    obtain⟨_,_,_,_,_,_,_,_,_,_,_,_,_,_,_,n60,_⟩:=B.of
    exact n60
   refine⟨x,v,fq',zs,r,_,_,n,_,rfl,F6.same sh3 s4,tv,rfl,hin.1,by have:=hin.2;have:n≤rows.length:=this;omega,fun fq2 H5 ff5 sb5 sh5=>?_⟩
   have g4:=s3.trans s4
   exact⟨fq2,_,(fun b o e nb=>sb5 b o (g4 _ _ (bt b o e nb)) fun m=>(ffx b m).elim nb fun z=>by rw[e] at z;cases z),sh5,y2k bt ffx g4 ff5,rfl⟩
  ·have c':=z3e cc
   rw[if_neg c']
   exact⟨fq',_,fun b o e nb=>s3 _ _ (bt b o e nb),sh3,ffx,rfl⟩
 ·rintro σ H' ⟨fq',o5,bt,shx,ffx,rfl⟩
  rw[lt,List.take_take,Nat.min_self] at shx
  exact⟨_,rfl,q x fq' H' (fun b m=>(ffx b m).elim (f1 b) fun z=>s2.free z) (fun b o e=>bt _ _ (s2 _ _ e) (out e)) shx⟩
def HT(H:Hp)(u:V)(p:Str×Int):Prop:=∃b,u=.ref b/\H b=some (.tup [.str p.1,.int p.2])
theorem HT.keep{H H':Hp}(g:A4 H H'):∀{us:List V}{pr:Row},Paired (HT H) us pr->Paired (HT H') us pr
 | _,_,.nil=>.nil
 | _,_,.cons ⟨b,e,h⟩ t=>.cons ⟨b,e,g _ _ h⟩ (HT.keep g t)
theorem HT.hand{K:PySem.W.Frag}{H:Hp}{fp:List Addr}(no:z47 H fp):∀{us:List V}{pr:Row},Paired (HT H) us pr->Paired (z8U K H fp) us pr
 | _,_,.nil=>.nil
 | _,_,.cons ⟨b,e,h⟩ t=>.cons ⟨b,e,.inr (SqT.of h),fun m=>no b m _ h⟩ (HT.hand no t)
def M3(n:Nat):List B7:=(upI 1 n).map fun k=>(none,k)
def J2(hs:List Int):List B7:=hs.map fun n=>(some 1,n)
theorem y31(i:Nat):M3 (i+1)=M3 i++[(none,(i:Int)+1)]:=by
 unfold M3
 rw[z5c,bD,Int.add_comm]
 rfl
theorem z91(i:Nat):(M3 i).length=i:=by
 unfold M3
 rw[b7,z0T]
theorem z9V(hs:List Int)(n:Int):J2 (hs++[n])=J2 hs++[(some 1,n)]:=by
 unfold J2
 rw[bD]
 rfl
theorem y7g{m:Nat}{hs:List Int}{n:Int}:((some 1,n):B7)∈M3 m++J2 hs↔n∈hs:=by
 rw[bO]
 unfold M3 J2
 rw[cF,cF]
 constructor
 ·rintro(⟨k,_,e⟩|⟨k,hk,e⟩)
  ·cases e
  ·cases e
   exact hk
 ·exact fun h=>.inr ⟨n,h,rfl⟩
theorem y6X{m:Nat}{hs:List Int}(n:Int):n∈N5 (M3 m++J2 hs) 1↔n∈hs:=by rw[z8P,y7g]
theorem y2i{ns ms:List Int}(h:∀x,x∈ns↔x∈ms)(B4:∀x∈ms,1≤x/\x≤60)(x:Int):x∈z0b ns↔x∈ms:=by
 rw[z0L,h]
 exact⟨fun q=>q.2,fun q=>⟨by have:=B4 x q;omega,q⟩⟩
theorem y0Z{H:Hp}:∀{w:Row}{xs:List V},z0a H (w.map z98) xs->Paired (HT H) xs w
 | [],xs,h=>by
  rw[z0E h]
  exact .nil
 | p::w,xs,h=>by
  obtain⟨x,r,rfl,t,h'⟩:=z08 h
  obtain⟨a,us,rfl,ea,_,tu⟩:=z0h (show A5 H (.tup [.str p.1,.int p.2]) x from t)
  obtain⟨y1,r1,rfl,t1,h3⟩:=z08 tu
  obtain⟨y2,r2,rfl,t2,h4⟩:=z08 h3
  have:=z0E h4
  subst this
  rw[z2g t1,z0G t2] at ea
  exact .cons ⟨a,rfl,ea⟩ (y0Z h')
def y5e(Sh:ShP):Sp:=fun vs H Q _=>∃(x:Addr) (fp:List Addr) (nm:List Str) (r:Int) (rows:List Row) (had:List Int),vs=[.ref x]/\Sh H x fp nm r (fun n=>z0Z rows n r) had/\E2 nm/\Rws nm rows/\rows.length≤60/\(∀n∈had,1≤n/\n≤rows.length)/\0≤r/\r≤10/\
 ∀(v:V) (H':Hp),A4 H H'->A5 H' (z7l nm (z0b had) rows r) v->Q v H'
theorem z8b(nm:List Str)(ns:List Int)(rows:List Row)(r:Int):(z7l nm ns rows r).deep≤2:=y0V fun d hd=>by
 obtain⟨z,_,rfl⟩:=cF.mp hd
 unfold R4
 refine y0V fun d hd=>?_
 rcases bA.mp hd with rfl|hd
 ·exact y1f _ _
 rcases bA.mp hd with rfl|hd
 ·exact y1f _ _
 rcases bA.mp hd with rfl|hd
 ·exact y0J _ _
 rw[b9.mp hd]
 cases z0w (z0b ns) rows z with
 | none=>unfold y2n DV.deep;exact cQ _
 | some p=>exact y0J _ _
def y19(Sh:ShP):Sp:=fun vs H Q _=>∃(x:Addr) (fp:List Addr) (nm:List Str) (r:Int) (rows:List Row) (had:List Int),vs=[.ref x]/\Sh H x fp nm r (fun n=>z0Z rows n r) had/\E2 nm/\Rws nm rows/\rows.length≤60/\(∀n∈had,1≤n/\n≤rows.length)/\0≤r/\r≤10/\
 ∀(v:V) (H':Hp),A4 H H'->A5 H' (.tup (z8Y (z0b had) rows r)) v->Q v H'
def y5z(K:PySem.W.Frag):Sp:=fun vs H Q _=>∃(p:Addr) (ns:List Int),vs=[.ref p]/\SqI K H p ns/\(∀x∈ns,1≤x/\x≤60)/\
 ∀(l:Addr) (H':Hp),H l=none->A4 H H'->H' l=some (.tup ((z1a ns).map V.int))->Q (.ref l) H'
theorem y64(M:Bl mg)(F:Fun K "lacking_numbers" "lacking_numbers" z2o f fd):A7 P w K mg base CX0 1 f fd z2k (y5z K):=by
 have nd:=z37.nd
 refine F.ok z37 (fun vs H Q E h=>?_) (fun cdv A outer s H vs Q E hr h=>?_)
 ·obtain⟨p,ns,rfl,_⟩:=h
  rfl
 obtain⟨p,ns,rfl,hS,B4,q⟩:=h
 refine⟨_,(z04 (z0n (i:=1) nd rfl (Or.inl rfl) (y2f rfl rfl M.max (z00 (pv 0) z03) (z8Z z06 y0W))) (z05 (z0i (z0t z0s rfl M.tuple bL (z00 (z1f ["number"] ["had"] [0] rfl (z0u rfl (by decide +kernel) rfl (by decide +kernel) rfl rfl) (z9A rfl M.range (z00 z06 (z00 (z0v z1M (pv 1) z06) z03))) (fun _ _ _ _ _=>(z0j (i:=0) (show((["number"]:List PySem.Str)++(["had"]:List PySem.Str)).Nodup from by decide +kernel) rfl (Or.inl rfl))) (z0y (by decide)) z0c (fun _ _ _ _ _=>(z21 (z09 (r:=rIn K true) z2e (pv 0) (pv 1) (by with_unfolding_all rfl)))) (fun _ _ _ _ _=>(pv 0))) z03))))),?_⟩
 refine⟨_,rfl,p,ns,.int 0,rfl,rfl,hS,fun hnil=>?_,fun m hm top=>?_⟩
 ·subst hnil
  refine⟨_,rfl,_,_,rfl,rfl,_,_,rfl,⟨by decide,by decide,by decide,by decide⟩,?_⟩
  refine z7J (lo:=1) (n:=0) (fun _=>true) (fun k=>.int k) (by decide) (fun k ys N k0 k1 hN=>by omega) ?_
  intro D hD
  refine⟨D,_,rfl,.inl ⟨SqL.of z02,fun l hl=>?_⟩⟩
  have h1:H l=none:=(z01 hD _).free hl
  refine q l _ h1 ((z01 hD _).trans (z01 hl _)) ?_
  rw[z02,z9I]
  rfl
 ·have hm':=B4 m hm
  refine⟨_,rfl,_,_,rfl,rfl,_,_,rfl,⟨by decide,by decide,by omega,by omega⟩,?_⟩
  refine z7J (lo:=1) (n:=(m+1-1).toNat) (fun k=>!decide (k∈ns)) (fun k=>.int k) (by omega) (fun k ys N k0 k1 hN=>?_) ?_
  ·refine⟨_,rfl,_,rfl,p,_,rfl,hS,rfl,z2B ns,_,rfl,?_⟩
   rw[if_pos rfl,z3j]
   refine A9 (fun c=>?_) (fun c=>?_)
   ·rw[if_pos c] at hN
    exact⟨_,rfl,hN⟩
   ·rw[if_neg c] at hN
    exact hN
  ·intro D hD
   refine⟨D,_,rfl,.inl ⟨SqL.of z02,fun l hl=>?_⟩⟩
   have h1:H l=none:=(z01 hD _).free hl
   refine q l _ h1 ((z01 hD _).trans (z01 hl _)) ?_
   rw[z02]
   have e:z2b (fun k=>!decide (k∈ns)) (fun k=>V.int k) (upI 1 (m+1-1).toNat)=(z1a ns).map V.int:=by
    unfold z2b
    rw[y34 hm B4 top]
   rw[e]
def y1a(K:PySem.W.Frag):Sp:=fun vs H Q _=>∃(p:Addr) (ns:List Int) (n r:Int),vs=[.ref p,.int n,.int r]/\SqI K H p ns/\(∀x∈ns,1≤x/\x≤60)/\ns.length≤900/\
 ∀H',A4 H H'->Q (.int (z0M ns n r)) H'
theorem y3w(M:Bl mg)(F:Fun K "teller_of" "teller_of" z5N f fd):A7 P w K mg base CX0 1 f fd z61 (y1a K):=by
 have nd:=z6I.nd
 refine F.ok z6I (fun vs H Q E h=>?_) (fun cdv A outer s H vs Q E hr h=>?_)
 ·obtain⟨p,ns,n,r,rfl,_⟩:=h
  rfl
 obtain⟨p,ns,n,r,rfl,hS,B4,hlen,q⟩:=h
 have fin:∀D,H D=none->(z2b (fun y=>decide (n<y) && decide (y-r≤n)) (fun y=>V.int y) ns=(ns.filter fun y=>decide (n<y) && decide (y-r≤n)).map V.int):=fun _ _=>rfl
 have X9:(ns.filter fun y=>decide (n<y) && decide (y-r≤n))=[]->z0M ns n r=0:=fun e=>z4d fun y hy h1 h2=>by
  have:y∈ns.filter fun y=>decide (n<y) && decide (y-r≤n):=bV.mpr ⟨hy,by rw[decide_eq_true h1,decide_eq_true h2];rfl⟩
  rw[e] at this
  cases this
 have X8:∀m,m∈(ns.filter fun y=>decide (n<y) && decide (y-r≤n))->(∀y∈(ns.filter fun y=>decide (n<y) && decide (y-r≤n)),m≤y)->z0M ns n r=m:=fun m hm hl=>by
  rw[bV,bQ,decide_eq_true_eq,decide_eq_true_eq] at hm
  exact y14 B4 hm.1 hm.2.1 hm.2.2 fun y hy h1 h2=>hl y (bV.mpr ⟨hy,by rw[decide_eq_true h1,decide_eq_true h2];rfl⟩)
 rcases hS with hS|hS
 ·refine⟨_,(z04 (z4G (i:=3) ["above"] ["number","reach"] [1,2] rfl nd rfl (Or.inl rfl) (z0u rfl (by decide +kernel) rfl (by decide +kernel) rfl rfl) (z1k (pv 0)) (fun _ _ _ _ _=>(z0j (i:=0) (show((["above"]:List PySem.Str)++(["number","reach"]:List PySem.Str)).Nodup from by decide +kernel) rfl (Or.inl rfl))) (z0y (by decide)) z0c (fun _ _ _ _ _=>(z21 (PW.pt (z4t (z09 z2E (pv 0) (pv 1) (z0m _)) (z2U (z09 y5G (z0v z4m (pv 0) (pv 2)) (pv 1) (z0m _))))))) (fun _ _ _ _ _=>(pv 0))) (z05 (z0i (y3e rfl rfl M.min (z00 (pv 3) z03) (z8Z z06 y0W))))),?_⟩
  refine⟨_,rfl,p,rfl,⟨_,hS⟩,?_⟩
  refine z9E (ns:=ns) (fun y=>decide (n<y) && decide (y-r≤n)) (fun y=>.int y) hS (by omega) (fun y ys N hy hN=>?_) (fun D hD=>?_)
  ·refine⟨_,rfl,_,rfl,_,_,rfl,rfl,_,rfl,?_⟩
   refine A9 (fun c=>?_) (fun c=>?_)
   ·refine⟨_,rfl,_,rfl,_,_,rfl,rfl,_,rfl,_,_,rfl,rfl,_,rfl,?_⟩
    rw[c,gL] at hN
    refine A9 (fun c2=>?_) (fun c2=>?_)
    ·rw[if_pos c2] at hN
     exact⟨_,rfl,hN⟩
    ·rw[if_neg c2] at hN
     exact hN
   ·rw[h8.mpr c,gT] at hN
    exact C3 hN
  ·refine⟨_,rfl,D,_,.int 0,rfl,rfl,.inl (SqL.of z02),fun e=>?_,fun m hm hl=>?_⟩
   ·have:=q _ (z01 hD (.lst (z2b (fun y=>decide (n<y) && decide (y-r≤n)) (fun y=>V.int y) ns)))
    rw[X9 e] at this
    exact this
   ·have:=q _ (z01 hD (.lst (z2b (fun y=>decide (n<y) && decide (y-r≤n)) (fun y=>V.int y) ns)))
    rw[X8 m hm hl] at this
    exact this
 ·refine⟨_,(z04 (z4G (i:=3) ["above"] ["number","reach"] [1,2] rfl nd rfl (Or.inl rfl) (z0u rfl (by decide +kernel) rfl (by decide +kernel) rfl rfl) (z1W (pv 0)) (fun _ _ _ _ _=>(z0j (i:=0) (show((["above"]:List PySem.Str)++(["number","reach"]:List PySem.Str)).Nodup from by decide +kernel) rfl (Or.inl rfl))) (z0y (by decide)) z0c (fun _ _ _ _ _=>(z21 (PW.pt (z4t (z09 z2E (pv 0) (pv 1) (z0m _)) (z2U (z09 y5G (z0v z4m (pv 0) (pv 2)) (pv 1) (z0m _))))))) (fun _ _ _ _ _=>(pv 0))) (z05 (z0i (y3e rfl rfl M.min (z00 (pv 3) z03) (z8Z z06 y0W))))),?_⟩
  refine⟨_,rfl,p,rfl,⟨_,hS⟩,?_⟩
  refine z83 (ns:=ns) (fun y=>decide (n<y) && decide (y-r≤n)) (fun y=>.int y) hS (by omega) (fun y ys N hy hN=>?_) (fun D hD=>?_)
  ·refine⟨_,rfl,_,rfl,_,_,rfl,rfl,_,rfl,?_⟩
   refine A9 (fun c=>?_) (fun c=>?_)
   ·refine⟨_,rfl,_,rfl,_,_,rfl,rfl,_,rfl,_,_,rfl,rfl,_,rfl,?_⟩
    rw[c,gL] at hN
    refine A9 (fun c2=>?_) (fun c2=>?_)
    ·rw[if_pos c2] at hN
     exact⟨_,rfl,hN⟩
    ·rw[if_neg c2] at hN
     exact hN
   ·rw[h8.mpr c,gT] at hN
    exact C3 hN
  ·refine⟨_,rfl,D,_,.int 0,rfl,rfl,.inl (SqL.of z02),fun e=>?_,fun m hm hl=>?_⟩
   ·have:=q _ (z01 hD (.lst (z2b (fun y=>decide (n<y) && decide (y-r≤n)) (fun y=>V.int y) ns)))
    rw[X9 e] at this
    exact this
   ·have:=q _ (z01 hD (.lst (z2b (fun y=>decide (n<y) && decide (y-r≤n)) (fun y=>V.int y) ns)))
    rw[X8 m hm hl] at this
    exact this
def Pr(H:Hp)(u:V)(p:Int×Int):Prop:=∃a,u=.ref a/\H a=some (.tup [.int p.1,.int p.2])
theorem Pr.keep{H H':Hp}(s:A4 H H'){u:V}{p:Int×Int}(h:Pr H u p):Pr H' u p:=let ⟨a,e,q⟩:=h;⟨a,e,s _ _ q⟩
abbrev Prs(H:Hp):List V->List (Int×Int)->Prop:=Paired (Pr H)
theorem Prs.keep{H H':Hp}(s:A4 H H'):∀{xs:List V}{ps:List (Int×Int)},Prs H xs ps->Prs H' xs ps
 | _,_,.nil=>.nil
 | _,_,.cons r t=>.cons (r.keep s) (Prs.keep s t)
theorem Prs.get{H:Hp}:∀{xs:List V}{ps:List (Int×Int)},Prs H xs ps->∀(i:Nat) (u:V),xs[i]? = some u->∃p,ps[i]? = some p/\Pr H u p
 | _,_,.nil,i,u,e=>by simp at e
 | _,_,.cons r t,0,u,e=>by
  simp at e
  subst e
  exact⟨_,rfl,r⟩
 | _,_,.cons r t,i+1,u,e=>by
  obtain⟨p,h1,h2⟩:=Prs.get t i u (by simpa using e)
  exact⟨p,by simpa using h1,h2⟩
theorem Prs.snoc{H:Hp}{xs:List V}{ps:List (Int×Int)}{u:V}{p:Int×Int}(h:Prs H xs ps)(q:Pr H u p):Prs H (xs++[u]) (ps++[p]):=jC h q
theorem Prs.len{H:Hp}:∀{xs:List V}{ps:List (Int×Int)},Prs H xs ps->xs.length=ps.length
 | _,_,.nil=>rfl
 | _,_,.cons _ t=>by rw[cC,cC,Prs.len t]
def P4(ns:List Int)(r:Int):List (Int×Int):=(z1a ns).map fun n=>(n,z0M ns n r)
def z4H(ns:List Int)(r:Int):List Int:=((P4 ns r).filter fun q=>decide (q.2=0)).map Prod.fst
def y5N(K:PySem.W.Frag):Sp:=fun vs H Q _=>∃(p:Addr) (ns:List Int) (r:Int),vs=[.ref p,.int r]/\SqI K H p ns/\(∀x∈ns,1≤x/\x≤60)/\ns.length≤900/\
 ∀(l:Addr) (xs:List V) (H':Hp),A4 H H'->H' l=some (.tup xs)->Prs H' xs (P4 ns r)->Q (.ref l) H'
theorem y6V(M:Bl mg)(F:Fun K "lacking_with_tellers" "lacking_with_tellers" z1v f fd)(E7:Cal P w K mg base 1 "lacking_numbers" z2k (y5z K))
  (M5:Cal P w K mg base 1 "teller_of" z61 (y1a K)):A7 P w K mg base CX0 2 f fd z10 (y5N K):=by
 have nd:=z1Y.nd
 refine F.ok z1Y (fun vs H Q E h=>?_) (fun cdv A outer s H vs Q E hr h=>?_)
 ·obtain⟨p,ns,r,rfl,_⟩:=h
  rfl
 obtain⟨p,ns,r,rfl,hS,B4,hlen,q⟩:=h
 refine⟨_,(z05 (z0i (z0t z0s rfl M.tuple bL (z00 (z1f ["number"] ["had","reach"] [0,1] rfl (z0u rfl (by decide +kernel) rfl (by decide +kernel) rfl rfl) (z1W (z0q E7 (rm hr) rfl (z00 (pv 0) z03))) (fun _ _ _ _ _=>(z0j (i:=0) (show((["number"]:List PySem.Str)++(["had","reach"]:List PySem.Str)).Nodup from by decide +kernel) rfl (Or.inl rfl))) (z0y (by decide)) z0c (fun _ _ _ _ _=>z26) (fun _ _ _ _ _=>(z0Y (z00 (pv 0) (z00 (z0q M5 (rm hr) rfl (z00 (pv 1) (z00 (pv 0) (z00 (pv 2) z03)))) z03))))) z03)))),?_⟩
 refine⟨_,rfl,p,ns,rfl,hS,B4,fun lt H1 nlt s1 e1=>⟨lt,rfl,⟨_,SqT.of e1⟩,?_⟩⟩
 have ll:=z2d ns
 refine z1r (xs:=(z1a ns).map V.int) (fun i ys H'=>A4 H1 H'/\Prs H' ys (((z1a ns).take i).map fun n=>(n,z0M ns n r))) ⟨A4.refl _,.nil⟩ (fun i ys H' hi hp=>?_) (fun i x ys H' hx hp=>?_) (fun ys H' hp=>?_)
 ·obtain⟨g,pr⟩:=hp
  refine⟨SqT.of (g _ _ e1),z0g ?_⟩
  rw[pr.len,b7,bN]
  omega
 ·obtain⟨g,pr⟩:=hp
  rw[bH] at hx
  cases e:(z1a ns)[i]? with
  | none=>rw[e] at hx;cases hx
  | some n=>
   rw[e] at hx
   cases hx
   refine⟨_,rfl,_,rfl,_,rfl,_,rfl,p,ns,n,r,rfl,SqI.keep (s1.trans g) hS,B4,hlen,fun H2 g2=>⟨(by show 2≤sizeLine;decide),fun t ht=>?_⟩⟩
   refine⟨g.trans (g2.trans (z01 ht _)),?_⟩
   rw[z0r e,bD]
   exact Prs.snoc (pr.keep (g2.trans (z01 ht _))) ⟨t,rfl,z02⟩
 ·obtain⟨g,pr⟩:=hp
  rw[b7,bR] at pr
  intro D hD
  refine⟨D,_,rfl,.inl ⟨SqL.of z02,fun l hl=>?_⟩⟩
  exact q l ys _ (s1.trans (g.trans ((z01 hD _).trans (z01 hl _)))) z02 (pr.keep ((z01 hD _).trans (z01 hl _)))
def y5v(K:PySem.W.Frag):Sp:=fun vs H Q _=>∃(p:Addr) (ns:List Int) (r:Int),vs=[.ref p,.int r]/\SqI K H p ns/\(∀x∈ns,1≤x/\x≤60)/\ns.length≤900/\
 ∀(l:Addr) (H':Hp),A4 H H'->H' l=some (.tup ((z4H ns r).map V.int))->Q (.ref l) H'
theorem y2o(ns:List Int)(r:Int):(P4 ns r).length≤60:=by
 unfold P4
 rw[b7]
 exact z2d ns
theorem y5K(M:Bl mg)(F:Fun K "dark_numbers" "dark_numbers" z3y f fd)(B2:Cal P w K mg base 2 "lacking_with_tellers" z10 (y5N K)):A7 P w K mg base CX0 3 f fd z3x (y5v K):=by
 have nd:=z4k.nd
 refine F.ok z4k (fun vs H Q E h=>?_) (fun cdv A outer s H vs Q E hr h=>?_)
 ·obtain⟨p,ns,r,rfl,_⟩:=h
  rfl
 obtain⟨p,ns,r,rfl,hS,B4,hlen,q⟩:=h
 refine⟨_,(z05 (z0i (z0t z0s rfl M.tuple bL (z00 (z1f ["number","teller"] [] [] rfl (z0u rfl (by decide +kernel) rfl (by decide +kernel) rfl rfl) (z1W (z0q B2 (rm hr) rfl (z00 (pv 0) (z00 (pv 1) z03)))) (fun _ _ _ _ _=>(z8J (K:=K) (n:=2) rfl rfl (z1B (z0j (i:=0) (show((["number","teller"]:List PySem.Str)++([]:List PySem.Str)).Nodup from by decide +kernel) rfl (Or.inl rfl)) (z1B (z0j (i:=1) (show((["number","teller"]:List PySem.Str)++([]:List PySem.Str)).Nodup from by decide +kernel) rfl (Or.inl rfl)) z5F)))) (z8I (z1R (z0y (by decide)) z0c (z1R (z0y (by decide)) z0c z7G z16) (z0P z0c z16))) (z6x (z0P z0c (z0P z0c z16))) (fun _ _ _ _ _=>(z21 (z09 z2r (pv 1) z06 (z0m _)))) (fun _ _ _ _ _=>(pv 0))) z03)))),?_⟩
 refine⟨_,rfl,_,rfl,p,ns,r,rfl,hS,B4,hlen,fun lt xs H1 s1 e1 pr1=>⟨lt,rfl,⟨_,SqT.of e1⟩,?_⟩⟩
 have ll:=y2o ns r
 have lx:=pr1.len
 refine z1r (xs:=xs) (fun i ys H'=>H'=H1/\ys=(((P4 ns r).take i).filter fun q=>decide (q.2=0)).map fun q=>V.int q.1) ⟨rfl,rfl⟩ (fun i ys H' hi hp=>?_) (fun i x ys H' hx hp=>?_) (fun ys H' hp=>?_)
 ·obtain⟨rfl,rfl⟩:=hp
  refine⟨SqT.of e1,z0g ?_⟩
  have h1:=cM (fun q:Int×Int=>decide (q.2=0)) ((P4 ns r).take i)
  rw[b7]
  rw[bN] at h1
  omega
 ·obtain⟨rfl,rfl⟩:=hp
  obtain⟨⟨n,t⟩,e,a,rfl,ha⟩:=pr1.get i x hx
  refine⟨a,_,rfl,SqT.of ha,rfl,_,_,rfl,_,_,rfl,rfl,?_⟩
  refine⟨_,rfl,rfl,_,rfl,?_⟩
  rw[z0r e,dR,eX,bD]
  refine A9 (fun c=>?_) (fun c=>?_)
  ·have c':decide (t=0)=true:=decide_eq_true (V.int.inj (z0A c))
   refine⟨_,rfl,rfl,?_⟩
   rw[if_pos c']
   rfl
  ·have c':¬decide (t=0)=true:=fun z=>c (decide_eq_true (congrArg V.int (z0A z)))
   refine⟨rfl,?_⟩
   rw[if_neg c']
   simp
 ·obtain⟨rfl,rfl⟩:=hp
  rw[lx,bR]
  intro D hD
  refine⟨D,_,rfl,.inl ⟨SqL.of z02,fun l hl=>?_⟩⟩
  refine q l _ (s1.trans ((z01 hD _).trans (z01 hl _))) ?_
  rw[z02]
  unfold z4H
  rw[eJ]
  rfl
theorem z9P(ns:List Int)(r:Int):(z4H ns r).length≤60:=by
 have h:=cM (fun q:Int×Int=>decide (q.2=0)) (P4 ns r)
 have:=y2o ns r
 unfold z4H
 rw[b7]
 omega
def z19(ns:List Int)(r b:Int):List Int:=(z4H ns r).filter fun y=>decide (b<y)
def z8O(K:PySem.W.Frag):Sp:=fun vs H Q _=>∃(p:Addr) (ns:List Int) (r b:Int),vs=[.ref p,.int r,.int b]/\SqI K H p ns/\(∀x∈ns,1≤x/\x≤60)/\ns.length≤900/\
 ∀(l:Addr) (H':Hp),A4 H H'->H' l=some (.tup ((z19 ns r b).map V.int))->Q (.ref l) H'
theorem y3j(M:Bl mg)(F:Fun K "dark_numbers_behind" "dark_numbers_behind" z1G f fd)(J1:Cal P w K mg base 3 "dark_numbers" z3x (y5v K)):A7 P w K mg base CX0 4 f fd z18 (z8O K):=by
 have nd:=z2i.nd
 refine F.ok z2i (fun vs H Q E h=>?_) (fun cdv A outer s H vs Q E hr h=>?_)
 ·obtain⟨p,ns,r,b,rfl,_⟩:=h
  rfl
 obtain⟨p,ns,r,b,rfl,hS,B4,hlen,q⟩:=h
 refine⟨_,(z05 (z0i (z0t z0s rfl M.tuple bL (z00 (z1f ["number"] ["behind"] [2] rfl (z0u rfl (by decide +kernel) rfl (by decide +kernel) rfl rfl) (z1W (z0q J1 (rm hr) rfl (z00 (pv 0) (z00 (pv 1) z03)))) (fun _ _ _ _ _=>(z0j (i:=0) (show((["number"]:List PySem.Str)++(["behind"]:List PySem.Str)).Nodup from by decide +kernel) rfl (Or.inl rfl))) (z0y (by decide)) z0c (fun _ _ _ _ _=>(z21 (z09 z2E (pv 0) (pv 1) (z0m _)))) (fun _ _ _ _ _=>(pv 0))) z03)))),?_⟩
 refine⟨_,rfl,_,rfl,p,ns,r,rfl,hS,B4,hlen,fun lt H1 s1 e1=>⟨lt,rfl,⟨_,SqT.of e1⟩,?_⟩⟩
 have ll:=z9P ns r
 refine z83 (ns:=z4H ns r) (fun y=>decide (b<y)) (fun y=>.int y) (SqT.of e1) (by omega) (fun y ys N hy hN=>?_) (fun D hD=>?_)
 ·refine⟨_,rfl,_,rfl,_,_,rfl,rfl,_,rfl,?_⟩
  refine A9 (fun c=>?_) (fun c=>?_)
  ·rw[if_pos c] at hN
   exact⟨_,rfl,hN⟩
  ·rw[if_neg c] at hN
   exact hN
 ·exact⟨D,_,rfl,.inl ⟨SqL.of z02,fun l hl=>q l _ (s1.trans ((z01 hD _).trans (z01 hl _))) z02⟩⟩
def y0Q(Sh:ShP):Sp:=fun vs H Q _=>∃(p:Addr) (fp:List Addr) (zs:List Str) (r:Int) (iss:Int->DV) (had:List Int) (n:Int) (d0 d1 d2:DV),vs=[.ref p,.int n]/\Sh H p fp zs r iss had/\n∈had/\iss n=.tup [d0,d1,d2]/\∀v,A5 H d2 v->Q v H
theorem z8y{kvs:List (Key×V)}{had:List Int}(kk:kvs.map (·.1)=had.map Sum.inl){n:Int}(h:n∈had):∃v,H0 kvs (Sum.inl n:Key)=some v/\((Sum.inl n:Key),v)∈kvs:=by
 have e:=y0x kk n
 rw[decide_eq_true h] at e
 cases ev:H0 kvs (Sum.inl n:Key) with
 | none=>rw[ev] at e;cases e
 | some v=>
  refine⟨v,rfl,?_⟩
  unfold H0 at ev
  obtain⟨⟨k,u⟩,hf,rfl⟩:=cJ.mp ev
  have h1:=fJ hf
  have h2:=List.find?_some hf
  simp only[decide_eq_true_eq] at h2
  rw[h2] at h1
  exact h1
theorem y2K{A0:Addr}(M:Bl mg)(T:C4 K mg A0)(F:Fun K "tail_of" "Shelf.tail_of" z35 f fd):A7 P w K mg base CX0 1 f fd z2X (y0Q (ShD K A0)):=by
 have nd:=z3T.nd
 refine F.ok z3T (fun vs H Q E h=>?_) (fun cdv A outer s H vs Q E hr h=>?_)
 ·obtain⟨p,fp,zs,r,iss,had,n,d0,d1,d2,rfl,_⟩:=h
  rfl
 obtain⟨p,fp,zs,r,iss,had,n,d0,d1,d2,rfl,sh,hn,en,k⟩:=h
 have hu:=y0k hr
 refine⟨_,(z05 (z0i (z0Q z0H (z7v hu (z0F (pv 0) rfl) (pv 1) (fun _ _=>rfl)) z06 (fun _ _=>rfl)))),?_⟩
 obtain⟨dx,pn,pd,fs,kvs,rfl,h1,h2,h3,h4,l1,l2,l3,lm,kk,ndh,all,tl,g,r0,r1⟩:=sh
 obtain⟨v,ev,mv⟩:=z8y kk hn
 have tv:=tl n v mv
 rw[en] at tv
 obtain⟨a,us,rfl,ea,_,tu⟩:=z0h tv
 obtain⟨x0,ur,rfl,t0,tu⟩:=z08 tu
 obtain⟨x1,ur,rfl,t1,tu⟩:=z08 tu
 obtain⟨x2,ur,rfl,t2,tu⟩:=z08 tu
 refine⟨_,rfl,p,A0,dx,fs,_,rfl,h1,T.cl,T.n_issues,l3,_,rfl,pd,_,rfl,(by rw[<- ev];exact L0.k (k:=Sum.inl n) h4),?_⟩
 exact⟨a,_,_,x2,rfl,rfl,SqT.of ea,z1m rfl,k x2 t2⟩
theorem y4A(n r:Int):(z5K n r).Nodup:=by
 have h:(dnI (n-1) (n-1).toNat).Nodup:=by
  unfold dnI
  rw[dF,dY]
  exact h9.imp fun h=>by omega
 exact h.filter _
theorem y2j{n r k:Int}:k∈z5K n r↔1≤k/\k<n/\n-k≤r:=by
 unfold z5K
 rw[bV,z7D,decide_eq_true_eq]
 omega
theorem z80{K:PySem.W.Frag}{H:Hp}{rows:List Row}:∀{ks:List Int}{xs:List V},z0a H (ks.map (y1S rows)) xs->∃kvs:List (Key×V),Paired (y28 K H) xs kvs/\kvs.map (·.1)=ks.map Sum.inl/\∀k v,((Sum.inl k:Key),v)∈kvs->A5 H (P9 (z1N (z0D rows k))) v
 | [],xs,h=>by
  rw[z0E h]
  exact⟨[],.nil,rfl,fun _ _ q=>(nomatch q)⟩
 | k::ks,xs,h=>by
  obtain⟨x,r,rfl,t,h⟩:=z08 h
  obtain⟨kvs,p1,p2,p3⟩:=z80 h
  obtain⟨a,us,rfl,ea,_,tu⟩:=z0h t
  obtain⟨x0,ur,rfl,t0,tu⟩:=z08 tu
  obtain⟨x1,ur,rfl,t1,tu⟩:=z08 tu
  have:=z0E tu
  subst this
  cases z0G t0
  refine⟨(Sum.inl k,x1)::kvs,.cons ⟨a,rfl,.inr (SqT.of ea)⟩ p1,by rw[cK,cK,p2],fun m v hv=>?_⟩
  rcases bA.mp hv with e|hv
  ·cases e
   exact t1
  ·exact p3 m v hv
def y5J(rows:List Row)(n t:Int):DV:=if t=0 then .tup [] else P9 (z1N (z0D rows n))
def y5q(Sh:ShP):Sp:=fun vs H Q _=>∃(x:Addr) (n t:Int) (fp:List Addr) (nm:List Str) (r:Int) (rows:List Row) (had:List Int),vs=[.ref x,.int n,.int t]/\Sh H x fp nm r (fun n=>z0Z rows n r) had/\(t≠0->t∈had/\t≤60/\n∈z5K t r)/\
 ∀(v:V) (H':Hp),A4 H H'->A5 H' (y5J rows n t) v->Q v H'
theorem y6s{A0:Addr}(M:Bl mg)(T:C4 K mg A0)(F:Fun K "names_told_of" "names_told_of" z2Z f fd)(F2:D0 P w K mg base 1 A0 "tail_of" z2X (y0Q (ShD K A0))) :
  A7 P w K mg base CX0 2 f fd z2Y (y5q (ShD K A0)):=by
 have nd:=z3V.nd
 refine F.ok z3V (fun vs H Q E h=>?_) (fun cdv A outer s H vs Q E hr h=>?_)
 ·obtain⟨x,n,t,fp,nm,r,rows,had,rfl,_⟩:=h
  rfl
 obtain⟨x,n,t,fp,nm,r,rows,had,rfl,sh,ht,k⟩:=h
 have hu:=y0k hr
 refine⟨_,(z04 (z0R (z09 z2r (pv 2) z06 (z0m _)) (z05 (z0i (z0Y z03))) z0p) (z05 (z0i (z7v hu (z0t (z3Y (K:=K) rfl rfl) rfl M.dict hJ (z00 (z1Q F2 (rm hr) (pv 0) (z00 (pv 2) z03)) z03)) (pv 1) (fun _ _=>rfl))))),?_⟩
 refine⟨_,rfl,rfl,_,rfl,A9 (fun c=>?_) (fun c=>?_)⟩
 ·have c':t=0:=V.int.inj (z0A c)
  refine⟨(by show 0≤sizeLine;decide),fun l hl=>k _ _ (z01 hl _) ?_⟩
  unfold y5J
  rw[if_pos c']
  exact z0x z02 (by show 0≤1000000;decide) .nil
 ·have c':t≠0:=fun z=>c (decide_eq_true (congrArg V.int z))
  obtain⟨th,t60,tn⟩:=ht c'
  obtain⟨dx,fs,h1,lm⟩:∃dx fs,H x=some (.ins A0 dx fs)/\fs.lookup ("tail_of":Str)=none:=by
   obtain⟨dx,pn,pd,fs,kvs,_,h1,_,_,_,_,_,_,lm,_⟩:=sh
   exact⟨dx,fs,h1,lm _ (by simp)⟩
  refine⟨_,rfl,x,dx,fs,rfl,h1,lm,_,rfl,x,fp,nm,r,_,had,t,_,_,_,rfl,sh,th,rfl,fun v tv=>?_⟩
  obtain⟨a,us,rfl,ea,_,tu⟩:=z0h tv
  obtain⟨kvs,p1,p2,p3⟩:=z80 (K:=K) tu
  have lu:us.length≤1000:=by
   rw[tu.length,b7]
   unfold z5K
   have:=cM (fun k=>decide (t-k≤r)) (dnI (t-1) (t-1).toNat)
   rw[y0w] at this
   omega
  refine⟨a,us,kvs,rfl,.inr ea,p1,lu,?_,fun l hl=>?_⟩
  ·rw[p2]
   rw[dF,dY]
   exact(dF.mp (y4A t r)).imp fun h e=>h (Sum.inl.inj e)
  ·obtain⟨v,ev,mv⟩:=z8y p2 tn
   refine⟨_,rfl,l,_,rfl,(by rw[<- ev];exact L0.k (k:=Sum.inl n) z02),?_⟩
   refine k v _ (z01 hl _) ?_
   unfold y5J
   rw[if_neg c']
   exact A5.keep (z01 hl _) _ _ (p3 n v mv)
theorem y48{had:List Int}{r n:Int}(h60:∀n∈had,1≤n/\n≤60)(hn:n∈z1a (z0b had))(h:z0M (z0b had) n r≠0):z0M (z0b had) n r∈had/\z0M (z0b had) n r≤60/\n∈z5K (z0M (z0b had) n r) r:=by
 unfold z0M at h ⊢
 cases e:(upI 1 60).find? (y0u (z0b had) n r) with
 | none=>rw[e] at h;exact absurd rfl h
 | some y=>
  obtain⟨_,hc,_⟩:=y3X (z1D 1 60) e
  obtain⟨a,b,c⟩:=z3U.mp hc
  have hy:=(z0L.mp c).2
  have:=h60 y hy
  have:=(z0U.mp hn).1
  show y∈had/\y≤60/\n∈z5K y r
  exact⟨hy,by omega,y2j.mpr (by omega)⟩
theorem y3G{A0:Addr}(M:Bl mg)(T:C4 K mg A0)(F:Fun K "gaps_of" "gaps_of" z8x f fd)(B1:D0 P w K mg base 1 A0 "had" z23 (z5T (ShD K A0)))
  (B2:Cal P w K mg base 2 "lacking_with_tellers" z10 (y5N K)) (F7:Cal P w K mg base 2 "names_told_of" z2Y (y5q (ShD K A0))) :
  A7 P w K mg base CX0 3 f fd z8G (y19 (ShD K A0)):=by
 have nd:=z9w.nd
 refine F.ok z9w (fun vs H Q E h=>?_) (fun cdv A outer s H vs Q E hr h=>?_)
 ·obtain⟨x,fp,nm,r,rows,had,rfl,_⟩:=h
  rfl
 obtain⟨x,fp,nm,r,rows,had,rfl,sh,gn,rw',l60,hh,r0,r1,k⟩:=h
 refine⟨_,(z04 (z0n (i:=1) nd rfl (Or.inl rfl) (z0q B2 (rm hr) rfl (z00 (z2L B1 (rm hr) (pv 0)) (z00 (z0F (pv 0) rfl) z03)))) (z05 (z0i (z0t z0s rfl M.tuple bL (z00 (z1f ["number","teller"] ["shelf"] [0] rfl (z0u rfl (by decide +kernel) rfl (by decide +kernel) rfl rfl) (z1W (pv 1)) (fun _ _ _ _ _=>(z8J (K:=K) (n:=2) rfl rfl (z1B (z0j (i:=0) (show((["number","teller"]:List PySem.Str)++(["shelf"]:List PySem.Str)).Nodup from by decide +kernel) rfl (Or.inl rfl)) (z1B (z0j (i:=1) (show((["number","teller"]:List PySem.Str)++(["shelf"]:List PySem.Str)).Nodup from by decide +kernel) rfl (Or.inl rfl)) z5F)))) (z8I (z1R (z0y (by decide)) z0c (z1R (z0y (by decide)) z0c z7G z16) (z0P z0c z16))) (z6x (z0P z0c (z0P z0c z16))) (fun _ _ _ _ _=>z26) (fun _ _ _ _ _=>(z0Y (z00 (pv 0) (z00 (pv 1) (z00 (z0q F7 (rm hr) rfl (z00 (pv 2) (z00 (pv 0) (z00 (pv 1) z03)))) z03)))))) z03))))),?_⟩
 have h60:∀n∈had,1≤n/\n≤60:=fun n hn=>by have:=hh n hn;omega
 obtain⟨dx,fs,h1,lm,lr⟩:∃dx fs,H x=some (.ins A0 dx fs)/\fs.lookup ("had":Str)=none/\fs.lookup ("reach":Str)=some (V.int r):=by
  obtain⟨dx,pn,pd,fs,kvs,_,h1,_,_,_,_,lr,_,lm,_⟩:=sh
  exact⟨dx,fs,h1,lm _ (by simp),lr⟩
 refine⟨_,rfl,x,dx,fs,rfl,h1,lm,x,fp,nm,r,_,had,rfl,sh,fun l H1 s1 e1=>?_⟩
 refine⟨_,rfl,x,A0,dx,fs,_,rfl,s1 _ _ h1,T.cl,T.n_reach,lr,l,z0b had,r,rfl,.inr (SqT.of e1),fun n hn=>h60 n (z0L.mp hn).2,cO (z2G had) (by decide),fun lt xs H2 s2 e2 pr2=>?_⟩
 have sh2:ShD K A0 H2 x fp nm r (fun n=>z0Z rows n r) had:=F6.same sh (s1.trans s2)
 have lx:xs.length=(z1a (z0b had)).length:=by rw[pr2.len];unfold P4;rw[b7]
 have ll:=z2d (z0b had)
 refine⟨_,rfl,lt,rfl,⟨_,SqT.of e2⟩,?_⟩
 refine z1r (xs:=xs) (fun i ys H'=>A4 H2 H'/\z0a H' (((z1a (z0b had)).take i).map (P1 (z0b had) rows r)) ys) ⟨A4.refl _,by rw[d6];exact .nil⟩ (fun i ys H' hi hp=>?_) (fun i y ys H' hy hp=>?_) (fun ys H' hp=>?_)
 ·obtain⟨g,t⟩:=hp
  refine⟨SqT.of (g _ _ e2),z0g ?_⟩
  rw[t.length,b7,bN]
  omega
 ·obtain⟨g,t⟩:=hp
  obtain⟨⟨n,tl⟩,e,a,rfl,ha⟩:=pr2.get i y hy
  unfold P4 at e
  rw[bH] at e
  obtain⟨m,em,e3⟩:=cJ.mp e
  cases e3
  refine⟨a,_,rfl,SqT.of (g _ _ ha),rfl,_,_,rfl,_,_,rfl,rfl,?_⟩
  refine⟨_,rfl,_,rfl,_,rfl,_,rfl,_,rfl,x,n,_,fp,nm,r,rows,had,rfl,F6.same sh2 g,y48 h60 (bT em),fun v H3 s3 tv=>?_⟩
  refine⟨(by show 3≤sizeLine;decide),fun q hq=>⟨g.trans (s3.trans (z01 hq _)),?_⟩⟩
  rw[dX,em,bD]
  exact z0a.snoc (z0a.keep (s3.trans (z01 hq _)) _ _ t) (z0x z02 (by show 3≤1000000;decide) (.cons (z0z _) (.cons (z0z _) (.cons (A5.keep (z01 hq _) _ _ tv) .nil))))
 ·obtain⟨g,t⟩:=hp
  rw[lx,bR] at t
  intro D hD
  refine⟨D,ys,rfl,.inl ⟨SqL.of z02,fun q hq=>k _ _ (s1.trans (s2.trans (g.trans ((z01 hD _).trans (z01 hq _))))) (z0x z02 ?_ (z0a.keep ((z01 hD _).trans (z01 hq _)) _ _ t))⟩⟩
  unfold z8Y
  rw[b7]
  omega
def y0S(Sh:ShP):Sp:=fun vs H Q _=>∃(p:Addr) (fp:List Addr) (zs:List Str) (r:Int) (iss:Int->DV) (had:List Int) (n:Int) (d0 d1 d2:DV),vs=[.ref p,.int n]/\Sh H p fp zs r iss had/\n∈had/\iss n=.tup [d0,d1,d2]/\∀v,A5 H d1 v->Q v H
theorem y2z{A0:Addr}(M:Bl mg)(T:C4 K mg A0)(F:Fun K "rows_of" "Shelf.rows_of" z31 f fd):A7 P w K mg base CX0 1 f fd z34 (y0S (ShD K A0)):=by
 have nd:=z3X.nd
 refine F.ok z3X (fun vs H Q E h=>?_) (fun cdv A outer s H vs Q E hr h=>?_)
 ·obtain⟨p,fp,zs,r,iss,had,n,d0,d1,d2,rfl,_⟩:=h
  rfl
 obtain⟨p,fp,zs,r,iss,had,n,d0,d1,d2,rfl,sh,hn,en,k⟩:=h
 have hu:=y0k hr
 refine⟨_,(z05 (z0i (z0Q z0H (z7v hu (z0F (pv 0) rfl) (pv 1) (fun _ _=>rfl)) z06 (fun _ _=>rfl)))),?_⟩
 obtain⟨dx,pn,pd,fs,kvs,rfl,h1,h2,h3,h4,l1,l2,l3,lm,kk,ndh,all,tl,g,r0,r1⟩:=sh
 obtain⟨v,ev,mv⟩:=z8y kk hn
 have tv:=tl n v mv
 rw[en] at tv
 obtain⟨a,us,rfl,ea,_,tu⟩:=z0h tv
 obtain⟨x0,ur,rfl,t0,tu⟩:=z08 tu
 obtain⟨x1,ur,rfl,t1,tu⟩:=z08 tu
 refine⟨_,rfl,p,A0,dx,fs,_,rfl,h1,T.cl,T.n_issues,l3,_,rfl,pd,_,rfl,(by rw[<- ev];exact L0.k (k:=Sum.inl n) h4),?_⟩
 exact⟨a,_,_,x1,rfl,rfl,SqT.of ea,z1m rfl,k x1 t1⟩
theorem z9r{K:PySem.W.Frag}{H:Hp}:∀{w:Row}{xs:List V},z0a H (w.map z98) xs->Paired (y28 K H) xs (w.map kvR)
 | [],xs,h=>by
  rw[z0E h]
  exact .nil
 | p::w,xs,h=>by
  obtain⟨x,r,rfl,t,h'⟩:=z08 h
  obtain⟨a,us,rfl,ea,_,tu⟩:=z0h t
  obtain⟨x0,ur,rfl,t0,tu⟩:=z08 tu
  obtain⟨x1,ur,rfl,t1,tu⟩:=z08 tu
  have:=z0E tu
  subst this
  rw[z2g t0,z0G t1] at ea
  exact .cons ⟨a,rfl,.inr (SqT.of ea)⟩ (z9r h')
theorem w0G(w:Row)(z:Str):∀acc:Option Int,w.foldl (fun acc p=>if p.1=z then some p.2 else acc) acc=match C0 w z with|some v=>some v|none=>acc:=by
 unfold C0
 induction w with
 | nil=>intro acc;rfl
 | cons p w ih=>
  intro acc
  rw[cT,cT,ih,ih (if p.1=z then some p.2 else none)]
  cases w.foldl (fun acc p=>if p.1=z then some p.2 else acc) none with
  | some v=>rfl
  | none=>
   by_cases h:p.1=z
   ·rw[if_pos h,if_pos h]
   ·rw[if_neg h,if_neg h]
theorem z6E(p:Str×Int)(w:Row)(z:Str):C0 (p::w) z=match C0 w z with|some v=>some v|none=>if p.1=z then some p.2 else none:=by
 conv=>lhs;unfold C0
 rw[cT,w0G]
theorem z9Q{w:Row}{z:Str}(h:z∉w.map Prod.fst):C0 w z=none:=by
 induction w with
 | nil=>rfl
 | cons p w ih=>
  rw[cK,bA,not_or] at h
  rw[z6E,ih h.2,if_neg (fun e=>h.1 e.symm)]
theorem y0f{z:Str}:∀{w:Row},(w.map Prod.fst).Nodup->H0 (w.map kvR) (Sum.inr z:Key)=(C0 w z).map V.int
 | [],_=>rfl
 | p::w,h=>by
  rw[cK,cW] at h
  rw[cK,z6E]
  by_cases e:p.1=z
  ·rw[z5k (show(kvR p).1=Sum.inr z by unfold kvR;rw[e]),z9Q (e ▸ h.1),if_pos e]
   rfl
  ·rw[z4Z (show ¬(kvR p).1=Sum.inr z from fun q=>e (Sum.inr.inj q)),y0f h.2,if_neg e]
   cases C0 w z<;>rfl
theorem y7e{nm:List Str}{rows:List Row}(g:E2 nm)(R:Rws nm rows)(n:Int):((z0D rows n).map Prod.fst).Nodup:=by
 unfold z0D
 rw[bP]
 cases e:rows[(n-1).toNat]? with
 | none=>exact .nil
 | some w=>exact(R.sub w (bT e)).nodup g.nd
theorem y6j{nm:List Str}{rows:List Row}(g:E2 nm)(R:Rws nm rows)(n:Int):(z0D rows n).length≤12:=by
 unfold z0D
 rw[bP]
 cases e:rows[(n-1).toNat]? with
 | none=>exact cQ _
 | some w=>
  have h:=(R.sub w (bT e)).length_le
  rw[b7] at h
  exact cO h g.hi
def z44(Sh:ShP):Sp:=fun vs H Q _=>∃(x:Addr) (z:Str) (fp:List Addr) (nm:List Str) (r:Int) (rows:List Row) (had:List Int),vs=[.ref x,.str z]/\Sh H x fp nm r (fun n=>z0Z rows n r) had/\z∈nm/\E2 nm/\Rws nm rows/\
 ∀(v:V) (H':Hp),A4 H H'->A5 H' (z9d (z0w (z0b had) rows z)) v->Q v H'
theorem y1k{A0:Addr}(M:Bl mg)(T:C4 K mg A0)(F:Fun K "held_for" "held_for" z7E f fd)(B3:Cal P w K mg base 1 "refuse_unknown_name" z17 (y5S K))
  (B1:D0 P w K mg base 1 A0 "had" z23 (z5T (ShD K A0))) (F4:D0 P w K mg base 1 A0 "rows_of" z34 (y0S (ShD K A0))) :
  A7 P w K mg base CX0 2 f fd z3a (z44 (ShD K A0)):=by
 have nd:=z8d.nd
 refine F.ok z8d (fun vs H Q E h=>?_) (fun cdv A outer s H vs Q E hr h=>?_)
 ·obtain⟨x,z,fp,nm,r,rows,had,rfl,_⟩:=h
  rfl
 obtain⟨x,z,fp,nm,r,rows,had,rfl,sh,hz,gn,R,k⟩:=h
 have hu:=y0k hr
 refine⟨_,(z04 (z0B (z0q B3 (rm hr) rfl (z00 (z0F (pv 0) rfl) (z00 (pv 1) z03)))) (z04 (z1c cG rfl (y5s rfl M.reversed (z00 (z2L B1 (rm hr) (pv 0)) z03)) (z0j (i:=2) nd rfl (Or.inl rfl)) (z04 (z0n (i:=3) nd rfl (Or.inl rfl) (z0t (z3Y (K:=K) rfl rfl) rfl M.dict hJ (z00 (z1Q F4 (rm hr) (pv 0) (z00 (pv 2) z03)) z03))) (z05 (z0R (z87 (y3Z hu (pv 1) (pv 3))) (z05 (z0i (z0Y (z00 (pv 2) (z00 (z7v hu (pv 3) (pv 1) (fun _ _=>rfl)) z03))))) z0p)))) (z05 (z0i (z0Y (z00 z06 (z00 z8p z03))))))),?_⟩
 obtain⟨dx,pn,fs,h1,h3,ln,lh,lo⟩:∃dx pn fs,H x=some (.ins A0 dx fs)/\H pn=some (.tup (nm.map V.str))/\fs.lookup ("names":Str)=some (V.ref pn)/\fs.lookup ("had":Str)=none/\fs.lookup ("rows_of":Str)=none:=by
  obtain⟨dx,pn,pd,fs,kvs,_,h1,_,h3,_,l1,_,_,lm,_⟩:=sh
  exact⟨dx,pn,fs,h1,h3,l1,lm _ (by simp),lm _ (by simp)⟩
 refine⟨_,rfl,x,A0,dx,fs,_,rfl,h1,T.cl,T.n_names,ln,_,rfl,pn,nm,z,rfl,.inr (SqT.of h3),hz,?_⟩
 refine⟨_,rfl,x,dx,fs,rfl,h1,lh,x,fp,nm,r,_,had,rfl,sh,fun l H1 s1 e1=>?_⟩
 refine⟨l,_,rfl,SqT.of e1,?_⟩
 have sh1:ShD K A0 H1 x fp nm r (fun n=>z0Z rows n r) had:=F6.same sh s1
 have L1:((z0b had).map V.int).length=(z0b had).length:=b7 _
 refine y67 (fun i σ H'=>∃(o1 o2:Option V),A4 H1 H'/\z0w (z0b had) rows z=z0w ((z0b had).take ((z0b had).length-i)) rows z/\σ=[some (.ref x),some (.str z),o1,o2])
  ⟨none,none,A4.refl _,by rw[jN,bR],rfl⟩ (fun i σ H' _ ⟨_,_,g,_⟩=>SqT.of (g _ _ e1)) (fun i y σ H' hy hp=>?_) (fun σ H' hp=>?_)
 ·obtain⟨o1,o2,g,eh,rfl⟩:=hp
  rw[<- List.map_reverse,bH] at hy
  obtain⟨n,hn,rfl⟩:=cJ.mp hy
  have hi:i<(z0b had).length:=by
   have:=(cH.mp hn).1
   rw[fS] at this
   exact this
  rw[j3 hi] at hn
  have et:(z0b had).take ((z0b had).length-i)=(z0b had).take ((z0b had).length-(i+1))++[n]:=by
   have e:(z0b had).length-i=((z0b had).length-(i+1))+1:=by omega
   rw[e]
   refine z0r ?_
   rw[show(z0b had).length-(i+1)=(z0b had).length-1-i by omega]
   exact hn
  have nh:n∈had:=(z0L.mp (bT hn)).2
  refine⟨_,rfl,x,dx,fs,rfl,g _ _ (s1 _ _ h1),lo,_,rfl,x,fp,nm,r,_,had,n,_,_,_,rfl,F6.same sh1 g,nh,rfl,fun v tv=>?_⟩
  obtain⟨a,us,rfl,ea,_,tu⟩:=z0h tv
  have ndw:=y7e gn R n
  refine⟨a,us,(z0D rows n).map kvR,rfl,.inr ea,z9r tu,?_,?_,fun d hd=>?_⟩
  ·rw[tu.length,b7]
   have:=y6j gn R n
   omega
  ·have e:((z0D rows n).map kvR).map (·.1)=((z0D rows n).map Prod.fst).map Sum.inr:=by rw[eJ,eJ];rfl
   rw[e,dF,dY]
   exact(dF.mp ndw).imp fun h e=>h (Sum.inr.inj e)
  refine⟨_,rfl,_,rfl,d,_,rfl,L0.k (k:=Sum.inr z) z02,_,rfl,?_⟩
  rw[y0f ndw]
  rw[et,z5W] at eh
  cases ev:C0 (z0D rows n) z with
  | none=>
   rw[ev] at eh
   exact C3 ⟨_,_,g.trans (z01 hd _),eh,rfl⟩
  | some v=>
   rw[ev] at eh
   refine O5 ⟨_,rfl,_,rfl,_,rfl,d,_,rfl,(show L0 _ d (kV (Sum.inr z)) (some (V.int v)) by rw[<- show H0 ((z0D rows n).map kvR) (Sum.inr z:Key)=some (V.int v) by rw[y0f ndw,ev];rfl];exact L0.k z02),(by show 2≤sizeLine;decide),fun q hq=>k _ _ (s1.trans (g.trans ((z01 hd _).trans (z01 hq _)))) ?_⟩
   rw[eh]
   exact z0x z02 (by show 2≤1000000;decide) (.cons (z0z _) (.cons (z0z _) .nil))
 ·obtain⟨o1,o2,g,eh,rfl⟩:=hp
  rw[L1,Nat.sub_self,d6] at eh
  refine⟨(by show 2≤sizeLine;decide),fun q hq=>k _ _ (s1.trans (g.trans (z01 hq _))) ?_⟩
  rw[eh]
  exact z0x z02 (by show 2≤1000000;decide) (.cons (z0z _) (.cons z8D .nil))
def z5I(Sh:ShP):Sp:=fun vs H Q _=>∃(x:Addr) (z:Str) (fp:List Addr) (nm:List Str) (r:Int) (rows:List Row) (had:List Int),vs=[.ref x,.str z]/\Sh H x fp nm r (fun n=>z0Z rows n r) had/\z∈nm/\E2 nm/\Rws nm rows/\rows.length≤60/\(∀n∈had,1≤n/\n≤rows.length)/\0≤r/\r≤10/\
 ∀(v:V) (H':Hp),A4 H H'->A5 H' (y2u (z0b had) rows r (z0N (z0w (z0b had) rows z)) z) v->Q v H'
theorem y0g{A0:Addr}(M:Bl mg)(T:C4 K mg A0)(F:Fun K "set_again" "set_again" z5r f fd)(B8:Cal P w K mg base 2 "held_for" z3a (z44 (ShD K A0)))
  (P7:Cal P w K mg base 3 "gaps_of" z8G (y19 (ShD K A0))):A7 P w K mg base CX0 4 f fd z4e (z5I (ShD K A0)):=by
 have nd:=z6V.nd
 refine F.ok z6V (fun vs H Q E h=>?_) (fun cdv A outer s H vs Q E hr h=>?_)
 ·obtain⟨x,z,fp,nm,r,rows,had,rfl,_⟩:=h
  rfl
 obtain⟨x,z,fp,nm,r,rows,had,rfl,sh,hz,gn,R,l60,hh,r0,r1,k⟩:=h
 refine⟨_,(z04 (z0n (i:=2) nd rfl (Or.inr rfl) (z0Q z0H (z0q B8 (rm hr) rfl (z00 (pv 0) (z00 (pv 1) z03))) z06 (fun _ _=>rfl))) (z05 (z0i (z0t z0s rfl M.tuple bL (z00 (z1f ["number","teller","names"] ["held_from","name"] [2,1] rfl (z0u rfl (by decide +kernel) rfl (by decide +kernel) rfl rfl) (z1W (z0q P7 (rm hr) rfl (z00 (pv 0) z03))) (fun _ _ _ _ _=>(z8J (K:=K) (n:=3) rfl rfl (z1B (z0j (i:=0) (show((["number","teller","names"]:List PySem.Str)++(["held_from","name"]:List PySem.Str)).Nodup from by decide +kernel) rfl (Or.inl rfl)) (z1B (z0j (i:=1) (show((["number","teller","names"]:List PySem.Str)++(["held_from","name"]:List PySem.Str)).Nodup from by decide +kernel) rfl (Or.inl rfl)) (z1B (z0j (i:=2) (show((["number","teller","names"]:List PySem.Str)++(["held_from","name"]:List PySem.Str)).Nodup from by decide +kernel) rfl (Or.inl rfl)) z5F))))) (z8I (z1R (z0y (by decide)) z0c (z1R (z0y (by decide)) z0c (z1R (z0y (by decide)) z0c z7G z16) (z0P z0c z16)) (z0P z0c (z0P z0c z16)))) (z6x (z0P z0c (z0P z0c (z0P z0c z16)))) (fun _ _ _ _ _=>(z21 (PW.pt (z4t (z09 z2E (pv 0) (pv 3) (z0m _)) (z2U (z09 (r:=rIn K false) z3d (pv 4) (pv 2) (by with_unfolding_all rfl))))))) (fun _ _ _ _ _=>(z0Y (z00 (pv 0) (z00 (pv 1) z03))))) z03))))),?_⟩
 refine⟨_,rfl,_,rfl,x,z,fp,nm,r,rows,had,rfl,sh,hz,gn,R,fun v H1 s1 tv=>?_⟩
 obtain⟨a,y,rfl,ea,_⟩:=z3n tv
 refine⟨a,_,_,_,rfl,rfl,SqT.of ea,z1m rfl,?_⟩
 have sh1:=F6.same sh s1
 refine⟨_,rfl,x,fp,nm,r,rows,had,rfl,sh1,gn,R,l60,hh,r0,r1,fun u H2 s2 tu=>?_⟩
 obtain⟨b,xs,rfl,eb,_,tb⟩:=z0h tu
 have lx:=z6P tb
 have ll:=z2d (z0b had)
 generalize z0N (z0w (z0b had) rows z)=num at *
 refine⟨b,rfl,⟨_,SqT.of eb⟩,?_⟩
 refine z1r (xs:=xs) (fun i ys H'=>A4 H2 H'/\z0a H' ((((z1a (z0b had)).take i).filter fun n=>decide (num<n) && decide (z∈z2j (z0b had) rows r n)).map fun n=>.tup [.int n,.int (z0M (z0b had) n r)]) ys) ⟨A4.refl _,.nil⟩ (fun i ys H' hi hp=>?_) (fun i y ys H' hy hp=>?_) (fun ys H' hp=>?_)
 ·obtain⟨g,t⟩:=hp
  refine⟨SqT.of (g _ _ eb),z0g ?_⟩
  rw[t.length,b7]
  have:=cM (fun n=>decide (num<n) && decide (z∈z2j (z0b had) rows r n)) ((z1a (z0b had)).take i)
  rw[bN] at this
  omega
 ·obtain⟨g,t⟩:=hp
  obtain⟨n,c,d,en,rfl,ec,ed⟩:=z6O tb hy
  refine⟨c,_,rfl,SqT.of (g _ _ ec),rfl,_,_,rfl,_,_,rfl,_,_,rfl,rfl,?_⟩
  rw[z0r en,dR,eX]
  refine⟨_,rfl,_,rfl,_,_,rfl,rfl,_,rfl,?_⟩
  have skip:¬(decide (num<n) && decide (z∈z2j (z0b had) rows r n))=true->A4 H2 H'/\z0a H' (((((z1a (z0b had)).take i).filter fun n=>decide (num<n) && decide (z∈z2j (z0b had) rows r n))++(if (decide (num<n) && decide (z∈z2j (z0b had) rows r n))=true then n::List.filter (fun n=>decide (num<n) && decide (z∈z2j (z0b had) rows r n)) [] else List.filter (fun n=>decide (num<n) && decide (z∈z2j (z0b had) rows r n)) [])).map fun n=>.tup [.int n,.int (z0M (z0b had) n r)]) ys:=fun c=>by
   rw[if_neg c,fZ,d7]
   exact⟨g,t⟩
  refine A9 (fun c=>?_) (fun c=>?_)
  ·refine⟨_,rfl,_,rfl,d,_,rfl,.inr (SqT.of (g _ _ ed)),rfl,z2I _,_,rfl,?_⟩
   rw[if_neg bF,z9Z]
   refine A9 (fun c2=>?_) (fun c2=>?_)
   ·refine⟨_,rfl,_,rfl,(by show 2≤sizeLine;decide),fun q hq=>⟨g.trans (z01 hq _),?_⟩⟩
    rw[if_pos (by rw[bQ];exact⟨c,c2⟩),fZ,bD]
    exact z0a.snoc (z0a.keep (z01 hq _) _ _ t) (z0x z02 (by show 2≤1000000;decide) (.cons (z0z _) (.cons (z0z _) .nil)))
   ·exact skip (by rw[bQ];exact fun z=>c2 z.2)
  ·exact skip (by rw[bQ];exact fun z=>c z.1)
 ·obtain⟨g,t⟩:=hp
  rw[lx,bR] at t
  intro D hD
  refine⟨D,ys,rfl,.inl ⟨SqL.of z02,fun q hq=>k _ _ (s1.trans (s2.trans (g.trans ((z01 hD _).trans (z01 hq _))))) (z0x z02 ?_ (z0a.keep ((z01 hD _).trans (z01 hq _)) _ _ t))⟩⟩
  rw[b7]
  exact cO (z8i (z0b had) rows r num z) (by decide)
theorem z56{ns:List Int}{r n:Int}:n∈z4H ns r↔n∈z1a ns/\z0M ns n r=0:=by
 unfold z4H P4
 rw[cF]
 constructor
 ·rintro⟨⟨a,b⟩,h,rfl⟩
  rw[bV,cF,decide_eq_true_eq] at h
  obtain⟨⟨m,hm,e⟩,h2⟩:=h
  cases e
  exact⟨hm,h2⟩
 ·rintro⟨h1,h2⟩
  refine⟨(n,z0M ns n r),?_,rfl⟩
  rw[bV,cF,decide_eq_true_eq]
  exact⟨⟨n,h1,rfl⟩,h2⟩
theorem z6i{ns:List Int}{r num:Int}:z1C ns r num=[]↔∀n∈z4H ns r,n≤num:=by
 unfold z1C
 rw[List.filter_eq_nil_iff]
 constructor
 ·intro h n hn
  obtain⟨h1,h2⟩:=z56.mp hn
  have:=h n h1
  rw[bQ,decide_eq_true_eq,decide_eq_true_eq] at this
  rcases jO num n with q|q
  ·exact absurd ⟨q,h2⟩ this
  ·exact q
 ·intro h n hn
  rw[bQ,decide_eq_true_eq,decide_eq_true_eq]
  rintro⟨h1,h2⟩
  have:=h n (z56.mpr ⟨hn,h2⟩)
  omega
theorem z6D{ns:List Int}{r num:Int}:z19 ns r num=[]↔z1C ns r num=[]:=by
 rw[z6i]
 unfold z19
 rw[List.filter_eq_nil_iff]
 exact⟨fun h n hn=>Int.not_lt.mp fun z=>h n hn (decide_eq_true z),fun h n hn z=>by have:=h n hn;have:=of_decide_eq_true z;omega⟩
def z7F(Sh:ShP):Sp:=fun vs H Q _=>∃(x:Addr) (z:Str) (fp:List Addr) (nm:List Str) (r:Int) (rows:List Row) (had:List Int),vs=[.ref x,.str z]/\Sh H x fp nm r (fun n=>z0Z rows n r) had/\z∈nm/\E2 nm/\Rws nm rows/\rows.length≤60/\(∀n∈had,1≤n/\n≤rows.length)/\0≤r/\r≤10/\
 ∀(H':Hp),A4 H H'->Q (.str (z0K (z0b had) rows r (z0N (z0w (z0b had) rows z)) z)) H'
theorem y27{A0:Addr}(M:Bl mg)(T:C4 K mg A0)(F:Fun K "state_of" "state_of" z7r f fd)(B8:Cal P w K mg base 2 "held_for" z3a (z44 (ShD K A0)))
  (E4:Cal P w K mg base 4 "set_again" z4e (z5I (ShD K A0))) (B1:D0 P w K mg base 1 A0 "had" z23 (z5T (ShD K A0)))
  (B5:Cal P w K mg base 4 "dark_numbers_behind" z18 (z8O K)):A7 P w K mg base CX0 5 f fd z5i (z7F (ShD K A0)):=by
 have nd:=z81.nd
 refine F.ok z81 (fun vs H Q E h=>?_) (fun cdv A outer s H vs Q E hr h=>?_)
 ·obtain⟨x,z,fp,nm,r,rows,had,rfl,_⟩:=h
  rfl
 obtain⟨x,z,fp,nm,r,rows,had,rfl,sh,hz,gn,R,l60,hh,r0,r1,k⟩:=h
 refine⟨_,(z04 (z0R (z09 z2E (z0d z0f rfl M.len bW (z00 (z0q E4 (rm hr) rfl (z00 (pv 0) (z00 (pv 1) z03))) z03)) z06 (z0m _)) (z05 (z0i (z29 rfl M.STALE))) z0p) (z04 (z0n (i:=2) nd rfl (Or.inl rfl) (z0Q z0H (z0q B8 (rm hr) rfl (z00 (pv 0) (z00 (pv 1) z03))) z06 (fun _ _=>rfl))) (z04 (z0n (i:=3) nd rfl (Or.inl rfl) (z0q B5 (rm hr) rfl (z00 (z2L B1 (rm hr) (pv 0)) (z00 (z0F (pv 0) rfl) (z00 (pv 2) z03))))) (z05 (z0i (z90 (z09 z2E (z0d z0f rfl M.len bW (z00 (pv 3) z03)) z06 (z0m _)) (z29 rfl M.OPEN) (z29 rfl M.SURE))))))),?_⟩
 refine⟨_,rfl,_,rfl,x,z,fp,nm,r,rows,had,rfl,sh,hz,gn,R,l60,hh,r0,r1,fun v H1 s1 tv=>?_⟩
 obtain⟨a,xs,rfl,ea,_,ta⟩:=z0h tv
 have lx:=ta.length
 rw[b7] at lx
 refine⟨a,xs,rfl,.inr (SqT.of ea),_,_,rfl,rfl,_,rfl,A9 (fun c=>?_) (fun c=>?_)⟩
 ·have c':=z0A c
  have e:=k H1 s1
  unfold z0K at e
  rw[if_pos (by omega)] at e
  exact e
 ·have c':=z3e c
  have sh1:=F6.same sh s1
  refine⟨_,rfl,_,rfl,x,z,fp,nm,r,rows,had,rfl,sh1,hz,gn,R,fun v H2 s2 tv=>?_⟩
  obtain⟨b,y,rfl,eb,_⟩:=z3n tv
  refine⟨b,_,_,_,rfl,rfl,SqT.of eb,z1m rfl,?_⟩
  have sh2:=F6.same sh1 s2
  obtain⟨dx,fs,h1,lm,lr⟩:∃dx fs,H2 x=some (.ins A0 dx fs)/\fs.lookup ("had":Str)=none/\fs.lookup ("reach":Str)=some (V.int r):=by
   obtain⟨dx,pn,pd,fs,kvs,_,h1,_,_,_,_,lr,_,lm,_⟩:=sh2
   exact⟨dx,fs,h1,lm _ (by simp),lr⟩
  have h60:∀n∈z0b had,1≤n/\n≤60:=fun n hn=>by have:=hh n (z0L.mp hn).2;omega
  refine⟨_,rfl,x,dx,fs,rfl,h1,lm,x,fp,nm,r,_,had,rfl,sh2,fun l H3 s3 e3=>?_⟩
  refine⟨_,rfl,x,A0,dx,fs,_,rfl,s3 _ _ h1,T.cl,T.n_reach,lr,_,rfl,l,z0b had,r,_,rfl,.inr (SqT.of e3),h60,cO (z2G had) (by decide),fun d H4 s4 e4=>?_⟩
  have e:=k H4 (s1.trans (s2.trans (s3.trans s4)))
  unfold z0K at e
  rw[if_neg (by omega)] at e
  refine⟨_,rfl,d,_,rfl,.inr (SqT.of e4),_,_,rfl,rfl,_,rfl,?_⟩
  rw[b7]
  refine A9 (fun c=>?_) (fun c=>?_)
  ·have c2:=z0A c
   rw[if_neg (fun z=>by rw[z6D.mpr z] at c2;exact absurd c2 (by decide))] at e
   exact e
  ·have c2:=z3e c
   rw[if_pos (z6D.mp (fU.mp (by omega)))] at e
   exact e
theorem y1l(had:List Int):z0b (z0b had)=z0b had:=z2a (z1j _) (z1j _) fun x=>by
 rw[z0L,z0L]
 exact⟨fun h=>h.2,fun h=>⟨h.1,h⟩⟩
def z7f(Sh:ShP):Sp:=fun vs H Q _=>∃(x:Addr) (z:Str) (fp:List Addr) (nm:List Str) (r:Int) (rows:List Row) (had:List Int),vs=[.ref x,.str z]/\Sh H x fp nm r (fun n=>z0Z rows n r) had/\z∈nm/\E2 nm/\Rws nm rows/\rows.length≤60/\(∀n∈had,1≤n/\n≤rows.length)/\0≤r/\r≤10/\
 ∀(q:Addr) (y:V) (H':Hp),A4 H H'->H' q=some (.tup [.str (z0K (z0b had) rows r (z0N (z0w (z0b had) rows z)) z),.int (z0N (z0w (z0b had) rows z)),y])->A5 H' (y2n (z0w (z0b had) rows z)) y->Q (.ref q) H'
theorem z9L{A0:Addr}(M:Bl mg)(F:Fun K "state_and_held" "state_and_held" z2H f fd)(B8:Cal P w K mg base 2 "held_for" z3a (z44 (ShD K A0)))
  (E3:Cal P w K mg base 5 "state_of" z5i (z7F (ShD K A0))):A7 P w K mg base CX0 6 f fd z2F (z7f (ShD K A0)):=by
 have nd:=z3F.nd
 refine F.ok z3F (fun vs H Q E h=>?_) (fun cdv A outer s H vs Q E hr h=>?_)
 ·obtain⟨x,z,fp,nm,r,rows,had,rfl,_⟩:=h
  rfl
 obtain⟨x,z,fp,nm,r,rows,had,rfl,sh,hz,gn,R,l60,hh,r0,r1,k⟩:=h
 refine⟨_,(z05 (z0i (z0v (y0G (K:=K) rfl) (z0Y (z00 (z0q E3 (rm hr) rfl (z00 (pv 0) (z00 (pv 1) z03))) z03)) (z0q B8 (rm hr) rfl (z00 (pv 0) (z00 (pv 1) z03)))))),?_⟩
 refine⟨_,rfl,_,rfl,x,z,fp,nm,r,rows,had,rfl,sh,hz,gn,R,l60,hh,r0,r1,fun H1 s1=>?_⟩
 refine⟨(by show 1≤sizeLine;decide),fun a ha=>?_⟩
 have g2:=s1.trans (z01 ha (.tup [.str (z0K (z0b had) rows r (z0N (z0w (z0b had) rows z)) z)]))
 have e2:upd H1 a (.tup [.str (z0K (z0b had) rows r (z0N (z0w (z0b had) rows z)) z)]) a=some (.tup [.str (z0K (z0b had) rows r (z0N (z0w (z0b had) rows z)) z)]):=z02
 generalize upd H1 a (.tup [.str (z0K (z0b had) rows r (z0N (z0w (z0b had) rows z)) z)])=H2 at g2 e2
 refine⟨_,rfl,_,rfl,x,z,fp,nm,r,rows,had,rfl,F6.same sh g2,hz,gn,R,fun v H3 s3 tv=>?_⟩
 obtain⟨b,y,rfl,eb,tb⟩:=z3n tv
 exact⟨a,b,_,_,rfl,rfl,SqT.of (s3 _ _ e2),SqT.of eb,by simp,(by show 3≤sizeLine;decide),fun z=>(nomatch z),fun _ q hq=>k q y _ (g2.trans (s3.trans (z01 hq _))) z02 (A5.keep (z01 hq _) _ _ tb)⟩
theorem y05{A0:Addr}(M:Bl mg)(T:C4 K mg A0)(F:Fun K "knowledge" "knowledge" z5t f fd)(E9:Cal P w K mg base 6 "state_and_held" z2F (z7f (ShD K A0))):A7 P w K mg base CX0 7 f fd z5B (y5e (ShD K A0)):=by
 have nd:=z75.nd
 refine F.ok z75 (fun vs H Q E h=>?_) (fun cdv A outer s H vs Q E hr h=>?_)
 ·obtain⟨x,fp,nm,r,rows,had,rfl,_⟩:=h
  rfl
 obtain⟨x,fp,nm,r,rows,had,rfl,sh,gn,R,l60,hh,r0,r1,k⟩:=h
 refine⟨_,(z05 (z0i (z0t z0s rfl M.tuple bL (z00 (z1f ["name"] ["shelf"] [0] rfl (z0u rfl (by decide +kernel) rfl (by decide +kernel) rfl rfl) (z1W (z0F (pv 0) rfl)) (fun _ _ _ _ _=>(z0j (i:=0) (show((["name"]:List PySem.Str)++(["shelf"]:List PySem.Str)).Nodup from by decide +kernel) rfl (Or.inl rfl))) (z0y (by decide)) z0c (fun _ _ _ _ _=>z26) (fun _ _ _ _ _=>(z0v (y0G (K:=K) rfl) (z0Y (z00 (pv 0) z03)) (z0q E9 (rm hr) rfl (z00 (pv 1) (z00 (pv 0) z03)))))) z03)))),?_⟩
 obtain⟨dx,pn,fs,h1,h3,ln⟩:∃dx pn fs,H x=some (.ins A0 dx fs)/\H pn=some (.tup (nm.map V.str))/\fs.lookup ("names":Str)=some (V.ref pn):=by
  obtain⟨dx,pn,pd,fs,kvs,_,h1,_,h3,_,l1,_⟩:=sh
  exact⟨dx,pn,fs,h1,h3,l1⟩
 have n12:=gn.hi
 refine⟨_,rfl,x,A0,dx,fs,_,rfl,h1,T.cl,T.n_names,ln,pn,rfl,⟨_,SqT.of h3⟩,?_⟩
 refine z1r (xs:=nm.map V.str) (fun i ys H'=>A4 H H'/\z0a H' ((nm.take i).map (R4 (z0b had) rows r)) ys) ⟨A4.refl _,by rw[d6];exact .nil⟩ (fun i ys H' hi hp=>?_) (fun i y ys H' hy hp=>?_) (fun ys H' hp=>?_)
 ·obtain⟨g,t⟩:=hp
  refine⟨SqT.of (g _ _ h3),z0g ?_⟩
  rw[t.length,b7,bN]
  omega
 ·obtain⟨g,t⟩:=hp
  rw[bH] at hy
  obtain⟨z,ez,rfl⟩:=cJ.mp hy
  have hz:=bT ez
  have sh1:=F6.same sh g
  refine⟨_,rfl,(by show 1≤sizeLine;decide),fun a ha=>?_⟩
  have g2:=z01 ha (.tup [.str z])
  have e2:upd H' a (.tup [.str z]) a=some (.tup [.str z]):=z02
  generalize upd H' a (.tup [.str z])=H2 at g2 e2
  refine⟨_,rfl,_,rfl,x,z,fp,nm,r,rows,had,rfl,F6.same sh1 g2,hz,gn,R,l60,hh,r0,r1,fun b y H3 s3 eb tb=>?_⟩
  refine⟨a,b,_,_,rfl,rfl,SqT.of (s3 _ _ e2),SqT.of eb,by simp,(by show 4≤sizeLine;decide),fun z=>(nomatch z),fun _ q hq=>⟨g.trans (g2.trans (s3.trans (z01 hq _))),?_⟩⟩
  rw[dX,ez,bD]
  refine z0a.snoc (z0a.keep (g2.trans (s3.trans (z01 hq _))) _ _ t) ?_
  unfold R4
  rw[y1l]
  exact z0x z02 (by show 4≤1000000;decide) (.cons (z1P _) (.cons (z1P _) (.cons (z0z _) (.cons (A5.keep (z01 hq _) _ _ tb) .nil))))
 ·obtain⟨g,t⟩:=hp
  rw[b7,bR] at t
  intro D hD
  refine⟨D,ys,rfl,.inl ⟨SqL.of z02,fun q hq=>k _ _ (g.trans ((z01 hD _).trans (z01 hq _))) (z0x z02 ?_ (z0a.keep ((z01 hD _).trans (z01 hq _)) _ _ t))⟩⟩
  rw[b7]
  omega
def orP(acc:Option (Int×Int))(n:Int)(v:Option Int):Option (Int×Int):=
 match acc with
 | some p=>some p
 | none=>v.map fun v=>(n,v)
theorem z88(n:Int)(ns:List Int)(rows:List Row)(z:Str):z0w (n::ns) rows z=orP (z0w ns rows z) n (C0 (z0D rows n) z):=by
 have go:∀(ns:List Int) (acc:Option (Int×Int)),ns.foldl (fun acc n=>match C0 (z0D rows n) z with|some v=>some (n,v)|none=>acc) acc=match ns.foldl (fun acc n=>match C0 (z0D rows n) z with|some v=>some (n,v)|none=>acc) none with|some p=>some p|none=>acc:=by
  intro ns
  induction ns with
  | nil=>intro acc;rfl
  | cons n r ih=>
   intro acc
   rw[cT,cT,ih,ih (match C0 (z0D rows n) z with|some v=>some (n,v)|none=>none)]
   cases r.foldl (fun acc n=>match C0 (z0D rows n) z with|some v=>some (n,v)|none=>acc) none with
   | some p=>rfl
   | none=>cases C0 (z0D rows n) z<;>rfl
 unfold z0w
 rw[cT]
 refine(go ns _).trans ?_
 cases C0 (z0D rows n) z<;>rfl
theorem y02{rows:List Row}{z:Str}{n v:Int}:∀{ns:List Int},z0w ns rows z=some (n,v)->n∈ns
 | [],h=>by cases h
 | m::ns,h=>by
  rw[z88] at h
  cases e:z0w ns rows z with
  | some p=>
   rw[e] at h
   have:p=(n,v):=Option.some.inj h
   rw[this] at e
   exact bM _ (y02 e)
  | none=>
   rw[e] at h
   cases e2:C0 (z0D rows m) z with
   | none=>rw[e2] at h;cases h
   | some x=>
    rw[e2] at h
    have:(m,x)=(n,v):=Option.some.inj h
    cases this
    exact bS
theorem y6a(m:Nat):(dnI (m:Int) m).reverse=upI 1 m:=by
 refine jG fun i=>?_
 have ld:(dnI (m:Int) m).length=m:=y0w _ _
 by_cases h:i<m
 ·rw[j3 (by rw[ld];exact h),ld]
  unfold dnI upI
  rw[bH,bH,fR (by omega),fR h]
  show some ((m:Int)-((m-1-i:Nat):Int))=some (1+(i:Int))
  exact congrArg some (by omega)
 ·rw[eF (by rw[fS,ld];omega),eF (by rw[z0T];omega)]
theorem y1R{w:Row}{z:Str}{j:Nat}{p:Str×Int}(nd:(w.map Prod.fst).Nodup)(h:w[j]? = some p)(e:p.1=z):C0 (w.take j) z=none:=by
 refine z9Q fun m=>?_
 have t:w.take (j+1)=w.take j++[p]:=z0r h
 have n2:((w.take (j+1)).map Prod.fst).Nodup:=((jF _ _).map _).nodup nd
 rw[t,bD,fF] at n2
 exact n2.2.2 z m z (by rw[cK,e];exact bS) rfl
def y5x(K:PySem.W.Frag):Sp:=fun vs H Q _=>∃(lr:Addr) (us:List V) (rows:List Row) (m:Nat) (z:Str),vs=[.ref lr,.int m,.str z]/\SqL K H lr us/\z0a H (rows.map L9) us/\m≤rows.length/\m≤1000/\(∀w∈rows,(w.map Prod.fst).Nodup)/\
 ∀(v:V) (H':Hp),A4 H H'->A5 H' (z9d (z0w (upI 1 m) rows z)) v->Q v H'
theorem y5a(M:Bl mg)(F:Fun K "_law_last" "_law_last" z5X f fd):A7 P w K mg base CX0 1 f fd z5M (y5x K):=by
 have nd:=z6Y.nd
 refine F.ok z6Y (fun vs H Q E h=>?_) (fun cdv A outer s H vs Q E hr h=>?_)
 ·obtain⟨lr,us,rows,m,z,rfl,_⟩:=h
  rfl
 obtain⟨lr,us,rows,m,z,rfl,hR,tl,hm,m1000,ndr,q⟩:=h
 refine⟨_,(z04 (z0n (i:=3) nd rfl (Or.inl rfl) (z0Y (z00 z06 (z00 z8p z03)))) (z04 (z1c cG rfl (y2t rfl M.range (z00 (pv 1) (z00 z06 (z00 (y2e z9h z06) z03)))) (z0j (i:=4) nd rfl (Or.inl rfl)) (z05 (z1c cG rfl (z1W (z0Q z1I (pv 0) (z0v z4m (pv 4) z06) (fun _ _=>rfl))) (z0j (i:=5) nd rfl (Or.inl rfl)) (z05 (z0R (PW.pt (z4t (z09 z2r (z0Q z0H (pv 5) z06 (fun _ _=>rfl)) (pv 2) (z0m _)) (z2U (z09 z2r (z0Q z0H (pv 3) z06 (fun _ _=>rfl)) z06 (z0m _))))) (z05 (z0n (i:=3) nd rfl (Or.inl rfl) (z0Y (z00 (pv 4) (z00 (z0Q z0H (pv 5) z06 (fun _ _=>rfl)) z03))))) z0p))))) (z05 (z0i (pv 3))))),?_⟩
 refine⟨(by show 2≤sizeLine;decide),fun t0 ht0=>?_⟩
 have s1:=z01 ht0 (.tup [V.int 0,V.non])
 have e1:upd H t0 (.tup [V.int 0,V.non]) t0=some (.tup [V.int 0,V.non]):=z02
 generalize upd H t0 (.tup [V.int 0,V.non])=H1 at s1 e1
 refine⟨_,rfl,_,rfl,(m:Int),0,rfl,⟨by omega,by omega,by decide,by decide⟩,?_⟩
 have e0:((m:Int)-0).toNat=m:=by omega
 rw[e0]
 refine y4Y (hi:=(m:Int)) (n:=m) (fun j σ H'=>∃(hv:V) (o1 o2:Option V),A4 H1 H'/\A5 H' (z9d (z0w (dnI m j).reverse rows z)) hv/\σ=[some (.ref lr),some (.int m),some (.str z),some hv,o1,o2])
  ⟨.ref t0,none,none,A4.refl _,z0x e1 (by show 2≤1000000;decide) (.cons (z0z 0) (.cons z8D .nil)),rfl⟩ (fun j σ H' hj hp=>?_) (fun σ H' hp=>?_)
 ·obtain⟨hv,o1,o2,g,th,rfl⟩:=hp
  have hn1:1≤(m:Int)-(j:Int):=by omega
  have er:(dnI (m:Int) (j+1)).reverse=((m:Int)-(j:Int))::(dnI m j).reverse:=by rw[y4p,List.reverse_append];rfl
  have pos:∀n v,z0w (dnI (m:Int) j).reverse rows z=some (n,v)->1≤n:=fun n v e=>by
   have:=z7D.mp (gJ.mp (y02 e))
   omega
  have st:z0w (dnI (m:Int) (j+1)).reverse rows z=orP (z0w (dnI (m:Int) j).reverse rows z) ((m:Int)-(j:Int)) (C0 (z0D rows ((m:Int)-(j:Int))) z):=by rw[er,z88]
  have hnm:(m:Int)-(j:Int)≤rows.length:=by omega
  generalize z0w (dnI (m:Int) j).reverse rows z=acc at th pos st
  generalize (m:Int)-(j:Int)=n at hn1 hnm st
  obtain⟨v,_,av,tv⟩:=z6S (z0a.keep (s1.trans g) _ _ tl) (k:=n) hn1 hnm
  obtain⟨ar,xs,rfl,er',_,tp⟩:=z0h tv
  have lw:xs.length=(z0D rows n).length:=by rw[tp.length,b7]
  have ndw:((z0D rows n).map Prod.fst).Nodup:=by
   have hk:(n-1).toNat<rows.length:=by omega
   have:z0D rows n=rows[(n-1).toNat]:=by
    unfold z0D
    rw[bP,bG hk]
    rfl
   rw[this]
   exact ndr _ (fM hk)
  refine⟨_,rfl,_,rfl,_,_,rfl,rfl,lr,us,_,_,rfl,rfl,(s1.trans g).seq hR,av,ar,rfl,⟨_,SqT.of er'⟩,?_⟩
  refine z7a (K:=K) (a:=ar) (xs:=xs) (fun i σ H2'=>∃(hv:V) (o2:Option V),A4 H' H2'/\A5 H2' (z9d (orP acc n (C0 ((z0D rows n).take i) z))) hv/\
    σ=[some (.ref lr),some (.int m),some (.str z),some hv,some (.int n),o2]) ⟨hv,o2,A4.refl _,by cases acc<;>exact th,rfl⟩ (fun j σ H2' _ ⟨_,_,g2,_⟩=>SqT.of (g2 _ _ er')) ?_ ?_
  ·rintro i y σ H2' hy ⟨hv2,o3,g2,th2,rfl⟩
   obtain⟨pq,b,e1',rfl,e2'⟩:=z3z tp i y hy
   have sb:SqT K H2' b [V.str pq.1,V.int pq.2]:=SqT.of (g2 _ _ e2')
   have tk:(z0D rows n).take (i+1)=(z0D rows n).take i++[pq]:=z0r e1'
   obtain⟨ah,yh,rfl,eh,_⟩:=z3n th2
   refine⟨_,rfl,b,_,0,_,rfl,rfl,sb,rfl,_,rfl,rfl,_,rfl,?_⟩
   refine A9 (fun c=>?_) (fun c=>?_)
   ·have c':pq.1=z:=by
     have:=z0A c
     injection this
    refine⟨_,rfl,ah,_,0,_,rfl,rfl,SqT.of eh,rfl,rfl,_,rfl,A9 (fun c2=>?_) (fun c2=>?_)⟩
    ·have c2':z0N (orP acc n (C0 ((z0D rows n).take i) z))=0:=by
      have:=z0A c2
      injection this
     refine⟨_,rfl,_,rfl,b,_,1,_,rfl,rfl,sb,rfl,(by show 2≤sizeLine;decide),fun t ht=>?_⟩
     refine⟨.ref t,_,g2.trans (z01 ht _),?_,rfl⟩
     cases acc with
     | some p=>
      have:=pos p.1 p.2 rfl
      have:p.1=0:=c2'
      omega
     | none=>
      rw[tk,z5b,if_pos c']
      exact z0x z02 (by show 2≤1000000;decide) (.cons (z0z _) (.cons (z0z _) .nil))
    ·refine⟨.ref ah,_,g2,?_,rfl⟩
     cases acc with
     | some p=>exact th2
     | none=>
      refine absurd ?_ (z3e c2)
      rw[y1R ndw e1' c']
      rfl
   ·have c':¬pq.1=z:=fun e=>z3e c (by rw[e])
    refine C3 ⟨.ref ah,_,g2,?_,rfl⟩
    rw[tk,z5b,if_neg c']
    exact th2
  ·rintro σ H2' ⟨hv2,o3,g2,th2,rfl⟩
   rw[lw,bR,<- st] at th2
   exact⟨hv2,_,_,g.trans g2,th2,rfl⟩
 ·obtain⟨hv,o1,o2,g,th,rfl⟩:=hp
  rw[y6a] at th
  exact⟨_,rfl,q hv H' (s1.trans g) th⟩
def wrN(log:List B7):Nat:=(log.filter fun d=>d.1.isNone).length
theorem y4S(log:List B7)(d:B7):wrN (log++[d])=wrN log+(if d.1.isNone then 1 else 0):=by
 unfold wrN
 rw[dR,bI,eX]
 split<;>rfl
def y7b(k:Int)(log:List B7)(d:B7):Prop:=match d with
 | (none,n)=>n=(wrN log:Int)+1/\wrN log<60
 | (some rd,n)=>1≤rd/\rd≤k/\1≤n/\n≤(wrN log:Int)
def w0T(k:Int)(log:List B7):Prop:=∀i d,log[i]? = some d->y7b k (log.take i) d
theorem wr60{k:Int}{log:List B7}(h:w0T k log):∀i,wrN (log.take i)≤60
 | 0=>cQ _
 | i+1=>by
  have ih:=wr60 h i
  cases e:log[i]? with
  | none=>
   rw[dX,e]
   simpa using ih
  | some d=>
   have ok:=h i d e
   rw[z0r e,y4S]
   obtain⟨a,n⟩:=d
   cases a with
   | none=>
    have:wrN (log.take i)<60:=ok.2
    show wrN (log.take i)+1≤60
    omega
   | some rd=>exact ih
def y6P:B7->DV
 | (none,n)=>.tup [.str "write",.int n]
 | (some r,n)=>.tup [.str "deliver",.int r,.int n]
theorem y3B{H:Hp}{u:V}{d:B7}(h:z4o H u d):A5 H (y6P d) u:=by
 obtain⟨b,rfl,e⟩:=h
 obtain⟨a,n⟩:=d
 cases a with
 | none=>exact z0x e (by show 2≤1000000;decide) (.cons (z1P _) (.cons (z0z _) .nil))
 | some r=>exact z0x e (by show 3≤1000000;decide) (.cons (z1P _) (.cons (z0z _) (.cons (z0z _) .nil)))
theorem y2a{H:Hp}:∀{us:List V}{log:List B7},Paired (z4o H) us log->∀(i:Nat) (d:B7),log[i]? = some d->∃u,us[i]? = some u/\z4o H u d:=by
 intro us log h
 induction h with
 | nil=>intro i d e;simp at e
 | cons h t ih=>
  intro i d e
  cases i with
  | zero=>
   simp at e
   subst e
   exact⟨_,rfl,h⟩
  | succ i=>
   obtain⟨u,q1,q2⟩:=ih i d (by simpa using e)
   exact⟨u,by simpa using q1,q2⟩
def y1M(Bk:BkP):Sp:=fun vs H Q _=>∃(p:Addr) (fp:List Addr) (zs:List Str) (r k:Int) (rows:List Row) (log:List B7),vs=[.ref p]/\Bk H p fp zs r k rows log/\∀H',A4 H H'->Q (.int rows.length) H'
def y3b(Bk:BkP):Sp:=fun vs H Q _=>∃(p:Addr) (fp:List Addr) (zs:List Str) (r k:Int) (rows:List Row) (log:List B7) (n:Int),vs=[.ref p,.int n]/\Bk H p fp zs r k rows log/\1≤n/\n≤rows.length/\
 ∀(v:V) (H':Hp),A4 H H'->A5 H' (z0Z rows n r) v->Q v H'
def y4B(Bk:BkP):Sp:=fun vs H Q _=>∃(p:Addr) (fp:List Addr) (zs:List Str) (r k:Int) (rows:List Row) (log:List B7) (i:Nat) (d:B7),vs=[.ref p,.int ((i:Int)+1)]/\Bk H p fp zs r k rows log/\log[i]? = some d/\
 ∀v,A5 H (y6P d) v->Q v H
theorem y0b{A3 A1:Addr}(M:Bl mg)(T:F3 K mg A3)(F:Fun K "latest" "Book.latest" z3L f fd)(F8:D0 P w K mg base 1 A1 "latest" z2W (z8h (OfD K A1))):A7 P w K mg base CX0 2 f fd z64 (y1M (BkD K A3 A1)):=by
 have nd:=z58.nd
 refine F.ok z58 (fun vs H Q E h=>?_) (fun cdv A outer s H vs Q E hr h=>?_)
 ·obtain⟨p,fp,zs,r,k,rows,log,rfl,_⟩:=h
  rfl
 obtain⟨p,fp,zs,r,k,rows,log,rfl,⟨dx,po,pd,fs,fo,us,rfl,B⟩,q⟩:=h
 refine⟨_,(z05 (z0i (z2L F8 (rm hr) (z0F (pv 0) rfl)))),?_⟩
 obtain⟨dxo,pno,plo,fso,xso,efo,h1,h2,h3,h4,l1,l2,l3,lmo,_⟩:=id B.of
 exact⟨_,rfl,p,A3,dx,fs,_,rfl,B.hp,T.cl,T.n_office,B.lo,po,dxo,fso,rfl,h1,lmo _ (by simp),po,fo,zs,r,rows,rfl,B.of,q⟩
theorem y1m{A3 A1:Addr}(M:Bl mg)(T:F3 K mg A3)(F:Fun K "issue" "Book.issue" z4A f fd)(B6:D0 P w K mg base 1 A1 "issue" z1O (z59 (OfD K A1))):A7 P w K mg base CX0 2 f fd z77 (y3b (BkD K A3 A1)):=by
 have nd:=z6f.nd
 refine F.ok z6f (fun vs H Q E h=>?_) (fun cdv A outer s H vs Q E hr h=>?_)
 ·obtain⟨p,fp,zs,r,k,rows,log,n,rfl,_⟩:=h
  rfl
 obtain⟨p,fp,zs,r,k,rows,log,n,rfl,⟨dx,po,pd,fs,fo,us,rfl,B⟩,n1,n2,q⟩:=h
 refine⟨_,(z05 (z0i (z1Q B6 (rm hr) (z0F (pv 0) rfl) (z00 (pv 1) z03)))),?_⟩
 obtain⟨dxo,pno,plo,fso,xso,efo,h1,h2,h3,h4,l1,l2,l3,lmo,_⟩:=id B.of
 exact⟨_,rfl,p,A3,dx,fs,_,rfl,B.hp,T.cl,T.n_office,B.lo,po,dxo,fso,rfl,h1,lmo _ (by simp),_,rfl,po,fo,zs,r,rows,n,rfl,B.of,n1,n2,q⟩
theorem y2R{A3 A1:Addr}(M:Bl mg)(T:F3 K mg A3)(F:Fun K "deed" "Book.deed" z60 f fd):A7 P w K mg base CX0 1 f fd z8e (y4B (BkD K A3 A1)):=by
 have nd:=z74.nd
 refine F.ok z74 (fun vs H Q E h=>?_) (fun cdv A outer s H vs Q E hr h=>?_)
 ·obtain⟨p,fp,zs,r,k,rows,log,i,d,rfl,_⟩:=h
  rfl
 obtain⟨p,fp,zs,r,k,rows,log,i,d,rfl,⟨dx,po,pd,fs,fo,us,rfl,B⟩,ed,q⟩:=h
 refine⟨_,(z04 (z0R (PW.pt (z38 (z09 z7V (pv 1) z06 (z0m _)) (z2s (z09 z2E (pv 1) (z0d z0f rfl M.len bW (z00 (z0F (pv 0) rfl) z03)) (z0m _))))) (z05 z1q) z0p) (z05 (z0i (z0Q z1I (z0F (pv 0) rfl) (z0v z4m (pv 1) z06) (fun _ _=>rfl))))),?_⟩
 have lu:=z3i B.ds
 have hi:=(cH.mp ed).1
 obtain⟨u,eu,du⟩:=y2a B.ds i d ed
 have av:atI us ((i:Int)+1-1)=some u:=by
  rw[Int.add_sub_cancel]
  exact z1m eu
 refine⟨_,rfl,_,_,rfl,rfl,_,rfl,A9 (fun q=>absurd (z0A q) (by omega)) fun _=>?_⟩
 refine⟨_,rfl,_,rfl,p,A3,dx,fs,_,rfl,B.hp,T.cl,T.n_done,B.ld,pd,us,rfl,.inl (SqL.of B.hd),_,_,rfl,rfl,_,rfl,A9 (fun q=>absurd (z0A q) (by omega)) fun _=>?_⟩
 exact⟨_,rfl,p,A3,dx,fs,_,rfl,B.hp,T.cl,T.n_done,B.ld,_,rfl,_,_,rfl,rfl,pd,us,_,u,rfl,rfl,SqL.of B.hd,av,q u (y3B du)⟩
def y52(K:PySem.W.Frag):Sp:=fun vs H Q _=>∃(a:Addr) (ns:List Int),vs=[.ref a]/\SqL K H a (ns.map V.int)/\ns.length≤63/\∀H',Q (.bl true) H'
theorem y5k{nm:List Str}{rows:List Row}(R:Rws nm rows)(h:nm.length≤12):∀w∈rows,w.length≤12:=fun w hw=>by
 have:=(R.sub w hw).length_le
 rw[b7] at this
 omega
theorem z8l{α:Type}[DecidableEq α]:∀{l1 l2:List α},l1.Nodup->(∀x∈l1,x∈l2)->l1.length≤l2.length
 | [],l2,_,_=>cQ _
 | x::r,l2,nd,sub=>by
  rw[cW] at nd
  have hx:=sub x bS
  have:=z8l (l1:=r) (l2:=l2.erase x) nd.2 fun y hy=>(j9 (show y≠x from fun e=>nd.1 (e ▸ hy))).mpr (sub y (bM _ hy))
  have hl:=gQ hx
  have hp:0<l2.length:=List.length_pos_of_mem hx
  rw[cC]
  omega
theorem y3v{qs:List Int}(h:∀n∈qs,1≤n/\n≤60):(C7 qs).length<64:=by
 have h1:=z8l (z5w qs) (l2:=z0b qs) fun n hn=>z0L.mpr ⟨by have:=h n (z2u.mp hn);omega,z2u.mp hn⟩
 have h2:=z2G qs
 omega
theorem z6H{qs ms:List Int}(h:∀n∈qs,1≤n/\n≤60)(pm:ms.Perm (C7 qs))(pw:ms.Pairwise (·≤·)):ms=z0b qs:=by
 rw[y0e (z5w qs) (fun n hn=>h n (z2u.mp hn)) pm pw]
 exact y1O fun n=>z2u
theorem z1i{rows:List Row}{z:Str}:∀(ns:List Int),ns.Pairwise (· < ·)->(z0w ns rows z=none/\∀n∈ns,C0 (z0D rows n) z=none)\/∃n v,z0w ns rows z=some (n,v)/\n∈ns/\C0 (z0D rows n) z=some v/\∀m∈ns,n<m->C0 (z0D rows m) z=none:=by
 intro ns
 have rev:∀(l:List Int),l.reverse.Pairwise (· < ·)->(z0w l.reverse rows z=none/\∀n∈l.reverse,C0 (z0D rows n) z=none)\/∃n v,z0w l.reverse rows z=some (n,v)/\n∈l.reverse/\C0 (z0D rows n) z=some v/\∀m∈l.reverse,n<m->C0 (z0D rows m) z=none:=by
  intro l
  induction l with
  | nil=>intro _;exact .inl ⟨rfl,fun _ h=>(nomatch h)⟩
  | cons x l ih=>
   intro p
   rw[List.reverse_cons] at p ⊢
   obtain⟨p1,_,p2⟩:=dO.mp p
   rw[z5W]
   cases ev:C0 (z0D rows x) z with
   | some v=>
    refine .inr ⟨x,v,rfl,bY _ (b9.mpr rfl),ev,fun m hm h=>?_⟩
    rcases bO.mp hm with hm|hm
    ·have:=p2 m hm x (b9.mpr rfl)
     omega
    ·have:=b9.mp hm
     omega
   | none=>
    rcases ih p1 with ⟨h1,h2⟩|⟨n,v,h1,h2,h3,h4⟩
    ·refine .inl ⟨h1,fun n hn=>?_⟩
     rcases bO.mp hn with hn|hn
     ·exact h2 n hn
     ·rw[b9.mp hn]
      exact ev
    ·refine .inr ⟨n,v,h1,cX _ h2,h3,fun m hm h=>?_⟩
     rcases bO.mp hm with hm|hm
     ·exact h4 m hm h
     ·rw[b9.mp hm]
      exact ev
 intro h
 have:=rev ns.reverse
 rw[gK] at this
 exact this h
theorem y4o{w:Row}{z:Str}(h:C0 w z≠none):z∈z1N w:=by
 refine cZ fun hz=>h ?_
 have go:∀(w:Row),z∉z1N w->w.foldl (fun acc p=>if p.1=z then some p.2 else acc) none=none:=by
  intro w
  induction w with
  | nil=>intro _;rfl
  | cons p w ih=>
   intro hz
   unfold z1N at hz
   rw[cK,bA,not_or] at hz
   rw[cT,if_neg (fun e=>hz.1 e.symm)]
   exact ih hz.2
 exact go w hz
theorem y4l{w:Row}{z:Str}(h:z∈z1N w):∃v,C0 w z=some v:=by
 cases e:C0 w z with
 | some v=>exact⟨v,rfl⟩
 | none=>
  refine absurd h ?_
  have go:∀(w:Row),C0 w z=none->z∉z1N w:=by
   intro w
   induction w with
   | nil=>intro _ h;exact(nomatch h)
   | cons p w ih=>
    intro hz
    rw[z6E] at hz
    unfold z1N
    rw[cK,bA,not_or]
    cases e2:C0 w z with
    | some v=>rw[e2] at hz;cases hz
    | none=>
     rw[e2] at hz
     refine⟨fun e3=>?_,ih e2⟩
     have hz':(if p.1=z then some p.2 else none)=none:=hz
     rw[if_pos e3.symm] at hz'
     cases hz'
  exact go w e
def z9T(had:List Int)(m:Nat):Prop:=((m:Int)∈had\/(had=[]/\m=0))/\∀y∈had,y≤(m:Int)
theorem z9T.le{a:List Int}{m:Nat}{k:Int}(h:z9T a m)(hk:0≤k)(ha:∀x∈a,x≤k):(m:Int)≤k:=by
 rcases h.1 with q|⟨_,q⟩
 ·exact ha _ q
 ·omega
theorem y78(hs:List Int)(h:∀x∈hs,1≤x/\x≤60):∃m:Nat,z9T hs m:=by
 induction hs with
 | nil=>exact⟨0,.inr ⟨rfl,rfl⟩,fun _ q=>(nomatch q)⟩
 | cons x xs ih=>
  obtain⟨m,t⟩:=ih fun y hy=>h y (bM _ hy)
  have hx:=h x bS
  by_cases c:(m:Int)≤x
  ·refine⟨x.toNat,.inl ?_,fun y hy=>?_⟩
   ·rw[show((x.toNat:Nat):Int)=x by omega]
    exact bS
   ·rcases bA.mp hy with rfl|hy
    ·omega
    ·have:=t.2 y hy
     omega
  ·refine⟨m,.inl ?_,fun y hy=>?_⟩
   ·rcases t.1 with q|⟨_,q⟩
    ·exact bM _ q
    ·omega
   ·rcases bA.mp hy with rfl|hy
    ·omega
    ·exact t.2 y hy
theorem z95(ns:List Int)(r:Int):z4H ns r=(z1a ns).filter fun n=>decide (z0M ns n r=0):=by
 unfold z4H P4
 rw[List.filter_map,eJ]
 exact List.map_id _
structure M4(ns:List Int)(r b:Int)(fs as:List Int):Prop where
 len:fs.length=as.length
 fr:fs.Pairwise (· < ·)
 ar:as.Pairwise fun x y=>x+r<y
 lack:∀x∈fs,x∈z1a ns
 cov:∀d∈z19 ns r b,∃x∈fs,d≤x/\x≤d+r
 mem:∀a∈as,a∈z19 ns r b
def y5u(H:Hp)(v:V)(ns:List Int)(r b:Int):Prop:=∃(l lf la:Addr) (fs as:List Int),v=.ref l/\H l=some (.tup [.ref lf,.ref la])/\H lf=some (.tup (fs.map V.int))/\H la=some (.tup (as.map V.int))/\M4 ns r b fs as
def y12(K:PySem.W.Frag):Sp:=fun vs H Q _=>∃(p:Addr) (ns:List Int) (r b:Int),vs=[.ref p,.int r,.int b]/\SqI K H p ns/\(∀x∈ns,1≤x/\x≤60)/\ns.length≤900/\0≤r/\
 ∀(v:V) (H':Hp),A4 H H'->y5u H' v ns r b->Q v H'
theorem z5S{ns:List Int}{n r:Int}(B4:∀x∈ns,1≤x/\x≤60)(h:z0M ns n r=0):∀y∈ns,n<y->¬y-r≤n:=fun y hy h1 h2=>by
 unfold z0M at h
 cases e:(upI 1 60).find? (y0u ns n r) with
 | none=>exact gS.mp e y (z11.mpr (by have:=B4 y hy;omega)) (z3U.mpr ⟨h1,h2,hy⟩)
 | some t=>
  rw[e] at h
  have:=z11.mp (fJ e)
  have h':t=0:=h
  omega
theorem y1D{ns:List Int}{r n:Int}:n∈z4H ns r↔n∈z1a ns/\z0M ns n r=0:=by
 rw[z95,bV,decide_eq_true_eq]
theorem y3o{ns:List Int}{r n:Int}(B4:∀x∈ns,1≤x/\x≤60)(r0:0≤r)(h:n∈z4H ns r):n+r∈z1a ns:=by
 obtain⟨h1,h2⟩:=y1D.mp h
 have z:=z5S B4 h2
 obtain⟨a,b,y,hy,c⟩:=z0U.mp h1
 have:=B4 y hy
 have:=z y hy c
 refine z0U.mpr ⟨by omega,fun hn=>?_,y,hy,by omega⟩
 rcases jO n (n+r) with q|q
 ·exact z _ hn q (by omega)
 ·have e:n+r=n:=by omega
  rw[e] at hn
  exact b hn
structure Gr(ds:List Int)(r:Int)(as:List Int):Prop where
 ar:as.Pairwise fun x y=>x+r<y
 mem:∀a∈as,a∈ds
 cov:∀d∈ds,∃a∈as,a≤d/\d≤a+r
theorem Gr.add{ds:List Int}{r d:Int}{as:List Int}(g:Gr ds r as)(h:∀a∈as,a+r<d)(r0:0≤r):Gr (ds++[d]) r (as++[d]) where
 ar:=dO.mpr ⟨g.ar,fT _ _,fun x hx y hy=>by rw[b9.mp hy];exact h x hx⟩
 mem a ha:=by
  rcases bO.mp ha with ha|ha
  ·exact cX _ (g.mem a ha)
  ·exact bY _ ha
 cov x hx:=by
  rcases bO.mp hx with hx|hx
  ·obtain⟨a,ha,q⟩:=g.cov x hx
   exact⟨a,cX _ ha,q⟩
  ·rw[b9.mp hx]
   exact⟨d,bY _ (b9.mpr rfl),dU _,by omega⟩
theorem Gr.skip{ds:List Int}{r d a:Int}{as:List Int}(g:Gr ds r as)(ha:a∈as)(h1:a≤d)(h2:d≤a+r):Gr (ds++[d]) r as where
 ar:=g.ar
 mem a ha:=cX _ (g.mem a ha)
 cov x hx:=by
  rcases bO.mp hx with hx|hx
  ·exact g.cov x hx
  ·rw[b9.mp hx]
   exact⟨a,ha,h1,h2⟩
theorem Gr.plan{ns:List Int}{r b:Int}{as:List Int}(g:Gr (z19 ns r b) r as)(B4:∀x∈ns,1≤x/\x≤60)(r0:0≤r):M4 ns r b (as.map (·+r)) as where
 len:=b7 _
 fr:=by
  rw[dY]
  exact g.ar.imp fun h=>by omega
 ar:=g.ar
 lack x hx:=by
  obtain⟨a,ha,rfl⟩:=cF.mp hx
  exact y3o B4 r0 (bV.mp (g.mem a ha)).1
 cov d hd:=by
  obtain⟨a,ha,h1,h2⟩:=g.cov d hd
  exact⟨a+r,cF.mpr ⟨a,ha,rfl⟩,h2,by omega⟩
 mem:=g.mem
theorem y1x{as:List Int}(h:as≠[]):∃(init:List Int) (z:Int),as=init++[z]:=⟨as.dropLast,as.getLast h,(eV h).symm⟩
theorem y2Y(M:Bl mg)(F:Fun K "fewest_numbers" "fewest_numbers" z2A f fd)(B5:Cal P w K mg base 4 "dark_numbers_behind" z18 (z8O K)):A7 P w K mg base CX0 5 f fd z2C (y12 K):=by
 have nd:=z3B.nd
 refine F.ok z3B (fun vs H Q E h=>?_) (fun cdv A outer s H vs Q E hr h=>?_)
 ·obtain⟨p,ns,r,b,rfl,_⟩:=h
  rfl
 obtain⟨p,ns,r,b,rfl,hS,B4,hlen,r0,q⟩:=h
 refine⟨_,(z04 (z0n (i:=3) nd rfl (Or.inl rfl) (z1t z03)) (z04 (z0n (i:=4) nd rfl (Or.inl rfl) (z1t z03)) (z04 (z1c cG rfl (z1W (z0q B5 (rm hr) rfl (z00 (pv 0) (z00 (pv 1) (z00 (pv 2) z03))))) (z0j (i:=5) nd rfl (Or.inl rfl)) (z05 (z0R (PW.pt (z38 (z09 z2r (z0d z0f rfl M.len bW (z00 (pv 3) z03)) z06 (z0m _)) (z2s (z09 z2E (pv 5) (z0Q z1I (pv 3) (y2e z9h z06) (fun _ _=>rfl)) (z0m _))))) (z04 (z0B (z3I cE bX cD z0O (pv 3) (z00 (z0v z1M (pv 5) (pv 1)) z03))) (z05 (z0B (z3I cE bX cD z0O (pv 4) (z00 (pv 5) z03))))) z0p))) (z05 (z0i (z0Y (z00 (z0t z0s rfl M.tuple bL (z00 (pv 3) z03)) (z00 (z0t z0s rfl M.tuple bL (z00 (pv 4) z03)) z03)))))))),?_⟩
 refine⟨(by show 0≤sizeLine;decide),fun lf hlf=>⟨(by show 0≤sizeLine;decide),fun la hla=>?_⟩⟩
 have s1:=(z01 hlf (.lst [])).trans (z01 hla (.lst []))
 have ef:upd (upd H lf (.lst [])) la (.lst []) lf=some (.lst []):=z01 hla _ _ _ z02
 have ea:upd (upd H lf (.lst [])) la (.lst []) la=some (.lst []):=z02
 have nfa:lf≠la:=z0l z02 hla
 have hla':H la=none:=(z01 hlf _).free hla
 generalize upd (upd H lf (.lst [])) la (.lst [])=H1 at s1 ef ea
 refine⟨_,rfl,_,rfl,_,rfl,p,ns,r,b,rfl,SqI.keep s1 hS,B4,hlen,fun lt H2 s2 e2=>?_⟩
 have ld:(z19 ns r b).length≤60:=cO (cM _ _) (z9P ns r)
 have rise:(z19 ns r b).Pairwise (· < ·):=by
  unfold z19
  rw[z95]
  exact((z4b ns).filter _).filter _
 refine⟨lt,rfl,⟨_,SqT.of e2⟩,z7a (K:=K) (a:=lt) (xs:=(z19 ns r b).map V.int) (fun i σ H'=>∃(as:List Int) (o:Option V),A4 H H'/\H' lt=some (.tup ((z19 ns r b).map V.int))/\H' lf=some (.lst ((as.map (·+r)).map V.int))/\H' la=some (.lst (as.map V.int))/\as.length≤i/\Gr ((z19 ns r b).take i) r as/\
  σ=[some (.ref p),some (.int r),some (.int b),some (.ref lf),some (.ref la),o]) ⟨[],none,s1.trans s2,e2,s2 _ _ ef,s2 _ _ ea,bB 0,⟨.nil,fun _ h=>(nomatch h),fun _ h=>(nomatch h)⟩,rfl⟩ (fun i σ H' _ hp=>?_) (fun i x σ H' hx hp=>?_) (fun σ H' hp=>?_)⟩
 ·obtain⟨as,o,g,e,_⟩:=hp
  exact SqT.of e
 ·obtain⟨as,o,g,e,e3,e4,li,G,rfl⟩:=hp
  rw[bH] at hx
  obtain⟨d,ed,rfl⟩:=cJ.mp hx
  have hi:i<(z19 ns r b).length:=(cH.mp ed).1
  have lm1:((as.map (·+r)).map V.int).length=as.length:=by rw[b7,b7]
  have lm2:(as.map V.int).length=as.length:=b7 _
  have up:(∀a∈as,a+r<d)->∃(as':List Int) (o:Option V),A4 H (upd (upd H' lf (.lst ((as.map (·+r)).map V.int++[V.int (d+r)]))) la (.lst (as.map V.int++[V.int d])))/\upd (upd H' lf (.lst ((as.map (·+r)).map V.int++[V.int (d+r)]))) la (.lst (as.map V.int++[V.int d])) lt=some (.tup ((z19 ns r b).map V.int))/\
    upd (upd H' lf (.lst ((as.map (·+r)).map V.int++[V.int (d+r)]))) la (.lst (as.map V.int++[V.int d])) lf=some (.lst ((as'.map (·+r)).map V.int))/\upd (upd H' lf (.lst ((as.map (·+r)).map V.int++[V.int (d+r)]))) la (.lst (as.map V.int++[V.int d])) la=some (.lst (as'.map V.int))/\as'.length≤i+1/\Gr ((z19 ns r b).take (i+1)) r as'/\
    [some (V.ref p),some (V.int r),some (V.int b),some (V.ref lf),some (V.ref la),some (V.int d)]=[some (V.ref p),some (V.int r),some (V.int b),some (V.ref lf),some (V.ref la),o]:=fun h=>by
   refine⟨as++[d],_,z3s (z3s g hlf) hla',?_,?_,?_,?_,?_,rfl⟩
   ·rw[z0e (z5j e e4 (by intro z;cases z)),z0e (z5j e e3 (by intro z;cases z))]
    exact e
   ·rw[z0e nfa,z02,bD,bD]
    rfl
   ·rw[z02,bD]
    rfl
   ·rw[bI]
    exact hW li
   ·rw[z0r ed]
    exact G.add h r0
  refine⟨_,rfl,lf,_,rfl,.inl (SqL.of e3),rfl,_,rfl,?_⟩
  rw[lm1]
  refine A9 (fun c=>?_) (fun c=>?_)
  ·have c0:as=[]:=fU.mp (by have:=z0A c;injection this with this;omega)
   refine⟨_,rfl,.inl ⟨rfl,_,SqL.of e3⟩,_,rfl,_,rfl,_,_,rfl,rfl,lf,_,_,rfl,rfl,e3,z0g (by omega),?_⟩
   refine⟨_,rfl,.inl ⟨rfl,_,SqL.of (by rw[z0e (d9 nfa)];exact e4)⟩,_,rfl,la,_,_,rfl,rfl,(by rw[z0e (d9 nfa)];exact e4),z0g (by omega),?_⟩
   exact up fun a ha=>by rw[c0] at ha;cases ha
  ·have c0:as≠[]:=fun z=>c (by rw[z];rfl)
   obtain⟨init,z,ez⟩:=y1x c0
   refine⟨_,rfl,_,rfl,_,rfl,lf,_,_,V.int (z+r),rfl,rfl,SqL.of e3,(by rw[ez,bD,bD];exact z8T _ _),_,_,rfl,rfl,_,rfl,?_⟩
   have hz:z∈as:=by rw[ez];exact bY _ (b9.mpr rfl)
   refine A9 (fun c=>?_) (fun c=>?_)
   ·have c1:=z0A c
    refine⟨_,rfl,.inl ⟨rfl,_,SqL.of e3⟩,_,rfl,_,rfl,_,_,rfl,rfl,lf,_,_,rfl,rfl,e3,z0g (by omega),?_⟩
    refine⟨_,rfl,.inl ⟨rfl,_,SqL.of (by rw[z0e (d9 nfa)];exact e4)⟩,_,rfl,la,_,_,rfl,rfl,(by rw[z0e (d9 nfa)];exact e4),z0g (by omega),?_⟩
    refine up fun a ha=>?_
    have hp:=G.ar
    rw[ez] at ha hp
    rcases bO.mp ha with h|h
    ·have:=(dO.mp hp).2.2 a h z (b9.mpr rfl)
     omega
    ·rw[b9.mp h]
     exact c1
   ·have c1:=z3e c
    refine⟨as,_,g,e,e3,e4,by omega,?_,rfl⟩
    rw[z0r ed]
    refine G.skip hz ?_ (by omega)
    have h1:=G.mem z hz
    have h2:((z19 ns r b).take i++[d]).Pairwise (· < ·):=by
     rw[<- z0r ed]
     exact rise.sublist (jF _ _)
    exact Int.le_of_lt ((dO.mp h2).2.2 z h1 d (b9.mpr rfl))
 ·obtain⟨as,o,g,e,e3,e4,li,G,rfl⟩:=hp
  rw[b7,bR] at G
  refine⟨_,rfl,lf,_,rfl,.inl ⟨SqL.of e3,fun t1 ht1=>⟨_,rfl,la,_,rfl,.inl ⟨SqL.of (z01 ht1 _ _ _ e4),fun t2 ht2=>⟨(by show 2≤sizeLine;decide),fun t ht=>?_⟩⟩⟩⟩⟩
  exact q _ _ (g.trans ((z01 ht1 _).trans ((z01 ht2 _).trans (z01 ht _)))) ⟨t,t1,t2,_,_,rfl,z02,z01 ht _ _ _ (z01 ht2 _ _ _ z02),z01 ht _ _ _ z02,G.plan B4 r0⟩
theorem y4r{ms:List Int}{rows:List Row}{z:Str}(h:∀n∈ms,n≤60):z0N (z0w ms rows z)≤60:=by
 have go:∀(ms:List Int) (acc:Option (Int×Int)),(∀n∈ms,n≤60)->z0N acc≤60->z0N (ms.foldl (fun acc n=>match C0 (z0D rows n) z with|some v=>some (n,v)|none=>acc) acc)≤60:=by
  intro ms
  induction ms with
  | nil=>intro acc _ h;exact h
  | cons n r ih=>
   intro acc hn h0
   rw[cT]
   refine ih _ (fun x hx=>hn x (bM _ hx)) ?_
   cases C0 (z0D rows n) z with
   | none=>exact h0
   | some v=>exact hn n bS
 exact go ms none h (by decide)
def z3g(ns:List Int)(rows:List Row)(r:Int)(as:List Str):List Int:=(as.filter fun z=>decide (z0K ns rows r (z0N (z0w ns rows z)) z="open")).map fun z=>z0N (z0w ns rows z)
def z6m(l:List Int):Int:=l.foldl min 61
theorem y0P{m:Int}:∀{l:List Int}{a:Int},(m=a\/m∈l)->m≤a->(∀y∈l,m≤y)->l.foldl min a=m
 | [],a,h,_,_=>by
  rcases h with h|h
  ·exact h.symm
  ·cases h
 | y::l,a,h,ha,hl=>by
  have hy:=hl y bS
  rw[cT]
  refine y0P ?_ (by omega) fun x hx=>hl x (bM _ hx)
  rcases h with h|h
  ·exact .inl (by omega)
  ·rcases bA.mp h with h|h
   ·exact .inl (by omega)
   ·exact .inr h
theorem y1Q(ns:List Int)(rows:List Row)(r:Int)(as:List Str)(z:Str):z3g ns rows r (as++[z])=z3g ns rows r as++(if z0K ns rows r (z0N (z0w ns rows z)) z="open" then [z0N (z0w ns rows z)] else []):=by
 unfold z3g
 rw[dR,bD,eX]
 by_cases c:z0K ns rows r (z0N (z0w ns rows z)) z="open"
 ·rw[decide_eq_true c,if_pos rfl,if_pos c]
  rfl
 ·rw[decide_eq_false c,if_neg bF,if_neg c]
  rfl
def askV:Option Str->V
 | none=>.non
 | some z=>.str z
def V3(nm:List Str):Option Str->List Str
 | none=>nm
 | some z=>[z]
def z5h(Sh:ShP):Sp:=fun vs H Q _=>∃(x:Addr) (o:Option Str) (fp:List Addr) (nm:List Str) (r:Int) (rows:List Row) (had:List Int),vs=[.ref x,askV o]/\Sh H x fp nm r (fun n=>z0Z rows n r) had/\(∀z∈V3 nm o,z∈nm)/\E2 nm/\Rws nm rows/\rows.length≤60/\(∀n∈had,1≤n/\n≤rows.length)/\0≤r/\r≤10/\
 ∀(v:V) (H':Hp),A4 H H'->y5u H' v (z0b had) r (z6m (z3g (z0b had) rows r (V3 nm o)))->Q v H'
theorem y2L(ns:List Int)(r:Int):M4 ns r 61 [] [] where
 len:=rfl
 fr:=.nil
 ar:=.nil
 lack:=fun _ h=>(nomatch h)
 cov:=fun d hd=>by
  unfold z19 at hd
  rw[bV,decide_eq_true_eq,z95,bV] at hd
  have:=(z0U.mp hd.1.1).1
  omega
 mem:=fun _ h=>(nomatch h)
theorem z8g{A0 T0:Addr}{items:Array Value}(M:Bl mg)(T:C4 K mg A0)(F:Q1 K "send_for" "send_for" z7B f fd T0 items)(B8:Cal P w K mg base 2 "held_for" z3a (z44 (ShD K A0)))
  (E3:Cal P w K mg base 5 "state_of" z5i (z7F (ShD K A0))) (B1:D0 P w K mg base 1 A0 "had" z23 (z5T (ShD K A0)))
  (D3:Cal P w K mg base 5 "fewest_numbers" z2C (y12 K)):A7 P w K mg base CX0 6 f fd z43 (z5h (ShD K A0)):=by
 have nd:=z8c.nd
 refine F.ok z8c (fun vs H Q E h=>?_) (fun cdv A outer s H vs Q E hr h=>?_)
 ·obtain⟨x,o,fp,nm,r,rows,had,rfl,_⟩:=h
  rfl
 obtain⟨x,o,fp,nm,r,rows,had,rfl,sh,ho,gn,R,l60,hh,r0,r1,k⟩:=h
 refine⟨_,(z04 (z0n (i:=2) nd rfl (Or.inl rfl) (z90 (z87 (z9J (pv 1))) (z0F (pv 0) rfl) (z0Y (z00 (pv 1) z03)))) (z04 (z4G (i:=3) ["one"] ["shelf"] [0] rfl nd rfl (Or.inl rfl) (z0u rfl (by decide +kernel) rfl (by decide +kernel) rfl rfl) (z1W (pv 2)) (fun _ _ _ _ _=>(z0j (i:=0) (show((["one"]:List PySem.Str)++(["shelf"]:List PySem.Str)).Nodup from by decide +kernel) rfl (Or.inl rfl))) (z0y (by decide)) z0c (fun _ _ _ _ _=>(z21 (z09 z2r (z0q E3 (rm hr) rfl (z00 (pv 1) (z00 (pv 0) z03))) (z29 rfl M.OPEN) (z0m _)))) (fun _ _ _ _ _=>(z0Q (r:=M0 K) z0H (z0q B8 (rm hr) rfl (z00 (pv 1) (z00 (pv 0) z03))) z06 (fun _ _=>rfl)))) (z04 (z0R (z09 z2r (z0d z0f rfl M.len bW (z00 (pv 3) z03)) z06 (z0m _)) (z05 (z0i (z0Y (z00 (z0Y z03) (z00 (z0Y z03) z03))))) z0p) (z05 (z0i (z0q D3 (rm hr) rfl (z00 (z2L B1 (rm hr) (pv 0)) (z00 (z0F (pv 0) rfl) (z00 (z0d (z7j rfl) rfl M.min gD (z00 (pv 3) z03)) z03))))))))),?_⟩
 obtain⟨dx,pn,fs,h1,h3,ln,lr,lm⟩:∃dx pn fs,H x=some (.ins A0 dx fs)/\H pn=some (.tup (nm.map V.str))/\fs.lookup ("names":Str)=some (V.ref pn)/\fs.lookup ("reach":Str)=some (V.int r)/\fs.lookup ("had":Str)=none:=by
  obtain⟨dx,pn,pd,fs,kvs,_,h1,_,h3,_,l1,l2,_,lm,_⟩:=sh
  exact⟨dx,pn,fs,h1,h3,l1,l2,lm _ (by simp)⟩
 have h60:∀n∈z0b had,1≤n/\n≤60:=fun n hn=>by have:=hh n (z0L.mp hn).2;omega
 have n12:=gn.hi
 have la:(V3 nm o).length≤12:=by
  cases o with
  | none=>exact n12
  | some z=>show 1≤12;decide
 have asked:∀(Qk:VK),(∀(ta:Addr) (H1:Hp),A4 H H1->H1 ta=some (.tup ((V3 nm o).map V.str))->Qk (.ref ta) H1)->tIf (tB (Z9 (S7 1))) (Z7 K (S7 0) "names") (tTup (y4Z (S7 1) U6)) (z48 ["shelf","name","asked","held_from"] [.ref x,askV o]) H Qk:=fun Qk hq=>by
  cases o with
  | none=>exact⟨_,rfl,_,rfl,O5 ⟨_,rfl,x,A0,dx,fs,_,rfl,h1,T.cl,T.n_names,ln,hq pn H (A4.refl _) h3⟩⟩
  | some z=>exact⟨_,rfl,_,rfl,C3 ⟨_,rfl,(by show 1≤sizeLine;decide),fun t ht=>hq t _ (z01 ht _) z02⟩⟩
 refine asked _ fun ta H1 s1 e1=>?_
 generalize hAs:V3 nm o=as at *
 clear asked
 have sh1:=F6.same sh s1
 refine⟨_,rfl,ta,rfl,⟨_,SqT.of e1⟩,?_⟩
 refine z1r (xs:=as.map V.str) (fun i ys H'=>A4 H1 H'/\ys=(z3g (z0b had) rows r (as.take i)).map V.int) ⟨A4.refl _,rfl⟩ (fun i ys H' hi hp=>?_) (fun i y ys H' hy hp=>?_) (fun ys H' hp=>?_)
 ·obtain⟨g,rfl⟩:=hp
  refine⟨SqT.of (g _ _ e1),z0g ?_⟩
  unfold z3g
  rw[b7,b7]
  have h1:=cM (fun z=>decide (z0K (z0b had) rows r (z0N (z0w (z0b had) rows z)) z="open")) (as.take i)
  rw[bN] at h1
  omega
 ·obtain⟨g,rfl⟩:=hp
  rw[bH] at hy
  obtain⟨z,ez,rfl⟩:=cJ.mp hy
  have hz:=ho z (bT ez)
  have sh2:=F6.same sh1 g
  refine⟨_,rfl,_,rfl,x,z,fp,nm,r,rows,had,rfl,sh2,hz,gn,R,l60,hh,r0,r1,fun H2 s2=>⟨rfl,_,rfl,?_⟩⟩
  rw[z0r ez,y1Q]
  refine A9 (fun c=>?_) (fun c=>?_)
  ·have c':z0K (z0b had) rows r (z0N (z0w (z0b had) rows z)) z="open":=V.str.inj (z0A c)
   rw[if_pos c',bD]
   refine⟨_,rfl,_,rfl,x,z,fp,nm,r,rows,had,rfl,F6.same sh2 s2,hz,gn,R,fun v H3 s3 tv=>?_⟩
   obtain⟨b,y,rfl,eb,_⟩:=z3n tv
   exact⟨b,_,_,_,rfl,rfl,SqT.of eb,z1m rfl,g.trans (s2.trans s3),rfl⟩
  ·have c':¬z0K (z0b had) rows r (z0N (z0w (z0b had) rows z)) z="open":=fun e=>c (decide_eq_true (congrArg V.str e))
   rw[if_neg c',d7]
   exact⟨g.trans s2,rfl⟩
 ·obtain⟨g,rfl⟩:=hp
  rw[b7,bR]
  intro D hD
  have eD:upd H' D (.lst ((z3g (z0b had) rows r as).map V.int)) D=some (.lst ((z3g (z0b had) rows r as).map V.int)):=z02
  have s2:=s1.trans (g.trans (z01 hD (.lst ((z3g (z0b had) rows r as).map V.int))))
  generalize upd H' D (.lst ((z3g (z0b had) rows r as).map V.int))=H2 at eD s2
  refine⟨_,rfl,D,_,rfl,.inl (SqL.of eD),rfl,_,rfl,?_⟩
  rw[b7]
  refine A9 (fun c=>?_) (fun c=>?_)
  ·have c0:z3g (z0b had) rows r as=[]:=fU.mp (by have:=z0A c;injection this with this;omega)
   refine⟨(by show 0≤sizeLine;decide),fun t1 ht1=>⟨(by show 0≤sizeLine;decide),fun t2 ht2=>⟨(by show 2≤sizeLine;decide),fun t ht=>?_⟩⟩⟩
   refine k _ _ (s2.trans ((z01 ht1 _).trans ((z01 ht2 _).trans (z01 ht _)))) ⟨t,t1,t2,[],[],rfl,z02,z01 ht _ _ _ (z01 ht2 _ _ _ z02),z01 ht _ _ _ z02,?_⟩
   rw[c0]
   exact y2L _ _
  ·have c0:z3g (z0b had) rows r as≠[]:=fun e=>c (by rw[e];rfl)
   have sh2:=F6.same sh s2
   refine⟨_,rfl,x,dx,fs,rfl,s2 _ _ h1,lm,x,fp,nm,r,_,had,rfl,sh2,fun l H3 s3 e3=>?_⟩
   refine⟨_,rfl,x,A0,dx,fs,_,rfl,s3 _ _ (s2 _ _ h1),T.cl,T.n_reach,lr,_,rfl,D,_,rfl,.inl (SqL.of (s3 _ _ eD)),c0,fun m hm hl=>?_⟩
   have em:z6m (z3g (z0b had) rows r as)=m:=by
    refine y0P (.inr hm) ?_ hl
    unfold z3g at hm
    obtain⟨z,_,rfl⟩:=cF.mp hm
    have:=y4r (rows:=rows) (z:=z) fun n hn=>(h60 n hn).2
    omega
   refine⟨l,z0b had,r,m,rfl,.inr (SqT.of e3),h60,cO (z2G had) (by decide),r0,fun v H4 s4 p4=>?_⟩
   exact k v H4 (s2.trans (s3.trans s4)) (by rw[em];exact p4)
theorem z5p{l ms:List Int}(h1:l.Pairwise (· < ·))(h2:∀x∈l,1≤x/\x≤60)(e:∀x,x∈ms↔x∈l):z0b ms=l:=z2a (z1j _) h1 fun x=>y2i e h2 x
theorem z9q{ns:List Int}{rows:List Row}{r num:Int}{z:Str}(h:z0K ns rows r num z="open"):∃n∈z4H ns r,num<n:=by
 unfold z0K at h
 split at h
 ·exact absurd h (by decide)
 ·split at h
  ·exact absurd h (by decide)
  ·rename_i c
   refine cZ fun q=>c (z6i.mpr fun n hn=>?_)
   exact Int.not_lt.mp fun z=>q ⟨n,hn,z⟩
theorem y0O{hs ht:List Int}{n r:Int}(sub:∀x∈hs,x∈ht)(h60:∀x∈ht,1≤x/\x≤60)(h:z0M hs n r≠0):z0M ht n r≠0:=fun e=>h (z4d fun y hy=>z5S h60 e y (sub y hy))
theorem y1p{hs ht:List Int}{rows:List Row}{z:Str}(p1:hs.Pairwise (· < ·))(p2:ht.Pairwise (· < ·))(h60:∀x∈ht,1≤x)(sub:∀x∈hs,x∈ht):z0N (z0w hs rows z)≤z0N (z0w ht rows z):=by
 rcases z1i (rows:=rows) (z:=z) ht p2 with ⟨q1,q2⟩|⟨n,v,q1,q2,q3,q4⟩
 ·rcases z1i (rows:=rows) (z:=z) hs p1 with ⟨e1,_⟩|⟨n',v',e1,e2,e3,_⟩
  ·rw[q1,e1]
   exact dU _
  ·rw[q2 n' (sub n' e2)] at e3
   cases e3
 ·rw[q1]
  show _≤n
  rcases z1i (rows:=rows) (z:=z) hs p1 with ⟨e1,_⟩|⟨n',v',e1,e2,e3,_⟩
  ·rw[e1]
   show(0:Int)≤n
   have:=h60 n q2
   omega
  ·rw[e1]
   show n'≤n
   rcases jO n n' with g|g
   ·rw[q4 n' (sub n' e2) g] at e3
    cases e3
   ·exact g
theorem y3i{l1 l2:List Int}(n1:l1.Nodup)(sub:∀x∈l1,x∈l2)(len:l2.length≤l1.length):∀x∈l2,x∈l1:=fun x hx=>cZ fun c=>by
 have:=z8l (l1:=x::l1) (l2:=l2) (cW.mpr ⟨c,n1⟩) fun y hy=>by
  rcases bA.mp hy with rfl|hy
  ·exact hx
  ·exact sub y hy
 rw[cC] at this
 omega
theorem y2Z{hs:List Int}{r b:Int}{fs as:List Int}(k:M4 hs r b fs as):∀x∈fs,b<x:=by
 have pick:∀a∈as,∃x∈fs,a≤x/\x≤a+r:=fun a ha=>k.cov a (k.mem a ha)
 let g:Int->Int:=fun a=>(fs.find? fun x=>decide (a≤x) && decide (x≤a+r)).getD 0
 have hg:∀a∈as,g a∈fs/\a≤g a/\g a≤a+r:=fun a ha=>by
  show(fs.find? _).getD 0∈fs/\a≤(fs.find? _).getD 0/\(fs.find? _).getD 0≤a+r
  cases e:fs.find? fun x=>decide (a≤x) && decide (x≤a+r) with
  | none=>
   obtain⟨x,hx,h1,h2⟩:=pick a ha
   have:=gS.mp e x hx
   rw[decide_eq_true h1,decide_eq_true h2] at this
   exact absurd rfl this
  | some x=>
   have h1:=List.find?_some e
   have h2:=fJ e
   rw[bQ,decide_eq_true_eq,decide_eq_true_eq] at h1
   exact⟨h2,h1⟩
 clear_value g
 have inc:∀(l:List Int),l.Pairwise (fun x y=>x+r<y)->(∀a∈l,g a∈fs/\a≤g a/\g a≤a+r)->(l.map g).Pairwise (· < ·):=by
  intro l
  induction l with
  | nil=>intro _ _;exact .nil
  | cons a l ih=>
   intro p h
   rw[fA] at p
   rw[cK,fA]
   refine⟨fun y hy=>?_,ih p.2 fun a ha=>h a (bM _ ha)⟩
   obtain⟨a',ha',rfl⟩:=cF.mp hy
   have h1:=p.1 a' ha'
   have h2:=(h a bS).2.2
   have h3:=(h a' (bM _ ha')).2.1
   omega
 have nd:(as.map g).Nodup:=(inc as k.ar hg).imp fun h=>gH h
 intro x hx
 obtain⟨a,ha,rfl⟩:=cF.mp (y3i nd (fun y hy=>by obtain⟨a,ha,rfl⟩:=cF.mp hy;exact(hg a ha).1) (by rw[b7,k.len];exact bB _) x hx)
 have h1:=(hg a ha).2.1
 have h2:=k.mem a ha
 unfold z19 at h2
 rw[bV,decide_eq_true_eq] at h2
 omega
theorem y3n{l:List Int}:∀{x:Int},x∈l->z6m l≤x:=by
 have go:∀(l:List Int) (a:Int),l.foldl min a≤a/\∀x∈l,l.foldl min a≤x:=by
  intro l
  induction l with
  | nil=>intro a;exact⟨dU _,fun x h=>nomatch h⟩
  | cons y l ih=>
   intro a
   rw[cT]
   obtain⟨h1,h2⟩:=ih (min a y)
   refine⟨by omega,fun x hx=>?_⟩
   rcases bA.mp hx with rfl|hx
   ·omega
   ·exact h2 x hx
 exact fun {x} hx=>(go l 61).2 x hx
theorem z8s{hs:List Int}{rows:List Row}{r:Int}{nm:List Str}{z:Str}(hz:z∈nm)(h:z0K hs rows r (z0N (z0w hs rows z)) z="open"):z6m (z3g hs rows r nm)≤z0N (z0w hs rows z):=by
 refine y3n ?_
 unfold z3g
 exact cF.mpr ⟨z,bV.mpr ⟨hz,decide_eq_true h⟩,rfl⟩
theorem y2T{hs:List Int}{rows:List Row}{r:Int}{nm:List Str}{z:Str}{fs as:List Int}(k:M4 hs r (z6m (z3g hs rows r nm)) fs as)(hz:z∈nm)(h:z0K hs rows r (z0N (z0w hs rows z)) z="open"):fs≠[]:=fun e=>by
 obtain⟨n,hn,hl⟩:=z9q h
 have:=z8s hz h
 obtain⟨x,hx,_⟩:=k.cov n (by
  unfold z19
  rw[bV,decide_eq_true_eq]
  exact⟨hn,by omega⟩)
 rw[e] at hx
 cases hx
theorem y1U{hs ht:List Int}{rows:List Row}{r:Int}{nm:List Str}{fs as:List Int}{m:Nat}{z:Str}(k:M4 hs r (z6m (z3g hs rows r nm)) fs as)(p1:hs.Pairwise (· < ·))(p2:ht.Pairwise (· < ·))(mem:∀n,n∈ht↔n∈hs\/n∈fs)(h60:∀x∈ht,1≤x/\x≤60)(it:z9T hs m)(hz:z∈nm) :
  z0K ht rows r (z0N (z0w ht rows z)) z≠"open":=fun ho=>by
 have sub:∀x∈hs,x∈ht:=fun x hx=>(mem x).mpr (.inl hx)
 have over:=y2Z k
 have mono:=y1p (rows:=rows) (z:=z) p1 p2 (fun x hx=>(h60 x hx).1) sub
 obtain⟨d,hd,hl⟩:=z9q ho
 rw[z56,z0U] at hd
 obtain⟨⟨⟨d1,d2⟩,d3,y,hy,d4⟩,d5⟩:=hd
 have d0:z0M hs d r=0:=cZ fun c=>y0O sub h60 c d5
 have ym:y≤(m:Int):=by
  rcases(mem y).mp hy with h|h
  ·exact it.2 y h
  ·obtain⟨_,_,y',hy',h'⟩:=z0U.mp (k.lack y h)
   have:=it.2 y' hy'
   omega
 have dl:d∈z1a hs:=by
  refine z0U.mpr ⟨⟨d1,d2⟩,fun h=>d3 (sub d h),?_⟩
  rcases it.1 with h|⟨h,h'⟩
  ·exact⟨m,h,by omega⟩
  ·omega
 have dk:d∈z4H hs r:=z56.mpr ⟨dl,d0⟩
 have dle:d≤z6m (z3g hs rows r nm):=cZ fun c=>by
  obtain⟨x,hx,x1,x2⟩:=k.cov d (by
   unfold z19
   rw[bV,decide_eq_true_eq]
   exact⟨dk,by omega⟩)
  have xt:=(mem x).mpr (.inr hx)
  have:x≠d:=fun e=>d3 (e ▸ xt)
  exact absurd (by omega) (z5S h60 d5 x xt (by omega))
 have ndk:z1C hs r (z0N (z0w hs rows z))≠[]:=fun e=>by
  have:d∈z1C hs r (z0N (z0w hs rows z)):=by
   unfold z1C
   rw[bV,bQ,decide_eq_true_eq,decide_eq_true_eq]
   exact⟨dl,by omega,d0⟩
  rw[e] at this
  cases this
 by_cases st:0<(z1h hs rows r (z0N (z0w hs rows z)) z).length
 ·obtain⟨n,hn⟩:=gN _ (fP.mp st)
  unfold z1h at hn
  rw[bV,bQ,decide_eq_true_eq,decide_eq_true_eq] at hn
  obtain⟨nl,n1,n2⟩:=hn
  have nt:z0M hs n r≠0:=fun e=>by
   unfold z2j at n2
   rw[if_pos e] at n2
   cases n2
  have nz:z∈z1N (z0D rows n):=by
   unfold z2j at n2
   rw[if_neg nt] at n2
   exact n2
  obtain⟨⟨na,nb⟩,nc,yn,hyn,nlt⟩:=z0U.mp nl
  have key:z0N (z0w ht rows z)<n->False:=fun hlt=>by
   by_cases nin:n∈ht
   ·obtain⟨v,ev⟩:=y4l nz
    rcases z1i (rows:=rows) (z:=z) ht p2 with ⟨_,q2⟩|⟨n',v',q1,q2,q3,q4⟩
    ·rw[q2 n nin] at ev
     cases ev
    ·rw[q1] at hlt
     rw[q4 n nin hlt] at ev
     cases ev
   ·have:n∈z1h ht rows r (z0N (z0w ht rows z)) z:=by
     unfold z1h
     rw[bV,bQ,decide_eq_true_eq,decide_eq_true_eq]
     refine⟨z0U.mpr ⟨⟨na,nb⟩,nin,yn,sub yn hyn,nlt⟩,hlt,?_⟩
     unfold z2j
     rw[if_neg (y0O sub h60 nt)]
     exact nz
    have pos:0<(z1h ht rows r (z0N (z0w ht rows z)) z).length:=fP.mpr fun e=>by rw[e] at this;cases this
    unfold z0K at ho
    rw[if_pos pos] at ho
    exact absurd ho (by decide)
  have hge:n≤z0N (z0w ht rows z):=by
   rcases jO (z0N (z0w ht rows z)) n with g|g
   ·exact(key g).elim
   ·exact g
  rcases z1i (rows:=rows) (z:=z) ht p2 with ⟨q1,_⟩|⟨n',v',q1,q2,q3,q4⟩
  ·rw[q1] at hge
   have:n≤0:=hge
   omega
  ·rw[q1] at hge hl
   have hge':n≤n':=hge
   have hl':n'<d:=hl
   rcases(mem n').mp q2 with h|h
   ·rcases z1i (rows:=rows) (z:=z) hs p1 with ⟨_,e2⟩|⟨n3,v3,e1,e2,e3,e4⟩
    ·rw[e2 n' h] at q3
     cases q3
    ·rw[e1] at n1
     have n1':n3<n:=n1
     rw[e4 n' h (by omega)] at q3
     cases q3
   ·have:=over n' h
    omega
 ·have op:z0K hs rows r (z0N (z0w hs rows z)) z="open":=by
   unfold z0K
   rw[if_neg st,if_neg ndk]
  have:=z8s hz op
  omega
def hvV:Option (Int×Int)->V
 | none=>.non
 | some p=>.int p.2
def Y8(ns:List Int)(rows:List Row)(r:Int)(z:Str):List V:=[.str z,.str (z0K ns rows r (z0N (z0w (z0b ns) rows z)) z),.int (z0N (z0w (z0b ns) rows z)),hvV (z0w (z0b ns) rows z)]
theorem y2c{H:Hp}{nm:List Str}{ns:List Int}{rows:List Row}{r:Int}{v:V}(h:A5 H (z7l nm ns rows r) v):∃(a:Addr) (xs:List V),v=.ref a/\H a=some (.tup xs)/\xs.length=nm.length/\
  ∀(k:Nat) (z:Str),nm[k]? = some z->∃(b:Addr),xs[k]? = some (.ref b)/\H b=some (.tup (Y8 ns rows r z)):=by
 obtain⟨a,xs,rfl,ha,_,ta⟩:=z0h h
 refine⟨a,xs,rfl,ha,by rw[ta.length,b7],fun k z hz=>?_⟩
 obtain⟨x,ex,tx⟩:=ta.get k (R4 ns rows r z) (by rw[bH,hz];rfl)
 obtain⟨b,us,rfl,eb,_,tb⟩:=z0h tx
 obtain⟨y1,r1,rfl,t1,tb⟩:=z08 tb
 obtain⟨y2,r2,rfl,t2,tb⟩:=z08 tb
 obtain⟨y3,r3,rfl,t3,tb⟩:=z08 tb
 obtain⟨y4,r4,rfl,t4,tb⟩:=z08 tb
 have:=z0E tb
 subst this
 have e4:y4=hvV (z0w (z0b ns) rows z):=by
  cases e:z0w (z0b ns) rows z with
  | none=>
   rw[e] at t4
   unfold y2n A5 at t4
   exact t4
  | some p=>
   rw[e] at t4
   exact z0G t4
 rw[z2g t1,z2g t2,z0G t3,e4] at eb
 exact⟨b,ex,eb⟩
def stN(hs:List Int)(rows:List Row)(r:Int)(z:Str):Str:=z0K hs rows r (z0N (z0w hs rows z)) z
theorem y25{H:Hp}{hs:List Int}{rows:List Row}{r num:Int}{z:Str}{v:V}(h:A5 H (y2u hs rows r num z) v)(ne:z1h hs rows r num z≠[]):∃(a b:Addr) (xs:List V) (n t:Int),v=.ref a/\H a=some (.tup (xs++[.ref b]))/\H b=some (.tup [.int n,.int t])/\n∈z1a hs:=by
 obtain⟨a,ys,rfl,ea,_,ty⟩:=z0h h
 have hl:z1h hs rows r num z=(z1h hs rows r num z).dropLast++[(z1h hs rows r num z).getLast ne]:=(eV ne).symm
 have hm:(z1h hs rows r num z).getLast ne∈z1h hs rows r num z:=List.getLast_mem ne
 generalize (z1h hs rows r num z).getLast ne=n at hl hm
 generalize (z1h hs rows r num z).dropLast=ns at hl
 rw[hl,bD] at ty
 have l:=ty.length
 rw[bI,b7,b7,dA] at l
 have hne:ys≠[]:=fun e=>by rw[e] at l;simp at l
 obtain⟨xs,y,rfl⟩:∃xs y,ys=xs++[y]:=⟨_,_,(eV hne).symm⟩
 rw[bI,dA] at l
 obtain⟨w,ew,tw⟩:=ty.get ns.length (.tup [.int n,.int (z0M hs n r)]) (by rw[e7 (by rw[b7];exact bB _),b7,Nat.sub_self];rfl)
 rw[show ns.length=xs.length by omega,e7 (bB _),Nat.sub_self] at ew
 cases ew
 obtain⟨b,us,rfl,eb,_,tb⟩:=z0h tw
 obtain⟨y1,r1,rfl,t1,tb⟩:=z08 tb
 obtain⟨y2,r2,rfl,t2,tb⟩:=z08 tb
 have:=z0E tb
 subst this
 rw[z0G t1,z0G t2] at eb
 refine⟨a,b,xs,n,_,rfl,ea,eb,?_⟩
 unfold z1h at hm
 exact(bV.mp hm).1
def y5l(nm:List Str)(hs:List Int)(rows:List Row)(r:Int)(ws:List Int):Prop:=(∀n∈ws,n∈z1a hs)/\ws.length≤60/\((∃z∈nm,stN hs rows r z="open")->∃as,M4 hs r (z6m (z3g hs rows r nm)) ws as)/\((∃z∈nm,stN hs rows r z≠"sure")->ws≠[])
def y1h(K:PySem.W.Frag)(Sh:ShP):Sp:=fun vs H Q _=>∃(x lh:Addr) (tv:V) (fp:List Addr) (nm:List Str) (r:Int) (rows:List Row) (had hs:List Int) (m:Nat),vs=[.ref x,tv,.int m,.ref lh]/\
 Sh H x fp nm r (fun n=>z0Z rows n r) had/\E2 nm/\Rws nm rows/\rows.length≤60/\(∀n∈had,1≤n/\n≤rows.length)/\0≤r/\r≤10/\A5 H (z7l nm hs rows r) tv/\H lh=some (.lst (hs.map V.int))/\hs.Pairwise (· < ·)/\(∀n,n∈had↔n∈hs)/\z9T hs m/\
 ∀(l:Addr) (ws:List Int) (H':Hp),H l=none->A4 H H'->H' l=some (.lst (ws.map V.int))->y5l nm hs rows r ws->Q (.ref l) H'
theorem y3D(M:Bl mg)(F:Fun K "_law_wanted" "_law_wanted" z3S f fd){A0:Addr}{Sh:ShP}(OS:T8 A0 ["put","had","latest"] Sh)(L3:Cal P w K mg base 1 "_law_whole" z4z y3t)
  (M6:P6 P w K mg base 8 "send_for" z43 (z5h Sh) [V.non]) (E4:Cal P w K mg base 8 "set_again" z4e (z5I Sh)):A7 P w K mg base CX0 9 f fd z3O (y1h K Sh):=by
 have nd:=z53.nd
 refine F.ok z53 (fun vs H Q E h=>?_) (fun cdv A outer s H vs Q E hr h=>?_)
 ·obtain⟨x,lh,tv,fp,nm,r,rows,had,hs,m,rfl,_⟩:=h
  rfl
 obtain⟨x,lh,tv,fp,nm,r,rows,had,hs,m,rfl,sh,gn,R,r60,T2,r0,r10,tt,eH,rise,mem,it,q⟩:=h
 refine⟨_,(z04 (z0n (i:=4) nd rfl (Or.inl rfl) (z1t z03)) (y5M (z0R (z09 z3d z2Q (z1f ["_law_one"] [] [] rfl (z0u rfl (by decide +kernel) rfl (by decide +kernel) rfl rfl) (z1W (pv 1)) (fun _ _ _ _ _=>(z0j (i:=0) (show((["_law_one"]:List PySem.Str)++([]:List PySem.Str)).Nodup from by decide +kernel) rfl (Or.inl rfl))) (z0y (by decide)) z0c (fun _ _ _ _ _=>z26) (fun _ _ _ _ _=>(z0Q (r:=M0 K) z0H (pv 0) z06 (fun _ _=>rfl)))) (by with_unfolding_all rfl)) (z04 (z0n (i:=5) nd rfl (Or.inl rfl) (y6c M6 (rm hr) rfl (z00 (pv 0) z03))) (z04 (z0R (PW.pt (z38 (z6n (z5d (z0d z0J rfl M.isinstance cI (z00 (pv 5) (z00 (z1T (v:=.ty "tuple") rfl M.tuple bL rfl) z03))))) (z38 (z09 z8K (z0d z0f rfl M.len bW (z00 (pv 5) z03)) z06 (z0m _)) (z2s (z6n (z5d (z0d z0J rfl M.isinstance cI (z00 (z0Q z0H (pv 5) z06 (fun _ _=>rfl)) (z00 (z1T (v:=.ty "tuple") rfl M.tuple bL rfl) z03))))))))) (z05 (z0i z8p)) z0p) (z05 (z0n (i:=4) nd rfl (Or.inl rfl) (z0t z2M rfl M.list gB (z00 (z0Q z0H (pv 5) z06 (fun _ _=>rfl)) z03)))))) (z05 (z1c cG rfl (z1W (pv 1)) (z0j (i:=6) nd rfl (Or.inl rfl)) (z05 (z0R (z09 z2r (z0Q z0H (pv 6) z06 (fun _ _=>rfl)) z2Q (z0m _)) (z04 (z0n (i:=7) nd rfl (Or.inl rfl) (z0q E4 (rm hr) rfl (z00 (pv 0) (z00 (z0Q z0H (pv 6) z06 (fun _ _=>rfl)) z03)))) (z04 (z0R (PW.pt (z38 (z6n (z5d (z0d z0J rfl M.isinstance cI (z00 (pv 7) (z00 (z1T (v:=.ty "tuple") rfl M.tuple bL rfl) z03))))) (z38 (z09 z2r (z0d z0f rfl M.len bW (z00 (pv 7) z03)) z06 (z0m _)) (z2s (z6n (z5d (z0d z0J rfl M.isinstance cI (z00 (z0Q z0H (pv 7) (y2e z9h z06) (fun _ _=>rfl)) (z00 (z1T (v:=.ty "tuple") rfl M.tuple bL rfl) z03))))))))) (z05 (z0i z8p)) z0p) (z05 (z0B (z3I cE bX cD z0O (pv 4) (z00 (z0Q z0H (z0Q z0H (pv 7) (y2e z9h z06) (fun _ _=>rfl)) z06 (fun _ _=>rfl)) z03)))))) z0p))))) (z04 (z1c cG rfl (z1k (pv 4)) (z0j (i:=8) nd rfl (Or.inl rfl)) (z05 (z0R (PW.pt (z38 (z6n (z5d (z0q L3 (rm hr) rfl (z00 (pv 8) z03)))) (z38 (z09 z7V (pv 8) z06 (z0m _)) (z38 (z09 z2E (pv 8) (pv 2) (z0m _)) (z2s (z09 z3d (pv 8) (pv 3) (by with_unfolding_all rfl))))))) (z05 (z0i z8p)) z0p))) (z05 (z0i (pv 4)))))),?_⟩
 have h60':∀n∈had,1≤n/\n≤60:=fun n hn=>by have:=T2 n hn;omega
 have h60:∀n∈hs,1≤n/\n≤60:=fun n hn=>h60' n ((mem n).mpr hn)
 have e1:z0b had=hs:=z5p rise h60 mem
 have e2:z0b hs=hs:=z5p rise h60 fun _=>Iff.rfl
 have n12:=gn.hi
 obtain⟨a,xs,rfl,ea,lx,tat⟩:=y2c tt
 have tab:∀(k:Nat) (u:V),xs[k]? = some u->∃(z:Str) (b:Addr),nm[k]? = some z/\u=.ref b/\H b=some (.tup [.str z,.str (stN hs rows r z),.int (z0N (z0w hs rows z)),hvV (z0w hs rows z)]):=fun k u e=>by
  have hk:k<nm.length:=by have:=(cH.mp e).1;omega
  obtain⟨b,eb,hb⟩:=tat k nm[k] (bG hk)
  rw[e] at eb
  cases eb
  unfold Y8 at hb
  rw[e2] at hb
  exact⟨nm[k],b,bG hk,rfl,hb⟩
 clear tat
 have V6:∀z,stN hs rows r z="open"\/stN hs rows r z="stale"\/stN hs rows r z="sure":=fun z=>by
  unfold stN z0K
  split
  ·exact .inr (.inl rfl)
  ·split
   ·exact .inr (.inr rfl)
   ·exact .inl rfl
 refine⟨(by show 0≤sizeLine;decide),fun l0 hl0=>?_⟩
 have s0:=z01 hl0 (.lst [])
 have e0:upd H l0 (.lst []) l0=some (.lst []):=z02
 generalize upd H l0 (.lst [])=H1 at s0 e0
 refine⟨fun σ G=>∃(lw:Addr) (ws:List Int) (o5 o6 o7:Option V),H lw=none/\A4 H G/\G lw=some (.lst (ws.map V.int))/\y5l nm hs rows r ws/\σ=[some (.ref x),some (.ref a),some (.int m),some (.ref lh),some (.ref lw),o5,o6,o7,none],?_,?_⟩
 ·refine⟨_,rfl,a,rfl,⟨_,SqT.of (s0 _ _ ea)⟩,?_⟩
  refine z1r (xs:=xs) (fun j ys G=>G=H1/\ys=((nm.take j).map (stN hs rows r)).map V.str) ⟨rfl,rfl⟩ (fun j ys G hj hp=>?_) (fun j u ys G hu hp=>?_) (fun ys G hp=>?_)
  ·obtain⟨rfl,rfl⟩:=hp
   refine⟨SqT.of (s0 _ _ ea),z0g ?_⟩
   rw[b7,b7,bN]
   omega
  ·obtain⟨rfl,rfl⟩:=hp
   obtain⟨z,b,ez,rfl,eb⟩:=tab j u hu
   refine⟨_,rfl,b,_,1,_,rfl,rfl,SqT.of (s0 _ _ eb),rfl,rfl,?_⟩
   rw[z0r ez,bD,bD]
   rfl
  obtain⟨rfl,rfl⟩:=hp
  rw[lx,bR]
  intro D hD
  have sD:=z01 hD (.lst ((nm.map (stN hs rows r)).map V.str))
  have c1:=s0.trans sD
  refine⟨D,_,rfl,.inl (SqL.of z02),rfl,z2I _,_,rfl,?_⟩
  rw[if_neg bF,z6B]
  generalize upd G D (.lst ((nm.map (stN hs rows r)).map V.str))=H2 at sD c1
  refine A9 (fun c=>?_) (fun c=>?_)
  ·obtain⟨z,hz,ez⟩:=cF.mp (z0A c)
   refine⟨_,rfl,x,none,fp,nm,r,rows,had,rfl,OS.same sh c1,fun y hy=>hy,gn,R,r60,T2,r0,r10,fun v G3 g3 pl=>?_⟩
   rw[e1] at pl
   obtain⟨l,lf,la,fs,as,rfl,h1,h2,h3,k⟩:=pl
   refine⟨_,rfl,_,_,_,_,rfl,.tup h1,z5C,_,rfl,C3 ⟨_,rfl,l,_,rfl,.inr (SqT.of h1),rfl,_,rfl,C3 ⟨_,rfl,l,_,0,_,rfl,rfl,SqT.of h1,rfl,_,_,_,_,rfl,.tup h2,z5C,_,rfl,C3 ?_⟩⟩⟩
   refine⟨_,rfl,l,_,0,_,rfl,rfl,SqT.of h1,rfl,lf,_,rfl,.inr (SqT.of h2),fun lw hlw=>?_⟩
   have c3:=c1.trans g3
   have f60:fs.length≤60:=by
    refine cO (z8l (l2:=z1a hs) (k.fr.imp fun h=>gH h) k.lack) (z2d hs)
   exact⟨lw,fs,_,_,_,c3.free hlw,c3.trans (z01 hlw _),z02,⟨k.lack,f60,fun _=>⟨as,k⟩,fun _=>y2T k hz ez⟩,rfl⟩
  ·have nop:∀z∈nm,stN hs rows r z≠"open":=fun z hz e=>c (decide_eq_true (cF.mpr ⟨z,hz,e⟩))
   refine⟨_,rfl,a,rfl,⟨_,SqT.of (c1 _ _ ea)⟩,z7a (K:=K) (a:=a) (xs:=xs) (fun i σ G=>∃(ws:List Int) (o6 o7:Option V),A4 H G/\G l0=some (.lst (ws.map V.int))/\(∀n∈ws,n∈z1a hs)/\ws.length≤i/\(∀(j:Nat) (z:Str),j<i->nm[j]? = some z->stN hs rows r z="stale"->ws≠[])/\
    σ=[some (.ref x),some (.ref a),some (.int m),some (.ref lh),some (.ref l0),none,o6,o7,none]) ⟨[],none,none,c1,sD _ _ e0,(fun n h=>nomatch h),cQ _,(fun j z h=>absurd h (fB _)),rfl⟩ (fun i σ G _ ⟨_,_,_,g,_⟩=>SqT.of (g _ _ ea)) ?_ ?_⟩
   ·rintro i u σ G3 hu ⟨ws,o6,o7,g,eG,wl,wlen,wst,rfl⟩
    obtain⟨z,b,ez,rfl,eb⟩:=tab i u hu
    have hz:=bT ez
    have eb3:=g _ _ eb
    have hi:=(cH.mp hu).1
    refine⟨_,rfl,b,_,1,_,rfl,rfl,SqT.of eb3,rfl,rfl,_,rfl,A9 (fun c2=>?_) (fun c2=>?_)⟩
    ·have st:stN hs rows r z="stale":=V.str.inj (z0A c2)
     refine⟨_,rfl,_,rfl,b,_,0,_,rfl,rfl,SqT.of eb3,rfl,x,z,fp,nm,r,rows,had,rfl,OS.same sh g,hz,gn,R,r60,T2,r0,r10,fun v G4 g4 tv=>?_⟩
     rw[e1] at tv
     have ne:z1h hs rows r (z0N (z0w hs rows z)) z≠[]:=fun e=>by
      unfold stN z0K at st
      rw[e,if_neg (by decide)] at st
      split at st
      ·exact absurd st (by decide)
      ·exact absurd st (by decide)
     obtain⟨aa,ab,ys,n,t,rfl,eaa,eab,nl⟩:=y25 tv ne
     have c4:=g.trans g4
     refine⟨_,rfl,_,_,_,_,rfl,.tup eaa,z5C,_,rfl,C3 ⟨_,rfl,aa,_,rfl,.inr (SqT.of eaa),rfl,_,rfl,?_⟩⟩
     rw[decide_eq_false (fun e=>by injection e with e;rw[bI,dA] at e;omega)]
     refine C3 ⟨_,rfl,_,rfl,aa,_,_,_,rfl,rfl,SqT.of eaa,z8T _ _,_,_,_,_,rfl,.tup eab,z5C,_,rfl,C3 ?_⟩
     refine⟨_,rfl,.inl ⟨rfl,_,SqL.of (g4 _ _ eG)⟩,_,rfl,_,rfl,aa,_,_,_,rfl,rfl,SqT.of eaa,z8T _ _,ab,_,0,_,rfl,rfl,SqT.of eab,rfl,l0,_,_,rfl,rfl,g4 _ _ eG,z0g (by rw[b7];omega),?_⟩
     refine⟨ws++[n],_,_,fun c o e=>by rw[z0e (z0l e hl0)];exact c4 c o e,by rw[z02,bD];rfl,fun k hk=>?_,by rw[bI];exact hW wlen,fun j z' hj ej es=>by simp,rfl⟩
     rcases bO.mp hk with hk|hk
     ·exact wl k hk
     ·rw[b9.mp hk]
      exact nl
    ·have st:stN hs rows r z≠"stale":=fun e=>c2 (decide_eq_true (congrArg V.str e))
     refine⟨ws,_,_,g,eG,wl,Nat.le_succ_of_le wlen,fun j z' hj ej es=>?_,rfl⟩
     rcases Nat.lt_succ_iff_lt_or_eq.mp hj with h|h
     ·exact wst j z' h ej es
     ·subst h
      rw[ez] at ej
      cases ej
      exact absurd es st
   ·rintro σ G3 ⟨ws,o6,o7,g,eG,wl,wlen,wst,rfl⟩
    refine⟨l0,ws,_,_,_,hl0,g,eG,⟨wl,by omega,fun⟨z,hz,e⟩=>absurd e (nop z hz),fun⟨z,hz,e⟩=>?_⟩,rfl⟩
    obtain⟨j,hj,ej⟩:=List.getElem_of_mem hz
    rcases V6 z with h|h|h
    ·exact absurd h (nop z hz)
    ·exact wst j z (by omega) (by rw[bG hj,ej]) h
    ·exact absurd h e
 ·rintro σ G ⟨lw,ws,o5,o6,o7,nlw,g,eW,wo,rfl⟩
  have wn:∀n∈ws,1≤n/\n≤(m:Int)/\n∉hs:=fun n hn=>by
   obtain⟨⟨n1,_⟩,n3,y,hy,n4⟩:=z0U.mp (wo.1 n hn)
   have:=it.2 y hy
   exact⟨n1,by omega,n3⟩
  refine⟨_,rfl,lw,rfl,⟨_,SqL.of eW⟩,z1s (K:=K) (a:=lw) (xs:=ws.map V.int) (fun _ σ G2=>∃o8:Option V,G2=G/\σ=[some (.ref x),some (.ref a),some (.int m),some (.ref lh),some (.ref lw),o5,o6,o7,o8]) ⟨none,rfl,rfl⟩ (fun i σ G2 _ ⟨_,e,_⟩=>by rw[e];exact SqL.of eW) ?_ ?_⟩
  ·rintro i u σ G2 hu ⟨o8,rfl,rfl⟩
   rw[bH] at hu
   obtain⟨n,en,rfl⟩:=cJ.mp hu
   obtain⟨n1,n2,n3⟩:=wn n (bT en)
   refine⟨_,rfl,_,rfl,_,rfl,C3 ⟨_,rfl,_,_,rfl,rfl,_,rfl,?_⟩⟩
   rw[decide_eq_false (show ¬n<1 by omega)]
   refine C3 ⟨_,rfl,_,rfl,_,_,rfl,rfl,_,rfl,?_⟩
   rw[decide_eq_false (show ¬(m:Int)<n by omega)]
   refine C3 ⟨_,rfl,_,rfl,lh,_,rfl,.inl (SqL.of (g _ _ eH)),rfl,z2B hs,_,rfl,?_⟩
   rw[if_neg bF,z3j,decide_eq_false n3]
   exact C3 ⟨_,rfl,rfl⟩
  ·rintro σ G2 ⟨o8,rfl,rfl⟩
   exact⟨_,rfl,q lw ws G2 nlw g eW wo⟩
theorem y6m{nm:List Str}{rows:List Row}{w:Row}(R:Rws nm rows)(nd:nm.Nodup)(hw:w∈rows):GoodR nm w/\z1b nm w=w:=by
 have sb:=R.sub w hw
 exact⟨⟨sb.nodup nd,fun p hp=>sb.subset (gM hp),fun p hp=>R.val w hw p hp⟩,z4N nd sb⟩
theorem y1w{ns:List Int}{rows:List Row}{r num:Int}{z:Str}(h1:z0K ns rows r num z="sure"):z1h ns rows r num z=[]/\z1C ns r num=[]:=by
 unfold z0K at h1
 split at h1
 ·exact absurd h1 (by decide +kernel)
 ·split at h1
  ·exact⟨fU.mp (by omega),by assumption⟩
  ·exact absurd h1 (by decide +kernel)
theorem y6W{hs:List Int}{mx:Int}{m:Nat}(t:z9T hs m)(h60:∀x∈hs,1≤x/\x≤60)(hm:mx∈hs++[0])(top:∀y∈hs++[0],y≤mx):mx=(m:Int):=by
 have h0:=top 0 (bY _ (b9.mpr rfl))
 rcases t.1 with q|⟨q,q0⟩
 ·have h1:=top _ (cX _ q)
  rcases bO.mp hm with h|h
  ·have:=t.2 mx h
   omega
  ·have:=h60 _ q
   rw[b9] at h
   omega
 ·subst q
  rw[List.nil_append,b9] at hm
  omega
theorem y2l{ns:List Int}{rows:List Row}{r m:Int}{z:Str}(B4:∀x∈ns,1≤x/\x≤60)(top:∀x∈ns,x≤m)(hm:m∈ns\/(ns=[]/\m=0))(h1:z0K ns rows r (z0N (z0w (z0b ns) rows z)) z="sure") :
  z0w (z0b ns) rows z=z0w (upI 1 m.toNat) rows z:=by
 obtain⟨a1,d1⟩:=y1w h1
 have inr:∀x,x∈z0b ns↔x∈ns:=fun x=>by
  rw[z0L]
  exact⟨fun q=>q.2,fun q=>⟨by have:=B4 x q;omega,q⟩⟩
 have sub:∀x∈z0b ns,x∈upI 1 m.toNat:=fun x hx=>by
  have h:=(inr x).mp hx
  have:=B4 x h
  have:=top x h
  exact z11.mpr ⟨by omega,by omega⟩
 rcases z1i (rows:=rows) (z:=z) (upI 1 m.toNat) (z1D _ _) with ⟨f1,f2⟩|⟨k,v,f1,f2,f3,f4⟩
 ·rcases z1i (rows:=rows) (z:=z) (z0b ns) (z1j _) with ⟨e1,_⟩|⟨j,u,e1,e2,e3,_⟩
  ·rw[e1,f1]
  ·rw[f2 j (sub j e2)] at e3
   cases e3
 ·have hk:=z11.mp f2
  by_cases hin:k∈ns
  ·rcases z1i (rows:=rows) (z:=z) (z0b ns) (z1j _) with ⟨e1,e2⟩|⟨j,u,e1,e2,e3,e4⟩
   ·rw[e2 k ((inr k).mpr hin)] at f3
    cases f3
   ·rcases Int.lt_trichotomy j k with h|h|h
    ·rw[e4 k ((inr k).mpr hin) h] at f3
     cases f3
    ·subst h
     rw[e3] at f3
     cases f3
     rw[e1,f1]
    ·rw[f4 j (sub j e2) h] at e3
     cases e3
  ·have num:z0N (z0w (z0b ns) rows z)<k:=by
    rcases z1i (rows:=rows) (z:=z) (z0b ns) (z1j _) with ⟨e1,_⟩|⟨j,u,e1,e2,e3,_⟩
    ·rw[e1]
     show(0:Int)<k
     omega
    ·rw[e1]
     show j<k
     rcases Int.lt_trichotomy j k with h|h|h
     ·exact h
     ·exact absurd (h ▸ (inr j).mp e2) hin
     ·rw[f4 j (sub j e2) h] at e3
      cases e3
   have lk:k∈z1a ns:=by
    rcases hm with hm|⟨_,h0⟩
    ·have:=B4 m hm
     refine z0U.mpr ⟨⟨by omega,by omega⟩,hin,m,hm,?_⟩
     have:k≠m:=fun e=>hin (e ▸ hm)
     omega
    ·omega
   have t:z0M ns k r≠0:=fun e=>by
    have:k∈z1C ns r (z0N (z0w (z0b ns) rows z)):=by
     unfold z1C
     rw[bV,bQ,decide_eq_true_eq,decide_eq_true_eq]
     exact⟨lk,num,e⟩
    rw[d1] at this
    cases this
   have:k∈z1h ns rows r (z0N (z0w (z0b ns) rows z)) z:=by
    unfold z1h z2j
    rw[bV,bQ,decide_eq_true_eq,decide_eq_true_eq,if_neg t]
    exact⟨lk,num,y4o (by rw[f3];exact Option.some_ne_none _)⟩
   rw[a1] at this
   cases this
def y2y(Bk:BkP)(x:Addr)(fp:List Addr)(nm:List Str)(r:Int)(rows:List Row)(m:Nat)(H7 G:Hp)(lh:Addr)(ht:List Int)(tv:V)(log:List B7):Prop:=
 z0o fp H7 G/\G lh=some (.lst (ht.map V.int))/\lh∉fp/\ht.Pairwise (· < ·)/\(∀n∈ht,1≤n/\n≤(rows.length:Int))/\z9T ht m/\Bk G x fp nm r 1 rows log/\(∀n,n∈N5 log 1↔n∈ht)/\log.length=rows.length+ht.length/\A5 G (z7l nm ht rows r) tv
theorem y7h(M:Bl mg)(F:Fun K "law" "law" Y2 f fd){A3 A0:Addr}{Bk:BkP}{Sh:ShP}(O:U9 A3 ["write","deliver","latest","issue","deeds","deed","shelf"] Bk)(OS:T8 A0 ["put","had","latest"] Sh)
  (C6:Cal P w K mg base 1 "_law_at" z6C (Z6 K)) (D5:Cal P w K mg base 1 "_law_pick" z4g y2d) (K7:Cal P w K mg base 1 "_law_named" z4B y2H) (J4:Cal P w K mg base 3 "_law_numbers" z3m (z9M K))
  (O0:Cal P w K mg base 2 "_law_had" z7q y6L) (K4:Cal P w K mg base 5 "_law_same" z28 (y03 5)) (I0:Cal P w K mg base 3 "_law_table" z4C (y3Y K)) (N0:Cal P w K mg base 1 "_law_last" z5M (y5x K)) (K1:Cal P w K mg base 9 "_law_wanted" z3O (y1h K Sh))
  (K0:Cal P w K mg base 8 "knowledge" z5B (y5e Sh))
  (W2:Mkr P w K mg base 8 A3 "Book" z32 (y0U K A3 Bk)) (L5:D0 P w K mg base 8 A3 "write" z4J (z9s K Bk)) (E8:D0 P w K mg base 8 A3 "deliver" z3q (z7u Bk))
  (D9:K6 P w K mg base 8 A3 "shelf" z2J (z5l Bk Sh) [V.non]):A7 P w K mg base CX0 14 f fd plaw (y52 K):=by
 have nd:=y7k.nd
 refine F.ok y7k (fun vs H Q E h=>?_) (fun cdv A outer s H vs Q E hr h=>?_)
 ·obtain⟨a,ns,rfl,_⟩:=h
  rfl
 obtain⟨a,ns,rfl,hS,h63,q⟩:=h
 refine⟨_,(z04 (z0n (i:=1) nd rfl (Or.inl rfl) (z0q K7 (rm hr) rfl (z00 (z0v z1l (z0q C6 (rm hr) rfl (z00 (pv 0) (z00 z06 z03))) z06) (z00 (z0v z1M z06 (z0q D5 (rm hr) rfl (z00 (z0v z1d (z0q C6 (rm hr) rfl (z00 (pv 0) (z00 z06 z03))) z06) (z00 z06 z03)))) z03)))) (z04 (z0n (i:=2) nd rfl (Or.inl rfl) (z0q J4 (rm hr) rfl (z00 (pv 0) (z00 (pv 1) z03)))) (z04 (z0n (i:=3) nd rfl (Or.inl rfl) (z0q D5 (rm hr) rfl (z00 (z0q C6 (rm hr) rfl (z00 (pv 0) (z00 z06 z03))) (z00 z06 z03)))) (z04 (z0n (i:=4) nd rfl (Or.inl rfl) (z0q O0 (rm hr) rfl (z00 (z0q C6 (rm hr) rfl (z00 (pv 0) (z00 z06 z03))) (z00 (z0d z0f rfl M.len bW (z00 (pv 2) z03)) z03)))) (z04 (z0n (i:=5) nd rfl (Or.inl rfl) (z0d (z9o rfl) rfl M.max gC (z00 (z0v y2S (pv 4) (z1t (z00 z06 z03))) z03))) (z04 (z0n (i:=6) nd rfl (Or.inl rfl) (y3m W2 (rm hr) rfl (z00 (z0t z2M rfl M.list gB (z00 (pv 1) z03)) (z00 (pv 3) (z00 z06 z03))))) (z04 (z1c cG rfl (z1k (pv 2)) (z0j (i:=7) nd rfl (Or.inl rfl)) (z05 (z0B (z1Q L5 (rm hr) (pv 6) (z00 (z0t z2M rfl M.list gB (z00 (pv 7) z03)) z03))))) (z04 (z1c cG rfl (z1k (pv 4)) (z0j (i:=8) nd rfl (Or.inl rfl)) (z05 (z0B (z1Q E8 (rm hr) (pv 6) (z00 z06 (z00 (pv 8) z03)))))) (z04 (z0n (i:=9) nd rfl (Or.inl rfl) (z0q I0 (rm hr) rfl (z00 (pv 1) (z00 (pv 4) (z00 (pv 2) (z00 (pv 3) z03)))))) (z04 (y4w cG (z09 (y5g hr.P8) (z1f ["_law_one"] [] [] rfl (z0u rfl (by decide +kernel) rfl (by decide +kernel) rfl rfl) (z1W (pv 9)) (fun _ _ _ _ _=>(z0j (i:=0) (show((["_law_one"]:List PySem.Str)++([]:List PySem.Str)).Nodup from by decide +kernel) rfl (Or.inl rfl))) (z0y (by decide)) z0c (fun _ _ _ _ _=>(z21 (z09 z8K (z0Q (r:=M0 K) z0H (pv 0) z06 (fun _ _=>rfl)) z2Q (z0m _)))) (fun _ _ _ _ _=>(pv 0))) (z1t z03) (z0m _)) (z04 (z0R (z6n (z5d (z0q K4 (rm hr) rfl (z00 (z0q K0 (rm hr) rfl (z00 (z9b D9 (rm hr) (pv 6) (z00 z06 z03)) z03)) (z00 (pv 9) z03))))) (z05 (z0i z7Q)) z0p) (z04 (z0n (i:=10) nd rfl (Or.inl rfl) (z0q K1 (rm hr) rfl (z00 (z9b D9 (rm hr) (pv 6) (z00 z06 z03)) (z00 (pv 9) (z00 (pv 5) (z00 (pv 4) z03)))))) (z04 (z0R (PW.pt (z38 (z87 (z9J (pv 10))) (z2s (z09 (y5m hr.P8) (pv 10) (z1t z03) (z0m _))))) (z05 (z0i z7Q)) z0p) (z04 (z4G (i:=11) ["_law_one"] [] [] rfl nd rfl (Or.inl rfl) (z0u rfl (by decide +kernel) rfl (by decide +kernel) rfl rfl) (z1W (pv 9)) (fun _ _ _ _ _=>(z0j (i:=0) (show((["_law_one"]:List PySem.Str)++([]:List PySem.Str)).Nodup from by decide +kernel) rfl (Or.inl rfl))) (z0y (by decide)) z0c (fun _ _ _ _ _=>z26) (fun _ _ _ _ _=>(z0Q (r:=M0 K) z0H (pv 0) z06 (fun _ _=>rfl)))) (z04 (z1c cG rfl (z1k (z0d (z3Q rfl) rfl M.sorted eM (z00 (z0t (z50 rfl) rfl M.set gG (z00 (pv 10) z03)) z03))) (z0j (i:=8) nd rfl (Or.inl rfl)) (z05 (z0B (z1Q E8 (rm hr) (pv 6) (z00 z06 (z00 (pv 8) z03)))))) (z04 (z0n (i:=4) nd rfl (Or.inl rfl) (z0d (z3Q rfl) rfl M.sorted eM (z00 (z0t (z50 rfl) rfl M.set gG (z00 (z0v y2S (pv 4) (pv 10)) z03)) z03))) (z04 (z0n (i:=9) nd rfl (Or.inl rfl) (z0q I0 (rm hr) rfl (z00 (pv 1) (z00 (pv 4) (z00 (pv 2) (z00 (pv 3) z03)))))) (z05 (z0R (PW.pt (z4t (z09 z3d z2Q (pv 11) (by with_unfolding_all rfl)) (z2U (z09 z3d z2Q (z1f ["_law_one"] [] [] rfl (z0u rfl (by decide +kernel) rfl (by decide +kernel) rfl rfl) (z1W (pv 9)) (fun _ _ _ _ _=>(z0j (i:=0) (show((["_law_one"]:List PySem.Str)++([]:List PySem.Str)).Nodup from by decide +kernel) rfl (Or.inl rfl))) (z0y (by decide)) z0c (fun _ _ _ _ _=>z26) (fun _ _ _ _ _=>(z0Q (r:=M0 K) z0H (pv 0) z06 (fun _ _=>rfl)))) (by with_unfolding_all rfl))))) (z05 (z0i z7Q)) z0p)))))))))) (z04 (z0n (i:=12) nd rfl (Or.inl rfl) (z1t z03)) (z04 (z1c cG rfl (z1k (pv 1)) (z0j (i:=13) nd rfl (Or.inl rfl)) (z04 (z0n (i:=14) nd rfl (Or.inl rfl) (z0q N0 (rm hr) rfl (z00 (pv 2) (z00 (pv 5) (z00 (pv 13) z03))))) (z05 (z0B (z3I cE bX cD z0O (pv 12) (z00 (z0Y (z00 (pv 13) (z00 z2Q (z00 (z0Q z0H (pv 14) z06 (fun _ _=>rfl)) (z00 (z0Q z0H (pv 14) z06 (fun _ _=>rfl)) z03))))) z03)))))) (z05 (z0i (z0q K4 (rm hr) rfl (z00 (z0q K0 (rm hr) rfl (z00 (z9b D9 (rm hr) (pv 6) (z00 z06 z03)) z03)) (z00 (z0t z0s rfl M.tuple bL (z00 (pv 12) z03)) z03))))))))))))))))),?_⟩
 refine⟨_,rfl,a,ns,0,rfl,hS,dU 0,_,_,rfl,rfl,⟨by decide,by decide⟩,?_⟩
 refine⟨_,rfl,a,ns,0,rfl,hS,dU 0,_,_,rfl,rfl,(by show(0:Int)<16;decide),_,_,rfl,(by decide),fun nk h0 h1=>⟨_,_,rfl,rfl,?_⟩⟩
 refine⟨_,_,rfl,by omega,by omega,fun ln nm H1 nln s1 eN nlen N=>?_⟩
 have n1:1≤nm.length:=by omega
 have n12:nm.length≤12:=by omega
 have gn:E2 nm:=⟨n1,n12,N.nd⟩
 refine⟨_,rfl,_,rfl,a,ln,ns,nm,rfl,s1.seq hS,SqL.of eN,n1,n12,fun lr us rows H2 nlr s2 eR tl r60 R=>?_⟩
 refine⟨_,rfl,a,ns,4,rfl,(s1.trans s2).seq hS,by decide,_,_,rfl,(by decide),fun r r0 r1=>?_⟩
 have s12:=s1.trans s2
 have lus:us.length=rows.length:=by rw[tl.length,b7]
 refine⟨_,rfl,a,ns,5,rfl,s12.seq hS,by decide,_,rfl,lr,us,rfl,.inl (SqL.of eR),_,_,rfl,by omega,by omega,fun lh hs H3 nlh s3 e3 rise B4 hl60=>?_⟩
 have s13:=s12.trans s3
 have eN3:H3 ln=some (.lst (nm.map V.str)):=s3 _ _ (s2 _ _ eN)
 have eR3:H3 lr=some (.lst us):=s3 _ _ eR
 have tl3:z0a H3 (rows.map L9) us:=z0a.keep s3 _ _ tl
 have hsr:∀x∈hs,1≤x/\x≤(rows.length:Int):=fun x hx=>by have:=B4 x hx;omega
 have h60:∀x∈hs,1≤x/\x≤60:=fun x hx=>by have:=hsr x hx;omega
 obtain⟨m,it⟩:=y78 hs h60
 have mle:m≤rows.length:=by have:=it.le (k:=(rows.length:Int)) (by omega) fun x hx=>(hsr x hx).2;omega
 refine⟨_,rfl,(by show 1≤sizeLine;decide),fun l0 hl0=>⟨lh,l0,_,_,rfl,rfl,z01 hl0 _ _ _ e3,z02,?_,fun lc hlc=>?_⟩⟩
 ·rw[b7]
  exact eY (z0g (by show hs.length+1≤1000;omega))
 have sX:=(z01 hl0 (.lst [V.int 0])).trans (z01 hlc (.lst (hs.map V.int++[V.int 0])))
 have ex:upd (upd H3 l0 (.lst [V.int 0])) lc (.lst (hs.map V.int++[V.int 0])) lc=some (.lst ((hs++[0]).map V.int)):=by
  rw[z02,bD]
  rfl
 generalize upd (upd H3 l0 (.lst [V.int 0])) lc (.lst (hs.map V.int++[V.int 0]))=H4 at sX ex
 refine⟨lc,hs++[0],rfl,.inl (SqL.of ex),by simp,fun mx hmx top=>?_⟩
 have:=y6W it h60 hmx top
 subst this
 replace s13:=s13.trans sX
 replace eN3:=sX _ _ eN3
 replace eR3:=sX _ _ eR3
 replace tl3:=z0a.keep sX _ _ tl3
 replace e3:=sX _ _ e3
 refine⟨_,rfl,ln,nm.map V.str,rfl,.inl (SqL.of eN3),fun l1 hl1=>⟨_,rfl,fun x dx nx ndx ne=>?_⟩⟩
 have mm1:=z7t (C:=A3) (z01 hl1 (.lst (nm.map V.str))) nx ndx
 refine⟨x,dx,l1,nm,r,1,rfl,z02,ne,by rw[z0e ne,z02],.inl (SqL.of (y04 nx ndx z02)),gn,r0,by omega,by decide,by decide,fun fp H5 hfp b5 bk5=>⟨rfl,?_⟩⟩
 have s5:A4 H4 H5:=z7C b5 mm1 ((z01 hl1 _).free nx)
 have f5:∀b∈fp,H4 b=none:=fun b hb=>z5U mm1 ((z01 hl1 _).free nx) ((z01 hl1 _).free ndx) (hfp b hb)
 have out:∀{b:Addr}{o:HO},H4 b=some o->b∉fp:=fun e m=>by rw[f5 _ m] at e;cases e
 have ntp:z47 H5 fp:=O.N3 bk5
 have eR5:=s5 _ _ eR3
 have eN5:=s5 _ _ eN3
 have eL5:=s5 _ _ e3
 have tl5:z0a H5 (rows.map L9) us:=z0a.keep s5 _ _ tl3
 refine⟨_,rfl,lr,rfl,⟨_,SqL.of eR5⟩,z1s (K:=K) (a:=lr) (xs:=us) (fun i σ H'=>∃(fp':List Addr) (o:Option V),z0o fp H5 H'/\Bk H' x fp' nm r 1 (rows.take i) (M3 i)/\(∀b∈fp',b∈fp\/H5 b=none)/\
   σ=[some (.ref a),some (.ref ln),some (.ref lr),some (.int r),some (.ref lh),some (.int m),some (.ref x),o,none,none,none,none,none,none,none]) ⟨fp,none,.of (A4.refl _),bk5,fun b m=>.inl m,rfl⟩ (fun i σ H' _ ⟨_,_,bt,_⟩=>SqL.of (bt _ _ eR5 (out eR3))) ?_ ?_⟩
 ·rintro i u σ H' hi ⟨fp',o,bt,bk,ff,rfl⟩
  obtain⟨d,ed,td⟩:=(z0a.but bt ntp _ _ tl5).at i u hi
  rw[bH] at ed
  obtain⟨wr,ew,rfl⟩:=cJ.mp ed
  have hw:=bT ew
  have hi':i<rows.length:=(cH.mp ew).1
  obtain⟨ar,xs,rfl,er,_,tp⟩:=z0h td
  obtain⟨d2,g2,z2,w2⟩:=O.ins bk
  refine⟨_,rfl,x,d2,g2,rfl,z2,w2 _ (by simp),_,rfl,ar,xs,rfl,.inr (SqT.of er),fun l hl=>?_⟩
  have sl:=z01 hl (.lst xs)
  have el:upd H' l (.lst xs) l=some (.lst xs):=z02
  have nl:l∉fp':=fun m=>by
   obtain⟨o,e,_⟩:=O.own bk l m
   rw[hl] at e
   cases e
  have bk':=O.same bk sl
  have hts:=y0Z (z0a.keep sl _ _ tp)
  generalize upd H' l (.lst xs)=G at sl el bk' hts
  obtain⟨good,ino⟩:=y6m R N.nd hw
  have lti:(rows.take i).length=i:=by rw[bN];omega
  refine⟨x,.ref l,fp',nm,r,1,rows.take i,M3 i,wr,rfl,bk',⟨l,xs,rfl,.inl (SqL.of el),nl,HT.hand (O.N3 bk') hts⟩,good,y5k R n12 wr hw,by omega,by rw[z91];omega,fun fp2 H6 hf2 b6 bk6=>?_⟩
  rw[ino,lti,<- z0r ew,<- y31] at bk6
  exact⟨fp2,_,(fun b o e nb=>b6 b o (sl _ _ (bt b o e nb)) fun m=>(ff b m).elim nb fun z=>by rw[e] at z;cases z),bk6,y2k bt ff sl hf2,rfl⟩
 rintro σ H6 ⟨fp6,o6,bt6,bk6,ff6,rfl⟩
 rw[lus,bR] at bk6
 have f6:∀{b:Addr}{o:HO},H4 b=some o->b∉fp6:=fun e m=>(ff6 _ m).elim (out e) fun z=>by rw[s5 _ _ e] at z;cases z
 have eN6:=bt6 _ _ eN5 (out eN3)
 have eR6:=bt6 _ _ eR5 (out eR3)
 have eH6:=bt6 _ _ eL5 (out e3)
 have tl6:z0a H6 (rows.map L9) us:=z0a.but bt6 ntp _ _ tl5
 have hS6:SqL K H6 a (ns.map V.int):=by
  have h3:=s13.seq hS
  rcases h3 with (h|⟨o,h⟩)|h
  ·exact .inl (.inl (bt6 _ _ (s5 _ _ h) (out h)))
  ·exact .inl (.inr ⟨o,bt6 _ _ (s5 _ _ h) (out h)⟩)
  ·exact .inr h
 have kH:=f6 e3
 have kN:=f6 eN3
 have kR:=f6 eR3
 have own6:∀{b:Addr},H6 b=none->b∉fp6:=fun e m=>by
  obtain⟨o,e',_⟩:=O.own bk6 _ m
  rw[e] at e'
  cases e'
 clear bt6 ff6 bk5 b5 hfp f5 tl5 tl3 tl eN eR eR3 eN3 e3 eR5 eN5 eL5 s5 ntp hS s13 s12 s1 s2 s3 mm1 out f6 sX ex hmx top hlc hl0
 have r12:=y5k R n12
 have hup:∀n∈hs,n≤(rows.length:Int):=fun n hn=>(hsr n hn).2
 have hnd:hs.Nodup:=rise.imp fun h=>gH h
 have nt6:z47 H6 fp6:=O.N3 bk6
 refine⟨_,rfl,lh,rfl,⟨_,SqL.of eH6⟩,z1s (K:=K) (a:=lh) (xs:=hs.map V.int) (fun i σ G=>∃(o8:Option V),z0o fp6 H6 G/\Bk G x fp6 nm r 1 rows (M3 rows.length++J2 (hs.take i))/\
   σ=[some (.ref a),some (.ref ln),some (.ref lr),some (.int r),some (.ref lh),some (.int m),some (.ref x),o6,o8,none,none,none,none,none,none]) ⟨none,.of (A4.refl _),by rw[d6];exact(d7 (M3 rows.length)).symm ▸ bk6,rfl⟩ (fun i σ G _ ⟨_,bt,_⟩=>SqL.of (bt _ _ eH6 kH)) ?_ ?_⟩
 ·rintro i u σ G hi ⟨o8,bt,bk,rfl⟩
  rw[bH] at hi
  obtain⟨n,en,rfl⟩:=cJ.mp hi
  have hn:=hsr n (bT en)
  obtain⟨d2,g2,z2,w2⟩:=O.ins bk
  have ll:(M3 rows.length++J2 (hs.take i)).length<400:=by
   rw[bI,z91]
   unfold J2
   rw[b7,bN]
   omega
  refine⟨_,rfl,x,d2,g2,rfl,z2,w2 _ (by simp),_,rfl,x,fp6,nm,r,1,rows,_,1,n,rfl,bk,by decide,by decide,hn.1,hn.2,ll,fun G1 b1 bk1=>?_⟩
  rw[fG,<- z9V,<- z0r en] at bk1
  exact⟨_,fun b o e nb=>b1 b o (bt b o e nb) nb,bk1,rfl⟩
 rintro σ H7 ⟨o8,bt7,bk7,rfl⟩
 rw[b7,bR] at bk7
 have eN7:=bt7 _ _ eN6 kN
 have eR7:=bt7 _ _ eR6 kR
 have eH7:=bt7 _ _ eH6 kH
 have tl7:z0a H7 (rows.map L9) us:=z0a.but bt7 nt6 _ _ tl6
 have gm7:∀n,n∈N5 (M3 rows.length++J2 hs) 1↔n∈hs:=fun n=>y6X n
 have lg7:(M3 rows.length++J2 hs).length=rows.length+hs.length:=by
  rw[bI,z91]
  unfold J2
  rw[b7]
 generalize M3 rows.length++J2 hs=log7 at bk7 gm7 lg7
 clear bt7 bk6 eN6 eR6 eH6 tl6 hS6 nt6
 have nt7:z47 H7 fp6:=O.N3 bk7
 refine⟨_,rfl,_,rfl,_,rfl,_,rfl,ln,lh,lr,nm,hs,us,rows,r,rfl,SqL.of eN7,n12,eH7,by omega,hnd,h60,hup,SqL.of eR7,tl7,r12,r0,fun tv H8 s8 tt=>?_⟩
 have W6:∀{G:Hp}{ht:List Int}{tvv:V},z0b ht=ht->A5 G (z7l nm ht rows r) tvv->∃(ta:Addr) (xs:List V),tvv=.ref ta/\G ta=some (.tup xs)/\xs.length=nm.length/\∀(k:Nat) (u:V),xs[k]? = some u->∃(z:Str) (b:Addr),nm[k]? = some z/\u=.ref b/\G b=some (.tup [.str z,.str (stN ht rows r z),.int (z0N (z0w ht rows z)),hvV (z0w ht rows z)]):=fun {G ht tvv} e2 h=>by
  obtain⟨ta,xs,rfl,ea,lx,tat⟩:=y2c h
  refine⟨ta,xs,rfl,ea,lx,fun k u e=>?_⟩
  have hk:k<nm.length:=by have:=(cH.mp e).1;omega
  obtain⟨b,eb,hb⟩:=tat k nm[k] (bG hk)
  rw[e] at eb
  cases eb
  unfold Y8 at hb
  rw[e2] at hb
  exact⟨nm[k],b,bG hk,rfl,hb⟩
 refine⟨fun μ σ G=>∃(lh':Addr) (tvv:V) (ht:List Int) (log:List B7) (p8 p10 p11:Option V),y2y Bk x fp6 nm r rows m H7 G lh' ht tvv log/\μ=60-ht.length/\
   σ=[some (.ref a),some (.ref ln),some (.ref lr),some (.int r),some (.ref lh'),some (.int m),some (.ref x),o6,p8,some tvv,p10,p11,none,none,none],⟨_,lh,tv,hs,log7,_,_,_,⟨.of s8,s8 _ _ eH7,kH,rise,hsr,it,O.same bk7 s8,gm7,lg7,tt⟩,rfl,rfl⟩,?_⟩
 rintro μ σ G ⟨lh',tvv,ht,log,p8,p10,p11,⟨bt,eH,kHt,riset,htr,itt,bk,gm,lgl,tT⟩,rfl,rfl⟩
 have X0:∀n∈ht,1≤n/\n≤60:=fun n hn=>by have:=htr n hn;omega
 have e2:z0b ht=ht:=z5p riset X0 fun _=>Iff.rfl
 have htl:ht.length≤60:=by rw[<- e2];exact z2G _
 have htn:ht.Nodup:=riset.imp fun h=>gH h
 have htu:∀n∈ht,n≤(rows.length:Int):=fun n hn=>(htr n hn).2
 have e3:z0b (N5 log 1)=ht:=z5p riset X0 gm
 have T2:∀n∈N5 log 1,1≤n/\n≤(rows.length:Int):=fun n hn=>htr n ((gm n).mp hn)
 obtain⟨ta,xs,rfl,ea,lx,tab⟩:=W6 e2 tT
 refine⟨_,rfl,ta,rfl,⟨_,SqT.of ea⟩,?_⟩
 refine z1r (xs:=xs) (fun j ys G2=>G2=G/\ys.length≤j/\(ys=[]↔∀(k:Nat) (z:Str),k<j->nm[k]? = some z->stN ht rows r z="sure")) ⟨rfl,bB _,⟨fun _ k z h=>absurd h (fB _),fun _=>rfl⟩⟩ (fun j ys G2 hj hp=>?_) (fun j u ys G2 hu hp=>?_) (fun ys G2 hp=>?_)
 ·obtain⟨rfl,hl,_⟩:=hp
  exact⟨SqT.of ea,z0g (by omega)⟩
 ·obtain⟨rfl,hl,hi⟩:=hp
  obtain⟨z,b,ez,rfl,eb⟩:=tab j u hu
  refine⟨_,rfl,b,_,1,_,rfl,rfl,SqT.of eb,rfl,rfl,_,rfl,A9 (fun c=>?_) (fun c=>?_)⟩
  ·have ns:stN ht rows r z≠"sure":=fun e=>by
    rw[decide_eq_true (congrArg V.str e)] at c
    exact absurd c (by decide)
   refine⟨_,rfl,rfl,by rw[bI];exact hW hl,⟨fun e=>by simp at e,fun e=>absurd (e j z (e8 _) ez) ns⟩⟩
  ·have ss:stN ht rows r z="sure":=cZ fun e=>c (by rw[decide_eq_false (fun h=>e (V.str.inj h))];rfl)
   refine⟨rfl,Nat.le_succ_of_le hl,hi.trans ⟨fun h k z' hk ek=>?_,fun h k z' hk ek=>h k z' (dC hk) ek⟩⟩
   rcases Nat.lt_succ_iff_lt_or_eq.mp hk with h'|h'
   ·exact h k z' h' ek
   ·subst h'
    rw[ez] at ek
    cases ek
    exact ss
 obtain⟨rfl,hyl,hyi⟩:=hp
 rw[lx] at hyi
 have alls:(∀(k:Nat) (z:Str),k<nm.length->nm[k]? = some z->stN ht rows r z="sure")↔∀z∈nm,stN ht rows r z="sure":=⟨fun h z hz=>by
  obtain⟨k,hk,e⟩:=List.getElem_of_mem hz
  exact h k z hk (by rw[bG hk,e]),fun h k z _ e=>h z (bT e)⟩
 rw[alls] at hyi
 intro D hD
 have sD:=z01 hD (.lst ys)
 have eD:upd G2 D (.lst ys) D=some (.lst ys):=z02
 generalize upd G2 D (.lst ys)=GD at sD eD
 refine⟨(by show 0≤sizeLine;decide),fun e0 he0=>⟨D,e0,ys,rfl,rfl,SqL.of (z01 he0 _ _ _ eD),SqL.of z02,_,rfl,?_⟩⟩
 have s0:=sD.trans (z01 he0 (.lst []))
 generalize upd GD e0 (.lst [])=G3 at s0
 have bt3:=bt.then s0
 have bk3:=O.same bk s0
 have eH3:=s0 _ _ eH
 have eN3:=bt3 _ _ eN7 kN
 have eR3:=bt3 _ _ eR7 kR
 have tl3:z0a G3 (rows.map L9) us:=z0a.but bt3 nt7 _ _ tl7
 have tT3:=A5.keep s0 _ _ tT
 have nt3:z47 G3 fp6:=O.N3 bk3
 have ea3:=s0 _ _ ea
 have tab3:∀(k:Nat) (u:V),xs[k]? = some u->∃(z:Str) (b:Addr),nm[k]? = some z/\u=.ref b/\G3 b=some (.tup [.str z,.str (stN ht rows r z),.int (z0N (z0w ht rows z)),hvV (z0w ht rows z)]):=fun k u e=>by
  obtain⟨z,b,h1,h2,h3⟩:=tab k u e
  exact⟨z,b,h1,h2,s0 _ _ h3⟩
 have own3:∀{b:Addr},G3 b=none->b∉fp6:=fun e mm=>by
  obtain⟨o,e',_⟩:=O.own bk3 _ mm
  rw[e] at e'
  cases e'
 clear sD eD s0 hD he0 eH bk bt
 refine A9 (fun c=>?_) (fun c=>?_)
 ·have w0t:∃z∈nm,stN ht rows r z≠"sure":=cZ fun h=>by
   have:ys=[]:=hyi.mpr fun z hz=>cZ fun e=>h ⟨z,hz,e⟩
   rw[this] at c
   exact absurd c (by decide)
  refine⟨fun σ' G'=>∃μ',μ'<60-ht.length/\∃(lh':Addr) (tvv:V) (ht:List Int) (log:List B7) (p8 p10 p11:Option V),y2y Bk x fp6 nm r rows m H7 G' lh' ht tvv log/\μ'=60-ht.length/\
   σ'=[some (.ref a),some (.ref ln),some (.ref lr),some (.int r),some (.ref lh'),some (.int m),some (.ref x),o6,p8,some tvv,p10,p11,none,none,none],fun σ' H' h=>h,?_⟩
  obtain⟨d3,g3,z3,w3⟩:=O.ins bk3
  refine⟨_,rfl,x,d3,g3,rfl,z3,w3 _ (by simp),x,fp6,nm,r,1,rows,_,1,none,rfl,bk3,by decide,by decide,(fun d h=>by cases h),fun x5 f5 G4 fn5 g4 sh5=>?_⟩
  rw[show log.take (Option.getD none log.length)=log from bR] at sh5
  refine⟨x5,f5,nm,r,rows,_,rfl,sh5,gn,R,r60,T2,r0,by omega,fun kv G5 g5 tk=>?_⟩
  rw[e3] at tk
  have c5:=g4.trans g5
  refine⟨_,rfl,kv,.ref ta,rfl,(z5u _ _ _ tk (A5.keep c5 _ _ tT3)).mono (cO (z8b _ _ _ _) (by decide)),fun G6 g6=>⟨_,rfl,C3 ?_⟩⟩
  have c6:=c5.trans g6
  have bk6':=O.same bk3 c6
  obtain⟨d4,g4',z4,w4⟩:=O.ins bk6'
  refine⟨_,rfl,x,d4,g4',rfl,z4,w4 _ (by simp),x,fp6,nm,r,1,rows,_,1,none,rfl,bk6',by decide,by decide,(fun d h=>by cases h),fun x6 f6 G7 fn6 g7 sh6=>?_⟩
  rw[show log.take (Option.getD none log.length)=log from bR] at sh6
  have c7:=c6.trans g7
  refine⟨_,rfl,_,rfl,_,rfl,x6,lh',.ref ta,f6,nm,r,rows,_,ht,m,rfl,sh6,gn,R,r60,T2,r0,by omega,A5.keep c7 _ _ tT3,c7 _ _ eH3,riset,gm,itt,fun lw ws G8 nlw g8 eW wo=>?_⟩
  have c8:=c7.trans g8
  have wne:ws≠[]:=wo.2.2.2 w0t
  have w60:∀n∈ws,1≤n/\n≤60/\n≤(m:Int)/\n∉ht:=fun n hn=>by
   obtain⟨⟨q1,q2⟩,q3,y,hy,q4⟩:=z0U.mp (wo.1 n hn)
   have:=itt.2 y hy
   exact⟨q1,by omega,by omega,q3⟩
  have wq:∀n∈ws,1≤n/\n≤60:=fun n hn=>⟨(w60 n hn).1,(w60 n hn).2.1⟩
  refine⟨_,rfl,_,rfl,C3 ⟨_,rfl,(by show 0≤sizeLine;decide),fun e1 he1=>⟨lw,e1,_,rfl,rfl,SqL.of (z01 he1 _ _ _ eW),SqL.of z02,_,rfl,?_⟩⟩⟩
  rw[show(ws.map V.int).isEmpty=false by cases ws with|nil=>exact absurd rfl wne|cons y t=>rfl]
  have s9:=z01 he1 (.lst [])
  generalize upd G8 e1 (.lst [])=G9 at s9
  have c9:=c8.trans s9
  have eW9:=s9 _ _ eW
  refine⟨_,rfl,ta,rfl,⟨_,SqT.of (c9 _ _ ea3)⟩,?_⟩
  refine z1r (xs:=xs) (fun j ys G=>G=G9/\ys=((nm.take j).map (stN ht rows r)).map V.str) ⟨rfl,rfl⟩ (fun j ys G hj hp=>?_) (fun j u ys G hu hp=>?_) (fun ys G hp=>?_)
  ·obtain⟨rfl,rfl⟩:=hp
   refine⟨SqT.of (c9 _ _ ea3),z0g ?_⟩
   rw[b7,b7,bN]
   omega
  ·obtain⟨rfl,rfl⟩:=hp
   obtain⟨z,b,ez,rfl,eb⟩:=tab3 j u hu
   refine⟨_,rfl,b,_,1,_,rfl,rfl,SqT.of (c9 _ _ eb),rfl,rfl,?_⟩
   rw[z0r ez,bD,bD]
   rfl
  obtain⟨rfl,rfl⟩:=hp
  rw[lx,bR]
  intro DW hDW
  have sW:=z01 hDW (.lst ((nm.map (stN ht rows r)).map V.str))
  have eDW:upd G DW (.lst ((nm.map (stN ht rows r)).map V.str)) DW=some (.lst ((nm.map (stN ht rows r)).map V.str)):=z02
  generalize upd G DW (.lst ((nm.map (stN ht rows r)).map V.str))=GA at sW eDW
  have cA:=c9.trans sW
  refine⟨_,rfl,lw,ws,rfl,.inl (SqL.of (sW _ _ eW9)),by have:=wo.2.1;omega,fun l3 hl3=>⟨l3,_,rfl,z02,y3v wq,fun l4 ms nl4 pm pw=>?_⟩⟩
  rw[z6H wq pm pw]
  have nl4':upd GA l3 (O1 P w l3 ws) l4=none:=nl4
  have s3:=z01 hl3 (O1 P w l3 ws)
  have s4:=s3.trans (z01 nl4' (.lst ((z0b ws).map V.int)))
  have cB:=cA.trans s4
  have k4:l4∉fp6:=fun mm=>by
   obtain⟨o,e',_⟩:=O.own (O.same bk3 (cA.trans s3)) _ mm
   rw[nl4'] at e'
   cases e'
  have e4:upd (upd GA l3 (O1 P w l3 ws)) l4 (.lst ((z0b ws).map V.int)) l4=some (.lst ((z0b ws).map V.int)):=z02
  have bkB:=O.same bk3 cB
  have kW:lw∉fp6:=fun mm=>by
   obtain⟨o,e',_⟩:=O.own (O.same bk3 c7) _ mm
   rw[nlw] at e'
   cases e'
  have kD:DW∉fp6:=fun mm=>by
   obtain⟨o,e',_⟩:=O.own (O.same bk3 c9) _ mm
   rw[hDW] at e'
   cases e'
  have wr60:=z2G ws
  refine⟨l4,rfl,⟨_,SqL.of e4⟩,z1s (K:=K) (a:=l4) (xs:=(z0b ws).map V.int) (fun i σ G=>∃(q8:Option V),z0o fp6 G3 G/\G l4=some (.lst ((z0b ws).map V.int))/\G lw=some (.lst (ws.map V.int))/\G DW=some (.lst ((nm.map (stN ht rows r)).map V.str))/\Bk G x fp6 nm r 1 rows (log++J2 ((z0b ws).take i))/\
   σ=[some (.ref a),some (.ref ln),some (.ref lr),some (.int r),some (.ref lh'),some (.int m),some (.ref x),o6,q8,some (.ref ta),some (.ref lw),some (.ref DW),none,none,none]) ⟨_,.of cB,e4,s4 _ _ (sW _ _ eW9),s4 _ _ eDW,by rw[d6];exact(d7 log).symm ▸ bkB,rfl⟩ (fun i σ G _ ⟨_,_,e,_⟩=>SqL.of e) ?_ ?_⟩
  ·rintro i u σ G' hi ⟨q8,bt',e4',eW',eD',bk',rfl⟩
   rw[bH] at hi
   obtain⟨n,en,rfl⟩:=cJ.mp hi
   have hn:=w60 n (z0L.mp (bT en)).2
   obtain⟨d2,g2,z2,w2⟩:=O.ins bk'
   have ll:(log++J2 ((z0b ws).take i)).length<400:=by
    rw[bI]
    unfold J2
    rw[b7,bN]
    omega
   refine⟨_,rfl,x,d2,g2,rfl,z2,w2 _ (by simp),_,rfl,x,fp6,nm,r,1,rows,_,1,n,rfl,bk',by decide,by decide,hn.1,by omega,ll,fun G1 b1 bk1=>?_⟩
   rw[fG,<- z9V,<- z0r en] at bk1
   exact⟨_,fun b o e nb=>b1 b o (bt' b o e nb) nb,b1 _ _ e4' k4,b1 _ _ eW' kW,b1 _ _ eD' kD,bk1,rfl⟩
  rintro σ GC ⟨q8,btC,_,eWC,eDC,bkC,rfl⟩
  rw[b7,bR] at bkC
  have eHC:=btC _ _ eH3 kHt
  have q60:∀n∈ht++ws,1≤n/\n≤60:=fun n hn=>(bO.mp hn).elim (X0 n) (wq n)
  have wl60:=wo.2.1
  refine⟨_,rfl,_,rfl,lh',lw,_,_,rfl,rfl,eHC,eWC,?_,fun lc hlc=>?_⟩
  ·rw[b7,b7]
   exact eY (z0g (by omega))
  have sc:=z01 hlc (.lst (ht.map V.int++ws.map V.int))
  have ec:upd GC lc (.lst (ht.map V.int++ws.map V.int)) lc=some (.lst ((ht++ws).map V.int)):=by rw[z02,bD]
  generalize upd GC lc (.lst (ht.map V.int++ws.map V.int))=GD at sc ec
  refine⟨lc,_,rfl,.inl (SqL.of ec),by rw[bI];omega,fun l5 hl5=>⟨l5,_,rfl,z02,y3v q60,fun l6 ms2 nl6 pm2 pw2=>?_⟩⟩
  rw[z6H q60 pm2 pw2]
  have nl6':upd GD l5 (O1 P w l5 (ht++ws)) l6=none:=nl6
  have s5:=z01 hl5 (O1 P w l5 (ht++ws))
  have s6:=s5.trans (z01 nl6' (.lst ((z0b (ht++ws)).map V.int)))
  have k6:l6∉fp6:=fun mm=>by
   obtain⟨o,e',_⟩:=O.own (O.same bkC (sc.trans s5)) _ mm
   rw[nl6'] at e'
   cases e'
  have e6:upd (upd GD l5 (O1 P w l5 (ht++ws))) l6 (.lst ((z0b (ht++ws)).map V.int)) l6=some (.lst ((z0b (ht++ws)).map V.int)):=z02
  have sE:=sc.trans s6
  have S8:∀n,n∈z0b (ht++ws)↔n∈ht\/n∈ws:=fun n=>by
   rw[z0L,bO]
   exact⟨fun h=>h.2,fun h=>⟨by have:=q60 n (bO.mpr h);omega,h⟩⟩
  have Q6:=z1j (ht++ws)
  have T7:(z0b (ht++ws)).length=ht.length+(z0b ws).length:=by
   have n1:(ht++z0b ws).Nodup:=fF.mpr ⟨htn,(z1j ws).imp fun h=>gH h,fun y hy z hz e=>(w60 z (z0L.mp hz).2).2.2.2 (e ▸ hy)⟩
   have a1:=z8l n1 (l2:=z0b (ht++ws)) fun y hy=>(S8 y).mpr ((bO.mp hy).imp id fun h=>(z0L.mp h).2)
   have a2:=z8l (l1:=z0b (ht++ws)) (l2:=ht++z0b ws) (Q6.imp fun h=>gH h) fun y hy=>bO.mpr (((S8 y).mp hy).imp id fun h=>z0L.mpr ⟨by have:=wq y h;omega,h⟩)
   rw[bI] at a1 a2
   omega
  have wpos:0<(z0b ws).length:=by
   obtain⟨y,hy⟩:=gN _ wne
   exact fP.mpr fun e=>by
    have:y∈z0b ws:=z0L.mpr ⟨by have:=wq y hy;omega,hy⟩
    rw[e] at this
    cases this
  have hl2:=z2G (ht++ws)
  have bkE:=O.same bkC sE
  have bE:=(fun b o e nb=>sE _ _ (btC b o (bt3 b o e nb) nb):z0o fp6 H7 _)
  generalize z0b (ht++ws)=ht2 at e6 S8 Q6 T7 hl2 bkE bE s6 sE ⊢
  have h2r:∀n∈ht2,1≤n/\n≤(rows.length:Int):=fun n hn=>((S8 n).mp hn).elim (htr n) fun h=>by have:=w60 n h;omega
  have Y4:∀n∈ht2,1≤n/\n≤60:=fun n hn=>by have:=h2r n hn;omega
  have it2:z9T ht2 m:=by
   refine⟨.inl ?_,fun y hy=>((S8 y).mp hy).elim (itt.2 y) fun h=>(w60 y h).2.2.1⟩
   rcases itt.1 with h|⟨h,_⟩
   ·exact(S8 _).mpr (.inl h)
   ·obtain⟨y,hy⟩:=gN _ wne
    obtain⟨_,_,y',hy',_⟩:=z0U.mp (wo.1 y hy)
    rw[h] at hy'
    cases hy'
  have eNE:=bE _ _ eN7 kN
  have eRE:=bE _ _ eR7 kR
  have tlE:=z0a.but bE nt7 _ _ tl7
  refine⟨_,rfl,_,rfl,_,rfl,_,rfl,ln,l6,lr,nm,ht2,us,rows,r,rfl,SqL.of eNE,n12,e6,by omega,Q6.imp (fun h=>gH h),Y4,fun n hn=>(h2r n hn).2,SqL.of eRE,tlE,r12,r0,fun tv2 GF gF tt2=>?_⟩
  have gm2:∀n,n∈N5 (log++J2 (z0b ws)) 1↔n∈ht2:=fun n=>by
   rw[S8,<- gm,z8P,z8P,bO]
   refine⟨fun h=>h.imp id fun h=>?_,fun h=>h.imp id fun h=>?_⟩
   ·unfold J2 at h
    obtain⟨k,hk,e⟩:=cF.mp h
    cases e
    exact(z0L.mp hk).2
   ·unfold J2
    exact cF.mpr ⟨n,z0L.mpr ⟨by have:=wq n h;omega,h⟩,rfl⟩
  have fin:∀{G':Hp},A4 GF G'->y2y Bk x fp6 nm r rows m H7 G' l6 ht2 tv2 (log++J2 (z0b ws)):=fun {G'} s=>⟨z0o.then bE (gF.trans s),(gF.trans s) _ _ e6,k6,Q6,h2r,it2,O.same bkE (gF.trans s),gm2,by
   rw[bI,lgl,T7]
   unfold J2
   rw[b7]
   omega,A5.keep s _ _ tt2⟩
  refine⟨_,rfl,DW,_,rfl,.inl (SqL.of (gF _ _ (sE _ _ eDC))),rfl,z2I _,_,rfl,?_⟩
  rw[if_neg bF,z6B]
  refine A9 (fun co=>?_) (fun co=>?_)
  ·obtain⟨z0,hz0,ez0⟩:=cF.mp (z0A co)
   obtain⟨as,pk⟩:=wo.2.2.1 ⟨z0,hz0,ez0⟩
   have nop:∀z∈nm,stN ht2 rows r z≠"open":=fun z hz=>y1U pk riset Q6 S8 Y4 itt hz
   obtain⟨tb,xs2,rfl,eb2,lx2,tab2⟩:=W6 (z5p Q6 Y4 fun _=>Iff.rfl) tt2
   refine⟨_,rfl,tb,rfl,⟨_,SqT.of eb2⟩,?_⟩
   refine z1r (xs:=xs2) (fun j ys G=>G=GF/\ys=((nm.take j).map (stN ht2 rows r)).map V.str) ⟨rfl,rfl⟩ (fun j ys G hj hp=>?_) (fun j u ys G hu hp=>?_) (fun ys G hp=>?_)
   ·obtain⟨rfl,rfl⟩:=hp
    refine⟨SqT.of eb2,z0g ?_⟩
    rw[b7,b7,bN]
    omega
   ·obtain⟨rfl,rfl⟩:=hp
    obtain⟨z,b,ez,rfl,eb⟩:=tab2 j u hu
    refine⟨_,rfl,b,_,1,_,rfl,rfl,SqT.of eb,rfl,rfl,?_⟩
    rw[z0r ez,bD,bD]
    rfl
   obtain⟨rfl,rfl⟩:=hp
   rw[lx2,bR]
   intro D2 hD2
   refine⟨D2,_,rfl,.inl (SqL.of z02),rfl,z2I _,_,rfl,?_⟩
   rw[if_neg bF,z6B,decide_eq_false (fun h=>by obtain⟨z,hz,e⟩:=cF.mp h;exact nop z hz e)]
   exact C3 ⟨_,(by omega),l6,_,ht2,_,_,_,_,fin (z01 hD2 _),rfl,rfl⟩
  ·exact⟨_,(by omega),l6,_,ht2,_,_,_,_,fin (A4.refl _),rfl,rfl⟩
 ·have sure:∀z∈nm,stN ht rows r z="sure":=hyi.mp (by
   cases ys with
   | nil=>rfl
   | cons y t=>exact absurd rfl c)
  refine⟨(by show 0≤sizeLine;decide),fun ld hld=>?_⟩
  have sl:=z01 hld (.lst [])
  refine⟨_,rfl,ln,rfl,⟨_,SqL.of (sl _ _ eN3)⟩,z1s (K:=K) (a:=ln) (xs:=nm.map V.str) (fun i σ G=>∃(ts:List V) (o13 o14:Option V),A4 G3 G/\G ld=some (.lst ts)/\z0a G ((nm.take i).map (R4 ht rows r)) ts/\
   σ=[some (.ref a),some (.ref ln),some (.ref lr),some (.int r),some (.ref lh'),some (.int m),some (.ref x),o6,p8,some (.ref ta),p10,p11,some (.ref ld),o13,o14]) ⟨[],none,none,sl,z02,by rw[d6];exact .nil,rfl⟩ (fun i σ G _ ⟨_,_,_,g,_⟩=>SqL.of (g _ _ eN3)) ?_ ?_⟩
  ·rintro i y σ G hi ⟨ts,o13,o14,g,eT,tTs,rfl⟩
   rw[bH] at hi
   obtain⟨z,hz,rfl⟩:=cJ.mp hi
   have hzm:=bT hz
   have lts:ts.length≤12:=by
    rw[tTs.length,b7,bN]
    omega
   refine⟨_,rfl,_,rfl,_,rfl,lr,us,rows,m,z,rfl,SqL.of (g _ _ eR3),z0a.keep g _ _ tl3,mle,by omega,fun w hw=>(R.sub w hw).nodup gn.nd,fun hv G1 g1 th=>?_⟩
   have eqh:z0w ht rows z=z0w (upI 1 m) rows z:=by
    have:=y2l (ns:=ht) (rows:=rows) (r:=r) (m:=(m:Int)) (z:=z) X0 itt.2 (itt.1.imp id fun h=>⟨h.1,by rw[h.2];rfl⟩) (by rw[e2];exact sure z hzm)
    rw[e2,fE] at this
    exact this
   rw[<- eqh] at th
   obtain⟨ah,yv,rfl,eh,ty⟩:=z3n th
   have sah:SqT K G1 ah [V.int (z0N (z0w ht rows z)),yv]:=SqT.of eh
   refine⟨_,rfl,.inl ⟨rfl,_,SqL.of (g1 _ _ eT)⟩,_,rfl,_,rfl,ah,_,0,_,rfl,rfl,sah,rfl,_,rfl,ah,_,1,_,rfl,rfl,sah,rfl,(by show 4≤sizeLine;decide),fun t ht'=>?_⟩
   have st:=z01 ht' (.tup [V.str z,V.str "sure",V.int (z0N (z0w ht rows z)),yv])
   have g2:=g1.trans st
   refine⟨ld,_,_,rfl,rfl,g2 _ _ eT,z0g (by omega),?_⟩
   refine⟨_,_,_,fun b o e=>by rw[z0e (z0l e hld)];exact g2 _ _ (g b o e),z02,?_,rfl⟩
   rw[z0r hz,bD]
   refine z0a.over (g2 _ _ eT) (fun _ e=>by cases e) _ _ (z0a.snoc (z0a.keep g2 _ _ tTs) ?_)
   show A5 _ (R4 ht rows r z) _
   unfold R4
   rw[e2,show z0K ht rows r (z0N (z0w ht rows z)) z="sure" from sure z hzm]
   exact z0x z02 (by show 4≤1000000;decide) (.cons (z1P _) (.cons (z1P _) (.cons (z0z _) (.cons (A5.keep st _ _ ty) .nil))))
  ·rintro σ G ⟨ts,o13,o14,g,eT,tTs,rfl⟩
   rw[b7,bR] at tTs
   have bkG:=O.same bk3 g
   obtain⟨d3,g3,z3,w3⟩:=O.ins bkG
   refine⟨_,rfl,x,d3,g3,rfl,z3,w3 _ (by simp),x,fp6,nm,r,1,rows,_,1,none,rfl,bkG,by decide,by decide,(fun d h=>by cases h),fun x5 f5 G4 fn5 g4 sh5=>?_⟩
   rw[show log.take (Option.getD none log.length)=log from bR] at sh5
   refine⟨x5,f5,nm,r,rows,_,rfl,sh5,gn,R,r60,T2,r0,by omega,fun kv G5 g5 tk=>?_⟩
   rw[e3] at tk
   refine⟨_,rfl,ld,ts,rfl,.inl ⟨SqL.of ((g4.trans g5) _ _ eT),fun t ht'=>?_⟩⟩
   have st:=z01 ht' (.tup ts)
   exact⟨kv,.ref t,rfl,(z5u _ _ _ (A5.keep st _ _ tk) (z0x z02 (by rw[b7];omega) (z0a.keep (g4.trans (g5.trans st)) _ _ tTs))).mono (cO (z8b _ _ _ _) (by decide)),fun G6 g6=>q _⟩
end
theorem y6M{l:PySem.W.OpenLaw}{w:World}{K:PySem.W.Frag}{h:Heap}{mg:Str->Option Value}{fa:Addr}(X:K.In h)(G:h.Ns mainGlobals mg)(hfa:mg "law"=some (.ref fa))
  {f0 f1 f2 f3 f4 f5 f6 f7 f8 f9 f10 f11 f12 f13 f14 f15 f16 f17 f18 f19 f20 f21 f22 f23 f24 f25 f26 f27 f28 f29 f30 f31 f32 f33 f34 f35 f36 f37 f38 f39 f40 f41 f42 f43 f44 f45 f46 f47 f48 f49 f50 f51 f52 f53 f54 f55 f56 f57 f58 f59 f60 f61 f62 f63 f64 f65 f66 A1 A0 A3 T18 T45:Addr}{S0 S2 Q2 S1 Q4 R9 w0w Y3 w0z Z3 W3:Tok}
  (cOffice:DfC K "Office" A1)
  (cShelf:DfC K "Shelf" A0)
  (cBook:DfC K "Book" A3)
  (nOffice_names:PySem.W.findIn K (.ref A1) "names"=some none)
  (nOffice_reach:PySem.W.findIn K (.ref A1) "reach"=some none)
  (nOffice_written:PySem.W.findIn K (.ref A1) "written"=some none)
  (nShelf_names:PySem.W.findIn K (.ref A0) "names"=some none)
  (nShelf_reach:PySem.W.findIn K (.ref A0) "reach"=some none)
  (nShelf_issues:PySem.W.findIn K (.ref A0) "issues"=some none)
  (nBook_office:PySem.W.findIn K (.ref A3) "office"=some none)
  (nBook_readers:PySem.W.findIn K (.ref A3) "readers"=some none)
  (nBook_done:PySem.W.findIn K (.ref A3) "done"=some none)
  (a0:DfT K "lacking_numbers" z2o .none f0)
  (a1:DfT K "reached_by" z4P .none f1)
  (a2:DfT K "teller_of" z5N .none f2)
  (a3:DfT K "lacking_with_tellers" z1v .none f3)
  (a4:DfT K "dark_numbers" z3y .none f4)
  (a5:DfT K "dark_numbers_behind" z1G .none f5)
  (a6:DfT K "refuse_bad_names" z1Z .none f6)
  (a7:DfT K "refuse_bad_reach" z20 .none f7)
  (a8:DfT K "bulletin_names" z2D .none f8)
  (a9:DfT K "refuse_unknown_name" z1F .none f9)
  (a10:DfT K "held_for" z7E .none f10)
  (a11:DfT K "names_told_of" z2Z .none f11)
  (a12:DfT K "gaps_of" z8x .none f12)
  (a13:DfT K "set_again" z5r .none f13)
  (a14:DfT K "state_of" z7r .none f14)
  (a15:DfT K "state_and_held" z2H .none f15)
  (a16:DfT K "knowledge" z5t .none f16)
  (a17:DfT K "fewest_numbers" z2A .none f17)
  (a18:DfT K "send_for" z7B (.ref T18) f18)
  (a19:DfT K "tail_for" z7H .none f19)
  (a20:DfT K "refuse_bad_value" z27 .none f20)
  (a21:DfT K "refuse_bad_rows" z2p .none f21)
  (a22:DfT K "rows_in_order" z30 .none f22)
  (a23:DfT K "names_of_rows" z2T .none f23)
  (a24:DfM K A1 "__init__" "Office.__init__" z2m .none f24)
  (a25:DfM K A1 "refuse_writing" "Office.refuse_writing" z1n .none f25)
  (a26:DfM K A1 "write" "Office.write" z3k .none f26)
  (a27:DfM K A1 "latest" "Office.latest" z36 .none f27)
  (a28:DfM K A1 "issue" "Office.issue" z3p .none f28)
  (a29:DfM K A0 "__init__" "Shelf.__init__" z2x .none f29)
  (a30:DfM K A0 "put" "Shelf.put" z5H .none f30)
  (a31:DfM K A0 "had" "Shelf.had" z5E .none f31)
  (a32:DfM K A0 "latest" "Shelf.latest" z3o .none f32)
  (a33:DfM K A0 "rows_of" "Shelf.rows_of" z31 .none f33)
  (a34:DfM K A0 "tail_of" "Shelf.tail_of" z35 .none f34)
  (a35:DfT K "refuse_bad_readers" z1L .none f35)
  (a36:DfM K A3 "__init__" "Book.__init__" z33 .none f36)
  (a37:DfM K A3 "refuse_unknown_reader" "Book.refuse_unknown_reader" z0V .none f37)
  (a38:DfM K A3 "refuse_further_deed" "Book.refuse_further_deed" z15 .none f38)
  (a39:DfM K A3 "write" "Book.write" z4T .none f39)
  (a40:DfM K A3 "deliver" "Book.deliver" z3w .none f40)
  (a41:DfM K A3 "latest" "Book.latest" z3L .none f41)
  (a42:DfM K A3 "issue" "Book.issue" z4A .none f42)
  (a43:DfM K A3 "deeds" "Book.deeds" z4y .none f43)
  (a44:DfM K A3 "deed" "Book.deed" z60 .none f44)
  (a45:DfM K A3 "shelf" "Book.shelf" z4L (.ref T45) f45)
  (a46:DfT K "_law_at" z8Q .none f46)
  (a47:DfT K "_law_pick" z5Z .none f47)
  (a48:DfT K "_law_row" z7s .none f48)
  (a49:DfT K "_law_whole" z4x .none f49)
  (a50:DfT K "_law_same" z4f .none f50)
  (a51:DfT K "_law_named" z4E .none f51)
  (a52:DfT K "_law_doubled" z3r .none f52)
  (a53:DfT K "_law_sets" z5O .none f53)
  (a54:DfT K "_law_value" z4Q .none f54)
  (a55:DfT K "_law_valued" z3M .none f55)
  (a56:DfT K "_law_had" z6X .none f56)
  (a57:DfT K "_law_teller" z42 .none f57)
  (a58:DfT K "_law_gaps" z5x .none f58)
  (a59:DfT K "_law_held" z5P .none f59)
  (a60:DfT K "_law_again" z4D .none f60)
  (a61:DfT K "_law_state" z4M .none f61)
  (a62:DfT K "_law_table" z4w .none f62)
  (a63:DfT K "_law_numbers" z3u .none f63)
  (a64:DfT K "_law_last" z5X .none f64)
  (a65:DfT K "_law_wanted" z3S .none f65)
  (a66:DfT K "law" Y2 .none f66)
  (d18:DfD K T18 #[Value.none])
  (d45:DfD K T45 #[Value.none])
  (zlen:PySem.W.nsIn K mainGlobals "len"=some none) (zrange:PySem.W.nsIn K mainGlobals "range"=some none) (ztuple:PySem.W.nsIn K mainGlobals "tuple"=some none) (zlist:PySem.W.nsIn K mainGlobals "list"=some none) (zmax:PySem.W.nsIn K mainGlobals "max"=some none) (zmin:PySem.W.nsIn K mainGlobals "min"=some none) (zsorted:PySem.W.nsIn K mainGlobals "sorted"=some none) (zisinstance:PySem.W.nsIn K mainGlobals "isinstance"=some none) (zbool:PySem.W.nsIn K mainGlobals "bool"=some none) (zint:PySem.W.nsIn K mainGlobals "int"=some none) (zstr:PySem.W.nsIn K mainGlobals "str"=some none) (zset:PySem.W.nsIn K mainGlobals "set"=some none) (zreversed:PySem.W.nsIn K mainGlobals "reversed"=some none) (zdict:PySem.W.nsIn K mainGlobals "dict"=some none) (zzip:PySem.W.nsIn K mainGlobals "zip"=some none) (zall:PySem.W.nsIn K mainGlobals "all"=some none) (vMOST_NAMES:PySem.W.nsIn K mainGlobals "MOST_NAMES"=some (some (.int 12 S0))) (vMOST_REACH:PySem.W.nsIn K mainGlobals "MOST_REACH"=some (some (.int 10 S2))) (vMOST_NUMBERS:PySem.W.nsIn K mainGlobals "MOST_NUMBERS"=some (some (.int 60 Q2))) (vMOST_VALUE:PySem.W.nsIn K mainGlobals "MOST_VALUE"=some (some (.int 1000000 S1))) (vMOST_READERS:PySem.W.nsIn K mainGlobals "MOST_READERS"=some (some (.int 10 Q4))) (vMOST_DEEDS:PySem.W.nsIn K mainGlobals "MOST_DEEDS"=some (some (.int 400 R9))) (vSURE:PySem.W.nsIn K mainGlobals "SURE"=some (some (.str "sure" w0w))) (vSTALE:PySem.W.nsIn K mainGlobals "STALE"=some (some (.str "stale" Y3))) (vOPEN:PySem.W.nsIn K mainGlobals "OPEN"=some (some (.str "open" w0z))) (vWRITE:PySem.W.nsIn K mainGlobals "WRITE"=some (some (.str "write" Z3))) (vDELIVER:PySem.W.nsIn K mainGlobals "DELIVER"=some (some (.str "deliver" W3))) :
  ∃fd:FuncData,(∀(s:Shared) (v:Value),BindsTo s fd ⟨[v],[]⟩ [("_law_script",v)])/\∀base:Heap,K.In base->base.Ns mainGlobals mg->A7 l.prog w K mg base CX0 14 fa fd ["_law_script"] (y52 K):=by
 have M:Bl mg:=⟨cP X G zlen,cP X G zrange,cP X G ztuple,cP X G zlist,cP X G zmax,cP X G zmin,cP X G zsorted,cP X G zisinstance,cP X G zbool,cP X G zint,cP X G zstr,cP X G zset,cP X G zreversed,cP X G zdict,cP X G zzip,cP X G zall,⟨_,dE X G vMOST_NAMES⟩,⟨_,dE X G vMOST_REACH⟩,⟨_,dE X G vMOST_NUMBERS⟩,⟨_,dE X G vMOST_VALUE⟩,⟨_,dE X G vMOST_READERS⟩,⟨_,dE X G vMOST_DEEDS⟩,⟨_,dE X G vSURE⟩,⟨_,dE X G vSTALE⟩,⟨_,dE X G vOPEN⟩,⟨_,dE X G vWRITE⟩,⟨_,dE X G vDELIVER⟩⟩
 have D1:F9 K mg A1:=⟨cOffice.cls,cOffice.nm X G,nOffice_names,nOffice_reach,nOffice_written⟩
 have C2:C4 K mg A0:=⟨cShelf.cls,cShelf.nm X G,nShelf_names,nShelf_reach,nShelf_issues⟩
 have C8:F3 K mg A3:=⟨cBook.cls,cBook.nm X G,nBook_office,nBook_readers,nBook_done⟩
 obtain⟨_,Flacking_numbers⟩:=z0C X G a0
 obtain⟨_,Freached_by⟩:=z0C X G a1
 obtain⟨_,Fteller_of⟩:=z0C X G a2
 obtain⟨_,Flacking_with_tellers⟩:=z0C X G a3
 obtain⟨_,Fdark_numbers⟩:=z0C X G a4
 obtain⟨_,Fdark_numbers_behind⟩:=z0C X G a5
 obtain⟨_,Frefuse_bad_names⟩:=z0C X G a6
 obtain⟨_,Frefuse_bad_reach⟩:=z0C X G a7
 obtain⟨_,Fbulletin_names⟩:=z0C X G a8
 obtain⟨_,Frefuse_unknown_name⟩:=z0C X G a9
 obtain⟨_,Fheld_for⟩:=z0C X G a10
 obtain⟨_,Fnames_told_of⟩:=z0C X G a11
 obtain⟨_,Fgaps_of⟩:=z0C X G a12
 obtain⟨_,Fset_again⟩:=z0C X G a13
 obtain⟨_,Fstate_of⟩:=z0C X G a14
 obtain⟨_,Fstate_and_held⟩:=z0C X G a15
 obtain⟨_,Fknowledge⟩:=z0C X G a16
 obtain⟨_,Ffewest_numbers⟩:=z0C X G a17
 obtain⟨_,Fsend_for⟩:=y6y X G a18 d18
 have U7:=Fsend_for.1.binds (ps:=["shelf","name"]) (ds:=[]) fun _ _ _ _ _ _ us hl=>T7 (p:=fun us=>∃k,bindArgs _ ⟨us,[]⟩=seqItems? _ >>= k/\k (some _)=pure (List.zip _ (us++[]))) hl fun _ _=>⟨_,rfl,rfl⟩
 have T5:=Fsend_for.1.binds (ps:=["shelf","name"]) (ds:=[Value.none]) fun _ _ _ _ _ _ us hl=>Q3 (p:=fun us=>∃k,bindArgs _ ⟨us,[]⟩=seqItems? _ >>= k/\k (some _)=pure (List.zip _ (us++[Value.none]))) (Nat.succ.inj (hl)) fun _=>⟨_,rfl,rfl⟩
 obtain⟨_,Ftail_for⟩:=z0C X G a19
 obtain⟨_,Frefuse_bad_value⟩:=z0C X G a20
 obtain⟨_,Frefuse_bad_rows⟩:=z0C X G a21
 obtain⟨_,Frows_in_order⟩:=z0C X G a22
 obtain⟨_,Fnames_of_rows⟩:=z0C X G a23
 obtain⟨_,FOffice___init__⟩:=y0y cOffice a24
 obtain⟨_,FOffice_refuse_writing⟩:=z1A a25
 obtain⟨_,FOffice_write⟩:=z1A a26
 obtain⟨_,FOffice_latest⟩:=z1A a27
 obtain⟨_,FOffice_issue⟩:=z1A a28
 obtain⟨_,FShelf___init__⟩:=y0y cShelf a29
 obtain⟨_,FShelf_put⟩:=z1A a30
 obtain⟨_,FShelf_had⟩:=z1A a31
 obtain⟨_,FShelf_latest⟩:=z1A a32
 obtain⟨_,FShelf_rows_of⟩:=z1A a33
 obtain⟨_,FShelf_tail_of⟩:=z1A a34
 obtain⟨_,Frefuse_bad_readers⟩:=z0C X G a35
 obtain⟨_,FBook___init__⟩:=y0y cBook a36
 obtain⟨_,FBook_refuse_unknown_reader⟩:=z1A a37
 obtain⟨_,FBook_refuse_further_deed⟩:=z1A a38
 obtain⟨_,FBook_write⟩:=z1A a39
 obtain⟨_,FBook_deliver⟩:=z1A a40
 obtain⟨_,FBook_latest⟩:=z1A a41
 obtain⟨_,FBook_issue⟩:=z1A a42
 obtain⟨_,FBook_deeds⟩:=z1A a43
 obtain⟨_,FBook_deed⟩:=z1A a44
 obtain⟨_,FBook_shelf⟩:=y4e a45 d45
 have S3:=FBook_shelf.1.binds (ps:=["self","reader","deed"]) (ds:=[]) fun _ _ _ _ _ _ us hl=>w06 (p:=fun us=>∃k,bindArgs _ ⟨us,[]⟩=seqItems? _ >>= k/\k (some _)=pure (List.zip _ (us++[]))) hl fun _ _ _=>⟨_,rfl,rfl⟩
 have R7:=FBook_shelf.1.binds (ps:=["self","reader","deed"]) (ds:=[Value.none]) fun _ _ _ _ _ _ us hl=>T7 (p:=fun us=>∃k,bindArgs _ ⟨us,[]⟩=seqItems? _ >>= k/\k (some _)=pure (List.zip _ (us++[Value.none]))) (Nat.succ.inj (hl)) fun _ _=>⟨_,rfl,rfl⟩
 obtain⟨_,F_law_at⟩:=z0C X G a46
 obtain⟨_,F_law_pick⟩:=z0C X G a47
 obtain⟨_,F_law_row⟩:=z0C X G a48
 obtain⟨_,F_law_whole⟩:=z0C X G a49
 obtain⟨_,F_law_same⟩:=z0C X G a50
 obtain⟨_,F_law_named⟩:=z0C X G a51
 obtain⟨_,F_law_doubled⟩:=z0C X G a52
 obtain⟨_,F_law_sets⟩:=z0C X G a53
 obtain⟨_,F_law_value⟩:=z0C X G a54
 obtain⟨_,F_law_valued⟩:=z0C X G a55
 obtain⟨_,F_law_had⟩:=z0C X G a56
 obtain⟨_,F_law_teller⟩:=z0C X G a57
 obtain⟨_,F_law_gaps⟩:=z0C X G a58
 obtain⟨_,F_law_held⟩:=z0C X G a59
 obtain⟨_,F_law_again⟩:=z0C X G a60
 obtain⟨_,F_law_state⟩:=z0C X G a61
 obtain⟨_,F_law_table⟩:=z0C X G a62
 obtain⟨_,F_law_numbers⟩:=z0C X G a63
 obtain⟨_,F_law_last⟩:=z0C X G a64
 obtain⟨_,F_law_wanted⟩:=z0C X G a65
 obtain⟨_,Flaw⟩:=z0C X G a66
 have e:=hfa.symm.trans Flaw.2
 cases e
 refine⟨_,y30 Flaw.1,fun base _ _=>?_⟩
 have Y6:=y15 (P:=l.prog) (w:=w) (base:=base) M F_law_same.1 (b2 F_law_same.1) F_law_same.2
 have cal:=@calF l.prog w K mg base
 have mcl:=@mclF l.prog w K mg base
 have mkr:=@mkrF l.prog w K mg base
 have C6:=cal F_law_at (w0C M F_law_at.1) (b2 F_law_at.1)
 have D5:=cal F_law_pick (y5L F_law_pick.1) (b2 F_law_pick.1)
 have C1:=cal F_law_row (y6E M F_law_row.1) (b3 F_law_row.1)
 have K3:=cal F_law_teller (y1H M F_law_teller.1) (b3 F_law_teller.1)
 have L3:=cal F_law_whole (y54 M F_law_whole.1) (b1 F_law_whole.1)
 have K7:=cal F_law_named (y57 M F_law_named.1) (b2 F_law_named.1)
 have J0:=cal F_law_doubled (y1t M F_law_doubled.1) (b1 F_law_doubled.1)
 have L7:=cal F_law_value (y4m F_law_value.1) (b2 F_law_value.1)
 have D6:=cal Frefuse_bad_names (y0c M Frefuse_bad_names.1) (b1 Frefuse_bad_names.1)
 have D7:=cal Frefuse_bad_reach (y0j M Frefuse_bad_reach.1) (b1 Frefuse_bad_reach.1)
 have K5:=mcl C2.cl FShelf_put (y72 (A0:=A0) M C2 FShelf_put.1) (b2 FShelf_put.1)
 have B1:=mcl C2.cl FShelf_had (y4G (A0:=A0) M C2 FShelf_had.1) (b1 FShelf_had.1)
 have M7:=cal F_law_held (y47 M F_law_held.1) (b3 F_law_held.1)
 have L8:=cal F_law_again (y50 M F_law_again.1) (b3 F_law_again.1)
 have K9:=cal Freached_by (y1v M Freached_by.1) (b2 Freached_by.1)
 have B3:=cal Frefuse_unknown_name (y6I M Frefuse_unknown_name.1) (b2 Frefuse_unknown_name.1)
 have D8:=cal Frefuse_bad_value (y3E M Frefuse_bad_value.1) (b1 Frefuse_bad_value.1)
 have F5:=cal Frows_in_order (y21 M Frows_in_order.1) (b2 Frows_in_order.1)
 have G0:=cal Fnames_of_rows (y4g M Fnames_of_rows.1) (b1 Fnames_of_rows.1)
 have F8:=mcl D1.cl FOffice_latest (y0m (A1:=A1) M D1 FOffice_latest.1) (b1 FOffice_latest.1)
 have B6:=mcl D1.cl FOffice_issue (y1P (A1:=A1) M D1 FOffice_issue.1) (b2 FOffice_issue.1)
 have C9:=cal Frefuse_bad_readers (z8E M Frefuse_bad_readers.1) (b1 Frefuse_bad_readers.1)
 have A6:=mcl C8.cl FBook_refuse_unknown_reader (z9G (A3:=A3) (A1:=A1) M C8 FBook_refuse_unknown_reader.1) (b2 FBook_refuse_unknown_reader.1)
 have A8:=mcl C8.cl FBook_refuse_further_deed (y26 (A3:=A3) (A1:=A1) M C8 FBook_refuse_further_deed.1) (b1 FBook_refuse_further_deed.1)
 have X7:=mcl C8.cl FBook_deeds (y1o (A3:=A3) (A1:=A1) M C8 FBook_deeds.1) (b1 FBook_deeds.1)
 have E7:=cal Flacking_numbers (y64 M Flacking_numbers.1) (b1 Flacking_numbers.1)
 have M5:=cal Fteller_of (y3w M Fteller_of.1) (b3 Fteller_of.1)
 have F2:=mcl C2.cl FShelf_tail_of (y2K (A0:=A0) M C2 FShelf_tail_of.1) (b2 FShelf_tail_of.1)
 have F4:=mcl C2.cl FShelf_rows_of (y2z (A0:=A0) M C2 FShelf_rows_of.1) (b2 FShelf_rows_of.1)
 have N0:=cal F_law_last (y5a M F_law_last.1) (b3 F_law_last.1)
 have Z5:=mcl C8.cl FBook_deed (y2R (A3:=A3) (A1:=A1) M C8 FBook_deed.1) (b2 FBook_deed.1)
 have O0:=cal F_law_had (y7i M F_law_had.1 C1.up) (b2 F_law_had.1)
 have M9:=cal F_law_sets (y6w M F_law_sets.1 C1.up J0.up) (b3 F_law_sets.1)
 have K2:=cal F_law_valued (y3d M F_law_valued.1 C1.up L7.up) (b2 F_law_valued.1)
 have B9:=cal Fbulletin_names (y0d M Fbulletin_names.1 D6.up D7.up) (b2 Fbulletin_names.1)
 have W8:=mcl C2.cl FShelf_latest (y2M (A0:=A0) M C2 FShelf_latest.1 B1.up) (b1 FShelf_latest.1)
 have M8:=cal F_law_gaps (y6r M F_law_gaps.1 K3.up) (b3 F_law_gaps.1)
 have K8:=cal F_law_state (y2q M F_law_state.1 L8.up) (b3 F_law_state.1)
 have O2:=cal Ftail_for (y5Q M Ftail_for.1 K9.up) (b2 Ftail_for.1)
 have E6:=cal Frefuse_bad_rows (y1V M Frefuse_bad_rows.1 B3.up D8.up) (b2 Frefuse_bad_rows.1)
 have E8:=mcl C8.cl FBook_deliver (z9v (A3:=A3) (A1:=A1) M C8 FBook_deliver.1 B6.up A6.up A8.up) (b3 FBook_deliver.1)
 have B2:=cal Flacking_with_tellers (y6V M Flacking_with_tellers.1 E7.up M5.up) (b2 Flacking_with_tellers.1)
 have F7:=cal Fnames_told_of (y6s (A0:=A0) M C2 Fnames_told_of.1 F2.up) (b3 Fnames_told_of.1)
 have B8:=cal Fheld_for (y1k (A0:=A0) M C2 Fheld_for.1 B3.up B1.up F4.up) (b2 Fheld_for.1)
 have X5:=mcl C8.cl FBook_latest (y0b (A3:=A3) (A1:=A1) M C8 FBook_latest.1 F8.up) (b1 FBook_latest.1)
 have Y1:=mcl C8.cl FBook_issue (y1m (A3:=A3) (A1:=A1) M C8 FBook_issue.1 B6.up) (b2 FBook_issue.1)
 have J4:=cal F_law_numbers (y1s F_law_numbers.1 C6.up D5.up M9.up K2.up) (b2 F_law_numbers.1)
 have Q8:=mkr C2.mgC FShelf___init__ (y2N (A0:=A0) M C2 FShelf___init__.1 B9.up) (b3 FShelf___init__.1)
 have I0:=cal F_law_table (y58 M F_law_table.1 M8.up M7.up K8.up) (b4 F_law_table.1)
 have Q7:=mkr D1.mgC FOffice___init__ (y2s (A1:=A1) M D1 FOffice___init__.1 B9.up) (b3 FOffice___init__.1)
 have B0:=mcl D1.cl FOffice_refuse_writing (y1u (A1:=A1) M D1 FOffice_refuse_writing.1 E6.up) (b2 FOffice_refuse_writing.1)
 have J1:=cal Fdark_numbers (y5K M Fdark_numbers.1 B2.up) (b2 Fdark_numbers.1)
 have P7:=cal Fgaps_of (y3G (A0:=A0) M C2 Fgaps_of.1 B1.up B2.up F7.up) (b1 Fgaps_of.1)
 have J5:=mcl D1.cl FOffice_write (y1A (A1:=A1) M D1 FOffice_write.1 B0.up G0.up F5.up O2.up) (b2 FOffice_write.1)
 have W2:=mkr C8.mgC FBook___init__ (y2C (A3:=A3) (A1:=A1) M C8 FBook___init__.1 Q7.up C9.up) (b4 FBook___init__.1)
 have X6:D0 l.prog w K mg base 6 A3 "shelf" z2J (z5l (BkD K A3 A1) (ShD K A0)):=.mk' C8.cl (z8f (A3:=A3) (A1:=A1) (A0:=A0) M C8 D1 FBook_shelf.1 B6.up A6.up Q8.up K5.up) S3 FBook_shelf.2
 have D9:K6 l.prog w K mg base 6 A3 "shelf" z2J (z5l (BkD K A3 A1) (ShD K A0)) [V.non]:=.mk' (.cons rfl .nil) C8.cl (z8f (A3:=A3) (A1:=A1) (A0:=A0) M C8 D1 FBook_shelf.1 B6.up A6.up Q8.up K5.up) R7 FBook_shelf.2
 have B5:=cal Fdark_numbers_behind (y3j M Fdark_numbers_behind.1 J1.up) (b3 Fdark_numbers_behind.1)
 have E4:=cal Fset_again (y0g (A0:=A0) M C2 Fset_again.1 B8.up P7.up) (b2 Fset_again.1)
 have L5:=mcl C8.cl FBook_write (y1I (A3:=A3) (A1:=A1) M C8 FBook_write.1 B0.up J5.up A8.up) (b2 FBook_write.1)
 have E3:=cal Fstate_of (y27 (A0:=A0) M C2 Fstate_of.1 B8.up E4.up B1.up B5.up) (b2 Fstate_of.1)
 have D3:=cal Ffewest_numbers (y2Y M Ffewest_numbers.1 B5.up) (b3 Ffewest_numbers.1)
 have E9:=cal Fstate_and_held (z9L (A0:=A0) M Fstate_and_held.1 B8.up E3.up) (b2 Fstate_and_held.1)
 have w08:Cal l.prog w K mg base 6 "send_for" z43 (z5h (ShD K A0)):=.mk' (z8g (A0:=A0) M C2 Fsend_for.1 B8.up E3.up B1.up D3.up) U7 Fsend_for.1.kp Fsend_for.2
 have M6:P6 l.prog w K mg base 6 "send_for" z43 (z5h (ShD K A0)) [V.non]:=.mk' (.cons rfl .nil) (z8g (A0:=A0) M C2 Fsend_for.1 B8.up E3.up B1.up D3.up) T5 Fsend_for.1.kp Fsend_for.2
 have K0:=cal Fknowledge (y05 (A0:=A0) M C2 Fknowledge.1 E9.up) (b1 Fknowledge.1)
 have K1:=cal F_law_wanted (y3D (A0:=A0) (Sh:=(ShD K A0)) M F_law_wanted.1 F6 L3.up M6.up E4.up) (b4 F_law_wanted.1)
 exact y7h M Flaw.1 Z2 F6 C6.up D5.up K7.up J4.up O0.up (Y6 5) I0.up N0.up K1.up K0.up W2.up L5.up E8.up D9.up
theorem walk{l:PySem.W.OpenLaw}{q:Program}{loose:List Str}{XP:(Str->Option Value)->Heap->Prop}{YP:World->Heap->Prop}{d:DefRec}{K:Params->PySem.W.Frag}(hn:l.most=some 63)(hdf:d.params.defaults=[])
  (hY:∀(w:World) (h:Heap),YP w h->(K w.params).In h)
  (F:∀(w:World) (mg:Str->Option Value) (fa:Addr) (h:Heap),(K w.params).In h->h.Ns mainGlobals mg->mg d.name=some (.ref fa)->
   ∃fd:FuncData,(∀(s:Shared) (u:Value),BindsTo s fd ⟨[u],[]⟩ [("_law_script",u)])/\∀base:Heap,(K w.params).In base->base.Ns mainGlobals mg->A7 l.prog w (K w.params) mg base CX0 14 fa fd ["_law_script"] (y52 (K w.params))) :
  PySem.W.WalkO q loose XP YP l.row.toRowW d [] (fun f vs=>PySem.call f vs):=
 L2.y68 (n:=63) (k:=14) (x:="_law_script") (CX:=fun _=>CX0) (sp:=fun w=>y52 (K w.params)) hn (by decide) hdf ⟨rfl,by decide,by decide⟩ hY F (fun _ _ a ns hl _ hS=>⟨a,ns,rfl,hS,hl,fun _=>rfl⟩) fun _ _ _ _ _ z=>z
theorem w0N{q:Program}{loose:List Str}{XP:(Str->Option Value)->Heap->Prop}{r:PySem.W.RowW}{d:DefRec}{kwd:List (Str×Expr)}{run:Value->List Value->Sem Value}{K:Params->PySem.W.Frag}{ks:List Addr}{n t:Nat}(e:∀P,ks=(K P).map (·.1))
  (W:PySem.W.WalkO q loose XP (fun w h=>(K w.params).In h) r d kwd run):PySem.W.WalkX q loose XP (PySem.W.X.obsZ ks) (PySem.W.X.valZ K n t) r d kwd run:=
 fun w s₀ s₁ mg mb G y a o pm cd doc dV kV h1 h2 h3 h4 h5 h6 args vals as L g1 g2 g3 g4 g5=>W w s₀ s₁ mg mb G (PySem.W.InK.keeps w s₀.heap s₁.heap (PySem.W.X.z_facts e y).2.1 L.keeps) a o pm cd doc dV kV h1 h2 h3 h4 h5 h6 args vals as g1 g2 g3 g4 g5
end My
namespace PySem.W.Fast
def tw10047164759628909100:=()
def tw10273142699747419898:=()
def tw10328855265202031112:=()
def tw10399083599947749962:=()
def tw10462805256842813287:=()
def tw10485682509714344834:=()
def tw10508681742712845586:=()
def tw10534407126700949073:=()
def tw10553270445391874250:=()
def tw1073241639003647801:=()
def tw10815158233443139663:=()
def tw10830927323560490221:=()
def tw10838161527763194297:=()
def tw10887388176267015474:=()
def tw10894221664757241425:=()
def tw10910654609885764977:=()
def tw10988740841986680857:=()
def tw11005984493461745135:=()
def tw1102937536405392662:=()
def tw11058883847966653213:=()
def tw110669376785471479:=()
def tw11093485957236445830:=()
def tw11160108552243095919:=()
def tw11165931596540105203:=()
def tw11188042765579478726:=()
def tw11224599077047275909:=()
def tw11254268015464396359:=()
def tw11275811192016772054:=()
def tw11278949919935750389:=()
def tw11289756758364621724:=()
def tw11298004372486616531:=()
def tw11325080660344461895:=()
def tw11341999113836850363:=()
def tw11350452936918798749:=()
def tw11431733477170223532:=()
def tw11461505970174477019:=()
def tw11467449724908811161:=()
def tw11475485745593024821:=()
def tw11484735350041952478:=()
def tw11499564145441744490:=()
def tw1162349476318276953:=()
def tw11633678529897599889:=()
def tw11676383407096745445:=()
def tw11698689025911896216:=()
def tw11783776717574627721:=()
def tw11795728266485223599:=()
def tw11830392575484636578:=()
def tw11839276915804743658:=()
def tw11885164755010676392:=()
def tw11885581664262427456:=()
def tw11892045446949513416:=()
def tw11915272101270206192:=()
def tw11953449931098460308:=()
def tw1206751055858482942:=()
def tw1216433957004294400:=()
def tw12191180745685753377:=()
def tw12194953952207862674:=()
def tw12212910489575716769:=()
def tw1230398534754873240:=()
def tw12337064714336571626:=()
def tw12359407424472525306:=()
def tw12390281142876077010:=()
def tw12393114736190899026:=()
def tw1249269520080849485:=()
def tw12515530523769832822:=()
def tw1252788499704961204:=()
def tw12602234571495437662:=()
def tw12602304497159608862:=()
def tw12619999704460609209:=()
def tw126226961654048902:=()
def tw12800996226589279420:=()
def tw12878892917325525611:=()
def tw12934615176984665669:=()
def tw12941075944577891373:=()
def tw12956200032121796153:=()
def tw12977659623436358901:=()
def tw13030801767019804771:=()
def tw1304446169394205223:=()
def tw13064378695495868379:=()
def tw13228361367161106075:=()
def tw13274690657969295422:=()
def tw13357173703930585325:=()
def tw13443494054140980168:=()
def tw13445382865434265181:=()
def tw13472121355235409539:=()
def tw13507221972275346824:=()
def tw13563616784269460965:=()
def tw1362216487262247956:=()
def tw13624243524450558138:=()
def tw13641989019145165897:=()
def tw1364762775725387895:=()
def tw13693841712034056414:=()
def tw13712203606128621522:=()
def tw13776308121939059505:=()
def tw13822355969130242363:=()
def tw13824674410615229122:=()
def tw1389631261845204109:=()
def tw13930633347777263505:=()
def tw13957745291055206839:=()
def tw13992863722012419958:=()
def tw1406490564454001611:=()
def tw14119618767085617955:=()
def tw14129499705157876907:=()
def tw1421262565262973004:=()
def tw1426637158956556322:=()
def tw142922439550549434:=()
def tw14300760073888994269:=()
def tw14361611120927433129:=()
def tw14384511176978164869:=()
def tw14469688919045624827:=()
def tw14569153752810554729:=()
def tw14637080134322585027:=()
def tw14652793336333380631:=()
def tw14670934980333866773:=()
def tw14678393979377151787:=()
def tw14693634744150184625:=()
def tw14699177274915478743:=()
def tw14737145981110950490:=()
def tw14801754788425167195:=()
def tw14802143268918279646:=()
def tw14807559998122447842:=()
def tw14857302801043406509:=()
def tw14872866961929004562:=()
def tw14928587313351269401:=()
def tw14966192150748624546:=()
def tw15050414205550391117:=()
def tw150803124518072154:=()
def tw15091425727763319166:=()
def tw15103978798069433631:=()
def tw15162923173522883591:=()
def tw15185012038990513021:=()
def tw15191997380645393785:=()
def tw15202152952716572001:=()
def tw1523754282266312090:=()
def tw15285828059072660894:=()
def tw15302240992566920163:=()
def tw15348041178261785028:=()
def tw15535621581384717047:=()
def tw15569780824700249006:=()
def tw15576513181323860439:=()
def tw15630249346959746340:=()
def tw15850232425405323359:=()
def tw15891585006830248211:=()
def tw15985394853251104650:=()
def tw15994038125585989432:=()
def tw16048236532764885401:=()
def tw16054938663944802821:=()
def tw16096693684064128215:=()
def tw16118626996993793768:=()
def tw16162546507643908559:=()
def tw16167763999098378978:=()
def tw16196197576691807723:=()
def tw1620354070979085890:=()
def tw16216737480771605863:=()
def tw16232395482348936900:=()
def tw16235278041612314646:=()
def tw16288833411959800518:=()
def tw16342217759510998167:=()
def tw16447734592755511117:=()
def tw16501165383610693869:=()
def tw16576832782014540781:=()
def tw16596501565873741597:=()
def tw16681365164289578568:=()
def tw16926665921817239424:=()
def tw1694674685712898151:=()
def tw16964482464011155244:=()
def tw17038117729179983429:=()
def tw17045062683939368991:=()
def tw17047795332710612634:=()
def tw17073557329932083436:=()
def tw1712127268771588303:=()
def tw17144045808049519390:=()
def tw17150537848962044194:=()
def tw17190584639240650536:=()
def tw1721370219176470713:=()
def tw17233871817941536813:=()
def tw17265525186575502918:=()
def tw17321738539606894323:=()
def tw17405269789319508856:=()
def tw17526696313632341964:=()
def tw17558895930214053811:=()
def tw17603604247736070600:=()
def tw17607058057278086477:=()
def tw17615451947928607974:=()
def tw17618911560395195891:=()
def tw17837126688122526699:=()
def tw17936796537655915581:=()
def tw17937273489549515483:=()
def tw17952289994089634257:=()
def tw17967188424388076242:=()
def tw17968396621455251302:=()
def tw18011624285552281022:=()
def tw18012366628607190426:=()
def tw1802124270531143781:=()
def tw18028730840110646840:=()
def tw18037966952646897891:=()
def tw18052794560285528390:=()
def tw18099723422048061240:=()
def tw18105493841152908099:=()
def tw18137691248792082351:=()
def tw18139318616204120033:=()
def tw18169201919453368616:=()
def tw18211790016335216953:=()
def tw18277001877273643995:=()
def tw18357036544098292913:=()
def tw18386323859484223484:=()
def tw1886471704100848684:=()
def tw1981749083443435004:=()
def tw1983936097878366640:=()
def tw1995540564195041103:=()
def tw2036808480451454461:=()
def tw2071252060152681144:=()
def tw210093412703421094:=()
def tw2113516033569850046:=()
def tw2331510546969022158:=()
def tw2393714379591678379:=()
def tw2396506368215622935:=()
def tw2480109182021375105:=()
def tw2509054300891962348:=()
def tw2517723362862354959:=()
def tw2617496099358003439:=()
def tw2696705023431482759:=()
def tw2724695304500449844:=()
def tw2727234721901860659:=()
def tw2792539881185906189:=()
def tw2824210916006466071:=()
def tw2860448223035084797:=()
def tw2870999833632702263:=()
def tw2920076366457134053:=()
def tw2931790022996563700:=()
def tw295668109173819611:=()
def tw3041455915462299422:=()
def tw3113376476726937230:=()
def tw3289980989397472542:=()
def tw3326425612321384164:=()
def tw345194404485838851:=()
def tw3471050049170140719:=()
def tw3646372322943216791:=()
def tw3667022195065341843:=()
def tw366800486178080414:=()
def tw3759050309929552358:=()
def tw3845033849750309181:=()
def tw3878396600731958720:=()
def tw3880025001595912910:=()
def tw3883195071825102916:=()
def tw3950548356682110657:=()
def tw39669975236527765:=()
def tw3997483943055991689:=()
def tw4023296294264109861:=()
def tw4189631787579005121:=()
def tw4213153089420716678:=()
def tw4231197475887430996:=()
def tw4234914644461160417:=()
def tw4242890953556666964:=()
def tw424624268125982314:=()
def tw4247023284497152222:=()
def tw4265435327715432014:=()
def tw4300994809711122887:=()
def tw4322273695152350619:=()
def tw4328781973381458832:=()
def tw4430351932222827894:=()
def tw4455942157476846090:=()
def tw4467780121937357400:=()
def tw4472463909835041909:=()
def tw4513373373227155552:=()
def tw4524130847561065120:=()
def tw4529304619204729304:=()
def tw4531313648082603204:=()
def tw4552745327503229409:=()
def tw4721965798519502901:=()
def tw4874298173884694178:=()
def tw4910733955661626240:=()
def tw501890133363852194:=()
def tw5072143091486785744:=()
def tw5086891001322202479:=()
def tw5096138409485665113:=()
def tw5137563354811488174:=()
def tw5168586367309426729:=()
def tw5175660658000223530:=()
def tw5184577479403049560:=()
def tw5193591457937098612:=()
def tw5232745298432544144:=()
def tw5234585327117649330:=()
def tw5265930247903287578:=()
def tw5386531484287872486:=()
def tw5427493136035994943:=()
def tw5433285354959553379:=()
def tw5437177635449211520:=()
def tw5451883820387104668:=()
def tw5463892146407787197:=()
def tw5464145141708113074:=()
def tw5467592503815722415:=()
def tw5493884848819609852:=()
def tw5550203477279520655:=()
def tw5642129699863889447:=()
def tw566083454432273773:=()
def tw5744939436553945339:=()
def tw5759539338935628189:=()
def tw5764339805438876794:=()
def tw5807238181282596373:=()
def tw5830970770531214170:=()
def tw5853103096561567943:=()
def tw5884672182397369005:=()
def tw5894357451836173596:=()
def tw5919056790805588497:=()
def tw5990833995730559441:=()
def tw60179448561794262:=()
def tw6117122753777425638:=()
def tw6119868080833042296:=()
def tw6176729832588745953:=()
def tw6199800983119997153:=()
def tw6211752223308913371:=()
def tw6242253666668055699:=()
def tw6328796290786185941:=()
def tw6329782639158082536:=()
def tw6334009932400673886:=()
def tw6361725081813663039:=()
def tw6425446093569397727:=()
def tw6431500659623463553:=()
def tw6473583897419764267:=()
def tw6490471773237785268:=()
def tw6498716087085220869:=()
def tw649901725253670293:=()
def tw6516949711106428118:=()
def tw6537289531255555344:=()
def tw6570390985708023769:=()
def tw657168305167323862:=()
def tw6615055584391723093:=()
def tw6671729298889924081:=()
def tw6721637572868227339:=()
def tw6739726143591365124:=()
def tw6747690979473298170:=()
def tw6779426421180807176:=()
def tw6906755328329954178:=()
def tw6940456923640496570:=()
def tw6965319024452739704:=()
def tw6973695367828478628:=()
def tw7000660915275195375:=()
def tw7055652238941178590:=()
def tw7110961976161944526:=()
def tw7133180127450680965:=()
def tw7138560023651570228:=()
def tw7183995644896323139:=()
def tw7290240653392915251:=()
def tw730425719651429619:=()
def tw7328733502443364773:=()
def tw7348317036282833853:=()
def tw7379486477970145453:=()
def tw7398822506006228431:=()
def tw74001600362477413:=()
def tw7408955684275355898:=()
def tw742318933632075808:=()
def tw7432027355779528493:=()
def tw7453388556055992770:=()
def tw7503007000000618283:=()
def tw7569176053517903006:=()
def tw759542391410749493:=()
def tw7609470965024156848:=()
def tw7622949001233487096:=()
def tw7650284431838434805:=()
def tw765466613195606984:=()
def tw7703936433844578145:=()
def tw7827417960133199854:=()
def tw7851334980489386350:=()
def tw7868227546987488286:=()
def tw8004979646521372967:=()
def tw8022488131004782424:=()
def tw8032669595253780197:=()
def tw8047900591407625575:=()
def tw8057142505362621129:=()
def tw8088140446765639663:=()
def tw8088466886717226898:=()
def tw810048730495081:=()
def tw8104186464465735420:=()
def tw8121128101345489051:=()
def tw8130685696460131498:=()
def tw8164014172922366671:=()
def tw8224335796299263687:=()
def tw8296425386060047045:=()
def tw831049088018655432:=()
def tw8351901310917476515:=()
def tw8411311614902796601:=()
def tw8442857058970666882:=()
def tw8531697910547564955:=()
def tw856760497940747246:=()
def tw8594809539236517300:=()
def tw8632015264819469622:=()
def tw8654476017413745350:=()
def tw8663656521643731841:=()
def tw8698953307246439796:=()
def tw8719261158278970:=()
def tw8749275188573392640:=()
def tw8802331575014706419:=()
def tw8807693063965487353:=()
def tw8827032274619577527:=()
def tw8848937796265002531:=()
def tw884958601519961937:=()
def tw8863627972888384465:=()
def tw8977343953822853523:=()
def tw9085037190920810077:=()
def tw9129002322106506815:=()
def tw9169311683589839124:=()
def tw9173449989989548811:=()
def tw9181708918583944647:=()
def tw9211564836817739532:=()
def tw92307834647483629:=()
def tw9305638680230001338:=()
def tw9322958230833444081:=()
def tw9348543217329358702:=()
def tw9363469448566845828:=()
def tw9369535808531102346:=()
def tw9394852342479936253:=()
def tw9404903288376442706:=()
def tw9434359401044950408:=()
def tw9447622493348255267:=()
def tw9712431410773303427:=()
def tw9724113978880623939:=()
def tw9757911022131872299:=()
def tw9800348090663500891:=()
def tw9821863939739647007:=()
def tw9829242776679091401:=()
def tw9911229605809876131:=()
def tw9926212962133299531:=()
def tw9947682913465436184:=()
def tw9955420813472004278:=()
def tw9985488015016254123:=()
end PySem.W.Fast
open PySem PySem.W PyProof.Rows
set_option maxRecDepth 100000 in
set_option maxHeartbeats 0 in
theorem PySem.Challenge.cw_backissues_k39_whole_catch_up_holds : PySem.Challenge.rw_backissues_k39_whole_catch_up.Holds := by
 w_on; o_law; z_head; (case hw => w_witness2)
 k_fill
 refine My.w0N (fun _ => by kernel_rfl) ?_
 refine My.walk (l := PySem.Challenge.rw_backissues_k39_whole_catch_up) rfl rfl (fun w h Y => Y) ?F
 case F =>
  intro w mg fa h KX G hmg
  refine' My.y6M KX G hmg ?cOffice ?cShelf ?cBook ?nOffice_names ?nOffice_reach ?nOffice_written ?nShelf_names ?nShelf_reach ?nShelf_issues ?nBook_office ?nBook_readers ?nBook_done ?a0 ?a1 ?a2 ?a3 ?a4 ?a5 ?a6 ?a7 ?a8 ?a9 ?a10 ?a11 ?a12 ?a13 ?a14 ?a15 ?a16 ?a17 ?a18 ?a19 ?a20 ?a21 ?a22 ?a23 ?a24 ?a25 ?a26 ?a27 ?a28 ?a29 ?a30 ?a31 ?a32 ?a33 ?a34 ?a35 ?a36 ?a37 ?a38 ?a39 ?a40 ?a41 ?a42 ?a43 ?a44 ?a45 ?a46 ?a47 ?a48 ?a49 ?a50 ?a51 ?a52 ?a53 ?a54 ?a55 ?a56 ?a57 ?a58 ?a59 ?a60 ?a61 ?a62 ?a63 ?a64 ?a65 ?a66 ?d18 ?d45 ?zlen ?zrange ?ztuple ?zlist ?zmax ?zmin ?zsorted ?zisinstance ?zbool ?zint ?zstr ?zset ?zreversed ?zdict ?zzip ?zall ?vMOST_NAMES ?vMOST_REACH ?vMOST_NUMBERS ?vMOST_VALUE ?vMOST_READERS ?vMOST_DEEDS ?vSURE ?vSTALE ?vOPEN ?vWRITE ?vDELIVER
  case' cOffice | cShelf | cBook => exact ⟨by k_is, by k_is, by k_is, by k_is, by k_is, by k_is, by k_is⟩
  case' nOffice_names | nOffice_reach | nOffice_written | nShelf_names | nShelf_reach | nShelf_issues | nBook_office | nBook_readers | nBook_done => k_is
  case' a0 | a1 | a2 | a3 | a4 | a5 | a6 | a7 | a8 | a9 | a10 | a11 | a12 | a13 | a14 | a15 | a16 | a17 | a18 | a19 | a20 | a21 | a22 | a23 | a35 | a46 | a47 | a48 | a49 | a50 | a51 | a52 | a53 | a54 | a55 | a56 | a57 | a58 | a59 | a60 | a61 | a62 | a63 | a64 | a65 | a66 => exact ⟨by k_is, _, _, _, _, _, _, _, _, _, by k_is, by k_is, by k_is⟩
  case' a24 | a25 | a26 | a27 | a28 | a29 | a30 | a31 | a32 | a33 | a34 | a36 | a37 | a38 | a39 | a40 | a41 | a42 | a43 | a44 | a45 => exact ⟨by k_is, by k_is, _, _, _, _, _, _, _, _, _, by k_is, by k_is, by k_is⟩
  case' d18 | d45 => exact ⟨_, _, _, _, by k_is⟩
  case' zlen | zrange | ztuple | zlist | zmax | zmin | zsorted | zisinstance | zbool | zint | zstr | zset | zreversed | zdict | zzip | zall | vMOST_NAMES | vMOST_REACH | vMOST_NUMBERS | vMOST_VALUE | vMOST_READERS | vMOST_DEEDS | vSURE | vSTALE | vOPEN | vWRITE | vDELIVER => k_is