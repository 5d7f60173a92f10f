import PyProof.Rows.All
import Wide.All
import OpenK.AllK
import Wide.FinOn
import Lean
import PyProof.EqAt
import PyProof.EqKinds
import PyProof.TupleCall
import PyProof.WalksMore
import PyProof.ListRange
import PyProof.NeKinds
import PyProof.SliceStr2
import PyProof.StrOps2
import PyProof.Rows.SetFrom
import PyProof.MinMaxWalk
import KE.KRevIter
import KE.KDictList
import PyProof.AttrMiss
import PyProof.IsiH_list
import PyProof.IsiH_tuple
import KE.KDictOf
import PyProof.ZipIter
import PyProof.TupleIter
import PySem.Challenge.RW_backissues_k36_whole_send_for
set_option Elab.async false
set_option linter.all false
set_option maxHeartbeats 4000000
set_option maxRecDepth 100000
abbrev b8:=@List.length_map
abbrev b9:=@PySem.Heap.get?_push_of_some
abbrev bA:=@List.mem_singleton
abbrev bB:=@List.mem_cons
abbrev bC:=@Nat.le_refl
abbrev bD:=@List.getElem?_eq_getElem
abbrev bE:=@List.map_append
abbrev bF:=@PySem.Heap.get?_push_size
abbrev bG:=@List.getElem?_map
abbrev bH:=@List.size_toArray
abbrev bI:=@Bool.false_ne_true
abbrev bJ:=@List.getD_eq_getElem?_getD
abbrev bK:=@PySem.Heap.lt_size
abbrev bL:=@List.mem_cons_of_mem
abbrev bM:=@List.mem_append
abbrev bN:=@List.length_append
abbrev bO:=@List.length_take
abbrev bP:=@PySem.boot_len
abbrev bQ:=@List.mem_cons_self
abbrev bR:=@List.mem_of_getElem?
abbrev bS:=@Bool.and_eq_true
abbrev bT:=@PyProof.Rows.boot_tuple
abbrev bU:=@List.mem_filter
abbrev bV:=@List.take_length
abbrev bW:=@Nat.ne_of_lt
abbrev bX:=@List.mem_append_right
abbrev bY:=@PySem.F.plainAttrs_list
abbrev bZ:=@List.length_cons
abbrev c7:=@PySem.F.slot_list_append
abbrev c9:=@PySem.Around.under_plainId
abbrev cA:=@PySem.F.type_list_append
abbrev cB:=@List.mem_map
abbrev cC:=@PySem.PassesOwn.never
abbrev cD:=@List.getElem?_eq_some_iff
abbrev cE:=@Option.map_eq_some_iff
abbrev cF:=@List.length_filter_le
abbrev cG:=@List.map_cons
abbrev cH:=@PyProof.Rows.boot_isinstance
abbrev cI:=@PySem.Heap.get?_update_other
abbrev cJ:=@Array.length_toList
abbrev cK:=@Int.emod_lt_of_pos
abbrev cL:=@PySem.W.mg_none_of
abbrev cM:=@List.mem_append_left
abbrev cN:=@Nat.lt_of_lt_of_le
abbrev cO:=@Nat.le_trans
abbrev cP:=@List.exists_cons_of_length_eq_add_one
abbrev cQ:=@Int.emod_nonneg
abbrev cR:=@Nat.zero_le
abbrev cS:=@List.foldl_cons
abbrev cT:=@List.eq_nil_of_length_eq_zero
abbrev cU:=@List.append_nil
abbrev cV:=@List.nodup_cons
abbrev cW:=@PySem.Heap.get?_update_self
abbrev cX:=@Array.getElem?_eq_getElem
abbrev cY:=@Classical.byContradiction
abbrev cZ:=@List.take_of_length_le
abbrev d6:=@Ne.symm
abbrev d7:=@PySem.F.called_set
abbrev d8:=@PyProof.Rows.slot_tuple_getitem
abbrev d9:=@PySem.W.mg_of
abbrev dA:=@List.nodup_iff_pairwise_ne
abbrev dB:=@PySem.F.plain_max_loop
abbrev dC:=@PySem.F.plain_min_loop
abbrev dD:=@PyProof.Rows.boot_list
abbrev dE:=@Nat.lt_succ_of_lt
abbrev dF:=@List.length_range
abbrev dG:=@List.take_zero
abbrev dH:=@Bool.eq_iff_iff
abbrev dI:=@PySem.W.kia_one
abbrev dJ:=@List.find?_cons
abbrev dL:=@List.pairwise_append
abbrev dM:=@Nat.lt_irrefl
abbrev dN:=@Int.le_refl
abbrev dO:=@List.length_singleton
abbrev dP:=@Array.getElem?_toList
abbrev dQ:=@List.length_drop
abbrev dR:=@List.filter_append
abbrev dS:=@List.pairwise_cons
abbrev dU:=@List.not_mem_nil
abbrev dW:=@PySem.F.plain_list_iadd
abbrev dX:=@Int.toNat_natCast
abbrev dY:=@List.pairwise_map
abbrev dZ:=@Nat.le_of_lt
abbrev e7:=@Nat.le_succ
abbrev e8:=@Bool.false_eq_true
abbrev e9:=@List.mem_of_find?_eq_some
abbrev eF:=@List.map_map
abbrev eI:=@List.take_add_one
abbrev eJ:=@List.filterMap_cons
abbrev eM:=@List.mem_range
abbrev eO:=@PySem.Heap.size_push
abbrev eQ:=@Nat.lt_succ_self
abbrev eU:=@List.getElem_mem
abbrev eX:=@List.filter_cons
abbrev eY:=@PyProof.Rows.callWith_type1
abbrev eZ:=@PyProof.Rows.F.plain_set_update_loop
abbrev fA:=@PyProof.Rows.boot_max
abbrev fB:=@PyProof.Rows.boot_set
abbrev fE:=@List.getElem?_append_left
abbrev fF:=@PySem.F.slot_tuple_getattribute
abbrev fG:=@Nat.ne_of_gt
abbrev fH:=@PySem.F.slot_list_getattribute
abbrev fI:=@PyProof.Rows.boot_sorted
abbrev fJ:=@PySem.mem_of_lookup
abbrev fK:=@List.length_pos_iff
abbrev fL:=@PySem.Heap.SameBut.update
abbrev fM:=@List.pairwise_singleton
abbrev fN:=@List.length_eq_zero_iff
abbrev fO:=@List.all_cons
abbrev fP:=@List.any_cons
abbrev fQ:=@Nat.lt_of_le_of_lt
abbrev fR:=@Nat.pos_of_ne_zero
abbrev fS:=@List.find?_eq_none
abbrev fT:=@List.filter_nil
abbrev fU:=@PySem.F.entry_max_loop
abbrev fV:=@PySem.F.entry_min_loop
abbrev fW:=@Array.getElem?_eq_none
abbrev fX:=@List.append_assoc
abbrev fZ:=@PyProof.Rows.boot_min
abbrev g0:=@Nat.zero_add
abbrev g8:=@List.getElem?_eq_none
abbrev g9:=@PySem.F.plain_proto_collect
abbrev gA:=@List.mem_of_mem_take
abbrev gB:=@List.reverse_reverse
abbrev gC:=@List.getElem?_append_right
abbrev gD:=@List.length_eraseIdx_of_lt
abbrev gE:=@Bool.true_and
abbrev gF:=@List.mem_map_of_mem
abbrev gG:=@List.map_congr_left
abbrev gH:=@List.length_reverse
abbrev gI:=@Nat.not_lt_zero
abbrev gJ:=@PySem.F.slot_list_insert
abbrev gK:=@PyProof.Rows.F.entry_set_update_loop
abbrev gL:=@List.length_erase_of_mem
abbrev gM:=@List.any_map
abbrev gN:=@Int.ne_of_lt
abbrev gO:=@Bool.false_and
abbrev gP:=@List.drop_zero
abbrev gQ:=@List.getElem?_replicate
abbrev gR:=@PyProof.Rows.F.plain_set_update_loop
abbrev gS:=@List.foldl_append
abbrev gT:=@List.nodup_append
abbrev gU:=@Bool.eq_false_iff
abbrev gX:=@List.pairwise_lt_range
abbrev gY:=@PyProof.Rows.boot_bool
abbrev gZ:=@PyProof.Rows.boot_dict
abbrev h8:=@List.filter_eq_nil_iff
abbrev h9:=@List.lookup_cons
abbrev hE:=@List.any_eq_true
abbrev hJ:=@List.mem_reverse
abbrev hU:=@PySem.W.methodCall_KW
abbrev hV:=@List.length_replicate
abbrev hW:=@PyProof.Rows.boot_int
abbrev hZ:=@List.pairwise_reverse
abbrev j0:=@List.getElem?_set_ne
abbrev j3:=@Nat.min_eq_left
abbrev j4:=@List.length_nil
abbrev j5:=@List.mem_erase_of_ne
abbrev j6:=@List.find?_some
abbrev j7:=@PySem.W.plainGet_of
abbrev j8:=@List.getElem?_range
abbrev j9:=@Iff.rfl
abbrev jA:=@PySem.Paired.snoc
abbrev jB:=@PySem.W.callWith_K
abbrev jC:=@List.any_eq_false
abbrev jD:=@Bool.not_eq_true'
abbrev jE:=@List.Sublist.refl
abbrev jF:=@Nat.succ_le_succ
abbrev jG:=@Nat.le_of_not_lt
abbrev jH:=@Nat.lt_trans
abbrev jI:=@List.all_map
abbrev jJ:=@List.all_eq_true
abbrev jK:=@Int.zero_add
abbrev jL:=@Nat.sub_zero
abbrev jM:=@Int.lt_or_le
namespace L2
open PySem PySem.Spec PyProof.Rows
abbrev Key:=Sum Int Str
def y0A:Key->Value->Bool
 | .inl k,v=>Value.isInt k v
 | .inr x,v=>Value.isStrOf x v
def keyH(w:World):Key->Int
 | .inl k=>hashInt k
 | .inr x=>hashStr w x
theorem z1a:∀{k:Key}{v:Value},y0A k v=true->(∃i t,k=Sum.inl i/\v=Value.int i t)\/(∃x t,k=Sum.inr x/\v=Value.str x t)
 | .inl i,v,h=>by
  obtain⟨t,e⟩:=Value.isInt_shape (k:=i) (v:=v) h
  exact .inl ⟨i,t,rfl,e⟩
 | .inr x,v,h=>by
  obtain⟨t,e⟩:=Value.isStrOf_shape (x:=x) (v:=v) h
  exact .inr ⟨x,t,rfl,e⟩
theorem y3e(i:Int)(t:Tok):y0A (.inl i) (.int i t)=true:=by simp[y0A,Value.isInt]
theorem y38(x:Str)(t:Tok):y0A (.inr x) (.str x t)=true:=by simp[y0A,Value.isStrOf]
theorem y7t(a b:Int):decide ((Sum.inl a:Key)=Sum.inl b)=(a == b):=by
 by_cases e:a=b
 ·subst e;simp
 ·have h:¬(Sum.inl a:Key)=Sum.inl b:=fun q=>e (Sum.inl.inj q)
  rw[decide_eq_false h]
  exact(beq_eq_false_iff_ne.mpr e).symm
theorem y7N(a b:Str):decide ((Sum.inr a:Key)=Sum.inr b)=decide (a=b):=by
 by_cases e:a=b
 ·subst e;simp
 ·have h:¬(Sum.inr a:Key)=Sum.inr b:=fun q=>e (Sum.inr.inj q)
  rw[decide_eq_false h,decide_eq_false e]
theorem y7S(a:Int)(b:Str):decide ((Sum.inl a:Key)=Sum.inr b)=false:=decide_eq_false (fun q=>nomatch q)
theorem y7Q(a:Str)(b:Int):decide ((Sum.inr a:Key)=Sum.inl b)=false:=decide_eq_false (fun q=>nomatch q)
def z1r(prog:Program)(w:World):PySem.KeyKind prog w Key where
 is:=y0A
 hash:=keyH w
 inj:=fun v a b ha hb=>by
  rcases z1a ha with ⟨i,t,rfl,rfl⟩|⟨x,t,rfl,rfl⟩
  ·rcases z1a hb with ⟨j,u,rfl,e⟩|⟨y,u,rfl,e⟩
   ·injection e with e1 _;rw[e1]
   ·exact nomatch e
  ·rcases z1a hb with ⟨j,u,rfl,e⟩|⟨y,u,rfl,e⟩
   ·exact nomatch e
   ·injection e with e1 _;rw[e1]
 byValue:=fun k v h=>by
  rcases z1a h with ⟨i,t,rfl,rfl⟩|⟨x,t,rfl,rfl⟩<;>rfl
 pyHash:=fun hv h=>by
  rcases z1a hv with ⟨i,t,rfl,rfl⟩|⟨x,t,rfl,rfl⟩
  ·exact wpAny_pyHash_int h
  ·exact wpAny_pyHash_str h
 eqBool:=fun hu hv h=>by
  rcases z1a hu with ⟨i,t,rfl,rfl⟩|⟨x,t,rfl,rfl⟩
  ·rcases z1a hv with ⟨j,u,rfl,rfl⟩|⟨y,u,rfl,rfl⟩
   ·rw[y7t] at h;exact wpAny_eqBool_int h
   ·rw[y7S] at h;exact SeqAt.EqAt.int_str i t y u _ _ _ _ h
  ·rcases z1a hv with ⟨j,u,rfl,rfl⟩|⟨y,u,rfl,rfl⟩
   ·rw[y7Q] at h;exact SeqAt.EqAt.str_int x t j u _ _ _ _ h
   ·rw[y7N] at h;exact wpAny_eqBool_str h
 «strs»:=fun k x t v h=>by
  rcases z1a h with ⟨i,u,rfl,e⟩|⟨y,u,rfl,e⟩
  ·exact nomatch e
  ·injection e with e1 _
   subst e1
   cases v<;>rfl
theorem y0C(prog:Program)(w:World)(i:Int)(t:Tok):(z1r prog w).is (.inl i) (.int i t)=true:=y3e i t
theorem y0R(prog:Program)(w:World)(x:Str)(t:Tok):(z1r prog w).is (.inr x) (.str x t)=true:=y38 x t
inductive V where
 | non|bl (b:Bool)|int (i:Int)|str (x:Str)|byt (b:Array UInt8)|flt (b:UInt64)|ref (a:Addr)|ty (n:String)
 deriving DecidableEq
def RelV:V->Value->Prop
 | .non,u=>u=Value.none
 | .bl b,u=>u=Value.bool b
 | .int i,u=>∃t,u=Value.int i t
 | .str x,u=>∃t,u=Value.str x t
 | .byt b,u=>∃t,u=Value.bytes b t
 | .flt b,u=>∃t,u=Value.float b t
 | .ref a,u=>u=Value.ref a
 | .ty n,u=>u=Value.type n
abbrev Vals:List V->List Value->Prop:=Paired RelV
theorem Vals.length{xs:List V}{us:List Value}(r:Vals xs us):xs.length=us.length:=Paired.length r
theorem Vals.get:∀{xs:List V}{us:List Value}{i:Nat}{x:V},Vals xs us->xs[i]? = some x->∃u,us[i]? = some u/\RelV x u
 | _,_,_,_,.nil,e=>by simp at e
 | _,_,0,_,.cons r _,e=>by simp at e;subst e;exact⟨_,rfl,r⟩
 | _,_,i+1,x,.cons _ t,e=>by
  obtain⟨u,h1,h2⟩:=Vals.get (i:=i) (x:=x) t (by simpa using e)
  exact⟨u,by simpa using h1,h2⟩
theorem Vals.set{x:V}{u:Value}(r:RelV x u):∀{xs:List V}{us:List Value} (i:Nat),Vals xs us->Vals (xs.set i x) (us.set i u)
 | _,_,_,.nil=>.nil
 | _,_,0,.cons _ t=>.cons r t
 | _,_,i+1,.cons q t=>.cons q (Vals.set r i t)
theorem Vals.append:∀{xs ys:List V}{us ws:List Value},Vals xs us->Vals ys ws->Vals (xs++ys) (us++ws)
 | _,_,_,_,.nil,s=>s
 | _,_,_,_,.cons r t,s=>.cons r (Vals.append t s)
theorem Vals.take:∀{xs:List V}{us:List Value} (n:Nat),Vals xs us->Vals (xs.take n) (us.take n)
 | _,_,0,_=>.nil
 | _,_,_+1,.nil=>.nil
 | _,_,n+1,.cons r t=>.cons r (Vals.take n t)
theorem Vals.drop:∀{xs:List V}{us:List Value} (n:Nat),Vals xs us->Vals (xs.drop n) (us.drop n)
 | _,_,0,r=>r
 | _,_,_+1,.nil=>.nil
 | _,_,n+1,.cons _ t=>Vals.drop n t
def M0:Option V->Option Value->Prop
 | some v,some u=>RelV v u
 | none,none=>True
 | _,_=>False
def KV{κ:Type}:List (κ×V)->List (κ×Value)->Prop:=Paired fun(p:κ×V) (q:κ×Value)=>p.1=q.1/\RelV p.2 q.2
def kV:Key->V
 | .inl i=>.int i
 | .inr x=>.str x
inductive HO where
 /-- a list -/
 | lst (xs:List V)
 /-- a tuple (never changes) -/
 | tup (xs:List V)
 /-- a dict whose keys are ints and texts;one whose keys are tuples of ints and texts (the empty one is both) -/
 | dK (kvs:List (Key×V))|dT (kvs:List (List Key×V))
 /-- a set of ints: its members,its size -/
 | set (S:Int->Bool) (n:Nat)
 /-- an instance of the class at C,its dict at dx,its attributes -/
 | ins (C dx:Addr) (fs:List (Str×V))
 /-- the dict of the instance at x -/
 | own (x:Addr)
 /-- the dict of an exception -/
 | xd (fs:List (Str×V))
 /-- a bound method,f of x -/
 | met (f x:Addr)
 /-- a range object lo,lo+1,.. below hi -/
 | rng (lo hi:Int)
 /-- a thing that is known to the object (the script;a dict while a loop walks it): read,never written while it is so -/
 | frz (o:Obj) (u:HO)
 /-- a code object's table -/
 | tbl (ps:Array Value)
 /-- any other thing,by what is true of its one object (a def of one's own: SetO a S n:=HO.ext fun h=>..) -/
 | ext (φ:Heap->Prop)
abbrev Hp:=Addr->Option HO
def upd(H:Hp)(a:Addr)(o:HO):Hp:=fun b=>if b=a then some o else H b
def PlT(h:Heap)(a:Addr)(items:Array Value):Prop:=∃o,h.get? a=some o/\o.cls=.type "tuple"/\(∃n,o.data=.seq items n)/\o.dict=none
theorem PlT.tup{h:Heap}{a:Addr}{items:Array Value}(p:PlT h a items):IsTup h a items:=let ⟨o,e,c,d,_⟩:=p;⟨o,e,c,d⟩
theorem PlT.new(h:Heap)(items:Array Value):PlT (h.push { cls:=.type "tuple",data:=.seq items }) h.objs.size items:=⟨_,bF _ rfl,rfl,⟨_,rfl⟩,rfl⟩
theorem z02{H:Hp}{a:Addr}{o:HO}:upd H a o a=some o:=by unfold upd;rw[if_pos rfl]
theorem z0e{H:Hp}{a b:Addr}{o:HO}(h:b≠a):upd H a o b=H b:=by unfold upd;rw[if_neg h]
theorem z4M{H:Hp}{a:Addr}{o u:HO}:upd (upd H a o) a u=upd H a u:=by
 funext b;unfold upd;split<;>rfl
theorem z5h{H:Hp}{a b:Addr}{o u:HO}(h:H a=some o)(h':H b=some u)(d:o≠u):a≠b:=by
 intro e;subst e;rw[h] at h';exact d (Option.some.inj h')
theorem z0i{H:Hp}{a b:Addr}{o:HO}(h:H a=some o)(h':H b=none):a≠b:=by
 intro e;subst e;rw[h] at h';cases h'
section
variable(P:Program)(w:World)
def z15(H:Hp)(h:Heap)(a:Addr):HO->Prop
 | .lst xs=>xs.length≤sizeLine/\∃(its:List Value) (n:Nat),Vals xs its/\h.get? a=some { cls:=.type "list",data:=.seq its.toArray n }
 | .tup xs=>xs.length≤sizeLine/\∃its:List Value,Vals xs its/\PlT h a its.toArray
 | .dK kvs=>kvs.length≤sizeLine/\(a == sysModules)=false/\∃vs,KV kvs vs/\h.DictOf (z1r P w) a vs
 | .dT kvs=>kvs.length≤sizeLine/\(a == sysModules)=false/\∃xs:List (List Key×Addr×Value),
   Paired (fun(p:List Key×V) (q:List Key×Addr×Value)=>p.1=q.1/\H q.2.1=some (.tup (p.1.map kV))/\RelV p.2 q.2.2) kvs xs/\
   ∃o es ep,h.get? a=some o/\o.ExactDict/\o.data=.dict es ep/\es.toList=xs.map (entryOfKey (tupleKind (z1r P w)))/\(xs.map (·.1)).Nodup
 | .set S n=>h.SetOf (intKind P w) a S n
 | .ins C dx fs=>H dx=some (.own a)/\fs.length≤1000/\dx≠a/\h.get? a=some (PySem.W.instObj C dx)/\
   ∃mA,h.Ns1 dx mA/\(∀f,M0 (fs.lookup f) (mA f))/\PySem.Within mA (fs.map (·.1))
 | .own _=>∃o,h.get? a=some o
 | .xd fs=>∃mA,h.Ns1 a mA/\∀f,M0 (fs.lookup f) (mA f)
 | .rng lo hi=>∃t u v,h.get? a=some { cls:=.type "range",data:=.fields #[.int lo t,.int hi u,.int 1 v] }
 | .frz o u=>h.get? a=some o/\z15 H h a u
 | .tbl ps=>h.get? a=some { cls:=.none,data:=.fields ps }
 | .met f x=>h.get? a=some (PySem.W.methodObj (.ref f) (.ref x))
 | .ext φ=>φ h/\(∃o,h.get? a=some o)/\∀h1 h2:Heap,φ h1->(∀o,h1.get? a=some o->h2.get? a=some o)->φ h2
def HOk(H:Hp)(h:Heap):Prop:=∀a o,H a=some o->z15 P w H h a o
end
section
variable{P:Program}{w:World}{H H':Hp}{h h':Heap}{a:Addr}{o:HO}
theorem z15.lt(x:z15 P w H h a o):a<h.objs.size:=by
 cases o with
 | lst xs=>obtain⟨_,_,_,_,e⟩:=x;exact bK e
 | tup xs=>obtain⟨_,_,_,o,e,_⟩:=x;exact bK e
 | dK kvs=>obtain⟨_,_,_,_,o,_,_,e,_⟩:=x;exact bK e
 | dT kvs=>obtain⟨_,_,_,_,o,_,_,e,_⟩:=x;exact bK e
 | set S n=>obtain⟨o,_,_,_,e,_⟩:=x;exact bK e
 | ins C dx fs=>obtain⟨_,_,_,e,_⟩:=x;exact bK e
 | own y=>obtain⟨_,e⟩:=x;exact bK e
 | xd fs=>obtain⟨_,⟨_,_,_,e,_⟩,_⟩:=x;exact bK e
 | rng lo hi=>obtain⟨_,_,_,e⟩:=x;exact bK e
 | frz ob u=>obtain⟨e,_⟩:=x;exact bK e
 | tbl ps=>exact bK (show h.get? a=some _ from x)
 | met f y=>exact bK (show h.get? a=some _ from x)
 | ext φ=>obtain⟨_,⟨_,e⟩,_⟩:=x;exact bK e
theorem Paired.V0{α β:Type}{F G:α->β->Prop}:∀{l₁:List α}{l₂:List β},Paired F l₁ l₂->(∀a b,F a b->G a b)->Paired G l₁ l₂
 | _,_,.nil,_=>.nil
 | _,_,.cons r t,f=>.cons (f _ _ r) (Paired.V0 t f)
theorem z15.V4(x:z15 P w H h a o)(k:∀b u,(b=a\/H b=some (.own a))->h.get? b=some u->h'.get? b=some u)
  (ho:∀b,H b=some (.own a)->H' b=some (.own a)) (ht:∀b xs,H b=some (.tup xs)->H' b=some (.tup xs)):z15 P w H' h' a o:=by
 induction o with
 | lst xs=>obtain⟨z,its,n,r,e⟩:=x;exact⟨z,its,n,r,k _ _ (.inl rfl) e⟩
 | tup xs=>obtain⟨z,its,r,ob,e,c⟩:=x;exact⟨z,its,r,ob,k _ _ (.inl rfl) e,c⟩
 | dK kvs=>obtain⟨z,y,vs,r,ob,es,ep,e,c⟩:=x;exact⟨z,y,vs,r,ob,es,ep,k _ _ (.inl rfl) e,c⟩
 | dT kvs=>
  obtain⟨z,y,xs,r,ob,es,ep,e,c⟩:=x
  exact⟨z,y,xs,Paired.V0 r fun p q z=>⟨z.1,ht _ _ z.2.1,z.2.2⟩,ob,es,ep,k _ _ (.inl rfl) e,c⟩
 | set S n=>obtain⟨ob,es,ep,t,e,c⟩:=x;exact⟨ob,es,ep,t,k _ _ (.inl rfl) e,c⟩
 | ins C dx fs=>
  obtain⟨d,z,ne,e,mA,⟨od,es,ep,e2,c⟩,r⟩:=x
  exact⟨ho _ d,z,ne,k _ _ (.inl rfl) e,mA,⟨od,es,ep,k _ _ (.inr d) e2,c⟩,r⟩
 | own y=>obtain⟨ob,e⟩:=x;exact⟨ob,k _ _ (.inl rfl) e⟩
 | xd fs=>obtain⟨mA,⟨od,es,ep,e,c⟩,r⟩:=x;exact⟨mA,⟨od,es,ep,k _ _ (.inl rfl) e,c⟩,r⟩
 | rng lo hi=>obtain⟨t,u,v,e⟩:=x;exact⟨t,u,v,k _ _ (.inl rfl) e⟩
 | frz ob u ih=>obtain⟨e,q⟩:=x;exact⟨k _ _ (.inl rfl) e,ih q⟩
 | tbl ps=>
  have e:h.get? a=some { cls:=.none,data:=.fields ps }:=x
  show h'.get? a=some { cls:=.none,data:=.fields ps }
  exact k a _ (.inl rfl) e
 | met f y=>
  have e:h.get? a=some (PySem.W.methodObj (.ref f) (.ref y)):=x
  show h'.get? a=some (PySem.W.methodObj (.ref f) (.ref y))
  exact k a _ (.inl rfl) e
 | ext φ=>obtain⟨p,⟨o,e⟩,st⟩:=x;exact⟨st _ _ p fun o q=>k _ _ (.inl rfl) q,⟨o,k _ _ (.inl rfl) e⟩,st⟩
theorem HOk.lt(x:HOk P w H h)(e:H a=some o):a<h.objs.size:=(x a o e).lt
theorem HOk.fresh(x:HOk P w H h)(e:h.objs.size≤a):H a=none:=by
 cases q:H a with
 | none=>rfl
 | some u=>exact absurd (cN (x.lt q) e) (dM _)
theorem HOk.kept(x:HOk P w H h)(k:∀b u,h.get? b=some u->h'.get? b=some u):HOk P w H h':=fun a o e=>
 (x a o e).V4 (fun b u _ q=>k b u q) (fun _ q=>q) fun _ _ q=>q
theorem HOk.laid(x:HOk P w H h)(k:∀b u,h.get? b=some u->h'.get? b=some u)(hp:h.objs.size≤a)(new:z15 P w (upd H a o) h' a o):HOk P w (upd H a o) h':=fun b u e=>by
 have hn:=x.fresh hp
 by_cases hb:b=a
 ·subst hb;rw[z02] at e;cases e;exact new
 ·rw[z0e hb] at e
  exact(x b u e).V4 (fun c v _ q=>k c v q) (fun c q=>by rw[z0e (z0i q hn)];exact q) fun c xs q=>by rw[z0e (z0i q hn)];exact q
end
def Rd(H:Hp)(a:Addr)(u:HO):Prop:=H a=some u\/∃o,H a=some (.frz o u)
theorem Rd.ok{P:Program}{w:World}{H:Hp}{h:Heap}{a:Addr}{u:HO}(r:Rd H a u)(x:HOk P w H h):z15 P w H h a u:=by
 rcases r with r|⟨o,r⟩
 ·exact x a u r
 ·obtain⟨_,q⟩:=x a _ r
  exact q
def Mut:Option HO->Prop
 | some (.lst _)=>True
 | some (.dK _)=>True
 | some (.dT _)=>True
 | some (.set _ _)=>True
 | some (.ins _ _ _)=>True
 | some (.ext _)=>True
 | _=>False
section
variable{P:Program}{w:World}{H:Hp}{h h':Heap}{x e:Addr}{o':HO}
theorem HOk.write(ok:HOk P w H h)(mu:Mut (H x))(he:e=x\/H e=some (.own x))(k:∀b u,b≠e->h.get? b=some u->h'.get? b=some u)(heo:∃u,h'.get? e=some u)
  (new:z15 P w (upd H x o') h' x o'):HOk P w (upd H x o') h':=fun b u q=>by
 have nown:∀c y,H c=some (.own y)->c≠x:=fun c y r z=>by subst z;rw[r] at mu;exact mu
 have ntup:∀c xs,H c=some (.tup xs)->c≠x:=fun c xs r z=>by subst z;rw[r] at mu;exact mu
 by_cases hb:b=x
 ·subst hb;rw[z02] at q;cases q;exact new
 ·rw[z0e hb] at q
  by_cases hbe:b=e
  ·have q':H b=some (.own x):=by
    rcases he with z|z
    ·exact absurd (hbe.trans z) hb
    ·rw[hbe];exact z
   rw[q] at q';cases q'
   obtain⟨v,hv⟩:=heo
   exact⟨v,by rw[hbe];exact hv⟩
  ·refine(ok b u q).V4 (fun c v hc r=>k c v ?_ r) (fun c r=>by rw[z0e (nown c b r)];exact r) fun c xs r=>by rw[z0e (ntup c xs r)];exact r
   rcases hc with rfl|hc
   ·exact hbe
   ·rintro rfl
    rcases he with z|z
    ·exact nown c b hc z
    ·rw[hc] at z;cases z;exact hb rfl
end
structure Un(fs ex:List Addr)(H H':Hp)(h h':Heap):Prop where
 keep:∀b o,h.get? b=some o->H b=none->b∉fs->b∉ex->h'.get? b=some o
 slot:∀b o,h.get? b=some o->H b=none->b∈fs->b∉ex->∃sl,h'.get? b=some { o with slots:=sl }
 free:∀b o,h.get? b=some o->H b=none->b∉ex->H' b=none
 there:∀b o,h.get? b=some o->b∉ex->∃o',h'.get? b=some o'
 T1:∀b xs,H b=some (.tup xs)->H' b=some (.tup xs)
 R5:∀b o u,H b=some (.frz o u)->H' b=some (.frz o u)
 S3:∀b ps,H b=some (.tbl ps)->∃more,H' b=some (.tbl (ps++more))
section
variable{fs fs' ex ex':List Addr}{H H1 H2:Hp}{h h1 h2 h':Heap}{a x e:Addr}{o:HO}
theorem Un.any(u:Un fs ex H H1 h h1){b:Addr}{ob:Obj}(q:h.get? b=some ob)(n:H b=none)(hx:b∉ex):∃sl,h1.get? b=some { ob with slots:=sl }:=by
 by_cases hb:b∈fs
 ·exact u.slot b ob q n hb hx
 ·exact⟨ob.slots,u.keep b ob q n hb hx⟩
theorem Un.kept(k:∀b u,h.get? b=some u->h'.get? b=some u):Un fs ex H H h h':=
 ⟨fun b ob q _ _ _=>k b ob q,fun b ob q _ _ _=>⟨ob.slots,k b ob q⟩,fun _ _ _ n _=>n,fun b ob q _=>⟨ob,k b ob q⟩,fun _ _ q=>q,fun _ _ _ q=>q,fun _ ps q=>⟨#[],by rw[q];simp⟩⟩
theorem Un.refl:Un fs ex H H h h:=Un.kept fun _ _ q=>q
theorem Un.laid(k:∀b u,h.get? b=some u->h'.get? b=some u)(hp:h.objs.size≤a)(hn:H a=none):Un fs ex H (upd H a o) h h' where
 keep:=fun b u q _ _ _=>k b u q
 slot:=fun b u q _ _ _=>⟨u.slots,k b u q⟩
 free:=fun b u q n _=>by rw[z0e (bW (cN (bK q) hp))];exact n
 there:=fun b u q _=>⟨u,k b u q⟩
 T1:=fun b xs q=>by rw[z0e (z0i q hn)];exact q
 R5:=fun b u xs q=>by rw[z0e (z0i q hn)];exact q
 S3:=fun b ps q=>⟨#[],by rw[z0e (z0i q hn),q];simp⟩
theorem Un.write(mu:Mut (H x))(he:e=x\/H e=some (.own x))(k:∀b u,b≠e->h.get? b=some u->h'.get? b=some u)(heo:∃u,h'.get? e=some u):Un fs ex H (upd H x o) h h':=by
 have hx:∀b,H b=none->b≠x:=fun b n z=>by subst z;rw[n] at mu;exact mu
 have hb:∀b,H b=none->b≠e:=fun b n z=>by
  subst z
  rcases he with r|r
  ·exact hx b n r
  ·rw[n] at r;cases r
 have hm:∀b u,H b=some u->¬Mut (some u)->b≠x:=fun b u q nm z=>by subst z;rw[q] at mu;exact nm mu
 refine⟨fun b u q n _ _=>k b u (hb b n) q,fun b u q n _ _=>⟨u.slots,k b u (hb b n) q⟩,fun b u q n _=>by rw[z0e (hx b n)];exact n,fun b u q _=>?_,
  fun b xs q=>by rw[z0e (hm b _ q fun z=>z)];exact q,fun b u xs q=>by rw[z0e (hm b _ q fun z=>z)];exact q,fun b ps q=>⟨#[],by rw[z0e (hm b _ q fun z=>z),q];simp⟩⟩
 by_cases hbe:b=e
 ·subst hbe;exact heo
 ·exact⟨u,k b u hbe q⟩
end
def trk(h:Heap)(H:Hp):List Addr:=(List.range h.objs.size).filter fun a=>(H a).isSome
def Q9(h:Heap)(H:Hp):Heap:=PySem.W.hideAll h (trk h H)
theorem y2F(h:Heap)(H:Hp):(Q9 h H).objs.size=h.objs.size:=PySem.W.hideAll_size _ _
theorem y5B{h:Heap}{H:Hp}{b:Addr}{o:Obj}(e:h.get? b=some o)(n:H b=none):(Q9 h H).get? b=some o:=
 PySem.W.hideAll_get _ e fun hm=>by
  have q:(H b).isSome=true:=(bU.mp hm).2
  rw[n] at q;simp at q
theorem y6w{h:Heap}{H:Hp}{b:Addr}{o:Obj}(e:(Q9 h H).get? b=some o):h.get? b=some o/\H b=none:=by
 have e':h.get? b=some o:=PySem.W.of_hideAll (trk h H) e
 refine⟨e',?_⟩
 cases q:H b with
 | none=>rfl
 | some x=>
  have hm:b∈trk h H:=bU.mpr ⟨eM.mpr (bK e'),by simp[q]⟩
  have z:(Q9 h H).get? b=none:=PySem.W.hideAll_none (trk h H) hm
  rw[z] at e;cases e
def y6V(g h:Heap)(L:Addr):List (Addr×Obj):=(List.range h.objs.size).filterMap fun a=>if a=L\/(g.get? a).isSome=true then none else (h.get? a).map fun o=>(a,o)
def rest(g h:Heap)(L d:Addr):List (Addr×Obj):=(y6V g h L).filter fun p=>decide (p.1≠d)
structure Mod(K:PySem.W.Frag)(mg:Str->Option Value)(base:Heap):Prop where
 kin:K.In base
 glob:base.Ns mainGlobals mg
 blt:∃mb,base.Ns builtinsNs mb/\∀x:Str,x≠"__name__"->mb x=bootBuiltins x
 nolimit:base.NoLimit
structure Cx where
 prog:Program
 w:World
 K:PySem.W.Frag
 mg:Str->Option Value
 base:Heap
 A:Around
 N:List Str
 s₀:Shared
 H₀:Hp
 env:Env
 outer:List Env
 stack:List Env
 ex:List Addr
 fn:Str->Bool
 calm:Bool
 pn:List (Addr×Obj)
 xe:Value->Shared->Prop
def frs(l:List Env):List Addr:=l.filterMap (·.frame)
abbrev Cx.fs(X:Cx):List Addr:=frs X.outer
def Vis(sc:Scope)(x:Str):Prop:=sc.names.lookup x=some .local\/sc.names.lookup x=some .cell\/sc.names.lookup x=some .free
def Loc(sc:Scope)(x:Str):Prop:=sc.names.lookup x=some .local\/sc.names.lookup x=some .cell
def Look(env:Env)(h:Heap)(m:Str->Option Value)(x:Str)(u:Value):Prop:=
 (env.kindOf x=some .local/\m x=some u)\/((env.kindOf x=some .cell\/env.kindOf x=some .free)/\∃c,env.cells.lookup x=some c/\h.IsCell c (some u))
structure Cx.Ok(X:Cx):Prop where
 mod:Mod X.K X.mg X.base
 kind:X.env.scope.kind=.function
 glob:X.env.globals=mainGlobals
 blt:X.env.builtins=builtinsNs
 above:X.s₀.heap.objs.size≤X.env.locals
 inj:∀x y c,X.env.cells.lookup x=some c->X.env.cells.lookup y=some c->x=y
 has:∀x,(X.env.kindOf x=some .cell\/X.env.kindOf x=some .free)->∃c,X.env.cells.lookup x=some c
 cab:∀x c,X.fn x=true->X.env.cells.lookup x=some c->X.s₀.heap.objs.size≤c
 hd:X.calm=true->X.A.handled=none
 frames:X.A.frames=some X.stack
 stk:X.stack=X.outer\/(X.stack=X.env::X.outer/\X.env.frame=some X.env.locals)
 exf:∀b∈X.ex,b≠X.env.locals/\∀x c,X.env.cells.lookup x=some c->c≠b
 bs:∀b o,X.base.get? b=some o->X.s₀.heap.get? b=some o/\X.H₀ b=none
 bsz:X.base.objs.size≤X.s₀.heap.objs.size
 noex:∀b o,X.base.get? b=some o->b∉X.ex
 exfs:∀b∈X.ex,b∉X.fs
 O9:X.s₀.heap.FunFrames X.base X.outer
 frf:∀b∈X.fs,X.H₀ b=none
structure Inv(X:Cx)(pins:List (Addr×Obj))(σ:List (Option V))(H:Hp)(s:Shared):Prop where
 ok:X.Ok
 os:s.os=X.s₀.os
 bare:AllBare s.gens
 base:Un X.fs X.ex X.H₀ H X.s₀.heap s.heap
 loc:∃m,s.heap.Ns X.env.locals m/\∀(i:Nat) (x:Str) (v:V),X.N[i]? = some x->σ[i]? = some (some v)->Vis X.env.scope x->∃u,RelV v u/\Look X.env s.heap m x u
 cell:∀x c,X.env.cells.lookup x=some c->∃v,s.heap.IsCell c v
 free:H X.env.locals=none
 freeC:∀x c,X.env.cells.lookup x=some c->H c=none
 pin:∀p∈X.pn++pins,s.heap.get? p.1=some p.2/\H p.1=none/\p.1≠X.env.locals/\p.1∉X.fs/\∀v,p.2.data≠.cell v
 hok:HOk X.prog X.w H s.heap
 len:σ.length=X.N.length
section
variable{X:Cx}{pins:List (Addr×Obj)}{σ:List (Option V)}{H H':Hp}{s:Shared}{h':Heap}
theorem Cx.Ok.nofr(ok:X.Ok){b:Addr}{o:Obj}(e:X.base.get? b=some o):b∉X.fs:=fun hb=>by
 have:=(ok.O9.mem hb).1
 rw[e] at this;cases this
theorem Inv.bs(I:Inv X pins σ H s):∀b o,X.base.get? b=some o->s.heap.get? b=some o/\H b=none:=fun b o e=>
 ⟨I.base.keep b o (I.ok.bs b o e).1 (I.ok.bs b o e).2 (I.ok.nofr e) (I.ok.noex b o e),I.base.free b o (I.ok.bs b o e).1 (I.ok.bs b o e).2 (I.ok.noex b o e)⟩
theorem Inv.bk(I:Inv X pins σ H s):∀b o,X.base.get? b=some o->s.heap.get? b=some o:=fun b o e=>(I.bs b o e).1
theorem Inv.mod(I:Inv X pins σ H s):Mod X.K X.mg X.base:=I.ok.mod
theorem Inv.kIn(I:Inv X pins σ H s):X.K.In s.heap:=I.ok.mod.kin.keeps I.bk
theorem Inv.fr(I:Inv X pins σ H s):∃m,Fr X.base X.env.locals s.heap m:=
 let ⟨m,hn,_⟩:=I.loc
 ⟨m,hn,I.bk,cO I.ok.bsz I.ok.above⟩
theorem Inv.lt(I:Inv X pins σ H s):X.env.locals<s.heap.objs.size:=let ⟨_,hn,_⟩:=I.loc;hn.lt
theorem Inv.sz(I:Inv X pins σ H s):X.s₀.heap.objs.size≤s.heap.objs.size:=cO I.ok.above (dZ I.lt)
theorem Inv.nofs(I:Inv X pins σ H s){a:Addr}(h:s.heap.objs.size≤a):a∉X.fs:=fun hb=>by
 obtain⟨_,o,ho,_⟩:=I.ok.O9.mem hb
 exact absurd (cN (bK ho) (cO I.sz h)) (dM _)
theorem Inv.cne(I:Inv X pins σ H s):∀x c,X.env.cells.lookup x=some c->c≠X.env.locals:=fun x c e z=>by
 obtain⟨v,o,ho,hd⟩:=I.cell x c e
 obtain⟨m,⟨o',es,ep,ho',hd',_⟩,_⟩:=I.loc
 rw[z,ho'] at ho;cases ho;rw[hd'] at hd;cases hd
theorem Inv.O9(I:Inv X pins σ H s):s.heap.FunFrames X.base X.outer:=by
 have all:∀(l:List Env),(∀b∈frs l,b∈X.fs)->X.s₀.heap.FunFrames X.base l->s.heap.FunFrames X.base l:=by
  intro l
  induction l with
  | nil=>intro _ _;trivial
  | cons env r ih=>
   intro hs hl
   obtain⟨hk,⟨L,o,hf,hn,ho,hd⟩,hr⟩:=hl
   have hL:L∈X.fs:=hs L (by unfold frs;rw[eJ,hf];exact bQ)
   obtain⟨sl,e⟩:=I.base.slot L o ho (I.ok.frf L hL) hL fun z=>I.ok.exfs L z hL
   exact⟨hk,⟨L,_,hf,hn,e,hd⟩,ih (fun b hb=>hs b (by unfold frs;rw[eJ,hf];exact bL _ hb)) hr⟩
 exact all X.outer (fun _ hb=>hb) I.ok.O9
theorem Inv.stack(I:Inv X pins σ H s):s.heap.FunFrames X.base X.stack:=by
 rcases I.ok.stk with e|⟨e,hf⟩
 ·rw[e];exact I.O9
 ·rw[e]
  obtain⟨m,hn,_⟩:=I.loc
  refine .cons (by rw[I.ok.kind];decide) hf hn ?_ I.O9
  exact Heap.get?_none_of_le (cO I.ok.bsz I.ok.above)
theorem Inv.P1(I:Inv X pins σ H s):∀b∈frs X.stack,b∈X.env.locals::X.fs:=fun b hb=>by
 rcases I.ok.stk with e|⟨e,hf⟩
 ·rw[e] at hb;exact bL _ hb
 ·rw[e] at hb
  unfold frs at hb
  rw[eJ,hf] at hb
  exact hb
theorem Inv.U7(I:Inv X pins σ H s):∀b∈frs X.stack,H b=none:=fun b hb=>by
 rcases bB.mp (I.P1 b hb) with e|hb
 ·rw[e];exact I.free
 ·obtain⟨_,o,ho,_⟩:=I.ok.O9.mem hb
  exact I.base.free b o ho (I.ok.frf b hb) fun z=>I.ok.exfs b z hb
theorem Inv.step{g':Array GenState}{t':Nat}{d':Drawn}{ch:List Addr}(I:Inv X pins σ H s)
  (hch:∀b∈ch,(b∈X.ex\/X.s₀.heap.objs.size≤b)/\b≠X.env.locals/\(∀x c,X.env.cells.lookup x=some c->c≠b)/\∀p∈X.pn++pins,p.1≠b)
  (keep:∀b o,b≠X.env.locals->b∉X.fs->b∉ch->s.heap.get? b=some o->H b=none->h'.get? b=some o)
  (slot:∀b o,b≠X.env.locals->b∈X.fs->b∉ch->s.heap.get? b=some o->H b=none->∃sl,h'.get? b=some { o with slots:=sl }) (free:∀b o,b∉ch->s.heap.get? b=some o->H b=none->H' b=none)
  (there:∀b o,b∉ch->s.heap.get? b=some o->∃o',h'.get? b=some o')
  (T1:∀b xs,H b=some (.tup xs)->H' b=some (.tup xs)) (R5:∀b o u,H b=some (.frz o u)->H' b=some (.frz o u)) (S3:∀b ps,H b=some (.tbl ps)->∃more,H' b=some (.tbl (ps++more)))
  (ns:∀m,s.heap.Ns X.env.locals m->h'.Ns X.env.locals m) (hok:HOk X.prog X.w H' h') (hg:AllBare g') :
  Inv X pins σ H' { s with heap:=h',gens:=g',drawn:=d',toks:=t' }:=by
 have neL:∀b o,X.s₀.heap.get? b=some o->b≠X.env.locals:=fun b o e=>bW (cN (bK e) I.ok.above)
 have neC:∀b o,X.s₀.heap.get? b=some o->b∉X.ex->b∉ch:=fun b o e hx hb=>by
  rcases(hch b hb).1 with z|z
  ·exact hx z
  ·exact absurd (cN (bK e) z) (dM _)
 have cellK:∀x c,X.env.cells.lookup x=some c->∀v,s.heap.IsCell c v->h'.IsCell c v:=fun x c e v ⟨o,ho,hd⟩=>by
  have nch:c∉ch:=fun z=>(hch c z).2.2.1 x c e rfl
  by_cases hc:c∈X.fs
  ·obtain⟨sl,q⟩:=slot c o (I.cne x c e) hc nch ho (I.freeC x c e)
   exact⟨_,q,hd⟩
  ·exact⟨o,keep c o (I.cne x c e) hc nch ho (I.freeC x c e),hd⟩
 refine⟨I.ok,I.os,hg,⟨fun b o e n hb hx=>?_,fun b o e n hb hx=>?_,fun b o e n hx=>?_,fun b o e hx=>?_,fun b xs e=>T1 b xs (I.base.T1 b xs e),fun b o xs e=>R5 b o xs (I.base.R5 b o xs e),fun b ps e=>?_⟩,?_,fun x c e=>?_,?_,fun x c e=>?_,fun p hp=>?_,hok,I.len⟩
 ·exact keep b o (neL b o e) hb (neC b o e hx) (I.base.keep b o e n hb hx) (I.base.free b o e n hx)
 ·obtain⟨sl,e1⟩:=I.base.slot b o e n hb hx
  obtain⟨sl',e2⟩:=slot b _ (neL b o e) hb (neC b o e hx) e1 (I.base.free b o e n hx)
  exact⟨sl',e2⟩
 ·obtain⟨o',e1⟩:=I.base.there b o e hx
  exact free b o' (neC b o e hx) e1 (I.base.free b o e n hx)
 ·obtain⟨o',e1⟩:=I.base.there b o e hx
  exact there b o' (neC b o e hx) e1
 ·obtain⟨m1,e1⟩:=I.base.S3 b ps e
  obtain⟨m2,e2⟩:=S3 b _ e1
  exact⟨m1++m2,by rw[e2,Array.append_assoc]⟩
 ·obtain⟨m,hn,hl⟩:=I.loc
  refine⟨m,ns m hn,fun i x v e1 e2 e3=>?_⟩
  obtain⟨u,r,l⟩:=hl i x v e1 e2 e3
  refine⟨u,r,?_⟩
  rcases l with l|⟨k,c,e,z⟩
  ·exact .inl l
  ·exact .inr ⟨k,c,e,cellK x c e _ z⟩
 ·obtain⟨v,z⟩:=I.cell x c e
  exact⟨v,cellK x c e v z⟩
 ·obtain⟨m,⟨o,_,_,ho,_⟩,_⟩:=I.loc
  exact free _ o (fun z=>(hch _ z).2.1 rfl) ho I.free
 ·obtain⟨v,o,ho,hd⟩:=I.cell x c e
  exact free c o (fun z=>(hch c z).2.2.1 x c e rfl) ho (I.freeC x c e)
 ·obtain⟨e,n,ne,nf,d⟩:=I.pin p hp
  have nch:p.1∉ch:=fun z=>(hch p.1 z).2.2.2 p hp rfl
  exact⟨keep p.1 p.2 ne nf nch e n,free p.1 p.2 nch e n,ne,nf,d⟩
theorem Inv.un{t':Nat}(I:Inv X pins σ H s)(u:Un X.fs [] H H' s.heap h')(hok:HOk X.prog X.w H' h'):Inv X pins σ H' { s with heap:=h',toks:=t' }:=by
 obtain⟨m,⟨o,es,ep,ho,r⟩,_⟩:=id I.loc
 obtain⟨sl,hL⟩:=u.any ho I.free (by simp)
 exact I.step (g':=s.gens) (d':=s.drawn) (ch:=[]) (fun _ z=>nomatch z) (fun b o _ hb _ e n=>u.keep b o e n hb (by simp)) (fun b o _ hb _ e n=>u.slot b o e n hb (by simp)) (fun b o _ e n=>u.free b o e n (by simp)) (fun b o _ e=>u.there b o e (by simp)) u.T1 u.R5 u.S3 (fun m' hm=>by
  obtain⟨o',es',ep',ho',r'⟩:=hm
  rw[ho] at ho';cases ho'
  exact⟨_,es',ep',hL,r'⟩) hok I.bare
theorem Inv.call{g':Array GenState}{t':Nat}{d':Drawn}{ch:List Addr}(I:Inv X pins σ H s)(u:Un (frs X.stack) ch H H' s.heap h')(hok:HOk X.prog X.w H' h')(hg:AllBare g')
  (hch:∀b∈ch,(b∈X.ex\/X.s₀.heap.objs.size≤b)/\b≠X.env.locals/\(∀x c,X.env.cells.lookup x=some c->c≠b)/\∀p∈X.pn++pins,p.1≠b) :
  Inv X pins σ H' { s with heap:=h',gens:=g',drawn:=d',toks:=t' }:=by
 obtain⟨m,⟨o,es,ep,ho,r⟩,_⟩:=id I.loc
 obtain⟨sl,hL⟩:=u.any ho I.free fun z=>(hch _ z).2.1 rfl
 exact I.step (ch:=ch) hch (fun b o hL hb hc e n=>u.keep b o e n (fun z=>(bB.mp (I.P1 b z)).elim hL hb) hc) (fun b o _ _ hc e n=>u.any e n hc) (fun b o hc e n=>u.free b o e n hc) (fun b o hc e=>u.there b o e hc) u.T1 u.R5 u.S3 (fun m' hm=>by
  obtain⟨o',es',ep',ho',r'⟩:=hm
  rw[ho] at ho';cases ho'
  exact⟨_,es',ep',hL,r'⟩) hok hg
theorem Inv.turned{t':Nat}{it:Addr}(I:Inv X pins σ H s)(k:∀b o,b≠it->s.heap.get? b=some o->h'.get? b=some o)(hn:H it=none)(hL:it≠X.env.locals)
  (h1:it∈X.ex\/X.s₀.heap.objs.size≤it) (h2:∀x c,X.env.cells.lookup x=some c->c≠it) (h3:∀p∈X.pn++pins,p.1≠it):Inv X pins σ H { s with heap:=h',toks:=t' }:=by
 have nit:∀b u,H b=some u->b≠it:=fun b u e z=>by rw[z,hn] at e;cases e
 refine I.step (g':=s.gens) (d':=s.drawn) (ch:=[it]) (fun b hb=>?_) (fun b o _ _ hc e _=>k b o (fun z=>hc (by simp[z])) e) (fun b o _ _ hc e _=>⟨o.slots,k b o (fun z=>hc (by simp[z])) e⟩) (fun _ _ _ _ n=>n)
  (fun b o hc e=>⟨o,k b o (fun z=>hc (by simp[z])) e⟩) (fun _ _ e=>e) (fun _ _ _ e=>e) (fun b ps e=>⟨#[],by rw[e];simp⟩) (fun m hm=>?_) (fun b u e=>?_) I.bare
 ·have e:b=it:=by simpa using hb
  subst e
  exact⟨h1,hL,h2,h3⟩
 ·obtain⟨o,es,ep,ho,r⟩:=hm
  exact⟨o,es,ep,k _ o (d6 hL) ho,r⟩
 ·refine(I.hok b u e).V4 (fun c v hc q=>k c v ?_ q) (fun _ q=>q) fun _ _ q=>q
  rcases hc with z|z
  ·rw[z];exact nit b u e
  ·exact nit c _ z
theorem Inv.tok(I:Inv X pins σ H s)(t:Nat):Inv X pins σ H { s with toks:=t }:=I.un (h':=s.heap) (t':=t) Un.refl I.hok
theorem Inv.kept{t':Nat}(I:Inv X pins σ H s)(k:∀b u,s.heap.get? b=some u->h'.get? b=some u):Inv X pins σ H { s with heap:=h',toks:=t' }:=I.un (Un.kept k) (I.hok.kept k)
theorem Inv.laid{a:Addr}{o:HO}{t':Nat}(I:Inv X pins σ H s)(k:∀b u,s.heap.get? b=some u->h'.get? b=some u)(hp:s.heap.objs.size≤a)(new:z15 X.prog X.w (upd H a o) h' a o) :
  Inv X pins σ (upd H a o) { s with heap:=h',toks:=t' }:=I.un (Un.laid k hp (I.hok.fresh hp)) (I.hok.laid k hp new)
theorem Inv.write{x e:Addr}{o:HO}{t':Nat}(I:Inv X pins σ H s)(mu:Mut (H x))(he:e=x\/H e=some (.own x))(k:∀b u,b≠e->s.heap.get? b=some u->h'.get? b=some u)(heo:∃u,h'.get? e=some u)
  (new:z15 X.prog X.w (upd H x o) h' x o):Inv X pins σ (upd H x o) { s with heap:=h',toks:=t' }:=I.un (Un.write mu he k heo) (I.hok.write mu he k heo new)
theorem Inv.weak{σ':List (Option V)}(I:Inv X pins σ H s)(hl:σ'.length=σ.length)(w:∀(i:Nat) v,σ'[i]? = some (some v)->σ[i]? = some (some v)):Inv X pins σ' H s:=
 ⟨I.ok,I.os,I.bare,I.base,let ⟨m,hn,hl'⟩:=I.loc;⟨m,hn,fun i x v e1 e2 e3=>hl' i x v e1 (w i v e2) e3⟩,I.cell,I.free,I.freeC,I.pin,I.hok,hl.trans I.len⟩
theorem Inv.N7{pins':List (Addr×Obj)}(I:Inv X pins σ H s)(h:∀p∈pins',s.heap.get? p.1=some p.2/\H p.1=none/\p.1≠X.env.locals/\p.1∉X.fs/\∀v,p.2.data≠.cell v):Inv X pins' σ H s:=
 ⟨I.ok,I.os,I.bare,I.base,I.loc,I.cell,I.free,I.freeC,fun p hp=>(bM.mp hp).elim (fun z=>I.pin p (cM _ z)) (h p),I.hok,I.len⟩
theorem y1u{N:List Str}(hN:N.Nodup){i j:Nat}{x:Str}(a:N[i]? = some x)(b:N[j]? = some x):i=j:=by
 obtain⟨h1,e1⟩:=cD.mp a
 obtain⟨h2,e2⟩:=cD.mp b
 exact(List.getElem_inj hN).mp (e1.trans e2.symm)
theorem y3X{M:Model}{A:Around}{E:Value->Shared->Prop}{i:Nat}{x:Str}{v:V}{u:Value}{Q:Unit->Shared->Prop}(I:Inv X pins σ H s)(hN:X.N.Nodup)(hi:X.N[i]? = some x)(hx:Loc X.env.scope x)(r:RelV v u)
  (h:∀s',Inv X pins (σ.set i (some v)) H s'->(∃a,Heap.SameBut a s.heap s'.heap/\(a=X.env.locals\/X.env.cells.lookup x=some a))->Q () s') (hf:X.fn x=true\/X.env.scope.names.lookup x=some .local:=by first|exact .inl rfl|exact .inr rfl|assumption):wpAny M A (storeName X.env x u) Q E s:=by
 obtain⟨m,hn,hl⟩:=id I.loc
 have hcls:(X.env.scope.kind == .class || (X.env.scope.kind == .module && X.env.locals != X.env.globals))=false:=by rw[I.ok.kind];rfl
 have hiσ:i<σ.length:=by rw[I.len];exact(cD.mp hi).1
 have cne:=I.cne
 have tracked:∀{a:Addr}{h':Heap},(∃o,s.heap.get? a=some o/\H a=none)->Heap.SameBut a s.heap h'->HOk X.prog X.w H h':=fun {a h'} ha hs b ob e=>by
  obtain⟨_,_,hfree⟩:=ha
  refine(I.hok b ob e).V4 (fun c w' hc q=>(hs.2 c ?_).trans q) (fun _ q=>q) fun _ _ q=>q
  rintro rfl
  rcases hc with rfl|hc
  ·rw[hfree] at e;cases e
  ·rw[hfree] at hc;cases hc
 rcases hx with hk|hk
 ·refine wpAny_storeName_local hk hn (fun h' hn' hs=>?_) hcls
  obtain⟨oL,_,_,hoL,_⟩:=id hn
  refine h _ ⟨I.ok,I.os,I.bare,⟨fun b o e n hb hx=>?_,fun b o e n hb hx=>?_,I.base.free,fun b o e hx=>?_,I.base.T1,I.base.R5,I.base.S3⟩,⟨_,hn',fun j y v' e1 e2 e3=>?_⟩,fun y c e=>?_,I.free,I.freeC,fun p hp=>?_,tracked ⟨oL,hoL,I.free⟩ hs,by simpa using I.len⟩ ⟨_,hs,.inl rfl⟩
  ·exact(hs.2 b (bW (cN (bK e) I.ok.above))).trans (I.base.keep b o e n hb hx)
  ·obtain⟨sl,e1⟩:=I.base.slot b o e n hb hx
   exact⟨sl,(hs.2 b (bW (cN (bK e) I.ok.above))).trans e1⟩
  ·obtain⟨o',e1⟩:=I.base.there b o e hx
   exact⟨o',(hs.2 b (bW (cN (bK e) I.ok.above))).trans e1⟩
  ·by_cases hj:j=i
   ·subst hj
    rw[hi] at e1;cases e1
    rw[List.getElem?_set_self hiσ] at e2
    cases e2
    exact⟨u,r,.inl ⟨hk,by simp⟩⟩
   ·rw[j0 (d6 hj)] at e2
    obtain⟨u',r',q⟩:=hl j y v' e1 e2 e3
    refine⟨u',r',?_⟩
    rcases q with ⟨k,e⟩|⟨k,c,e,z⟩
    ·refine .inl ⟨k,?_⟩
     have:y≠x:=fun e=>hj (y1u hN e1 (e ▸ hi))
     simp[this,e]
    ·exact .inr ⟨k,c,e,z.sameBut hs (cne y c e)⟩
  ·obtain⟨w',z⟩:=I.cell y c e
   exact⟨w',z.sameBut hs (cne y c e)⟩
  ·obtain⟨e,n,ne,nf,d⟩:=I.pin p hp
   exact⟨(hs.2 p.1 ne).trans e,n,ne,nf,d⟩
 ·have hfn:X.fn x=true:=by
   rcases hf with z|z
   ·exact z
   ·rw[z] at hk;cases hk
  obtain⟨c,hc⟩:=I.ok.has x (.inl hk)
  obtain⟨w',z⟩:=I.cell x c hc
  refine wpAny_storeName_cell I.ok.kind hk hc z (fun h' hc' hs=>?_)
  obtain⟨oc,hoc,hocd⟩:=id z
  refine h { s with heap:=h' } ⟨I.ok,I.os,I.bare,⟨fun b o e n hb hx=>?_,fun b o e n hb hx=>?_,I.base.free,fun b o e hx=>?_,I.base.T1,I.base.R5,I.base.S3⟩,⟨m,hn.sameBut hs (d6 (cne x c hc)),fun j y v' e1 e2 e3=>?_⟩,fun y c' e=>?_,I.free,I.freeC,fun p hp=>?_,tracked ⟨oc,hoc,I.freeC x c hc⟩ hs,by simpa using I.len⟩ ⟨c,hs,.inr hc⟩
  ·exact(hs.2 b (bW (cN (bK e) (I.ok.cab x c hfn hc)))).trans (I.base.keep b o e n hb hx)
  ·obtain⟨sl,e1⟩:=I.base.slot b o e n hb hx
   exact⟨sl,(hs.2 b (bW (cN (bK e) (I.ok.cab x c hfn hc)))).trans e1⟩
  ·obtain⟨o',e1⟩:=I.base.there b o e hx
   exact⟨o',(hs.2 b (bW (cN (bK e) (I.ok.cab x c hfn hc)))).trans e1⟩
  ·by_cases hj:j=i
   ·subst hj
    rw[hi] at e1;cases e1
    rw[List.getElem?_set_self hiσ] at e2
    cases e2
    exact⟨u,r,.inr ⟨.inl hk,c,hc,hc'⟩⟩
   ·rw[j0 (d6 hj)] at e2
    obtain⟨u',r',q⟩:=hl j y v' e1 e2 e3
    refine⟨u',r',?_⟩
    rcases q with q|⟨k,c',e,z'⟩
    ·exact .inl q
    ·refine .inr ⟨k,c',e,z'.sameBut hs ?_⟩
     rintro rfl
     exact hj (y1u hN e1 (I.ok.inj _ _ _ e hc ▸ hi))
  ·by_cases hcc:c'=c
   ·subst hcc;exact⟨_,hc'⟩
   ·obtain⟨w2,z2⟩:=I.cell y c' e
    exact⟨w2,z2.sameBut hs hcc⟩
  ·obtain⟨e,n,ne,nf,d⟩:=I.pin p hp
   refine⟨(hs.2 p.1 ?_).trans e,n,ne,nf,d⟩
   intro q
   rw[q,hoc] at e
   have q':oc=p.2:=Option.some.inj e
   exact d w' (by rw[<- q'];exact hocd)
theorem y1C{M:Model}{A:Around}{E:Value->Shared->Prop}{i:Nat}{x:Str}{v:V}{u:Value}{Q:Unit->Shared->Prop}(I:Inv X pins σ H s)(hN:X.N.Nodup)(hi:X.N[i]? = some x)(hx:Loc X.env.scope x)(r:RelV v u)
  (h:∀s',Inv X pins (σ.set i (some v)) H s'->Q () s') (hf:X.fn x=true\/X.env.scope.names.lookup x=some .local:=by first|exact .inl rfl|exact .inr rfl|assumption):wpAny M A (storeName X.env x u) Q E s:=
 y3X I hN hi hx r (fun s' I' _=>h s' I') hf
theorem Inv.w0T{s':Shared}{ch:List Addr}(I:Inv X pins σ H s)(ho:s'.os=s.os)(u:Un (frs X.stack) ch H H' s.heap s'.heap)(hok:HOk X.prog X.w H' s'.heap)(hg:AllBare s'.gens)
  (hch:∀b∈ch,(b∈X.ex\/X.s₀.heap.objs.size≤b)/\b≠X.env.locals/\(∀x c,X.env.cells.lookup x=some c->c≠b)/\∀p∈X.pn++pins,p.1≠b):Inv X pins σ H' s':=by
 obtain⟨h',g',d',t',o'⟩:=s'
 have e:o'=s.os:=ho
 subst e
 exact I.call (g':=g') (t':=t') (d':=d') u hok hg hch
end
abbrev XK:=Value->Option Addr->Hp->Prop
abbrev St:=List (Option V)
abbrev VK:=V->Hp->Prop
abbrev TE:=St->Hp->VK->Prop
abbrev TT:=St->Hp->(Bool->Hp->Prop)->Prop
abbrev TA:=St->Hp->(List V->Hp->Prop)->Prop
structure Ends where
 nx:St->Hp->Prop
 rt:VK
 bk:St->Hp->Prop:=fun _ _=>False
 ct:St->Hp->Prop:=fun _ _=>False
abbrev TS:=Ends->St->Hp->Prop
def EP(X:Cx)(pins:List (Addr×Obj))(σ:St)(Q:VK)(u:Value)(s':Shared):Prop:=∃v H',Inv X pins σ H' s'/\RelV v u/\Q v H'
def TP(X:Cx)(pins:List (Addr×Obj))(σ:St)(Q:Bool->Hp->Prop)(b:Bool)(s':Shared):Prop:=∃H',Inv X pins σ H' s'/\Q b H'
def AP(X:Cx)(pins:List (Addr×Obj))(σ:St)(Q:List V->Hp->Prop)(us:List Value)(s':Shared):Prop:=∃vs H',Inv X pins σ H' s'/\Vals vs us/\Q vs H'
def SP(X:Cx)(pins:List (Addr×Obj))(D:Ends)(f:Flow)(s':Shared):Prop:=
 match f with
 | .next=>∃σ' H',Inv X pins σ' H' s'/\D.nx σ' H'
 | .brk=>∃σ' H',Inv X pins σ' H' s'/\D.bk σ' H'
 | .cont=>∃σ' H',Inv X pins σ' H' s'/\D.ct σ' H'
 | .ret u=>∃v σ' H',Inv X pins σ' H' s'/\RelV v u/\D.rt v H'
def PE(X:Cx)(e:Expr)(t:TE):Prop:=
 ∀(pins:List (Addr×Obj)) (s:Shared) (σ:St) (H:Hp) (Q:VK),Inv X pins σ H s->t σ H Q->wpAny (model X.prog X.w) X.A (eval e X.env) (EP X pins σ Q) X.xe s
def PT(X:Cx)(e:Expr)(t:TT):Prop:=
 ∀(pins:List (Addr×Obj)) (s:Shared) (σ:St) (H:Hp) (Q:Bool->Hp->Prop),Inv X pins σ H s->t σ H Q->wpAny (model X.prog X.w) X.A (isTrue e X.env (eval e X.env)) (TP X pins σ Q) X.xe s
def PW(X:Cx)(e:Expr)(t:TT):Prop:=
 ∀(whole:Sem Value) (pins:List (Addr×Obj)) (s:Shared) (σ:St) (H:Hp) (Q:Bool->Hp->Prop),Inv X pins σ H s->t σ H Q->wpAny (model X.prog X.w) X.A (isTrue e X.env whole) (TP X pins σ Q) X.xe s
theorem PW.pt{X:Cx}{e:Expr}{t:TT}(h:PW X e t):PT X e t:=h _
def PA(X:Cx)(es:List Expr)(t:TA):Prop:=
 ∀(pos:Pos) (pins:List (Addr×Obj)) (s:Shared) (σ:St) (H:Hp) (Q:List V->Hp->Prop),Inv X pins σ H s->t σ H Q->wpAny (model X.prog X.w) X.A (spliced (backTo pos (starEach es X.env))) (AP X pins σ Q) X.xe s
def PS(X:Cx)(st:Stmt)(t:TS):Prop:=
 ∀(pins:List (Addr×Obj)) (s:Shared) (σ:St) (H:Hp) (D:Ends),Inv X pins σ H s->t D σ H->wpAny (model X.prog X.w) X.A (exec st X.env) (SP X pins D) X.xe s
def PSs(X:Cx)(st:List Stmt)(t:TS):Prop:=
 ∀(pins:List (Addr×Obj)) (s:Shared) (σ:St) (H:Hp) (D:Ends),Inv X pins σ H s->t D σ H->wpAny (model X.prog X.w) X.A (execs st X.env) (SP X pins D) X.xe s
theorem thn{α:Type}{t:Sem α}{Q Q':α->Shared->Prop}{M:Model}{A:Around}{E:Value->Shared->Prop}{s:Shared}(h:wpAny M A t Q E s)(hQ:∀a s,Q a s->Q' a s):wpAny M A t Q' E s:=wpAny_mono h hQ fun _ _ x=>x
section
variable{X:Cx}
def S5(i:Nat):TE:=fun σ H Q=>∃v,σ[i]? = some (some v)/\Q v H
def tC(v:V):TE:=fun _ H Q=>Q v H
theorem y7K{i:Nat}{x:Str}{pos:Pos}(hN:X.N[i]? = some x)(hv:Vis X.env.scope x)(hd:(x == ("__debug__":Str))=false:=by decide)(hcd:(x == ("__classdict__":Str))=false:=by decide):PE X (.Name x pos) (S5 i):=by
 intro pins s σ H Q I h
 obtain⟨v,e,h⟩:=h
 obtain⟨m,hn,hl⟩:=I.loc
 obtain⟨u,r,l⟩:=hl i x v hN e hv
 have fin:EP X pins σ Q u s:=⟨v,H,I,r,h⟩
 rcases l with ⟨hk,hm⟩|⟨hk,c,hc,U5⟩
 ·exact wpAny_Name (wpAny_loadName_local I.ok.kind hk hn hm fin) hd
 ·rcases hk with hk|hk
  ·exact wpAny_Name (wpAny_loadName_cell I.ok.kind hk hc U5 fin) hd
  ·exact wpAny_Name (wpAny_loadName_free I.ok.kind hk hc U5 fin hcd) hd
theorem z06{i j pos}:PE X (.Constant (.int i) j pos) (tC (.int i)):=fun _ _ _ H _ I h=>wpAny_Constant_int ⟨.int i,H,I.tok _,⟨_,rfl⟩,h⟩
theorem z5g{b j pos}:PE X (.Constant (.bool b) j pos) (tC (.bl b)):=fun _ _ _ H _ I h=>Constant_bool ⟨.bl b,H,I,rfl,h⟩
theorem y3Y{j pos}:PE X (.Constant .none j pos) (tC .non):=fun _ _ _ H _ I h=>Constant_none ⟨.non,H,I,rfl,h⟩
theorem z3R{x j pos}:PE X (.Constant (.str x) j pos) (tC (.str x)):=fun _ _ _ H _ I h=>Calls.Constant_str ⟨.str x,H,I.tok _,⟨_,rfl⟩,h⟩
def Gl(X:Cx)(x:Str):Prop:=X.env.kindOf x=some .globalImplicit
theorem y0p{E:Value->Shared->Prop}{pins:List (Addr×Obj)}{s:Shared}{σ:St}{H:Hp}{x:Str}{u:Value}{pos:Pos}{Q:Value->Shared->Prop}(I:Inv X pins σ H s)(hg:Gl X x)(hm:X.mg x=some u)(h:Q u s)
  (hd:(x == ("__debug__":Str))=false:=by decide):wpAny (model X.prog X.w) X.A (eval (.Name x pos) X.env) Q E s:=
 Calls.Name_function_global I.ok.kind hg (Calls.loadGlobal_global (by rw[I.ok.glob];exact I.mod.glob.keeps I.bk) hm h) hd
theorem z6G{E:Value->Shared->Prop}{pins:List (Addr×Obj)}{s:Shared}{σ:St}{H:Hp}{x:Str}{u:Value}{pos:Pos}{Q:Value->Shared->Prop}(I:Inv X pins σ H s)(hg:Gl X x)(hm:X.mg x=none)(hv:bootBuiltins x=some u)(h:Q u s)
  (hn:x≠"__name__":=by decide) (hd:(x == ("__debug__":Str))=false:=by decide):wpAny (model X.prog X.w) X.A (eval (.Name x pos) X.env) Q E s:=by
 obtain⟨mb,h1,h2⟩:=I.mod.blt
 exact Calls.Name_function_global I.ok.kind hg (Calls.loadGlobal_builtin (by rw[I.ok.glob];exact I.mod.glob.keeps I.bk) hm (by rw[I.ok.blt];exact h1.keeps I.bk) ((h2 x hn).trans hv) h) hd
theorem y3g{x:Str}{v:V}{u:Value}{pos:Pos}(hg:Gl X x)(hm:X.mg x=some u)(r:RelV v u)(hd:(x == ("__debug__":Str))=false:=by decide):PE X (.Name x pos) (tC v):=
 fun _ _ _ H _ I h=>y0p I hg hm ⟨v,H,I,r,h⟩ hd
theorem z2s{x:Str}{v:V}{u:Value}{pos:Pos}(hg:Gl X x)(hm:X.mg x=none)(hv:bootBuiltins x=some u)(r:RelV v u)(hn:x≠"__name__":=by decide)(hd:(x == ("__debug__":Str))=false:=by decide):PE X (.Name x pos) (tC v):=
 fun _ _ _ H _ I h=>z6G I hg hm hv ⟨v,H,I,r,h⟩ hn hd
variable{a b:Expr}{ta tb:TE}{pos:Pos}
def PC(X:Cx)(op:CmpOp)(a b:Expr)(t:TE):Prop:=
 ∀(pins:List (Addr×Obj)) (s:Shared) (σ:St) (H:Hp) (Q:VK),Inv X pins σ H s->t σ H Q->
  wpAny (model X.prog X.w) X.A (eval a X.env) (fun v s₁=>wpAny (model X.prog X.w) X.A (eval b X.env) (fun u s₂=>wpAny (model X.prog X.w) X.A (compareOp op v u) (EP X pins σ Q) X.xe s₂) X.xe s₁) X.xe s
theorem y1k(b:Expr){op:CmpOp}(h:op≠.In)(h2:op≠.NotIn):behindInMarks op b=false:=by
 have e1:(op == CmpOp.In)=false:=by cases op<;>first|rfl|exact absurd rfl h
 have e2:(op == CmpOp.NotIn)=false:=by cases op<;>first|rfl|exact absurd rfl h2
 cases b<;>simp[behindInMarks,e1,e2]
def w0b(ta:TE):TE:=fun σ H Q=>ta σ H fun x H1=>Q (.bl (decide (x=.non))) H1
def w0k(ta:TE):TE:=fun σ H Q=>ta σ H fun x H1=>Q (.bl (!decide (x=.non))) H1
theorem RelV.S8{x:V}{v:Value}(r:RelV x v):(v == Value.none)=decide (x=.non):=by
 cases x with
 | non=>cases r;rfl
 | bl _=>cases r;rfl
 | int _=>obtain⟨t,rfl⟩:=r;rfl
 | str _=>obtain⟨t,rfl⟩:=r;rfl
 | byt _=>obtain⟨t,rfl⟩:=r;rfl
 | flt _=>obtain⟨t,rfl⟩:=r;rfl
 | ref _=>cases r;rfl
 | ty _=>cases r;rfl
theorem z9C{j pos'}(ha:PE X a ta):PC X .Is a (.Constant .none j pos') (w0b ta):=by
 intro pins s σ H Q I h
 refine thn (ha pins s σ H _ I h) fun v s1 hz=>?_
 obtain⟨x,H1,I1,r1,q1⟩:=hz
 exact Constant_none (is_none_gen ⟨.bl _,H1,I1,by rw[r1.S8];rfl,q1⟩)
theorem y7c{j pos'}(ha:PE X a ta):PC X .IsNot a (.Constant .none j pos') (w0k ta):=by
 intro pins s σ H Q I h
 refine thn (ha pins s σ H _ I h) fun v s1 hz=>?_
 obtain⟨x,H1,I1,r1,q1⟩:=hz
 exact Constant_none (isnot_none_gen ⟨.bl _,H1,I1,by rw[r1.S8];rfl,q1⟩)
def tB(t:TE):TT:=fun σ H Q=>t σ H fun x H1=>∃c,x=.bl c/\Q c H1
theorem y4i{op:CmpOp}{t:TE}(h:PC X op a b t)(h1:behindInMarks op b=false:=by first|exact y1k _ (by decide) (by decide)|rfl):PE X (.Compare a [op] [b] pos) t:=fun pins s σ H Q I hw=>wpAny_Compare1 (h pins s σ H Q I hw) h1
theorem z8o{op:CmpOp}{t:TE}(h:PC X op a b t)(h1:behindInMarks op b=false:=by first|exact y1k _ (by decide) (by decide)|rfl):PT X (.Compare a [op] [b] pos) (tB t):=by
 intro pins s σ H Q I hw
 refine wpAny_isTrue_Compare1 (thn (h pins s σ H _ I hw) fun v s1 h1=>thn h1 fun u s2 h2=>thn h2 fun c s3 hz=>?_) h1
 obtain⟨x,H1,I1,r1,q1⟩:=hz
 obtain⟨d,rfl,q⟩:=q1
 cases r1
 exact wpAny_truthy_bool ⟨H1,I1,q⟩
theorem z6s{e:Expr}{t:TE}(h:PE X e t)(he:∀whole,isTrue e X.env whole=(do let v <- whole;standAt e.pos;holding [v] (truthy v)):=by intro _;rfl):PT X e (tB t):=by
 intro pins s σ H Q I hw
 refine isTrue_plain (thn (h pins s σ H _ I hw) fun v s1 hz=>?_) (he _)
 obtain⟨x,H1,I1,r1,q1⟩:=hz
 obtain⟨d,rfl,q⟩:=q1
 cases r1
 exact wpAny_truthy_bool ⟨H1,I1,q⟩
variable{tA tB':TT}{rest:List Expr}
def tAnd(t u:TT):TT:=fun σ H Q=>t σ H fun c H1=>if c=true then u σ H1 Q else Q false H1
def tOr(t u:TT):TT:=fun σ H Q=>t σ H fun c H1=>if c=true then Q true H1 else u σ H1 Q
def tNot(t:TT):TT:=fun σ H Q=>t σ H fun c H1=>Q (!c) H1
theorem z3J(ha:PT X a tA):PW X (.BoolOp .And [a] pos) tA:=by
 intro wh pins s σ H Q I h
 refine isTrue_and (thn (ha pins s σ H Q I h) fun c s1 e=>?_)
 cases c with
 | true=>exact isTrue_and_nil e
 | false=>exact e
theorem z2P(ha:PT X a tA):PW X (.BoolOp .Or [a] pos) tA:=by
 intro wh pins s σ H Q I h
 refine isTrue_or (thn (ha pins s σ H Q I h) fun c s1 e=>?_)
 cases c with
 | false=>exact isTrue_or_nil e
 | true=>exact e
theorem z5E(ha:PT X a tA)(hb:PW X (.BoolOp .And (b::rest) pos) tB'):PW X (.BoolOp .And (a::b::rest) pos) (tAnd tA tB'):=by
 intro wh pins s σ H Q I h
 refine isTrue_and (thn (ha pins s σ H _ I h) fun c s1 hz=>?_)
 obtain⟨H1,I1,q1⟩:=hz
 cases c with
 | true=>exact hb wh pins s1 σ H1 Q I1 q1
 | false=>exact⟨H1,I1,q1⟩
theorem z4v(ha:PT X a tA)(hb:PW X (.BoolOp .Or (b::rest) pos) tB'):PW X (.BoolOp .Or (a::b::rest) pos) (tOr tA tB'):=by
 intro wh pins s σ H Q I h
 refine isTrue_or (thn (ha pins s σ H _ I h) fun c s1 hz=>?_)
 obtain⟨H1,I1,q1⟩:=hz
 cases c with
 | true=>exact⟨H1,I1,q1⟩
 | false=>exact hb wh pins s1 σ H1 Q I1 q1
theorem z7S(ha:PT X a tA):PT X (.UnaryOp .Not a pos) (tNot tA):=by
 intro pins s σ H Q I h
 exact isTrue_not (ha pins s σ H (fun c H1=>Q (!c) H1) I h)
def w0p(ta tb:TE):TE:=fun σ H Q=>ta σ H fun x H1=>∃c,x=.bl c/\if c=true then tb σ H1 Q else Q (.bl false) H1
def w0z(ta:TE):TE:=fun σ H Q=>ta σ H fun x H1=>∃c,x=.bl c/\Q (.bl (!c)) H1
theorem y5P{op}{t:TE}(h:PE X a t):PE X (.BoolOp op [a] pos) t:=fun pins s σ H Q I hw=>BoolOp_one (h pins s σ H Q I hw)
theorem y5X(ha:PE X a ta)(hb:PE X (.BoolOp .And (b::rest) pos) tb):PE X (.BoolOp .And (a::b::rest) pos) (w0p ta tb):=by
 intro pins s σ H Q I h
 refine BoolOp_and (thn (ha pins s σ H _ I h) fun v s1 hz=>?_)
 obtain⟨x,H1,I1,r1,q1⟩:=hz
 obtain⟨c,rfl,q1⟩:=q1
 cases r1
 refine wpAny_truthy_bool ?_
 cases c with
 | true=>exact hb pins s1 σ H1 Q I1 q1
 | false=>exact⟨.bl false,H1,I1,rfl,q1⟩
theorem y7I(ha:PE X a ta):PE X (.UnaryOp .Not a pos) (w0z ta):=by
 intro pins s σ H Q I h
 refine UnaryOp_ (thn (ha pins s σ H _ I h) fun v s1 hz=>?_)
 obtain⟨x,H1,I1,r1,q1⟩:=hz
 obtain⟨c,rfl,q1⟩:=q1
 cases r1
 exact not_of (wpAny_truthy_bool ⟨.bl (!c),H1,I1,rfl,q1⟩)
def tIf(t:TT)(ta tb:TE):TE:=fun σ H Q=>t σ H fun c H1=>if c=true then ta σ H1 Q else tb σ H1 Q
theorem z9g{c:Expr}(hc:PT X c tA)(ha:PE X a ta)(hb:PE X b tb):PE X (.IfExp c a b pos) (tIf tA ta tb):=by
 intro pins s σ H Q I h
 refine wpAny_IfExp (thn (hc pins s σ H _ I h) fun d s1 hz=>?_)
 obtain⟨H1,I1,q1⟩:=hz
 cases d with
 | true=>exact ha pins s1 σ H1 Q I1 q1
 | false=>exact hb pins s1 σ H1 Q I1 q1
end
def SqL(K:PySem.W.Frag)(H:Hp)(a:Addr)(xs:List V):Prop:=
 Rd H a (.lst xs)\/
  ∃(o:Obj) (its:Array Value) (n:Nat),K.lookup a=some o/\o.cls=.type "list"/\o.dict=none/\o.data=.seq its n/\its.size≤sizeLine/\Vals xs its.toList
def SqT(K:PySem.W.Frag)(H:Hp)(a:Addr)(xs:List V):Prop:=
 Rd H a (.tup xs)\/
  ∃(o:Obj) (its:Array Value) (n:Nat),K.lookup a=some o/\o.cls=.type "tuple"/\o.data=.seq its n/\its.size≤sizeLine/\Vals xs its.toList
def absV:Value->Option V
 | .none=>some .non
 | .bool b=>some (.bl b)
 | .int i _=>some (.int i)
 | .str x _=>some (.str x)
 | .bytes b _=>some (.byt b)
 | .float b _=>some (.flt b)
 | .ref a=>some (.ref a)
 | .type n=>some (.ty n)
 | _=>none
theorem RelV.abs{x:V}{u:Value}(r:RelV x u):absV u=some x:=by
 cases x with
 | non=>cases r;rfl
 | bl _=>cases r;rfl
 | int _=>obtain⟨t,rfl⟩:=r;rfl
 | str _=>obtain⟨t,rfl⟩:=r;rfl
 | byt _=>obtain⟨t,rfl⟩:=r;rfl
 | flt _=>obtain⟨t,rfl⟩:=r;rfl
 | ref _=>cases r;rfl
 | ty _=>cases r;rfl
theorem RelV.inj{x y:V}{u:Value}(r:RelV x u)(q:RelV y u):x=y:=Option.some.inj (r.abs.symm.trans q.abs)
theorem Vals.inj:∀{xs ys:List V}{us:List Value},Vals xs us->Vals ys us->xs=ys
 | _,_,_,.nil,.nil=>rfl
 | _,_,_,.cons r t,.cons r' t'=>by rw[r.inj r',Vals.inj t t']
section
variable{X:Cx}{pins:List (Addr×Obj)}{σ:St}{H:Hp}{s:Shared}{a:Addr}{xs ys:List V}
theorem SqL.of{K:PySem.W.Frag}(h:H a=some (.lst xs)):SqL K H a xs:=.inl (.inl h)
theorem SqT.of{K:PySem.W.Frag}(h:H a=some (.tup xs)):SqT K H a xs:=.inl (.inl h)
theorem Inv.list(I:Inv X pins σ H s)(h:SqL X.K H a xs):∃its:List Value,Vals xs its/\PlainL s.heap a its.toArray/\xs.length≤sizeLine:=by
 rcases h with h|⟨o,its,n,hk,hc,hd,hs,hz,r⟩
 ·obtain⟨z,its,n,r,e⟩:=h.ok I.hok
  exact⟨its,r,⟨_,n,e,rfl,rfl,rfl⟩,z⟩
 ·refine⟨its.toList,r,⟨o,n,I.kIn a o hk,hc,hd,by simpa using hs⟩,?_⟩
  have e:=r.length
  simp only[cJ] at e
  omega
theorem Inv.tuple(I:Inv X pins σ H s)(h:SqT X.K H a xs):∃its:List Value,Vals xs its/\IsTup s.heap a its.toArray/\xs.length≤sizeLine:=by
 rcases h with h|⟨o,its,n,hk,hc,hs,hz,r⟩
 ·obtain⟨z,its,r,p⟩:=h.ok I.hok
  exact⟨its,r,PlT.tup p,z⟩
 ·refine⟨its.toList,r,⟨o,I.kIn a o hk,hc,n,by simpa using hs⟩,?_⟩
  have e:=r.length
  simp only[cJ] at e
  omega
theorem Inv.W9(I:Inv X pins σ H s)(h:SqL X.K H a xs)(h':SqL X.K H a ys):xs=ys:=by
 obtain⟨its,r,⟨o,n,e,_,_,d⟩,_⟩:=I.list h
 obtain⟨its',r',⟨o',n',e',_,_,d'⟩,_⟩:=I.list h'
 rw[e] at e';cases e'
 rw[d] at d'
 injection d' with d1 _
 have:its=its':=by simpa using congrArg Array.toList d1
 subst this
 exact r.inj r'
theorem Inv.Q7(I:Inv X pins σ H s)(h:SqT X.K H a xs)(h':SqT X.K H a ys):xs=ys:=by
 obtain⟨its,r,⟨o,e,_,n,d⟩,_⟩:=I.tuple h
 obtain⟨its',r',⟨o',e',_,n',d'⟩,_⟩:=I.tuple h'
 rw[e] at e';cases e'
 rw[d] at d'
 injection d' with d1 _
 have:its=its':=by simpa using congrArg Array.toList d1
 subst this
 exact r.inj r'
end
abbrev Cx.Q2(X:Cx)(E:Value->Shared->Prop):Cx:={ X with xe:=E }
abbrev Cx.nox(X:Cx):Cx:=X.Q2 fun _ _=>False
theorem Cx.Ok.Q2{X:Cx}(ok:X.Ok)(E:Value->Shared->Prop):(X.Q2 E).Ok:=
 ⟨ok.mod,ok.kind,ok.glob,ok.blt,ok.above,ok.inj,ok.has,ok.cab,ok.hd,ok.frames,ok.stk,ok.exf,ok.bs,ok.bsz,ok.noex,ok.exfs,ok.O9,ok.frf⟩
theorem Cx.Ok.K7{X:Cx}{E:Value->Shared->Prop}(ok:(X.Q2 E).Ok):X.Ok:=
 ⟨ok.mod,ok.kind,ok.glob,ok.blt,ok.above,ok.inj,ok.has,ok.cab,ok.hd,ok.frames,ok.stk,ok.exf,ok.bs,ok.bsz,ok.noex,ok.exfs,ok.O9,ok.frf⟩
section
variable{X:Cx}{pins:List (Addr×Obj)}{σ:St}{H:Hp}{s:Shared}{E:Value->Shared->Prop}
theorem Inv.Q2(I:Inv X pins σ H s)(E:Value->Shared->Prop):Inv (X.Q2 E) pins σ H s:=⟨I.ok.Q2 E,I.os,I.bare,I.base,I.loc,I.cell,I.free,I.freeC,I.pin,I.hok,I.len⟩
theorem Inv.K7(I:Inv (X.Q2 E) pins σ H s):Inv X pins σ H s:=⟨I.ok.K7,I.os,I.bare,I.base,I.loc,I.cell,I.free,I.freeC,I.pin,I.hok,I.len⟩
theorem SP.K7{D:Ends}{f:Flow}{s':Shared}(h:SP (X.Q2 E) pins D f s'):SP X pins D f s':=by
 cases f with
 | next=>obtain⟨σ',H',I,q⟩:=h;exact⟨σ',H',I.K7,q⟩
 | brk=>obtain⟨σ',H',I,q⟩:=h;exact⟨σ',H',I.K7,q⟩
 | cont=>obtain⟨σ',H',I,q⟩:=h;exact⟨σ',H',I.K7,q⟩
 | ret u=>obtain⟨v,σ',H',I,r,q⟩:=h;exact⟨v,σ',H',I.K7,r,q⟩
theorem PSs.nox{st:List Stmt}{t:TS}(h:PSs X.nox st t):PSs X st t:=fun pins s σ H D I hw=>
 wpAny_mono (h pins s σ H D (I.Q2 _) hw) (fun _ _ q=>q.K7) fun _ _ z=>False.elim z
end
section
variable{X:Cx}{st:Stmt}{rest:List Stmt}{t u:TS}{e:Expr}{te:TE}{pos:Pos}
def w0R:TS:=fun D σ H=>D.nx σ H
def tSeq(t u:TS):TS:=fun D σ H=>t { D with nx:=u D } σ H
theorem z0p:PSs X [] w0R:=fun _ _ σ H _ I h=>wpAny_execs_nil ⟨σ,H,I,h⟩
theorem z04(h1:PS X st t)(h2:PSs X rest u):PSs X (st::rest) (tSeq t u):=by
 intro pins s σ H D I h
 refine wpAny_execs_cons (thn (h1 pins s σ H { D with nx:=u D } I h) fun f s1 q=>?_)
 cases f with
 | next=>
  obtain⟨σ',H',I',q⟩:=q
  exact h2 pins s1 σ' H' D I' q
 | ret v=>exact q
 | brk=>exact q
 | cont=>exact q
theorem z05(h1:PS X st t):PSs X [st] t:=by
 intro pins s σ H D I h
 refine wpAny_execs_cons (thn (h1 pins s σ H D I h) fun f s1 q=>?_)
 cases f with
 | next=>exact wpAny_execs_nil q
 | ret v=>exact q
 | brk=>exact q
 | cont=>exact q
theorem Inv.quiet{pins:List (Addr×Obj)}{σ:St}{H:Hp}{s:Shared}(I:Inv X pins σ H s):interactive X.env=false:=by simp[interactive,I.ok.kind]
def w1g(te:TE):TS:=fun D σ H=>te σ H fun _ H1=>D.nx σ H1
theorem z0C(he:PE X e te)(hs:swapsWith e none pos.line X.env=pure false:=by rfl):PS X (.Expr e pos) (w1g te):=by
 intro pins s σ H D I h
 exact wpAny_Expr_any (thn (he pins s σ H _ I h) fun v s1 ⟨x,H1,I1,r1,q1⟩=>⟨σ,H1,I1,q1⟩) I.quiet hs
def tRet(te:TE):TS:=fun D σ H=>te σ H D.rt
theorem z0h(he:PE X e te):PS X (.Return (some e) pos) (tRet te):=by
 intro pins s σ H D I h
 exact wpAny_Return_some (thn (he pins s σ H _ I h) fun v s1 ⟨x,H1,I1,r1,q1⟩=>⟨x,σ,H1,I1,r1,q1⟩)
def tIfS(c:TT)(t u:TS):TS:=fun D σ H=>c σ H fun b H1=>if b=true then t D σ H1 else u D σ H1
theorem z0N{c:Expr}{a b:List Stmt}{tc:TT}(hc:PT X c tc)(ha:PSs X a t)(hb:PSs X b u):PS X (.If c a b pos) (tIfS tc t u):=by
 intro pins s σ H D I h
 refine wpAny_If (thn (hc pins s σ H _ I h) fun d s1 hz=>?_)
 obtain⟨H1,I1,q1⟩:=hz
 cases d with
 | true=>exact ha pins s1 σ H1 D I1 q1
 | false=>exact hb pins s1 σ H1 D I1 q1
def y7x:TS:=fun _ _ _=>False
theorem z1s:PS X st y7x:=fun _ _ _ _ _ _ h=>h.elim
end
abbrev TG:=V->St->Hp->(St->Hp->Prop)->Prop
abbrev TGs:=List V->St->Hp->(St->Hp->Prop)->Prop
def PG(X:Cx)(target:Expr)(t:TG):Prop:=
 ∀(pins:List (Addr×Obj)) (s:Shared) (σ:St) (H:Hp) (v:V) (u:Value) (Q:St->Hp->Prop),Inv X pins σ H s->RelV v u->t v σ H Q->
  wpAny (model X.prog X.w) X.A (assign target X.env u) (fun _ s'=>∃σ' H',Inv X pins σ' H' s'/\Q σ' H') X.xe s
def PGs(X:Cx)(ts:List Expr)(t:TGs):Prop:=
 ∀(pins:List (Addr×Obj)) (s:Shared) (σ:St) (H:Hp) (vs:List V) (us:List Value) (Q:St->Hp->Prop),Inv X pins σ H s->Vals vs us->t vs σ H Q->
  wpAny (model X.prog X.w) X.A (assignInOrder ((assignEach ts X.env).map (·.2)) us) (fun _ s'=>∃σ' H',Inv X pins σ' H' s'/\Q σ' H') X.xe s
abbrev Z9:=V->V->V->Hp->(Hp->Prop)->Prop
def PSet(X:Cx)(t:Z9):Prop:=
 ∀(pins:List (Addr×Obj)) (s:Shared) (σ:St) (H:Hp) (o i v:V) (ov iv u:Value) (Q:Hp->Prop),Inv X pins σ H s->RelV o ov->RelV i iv->RelV v u->t o i v H Q->
  wpAny (model X.prog X.w) X.A (setItem ov iv u) (fun _ s'=>∃H',Inv X pins σ H' s'/\Q H') X.xe s
section
variable{X:Cx}{pos:Pos}
def y3q(i:Nat):TG:=fun v σ H Q=>Q (σ.set i (some v)) H
theorem z0j{i:Nat}{x:Str}(hN:X.N.Nodup)(hi:X.N[i]? = some x)(hx:Loc X.env.scope x)(hf:X.fn x=true\/X.env.scope.names.lookup x=some .local:=by first|exact .inl rfl|exact .inr rfl|assumption):PG X (.Name x pos) (y3q i):=by
 intro pins s σ H v u Q I r h
 exact wpAny_assign_Name (y1C I hN hi hx r (fun s' I'=>⟨_,H,I',h⟩) hf)
def Z1:TGs:=fun vs σ H Q=>vs=[]/\Q σ H
def y6Q(t:TG)(u:TGs):TGs:=fun vs σ H Q=>∃v r,vs=v::r/\t v σ H fun σ' H'=>u r σ' H' Q
theorem z66:PGs X [] Z1:=by
 intro pins s σ H vs us Q I r h
 obtain⟨e,h⟩:=h
 subst e
 cases r
 exact assignInOrder_nil ⟨σ,H,I,h⟩
theorem z1C{e:Expr}{es:List Expr}{t:TG}{u:TGs}(h1:PG X e t)(h2:PGs X es u)
  (hs:(assignEach (e::es) X.env).map (·.2)=assign e X.env::(assignEach es X.env).map (·.2):=by rfl):PGs X (e::es) (y6Q t u):=by
 intro pins s σ H vs us Q I r h
 obtain⟨v,vr,e1,h⟩:=h
 subst e1
 cases r with
 | cons r rr=>
  rw[hs]
  refine assignInOrder_cons (thn (h1 pins s σ H _ _ _ I r h) fun _ s1 hz=>?_)
  obtain⟨σ1,H1,I1,q1⟩:=hz
  exact h2 pins s1 σ1 H1 _ _ Q I1 rr q1
def X8(K:PySem.W.Frag)(n:Nat)(t:TGs):TG:=fun v σ H Q=>∃a xs,v=.ref a/\SqT K H a xs/\xs.length=n/\t xs σ H Q
theorem y7n{es:List Expr}{k:Nat}{t:TGs}{n:Nat}(hc:X.calm=true)(h:PGs X es t)
  (hn:(assignEach es X.env).length=n:=by rfl) (hst:(assignEach es X.env).findIdx? (·.1)=none:=by rfl):PG X (.Tuple es k pos) (X8 X.K n t):=by
 intro pins s σ H v u Q I r hw
 obtain⟨a,xs,e1,hq,hl,hw⟩:=hw
 subst e1
 cases r
 obtain⟨its,rv,ht,hz⟩:=I.tuple hq
 refine assign_Tuple_tuple (I.ok.hd hc) ht (by simp[hn,<- hl,rv.length]) hst fun h' hx=>?_
 have I1:Inv X pins σ H { s with heap:=h' }:=I.kept (t':=s.toks) fun b o e=>hx b o (bW (bK e)) e
 exact h pins _ σ H xs _ Q I1 (by simpa using rv) hw
def gSub(to ti:TE)(t:Z9):TG:=fun v σ H Q=>to σ H fun o H1=>ti σ H1 fun i H2=>t o i v H2 fun H3=>Q σ H3
theorem y5W{o i:Expr}{to ti:TE}{t:Z9}(ho:PE X o to)(hi:PE X i ti)(hs:PSet X t)
  (ha:∀v,assign (.Subscript o i pos) X.env v=(do
   let ov <- holding [v] (eval o X.env)
   let iv <- holding [v,ov] (eval i X.env)
   standAt pos
   holding [v,ov,iv] (setItem ov iv v)
   release [v,ov,iv] []):=by intro _;rfl):PG X (.Subscript o i pos) (gSub to ti t):=by
 intro pins s σ H v u Q I r h
 rw[ha]
 refine wpAny_bind (wpAny_holding (thn (ho pins s σ H _ I h) fun ov s1 hz=>?_))
 obtain⟨x,H1,I1,r1,q1⟩:=hz
 refine wpAny_bind (wpAny_holding (thn (hi pins s1 σ H1 _ I1 q1) fun iv s2 hz=>?_))
 obtain⟨y,H2,I2,r2,q2⟩:=hz
 refine wpAny_bind (wpAny_standAt (wpAny_bind (wpAny_holding (thn (hs pins s2 σ H2 x y v ov iv u _ I2 r1 r2 r q2) fun _ s3 hz=>?_))))
 obtain⟨H3,I3,q3⟩:=hz
 exact wpAny_release ⟨σ,H3,I3,q3⟩
def Z4(te:TE)(g:TG):TS:=fun D σ H=>te σ H fun x H1=>g x σ H1 D.nx
theorem y6f{tg e:Expr}{te:TE}{g:TG}(he:PE X e te)(hg:PG X tg g)(hs:swapsWithSole [tg] e pos.line X.env=pure false:=by rfl)(hw:swappedStores [tg] e X.env=pure none:=by rfl)
  (h1:(assignEach [tg] X.env).map (·.2)=[assign tg X.env]:=by rfl):PS X (.Assign [tg] e pos) (Z4 te g):=by
 intro pins s σ H D I h
 refine wpAny_Assign_stores (thn (he pins s σ H _ I h) fun v s1 hz=>?_) hs hw
 obtain⟨x,H1,I1,r1,q1⟩:=hz
 rw[h1]
 exact thn (hg pins s1 σ H1 x v _ I1 r1 q1) fun _ s2 q=>q
theorem z0l{i:Nat}{x:Str}{e:Expr}{te:TE}{pos':Pos}(hN:X.N.Nodup)(hi:X.N[i]? = some x)(hx:Loc X.env.scope x)(he:PE X e te)(hs:swapsWith e (some (.Name x pos')) pos.line X.env=pure false:=by rfl)(hf:X.fn x=true\/X.env.scope.names.lookup x=some .local:=by first|exact .inl rfl|exact .inr rfl|assumption) :
  PS X (.Assign [.Name x pos'] e pos) (Z4 te (y3q i)):=by
 intro pins s σ H D I h
 refine wpAny_Assign_Name (thn (he pins s σ H _ I h) fun v s1 hz=>?_) hs
 obtain⟨y,H1,I1,r1,q1⟩:=hz
 exact y1C I1 hN hi hx r1 (fun s2 I2=>⟨_,H1,I2,q1⟩) hf
end
section
variable{X:Cx}{pos:Pos}
end
structure It where
 go:Nat->Hp->Prop
 yld:Nat->Hp->V->Hp->Prop
 stop:Nat->Hp->Prop
def O8(X:Cx)(pins:List (Addr×Obj))(H:Hp)(b:Addr):Prop:=
 H b=none/\b≠X.env.locals/\b∉X.fs/\(b∈X.ex\/X.s₀.heap.objs.size≤b)/\(∀x c,X.env.cells.lookup x=some c->c≠b)/\∀p∈X.pn++pins,p.1≠b
theorem Inv.T2{X:Cx}{pins:List (Addr×Obj)}{σ:St}{H H':Hp}{s:Shared}{b:Addr}(I:Inv X pins σ H s)(hb:s.heap.objs.size≤b)(hn:H' b=none):O8 X pins H' b:=by
 refine⟨hn,fG (cN I.lt hb),I.nofs hb,.inr (cO I.sz hb),fun x c e z=>?_,fun p hp z=>?_⟩
 ·obtain⟨v,q⟩:=I.cell x c e
  exact absurd (cN q.lt (by rw[z];exact hb)) (dM _)
 ·exact absurd (cN (bK (I.pin p hp).1) (by rw[z];exact hb)) (dM _)
structure Turn(P:Program)(w:World)(K:PySem.W.Frag)(tg:Expr)(J:It)(fp:List Addr)(it:Addr)(tn:Nat->Heap->Prop):Prop where
 mem:it∈fp
 obj:∀i h,tn i h->∀b∈fp,∃o,h.get? b=some o/\∀v,o.data≠.cell v
 keep:∀i h h',tn i h->(∀b∈fp,∀o,h.get? b=some o->h'.get? b=some o)->tn i h'
 item:∀(X:Cx),X.prog=P->X.w=w->X.K=K->X.calm=true->∀(i:Nat) (pins:List (Addr×Obj)) (s:Shared) (σ:St) (H:Hp) (E:Value->Shared->Prop),Inv X pins σ H s->(∀b∈fp,O8 X pins H b)->tn i s.heap->J.go i H->
  wpAny (model P w) X.A (pyNext (.ref it)) (fun r s1=>∃u,r=some u/\
   wpAny (model P w) X.A (letOwnedTupleGo tg (.ref it) u) (fun _ s2=>∃x H',Inv X pins σ H' s2/\RelV x u/\J.yld i H x H'/\tn (i+1) s2.heap/\∀b∈fp,H' b=none) E s1) E s
 done:∀(X:Cx),X.prog=P->X.w=w->X.K=K->X.calm=true->∀(i:Nat) (pins:List (Addr×Obj)) (s:Shared) (σ:St) (H:Hp) (E:Value->Shared->Prop),Inv X pins σ H s->(∀b∈fp,O8 X pins H b)->tn i s.heap->J.stop i H->
  wpAny (model P w) X.A (pyNext (.ref it)) (fun r s1=>r=none/\Inv X pins σ H s1) E s
 self:∀(A:Around) (i:Nat) (s:Shared) (Q:Value->Shared->Prop) (E:Value->Shared->Prop),tn i s.heap->Q (.ref it) s->wpAny (model P w) A (pyIter (.ref it)) Q E s
abbrev TI:=St->Hp->(It->Hp->Prop)->Prop
def PIE(X:Cx)(pins:List (Addr×Obj))(σ:St)(tg:Expr)(R:It->Hp->Prop)(itv:Value)(s2:Shared):Prop:=
 ∃(it:Addr) (fp:List Addr) (tn:Nat->Heap->Prop) (J:It) (H':Hp),itv=.ref it/\Inv X pins σ H' s2/\Turn X.prog X.w X.K tg J fp it tn/\tn 0 s2.heap/\(∀b∈fp,O8 X pins H' b)/\R J H'
def PI(X:Cx)(tg iter:Expr)(wi:TI):Prop:=
 ∀(pins:List (Addr×Obj)) (s:Shared) (σ:St) (H:Hp) (R:It->Hp->Prop),Inv X pins σ H s->wi σ H R->
  wpAny (model X.prog X.w) X.A (eval iter X.env) (fun v s1=>wpAny (model X.prog X.w) X.A (pyIter v) (PIE X pins σ tg R) X.xe s1) X.xe s
theorem y5D {M : Model} {A : Around} {E : Value -> Shared -> Prop} {s : Shared} {tg : Expr} {it : Addr} {u : Value} {o : Obj} {n : String} {vs : Array Value} {Q : Unit -> Shared -> Prop} (ho : s.heap.get? it = some o) (hc : o.cls = .type n) (hd : o.data = .fields vs)
    (hn : ["enumerate", "zip", "dict_itemiterator", "dict_reverseitemiterator", "odict_iterator", "itertools.zip_longest", "itertools.pairwise"].contains n = false) (hQ : Q () s) : wpAny M A (letOwnedTupleGo tg (.ref it) u) Q E s := by
  unfold letOwnedTupleGo
  cases tg <;> first
    | exact wpAny_pure hQ
    | (cases u <;> first
        | exact wpAny_pure hQ
        | (refine wpAny_bind (wpAny_load ho ?_)
           rw [hc, hd]
           show wpAny M A (if (["enumerate", "zip", "dict_itemiterator", "dict_reverseitemiterator", "odict_iterator", "itertools.zip_longest", "itertools.pairwise"].contains n && vs[0]? == some (rawInt _)) = true then _ else _) Q E s
           rw [if_neg (by intro h; rw [hn, gO] at h; cases h)]
           exact wpAny_pure hQ))
def Itl(K:PySem.W.Frag)(a:Addr):It:=
 ⟨fun i H=>∃xs x,SqL K H a xs/\xs[i]? = some x,fun i H x H'=>H'=H/\∀xs,SqL K H a xs->xs[i]? = some x,fun i H=>∃xs,SqL K H a xs/\xs.length≤i⟩
def Itt(K:PySem.W.Frag)(a:Addr):It:=
 ⟨fun i H=>∃xs x,SqT K H a xs/\xs[i]? = some x,fun i H x H'=>H'=H/\∀xs,SqT K H a xs->xs[i]? = some x,fun i H=>∃xs,SqT K H a xs/\xs.length≤i⟩
def Itr(lo:Int)(n:Nat):It:=⟨fun i _=>i<n,fun i H x H'=>H'=H/\x=.int (lo+i),fun i _=>n≤i⟩
theorem z9z{P:Program}{w:World}{K:PySem.W.Frag}{tg:Expr}(a it:Addr):Turn P w K tg (Itl K a) [it] it (fun i h=>h.IsListIter it a i) where
 mem:=by simp
 obj:=fun i h st b hb=>by
  have e:b=it:=by simpa using hb
  subst e
  obtain⟨o,e,c,d⟩:=st
  exact⟨o,e,fun v z=>by rw[d] at z;cases z⟩
 keep:=fun i h h' st k=>st.at fun o e=>k it (by simp) o e
 item:=by
  intro X hP hw hK hc i pins s σ H E I hf st hg
  subst hP hw hK
  obtain⟨xs,x,hq,hx⟩:=hg
  obtain⟨its,rv,p,hz⟩:=I.list hq
  obtain⟨u,hu,ru⟩:=rv.get hx
  obtain⟨f0,f1,f2,f3,f4,f5⟩:=hf it (by simp)
  refine wpAny_pyNext_list_item st p.isList (x:=u) (by simpa using hu) fun h' st' sb=>?_
  have I1:Inv X pins σ H { s with heap:=h' }:=I.turned (t':=s.toks) (fun b o hb e=>(sb.2 b hb).trans e) f0 f1 f3 f4 f5
  obtain⟨o,e,c,d⟩:=id st'
  exact⟨u,rfl,y5D (s:={ s with heap:=h' }) e c d (by decide) ⟨x,H,I1,ru,⟨rfl,fun ys hy=>by rw[I.W9 hy hq];exact hx⟩,st',fun b hb=>(hf b hb).1⟩⟩
 done:=by
  intro X hP hw hK hc i pins s σ H E I hf st hg
  subst hP hw hK
  obtain⟨xs,hq,hx⟩:=hg
  obtain⟨its,rv,p,hz⟩:=I.list hq
  obtain⟨f0,f1,f2,f3,f4,f5⟩:=hf it (by simp)
  have hl:=rv.length
  exact wpAny_pyNext_list_end (I.ok.hd hc) st p.isList (by simp;omega) fun h' eb=>⟨rfl,I.turned (t':=s.toks) (fun b o hb e=>eb b o hb e) f0 f1 f3 f4 f5⟩
 self:=fun _ _ _ _ _ st h=>wpAny_pyIter_listiter st h
theorem z8l{P:Program}{w:World}{K:PySem.W.Frag}{tg:Expr}(a it:Addr):Turn P w K tg (Itt K a) [it] it (fun i h=>h.IsTupleIter it a i) where
 mem:=by simp
 obj:=fun i h st b hb=>by
  have e:b=it:=by simpa using hb
  subst e
  obtain⟨o,e,c,d⟩:=st
  exact⟨o,e,fun v z=>by rw[d] at z;cases z⟩
 keep:=fun i h h' st k=>st.at fun o e=>k it (by simp) o e
 item:=by
  intro X hP hw hK hc i pins s σ H E I hf st hg
  subst hP hw hK
  obtain⟨xs,x,hq,hx⟩:=hg
  obtain⟨its,rv,p,hz⟩:=I.tuple hq
  obtain⟨u,hu,ru⟩:=rv.get hx
  obtain⟨f0,f1,f2,f3,f4,f5⟩:=hf it (by simp)
  refine wpAny_pyNext_tuple_item st (show s.heap.IsTuple a its.toArray from p) (x:=u) (by simpa using hu) fun h' st' sb=>?_
  have I1:Inv X pins σ H { s with heap:=h' }:=I.turned (t':=s.toks) (fun b o hb e=>(sb.2 b hb).trans e) f0 f1 f3 f4 f5
  obtain⟨o,e,c,d⟩:=id st'
  exact⟨u,rfl,y5D (s:={ s with heap:=h' }) e c d (by decide) ⟨x,H,I1,ru,⟨rfl,fun ys hy=>by rw[I.Q7 hy hq];exact hx⟩,st',fun b hb=>(hf b hb).1⟩⟩
 done:=by
  intro X hP hw hK hc i pins s σ H E I hf st hg
  subst hP hw hK
  obtain⟨xs,hq,hx⟩:=hg
  obtain⟨its,rv,p,hz⟩:=I.tuple hq
  obtain⟨f0,f1,f2,f3,f4,f5⟩:=hf it (by simp)
  have hl:=rv.length
  exact wpAny_pyNext_tuple_end (I.ok.hd hc) st (show s.heap.IsTuple a its.toArray from p) (by simp;omega) fun h' eb=>⟨rfl,I.turned (t':=s.toks) (fun b o hb e=>eb b o hb e) f0 f1 f3 f4 f5⟩
 self:=fun _ _ _ _ _ st h=>wpAny_pyIter_tupleiter st h
theorem y29{P:Program}{w:World}{K:PySem.W.Frag}{tg:Expr}(it:Addr)(lo:Int)(n:Nat):Turn P w K tg (Itr lo n) [it] it (fun i h=>IsRangeIter h it (lo+(i:Nat)*1) ((n:Int)-(i:Nat)) 1) where
 mem:=by simp
 obj:=fun i h st b hb=>by
  have e:b=it:=by simpa using hb
  subst e
  exact⟨_,st,fun v z=>by
   have z':Data.fields _=Data.cell v:=z
   cases z'⟩
 keep:=fun i h h' st k=>k it (by simp) _ st
 item:=by
  intro X hP hw hK hc i pins s σ H E I hf st hg
  subst hP hw hK
  obtain⟨f0,f1,f2,f3,f4,f5⟩:=hf it (by simp)
  have W:=Walks.range (prog:=X.prog) (w:=X.w) (I.ok.hd hc) it lo 1 n
  refine W.item i s _ _ hg st fun v h' tk hv st' kk=>?_
  obtain⟨t,rfl⟩:=hv
  have I1:Inv X pins σ H { s with heap:=h',toks:=tk }:=I.turned (fun b o hb e=>kk b o (by simpa using hb) e) f0 f1 f3 f4 f5
  refine⟨_,rfl,y5D (s:={ s with heap:=h',toks:=tk }) (n:="range_iterator") st' rfl rfl (by decide) ⟨.int (lo+i),H,I1,⟨t,?_⟩,⟨rfl,rfl⟩,st',fun b hb=>(hf b hb).1⟩⟩
  rw[Int.mul_one]
 done:=by
  intro X hP hw hK hc i pins s σ H E I hf st hg
  subst hP hw hK
  obtain⟨f0,f1,f2,f3,f4,f5⟩:=hf it (by simp)
  exact wpAny_pyNext_range_end (I.ok.hd hc) st (by have:n≤i:=hg;omega) fun h' eb=>⟨rfl,I.turned (t':=s.toks) (fun b o hb e=>eb b o hb e) f0 f1 f3 f4 f5⟩
 self:=fun _ _ _ _ _ st h=>wpAny_pyIter_rangeiter st h
section
variable{X:Cx}{tg:Expr}
def w0P(K:PySem.W.Frag)(tl:TE):TI:=fun σ H R=>tl σ H fun x H1=>∃a,x=.ref a/\(∃xs,SqL K H1 a xs)/\R (Itl K a) H1
def iTup(K:PySem.W.Frag)(tl:TE):TI:=fun σ H R=>tl σ H fun x H1=>∃a,x=.ref a/\(∃xs,SqT K H1 a xs)/\R (Itt K a) H1
theorem z18{l:Expr}{tl:TE}(hl:PE X l tl):PI X tg l (w0P X.K tl):=by
 intro pins s σ H R I h
 refine thn (hl pins s σ H _ I h) fun v s1 hz=>?_
 obtain⟨x,H1,I1,r1,q1⟩:=hz
 obtain⟨a,e,⟨xs,hq⟩,q⟩:=q1
 subst e
 cases r1
 obtain⟨its,rv,p,hz⟩:=I1.list hq
 refine wpAny_pyIter_list p.isList ?_
 refine⟨s1.heap.objs.size,[s1.heap.objs.size],_,_,H1,rfl,I1.kept (t':=s1.toks) fun b o e=>b9 _ e,z9z a _,⟨_,bF _ rfl,rfl,rfl⟩,fun b hb=>?_,q⟩
 have e:b=s1.heap.objs.size:=by simpa using hb
 subst e
 exact I1.T2 (bC _) (I1.hok.fresh (bC _))
theorem z2I{l:Expr}{tl:TE}(hl:PE X l tl):PI X tg l (iTup X.K tl):=by
 intro pins s σ H R I h
 refine thn (hl pins s σ H _ I h) fun v s1 hz=>?_
 obtain⟨x,H1,I1,r1,q1⟩:=hz
 obtain⟨a,e,⟨xs,hq⟩,q⟩:=q1
 subst e
 cases r1
 obtain⟨its,rv,p,hz⟩:=I1.tuple hq
 refine wpAny_pyIter_tuple (show s1.heap.IsTuple a its.toArray from p) ?_
 refine⟨s1.heap.objs.size,[s1.heap.objs.size],_,_,H1,rfl,I1.kept (t':=s1.toks) fun b o e=>b9 _ e,z8l a _,⟨_,bF _ rfl,rfl,rfl⟩,fun b hb=>?_,q⟩
 have e:b=s1.heap.objs.size:=by simpa using hb
 subst e
 exact I1.T2 (bC _) (I1.hok.fresh (bC _))
theorem y0V{pins:List (Addr×Obj)}{σ:St}{H:Hp}{s:Shared}{R:It->Hp->Prop}{E:Value->Shared->Prop}{lo hi:Int}{t u v:Tok}{tk:Nat}(I:Inv X pins σ H s)(h1:-(2^62)≤lo)(h2:lo<2^62)(h3:-(2^62)≤hi)(h4:hi<2^62)
  (q:R (Itr lo (hi-lo).toNat) H):wpAny (model X.prog X.w) X.A (pyIter (.ref s.heap.objs.size)) (PIE X pins σ tg R) E { s with heap:=s.heap.push { cls:=.type "range",data:=.fields #[.int lo t,.int hi u,.int 1 v] },toks:=tk }:=by
 refine wpAny_pyIter_range (IsRange.new ..) (small_one h1 h2 h3 h4) ?_
 have I1:Inv X pins σ H { s with heap:=s.heap.push { cls:=.type "range",data:=.fields #[.int lo t,.int hi u,.int 1 v] },toks:=tk }:=I.kept fun b o e=>b9 _ e
 refine⟨(s.heap.push { cls:=.type "range",data:=.fields #[.int lo t,.int hi u,.int 1 v] }).objs.size,[(s.heap.push { cls:=.type "range",data:=.fields #[.int lo t,.int hi u,.int 1 v] }).objs.size],_,_,H,rfl,
  I1.kept (t':=tk) fun b o e=>b9 _ e,y29 _ lo (hi-lo).toNat,?_,fun b hb=>?_,q⟩
 ·have e1:lo+((0:Nat):Int)*1=lo:=by simp
  have e2:(((hi-lo).toNat:Nat):Int)-((0:Nat):Int)=Builtin.Range.rangeSize lo hi 1:=by rw[rangeSize_one];split<;>omega
  show IsRangeIter _ _ (lo+((0:Nat):Int)*1) ((((hi-lo).toNat:Nat):Int)-((0:Nat):Int)) 1
  rw[e1,e2]
  exact bF _ rfl
 ·have e:b=(s.heap.push { cls:=.type "range",data:=.fields #[.int lo t,.int hi u,.int 1 v] }).objs.size:=by simpa using hb
  subst e
  exact I1.T2 (bC _) (I1.hok.fresh (bC _))
def w0Q(ta:TA):TI:=fun σ H R=>ta σ H fun vs H1=>∃j:Int,vs=[.int j]/\-(2^62)≤j/\j<2^62/\R (Itr 0 j.toNat) H1
def w0r(ta:TA):TI:=fun σ H R=>ta σ H fun vs H1=>∃i j:Int,vs=[.int i,.int j]/\(-(2^62)≤i/\i<2^62/\-(2^62)≤j/\j<2^62)/\R (Itr i (j-i).toNat) H1
theorem z1Z{a:Expr}{ta:TA}{p pos:Pos}(hg:Gl X "range")(hm:X.mg "range"=none)(ha:PA X [a] ta)(hs:starEach [a] X.env=[(false,eval a X.env)]:=by rfl):PI X tg (.Call (.Name "range" p) [a] [] pos) (w0Q ta):=by
 intro pins s σ H R I h
 refine Call_ (z6G I hg hm boot_range (eY (thn (ha pos pins s σ H _ I h) fun us s1 hz=>?_) hs rfl))
 obtain⟨vs,H1,I1,r1,q1⟩:=hz
 obtain⟨j,e,q1,q2,q⟩:=q1
 subst e
 cases r1 with
 | cons r rr=>
  cases rr
  obtain⟨t,rfl⟩:=r
  exact call_range_1 (y0V I1 (by omega) (by omega) q1 q2 (by simpa using q))
theorem z5j{a b:Expr}{ta:TA}{p pos:Pos}(hg:Gl X "range")(hm:X.mg "range"=none)(ha:PA X [a,b] ta)(hs:starEach [a,b] X.env=[(false,eval a X.env),(false,eval b X.env)]:=by rfl)(hs2:starEach [b] X.env=[(false,eval b X.env)]:=by rfl) :
  PI X tg (.Call (.Name "range" p) [a,b] [] pos) (w0r ta):=by
 intro pins s σ H R I h
 refine Call_ (z6G I hg hm boot_range (eY (thn (ha pos pins s σ H _ I h) fun us s1 ⟨vs,H1,I1,r1,q1⟩=>?_) (by rw[hs,hs2]) (by rw[hs2];rfl)))
 obtain⟨i,j,e,⟨q1,q2,q3,q4⟩,q⟩:=q1
 subst e
 cases r1 with
 | cons r rr=>
  cases rr with
  | cons r' rr=>
   cases rr
   obtain⟨t,rfl⟩:=r
   obtain⟨t',rfl⟩:=r'
   exact call_range_2 (y0V I1 q1 q2 q3 q4 q)
def tFor(wi:TI)(g:TG)(tb:TS):TS:=fun D σ H=>wi σ H fun J H1=>∃W:Nat->Nat->St->Hp->Prop,(∃m,W 0 m σ H1)/\∀i m σ H,W i m σ H->
 (J.stop i H/\D.nx σ H)\/(J.go i H/\∃N:St->Hp->Prop,(∀σ' H',N σ' H'->∃m',m'<m/\W (i+1) m' σ' H')/\∀x H',J.yld i H x H'->g x σ H' fun σ2 H2=>tb { D with nx:=N,ct:=N,bk:=D.nx } σ2 H2)
def y02(fp:List Addr)(h:Heap):List (Addr×Obj):=fp.filterMap fun b=>(h.get? b).map fun o=>(b,o)
theorem z4n{fp:List Addr}{h:Heap}{b:Addr}{o:Obj}(hb:b∈fp)(e:h.get? b=some o):(b,o)∈y02 fp h:=List.mem_filterMap.mpr ⟨b,hb,by rw[e];rfl⟩
theorem y2J{fp:List Addr}{h:Heap}{p:Addr×Obj}(hp:p∈y02 fp h):p.1∈fp/\h.get? p.1=some p.2:=by
 obtain⟨b,hb,e⟩:=List.mem_filterMap.mp hp
 cases q:h.get? b with
 | none=>rw[q] at e;cases e
 | some o=>
  rw[q] at e
  have e':(b,o)=p:=Option.some.inj e
  subst e'
  exact⟨hb,q⟩
theorem Inv.pinned{pins:List (Addr×Obj)}{σ:St}{H:Hp}{s:Shared}{fp:List Addr}(I:Inv X pins σ H s)(hf:∀b∈fp,O8 X pins H b)(ho:∀b∈fp,∃o,s.heap.get? b=some o/\∀v,o.data≠.cell v):Inv X (pins++y02 fp s.heap) σ H s:=
 I.N7 fun p hp=>(bM.mp hp).elim (fun z=>I.pin p (bX _ z)) fun z=>by
  obtain⟨hb,e⟩:=y2J z
  obtain⟨f0,f1,f2,_⟩:=hf p.1 hb
  obtain⟨o,e',d⟩:=ho p.1 hb
  rw[e] at e';cases e'
  exact⟨e,f0,f1,f2,d⟩
theorem Inv.N2{pins pl:List (Addr×Obj)}{σ:St}{H:Hp}{s:Shared}(I:Inv X (pins++pl) σ H s):Inv X pins σ H s:=I.N7 fun p hp=>I.pin p (bX _ (cM _ hp))
theorem z1h{iter:Expr}{body:List Stmt}{wi:TI}{g:TG}{tb:TS}{pos:Pos}(hp:PassesOwn (model X.prog X.w) X.A X.env X.xe)(hc:X.calm=true)(hi:PI X tg iter wi)(hg:PG X tg g)(hb:PSs X body tb)
  (hs:∀x,foldedSetIterable iter X.env x=pure x:=by intro _;rfl):PS X (.For tg iter body [] pos) (tFor wi g tb):=by
 intro pins s σ H D I h
 refine wpAny_For (thn (hi pins s σ H _ I h) fun v s1 h1=>thn h1 fun itv s2 h2=>?_) hs
 obtain⟨it,fp,tn,J,H2,e,I2,T,st2,f2,W,⟨m0,w0⟩,turn⟩:=h2
 subst e
 have w0f:∀{H':Hp},(∀b∈fp,H' b=none)->∀b∈fp,O8 X pins H' b:=fun hn b hb=>⟨hn b hb,(f2 b hb).2⟩
 refine codeAny_forLoop_any (fun n s'=>∃i σ' H',Inv X pins σ' H' s'/\tn i s'.heap/\(∀b∈fp,H' b=none)/\W i n σ' H') ?_ m0 ⟨0,σ,H2,I2,st2,fun b hb=>(f2 b hb).1,w0⟩
 rintro n s3 ⟨i,σ3,H3,I3,st3,fr3,w3⟩
 rcases turn i n σ3 H3 w3 with ⟨stop,qn⟩|⟨go,N,hN,step⟩
 ·refine wpAny_passesOwn hp (thn (T.done X rfl rfl rfl hc i pins s3 σ3 H3 X.xe I3 (w0f fr3) st3 stop) fun r s4 hz=>?_)
  obtain⟨hr,I4⟩:=hz
  subst hr
  exact wpAny_execs_nil ⟨σ3,H3,I4,qn⟩
 ·refine wpAny_passesOwn hp (thn (T.item X rfl rfl rfl hc i pins s3 σ3 H3 X.xe I3 (w0f fr3) st3 go) fun r s4 hz=>?_)
  obtain⟨u,hr,h4⟩:=hz
  subst hr
  refine wpAny_passesOwn hp (thn h4 fun _ s5 hz=>?_)
  obtain⟨x,H5,I5,r5,y5,st5,fr5⟩:=hz
  have I5':=I5.pinned (w0f fr5) (T.obj _ _ st5)
  refine wpAny_passesOwn hp (thn (hg _ s5 σ3 H5 x u _ I5' r5 (step x H5 y5)) fun _ s6 hz=>?_)
  obtain⟨σ6,H6,I6,q6⟩:=hz
  refine wpAny_passesOwn hp (thn (hb _ s6 σ6 H6 _ I6 q6) fun f s7 q7=>?_)
  have again:∀{σ7:St}{H7:Hp},Inv X (pins++y02 fp s5.heap) σ7 H7 s7->N σ7 H7->∃m,m<n/\∃i σ' H',Inv X pins σ' H' s7/\tn i s7.heap/\(∀b∈fp,H' b=none)/\W i m σ' H':=fun {σ7 H7} I7 n7=>by
   obtain⟨m',hm,w7⟩:=hN σ7 H7 n7
   refine⟨m',hm,i+1,σ7,H7,I7.N2,T.keep _ _ _ st5 fun b hb o e=>(I7.pin (b,o) (bX _ (bX _ (z4n hb e)))).1,fun b hb=>?_,w7⟩
   obtain⟨o,e,d⟩:=T.obj _ _ st5 b hb
   exact(I7.pin (b,o) (bX _ (bX _ (z4n hb e)))).2.1
  cases f with
  | next=>obtain⟨σ7,H7,I7,n7⟩:=q7;exact again I7 n7
  | cont=>obtain⟨σ7,H7,I7,n7⟩:=q7;exact again I7 n7
  | brk=>obtain⟨σ7,H7,I7,q7⟩:=q7;exact⟨σ7,H7,I7.N2,q7⟩
  | ret v=>obtain⟨x7,σ7,H7,I7,r7,q7⟩:=q7;exact⟨x7,σ7,H7,I7.N2,r7,q7⟩
end
theorem z1m{K:PySem.W.Frag}{a:Addr}{xs:List V}{g:TG}{tb:TS}{D:Ends}{σ:St}{H:Hp}(Pv:Nat->St->Hp->Prop)(h0:Pv 0 σ H)(hl:∀i σ H,i≤xs.length->Pv i σ H->SqL K H a xs)
  (hs:∀i x σ H,xs[i]? = some x->Pv i σ H->g x σ H fun σ2 H2=>tb { D with nx:=Pv (i+1),ct:=Pv (i+1),bk:=D.nx } σ2 H2) (hd:∀σ H,Pv xs.length σ H->D.nx σ H) :
  ∃W:Nat->Nat->St->Hp->Prop,(∃m,W 0 m σ H)/\∀i m σ H,W i m σ H->
   ((Itl K a).stop i H/\D.nx σ H)\/((Itl K a).go i H/\∃N:St->Hp->Prop,(∀σ' H',N σ' H'->∃m',m'<m/\W (i+1) m' σ' H')/\∀x H',(Itl K a).yld i H x H'->g x σ H' fun σ2 H2=>tb { D with nx:=N,ct:=N,bk:=D.nx } σ2 H2):=by
 refine⟨fun i m σ H=>m=xs.length-i/\i≤xs.length/\Pv i σ H,⟨xs.length,by simp,cR _,h0⟩,?_⟩
 rintro i m σ H ⟨rfl,hi,p⟩
 have q:=hl i σ H hi p
 by_cases hlt:i<xs.length
 ·refine .inr ⟨⟨xs,xs[i],q,by simp[hlt]⟩,Pv (i+1),fun σ' H' p'=>⟨xs.length-(i+1),by omega,rfl,hlt,p'⟩,fun x H' y=>?_⟩
  obtain⟨e,y⟩:=y
  subst e
  exact hs i x σ _ (y xs q) p
 ·have e:i=xs.length:=by omega
  subst e
  exact .inl ⟨⟨xs,q,bC _⟩,hd σ H p⟩
theorem z93{K:PySem.W.Frag}{a:Addr}{xs:List V}{g:TG}{tb:TS}{D:Ends}{σ:St}{H:Hp}(Pv:Nat->St->Hp->Prop)(h0:Pv 0 σ H)(hl:∀i σ H,i≤xs.length->Pv i σ H->SqT K H a xs)
  (hs:∀i x σ H,xs[i]? = some x->Pv i σ H->g x σ H fun σ2 H2=>tb { D with nx:=Pv (i+1),ct:=Pv (i+1),bk:=D.nx } σ2 H2) (hd:∀σ H,Pv xs.length σ H->D.nx σ H) :
  ∃W:Nat->Nat->St->Hp->Prop,(∃m,W 0 m σ H)/\∀i m σ H,W i m σ H->
   ((Itt K a).stop i H/\D.nx σ H)\/((Itt K a).go i H/\∃N:St->Hp->Prop,(∀σ' H',N σ' H'->∃m',m'<m/\W (i+1) m' σ' H')/\∀x H',(Itt K a).yld i H x H'->g x σ H' fun σ2 H2=>tb { D with nx:=N,ct:=N,bk:=D.nx } σ2 H2):=by
 refine⟨fun i m σ H=>m=xs.length-i/\i≤xs.length/\Pv i σ H,⟨xs.length,by simp,cR _,h0⟩,?_⟩
 rintro i m σ H ⟨rfl,hi,p⟩
 have q:=hl i σ H hi p
 by_cases hlt:i<xs.length
 ·refine .inr ⟨⟨xs,xs[i],q,by simp[hlt]⟩,Pv (i+1),fun σ' H' p'=>⟨xs.length-(i+1),by omega,rfl,hlt,p'⟩,fun x H' y=>?_⟩
  obtain⟨e,y⟩:=y
  subst e
  exact hs i x σ _ (y xs q) p
 ·have e:i=xs.length:=by omega
  subst e
  exact .inl ⟨⟨xs,q,bC _⟩,hd σ H p⟩
theorem z2l{lo:Int}{n:Nat}{g:TG}{tb:TS}{D:Ends}{σ:St}{H:Hp}(Pv:Nat->St->Hp->Prop)(h0:Pv 0 σ H)
  (hs:∀i σ H,i<n->Pv i σ H->g (.int (lo+i)) σ H fun σ2 H2=>tb { D with nx:=Pv (i+1),ct:=Pv (i+1),bk:=D.nx } σ2 H2) (hd:∀σ H,Pv n σ H->D.nx σ H) :
  ∃W:Nat->Nat->St->Hp->Prop,(∃m,W 0 m σ H)/\∀i m σ H,W i m σ H->
   ((Itr lo n).stop i H/\D.nx σ H)\/((Itr lo n).go i H/\∃N:St->Hp->Prop,(∀σ' H',N σ' H'->∃m',m'<m/\W (i+1) m' σ' H')/\∀x H',(Itr lo n).yld i H x H'->g x σ H' fun σ2 H2=>tb { D with nx:=N,ct:=N,bk:=D.nx } σ2 H2):=by
 refine⟨fun i m σ H=>m=n-i/\i≤n/\Pv i σ H,⟨n,by simp,cR _,h0⟩,?_⟩
 rintro i m σ H ⟨rfl,hi,p⟩
 by_cases hlt:i<n
 ·refine .inr ⟨hlt,Pv (i+1),fun σ' H' p'=>⟨n-(i+1),by omega,rfl,hlt,p'⟩,fun x H' y=>?_⟩
  obtain⟨e,y⟩:=y
  subst e y
  exact hs i σ _ hlt p
 ·have e:i=n:=by omega
  subst e
  exact .inl ⟨bC _,hd σ H p⟩
abbrev R2:=V->V->Hp->VK->Prop
def OpR(X:Cx)(f:Value->Value->Sem Value)(r:R2):Prop:=
 ∀(pins:List (Addr×Obj)) (s:Shared) (σ:St) (H:Hp) (x y:V) (v u:Value) (Q:VK),Inv X pins σ H s->RelV x v->RelV y u->r x y H Q->
  wpAny (model X.prog X.w) X.A (f v u) (EP X pins σ Q) X.xe s
def UnR(X:Cx)(f:Value->Sem Value)(r:V->Hp->VK->Prop):Prop:=
 ∀(pins:List (Addr×Obj)) (s:Shared) (σ:St) (H:Hp) (x:V) (v:Value) (Q:VK),Inv X pins σ H s->RelV x v->r x H Q->
  wpAny (model X.prog X.w) X.A (f v) (EP X pins σ Q) X.xe s
def z2U(X:Cx)(f:Value)(r:List V->Hp->VK->Prop):Prop:=
 ∀(pins:List (Addr×Obj)) (s:Shared) (σ:St) (H:Hp) (xs:List V) (us:List Value) (Q:VK),Inv X pins σ H s->Vals xs us->r xs H Q->
  wpAny (model X.prog X.w) X.A (call f us) (EP X pins σ Q) X.xe s
def tOp(r:R2)(ta tb:TE):TE:=fun σ H Q=>ta σ H fun x H1=>tb σ H1 fun y H2=>r x y H2 Q
def tUn(r:V->Hp->VK->Prop)(ta:TE):TE:=fun σ H Q=>ta σ H fun x H1=>r x H1 Q
def rI(C:Int->Int->Prop)(g:Int->Int->V):R2:=fun x y H Q=>∃i j,x=.int i/\y=.int j/\C i j/\Q (g i j) H
def rI0(g:Int->Int->V):R2:=fun x y H Q=>∃i j,x=.int i/\y=.int j/\Q (g i j) H
def rU(g:Int->V):V->Hp->VK->Prop:=fun x H Q=>∃i,x=.int i/\Q (g i) H
section
variable{X:Cx}{a b c:Expr}{ta tb tc:TE}{pos:Pos}
theorem Z7(ha:PE X a ta)(hb:PE X b tb){pins:List (Addr×Obj)}{s:Shared}{σ:St}{H:Hp}{R:V->V->Hp->Prop}(I:Inv X pins σ H s)
  (h:ta σ H fun x H1=>tb σ H1 fun y H2=>R x y H2) {Q:Value->Shared->Prop}{f:Value->Value->Sem Value}
  (hf:∀v u s2 x y H2,Inv X pins σ H2 s2->RelV x v->RelV y u->R x y H2->wpAny (model X.prog X.w) X.A (f v u) Q X.xe s2) :
  wpAny (model X.prog X.w) X.A (eval a X.env) (fun v s₁=>wpAny (model X.prog X.w) X.A (eval b X.env) (fun u s₂=>wpAny (model X.prog X.w) X.A (f v u) Q X.xe s₂) X.xe s₁) X.xe s:=by
 refine thn (ha pins s σ H _ I h) fun v s1 hz=>?_
 obtain⟨x,H1,I1,r1,q1⟩:=hz
 refine thn (hb pins s1 σ H1 _ I1 q1) fun u s2 hz=>?_
 obtain⟨y,H2,I2,r2,q2⟩:=hz
 exact hf v u s2 x y H2 I2 r1 r2 q2
theorem z0s{op:Operator}{r:R2}(ho:OpR X (binaryOp op) r)(ha:PE X a ta)(hb:PE X b tb):PE X (.BinOp a op b pos) (tOp r ta tb):=by
 intro pins s σ H Q I h
 exact wpAny_BinOp (Z7 ha hb I h fun v u s2 x y H2 I2 rx ry q=>ho pins s2 σ H2 x y v u Q I2 rx ry q)
theorem y7s{op:UnaryOp}{r:V->Hp->VK->Prop}(ho:UnR X (unaryOp op) r)(ha:PE X a ta):PE X (.UnaryOp op a pos) (tUn r ta):=by
 intro pins s σ H Q I h
 exact UnaryOp_ (thn (ha pins s σ H _ I h) fun v s1 ⟨x,H1,I1,r1,q1⟩=>ho pins s1 σ H1 x v Q I1 r1 q1)
theorem opI{f:Value->Value->Sem Value}{C:Int->Int->Prop}{g:Int->Int->Int}
  (rule:∀(i j:Int) (t u:Tok) (s:Shared) (Q:Value->Shared->Prop) (E:Value->Shared->Prop),C i j->Q (.int (g i j) s.toks) { s with toks:=s.toks+1 }->wpAny (model X.prog X.w) X.A (f (.int i t) (.int j u)) Q E s) :
  OpR X f (rI C fun i j=>.int (g i j)):=by
 intro pins s σ H x y v u Q I rx ry h
 obtain⟨i,j,rfl,rfl,hc,q⟩:=h
 obtain⟨t,rfl⟩:=rx
 obtain⟨t',rfl⟩:=ry
 exact rule i j t t' s _ _ hc ⟨.int (g i j),H,I.tok _,⟨_,rfl⟩,q⟩
theorem opI0{f:Value->Value->Sem Value}{g:Int->Int->Int}
  (rule:∀(i j:Int) (t u:Tok) (s:Shared) (Q:Value->Shared->Prop) (E:Value->Shared->Prop),Q (.int (g i j) s.toks) { s with toks:=s.toks+1 }->wpAny (model X.prog X.w) X.A (f (.int i t) (.int j u)) Q E s) :
  OpR X f (rI0 fun i j=>.int (g i j)):=by
 intro pins s σ H x y v u Q I rx ry h
 obtain⟨i,j,rfl,rfl,q⟩:=h
 obtain⟨t,rfl⟩:=rx
 obtain⟨t',rfl⟩:=ry
 exact rule i j t t' s _ _ ⟨.int (g i j),H,I.tok _,⟨_,rfl⟩,q⟩
theorem Y1{f:Value->Value->Sem Value}{g:Int->Int->Bool}
  (rule:∀(i j:Int) (t u:Tok) (s:Shared) (Q:Value->Shared->Prop) (E:Value->Shared->Prop),Q (.bool (g i j)) s->wpAny (model X.prog X.w) X.A (f (.int i t) (.int j u)) Q E s) :
  OpR X f (rI0 fun i j=>.bl (g i j)):=by
 intro pins s σ H x y v u Q I rx ry h
 obtain⟨i,j,rfl,rfl,q⟩:=h
 obtain⟨t,rfl⟩:=rx
 obtain⟨t',rfl⟩:=ry
 exact rule i j t t' s _ _ ⟨.bl (g i j),H,I,rfl,q⟩
def CDiv(i j:Int):Prop:=0<j/\j<1073741824
def w0d(i j:Int):Prop:=(-(2^64)<i/\i<2^64)\/(-(2^64)<j/\j<2^64)
theorem w0d.ok{i j:Int}(h:w0d i j):IntMulOk i j:=by
 rcases h with ⟨h1,h2⟩|⟨h1,h2⟩
 ·exact .of_left (intBits_le_64 h1 h2)
 ·exact .of_right (intBits_le_64 h1 h2)
theorem z1D:OpR X (binaryOp .Add) (rI0 fun i j=>.int (i+j)):=opI0 fun _ _ _ _ _ _ _ q=>add_int q
theorem z3r:OpR X (binaryOp .Sub) (rI0 fun i j=>.int (i-j)):=opI0 fun _ _ _ _ _ _ _ q=>sub_int q
theorem z6y:OpR X (binaryOp .Mult) (rI w0d fun i j=>.int (i*j)):=opI fun _ _ _ _ _ _ _ hc q=>mul_int q hc.ok
theorem z1l:OpR X (binaryOp .FloorDiv) (rI CDiv fun i j=>.int (i / j)):=opI fun i j _ _ _ _ _ hc q=>by
 have h1:(0:Int)<j:=hc.1
 have h2:j<1073741824:=hc.2
 exact floordiv_int (by omega) (by rw[Int.fdiv_eq_ediv_of_nonneg i (by omega)];exact q) (.inl (PyProof.noPylong_small (by omega)))
theorem z0V:OpR X (binaryOp .Mod) (rI (fun _ j=>0<j) fun i j=>.int (i%j)):=opI fun i j _ _ _ _ _ hc q=>by
 have h1:(0:Int)<j:=hc
 exact mod_int' (by omega) (by rw[Int.fmod_eq_emod_of_nonneg i (by omega)];exact q)
theorem unI{f:Value->Sem Value}{g:Int->Int}
  (rule:∀(i:Int) (t:Tok) (s:Shared) (Q:Value->Shared->Prop) (E:Value->Shared->Prop),Q (.int (g i) s.toks) { s with toks:=s.toks+1 }->wpAny (model X.prog X.w) X.A (f (.int i t)) Q E s) :
  UnR X f (rU fun i=>.int (g i)):=by
 intro pins s σ H x v Q I rx h
 obtain⟨i,rfl,q⟩:=h
 obtain⟨t,rfl⟩:=rx
 exact rule i t s _ _ ⟨.int (g i),H,I.tok _,⟨_,rfl⟩,q⟩
theorem y5V:UnR X (unaryOp .USub) (rU fun i=>.int (-i)):=unI fun _ _ _ _ _ q=>neg_int q
end
def Z2:V->V->Bool
 | .non,.non=>true|.non,.int _=>true|.int _,.non=>true|.non,.bl _=>true|.bl _,.non=>true|.non,.str _=>true|.str _,.non=>true
 | .int _,.int _=>true|.bl _,.bl _=>true|.str _,.str _=>true|.byt _,.byt _=>true
 | .int _,.str _=>true|.str _,.int _=>true|.bl _,.str _=>true|.str _,.bl _=>true
 | _,_=>false
def rEq:R2:=fun x y H Q=>Z2 x y=true/\Q (.bl (decide (x=y))) H
def rNe:R2:=fun x y H Q=>Z2 x y=true/\Q (.bl (!decide (x=y))) H
theorem y4o{i j:Int}:decide (V.int i=V.int j)=(i == j):=by
 rw[dH]
 simp
theorem y5Q{i j:Bool}:decide (V.bl i=V.bl j)=(i == j):=by
 rw[dH]
 simp
theorem y3U{i j:Str}:decide (V.str i=V.str j)=(i == j):=by
 rw[dH]
 simp
theorem y2Q{i j:Array UInt8}:decide (V.byt i=V.byt j)=(i.toList == j.toList):=by
 rw[dH]
 cases i
 cases j
 simp
section
variable{X:Cx}{a b c:Expr}{ta tb tc:TE}{pos:Pos}
theorem z0Z{pins:List (Addr×Obj)}{σ:St}{H:Hp}{s:Shared}{Q:VK}{k k':Bool}(I:Inv X pins σ H s)(q:Q (.bl k) H)(e:k=k'):EP X pins σ Q (.bool k') s:=by
 subst e
 exact⟨.bl k,H,I,rfl,q⟩
theorem z2r:OpR X (compareOp .Eq) rEq:=by
 intro pins s σ H x y v u Q I rx ry h
 obtain⟨hs,q⟩:=h
 cases x with
 | non=>
  cases rx
  cases y with
  | non=>cases ry;exact PySem.EqNone.eq_none_none (z0Z I q (by simp))
  | bl j=>cases ry;exact PySem.EqNone.eq_none_bool (z0Z I q (by simp))
  | int j=>obtain⟨t',rfl⟩:=ry;exact PySem.EqNone.eq_none_int (z0Z I q (by simp))
  | str j=>obtain⟨t',rfl⟩:=ry;exact PySem.EqNone.eq_none_str (z0Z I q (by simp))
  | _=>exact absurd (show false=true from hs) bI
 | bl i=>
  cases rx
  cases y with
  | non=>cases ry;exact PySem.EqNone.eq_bool_none (z0Z I q (by simp))
  | bl j=>cases ry;exact eq_bool (z0Z I q y5Q)
  | str j=>obtain⟨t',rfl⟩:=ry;exact PySem.EqMixed.eq_bool_str (z0Z I q (by simp))
  | _=>exact absurd (show false=true from hs) bI
 | int i=>
  obtain⟨t,rfl⟩:=rx
  cases y with
  | non=>cases ry;exact PySem.EqNone.eq_int_none (z0Z I q (by simp))
  | int j=>obtain⟨t',rfl⟩:=ry;exact eq_int (z0Z I q y4o)
  | str j=>obtain⟨t',rfl⟩:=ry;exact PySem.EqMixed.eq_int_str (z0Z I q (by simp))
  | _=>exact absurd (show false=true from hs) bI
 | str i=>
  obtain⟨t,rfl⟩:=rx
  cases y with
  | non=>cases ry;exact PySem.EqNone.eq_str_none (z0Z I q (by simp))
  | bl j=>cases ry;exact PySem.EqMixed.eq_str_bool (z0Z I q (by simp))
  | int j=>obtain⟨t',rfl⟩:=ry;exact PySem.EqMixed.eq_str_int (z0Z I q (by simp))
  | str j=>obtain⟨t',rfl⟩:=ry;exact eq_str (z0Z I q y3U)
  | _=>exact absurd (show false=true from hs) bI
 | byt i=>
  obtain⟨t,rfl⟩:=rx
  cases y with
  | byt j=>obtain⟨t',rfl⟩:=ry;exact PySem.W.eq_bytes (z0Z I q y2Q)
  | _=>exact absurd (show false=true from hs) bI
 | _=>cases y<;>exact absurd (show false=true from hs) bI
theorem z86:OpR X (compareOp .NotEq) rNe:=by
 intro pins s σ H x y v u Q I rx ry h
 obtain⟨hs,q⟩:=h
 cases x with
 | non=>
  cases rx
  cases y with
  | non=>cases ry;exact PySem.EqNone.ne_none_none (z0Z I q (by simp))
  | bl j=>cases ry;exact PySem.EqNone.ne_none_bool (z0Z I q (by simp))
  | int j=>obtain⟨t',rfl⟩:=ry;exact PySem.EqNone.ne_none_int (z0Z I q (by simp))
  | str j=>obtain⟨t',rfl⟩:=ry;exact PySem.EqNone.ne_none_str (z0Z I q (by simp))
  | _=>exact absurd (show false=true from hs) bI
 | bl i=>
  cases rx
  cases y with
  | non=>cases ry;exact PySem.EqNone.ne_bool_none (z0Z I q (by simp))
  | bl j=>cases ry;exact ne_bool (z0Z I q (congrArg not y5Q))
  | str j=>obtain⟨t',rfl⟩:=ry;exact PySem.EqMixed.ne_bool_str (z0Z I q (by simp))
  | _=>exact absurd (show false=true from hs) bI
 | int i=>
  obtain⟨t,rfl⟩:=rx
  cases y with
  | non=>cases ry;exact PySem.EqNone.ne_int_none (z0Z I q (by simp))
  | int j=>obtain⟨t',rfl⟩:=ry;exact ne_int (z0Z I q (congrArg not y4o))
  | str j=>obtain⟨t',rfl⟩:=ry;exact PySem.EqMixed.ne_int_str (z0Z I q (by simp))
  | _=>exact absurd (show false=true from hs) bI
 | str i=>
  obtain⟨t,rfl⟩:=rx
  cases y with
  | non=>cases ry;exact PySem.EqNone.ne_str_none (z0Z I q (by simp))
  | bl j=>cases ry;exact PySem.EqMixed.ne_str_bool (z0Z I q (by simp))
  | int j=>obtain⟨t',rfl⟩:=ry;exact PySem.EqMixed.ne_str_int (z0Z I q (by simp))
  | str j=>obtain⟨t',rfl⟩:=ry;exact ne_str (z0Z I q (congrArg not y3U))
  | _=>exact absurd (show false=true from hs) bI
 | byt i=>
  obtain⟨t,rfl⟩:=rx
  cases y with
  | byt j=>obtain⟨t',rfl⟩:=ry;exact PySem.W.ne_bytes (z0Z I q (congrArg not y2Q))
  | _=>exact absurd (show false=true from hs) bI
 | _=>cases y<;>exact absurd (show false=true from hs) bI
theorem z8P:OpR X (compareOp .Lt) (rI0 fun i j=>.bl (decide (i<j))):=Y1 fun _ _ _ _ _ _ _ q=>lt_int q
theorem y6U:OpR X (compareOp .LtE) (rI0 fun i j=>.bl (decide (i≤j))):=Y1 fun _ _ _ _ _ _ _ q=>le_int q
theorem z2A:OpR X (compareOp .Gt) (rI0 fun i j=>.bl (decide (j<i))):=Y1 fun _ _ _ _ _ _ _ q=>gt_int q
theorem y6B:OpR X (compareOp .GtE) (rI0 fun i j=>.bl (decide (j≤i))):=Y1 fun _ _ _ _ _ _ _ q=>ge_int q
theorem z0n(b:Expr){op:CmpOp}(h:op≠.In:=by decide)(h2:op≠.NotIn:=by decide):behindInMarks op b=false:=by
 have e1:(op == CmpOp.In)=false:=by cases op<;>first|rfl|exact absurd rfl h
 have e2:(op == CmpOp.NotIn)=false:=by cases op<;>first|rfl|exact absurd rfl h2
 cases b<;>simp[behindInMarks,e1,e2]
theorem z4I{op:CmpOp}{r:R2}(ho:OpR X (compareOp op) r)(ha:PE X a ta)(hb:PE X b tb)(hm:behindInMarks op b=false):PE X (.Compare a [op] [b] pos) (tOp r ta tb):=by
 intro pins s σ H Q I h
 exact wpAny_Compare1 (Z7 ha hb I h fun v u s2 x y H2 I2 rx ry q=>ho pins s2 σ H2 x y v u Q I2 rx ry q) hm
def w0q(t:TE):TT:=fun σ H Q=>t σ H fun x H'=>∃k,x=.bl k/\Q k H'
theorem z0c{op:CmpOp}{r:R2}(ho:OpR X (compareOp op) r)(ha:PE X a ta)(hb:PE X b tb)(hm:behindInMarks op b=false):PT X (.Compare a [op] [b] pos) (w0q (tOp r ta tb)):=by
 intro pins s σ H Q I h
 refine wpAny_isTrue_Compare1 (thn (ha pins s σ H _ I h) fun v s1 ⟨x,H1,I1,r1,q1⟩=>thn (hb pins s1 σ H1 _ I1 q1) fun u s2 ⟨y,H2,I2,r2,q2⟩=>
  thn (ho pins s2 σ H2 x y v u _ I2 r1 r2 q2) fun c s3 ⟨z,H3,I3,r3,k,e,q3⟩=>?_) hm
 subst e
 cases r3
 exact wpAny_truthy_bool ⟨H3,I3,q3⟩
theorem z5A:(sizeLine:Nat)<2^63:=by rw[sizeLine_eq];decide
theorem z8p:OpR X (binaryOp .Add) (fun x y H Q=>∃i j,x=.str i/\y=.str j/\i.length+j.length≤sizeLine/\Q (.str (i++j)) H):=by
 intro pins s σ H x y v u Q I rx ry h
 obtain⟨i,j,rfl,rfl,hz,q⟩:=h
 obtain⟨t,rfl⟩:=rx
 obtain⟨t',rfl⟩:=ry
 exact add_str (fun t' tk=>⟨.str (i++j),H,I.tok _,⟨_,rfl⟩,q⟩) hz
theorem z34{x:V}{us:List Value}(r:Vals [x] us):∃u,us=[u]/\RelV x u:=by
 cases r with
 | cons r1 r2=>cases r2;exact⟨_,rfl,r1⟩
theorem y5M{x y:V}{us:List Value}(r:Vals [x,y] us):∃u w',us=[u,w']/\RelV x u/\RelV y w':=by
 cases r with
 | cons r1 r2=>
  cases r2 with
  | cons r3 r4=>cases r4;exact⟨_,_,rfl,r1,r3⟩
theorem y4g(hc:X.calm=true):z2U X (.builtin "max") (fun xs H Q=>∃i j,xs=[.int i,.int j]/\Q (.int (if j > i then j else i)) H):=by
 intro pins s σ H xs us Q I r h
 obtain⟨i,j,rfl,q⟩:=h
 obtain⟨u,w',rfl,⟨t,rfl⟩,⟨t',rfl⟩⟩:=y5M r
 refine max_two_ints (I.ok.hd hc) fun h' tk k=>⟨_,H,I.kept k,?_,q⟩
 by_cases hj:j > i
 ·rw[if_pos hj,if_pos hj];exact⟨_,rfl⟩
 ·rw[if_neg hj,if_neg hj];exact⟨_,rfl⟩
end
structure T7(h:Heap)(x dx C:Addr)(mA:Str->Option Value):Prop where
 obj:h.get? x=some (PySem.W.instObj C dx)
 ns:h.Ns1 dx mA
 ne:dx≠x
theorem y4x{h:Heap}{dx:Addr}{mA:Str->Option Value}(n:h.Ns1 dx mA):∃od,h.get? dx=some od/\∀name,PySem.W.lookIn name od=some (mA name):=by
 obtain⟨o,es,ep,ho,hd,hk,_,hm⟩:=n
 refine⟨o,ho,fun name=>?_⟩
 have e:=hm name
 unfold nsFind findBy at e
 rw[<- Array.find?_toList] at e
 unfold PySem.W.lookIn
 rw[hd]
 dsimp only
 split
 ·rename_i y q
  rw[q] at e
  exact congrArg some e
 ·rename_i q
  rw[q] at e
  have a:es.toList.any (·.refKey)=false:=by
   rw[jC]
   intro y hy
   obtain⟨z,t,hkey⟩:=hk y (Array.mem_toList_iff.mp hy)
   simp[DictEntry.refKey,hkey]
  have a':¬es.toList.any (·.refKey)=true:=by rw[a];exact bI
  rw[if_neg a']
  exact congrArg some e
theorem T7.look{h:Heap}{x dx C:Addr}{mA:Str->Option Value}(I:T7 h x dx C mA):∃od,PySem.W.InstAt h x (PySem.W.instObj C dx) C (some od)/\∀name,PySem.W.lookIn name od=some (mA name):=
 let ⟨od,ho,hl⟩:=y4x I.ns
 ⟨od,⟨I.obj,rfl,rfl,ho⟩,hl⟩
section
variable{prog:Program}{w:World}{A:Around}{E:Value->Shared->Prop}{s:Shared}{K:PySem.W.Frag}{x dx C f:Addr}{mA:Str->Option Value}{name:Str}{v:Value}
theorem y6y{expr:Bool}{Q:Value->Shared->Prop}(X:K.In s.heap)(I:T7 s.heap x dx C mA)(hg:PySem.W.plainGet K C name=true)(hh:PySem.W.hasDictIn K C=true)
  (ha:PySem.W.findIn K (.ref C) name=some none) (hv:mA name=some v) (hv':PySem.W.handedIn v=true) (h:Q v { s with toks:=s.toks+1 }) :
  wpAny (model prog w) A (getAttr (.ref x) name expr) Q E s:=by
 obtain⟨od,J,hl⟩:=I.look
 exact PySem.W.get_value X J (j7 hg).1 (PySem.W.findObj_own hh ha rfl (by rw[hl,hv])) hv' h
theorem y5b{pl:Sem Bool}{Q:Value×List Value->Shared->Prop}(X:K.In s.heap)(I:T7 s.heap x dx C mA)(hg:PySem.W.plainGet K C name=true)
  (hf:PySem.W.findIn K (.ref C) name=some (some (.ref f))) (ht:PySem.W.isFn K (.ref f)=true) (hv:mA name=none) (h:Q (.ref f,[.ref x]) s) :
  wpAny (model prog w) A (getMethod (.ref x) name pl) Q E s:=by
 obtain⟨od,J,hl⟩:=I.look
 exact PySem.W.method_fn X J (j7 hg).1 (j7 hg).2 hf (beq_iff_eq.mp ht) (by show(PySem.W.lookIn name od).map (·.isSome)=some false;rw[hl,hv];rfl) h
theorem y6i{ns:List Str}{Q:Unit->Shared->Prop}(X:K.In s.heap)(I:T7 s.heap x dx C mA)
  (hs:PySem.W.findIn K (.ref C) "__setattr__"=some (some (.builtin "object.__setattr__"))) (hp:PySem.W.plainOver K C=true) (ht:PySem.W.takerIn K C name=some none) (hh:PySem.W.hasDictIn K C=true)
  (hw:PySem.Within mA ns) (hsz:ns.length≤sizeLine)
  (h:∀h',T7 h' x dx C (fun y=>if y=name then some v else mA y)->Heap.SameBut dx s.heap h'->Q () { s with heap:=h',toks:=s.toks+2 }) :
  wpAny (model prog w) A (setAttr (.ref x) name v) Q E s:=by
 obtain⟨od,J,hl⟩:=I.look
 refine PySem.W.set_plain X J hs (PySem.W.osa_open (s:={ s with toks:=s.toks+1 }) (r:=none) X J hp ht fun b=>?_)
 obtain⟨cd,hc,hd'⟩:=PySem.W.any_some hh
 have hx:s.heap.get? x=some ⟨.ref C,some dx,.plain,#[]⟩:=I.obj
 refine wpAny_bind (wpAny_pure (wpAny_bind (wpAny_bind (wpAny_loadPart hx (wpAny_bind (PySem.W.Looks.here (s:={ s with toks:=s.toks+1 }) (PySem.W.looks_clsIn X hc) ?_))))))
 rw[hd']
 refine wpAny_pure (a:=some dx) (wpAny_bind (wpAny_pure (wpAny_bind ?_)))
 refine wpAny_nsSet1 (s:={ s with toks:=s.toks+1 }) I.ns fun h' hn2 hs2=>?_
 obtain⟨oD,esD,epD,hoD,hdD,hcD⟩:=hn2.count (PySem.Within.cons name v hw)
 refine wpAny_bind (wpAny_lookBehind hoD (by rw[hdD];exact pastItsLine_dict (cO hcD (by rw[bZ];omega))) ?_)
 exact wpAny_pure (h _ ⟨(hs2.2 _ (d6 I.ne)).trans I.obj,hn2,I.ne⟩ hs2)
theorem y56{R:Result->Shared->Prop}{vs:List Value}{kw:List (Str×Value)}(X:K.In s.heap)(hm:PySem.W.makesIn K C=true)
  (hi:PySem.W.findIn K (.ref C) "__init__"=some (some (.ref f))) (hf:PySem.W.typeIn K (.ref f)=some (.type "function"))
  (h:codeAny (model prog w) (A.under (.builtin "type.__call__" ⟨.ref C::vs,kw⟩)) (.call (.ref f) ⟨.ref (s.heap.objs.size+1)::vs,kw⟩) (PySem.W.InitBack (s.heap.objs.size+1) R)
   { s with heap:=(s.heap.push PySem.W.emptyDict).push (PySem.W.instObj C s.heap.objs.size) }) :
  codeAny (model prog w) A (.call (.ref C) ⟨vs,kw⟩) R s:=by
 obtain⟨hh,g,d,t,os⟩:=s
 exact PySem.W.make_core (PySem.W.makes_of X hm) (PySem.W.looks_findIn X hi) (fun self=>PySem.W.bind_fn X self hf) (.inl rfl) h
end
def F6(f:Str)(v:V):List (Str×V)->List (Str×V)
 | []=>[(f,v)]
 | (g,x)::r=>if g=f then (g,v)::r else (g,x)::F6 f v r
theorem z0m(f g:Str)(v:V):∀fs:List (Str×V),(F6 f v fs).lookup g=if g=f then some v else fs.lookup g
 | []=>by
  show List.lookup g [(f,v)]=_
  by_cases h:g=f
  ·have hb:(g == f)=true:=beq_iff_eq.mpr h
   simp only[List.lookup,hb,if_pos h]
  ·have hb:(g == f)=false:=beq_eq_false_iff_ne.mpr h
   simp only[List.lookup,hb,if_neg h]
 | (k,x)::r=>by
  have ih:=z0m f g v r
  rw[show F6 f v ((k,x)::r)=(if k=f then (k,v)::r else (k,x)::F6 f v r) from rfl]
  by_cases hk:k=f
  ·rw[if_pos hk]
   by_cases h:g=k
   ·have hb:(g == k)=true:=beq_iff_eq.mpr h
    simp only[List.lookup,hb,if_pos (h.trans hk)]
   ·have hb:(g == k)=false:=beq_eq_false_iff_ne.mpr h
    simp only[List.lookup,hb,if_neg (fun e:g=f=>h (e.trans hk.symm))]
  ·rw[if_neg hk]
   by_cases h:g=k
   ·have hb:(g == k)=true:=beq_iff_eq.mpr h
    simp only[List.lookup,hb,if_neg (fun e:g=f=>hk (h.symm.trans e))]
   ·have hb:(g == k)=false:=beq_eq_false_iff_ne.mpr h
    simp only[List.lookup,hb]
    exact ih
theorem z7B(f:Str)(v:V):∀fs:List (Str×V),f∈(F6 f v fs).map (·.1)/\∀g,g∈fs.map (·.1)->g∈(F6 f v fs).map (·.1)
 | []=>⟨by simp[F6],fun g h=>by simp at h⟩
 | (k,x)::r=>by
  obtain⟨i1,i2⟩:=z7B f v r
  rw[show F6 f v ((k,x)::r)=(if k=f then (k,v)::r else (k,x)::F6 f v r) from rfl]
  by_cases hk:k=f
  ·rw[if_pos hk]
   subst hk
   exact⟨by simp,fun g h=>by simpa using h⟩
  ·rw[if_neg hk]
   refine⟨?_,fun g h=>?_⟩
   ·rw[cG]
    exact bL _ i1
   ·rw[cG] at h ⊢
    rcases bB.mp h with e|e
    ·exact bB.mpr (.inl e)
    ·exact bL _ (i2 g e)
theorem z1x(f:Str)(v:V):∀fs:List (Str×V),(F6 f v fs).length≤fs.length+1
 | []=>by simp[F6]
 | (k,x)::r=>by
  have ih:=z1x f v r
  rw[show F6 f v ((k,x)::r)=(if k=f then (k,v)::r else (k,x)::F6 f v r) from rfl]
  by_cases hk:k=f
  ·rw[if_pos hk,bZ,bZ];omega
  ·rw[if_neg hk,bZ,bZ];omega
theorem M0.some_of{v:V}{o:Option Value}(r:M0 (some v) o):∃u,o=some u/\RelV v u:=by
 cases o with
 | none=>exact(show False from r).elim
 | some u=>exact⟨u,rfl,r⟩
theorem M0.none_of{o:Option Value}(r:M0 none o):o=none:=by
 cases o with
 | none=>rfl
 | some u=>exact(show False from r).elim
theorem y3I{v:V}{u:Value}(r:RelV v u):PySem.W.handedIn u=true:=by
 cases v with
 | non=>cases (show u=Value.none from r);rfl
 | bl b=>cases (show u=Value.bool b from r);rfl
 | int i=>obtain⟨t,e⟩:=(show ∃t,u=Value.int i t from r);cases e;rfl
 | str x=>obtain⟨t,e⟩:=(show ∃t,u=Value.str x t from r);cases e;rfl
 | byt b=>obtain⟨t,e⟩:=(show ∃t,u=Value.bytes b t from r);cases e;rfl
 | flt b=>obtain⟨t,e⟩:=(show ∃t,u=Value.float b t from r);cases e;rfl
 | ref a=>cases (show u=Value.ref a from r);rfl
 | ty n=>cases (show u=Value.type n from r);rfl
section
variable{P:Program}{w:World}{H H':Hp}{h h':Heap}{a C dx:Addr}{fs fs':List (Str×V)}
theorem z9c(hok:HOk P w H h)(e:H a=some (.ins C dx fs)):∃mA,T7 h a dx C mA/\(∀f,M0 (fs.lookup f) (mA f))/\PySem.Within mA (fs.map (·.1))/\fs.length≤1000/\H dx=some (.own a):=by
 obtain⟨d,z,ne,ob,mA,n,r,q⟩:=(show z15 P w H h a (.ins C dx fs) from hok a _ e)
 exact⟨mA,⟨ob,n,ne⟩,r,q,z,d⟩
end
structure Cls(K:PySem.W.Frag)(C:Addr):Prop where
 pg:PySem.W.plainGet K C Str.empty=true
 hd:PySem.W.hasDictIn K C=true
 po:PySem.W.plainOver K C=true
 sa:PySem.W.findIn K (.ref C) "__setattr__"=some (some (.builtin "object.__setattr__"))
theorem Cls.get{K:PySem.W.Frag}{C:Addr}(c:Cls K C)(f:Str):PySem.W.plainGet K C f=true:=c.pg
def z2L(K:PySem.W.Frag)(C:Addr)(f:Str):Prop:=PySem.W.findIn K (.ref C) f=some none
theorem z2L.w0W{K:PySem.W.Frag}{C:Addr}{f:Str}(n:z2L K C f):PySem.W.takerIn K C f=some none:=by
 unfold PySem.W.takerIn
 rw[show PySem.W.findIn K (.ref C) f=some none from n]
 rfl
structure Meth(K:PySem.W.Frag)(C:Addr)(m:Str)(f:Addr):Prop where
 at_:PySem.W.findIn K (.ref C) m=some (some (.ref f))
 fn:PySem.W.isFn K (.ref f)=true
 kp:PySem.W.keepIn K (.ref f)=true
section
variable{X:Cx}{pins:List (Addr×Obj)}{σ:St}{H:Hp}{s:Shared}{a C dx:Addr}{fs:List (Str×V)}{f:Str}{v:V}{A:Around}{E:Value->Shared->Prop}
theorem y1F{b:Bool}{Q:Value->Shared->Prop}(I:Inv X pins σ H s)(e:H a=some (.ins C dx fs))(c:Cls X.K C)(n:z2L X.K C f)(l:fs.lookup f=some v)
  (h:∀u s',Inv X pins σ H s'->RelV v u->Q u s'):wpAny (model X.prog X.w) A (getAttr (.ref a) f b) Q E s:=by
 obtain⟨mA,O,r,_,_,_⟩:=z9c I.hok e
 obtain⟨u,hu,ru⟩:=M0.some_of (v:=v) (o:=mA f) (by rw[<- l];exact r f)
 exact y6y I.kIn O (c.get f) c.hd n hu (y3I ru) (h u _ (I.tok _) ru)
theorem z5T{m:Str}{g:Addr}{pl:Sem Bool}{Q:Value×List Value->Shared->Prop}(I:Inv X pins σ H s)(e:H a=some (.ins C dx fs))(c:Cls X.K C)(k:Meth X.K C m g)(l:fs.lookup m=none)
  (h:Q (.ref g,[.ref a]) s):wpAny (model X.prog X.w) A (getMethod (.ref a) m pl) Q E s:=by
 obtain⟨mA,O,r,_,_,_⟩:=z9c I.hok e
 have hn:mA m=none:=M0.none_of (by rw[<- l];exact r m)
 exact y5b I.kIn O (c.get m) k.at_ k.fn hn h
theorem y1W{y:V}{u:Value}{Q:Unit->Shared->Prop}(I:Inv X pins σ H s)(e:H a=some (.ins C dx fs))(c:Cls X.K C)(n:z2L X.K C f)(hl:fs.length<1000)(ry:RelV y u)
  (h:∀s',Inv X pins σ (upd H a (.ins C dx (F6 f y fs))) s'->Q () s'):wpAny (model X.prog X.w) A (setAttr (.ref a) f u) Q E s:=by
 obtain⟨mA,O,r,wi,_,ho⟩:=z9c I.hok e
 have hz:(fs.map (·.1)).length≤sizeLine:=by rw[b8,sizeLine_eq];omega
 refine y6i I.kIn O c.sa c.po n.w0W c.hd wi hz fun h' O' sb=>h _ ?_
 have hd:∃o,h'.get? dx=some o:=let ⟨o,_,_,e',_⟩:=O'.ns;⟨o,e'⟩
 refine I.write (x:=a) (e:=dx) (by rw[e];exact True.intro) (.inr ho) (fun b q hb z=>(sb.2 b hb).trans z) hd ?_
 refine⟨by rw[z0e O.ne];exact ho,?_,O.ne,O'.obj,_,O'.ns,fun g=>?_,fun g hg=>?_⟩
 ·have:=z1x f y fs;omega
 ·show M0 ((F6 f y fs).lookup g) (if g=f then some u else mA g)
  rw[z0m]
  by_cases q:g=f
  ·rw[if_pos q,if_pos q];exact ry
  ·rw[if_neg q,if_neg q];exact r g
 ·by_cases q:g=f
  ·rw[q];exact(z7B f y fs).1
  ·refine(z7B f y fs).2 g (wi g fun z=>hg ?_)
   show(if g=f then some u else mA g)=none
   rw[if_neg q];exact z
theorem Inv.made(I:Inv X pins σ H s):Inv X pins σ (upd (upd H s.heap.objs.size (.own (s.heap.objs.size+1))) (s.heap.objs.size+1) (.ins C s.heap.objs.size []))
  { s with heap:=(s.heap.push PySem.W.emptyDict).push (PySem.W.instObj C s.heap.objs.size) }:=by
 have e1:(s.heap.push PySem.W.emptyDict).get? s.heap.objs.size=some PySem.W.emptyDict:=bF s.heap rfl
 have e2:((s.heap.push PySem.W.emptyDict).push (PySem.W.instObj C s.heap.objs.size)).get? (s.heap.objs.size+1)=some (PySem.W.instObj C s.heap.objs.size):=by
  have:=bF (s.heap.push PySem.W.emptyDict) (o:=PySem.W.instObj C s.heap.objs.size) rfl
  rwa [eO] at this
 have e3:(s.heap.push PySem.W.emptyDict).Ns s.heap.objs.size (fun _=>none):=⟨PySem.W.emptyDict,#[],_,e1,rfl,(fun e he=>absurd he (by simp)),fun _=>rfl⟩
 have I1:=I.laid (a:=s.heap.objs.size) (o:=.own (s.heap.objs.size+1)) (h':=s.heap.push PySem.W.emptyDict) (t':=s.toks) (fun b u q=>b9 _ q) (bC _) ⟨_,e1⟩
 refine I1.laid (a:=s.heap.objs.size+1) (o:=.ins C s.heap.objs.size []) (t':=s.toks) (fun b u q=>b9 _ q) (Nat.le_of_eq (eO _ _)) ?_
 have ne:s.heap.objs.size≠s.heap.objs.size+1:=bW (eQ _)
 refine⟨by rw[z0e ne,z02],cR _,ne,e2,fun _=>none,(Heap.Ns1.of_empty e3).at fun o q=>b9 _ q,fun _=>True.intro,fun y hy=>absurd rfl hy⟩
theorem y6S{prog:Program}{w:World}{env:Env}{e:Expr}{f:Str}{pos:Pos}{s:Shared}{Q:Value->Shared->Prop}(hb:attributeBase e f env (eval e env)=eval e env)
  (h:wpAny (model prog w) A (eval e env) (fun o s₁=>wpAny (model prog w) A (getAttr o f true) Q E s₁) E s):wpAny (model prog w) A (eval (.Attribute e f pos) env) Q E s:=
 Attribute_any_ h (by rw[arm_eval_Attribute,hb])
end
def w01(K:PySem.W.Frag)(ta:TE)(f:Str):TE:=fun σ H Q=>ta σ H fun x H1=>∃a C dx fs v,x=.ref a/\H1 a=some (.ins C dx fs)/\Cls K C/\z2L K C f/\fs.lookup f=some v/\Q v H1
def sFld(K:PySem.W.Frag)(ta tv:TE)(f:Str):TS:=fun D σ H=>tv σ H fun y H1=>ta σ H1 fun x H2=>∃a C dx fs,x=.ref a/\H2 a=some (.ins C dx fs)/\Cls K C/\z2L K C f/\fs.length<1000/\
 D.nx σ (upd H2 a (.ins C dx (F6 f y fs)))
section
variable{X:Cx}{o e value:Expr}{f:Str}{pos pos' tpos:Pos}{ta tv:TE}
theorem z0J(he:PE X e ta)(hb:attributeBase e f X.env (eval e X.env)=eval e X.env):PE X (.Attribute e f pos) (w01 X.K ta f):=by
 intro pins s σ H Q I h
 refine y6S hb (thn (he pins s σ H _ I h) fun u s1 hz=>?_)
 obtain⟨x,H1,I1,rx,a,C,dx,fs,v,ex,ea,c,n,l,q⟩:=hz
 subst ex
 obtain rfl:u=Value.ref a:=rx
 exact y1F I1 ea c n l fun u' s2 I2 ru=>⟨v,H1,I2,ru,q⟩
theorem z5s(ha:PE X o ta)(hv:PE X value tv)(hs:swapsWith value (some (.Attribute o f pos')) pos.line X.env=pure false):PS X (.Assign [.Attribute o f pos'] value pos) (sFld X.K ta tv f):=by
 intro pins s σ H D I h
 refine plainObj_wpAny_Assign_Attribute (thn (hv pins s σ H _ I h) fun u s1 ⟨y,H1,I1,ry,q⟩=>thn (ha pins s1 σ H1 _ I1 q) fun ov s2 hz=>?_) hs
 obtain⟨x,H2,I2,rx,a,C,dx,fs,ex,ea,c,n,l,q2⟩:=hz
 subst ex
 obtain rfl:ov=Value.ref a:=rx
 exact y1W I2 ea c n l ry fun s3 I3=>⟨σ,_,I3,q2⟩
theorem y6W{pl:Sem Bool}{m:Str}{apos:Pos}{args:List Expr}{pins:List (Addr×Obj)}{s:Shared}{σ:St}{H:Hp}{Q:Value->Shared->Prop}{te:TE}(he:PE X e te)(I:Inv X pins σ H s)
  (h:te σ H fun x H1=>∃a C dx fs g,x=.ref a/\H1 a=some (.ins C dx fs)/\Cls X.K C/\Meth X.K C m g/\fs.lookup m=none/\
   ∀s1,Inv X pins σ H1 s1->wpAny (model X.prog X.w) X.A (callWith pos (.ref g) [.ref a] (backTo pos (starEach args X.env)) (backToKw pos (keywordEach [] X.env))) Q X.xe s1)
  (ht:eval (.Call (.Attribute e m apos) args [] pos) X.env=(do
   let ov <- eval e X.env
   standAt apos.atName
   let (f,first) <- holding [ov] (getMethod ov m pl)
   callWith pos f first (backTo pos (starEach args X.env)) (backToKw pos (keywordEach [] X.env)))) :
  wpAny (model X.prog X.w) X.A (eval (.Call (.Attribute e m apos) args [] pos) X.env) Q X.xe s:=by
 refine hU (pl:=pl) (thn (he pins s σ H _ I h) fun u s1 hz=>?_) ht
 obtain⟨x,H1,I1,rx,a,C,dx,fs,g,ex,ea,c,k,l,q⟩:=hz
 subst ex
 obtain rfl:u=Value.ref a:=rx
 exact z5T I1 ea c k l (q s1 I1)
end
section
variable{X:Cx}{pins:List (Addr×Obj)}{σ:St}{H:Hp}{s:Shared}{A:Around}{E:Value->Shared->Prop}{Q:Value->Shared->Prop}{c:Value}{b:Bool}
inductive N9(K:PySem.W.Frag)(H:Hp):V->Value->Prop where
 | non:N9 K H .non (.type "NoneType")
 | bl (x:Bool):N9 K H (.bl x) (.type "bool")
 | int (i:Int):N9 K H (.int i) (.type "int")
 | str (x:Str):N9 K H (.str x) (.type "str")
 | flt (x:UInt64):N9 K H (.flt x) (.type "float")
 | lst {a:Addr}{xs:List V} (e:H a=some (.lst xs)):N9 K H (.ref a) (.type "list")
 | frz {a:Addr}{o:Obj}{xs:List V} (e:H a=some (.frz o (.lst xs))):N9 K H (.ref a) (.type "list")
 | tup {a:Addr}{xs:List V} (e:H a=some (.tup xs)):N9 K H (.ref a) (.type "tuple")
 | dK {a:Addr}{kvs:List (Key×V)} (e:H a=some (.dK kvs)):N9 K H (.ref a) (.type "dict")
 | dT {a:Addr}{kvs:List (List Key×V)} (e:H a=some (.dT kvs)):N9 K H (.ref a) (.type "dict")
 | ins {a C dx:Addr}{fs:List (Str×V)} (e:H a=some (.ins C dx fs)) (cl:Cls K C) (ha:PySem.W.findIn K (.ref C) "__class__"=some (some (.builtin "object.__class__")))
   (hn:PySem.W.specialIn K (.builtin "object.__class__") "__get__"=some (some (.builtin "getset_descriptor.__get__"))) (htk:PySem.W.takesIn K (.builtin "object.__class__")=some true)
   (hm:PySem.W.mroIn K C (.type "object")=some true):N9 K H (.ref a) (.ref C)
theorem y3c{x:V}{u t:Value}(I:Inv X pins σ H s)(rx:RelV x u)(ty:N9 X.K H x t)(e:PySem.W.kitOne X.K t c=some b)(h:∀tk,Q (.bool b) { s with toks:=tk }) :
  wpAny (model X.prog X.w) A (call (.builtin "isinstance") [u,c]) Q E s:=by
 cases ty with
 | non=>cases (show u=Value.none from rx);exact dI PySem.W.kitx_none I.kIn True.intro e (fun z=>nomatch z) h
 | bl y=>cases (show u=Value.bool y from rx);exact dI PySem.W.kitx_bool I.kIn True.intro e (fun z=>nomatch z) h
 | int i=>obtain⟨t,q⟩:=(show ∃t,u=Value.int i t from rx);cases q;exact dI PySem.W.kitx_int I.kIn True.intro e (fun z=>nomatch z) h
 | str y=>obtain⟨t,q⟩:=(show ∃t,u=Value.str y t from rx);cases q;exact dI PySem.W.kitx_str I.kIn True.intro e (fun z=>nomatch z) h
 | flt y=>obtain⟨t,q⟩:=(show ∃t,u=Value.float y t from rx);cases q;exact dI PySem.W.kitx_float I.kIn True.intro e (fun z=>nomatch z) h
 | @lst a xs ea=>
  cases (show u=Value.ref a from rx)
  obtain⟨_,_,n,_,h1⟩:=(show z15 X.prog X.w H s.heap a (.lst xs) from I.hok a _ ea)
  exact dI PySem.W.kitx_list I.kIn ⟨_,h1,rfl⟩ e (fun z=>nomatch z) h
 | @frz a ob xs ea=>
  cases (show u=Value.ref a from rx)
  obtain⟨_,_,_,n,_,h1⟩:=(show z15 X.prog X.w H s.heap a (.frz ob (.lst xs)) from I.hok a _ ea)
  exact dI PySem.W.kitx_list I.kIn ⟨_,h1,rfl⟩ e (fun z=>nomatch z) h
 | @tup a xs ea=>
  cases (show u=Value.ref a from rx)
  obtain⟨_,_,_,p⟩:=(show z15 X.prog X.w H s.heap a (.tup xs) from I.hok a _ ea)
  obtain⟨o,h1,h2,_⟩:=p
  exact dI PySem.W.kitx_tuple I.kIn ⟨o,h1,h2⟩ e (fun z=>nomatch z) h
 | @dK a kvs ea=>
  cases (show u=Value.ref a from rx)
  obtain⟨_,_,vs,_,p⟩:=(show z15 X.prog X.w H s.heap a (.dK kvs) from I.hok a _ ea)
  obtain⟨o,es,ep,h1,h2,_⟩:=p
  exact dI PySem.W.kitx_dict I.kIn ⟨o,h1,h2.1⟩ e (fun z=>nomatch z) h
 | @dT a kvs ea=>
  cases (show u=Value.ref a from rx)
  obtain⟨_,_,xs,_,o,es,ep,h1,h2,_⟩:=(show z15 X.prog X.w H s.heap a (.dT kvs) from I.hok a _ ea)
  exact dI PySem.W.kitx_dict I.kIn ⟨o,h1,h2.1⟩ e (fun z=>nomatch z) h
 | @ins a C dx fs ea cl ha hn htk hm=>
  cases (show u=Value.ref a from rx)
  obtain⟨mA,O,_⟩:=z9c I.hok ea
  obtain⟨od,J,_⟩:=O.look
  exact dI (PySem.W.kitx_own (cl.get _) cl.hd ha hn htk hm) I.kIn J e (fun z=>nomatch z) h
end
structure C8(k:Nat)(A:Around):Prop where
 hd:A.handled=none
 dp:A.depth+3*k+5<recursionLimit
 un:A.units+16*k+200<cLine
theorem C8.mono{j k:Nat}{A:Around}(r:C8 k A)(h:j≤k):C8 j A:=⟨r.hd,by have:=r.dp;omega,by have:=r.un;omega⟩
theorem C8.deeper{k:Nat}{A:Around}(r:C8 (k+1) A)(env:Env):C8 k (A.deeper env):=
 ⟨r.hd,by have:=r.dp;show A.depth+1+3*k+5<_;omega,by have:=r.un;show A.units+3+16*k+200<_;omega⟩
theorem y2l{A:Around}{C:Addr}{us:List Value}{kw:List (Str×Value)}:(A.under (.builtin "type.__call__" ⟨.ref C::us,kw⟩)).depth=A.depth+1:=by
 first|rfl|simp[Around.under,Code.weight,Code.isCreation,Code.isGuard,Code.isCaller,Code.frames,Code.isFrame,guardIds]
theorem y23{A:Around}{C:Addr}{us:List Value}{kw:List (Str×Value)}:(A.under (.builtin "type.__call__" ⟨.ref C::us,kw⟩)).units=A.units+1:=by
 first|rfl|simp[Around.under,Code.cUnits,Code.frames,Code.isFrame]
theorem C8.make{k:Nat}{A:Around}(r:C8 (k+1) A)(C:Addr)(us:List Value)(kw:List (Str×Value)):C8 k (A.under (.builtin "type.__call__" ⟨.ref C::us,kw⟩)):=
 ⟨r.hd,by have:=r.dp;rw[y2l];omega,by have:=r.un;rw[y23];omega⟩
theorem C8.depth{k:Nat}{A:Around}(r:C8 k A):A.depth<recursionLimit:=by have:=r.dp;omega
theorem C8.units{k:Nat}{A:Around}(r:C8 k A):A.units+64<cLine:=by have:=r.un;omega
theorem C8.T4{k:Nat}{A:Around}(r:C8 k A):A.units<cLine:=by have:=r.un;omega
def V2:TA:=fun _ H Q=>Q [] H
def y5L(ta:TE)(tr:TA):TA:=fun σ H Q=>ta σ H fun x H1=>tr σ H1 fun xs H2=>Q (x::xs) H2
section
variable{X:Cx}{e:Expr}{es:List Expr}{te:TE}{t:TA}{pos:Pos}
theorem z03:PA X [] V2:=fun _ _ _ _ H Q I h=>Calls.spliced_nil ⟨[],H,I,.nil,h⟩
theorem z00(ha:PE X e te)(hr:PA X es t)(hs:starEach (e::es) X.env=(false,eval e X.env)::starEach es X.env:=by rfl):PA X (e::es) (y5L te t):=by
 intro pos pins s σ H Q I h
 rw[hs]
 show wpAny _ _ (spliced ((false,eval e X.env)::backTo pos (starEach es X.env))) _ _ s
 refine Calls.spliced_cons (thn (ha pins s σ H _ I h) fun u s1 hz=>?_)
 obtain⟨x,H1,I1,r1,q1⟩:=hz
 exact thn (hr pos pins s1 σ H1 _ I1 q1) fun us s2 ⟨xs,H2,I2,r2,q2⟩=>⟨x::xs,H2,I2,.cons r1 r2,q2⟩
def tTup(t:TA):TE:=fun σ H Q=>t σ H fun xs H1=>xs.length≤sizeLine/\∀p,H1 p=none->Q (.ref p) (upd H1 p (.tup xs))
def tLst(t:TA):TE:=fun σ H Q=>t σ H fun xs H1=>xs.length≤sizeLine/\∀p,H1 p=none->Q (.ref p) (upd H1 p (.lst xs))
theorem z1b{x1}(h:PA X es t):PE X (.Tuple es x1 pos) (tTup t):=by
 intro pins s σ H Q I hq
 refine wpAny_Tuple_spliced (thn (h pos pins s σ H _ I hq) fun us s1 ⟨xs,H1,I1,r,z,q⟩=>⟨by rw[<- r.length];exact z,?_⟩)
 have hf:H1 s1.heap.objs.size=none:=I1.hok.fresh (bC _)
 refine⟨.ref s1.heap.objs.size,upd H1 s1.heap.objs.size (.tup xs),I1.laid (t':=s1.toks) (fun b u e=>b9 _ e) (bC _) ?_,rfl,q _ hf⟩
 exact⟨z,us,r,⟨_,bF _ rfl,rfl,⟨_,rfl⟩,rfl⟩⟩
theorem z1j(h:PA X es t):PE X (.List es pos) (tLst t):=by
 intro pins s σ H Q I hq
 refine wpAny_List_spliced (thn (h pos pins s σ H _ I hq) fun us s1 ⟨xs,H1,I1,r,z,q⟩=>⟨by rw[<- r.length];exact z,?_⟩)
 have hf:H1 s1.heap.objs.size=none:=I1.hok.fresh (bC _)
 refine⟨.ref s1.heap.objs.size,upd H1 s1.heap.objs.size (.lst xs),I1.laid (t':=s1.toks) (fun b u e=>b9 _ e) (bC _) ?_,rfl,q _ hf⟩
 exact⟨z,us,0,r,bF _ rfl⟩
end
abbrev Sp:=List V->Hp->VK->XK->Prop
abbrev CXT:=List Env->Hp->Shared->XK->Value->Shared->Prop
structure U2(P:Program)(w:World)(K:PySem.W.Frag)(mg:Str->Option Value)(base:Heap)(A:Around)(outer:List Env)(s:Shared)(H:Hp):Prop where
 frames:A.frames=some outer
 mod:Mod K mg base
 bs:∀b o,base.get? b=some o->s.heap.get? b=some o/\H b=none
 bsz:base.objs.size≤s.heap.objs.size
 O9:s.heap.FunFrames base outer
 frf:∀b∈frs outer,H b=none
 hok:HOk P w H s.heap
 bare:AllBare s.gens
def CE(outer:List Env)(P:Program)(w:World)(H:Hp)(s:Shared)(Q:VK)(u:Value)(s':Shared):Prop:=
 ∃v H',s'.os=s.os/\AllBare s'.gens/\Un (frs outer) [] H H' s.heap s'.heap/\HOk P w H' s'.heap/\RelV v u/\Q v H'
def CR(CX:CXT)(outer:List Env)(P:Program)(w:World)(H:Hp)(s:Shared)(Q:VK)(E:XK)(r:Result)(s':Shared):Prop:=
 match r with
 | .ok (.ret u)=>CE outer P w H s Q u s'
 | .ok _=>False
 | .error e=>CX outer H s E e s'
structure A5(P:Program)(w:World)(K:PySem.W.Frag)(mg:Str->Option Value)(base:Heap)(CX:CXT)(k:Nat)(f:Addr)(fd:FuncData)(ps:List Str)(sp:Sp):Prop where
 len:∀vs H Q E,sp vs H Q E->vs.length=ps.length
 run:∀(A:Around) (outer:List Env) (s:Shared) (H:Hp) (args:Args) (us:List Value) (vs:List V) (Q:VK) (E:XK),C8 k A->U2 P w K mg base A outer s H->BindsTo s fd args (ps.zip us)->Vals vs us->sp vs H Q E->
  codeAny (model P w) A (.call (.ref f) args) (CR CX outer P w H s Q E) s
theorem A5.mono{P:Program}{w:World}{K:PySem.W.Frag}{mg:Str->Option Value}{base:Heap}{CX:CXT}{j k:Nat}{f:Addr}{fd:FuncData}{ps:List Str}{sp:Sp}(F:A5 P w K mg base CX j f fd ps sp)(h:j≤k) :
  A5 P w K mg base CX k f fd ps sp:=⟨F.len,fun A outer s H args us vs Q E hr=>F.run A outer s H args us vs Q E (hr.mono h)⟩
theorem U2.make{P:Program}{w:World}{K:PySem.W.Frag}{mg:Str->Option Value}{base:Heap}{A:Around}{outer:List Env}{s:Shared}{H:Hp}(e:U2 P w K mg base A outer s H)(C:Addr)(us:List Value)(kw:List (Str×Value)) :
  U2 P w K mg base (A.under (.builtin "type.__call__" ⟨.ref C::us,kw⟩)) outer s H:=⟨by first|exact e.frames|(simpa [Around.under,Code.envs,Code.isFrame,pushEnvs] using e.frames),e.mod,e.bs,e.bsz,e.O9,e.frf,e.hok,e.bare⟩
section
variable{X:Cx}{pins:List (Addr×Obj)}{σ:St}{H:Hp}{s s':Shared}
theorem Inv.env0(I:Inv X pins σ H s):U2 X.prog X.w X.K X.mg X.base X.A X.stack s H:=
 ⟨I.ok.frames,I.ok.mod,I.bs,cO I.ok.bsz I.sz,I.stack,I.U7,I.hok,I.bare⟩
theorem Inv.after{Q:VK}{u:Value}(I:Inv X pins σ H s)(h:CE X.stack X.prog X.w H s Q u s'):EP X pins σ Q u s':=by
 obtain⟨v,H',os,bare,un,hok,r,q⟩:=h
 obtain⟨hh,g,d,t,os'⟩:=s'
 obtain rfl:os'=s.os:=os
 exact⟨v,H',I.call (h':=hh) (g':=g) (d':=d) (t':=t) (ch:=[]) un hok bare (fun b z=>absurd z (by simp)),r,q⟩
end
def y6j(sp:Sp)(dvs:List V)(E:XK)(t:TA):TE:=fun σ H Q=>t σ H fun vs H1=>sp (vs++dvs) H1 Q E
def y3J(C:Addr)(m:Str)(sp:Sp)(dvs:List V)(E:XK)(ta:TE)(t:TA):TE:=fun σ H Q=>ta σ H fun x H1=>∃a dx fs,x=.ref a/\H1 a=some (.ins C dx fs)/\fs.lookup m=none/\
 t σ H1 fun vs H2=>sp (x::(vs++dvs)) H2 Q E
def y7T(C:Addr)(sp:Sp)(dvs:List V)(E:XK)(t:TA):TE:=fun σ H Q=>t σ H fun vs H1=>∀x dx,H1 x=none->H1 dx=none->dx≠x->
 sp (.ref x::(vs++dvs)) (upd (upd H1 dx (.own x)) x (.ins C dx [])) (fun v H2=>v=.non/\Q (.ref x) H2) E
def z1J(K:PySem.W.Frag)(fd:FuncData)(ps:List Str)(ds:List Value):Prop:=
 ∀(s:Shared) (us:List Value),K.In s.heap->(us++ds).length=ps.length->BindsTo s fd ⟨us,[]⟩ (ps.zip (us++ds))
theorem z1J.all{K:PySem.W.Frag}{fd:FuncData}{ps:List Str}(h:∀us:List Value,us.length=ps.length->bindArgs fd ⟨us,[]⟩=pure (ps.zip us)):z1J K fd ps []:=fun s us _ hl=>by
 rw[cU] at hl ⊢
 exact .of_eq (h us hl)
def z7D(CX:CXT)(X:Cx)(E:XK):Prop:=∀(pins:List (Addr×Obj)) (σ:St) (H:Hp) (s:Shared) (e:Value) (s':Shared),Inv X pins σ H s->CX X.stack H s E e s'->X.xe e s'
section
variable{X:Cx}{CX:CXT}{k:Nat}{f C:Addr}{fd:FuncData}{ps:List Str}{sp:Sp}{dvs:List V}{ds:List Value}{E:XK}{x m:Str}{p pos apos:Pos}{e o:Expr}{es:List Expr}{ta:TE}{t:TA}
theorem y2Y{pins:List (Addr×Obj)}{σ:St}{H:Hp}{s:Shared}{Q:VK}{us:List Value}{vs:List V}(F:A5 X.prog X.w X.K X.mg X.base CX k f fd ps sp)(hr:C8 k X.A)(hb:z1J X.K fd ps ds)(hd:Vals dvs ds)(hx:z7D CX X E)
  (I:Inv X pins σ H s) (r:Vals vs us) (h:sp (vs++dvs) H Q E):wpAny (model X.prog X.w) X.A (call (.ref f) us) (EP X pins σ Q) X.xe s:=by
 have r2:Vals (vs++dvs) (us++ds):=r.append hd
 have hl:(us++ds).length=ps.length:=by rw[<- r2.length];exact F.len _ _ _ _ h
 refine wpAny_call (codeAny_mono (F.run X.A X.stack s H ⟨us,[]⟩ (us++ds) (vs++dvs) Q E hr I.env0 (hb s us I.kIn hl) r2 h) fun r s' hq=>?_)
 cases r with
 | error e=>exact hx pins σ H s e s' I hq
 | ok fl=>
  cases fl with
  | ret u=>exact I.after hq
  | next=>exact False.elim hq
  | brk=>exact False.elim hq
  | cont=>exact False.elim hq
theorem y33(F:A5 X.prog X.w X.K X.mg X.base CX k f fd ps sp)(hr:C8 k X.A)(hg:Gl X x)(hm:X.mg x=some (.ref f))(hk:PySem.W.keepIn X.K (.ref f)=true)(hb:z1J X.K fd ps ds)(hd:Vals dvs ds)(hx:z7D CX X E)
  (ha:PA X (e::es) t) (hdb:(x == ("__debug__":Str))=false:=by decide) (he:starEach (e::es) X.env=(false,eval e X.env)::starEach es X.env:=by rfl) (hpl:(backTo pos (starEach es X.env)).any (·.1)=false:=by rfl) :
  PE X (.Call (.Name x p) (e::es) [] pos) (y6j sp dvs E t):=by
 intro pins s σ H Q I h
 refine wpAny_Call_Name_kw (y0p I hg hm ?_ hdb)
 refine jB (h₀:=X.base) I.ok.mod.kin hk (thn (ha pos pins s σ H _ I h) fun us s1 ⟨vs,H1,I1,r,q⟩=>⟨I1.kIn,?_⟩) he hpl
 exact y2Y F hr hb hd hx I1 r q
theorem y3a{pl:Sem Bool}(he:PE X o ta)(c:Cls X.K C)(hm:Meth X.K C m f)(F:A5 X.prog X.w X.K X.mg X.base CX k f fd ps sp)(hr:C8 k X.A)(hb:z1J X.K fd ps ds)(hd:Vals dvs ds)(hx:z7D CX X E)(ha:PA X (e::es) t)
  (hst:starEach (e::es) X.env=(false,eval e X.env)::starEach es X.env:=by rfl) (hpl:(backTo pos (starEach es X.env)).any (·.1)=false:=by rfl)
  (ht:eval (.Call (.Attribute o m apos) (e::es) [] pos) X.env=(do
   let ov <- eval o X.env
   standAt apos.atName
   let (f,first) <- holding [ov] (getMethod ov m pl)
   callWith pos f first (backTo pos (starEach (e::es) X.env)) (backToKw pos (keywordEach [] X.env))):=by rfl) :
  PE X (.Call (.Attribute o m apos) (e::es) [] pos) (y3J C m sp dvs E ta t):=by
 intro pins s σ H Q I h
 refine hU (pl:=pl) (thn (he pins s σ H _ I h) fun u s1 hz=>?_) ht
 obtain⟨x,H1,I1,rx,a,dx,fs,ex,ea,l,q⟩:=hz
 subst ex
 obtain rfl:u=Value.ref a:=rx
 refine z5T I1 ea c hm l ?_
 refine jB (first:=[.ref a]) (h₀:=X.base) I.ok.mod.kin hm.kp (thn (ha pos pins s1 σ H1 _ I1 q) fun us s2 ⟨vs,H2,I2,r,q2⟩=>⟨I2.kIn,?_⟩) hst hpl
 exact y2Y (us:=.ref a::us) (vs:=.ref a::vs) F hr hb hd hx I2 (.cons rfl r) q2
theorem y4G{pl:Sem Bool}(he:PE X o ta)(c:Cls X.K C)(hm:Meth X.K C m f)(F:A5 X.prog X.w X.K X.mg X.base CX k f fd ps sp)(hr:C8 k X.A)(hb:z1J X.K fd ps ds)(hd:Vals dvs ds)(hx:z7D CX X E)
  (ht:eval (.Call (.Attribute o m apos) [] [] pos) X.env=(do
   let ov <- eval o X.env
   standAt apos.atName
   let (f,first) <- holding [ov] (getMethod ov m pl)
   callWith pos f first (backTo pos (starEach [] X.env)) (backToKw pos (keywordEach [] X.env))):=by rfl) :
  PE X (.Call (.Attribute o m apos) [] [] pos) (y3J C m sp dvs E ta V2):=by
 intro pins s σ H Q I h
 refine hU (pl:=pl) (thn (he pins s σ H _ I h) fun u s1 hz=>?_) ht
 obtain⟨x,H1,I1,rx,a,dx,fs,ex,ea,l,q⟩:=hz
 subst ex
 obtain rfl:u=Value.ref a:=rx
 refine z5T I1 ea c hm l ?_
 exact PySem.W.callWith_K0 (first:=[.ref a]) I1.kIn hm.kp (y2Y (us:=[.ref a]) (vs:=[.ref a]) F hr hb hd hx I1 (.cons rfl .nil) q)
structure Mk(K:PySem.W.Frag)(C f:Addr):Prop where
 makes:PySem.W.makesIn K C=true
 init:PySem.W.findIn K (.ref C) "__init__"=some (some (.ref f))
 fn:PySem.W.isFn K (.ref f)=true
 kp:PySem.W.keepIn K (.ref C)=true
theorem y5G{pins:List (Addr×Obj)}{σ:St}{H:Hp}{s:Shared}{Q:VK}{us:List Value}{vs:List V}(M:Mk X.K C f)(F:A5 X.prog X.w X.K X.mg X.base CX k f fd ps sp)(hr:C8 (k+1) X.A)(hb:z1J X.K fd ps ds)(hd:Vals dvs ds)
  (hx:z7D CX X E) (I:Inv X pins σ H s) (r:Vals vs us)
  (h:∀x dx,H x=none->H dx=none->dx≠x->sp (.ref x::(vs++dvs)) (upd (upd H dx (.own x)) x (.ins C dx [])) (fun v H2=>v=.non/\Q (.ref x) H2) E) :
  wpAny (model X.prog X.w) X.A (call (.ref C) us) (EP X pins σ Q) X.xe s:=by
 have hq:=h (s.heap.objs.size+1) s.heap.objs.size (I.hok.fresh (e7 _)) (I.hok.fresh (bC _)) (bW (eQ _))
 have I2:=Inv.made (C:=C) I
 have r2:Vals (V.ref (s.heap.objs.size+1)::(vs++dvs)) (Value.ref (s.heap.objs.size+1)::(us++ds)):=.cons rfl (r.append hd)
 have hl:(Value.ref (s.heap.objs.size+1)::us++ds).length=ps.length:=by
  have e:=r2.length
  rw[F.len _ _ _ _ hq] at e
  exact e.symm
 refine wpAny_call (y56 (f:=f) I.kIn M.makes M.init (beq_iff_eq.mp M.fn) (codeAny_mono (F.run _ X.stack _ _ ⟨Value.ref (s.heap.objs.size+1)::us,[]⟩ (Value.ref (s.heap.objs.size+1)::(us++ds)) _ _ E (hr.make C us [])
  (I2.env0.make C us []) (hb _ (Value.ref (s.heap.objs.size+1)::us) I2.kIn hl) r2 hq) fun r s' hq'=>?_))
 cases r with
 | error e=>exact hx pins σ _ _ e s' I2 hq'
 | ok fl=>
  cases fl with
  | ret u=>
   obtain⟨v,H',I3,rv,ev,q3⟩:=I2.after hq'
   subst ev
   exact⟨rv,⟨V.ref (s.heap.objs.size+1),H',I3,rfl,q3⟩⟩
  | next=>exact False.elim hq'
  | brk=>exact False.elim hq'
  | cont=>exact False.elim hq'
theorem y7d(M:Mk X.K C f)(F:A5 X.prog X.w X.K X.mg X.base CX k f fd ps sp)(hr:C8 (k+1) X.A)(hg:Gl X x)(hm:X.mg x=some (.ref C))(hb:z1J X.K fd ps ds)(hd:Vals dvs ds)(hx:z7D CX X E)
  (ha:PA X (e::es) t) (hdb:(x == ("__debug__":Str))=false:=by decide) (he:starEach (e::es) X.env=(false,eval e X.env)::starEach es X.env:=by rfl) (hpl:(backTo pos (starEach es X.env)).any (·.1)=false:=by rfl) :
  PE X (.Call (.Name x p) (e::es) [] pos) (y7T C sp dvs E t):=by
 intro pins s σ H Q I h
 refine wpAny_Call_Name_kw (y0p I hg hm ?_ hdb)
 refine jB (h₀:=X.base) I.ok.mod.kin M.kp (thn (ha pos pins s σ H _ I h) fun us s1 ⟨vs,H1,I1,r,q⟩=>⟨I1.kIn,?_⟩) he hpl
 exact y5G M F hr hb hd hx I1 r q
end
def PK(X:Cx)(kws:List Keyword)(t:TA):Prop:=
 ∀(pos:Pos) (pins:List (Addr×Obj)) (s:Shared) (σ:St) (H:Hp) (Q:List V->Hp->Prop),Inv X pins σ H s->t σ H Q->wpAny (model X.prog X.w) X.A (evalAll ((backToKw pos (keywordEach kws X.env)).map (·.2))) (AP X pins σ Q) X.xe s
section
variable{X:Cx}{CX:CXT}{k:Nat}{f C:Addr}{fd:FuncData}{ps ks:List Str}{sp:Sp}{E:XK}{x m:Str}{p pos apos kpos:Pos}{e o:Expr}{es:List Expr}{kws:List Keyword}{te ta:TE}{t tk:TA}{nm:Option Str}
theorem y1i:PK X [] V2:=fun _ _ _ _ H Q I h=>wpAny_evalAll_nil ⟨[],H,I,.nil,h⟩
theorem z97(ha:PE X e te)(hr:PK X kws t):PK X (⟨nm,e,kpos⟩::kws) (y5L te t):=by
 intro pos pins s σ H Q I h
 show wpAny _ _ (evalAll ((do let v <- eval e X.env;standAt pos;pure v)::(backToKw pos (keywordEach kws X.env)).map (·.2))) _ _ s
 refine wpAny_evalAll_cons (wpAny_bind (thn (ha pins s σ H _ I h) fun u s1 ⟨x,H1,I1,r1,q1⟩=>wpAny_bind (wpAny_standAt (wpAny_pure ?_))))
 exact thn (hr pos pins s1 σ H1 _ I1 q1) fun us s2 ⟨xs,H2,I2,r2,q2⟩=>⟨x::xs,H2,I2,.cons r1 r2,q2⟩
variable{g:List Value->List Value->List Value}{gV:List V->List V->List V}
end
structure A2(N P:List Str)(sc:Scope):Prop where
 kind:sc.kind=.function
 co:sc.isCoroutine=false
 gen:sc.isGenerator=false
 nd:N.Nodup
 pre:N.take P.length=P
 par:∀x∈P,sc.names.lookup x=some .local\/sc.names.lookup x=some .cell
 nofree:∀y∈sc.names,y.2≠.free
theorem z9o{kindOf:Str->Option NameKind}{x:Str}:∀{binds:List (Str×Value)}{m:Str->Option Value},(∀v,(x,v)∉binds)->bindL kindOf binds m x=m x
 | [],_,_=>rfl
 | (n,v)::r,m,h=>by
  unfold bindL
  rw[z9o fun w hw=>h w (bL _ hw)]
  split
  ·have:x≠n:=by rintro rfl;exact h v bQ
   simp[this]
  ·rfl
theorem y0e{kindOf:Str->Option NameKind}{x:Str}:∀{binds:List (Str×Value)}{m:Str->Option Value},(∀v,(x,v)∉binds)->bindC kindOf binds m x=m x
 | [],_,_=>rfl
 | (n,v)::r,m,h=>by
  unfold bindC
  rw[y0e fun w hw=>h w (bL _ hw)]
  split
  ·rfl
  ·have:x≠n:=by rintro rfl;exact h v bQ
   simp[this]
theorem z9I{kindOf:Str->Option NameKind}{x:Str}{v:Value}:∀{P:List Str}{vs:List Value}{i:Nat}{m:Str->Option Value},P.Nodup->P[i]? = some x->vs[i]? = some v->kindOf x=some .local->
  bindL kindOf (P.zip vs) m x=some v
 | [],_,_,_,_,h,_,_=>by simp at h
 | _::_,[],_,_,_,_,h,_=>by simp at h
 | p::P,w::vs,0,m,nd,h1,h2,hk=>by
  simp at h1 h2;subst h1;subst h2
  show bindL kindOf ((p,w)::P.zip vs) m p=_
  unfold bindL
  rw[z9o fun v hv=>(cV.mp nd).1 (List.of_mem_zip hv).1,if_pos hk]
  simp
 | p::P,w::vs,i+1,m,nd,h1,h2,hk=>by
  show bindL kindOf ((p,w)::P.zip vs) m x=_
  unfold bindL
  exact z9I (i:=i) (cV.mp nd).2 (by simpa using h1) (by simpa using h2) hk
theorem z9s{kindOf:Str->Option NameKind}{x:Str}{v:Value}:∀{P:List Str}{vs:List Value}{i:Nat}{m:Str->Option Value},P.Nodup->P[i]? = some x->vs[i]? = some v->kindOf x≠some .local->
  bindC kindOf (P.zip vs) m x=some v
 | [],_,_,_,_,h,_,_=>by simp at h
 | _::_,[],_,_,_,_,h,_=>by simp at h
 | p::P,w::vs,0,m,nd,h1,h2,hk=>by
  simp at h1 h2;subst h1;subst h2
  show bindC kindOf ((p,w)::P.zip vs) m p=_
  unfold bindC
  rw[y0e fun v hv=>(cV.mp nd).1 (List.of_mem_zip hv).1,if_neg hk]
  simp
 | p::P,w::vs,i+1,m,nd,h1,h2,hk=>by
  show bindC kindOf ((p,w)::P.zip vs) m x=_
  unfold bindC
  exact z9s (i:=i) (cV.mp nd).2 (by simpa using h1) (by simpa using h2) hk
def z4g(N:List Str)(vs:List V):St:=vs.map some++List.replicate (N.length-vs.length) none
def T6(CX:CXT)(P:Program)(w:World)(K:PySem.W.Frag)(mg:Str->Option Value)(base:Heap)(N:List Str)(qual:Str)(scope:Scope)(f:Addr)(cd:Value)(A:Around)(outer:List Env)(s:Shared)(H:Hp)(E:XK):Cx where
 prog:=P
 w:=w
 K:=K
 mg:=mg
 base:=base
 A:=A.deeper (envOfC qual scope s.heap.objs.size f cd)
 N:=N
 s₀:=s
 H₀:=H
 env:=envOfC qual scope s.heap.objs.size f cd
 outer:=outer
 stack:=envOfC qual scope s.heap.objs.size f cd::outer
 ex:=[]
 calm:=true
 fn:=fun _=>true
 pn:=[]
 xe:=fun e s'=>wpAny (model P w) (A.deeper (envOfC qual scope s.heap.objs.size f cd)) (leaving (envOfC qual scope s.heap.objs.size f cd) e) (fun _ s''=>CX outer H s E e s'') (fun e' s''=>CX outer H s E e' s'') s'
theorem y0Y{sc:Scope}{n:Nat}{x:Str}(h:sc.names.lookup x=some .cell):∃c,(cellsFrom n sc.names []).lookup x=some c:=by
 have q:=PySem.W.cellsFrom_some sc.names n [] (.inl h)
 exact Option.isSome_iff_exists.mp q
theorem y32{CX:CXT}{P:Program}{w:World}{K:PySem.W.Frag}{mg:Str->Option Value}{base:Heap}{N ps:List Str}{qual:Str}{scope:Scope}{f:Addr}{cd:Value}{A:Around}{outer:List Env}{s s1:Shared}{H:Hp}{E:XK}{us:List Value}{vs:List V}
  (S:A2 N ps scope) (hd:A.handled=none) (e0:U2 P w K mg base A outer s H) (hl:vs.length=ps.length) (r:Vals vs us)
  (x:InCallC s s.heap.objs.size (bindL (envOfC qual scope s.heap.objs.size f cd).kindOf (ps.zip us) fun _=>none) (cellsFrom (s.heap.objs.size+1) scope.names []) (bindC (envOfC qual scope s.heap.objs.size f cd).kindOf (ps.zip us) fun _=>none) s1) :
  Inv (T6 CX P w K mg base N qual scope f cd A outer s H E) [] (z4g N vs) H s1:=by
 have hpl:ps.length≤N.length:=by have:=congrArg List.length S.pre;rw[bO] at this;omega
 obtain⟨h1,tk,rfl,hk⟩:=x.done
 have noA:∀b:Addr,b∉(T6 CX P w K mg base N qual scope f cd A outer s H E).ex:=fun b z=>absurd (show b∈([]:List Addr) from z) (by simp)
 refine⟨⟨e0.mod,S.kind,rfl,rfl,bC _,fun y z c h1 h2=>?_,fun y hy=>?_,fun y c _ h=>?_,fun _=>hd,Around.frames_deeper e0.frames,.inr ⟨rfl,rfl⟩,fun b z=>absurd z (noA b),e0.bs,e0.bsz,fun b _ _=>noA b,fun b z=>absurd z (noA b),e0.O9,e0.frf⟩,
  rfl,e0.bare,Un.kept hk,⟨_,x.toInCall.ns,fun i y v h1 h2 h3=>?_⟩,fun y c h=>⟨_,x.cell y c h⟩,e0.hok.fresh (bC _),fun y c h=>?_,fun p hp=>absurd (show p∈([]:List (Addr×Obj)) from hp) (by simp),e0.hok.kept hk,?_⟩
 ·exact name_of_addr x.apart (fJ h1) (fJ h2)
 ·have hy:scope.names.lookup y=some .cell\/scope.names.lookup y=some .free:=hy
  rcases hy with hy|hy
  ·exact y0Y hy
  ·exact absurd rfl (S.nofree _ (fJ hy))
 ·exact dZ (x.above y c (fJ h))
 ·have hi:i<vs.length:=by
   unfold z4g at h2
   by_cases hi:i<vs.length
   ·exact hi
   ·rw[gC (by simpa using hi)] at h2
    rw[gQ] at h2
    split at h2<;>cases h2
  have ha:vs[i]? = some v:=by
   unfold z4g at h2
   rw[fE (by simpa using hi),bG] at h2
   cases e:vs[i]? with
   | none=>rw[e] at h2;cases h2
   | some a=>rw[e] at h2;cases h2;rfl
  obtain⟨u,hu,rv⟩:=r.get ha
  have hp:ps[i]? = some y:=by
   rw[<- S.pre,List.getElem?_take_of_lt (by omega)];exact h1
  have ndP:ps.Nodup:=by rw[<- S.pre];exact S.nd.sublist (List.take_sublist _ _)
  refine⟨u,rv,?_⟩
  rcases S.par y (bR hp) with k|k
  ·exact .inl ⟨k,z9I ndP hp hu k⟩
  ·obtain⟨c,e⟩:=y0Y (n:=s.heap.objs.size+1) k
   refine .inr ⟨.inl k,c,e,?_⟩
   have q:=x.cell y c e
   rw[z9s ndP hp hu (by show scope.names.lookup y≠_;rw[k];decide)] at q
   exact q
 ·exact e0.hok.fresh (dZ (x.above y c (fJ h)))
 ·unfold z4g
  show _=N.length
  rw[bN,b8,hV]
  omega
theorem y7m{CX:CXT}{P:Program}{w:World}{K:PySem.W.Frag}{mg:Str->Option Value}{base:Heap}{k:Nat}{f:Addr}{name qual:Str}{params:Arguments}{body:List Stmt}{scope:Scope}{dV kV doc pm cdv ct oc:Value}{an od:Option Addr}
  {osl:Array (Option Value)}{N ps:List Str}{sp:Sp} (lk:K.lookup f=some ⟨oc,od,.func (PySem.W.fnOf name qual params body scope dV kV doc pm an cdv ct),osl⟩) (hcd:PySem.W.codeIn K cdv qual=true) (S:A2 N ps scope)
  (len:∀vs H Q E,sp vs H Q E->vs.length=ps.length)
  (R9:∀(A:Around) (outer:List Env) (s:Shared) (H:Hp) (vs:List V) (Q:VK) (E:XK),C8 k (A.deeper (envOfC qual scope s.heap.objs.size f cdv))->sp vs H Q E->
   ∃t,PSs (T6 CX P w K mg base N qual scope f cdv A outer s H E) body t/\t { nx:=fun _ H'=>Q .non H',rt:=Q } (z4g N vs) H) :
  A5 P w K mg base CX (k+1) f (PySem.W.fnOf name qual params body scope dV kV doc pm an cdv ct) ps sp:=by
 refine⟨len,fun A outer s H args us vs Q E hr e0 hb r hsp=>?_⟩
 have hl:=len _ _ _ _ hsp
 have KX:K.In s.heap:=e0.mod.kin.keeps fun b o e=>(e0.bs b o e).1
 have lim:s.heap.NoLimit:=e0.mod.nolimit.keeps fun b o e=>(e0.bs b o e).1
 have w1d:∀y∈ps.zip us,scope.names.lookup y.1=some .local\/(scope.names.lookup y.1=some .cell/\((cellsFrom (s.heap.objs.size+1) scope.names []).lookup y.1).isSome=true):=fun⟨n,v⟩ hy=>by
  rcases S.par n (List.of_mem_zip hy).1 with q|q
  ·exact .inl q
  ·exact .inr ⟨q,PySem.W.cellsFrom_some _ _ _ (.inl q)⟩
 refine codeAny_call_function hr.depth (KX _ _ lk) rfl S.co S.gen rfl (PySem.W.codeRec_of KX hcd) (hb _ _ _ _ ?_)
 refine wpAny_newFunctionEnv_cells S.kind w1d fun env he s1 x=>?_
 subst he
 refine⟨lim.keeps x.toInCall.keep,codeAny_func ?_⟩
 obtain⟨t,ht,hq⟩:=R9 A outer s H vs Q E (hr.deeper _) hsp
 have I:Inv (T6 CX P w K mg base N qual scope f cdv A outer s H E) [] (z4g N vs) H s1:=y32 S hr.hd e0 hl r x
 refine wpAny_mono (ht [] s1 (z4g N vs) H _ I hq) (fun fl s' hs=>?_) fun e s' hs=>hs
 have fin:∀{σ':St}{H':Hp}{v:V}{u:Value},Inv (T6 CX P w K mg base N qual scope f cdv A outer s H E) [] σ' H' s'->RelV v u->Q v H'->CE outer P w H s Q u s':=
  fun {σ' H' v u} J rv q=>⟨v,H',J.os,J.bare,J.base,J.hok,rv,q⟩
 cases fl with
 | ret u=>
  obtain⟨v,σ',H',J,rv,q⟩:=hs
  exact fin J rv q
 | next=>
  obtain⟨σ',H',J,q⟩:=hs
  exact fin (v:=V.non) (u:=Value.none) J rfl q
 | brk=>
  obtain⟨_,_,_,q⟩:=hs
  exact False.elim q
 | cont=>
  obtain⟨_,_,_,q⟩:=hs
  exact False.elim q
section
variable{X:Cx}{x:Str}{p pos:Pos}{e:Expr}{es:List Expr}{t:TA}{id T:String}{r:List V->Hp->VK->Prop}
def tCB(r:List V->Hp->VK->Prop)(t:TA):TE:=fun σ H Q=>t σ H fun vs H1=>r vs H1 Q
theorem z0b(hc:z2U X (.builtin id) r)(hg:Gl X x)(hm:X.mg x=none)(hv:bootBuiltins x=some (.builtin id))(ha:PA X (e::es) t)(hn:x≠"__name__":=by decide)(hdb:(x == ("__debug__":Str))=false:=by decide)
  (he:starEach (e::es) X.env=(false,eval e X.env)::starEach es X.env:=by rfl) (hpl:(backTo pos (starEach es X.env)).any (·.1)=false:=by rfl):PE X (.Call (.Name x p) (e::es) [] pos) (tCB r t):=by
 intro pins s σ H Q I h
 refine wpAny_Call_Name_kw (z6G I hg hm hv ?_ hn hdb)
 exact PyProof.Rows.callWith_builtin1 (thn (ha pos pins s σ H _ I h) fun us s1 ⟨vs,H1,I1,r1,q1⟩=>hc pins s1 σ H1 vs us Q I1 r1 q1) he hpl
theorem z0o(hc:z2U X (.type T) r)(hg:Gl X x)(hm:X.mg x=none)(hv:bootBuiltins x=some (.type T))(ha:PA X (e::es) t)(hn:x≠"__name__":=by decide)(hdb:(x == ("__debug__":Str))=false:=by decide)
  (he:starEach (e::es) X.env=(false,eval e X.env)::starEach es X.env:=by rfl) (hpl:(backTo pos (starEach es X.env)).any (·.1)=false:=by rfl):PE X (.Call (.Name x p) (e::es) [] pos) (tCB r t):=by
 intro pins s σ H Q I h
 refine wpAny_Call_Name_kw (z6G I hg hm hv ?_ hn hdb)
 exact eY (thn (ha pos pins s σ H _ I h) fun us s1 ⟨vs,H1,I1,r1,q1⟩=>hc pins s1 σ H1 vs us Q I1 r1 q1) he hpl
end
end L2
namespace HT
open PySem PyProof.Rows
section
open PySem.SeqAt
open PySem.AutoSeq1 (wpAny_loadPart')
open PySem.MeetsSeq PySem.MeetsSeq2 PySem.MeetsSeq3
end
section
variable{prog:Program}{w:World}{A:Around}{E:Value->Shared->Prop}{s:Shared}
theorem y78{t b:Addr}{vs ws:List Value}{Q:Value->Shared->Prop}(ht:IsTup s.heap t vs.toArray)(hb:IsTup s.heap b ws.toArray)(hv:vs≠[])
  (h1:ws=[]->Q (.ref t) s) (h2:ws≠[]->Q (.ref s.heap.objs.size) { s with heap:=s.heap.push { cls:=.type "tuple",data:=.seq (vs++ws).toArray } })
  (hsz:vs.length+ws.length≤sizeLine):wpAny (model prog w) A (binaryOp .Add (.ref t) (.ref b)) Q E s:=by
 obtain⟨⟨cls,dd,data,sl⟩,ho,hc,n,hd⟩:=id ht
 obtain⟨⟨cls2,dd2,data2,sl2⟩,ho2,hc2,n2,hd2⟩:=id hb
 simp only at hc hd hc2 hd2
 subst hc hd hc2 hd2
 have e:vs.toArray++ws.toArray=(vs++ws).toArray:=by simp
 by_cases hw:ws=[]
 ·exact concat_meets ⟨_,ho,rfl⟩ ⟨_,ho2,rfl⟩ noFill_tuple_add seq_tuple_add PySem.F.slot_tuple_add PySem.F.entry_tuple_add (PySem.F.args_tuple_add_2 _ _)
   (tuple_addW1 t b vs.toArray ws.toArray n n2 dd dd2 sl sl2 (by simpa using hv) (by simp[hw])) ⟨ho,ho2,h1 hw⟩
 ·refine concat_meets ⟨_,ho,rfl⟩ ⟨_,ho2,rfl⟩ noFill_tuple_add seq_tuple_add PySem.F.slot_tuple_add PySem.F.entry_tuple_add (PySem.F.args_tuple_add_2 _ _)
   (tuple_addW2 t b vs.toArray ws.toArray n n2 dd dd2 sl sl2 (by simpa using hv) (by simpa using hw) (by rw[bH,bH];exact hsz)) ⟨ho,ho2,?_⟩
  rw[e]
  exact h2 hw
def sIx(n d:Nat):Option Int->Nat
 | none=>d
 | some v=>if v<0 then (v+(n:Int)).toNat else min v.toNat n
theorem y4A(n d k:Nat):sIx n d (some (k:Int))=min k n:=by
 show(if (k:Int)<0 then ((k:Int)+(n:Int)).toNat else min (k:Int).toNat n)=min k n
 rw[if_neg (by omega),dX]
theorem y67(n d:Nat)(hd:d≤n)(o:Option Int):sIx n d o≤n:=by
 cases o with
 | none=>exact hd
 | some v=>
  show(if v<0 then (v+(n:Int)).toNat else min v.toNat n)≤n
  by_cases hv:v<0
  ·rw[if_pos hv];omega
  ·rw[if_neg hv];exact Nat.min_le_right _ _
theorem y3i(v:Int)(n d:Nat):(if v<0 then max (v+(n:Int)) 0 else min v (n:Int))=((sIx n d (some v):Nat):Int):=by
 show(if v<0 then max (v+(n:Int)) 0 else min v (n:Int))=(((if v<0 then (v+(n:Int)).toNat else min v.toNat n):Nat):Int)
 by_cases hv:v<0
 ·simp only[if_pos hv];omega
 ·simp only[if_neg hv];omega
theorem y2i(lo hi:Option Int)(n:Nat):Builtin.Slice.sliceAdjust lo hi 1 (n:Int)=(((sIx n 0 lo:Nat):Int),((sIx n n hi:Nat):Int)):=by
 have h1:¬((1:Int)<0):=by omega
 unfold Builtin.Slice.sliceAdjust
 simp only[h1,if_false]
 refine Prod.ext ?_ ?_
 ·cases lo with
  | none=>rfl
  | some v=>exact y3i v n 0
 ·cases hi with
  | none=>rfl
  | some v=>exact y3i v n n
theorem y2e(i j:Nat):Builtin.Slice.slicePlaces (i:Int) (j:Int) 1=j-i:=by
 unfold Builtin.Slice.slicePlaces
 have h1:(1:Int) > 0:=by omega
 simp only[h1,if_true,Int.ediv_one]
 split<;>omega
theorem z8w{v:Value}{o:Option Int}{Q:Option Int->Shared->Prop}(p:IsPart v o)(h:Q o s):wpAny (model prog w) A (Builtin.Slice.slicePartIndex v) Q E s:=by
 cases p with
 | none=>exact slicePart_none h
 | int i t=>exact slicePart_int h
theorem z3V{sl:Addr}{vl vu:Value}{lo hi:Option Int}{n:Nat}{Q:Int×Int×Nat->Shared->Prop}(hs:s.heap.IsSliceOf sl vl vu .none)(pl:IsPart vl lo)(pu:IsPart vu hi)
  (h:Q (((sIx n 0 lo:Nat):Int),1,sIx n n hi-sIx n 0 lo) s):wpAny (model prog w) A (Builtin.Slice.sliceApplied (.ref sl) (pure (n:Int))) Q E s:=by
 obtain⟨os,hos,hcs,hds⟩:=id hs
 unfold Builtin.Slice.sliceApplied Builtin.Slice.sliceFields
 refine wpAny_bind (wpAny_bind (wpAny_field hos hds (x:=vl) rfl (wpAny_bind (wpAny_field hos hds (x:=vu) rfl (wpAny_bind (wpAny_field hos hds (x:=.none) rfl (wpAny_pure ?_)))))))
 refine wpAny_bind (slicePart_none ?_)
 show wpAny _ _ (if ((1:Int) == 0)=true then _ else _) _ _ s
 rw[if_neg (by decide)]
 refine wpAny_bind (z8w pl (wpAny_bind (z8w pu (wpAny_bind (wpAny_pure ?_)))))
 show wpAny _ _ (match Builtin.Slice.sliceAdjust lo hi 1 (n:Int) with|(lo,hi)=>pure (lo,(1:Int),Builtin.Slice.slicePlaces lo hi 1)) _ _ s
 rw[y2i lo hi n]
 show wpAny _ _ (pure (((sIx n 0 lo:Nat):Int),(1:Int),Builtin.Slice.slicePlaces ((sIx n 0 lo:Nat):Int) ((sIx n n hi:Nat):Int) 1)) _ _ s
 rw[y2e]
 exact wpAny_pure h
theorem y52(xs:Array Value)(i k:Nat):((List.range k).filterMap fun(m:Nat)=>xs[((i:Int)+(m:Int)*1).toNat]?).toArray=((xs.toList.drop i).take k).toArray:=by
 have e:(fun(m:Nat)=>xs[((i:Int)+(m:Int)*1).toNat]?)=fun m=>xs[i+m]? := by
  funext m
  have:((i:Int)+(m:Int)*1).toNat=i+m:=by omega
  rw[this]
 rw[e]
 have:=pick_run xs i k
 rw[List.filterMap_map] at this
 have e2:((fun x=>xs[x]?) ∘ fun x=>i+x)=fun m=>xs[i+m]? := rfl
 rw[e2] at this
 rw[this]
theorem z5R{t sl:Addr}{items:Array Value}{vl vu:Value}{lo hi:Option Int}{Q:Value->Shared->Prop}(ht:IsTup s.heap t items)(hs:s.heap.IsSliceOf sl vl vu .none)(pl:IsPart vl lo)(pu:IsPart vu hi)
  (hw:¬(sIx items.size 0 lo=0/\sIx items.size items.size hi=items.size))
  (h:Q (.ref s.heap.objs.size) { s with heap:=s.heap.push { cls:=.type "tuple",data:=.seq ((items.toList.drop (sIx items.size 0 lo)).take (sIx items.size items.size hi-sIx items.size 0 lo)).toArray } })
  (hsz:items.size≤sizeLine):wpAny (model prog w) A (getItem (.ref t) (.ref sl)) Q E s:=by
 have U9:sizeOk (.seq ((items.toList.drop (sIx items.size 0 lo)).take (sIx items.size items.size hi-sIx items.size 0 lo)).toArray):=by
  show((items.toList.drop (sIx items.size 0 lo)).take (sIx items.size items.size hi-sIx items.size 0 lo)).toArray.size≤sizeLine
  rw[bH,bO,dQ,cJ]
  omega
 have hj:sIx items.size items.size hi≤items.size:=y67 _ _ (bC _) hi
 obtain⟨os,hos,hcs,hds⟩:=id hs
 have hTs:s.TypeIs (.ref sl) "slice":=⟨os,hos,hcs⟩
 unfold getItem
 try with_reducible refine wpAny_holding ?_
 first|refine wpAny_bind (wpAny_pure ?_)|skip
 refine wpAny_bind (wpAny_sequenceKey ht.typeIs (by decide) ?_)
 refine wpAny_bind (wpAny_callSpecial?_slot (name:=Str.ofString "__getitem__") ht.typeIs d8
  (wpAny_call_entry d8 ht.typeIs entry_tuple_getitem ?_ (args_tuple_getitem _ _)))
 show wpAny _ _ (Builtin.Tuple.tupleItemsOf (.ref t) >>= _) _ _ s
 refine wpAny_bind (tupleItemsOf_ ht ?_)
 refine wpAny_bind (wpAny_typeOf hTs ?_)
 rw[if_pos (by decide)]
 refine wpAny_bind (z3V hs pl pu ?_)
 have hno:¬((((sIx items.size 0 lo:Nat):Int) == 0 && (1:Int) == 1 && (sIx items.size items.size hi-sIx items.size 0 lo) == items.size)=true):=by
  intro q
  rw[bS,bS] at q
  have q1:((sIx items.size 0 lo:Nat):Int)=0:=eq_of_beq q.1.1
  have q2:sIx items.size items.size hi-sIx items.size 0 lo=items.size:=eq_of_beq q.2
  exact hw ⟨by omega,by omega⟩
 show wpAny _ _ (if (((sIx items.size 0 lo:Nat):Int) == 0 && (1:Int) == 1 && (sIx items.size items.size hi-sIx items.size 0 lo) == items.size)=true then _ else _) _ _ s
 rw[if_neg hno,y52]
 first
  | exact wpAny_bind (m:=Builtin.Tuple.tupleExact _) (wpAny_newObj_type (wpAny_pure ⟨_,rfl,wpAny_pure h⟩) U9)
  | exact wpAny_bind (m:=Builtin.Tuple.tupleExact _) (wpAny_newObj_type (wpAny_bind (wpAny_pure (wpAny_pure ⟨_,rfl,wpAny_pure h⟩))) U9)
  | exact wpAny_bind (wpAny_bind (m:=Builtin.Tuple.tupleExact _) (wpAny_newObj_type (wpAny_pure (wpAny_pure ⟨_,rfl,wpAny_pure h⟩)) U9))
  | exact wpAny_bind (wpAny_bind (m:=Builtin.Tuple.tupleExact _) (wpAny_newObj_type (wpAny_pure ⟨_,rfl,wpAny_pure h⟩) U9))
end
end HT
namespace L2
open PySem PySem.Spec PyProof.Rows
abbrev TO:=St->Hp->(Option Int->Hp->Prop)->Prop
def PO(X:Cx)(e:Option Expr)(t:TO):Prop:=
 ∀(pins:List (Addr×Obj)) (s:Shared) (σ:St) (H:Hp) (Q:Option Int->Hp->Prop),Inv X pins σ H s->t σ H Q->
  wpAny (model X.prog X.w) X.A (evalPart e X.env) (fun u s'=>∃o H',Inv X pins σ H' s'/\IsPart u o/\Q o H') X.xe s
def y6T:TO:=fun _ H Q=>Q none H
def w0E(t:TE):TO:=fun σ H Q=>t σ H fun x H1=>∃i,x=.int i/\Q (some i) H1
theorem y24{ns:List Int}:∀{us:List Value},Vals (ns.map V.int) us->IntsAre us ns:=by
 induction ns with
 | nil=>intro us r;rw[List.map_nil] at r;cases r;exact .nil
 | cons n ns ih=>
  intro us r
  rw[cG] at r
  cases r with
  | cons r1 r2=>
   obtain⟨t,e⟩:=r1
   subst e
   exact .cons n t (ih r2)
section
variable{X:Cx}{e:Expr}{te:TE}{lo hi:Option Expr}{tl th:TO}{pos p2:Pos}
theorem z4V:PO X none y6T:=by
 intro pins s σ H Q I h
 rw[evalPart_none]
 exact wpAny_pure ⟨none,H,I,.none,h⟩
theorem z54(h:PE X e te):PO X (some e) (w0E te):=by
 intro pins s σ H Q I hw
 rw[evalPart_some]
 refine thn (h pins s σ H _ I hw) fun u s1 hz=>?_
 obtain⟨x,H1,I1,r1,q1⟩:=hz
 obtain⟨i,rfl,q⟩:=q1
 obtain⟨t,rfl⟩:=r1
 exact⟨some i,H1,I1,.int i t,q⟩
def SlR(X:Cx)(r:V->Option Int->Option Int->Hp->VK->Prop):Prop:=
 ∀(pins:List (Addr×Obj)) (s:Shared) (σ:St) (H:Hp) (x:V) (v vl vu:Value) (lo hi:Option Int) (sl:Addr) (Q:VK),Inv X pins σ H s->RelV x v->s.heap.IsSliceOf sl vl vu .none->IsPart vl lo->IsPart vu hi->r x lo hi H Q->
  ∃T id,typeLookup (.type T) "__getitem__"=pure (some (.builtin id))/\s.TypeIs v T/\wpAny (model X.prog X.w) X.A (getItem v (.ref sl)) (EP X pins σ Q) X.xe s
def tSl(r:V->Option Int->Option Int->Hp->VK->Prop)(te:TE)(tl th:TO):TE:=fun σ H Q=>te σ H fun x H1=>tl σ H1 fun l H2=>th σ H2 fun u H3=>r x l u H3 Q
theorem z3N{r:V->Option Int->Option Int->Hp->VK->Prop}(hr:SlR X r)(he:PE X e te)(hl:PO X lo tl)(hu:PO X hi th):PE X (.Subscript e (.Slice lo hi none p2) pos) (tSl r te tl th):=by
 intro pins s σ H Q I h
 refine Subscript_ (thn (he pins s σ H _ I h) fun v s1 hz=>?_)
 obtain⟨x,H1,I1,r1,q1⟩:=hz
 refine wpAny_Slice (thn (hl pins s1 σ H1 _ I1 q1) fun vl s2 ⟨l,H2,I2,pl,q2⟩=>thn (hu pins s2 σ H2 _ I2 q2) fun vu s3 hz=>?_)
 obtain⟨u,H3,I3,pu,q3⟩:=hz
 rw[evalPart_none]
 refine wpAny_pure ?_
 have I4:Inv X pins σ H3 { s3 with heap:=s3.heap.push { cls:=.type "slice",data:=.fields #[vl,vu,.none] } }:=I3.kept (t':=s3.toks) fun b ob q=>b9 _ q
 obtain⟨T,id,hT,ht,hg⟩:=hr pins { s3 with heap:=s3.heap.push { cls:=.type "slice",data:=.fields #[vl,vu,.none] } } σ H3 x v vl vu l u s3.heap.objs.size Q I4 r1 (Heap.IsSliceOf.new ..) pl pu q3
 show wpAny (model X.prog X.w) X.A (subscriptTail e (.Slice lo hi none p2) v (.ref s3.heap.objs.size)) (EP X pins σ Q) X.xe { s3 with heap:=s3.heap.push { cls:=.type "slice",data:=.fields #[vl,vu,.none] } }
 exact tail_any (ops:=[.ref s3.heap.objs.size,v]) ht hT hg (by with_unfolding_all rfl)
def M1(xs:List V)(lo hi:Option Int):List V:=(xs.drop (HT.sIx xs.length 0 lo)).take (HT.sIx xs.length xs.length hi-HT.sIx xs.length 0 lo)
theorem z7h(xs:List V)(lo hi:Option Int):(M1 xs lo hi).length≤xs.length:=by
 unfold M1
 rw[bO,dQ]
 omega
def rSlT(K:PySem.W.Frag):V->Option Int->Option Int->Hp->VK->Prop:=fun x lo hi H Q=>∃a xs,x=.ref a/\SqT K H a xs/\
 ¬(HT.sIx xs.length 0 lo=0/\HT.sIx xs.length xs.length hi=xs.length)/\∀p,H p=none->Q (.ref p) (upd H p (.tup (M1 xs lo hi)))
theorem y64:SlR X (rSlT X.K):=by
 intro pins s σ H x v vl vu lo hi sl Q I rx hs pl pu h
 obtain⟨a,xs,rfl,hx,hw,q⟩:=h
 cases rx
 obtain⟨its,r,ht,hz⟩:=I.tuple hx
 have hlen:its.toArray.size=xs.length:=by rw[bH];exact r.length.symm
 refine⟨"tuple",_,d8.lookup,ht.typeIs,?_⟩
 refine HT.z5R ht hs pl pu (by rw[hlen];exact hw) ?_ (by rw[hlen];exact hz)
 rw[hlen]
 refine⟨.ref s.heap.objs.size,_,I.laid (t':=s.toks) (o:=.tup (M1 xs lo hi)) (fun b ob q=>b9 _ q) (bC _) ?_,rfl,q _ (I.hok.fresh (bC _))⟩
 exact⟨cO (z7h xs lo hi) hz,_,(r.drop (HT.sIx xs.length 0 lo)).take (HT.sIx xs.length xs.length hi-HT.sIx xs.length 0 lo),PlT.new _ _⟩
def y7D(K:PySem.W.Frag):R2:=fun x y H Q=>∃a b xs ys,x=.ref a/\y=.ref b/\SqT K H a xs/\SqT K H b ys/\xs≠[]/\xs.length+ys.length≤sizeLine/\
 (ys=[]->Q (.ref a) H)/\(ys≠[]->∀p,H p=none->Q (.ref p) (upd H p (.tup (xs++ys))))
theorem Vals.R3{xs:List V}{us:List Value}(r:Vals xs us):us=[]↔xs=[]:=by
 cases r with
 | nil=>simp
 | cons _ _=>simp
theorem y6N:OpR X (binaryOp .Add) (y7D X.K):=by
 intro pins s σ H x y v u Q I rx ry h
 obtain⟨a,b,xs,ys,rfl,rfl,ha,hb,hx,hz,q1,q2⟩:=h
 cases rx
 cases ry
 obtain⟨its,r1,p1,_⟩:=I.tuple ha
 obtain⟨K8,r2,p2,_⟩:=I.tuple hb
 refine HT.y78 p1 p2 (fun z=>hx (r1.R3.mp z)) (fun z=>⟨.ref a,H,I,rfl,q1 (r2.R3.mp z)⟩) (fun z=>?_) (by rw[<- r1.length,<- r2.length];exact hz)
 refine⟨.ref s.heap.objs.size,_,I.laid (t':=s.toks) (o:=.tup (xs++ys)) (fun b ob q=>b9 _ q) (bC _) ?_,rfl,q2 (fun w=>z (r2.R3.mpr w)) _ (I.hok.fresh (bC _))⟩
 exact⟨by rw[bN];exact hz,_,r1.append r2,PlT.new _ _⟩
end
def ixN(n:Nat)(i:Int):Option Nat:=if 0≤i then (if i<n then some i.toNat else none) else if -(n:Int)≤i then some (i+n).toNat else none
def atI{α:Type}(xs:List α)(i:Int):Option α:=(ixN xs.length i).bind fun j=>xs[j]?
theorem y2T{n:Nat}{i:Int}{j:Nat}(h:ixN n i=some j):seqIndex? i n=some j/\j<n/\-(n:Int)≤i/\i<n:=by
 unfold ixN at h
 by_cases h0:0≤i
 ·rw[if_pos h0] at h
  by_cases h1:i<n
  ·rw[if_pos h1] at h
   have e:i.toNat=j:=Option.some.inj h
   exact⟨by rw[seqIndex_of h0 h1,e],by omega,by omega,h1⟩
  ·rw[if_neg h1] at h;cases h
 ·rw[if_neg h0] at h
  by_cases h1:-(n:Int)≤i
  ·rw[if_pos h1] at h
   have e:(i+n).toNat=j:=Option.some.inj h
   exact⟨by rw[seqIndex_neg (by omega) h1,e],by omega,h1,by omega⟩
  ·rw[if_neg h1] at h;cases h
theorem y0x{α:Type}{xs:List α}{i:Int}{v:α}(h:atI xs i=some v):∃j,seqIndex? i xs.length=some j/\xs[j]? = some v/\j<xs.length/\-(xs.length:Int)≤i/\i<xs.length:=by
 unfold atI at h
 cases e:ixN xs.length i with
 | none=>rw[e] at h;cases h
 | some j=>
  rw[e] at h
  obtain⟨h1,h2,h3,h4⟩:=y2T e
  exact⟨j,h1,h,h2,h3,h4⟩
theorem z11{α:Type}{xs:List α}{j:Nat}{v:α}(h:xs[j]? = some v):atI xs (j:Int)=some v:=by
 have hj:j<xs.length:=(cD.mp h).1
 have e:ixN xs.length (j:Int)=some j:=by
  unfold ixN
  rw[if_pos (by omega),if_pos (by omega)];simp
 unfold atI;rw[e];exact h
theorem y5F{α:Type}(xs:List α)(v:α):atI (xs++[v]) (-1)=some v:=by
 have hl:(xs++[v]).length=xs.length+1:=by simp
 have e:ixN (xs++[v]).length (-1)=some xs.length:=by
  unfold ixN
  rw[hl,if_neg (by decide),if_pos (by omega)]
  congr 1
  omega
 unfold atI
 rw[e]
 show(xs++[v])[xs.length]? = some v
 simp
def y7f(b:Expr):Prop:=∀o i,subscripted b false o i=operate [o,i] (getItem o i)
def IxR(X:Cx)(r:R2):Prop:=
 ∀(value slice:Expr) (pins:List (Addr×Obj)) (s:Shared) (σ:St) (H:Hp) (x y:V) (v u:Value) (Q:VK),Inv X pins σ H s->RelV x v->RelV y u->r x y H Q->
  subscripted slice false v u=operate [v,u] (getItem v u)->wpAny (model X.prog X.w) X.A (subscriptTail value slice v u) (EP X pins σ Q) X.xe s
def MtR(X:Cx)(id:String)(r:V->List V->Hp->VK->Prop):Prop:=
 ∀(pins:List (Addr×Obj)) (s:Shared) (σ:St) (H:Hp) (x:V) (xs:List V) (v:Value) (us:List Value) (Q:VK),Inv X pins σ H s->RelV x v->Vals xs us->r x xs H Q->
  wpAny (model X.prog X.w) X.A (call (.builtin id) (v::us)) (EP X pins σ Q) X.xe s
section
variable{X:Cx}{a b:Expr}{ta tb:TE}{pos:Pos}
theorem IxR.or{r r':R2}(h:IxR X r)(h':IxR X r'):IxR X (fun x y H Q=>r x y H Q\/r' x y H Q):=by
 intro value slice pins s σ H x y v u Q I rx ry q hs
 rcases q with q|q
 ·exact h value slice pins s σ H x y v u Q I rx ry q hs
 ·exact h' value slice pins s σ H x y v u Q I rx ry q hs
theorem z0K{r:R2}(hr:IxR X r)(ha:PE X a ta)(hb:PE X b tb)(hs:y7f b):PE X (.Subscript a b pos) (tOp r ta tb):=by
 intro pins s σ H Q I h
 exact Subscript_ (Z7 ha hb I h fun v u s2 x y H2 I2 rx ry q=>hr a b pins s2 σ H2 x y v u Q I2 rx ry q (hs _ _))
def W0(K:PySem.W.Frag):R2:=fun x y H Q=>∃p xs i v,x=.ref p/\y=.int i/\SqL K H p xs/\atI xs i=some v/\Q v H
def N5(K:PySem.W.Frag):R2:=fun x y H Q=>∃p xs i v,x=.ref p/\y=.int i/\SqT K H p xs/\atI xs i=some v/\Q v H
def rIxS:R2:=fun x y H Q=>∃z i c,x=.str z/\y=.int i/\z.length≤sizeLine/\atI z.cps.toList i=some c/\Q (.str ⟨#[c]⟩) H
theorem z0R:IxR X (W0 X.K):=by
 intro value slice pins s σ H x y v u Q I rx ry h hs
 obtain⟨p,xs,i,z,rfl,rfl,hq,he,q⟩:=h
 cases rx
 obtain⟨t,rfl⟩:=ry
 obtain⟨its,r,pl,hz⟩:=I.list hq
 obtain⟨j,h1,h2,h3,h4,h5⟩:=y0x he
 obtain⟨w,ew,rw'⟩:=r.get h2
 have hl:=r.length
 have hn:=z5A
 have fin:EP X pins σ Q w s:=⟨z,H,I,rw',q⟩
 by_cases h0:0≤i
 ·have hj:i.toNat=j:=by
   rw[seqIndex_of h0 h5] at h1
   exact Option.some.inj h1
  exact item_listR pl.isList h0 (by omega) (by rw[hj];simpa using ew) fin hs
 ·have hj:(i+(its.toArray.size:Int)).toNat=j:=by
   rw[seqIndex_neg (by omega) h4] at h1
   rw[bH,<- hl]
   exact Option.some.inj h1
  exact subscriptTail_builtinR (x:=w) pl.isList.typeIs slot_list_getitem.lookup
   (wpAny_getItem_list_neg (Q:=fun r s'=>r=w/\EP X pins σ Q r s') pl.isList (by omega) (by rw[bH]<;>omega) (by omega) (by rw[hj];simpa using ew) ⟨rfl,fin⟩) hs
theorem z0U:IxR X (N5 X.K):=by
 intro value slice pins s σ H x y v u Q I rx ry h hs
 obtain⟨p,xs,i,z,rfl,rfl,hq,he,q⟩:=h
 cases rx
 obtain⟨t,rfl⟩:=ry
 obtain⟨its,r,pl,hz⟩:=I.tuple hq
 obtain⟨j,h1,h2,h3,h4,h5⟩:=y0x he
 obtain⟨w,ew,rw'⟩:=r.get h2
 have hl:=r.length
 have hn:=z5A
 have fin:EP X pins σ Q w s:=⟨z,H,I,rw',q⟩
 exact subscriptTail_builtinR (x:=w) pl.typeIs slot_tuple_getitem.lookup
  (getItem_tuple (j:=j) (Q:=fun r s'=>r=w/\EP X pins σ Q r s') pl (by omega) (by omega) (by rw[bH,<- hl];exact h1) (by simpa using ew) ⟨rfl,fin⟩) hs
theorem y2x:IxR X rIxS:=by
 intro value slice pins s σ H x y v u Q I rx ry h hs
 obtain⟨z,i,c,rfl,rfl,hz,he,q⟩:=h
 obtain⟨t,rfl⟩:=rx
 obtain⟨t',rfl⟩:=ry
 obtain⟨j,h1,h2,h3,h4,h5⟩:=y0x he
 have hl:z.cps.toList.length=z.length:=by simp[Str.length]
 rw[hl] at h1 h4 h5
 have hn:=z5A
 exact tail_any (typeIs_str s z t) slot_str_getitem.lookup (getItem_str (c:=c) (by
  have e1:decide (i < -(2^63:Int))=false:=decide_eq_false (by omega)
  have e2:decide (i≥2^63)=false:=decide_eq_false (by omega)
  rw[e1,e2,Bool.or_false]) (by rw[h1];simpa using h2) ⟨.str ⟨#[c]⟩,H,I.tok _,⟨_,rfl⟩,q⟩) hs
def rIx(K:PySem.W.Frag):R2:=fun x y H Q=>W0 K x y H Q\/N5 K x y H Q\/rIxS x y H Q
theorem y7g:IxR X (rIx X.K):=z0R.or (z0U.or y2x)
theorem y21(its:List Value)(n j:Nat)(u:Value):Obj.mapSeq (·.setIfInBounds j u) { cls:=.type "list",data:=.seq its.toArray n }={ cls:=.type "list",data:=.seq (its.set j u).toArray n }:=by
 simp[Obj.mapSeq]
theorem Inv.lst{pins:List (Addr×Obj)}{σ:St}{H:Hp}{s:Shared}{p:Addr}{xs:List V}(I:Inv X pins σ H s)(h:H p=some (.lst xs)) :
  ∃(its:List Value) (n:Nat),Vals xs its/\s.heap.get? p=some { cls:=.type "list",data:=.seq its.toArray n }/\xs.length≤sizeLine:=by
 obtain⟨z,its,n,r,e⟩:=I.hok p _ h
 exact⟨its,n,r,e,z⟩
theorem Inv.w07{pins:List (Addr×Obj)}{σ:St}{H:Hp}{s:Shared}{p:Addr}{xs ys:List V}{its its':List Value}{n n':Nat}{f:Obj->Obj}(I:Inv X pins σ H s)(h:H p=some (.lst xs))
  (ho:s.heap.get? p=some { cls:=.type "list",data:=.seq its.toArray n }) (hf:f { cls:=.type "list",data:=.seq its.toArray n }={ cls:=.type "list",data:=.seq its'.toArray n' }) (r:Vals ys its') (hz:ys.length≤sizeLine) (t:Nat) :
  Inv X pins σ (upd H p (.lst ys)) { s with heap:=s.heap.update p f,toks:=t }:=by
 have e:(s.heap.update p f).get? p=some { cls:=.type "list",data:=.seq its'.toArray n' }:=by
  rw[cW f ho (by rw[hf]<;>rfl),hf]
 refine I.write (x:=p) (e:=p) (by rw[h];trivial) (.inl rfl) (fun b u hb q=>(cI _ _ (d6 hb)).trans q) ⟨_,e⟩ ?_
 exact⟨hz,its',n',r,e⟩
def w1a:V->V->V->Hp->(Hp->Prop)->Prop:=fun o i v H Q=>∃p xs k j,o=.ref p/\i=.int k/\H p=some (.lst xs)/\ixN xs.length k=some j/\Q (upd H p (.lst (xs.set j v)))
theorem y14:PSet X w1a:=by
 intro pins s σ H o i v ov iv u Q I ro ri rv h
 obtain⟨p,xs,k,j,rfl,rfl,hp,hj,q⟩:=h
 cases ro
 obtain⟨t,rfl⟩:=ri
 obtain⟨its,n,r,ho,hz⟩:=I.lst hp
 obtain⟨h1,h2,h3,h4⟩:=y2T hj
 have hl:=r.length
 have hn:=z5A
 have I':Inv X pins σ (upd H p (.lst (xs.set j v))) { s with heap:=s.heap.update p (Obj.mapSeq (·.setIfInBounds j u)) }:=
  I.w07 hp ho (y21 its n j u) (r.set rv j) (by rw[List.length_set];exact hz) s.toks
 by_cases h0:0≤k
 ·have hk:k.toNat=j:=by
   rw[seqIndex_of h0 h4] at h1
   exact Option.some.inj h1
  exact PySem.W.ki_setAt ho h0 (by omega) (by rw[bH,<- hl];exact h4) (by rw[hk];exact⟨_,I',q⟩)
 ·have hk:(k+(its.toArray.size:Int)).toNat=j:=by
   rw[seqIndex_neg (by omega) h3] at h1
   rw[bH,<- hl]
   exact Option.some.inj h1
  exact PySem.W.ki_setBack ho (by omega) (by rw[bH,<- hl];exact h3) (by omega) (by rw[hk];exact⟨_,I',q⟩)
theorem z6E(lo hi:Option Int)(n:Nat):(sliceBounds lo hi none n).1=((HT.sIx n 0 lo:Nat):Int)/\(sliceBounds lo hi none n).2.1=((HT.sIx n n hi:Nat):Int)/\(sliceBounds lo hi none n).2.2=1:=by
 refine⟨?_,?_,rfl⟩
 ·cases lo with
  | none=>simp[sliceBounds,HT.sIx]
  | some i=>
   simp only[sliceBounds,HT.sIx,Option.getD_none,show(1:Int) > 0 by decide,if_true]
   by_cases h:i<0
   ·simp only[h,if_true]<;>omega
   ·simp only[h,if_false]<;>omega
 ·cases hi with
  | none=>simp[sliceBounds,HT.sIx]
  | some i=>
   simp only[sliceBounds,HT.sIx,Option.getD_none,show(1:Int) > 0 by decide,if_true]
   by_cases h:i<0
   ·simp only[h,if_true]<;>omega
   ·simp only[h,if_false]<;>omega
theorem z9l(its:List Value)(lo hi:Option Int):slicePick its.toArray lo hi none=((its.drop (HT.sIx its.length 0 lo)).take (HT.sIx its.length its.length hi-HT.sIx its.length 0 lo)).toArray:=by
 obtain⟨h1,h2,h3⟩:=z6E lo hi its.toArray.size
 unfold slicePick
 rw[h1,h2,h3]
 simp only[sliceRange_one,pick_run,bH]<;>rfl
def rSlL(K:PySem.W.Frag):V->Option Int->Option Int->Hp->VK->Prop:=fun x lo hi H Q=>∃a xs,x=.ref a/\SqL K H a xs/\∀p,H p=none->Q (.ref p) (upd H p (.lst (M1 xs lo hi)))
theorem y0I:SlR X (rSlL X.K):=by
 intro pins s σ H x v vl vu lo hi sl Q I rx hs pl pu h
 obtain⟨a,xs,rfl,hx,q⟩:=h
 cases rx
 obtain⟨its,r,ht,hz⟩:=I.list hx
 have hlen:=r.length
 refine⟨"list",_,slot_list_getitem.lookup,ht.isList.typeIs,?_⟩
 refine wpAny_getItem_list_slice ht.isList hs pl pu .none (by simp) ?_ (by rw[bH]<;>omega)
 rw[z9l,<- hlen]
 refine⟨.ref s.heap.objs.size,_,I.laid (t':=s.toks) (o:=.lst (M1 xs lo hi)) (fun b ob q=>b9 _ q) (bC _) ?_,rfl,q _ (I.hok.fresh (bC _))⟩
 exact⟨cO (z7h xs lo hi) hz,_,0,(r.drop (HT.sIx xs.length 0 lo)).take (HT.sIx xs.length xs.length hi-HT.sIx xs.length 0 lo),bF _ rfl⟩
def z21:V->Bool
 | .non=>true
 | .bl _=>true
 | .int _=>true
 | .str _=>true
 | _=>false
def eqV:V->V->Bool
 | .non,.non=>true
 | .bl a,.bl b=>a == b
 | .bl a,.int b=>(if a then 1 else 0) == b
 | .int a,.bl b=>a == (if b then 1 else 0)
 | .int a,.int b=>a == b
 | .str a,.str b=>a == b
 | _,_=>false
theorem y6c{A:Around}{s:Shared}{y x:V}{u v:Value}(ry:RelV y u)(rx:RelV x v)(fy:z21 y=true)(fx:z21 x=true):SeqAt.EqAt A s u v (eqV y x):=by
 cases y with
 | non=>
  cases ry
  cases x with
  | non=>cases rx;exact SeqAt.EqAt.same _
  | bl b=>cases rx;exact SeqAt.EqAt.none_bool b
  | int b=>obtain⟨t,rfl⟩:=rx;exact SeqAt.EqAt.none_int b t
  | str b=>obtain⟨t,rfl⟩:=rx;exact SeqAt.EqAt.none_str b t
  | _=>exact absurd (show false=true from fx) bI
 | bl a=>
  cases ry
  cases x with
  | non=>cases rx;exact SeqAt.EqAt.bool_none a
  | bl b=>cases rx;exact SeqAt.EqAt.bool_bool a b
  | int b=>obtain⟨t,rfl⟩:=rx;exact SeqAt.EqAt.bool_int a b t
  | str b=>obtain⟨t,rfl⟩:=rx;exact SeqAt.EqAt.bool_str a b t
  | _=>exact absurd (show false=true from fx) bI
 | int a=>
  obtain⟨t',rfl⟩:=ry
  cases x with
  | non=>cases rx;exact SeqAt.EqAt.int_none a t'
  | bl b=>cases rx;exact SeqAt.EqAt.int_bool a t' b
  | int b=>obtain⟨t,rfl⟩:=rx;exact SeqAt.EqAt.int_int a t' b t
  | str b=>obtain⟨t,rfl⟩:=rx;exact SeqAt.EqAt.int_str a t' b t
  | _=>exact absurd (show false=true from fx) bI
 | str a=>
  obtain⟨t',rfl⟩:=ry
  cases x with
  | non=>cases rx;exact SeqAt.EqAt.str_none a t'
  | bl b=>cases rx;exact SeqAt.EqAt.str_bool a t' b
  | int b=>obtain⟨t,rfl⟩:=rx;exact SeqAt.EqAt.str_int a t' b t
  | str b=>obtain⟨t,rfl⟩:=rx;exact SeqAt.EqAt.str_str a t' b t
  | _=>exact absurd (show false=true from fx) bI
 | _=>exact absurd (show false=true from fy) bI
def eqU(x:V)(u:Value):Bool:=match u with
 | .none=>eqV .non x
 | .bool b=>eqV (.bl b) x
 | .int i _=>eqV (.int i) x
 | .str z _=>eqV (.str z) x
 | _=>false
theorem y4n{x y:V}{u:Value}(r:RelV y u)(f:z21 y=true):eqU x u=eqV y x:=by
 cases y with
 | non=>cases r;rfl
 | bl b=>cases r;rfl
 | int i=>obtain⟨t,rfl⟩:=r;rfl
 | str z=>obtain⟨t,rfl⟩:=r;rfl
 | _=>exact absurd (show false=true from f) bI
theorem z7l{x:V}:∀{xs:List V}{us:List Value},Vals xs us->xs.all z21=true->us.any (eqU x)=xs.any fun y=>eqV y x
 | _,_,.nil,_=>rfl
 | y::xs,u::us,.cons r t,f=>by
  rw[fO,bS] at f
  rw[fP,fP,y4n r f.1,z7l t f.2]
theorem z5t{A:Around}{s:Shared}{x:V}{v:Value}(rx:RelV x v)(fx:z21 x=true):∀{xs:List V}{us:List Value},Vals xs us->xs.all z21=true->∀u∈us,SeqAt.EqAt A s u v (eqU x u)
 | _,_,.nil,_=>fun u hu=>by cases hu
 | y::xs,u::us,.cons r t,f=>fun u' hu=>by
  rw[fO,bS] at f
  rcases bB.mp hu with rfl|hu
  ·rw[y4n r f.1];exact y6c r rx f.1 fx
  ·exact z5t rx fx t f.2 u' hu
def inV(x:V)(xs:List V):Bool:=xs.any fun y=>eqV y x
def rIn(K:PySem.W.Frag)(neg:Bool):R2:=fun x y H Q=>∃p xs,y=.ref p/\(SqL K H p xs\/SqT K H p xs)/\z21 x=true/\xs.all z21=true/\Q (.bl (if neg then !inV x xs else inV x xs)) H
theorem z49:OpR X (compareOp .In) (rIn X.K false):=by
 intro pins s σ H x y v u Q I rx ry h
 obtain⟨p,xs,rfl,hq,fx,fs,q⟩:=h
 cases ry
 rcases hq with hq|hq
 ·obtain⟨its,r,pl,hz⟩:=I.list hq
  refine SeqAt.in_listAt (eqU x) pl.isList (fun w hw=>z5t rx fx r fs w (by simpa using hw)) ⟨.bl _,H,I,rfl,?_⟩
  rw[show its.toArray.any (eqU x)=its.any (eqU x) by simp,z7l r fs]
  exact q
 ·obtain⟨its,r,pl,hz⟩:=I.tuple hq
  refine SeqAt.in_tupleAt (eqU x) pl (fun w hw=>z5t rx fx r fs w (by simpa using hw)) ⟨.bl _,H,I,rfl,?_⟩
  rw[show its.toArray.any (eqU x)=its.any (eqU x) by simp,z7l r fs]
  exact q
theorem z1k:OpR X (compareOp .NotIn) (rIn X.K true):=by
 intro pins s σ H x y v u Q I rx ry h
 obtain⟨p,xs,rfl,hq,fx,fs,q⟩:=h
 cases ry
 rcases hq with hq|hq
 ·obtain⟨its,r,pl,hz⟩:=I.list hq
  refine SeqAt.notIn_listAt (eqU x) pl.isList (fun w hw=>z5t rx fx r fs w (by simpa using hw)) ⟨.bl _,H,I,rfl,?_⟩
  rw[show its.toArray.any (eqU x)=its.any (eqU x) by simp,z7l r fs]
  exact q
 ·obtain⟨its,r,pl,hz⟩:=I.tuple hq
  refine SeqAt.notIn_tupleAt (eqU x) pl (fun w hw=>z5t rx fx r fs w (by simpa using hw)) ⟨.bl _,H,I,rfl,?_⟩
  rw[show its.toArray.any (eqU x)=its.any (eqU x) by simp,z7l r fs]
  exact q
theorem z0a:z2U X (.builtin "len") (fun xs H Q=>∃p ys,xs=[.ref p]/\(SqL X.K H p ys\/SqT X.K H p ys)/\Q (.int ys.length) H):=by
 intro pins s σ H xs us Q I r h
 obtain⟨p,ys,rfl,hq,q⟩:=h
 obtain⟨u,rfl,rx⟩:=z34 r
 cases rx
 have hn:=z5A
 rcases hq with hq|hq
 ·obtain⟨its,r',pl,hz⟩:=I.list hq
  have hlen:=r'.length
  exact Calls.call_len_list pl.isList (by simp only[bH]<;>omega) ⟨.int ys.length,H,I.tok _,⟨s.toks+1,by rw[bH,hlen]⟩,q⟩
 ·obtain⟨its,r',pl,hz⟩:=I.tuple hq
  have hlen:=r'.length
  exact len_tuple pl (by simp only[bH]<;>omega) ⟨.int ys.length,H,I.tok _,⟨s.toks+1,by rw[bH,hlen]⟩,q⟩
theorem y01:z2U X (.builtin "len") (fun xs H Q=>∃z,xs=[.str z]/\z.length≤sizeLine/\Q (.int z.length) H):=by
 intro pins s σ H xs us Q I r h
 obtain⟨z,rfl,hz,q⟩:=h
 obtain⟨u,rfl,t,rfl⟩:=z34 r
 have hn:=z5A
 exact len_str (by omega) ⟨.int z.length,H,I.tok _,⟨_,rfl⟩,q⟩
theorem z1v:z2U X (.type "list") (fun xs H Q=>∃p ys,xs=[.ref p]/\(SqL X.K H p ys\/SqT X.K H p ys)/\∀l,H l=none->Q (.ref l) (upd H l (.lst ys))):=by
 intro pins s σ H xs us Q I r h
 obtain⟨p,ys,rfl,hq,q⟩:=h
 obtain⟨u,rfl,rx⟩:=z34 r
 cases rx
 have fin:∀(its:List Value),Vals ys its->ys.length≤sizeLine->∀(h':Heap) (c':Nat),(∀b o',s.heap.get? b=some o'->h'.get? b=some o')->
   h'.get? s.heap.objs.size=some { cls:=.type "list",dict:=none,data:=.seq its.toArray c',slots:=#[] }->EP X pins σ Q (.ref s.heap.objs.size) { s with heap:=h' }:=fun its r' hz h' c' kp e=>
  ⟨.ref s.heap.objs.size,_,I.laid (t':=s.toks) kp (bC _) (show z15 X.prog X.w _ h' _ (.lst ys) from⟨hz,its,c',r',e⟩),rfl,q _ (I.hok.fresh (bC _))⟩
 rcases hq with hq|hq
 ·obtain⟨its,r',pl,hz⟩:=I.list hq
  have hlen:=r'.length
  obtain⟨o,ho,hc,n,hd⟩:=pl.isList
  exact call_list_seq p (.inl rfl) ho hc hd (fun h' c' kp e=>fin its r' hz h' c' kp e) (by simp only[bH]<;>omega)
 ·obtain⟨its,r',pl,hz⟩:=I.tuple hq
  have hlen:=r'.length
  obtain⟨o,ho,hc,n,hd⟩:=pl
  exact call_list_seq p (.inr rfl) ho hc hd (fun h' c' kp e=>fin its r' hz h' c' kp e) (by simp only[bH]<;>omega)
theorem z0t:z2U X (.type "tuple") (fun xs H Q=>∃p ys,xs=[.ref p]/\((SqL X.K H p ys/\∀l,H l=none->Q (.ref l) (upd H l (.tup ys)))\/(SqT X.K H p ys/\Q (.ref p) H))):=by
 intro pins s σ H xs us Q I r h
 obtain⟨p,ys,rfl,h⟩:=h
 obtain⟨u,rfl,rx⟩:=z34 r
 cases rx
 rcases h with ⟨hq,q⟩|⟨hq,q⟩
 ·obtain⟨its,r',pl,hz⟩:=I.list hq
  have hlen:=r'.length
  refine call_tuple_list pl.isList (fun h' kp=>?_) (by simp only[bH]<;>omega)
  have I1:Inv X pins σ H { s with heap:=h' }:=I.kept (t':=s.toks) kp
  have I2:Inv X pins σ (upd H h'.objs.size (.tup ys)) { s with heap:=h'.push { cls:=.type "tuple",data:=.seq its.toArray } }:=
   I1.laid (t':=s.toks) (fun b o e=>b9 _ e) (bC _) (show z15 X.prog X.w _ _ _ (.tup ys) from⟨hz,its,r',PlT.new _ _⟩)
  exact⟨.ref h'.objs.size,_,I2,rfl,q _ (I1.hok.fresh (bC _))⟩
 ·obtain⟨its,r',pl,hz⟩:=I.tuple hq
  exact call_tuple_same pl ⟨.ref p,H,I,rfl,q⟩
def tyV(K:PySem.W.Frag)(T:String)(x:V)(H:Hp):Prop:=match x with
 | .str _=>T="str"
 | .int _=>T="int"
 | .ref p=>(T="list"/\∃xs,SqL K H p xs)\/(T="tuple"/\∃o,K.lookup p=some o/\o.cls=.type "tuple"/\o.dict=none)\/
   (T="dict"/\((∃kvs,H p=some (.dK kvs))\/∃kvs,H p=some (.dT kvs)))\/(T="set"/\∃S n,H p=some (.set S n))
 | _=>False
theorem y7p{pins:List (Addr×Obj)}{σ:St}{H:Hp}{s:Shared}{T:String}{x:V}{v:Value}(I:Inv X pins σ H s)(r:RelV x v)(ty:tyV X.K T x H) :
  s.TypeIs v T/\∀a,v=.ref a->∃ob,s.heap.get? a=some ob/\ob.dict=none:=by
 cases x with
 | str z=>
  obtain⟨t,rfl⟩:=r
  cases (show T="str" from ty)
  exact⟨typeIs_str s z t,fun _ e=>nomatch e⟩
 | int i=>
  obtain⟨t,rfl⟩:=r
  cases (show T="int" from ty)
  exact⟨typeIs_int s i t,fun _ e=>nomatch e⟩
 | ref p=>
  cases r
  rcases ty with ⟨rfl,xs,hq⟩|⟨rfl,o,hk,hc,hd⟩|⟨rfl,hk⟩|⟨rfl,S,n,hk⟩
  ·obtain⟨its,_,pl,_⟩:=I.list hq
   refine⟨pl.isList.typeIs,fun a e=>?_⟩
   cases e
   obtain⟨o,n,e,c,hd,_⟩:=pl
   exact⟨o,e,hd⟩
  ·refine⟨⟨o,I.kIn p o hk,hc⟩,fun a e=>?_⟩
   cases e
   exact⟨o,I.kIn _ o hk,hd⟩
  ·have z:∃o,s.heap.get? p=some o/\o.ExactDict:=by
    rcases hk with ⟨kvs,hk⟩|⟨kvs,hk⟩
    ·obtain⟨_,_,_,_,o,_,_,e,ex,_⟩:=I.hok p _ hk
     exact⟨o,e,ex⟩
    ·obtain⟨_,_,_,_,o,_,_,e,ex,_⟩:=I.hok p _ hk
     exact⟨o,e,ex⟩
   obtain⟨o,e,ex⟩:=z
   refine⟨⟨o,e,ex.1⟩,fun a e2=>?_⟩
   cases e2
   exact⟨o,e,ex.2.1⟩
  ·obtain⟨o,_,_,_,e,ex,_⟩:=I.hok p _ hk
   refine⟨⟨o,e,ex.1⟩,fun a e2=>?_⟩
   cases e2
   exact⟨o,e,ex.2.1⟩
 | _=>exact False.elim ty
def tBM(K:PySem.W.Frag)(T:String)(r:V->List V->Hp->VK->Prop)(to:TE)(t:TA):TE:=fun σ H Q=>to σ H fun x H1=>tyV K T x H1/\t σ H1 fun xs H2=>r x xs H2 Q
variable{o e:Expr}{es:List Expr}{to:TE}{t:TA}{name:Str}{apos S9:Pos}{T id:String}{r:V->List V->Hp->VK->Prop}
theorem z36(pa:PlainAttrs T)(slot:Slot T name id)(hty:typeOf (.builtin id)=pure (.type "method_descriptor"))(hm:MtR X id r)(ho:PE X o to)(ha:PA X (e::es) t)
  (w0C:attributeBase o name X.env (eval o X.env)=eval o X.env:=by rfl)
  (hfew:((backTo S9 (starEach (e::es) X.env)).all (fun x=>!x.1) && (backToKw S9 (keywordEach [] X.env)).all (fun x=>x.1.isSome)
   && decide ((e::es).length+([]:List Keyword).length+(if ([]:List Keyword).isEmpty then 0 else 1)<30))=true:=by rfl)
  (w1b:(apos.endLine == S9.line)=true:=by rfl) (hs:starEach (e::es) X.env=(false,eval e X.env)::starEach es X.env:=by rfl) (Q0:(backTo S9 (starEach es X.env)).any (·.1)=false:=by rfl) :
  PE X (.Call (.Attribute o name apos) (e::es) [] S9) (tBM X.K T r to t):=by
 intro pins s σ H Q I h
 refine wpAny_Call_method_late w0C hfew w1b rfl (thn (ho pins s σ H _ I h) fun v s1 hz=>?_)
 obtain⟨x,H1,I1,r1,ty,q1⟩:=hz
 obtain⟨h1,h2⟩:=y7p I1 r1 ty
 refine⟨T,id,pa,slot,hty,h1,h2,?_⟩
 have hA:=ha S9 pins s1 σ H1 _ I1 q1
 rw[hs] at hA ⊢
 refine Calls.callWith_builtin (by show(false || (backTo S9 (starEach es X.env)).any (·.1))=false;rw[Q0]<;>rfl) (Calls.evalArgs_plain ?_)
 exact thn hA fun us s2 ⟨vs,H2,I2,r2,q2⟩=>hm pins s2 σ H2 x vs v us Q I2 r1 r2 q2
end
def MtM(X:Cx)(id:String)(r:V->List V->Hp->VK->Prop):Prop:=
 ∀(pins:List (Addr×Obj)) (s:Shared) (σ:St) (H:Hp) (x:V) (xs:List V) (v:Value) (us:List Value) (Q:VK),Inv X pins σ H s->RelV x v->Vals xs us->r x xs H Q->
  wpAny (model X.prog X.w) X.A (call (.builtin id) (v::us)) (EP X pins σ Q) X.xe s
theorem Vals.one:∀{x:V}{us:List Value},Vals [x] us->∃u,us=[u]/\RelV x u
 | _,_,.cons r .nil=>⟨_,rfl,r⟩
theorem Vals.two:∀{x y:V}{us:List Value},Vals [x,y] us->∃u v,us=[u,v]/\RelV x u/\RelV y v
 | _,_,_,.cons r (.cons q .nil)=>⟨_,_,rfl,r,q⟩
theorem Vals.dropLast{xs:List V}{us:List Value}(h:Vals xs us):Vals xs.dropLast us.dropLast:=by
 induction h with
 | nil=>exact .nil
 | cons r t ih=>
  cases t with
  | nil=>exact .nil
  | cons q t'=>exact .cons r ih
theorem Vals.eraseIdx:∀{xs:List V}{us:List Value} (i:Nat),Vals xs us->Vals (xs.eraseIdx i) (us.eraseIdx i)
 | _,_,_,.nil=>.nil
 | _,_,0,.cons _ t=>t
 | _,_,i+1,.cons r t=>.cons r (Vals.eraseIdx i t)
theorem z9H{α:Type}:∀(l:List α) (i:Nat),(l.eraseIdx i).length≤l.length
 | [],_=>bC _
 | _::_,0=>e7 _
 | _::r,i+1=>jF (z9H r i)
section
variable{X:Cx}{pins:List (Addr×Obj)}{σ:St}{H:Hp}{s:Shared}{l b:Addr}{xs ys zs:List V}
theorem Inv.Y2{its its':List Value}{n:Nat}{f:Array Value->Array Value}{t':Nat}(I:Inv X pins σ H s)(hH:H l=some (.lst xs))
  (e:s.heap.get? l=some { cls:=.type "list",data:=.seq its.toArray n }) (hf:f its.toArray=its'.toArray) (hv:Vals ys its') (hz:ys.length≤sizeLine) :
  Inv X pins σ (upd H l (.lst ys)) { s with heap:=s.heap.update l (Obj.mapSeq f),toks:=t' }:=by
 have q:=PySem.IsL.update e f
 rw[hf] at q
 refine I.write (x:=l) (e:=l) (by rw[hH];exact trivial) (.inl rfl) (fun b' u hb hu=>(cI s.heap (Obj.mapSeq f) (d6 hb)).trans hu) ⟨_,q⟩ ?_
 exact⟨hz,its',_,hv,q⟩
theorem Inv.lnew{its:List Value}{t':Nat}(I:Inv X pins σ H s)(hv:Vals ys its)(hz:ys.length≤sizeLine) :
  Inv X pins σ (upd H s.heap.objs.size (.lst ys)) { s with heap:=s.heap.push { cls:=.type "list",data:=.seq its.toArray },toks:=t' }:=
 I.laid (fun _ _ q=>b9 _ q) (bC _) ⟨hz,its,0,hv,bF _ rfl⟩
theorem Inv.fresh(I:Inv X pins σ H s):H s.heap.objs.size=none:=I.hok.fresh (bC _)
theorem Inv.T5(I:Inv X pins σ H s)(hH:H l=some (.lst xs)):xs.length≤sizeLine/\∃(its:List Value) (n:Nat),Vals xs its/\xs.length=its.length/\s.heap.get? l=some { cls:=.type "list",data:=.seq its.toArray n }:=by
 obtain⟨z,its,n,r,e⟩:=I.hok l _ hH
 exact⟨z,its,n,r,r.length,e⟩
theorem y5g{n:Nat}(h:n≤sizeLine):Builtin.List.listTooLong n=false:=by
 unfold Builtin.List.listTooLong
 exact decide_eq_false (by omega)
end
section
variable{X:Cx}
def y6r:V->List V->Hp->VK->Prop:=fun x vs H Q=>∃l xs y,x=.ref l/\vs=[y]/\H l=some (.lst xs)/\xs.length<sizeLine/\Q .non (upd H l (.lst (xs++[y])))
theorem z0O:MtM X "list.append" y6r:=by
 intro pins s σ H x vs v us Q I rx rv h
 obtain⟨l,xs,y,rfl,rfl,hH,hz,q⟩:=h
 cases rx
 obtain⟨u,rfl,ru⟩:=rv.one
 obtain⟨z,its,n,r,hl,e⟩:=I.T5 hH
 refine call_meets F.slot_list_append ⟨_,e,rfl⟩ F.entry_list_append (F.args_list_append_2 _ _) (PySem.list_append l its.toArray n u (by rw[bH];omega)) ⟨e,?_⟩
 refine⟨.non,_,I.Y2 (its':=its++[u]) hH e (by simp) (r.append (.cons ru .nil)) ?_,rfl,q⟩
 rw[bN,dO]
 omega
def y71:V->List V->Hp->VK->Prop:=fun x vs H Q=>∃l b xs zs,x=.ref l/\vs=[.ref b]/\H l=some (.lst xs)/\H b=some (.lst zs)/\xs.length+zs.length≤sizeLine/\Q .non (upd H l (.lst (xs++zs)))
theorem y7q:MtM X "list.extend" y71:=by
 intro pins s σ H x vs v us Q I rx rv h
 obtain⟨l,b,xs,zs,rfl,rfl,hH,hB,hz,q⟩:=h
 cases rx
 obtain⟨u,rfl,ru⟩:=rv.one
 cases ru
 obtain⟨z,its,n,r,hl,e⟩:=I.T5 hH
 obtain⟨z2,K8,n2,r2,hl2,e2⟩:=I.T5 hB
 have hsz:its.toArray.size+K8.toArray.size≤sizeLine:=by rw[bH,bH];omega
 have w0S:¬(!its.toArray.isEmpty && Builtin.List.listTooLong (its.toArray.size+K8.toArray.size))=true:=by
  rw[y5g hsz,Bool.and_false]
  exact bI
 refine call_meets F.slot_list_extend ⟨_,e,rfl⟩ F.entry_list_extend (F.args_list_extend_2 _ _)
  (AutoSeq1.list_extend_list_list_0 l its.toArray n b K8.toArray n2 w0S (by rw[bH];omega) (by omega)) ⟨e,e2,?_⟩
 refine⟨.non,_,I.Y2 (its':=its++K8) hH e (by simp) (r.append r2) ?_,rfl,q⟩
 rw[bN]
 omega
def y7r:V->List V->Hp->VK->Prop:=fun x vs H Q=>∃l xs i k y,x=.ref l/\vs=[.int i]/\H l=some (.lst xs)/\-(2^63)≤i/\i<2^63/\seqIndex? i xs.length=some k/\xs[k]? = some y/\Q y (upd H l (.lst (xs.eraseIdx k)))
theorem y5I:MtM X "list.pop" y7r:=by
 intro pins s σ H x vs v us Q I rx rv h
 obtain⟨l,xs,i,k,y,rfl,rfl,hH,h1,h2,hk,hy,q⟩:=h
 cases rx
 obtain⟨u,rfl,ru⟩:=rv.one
 obtain⟨t,rfl⟩:=ru
 obtain⟨z,its,n,r,hl,e⟩:=I.T5 hH
 obtain⟨w,hw,rw'⟩:=r.get hy
 refine call_meets F.slot_list_pop ⟨_,e,rfl⟩ F.entry_list_pop (F.args_list_pop_2 _ _)
  (MeetsSeq.list_pop_at l its.toArray n i t k w (fitsIndex_both h1 h2) (by rw[bH,<- hl];exact hk) (by rw[<- dP];exact hw) (by rw[bH];omega)) ⟨e,?_⟩
 refine⟨y,_,I.Y2 (its':=its.eraseIdx k) hH e ?_ (r.eraseIdx k) ?_,rw',q⟩
 ·show its.toArray.eraseIdxIfInBounds k=(its.eraseIdx k).toArray
  rw[List.eraseIdxIfInBounds_toArray]
 ·have:=z9H xs k
  omega
def rCat:R2:=fun x y H Q=>∃l b xs zs,x=.ref l/\y=.ref b/\H l=some (.lst xs)/\H b=some (.lst zs)/\xs.length+zs.length≤sizeLine/\∀p,H p=none->Q (.ref p) (upd H p (.lst (xs++zs)))
theorem z9V:OpR X (binaryOp .Add) rCat:=by
 intro pins s σ H x y v u Q I rx ry h
 obtain⟨l,b,xs,zs,rfl,rfl,hH,hB,hz,q⟩:=h
 cases rx
 cases ry
 obtain⟨z,its,n,r,hl,e⟩:=I.T5 hH
 obtain⟨z2,K8,n2,r2,hl2,e2⟩:=I.T5 hB
 refine PySem.P.add_list e e2 ?_ (by rw[bH,bH];omega)
 have ea:its.toArray++K8.toArray=(its++K8).toArray:=by simp
 rw[ea]
 exact⟨.ref _,_,I.lnew (t':=s.toks) (r.append r2) (by rw[bN];omega),rfl,q _ I.fresh⟩
end
section
variable{prog:Program}{w:World}{A:Around}{E:Value->Shared->Prop}{s:Shared}
end
section
variable{X:Cx}
end
end L2
namespace Att
open PySem PySem.W PySem.Calls PyProof.Rows
theorem z7T{P:Params}{h:Heap}:∀(ns:List Int) (vs:List Value),WellAll P h vs (ns.map WData.int)->IntsAre vs ns:=by
 intro ns
 induction ns with
 | nil=>
  intro vs w
  rw[List.map_nil] at w
  cases w
  exact .nil
 | cons n ns ih=>
  intro vs w
  rw[cG] at w
  cases w with
  | cons a b=>
   cases a
   exact .cons _ _ (ih _ b)
theorem y2M{l:OpenLaw}{n:Nat}(hn:l.most=some n){P:Params}{h:Heap}{args:List WData}{vals:List Value}
  (Y0:l.row.toRowW.claim.pre args=true) (hwl:WellAll P h vals args) :
  ∃a vs ns,vals=[Value.ref a]/\args=[WData.list (ns.map WData.int)]/\h.get? a=some { cls:=.type "list",data:=.seq vs.toArray }/\IntsAre vs ns/\ns.length≤n:=by
 have hsh:WShape.hasAll [] args [.list .int]=true:=(pre_splitW Y0).1
 have hc:l.pre.holds [] { args:=args }=true:=(pre_splitW Y0).2
 obtain⟨d,r,rfl,h1,h2⟩:=hasAllW_cons hsh
 obtain rfl:=hasAllW_nil h2
 obtain⟨xs,rfl,h3⟩:=hasW_list h1
 obtain⟨ns,rfl⟩:=items_int h3
 have hlen:ns.length≤n:=by
  unfold OpenLaw.pre at hc
  have h4:(WTm.not (.lt (.lit (.int (n:Int))) (.len (.arg 0)))).holds [] { args:=[.list (ns.map .int)] }=true:=by
   have h4:=(holds_andW hc).1
   rw[hn] at h4
   exact h4
  have h5:=condW_of h4 (w_not (w_lt w_lit (w_len_list (w_arg rfl))))
  rw[b8] at h5
  refine jG fun q=>?_
  have q':(n:Int)<((ns.length:Nat):Int):=by omega
  first
   | (rw[decide_eq_true q'] at h5;exact absurd h5 (by decide))
   | (simp at h5;omega)
 cases hwl with
 | cons w1 w2=>
  cases w2
  cases w1 with
  | list ho B3=>exact⟨_,_,ns,rfl,rfl,ho,z7T ns _ B3,hlen⟩
theorem y3T(l:OpenLaw)(args:List WData):l.row.toRowW.claim.post args (.bool true) args=true:=
 postW_of (r:=l.row.toRowW) (X:=(true == true))
  (show WShape.has [] (.bool true) .bool=true by first|rfl|decide|simp[WShape.has,WShape.arms,WShape.armsAll])
  (show(WTm.eq .res (.lit (.bool true))).value [] { args:=args,res:=some (.bool true),after:=args }=some (.bool (true == true)) from w_eq_bool (w_res rfl) w_lit) rfl
theorem y0r{l:OpenLaw}{n:Nat}{q:Program}{loose:List Str}{XP:(Str->Option Value)->Heap->Prop}{YP:World->Heap->Prop}{d:DefRec}
  (hn:l.most=some n) (hdf:d.params.defaults=[])
  (call:∀(w:World) (s₀ s₁:Shared) (mg mb:Str->Option Value) (fa:Addr) (o:Obj) (pm cd doc:Value) (a:Addr) (vs:List Value) (ns:List Int),
   Ground q loose [] XP w s₀ mg mb s₁.heap->YP w s₁.heap->
   s₁.heap.get? fa=some o->o.data=.func (docDef d.name d.params d.body d.scope pm cd doc)->s₁.heap.CodeRec cd d.name->mg d.name=some (.ref fa)->
   s₁.heap.get? a=some { cls:=.type "list",data:=.seq vs.toArray }->IntsAre vs ns->ns.length≤n->s₁.gens=#[]->
   codeAny (model l.prog w) callerA (.call (.ref fa) ⟨[.ref a],[]⟩) (fun r s'=>r=.ok (.ret (.bool true))/\OldK s₁.heap s'.heap/\s'.os=s₁.os/\AllBare s'.gens) s₁) :
  WalkO q loose XP YP l.row.toRowW d [] (fun f vs=>PySem.call f vs):=by
 intro w s₀ s₁ mg mb G Y fa o pm cd doc dV kV ho hd hcd hD hmg hg args vals as Y0 hlay hrd hwl hlo
 obtain rfl:dV=.none:=Dflts.none hD hdf
 obtain rfl:kV=.none:=Dflts.noKw hD
 obtain⟨a,vs,ns,rfl,rfl,hobj,hints,hlen⟩:=y2M hn Y0 hwl
 refine enter_call (codeAny_mono (call w s₀ s₁ mg mb fa o pm cd doc a vs ns G Y ho (fd_plain hd) hcd hmg hobj hints hlen hg) fun r s' hq=>?_)
 obtain⟨rfl,h2,h3,h4⟩:=hq
 exact⟨.inl ⟨.bool true,.bool true,[],rfl,fun _=>rfl,.bool true,y3T l _,fun _=>⟨List.Pairwise.nil,fun _ hm=>(nomatch hm)⟩⟩,h2,h3,h4⟩
section
variable{prog:Program}{w:World}{A:Around}{E:Value->Shared->Prop}{s:Shared}{K:Frag}
end
end Att
namespace L2
open PySem PySem.Spec PyProof.Rows
theorem z46:∀{vs:List Value}{ns:List Int},IntsAre vs ns->Vals (ns.map V.int) vs
 | _,_,.nil=>.nil
 | _,_,.cons n t h=>.cons ⟨t,rfl⟩ (z46 h)
def w04(H:Hp):Prop:=∀b,H b=none\/∃o xs,H b=some (.frz o (.lst xs))
theorem y5K{P:Program}{w:World}{K:PySem.W.Frag}{mg mb:Str->Option Value}{CX:CXT}{k:Nat}{fa a:Addr}{fd:FuncData}{x:Str}{sp:Sp}{s₁:Shared}{vs:List Value}{ns:List Int}
  (KX:K.In s₁.heap) (hns:s₁.heap.Ns mainGlobals mg) (hb:s₁.heap.Ns builtinsNs mb) (hbb:∀x:Str,x≠"__name__"->mb x=bootBuiltins x) (hlim:s₁.heap.NoLimit) (hg:s₁.gens=#[])
  (ha:s₁.heap.get? a=some { cls:=.type "list",data:=.seq vs.toArray }) (hi:IntsAre vs ns) (hl:ns.length≤sizeLine) (hr:C8 k callerA)
  (F:∀base:Heap,K.In base->base.Ns mainGlobals mg->A5 P w K mg base CX k fa fd [x] sp) (w1e:∀(s:Shared) (u:Value),BindsTo s fd ⟨[u],[]⟩ [(x,u)])
  (hsp:∀H:Hp,w04 H->SqL K H a (ns.map V.int)->sp [.ref a] H (fun v _=>v=.bl true) fun _ _ _=>False)
  (hCX:∀H e s',CX [] H s₁ (fun _ _ _=>False) e s'->False) :
  codeAny (model P w) callerA (.call (.ref fa) ⟨[.ref a],[]⟩) (fun r s'=>r=.ok (.ret (.bool true))/\OldK s₁.heap s'.heap/\s'.os=s₁.os/\AllBare s'.gens) s₁:=by
 have rv:=z46 hi
 have lenV:=hi.length
 have core:∀H:Hp,w04 H->SqL K H a (ns.map V.int)->HOk P w H s₁.heap->(∀b,H b≠none->b=a)->(H a≠none->K.lookup a=none)->
   codeAny (model P w) callerA (.call (.ref fa) ⟨[.ref a],[]⟩) (fun r s'=>r=.ok (.ret (.bool true))/\OldK s₁.heap s'.heap/\s'.os=s₁.os/\AllBare s'.gens) s₁:=by
  intro H hO hS hok hA hK
  have U4:∀{b:Addr}{o:Obj},s₁.heap.get? b=some o->H b=none->(Q9 s₁.heap H).get? b=some o:=fun e n=>y5B e n
  have noA:∀{b:Addr}{o:Obj}{es:Array DictEntry}{ep:Nat},s₁.heap.get? b=some o->o.data=.dict es ep->H b=none:=fun {b o es ep} e d=>by
   cases q:H b with
   | none=>rfl
   | some u=>
    have e':b=a:=hA b (by rw[q];simp)
    subst e'
    rw[ha] at e;cases e
    have d':Data.seq vs.toArray _=Data.dict es ep:=d
    cases d'
  have nsK:∀{b:Addr}{m:Str->Option Value},s₁.heap.Ns b m->(Q9 s₁.heap H).Ns b m:=fun {b m} ⟨o,es,ep,e,d,r⟩=>⟨o,es,ep,U4 e (noA e d),d,r⟩
  have hKb:K.In (Q9 s₁.heap H):=fun b o e=>U4 (KX b o e) (by
   cases q:H b with
   | none=>rfl
   | some u=>
    have e':b=a:=hA b (by rw[q];simp)
    subst e'
    rw[hK (by rw[q];simp)] at e;cases e)
  have hM:Mod K mg (Q9 s₁.heap H):=⟨hKb,nsK hns,⟨mb,nsK hb,hbb⟩,let ⟨mc,h1,h2⟩:=hlim;⟨mc,nsK h1,h2⟩⟩
  have e0:U2 P w K mg (Q9 s₁.heap H) callerA [] s₁ H:=⟨rfl,hM,fun b o e=>y6w e,Nat.le_of_eq (y2F _ _),trivial,fun b hb=>absurd (show b∈([]:List Addr) from hb) (by simp),hok,.of_eq hg⟩
  refine codeAny_mono ((F _ hKb (nsK hns)).run callerA [] s₁ H ⟨[.ref a],[]⟩ [.ref a] [.ref a] _ _ hr e0 (w1e s₁ (.ref a)) (.cons rfl .nil) (hsp H hO hS)) fun r s' h=>?_
  cases r with
  | error e=>exact(hCX H e s' h).elim
  | ok fl=>
   cases fl with
   | next=>exact False.elim h
   | brk=>exact False.elim h
   | cont=>exact False.elim h
   | ret u=>
    obtain⟨v,H',os,bare,un,hok',r',q⟩:=h
    have q':v=.bl true:=q
    subst q'
    obtain rfl:u=Value.bool true:=r'
    refine⟨rfl,OldK.of_keep fun b o e=>?_,os,bare⟩
    cases q:H b with
    | none=>exact un.keep b o e q (by intro z;exact absurd (show b∈([]:List Addr) from z) (by simp)) (by simp)
    | some u=>
     rcases hO b with z|⟨ob,xs,z⟩
     ·rw[q] at z;cases z
     ·have z2:=un.R5 b ob _ z
      obtain⟨e1,_⟩:=hok b _ z
      obtain⟨e2,_⟩:=hok' b _ z2
      rw[e] at e1;cases e1
      exact e2
 cases hk:K.lookup a with
 | some o=>
  have e:=KX a o hk
  rw[ha] at e
  cases e
  refine core (fun _=>none) (fun _=>.inl rfl) (.inr ⟨_,vs.toArray,_,hk,rfl,rfl,rfl,by rw[bH,lenV];exact hl,by simpa using rv⟩) (fun b u z=>by have z':(none:Option HO)=some u:=z;cases z') (fun b z=>absurd rfl z) fun z=>absurd rfl z
 | none=>
  refine core (fun b=>if b=a then some (.frz { cls:=.type "list",data:=.seq vs.toArray } (.lst (ns.map V.int))) else none) (fun b=>?_) (.inl (.inr ⟨{ cls:=.type "list",data:=.seq vs.toArray },if_pos rfl⟩)) (fun b u z=>?_) (fun b z=>?_) fun _=>hk
  ·by_cases hb:b=a
   ·exact .inr ⟨_,_,if_pos hb⟩
   ·exact .inl (if_neg hb)
  ·by_cases hb:b=a
   ·have z':=(if_pos hb).symm.trans z
    cases z'
    subst hb
    exact⟨ha,by rw[b8];exact hl,vs,_,rv,ha⟩
   ·have z':=(if_neg hb).symm.trans z
    cases z'
  ·by_cases hb:b=a
   ·exact hb
   ·exact absurd (if_neg hb) z
theorem y6D{l:PySem.W.OpenLaw}{n k:Nat}{q:Program}{loose:List Str}{XP:(Str->Option Value)->Heap->Prop}{YP:World->Heap->Prop}{d:DefRec}{K:Params->PySem.W.Frag}{CX:World->CXT}{sp:World->Sp}{x:Str}
  (hn:l.most=some n) (hn2:n≤sizeLine) (hdf:d.params.defaults=[]) (hr:C8 k callerA)
  (hY:∀(w:World) (h:Heap),YP w h->(K w.params).In h)
  (F:∀(w:World) (mg:Str->Option Value) (fa:Addr) (h:Heap),(K w.params).In h->h.Ns mainGlobals mg->mg d.name=some (.ref fa)->
   ∃fd:FuncData,(∀(s:Shared) (u:Value),BindsTo s fd ⟨[u],[]⟩ [(x,u)])/\
    ∀base:Heap,(K w.params).In base->base.Ns mainGlobals mg->A5 l.prog w (K w.params) mg base (CX w) k fa fd [x] (sp w))
  (hsp:∀(w:World) (H:Hp) (a:Addr) (ns:List Int),ns.length≤n->w04 H->SqL (K w.params) H a (ns.map V.int)->sp w [.ref a] H (fun v _=>v=.bl true) fun _ _ _=>False)
  (hCX:∀(w:World) (H:Hp) (s:Shared) (e:Value) (s':Shared),CX w [] H s (fun _ _ _=>False) e s'->False) :
  PySem.W.WalkO q loose XP YP l.row.toRowW d [] (fun f vs=>PySem.call f vs):=by
 refine Att.y0r hn hdf fun w s₀ s₁ mg mb fa o pm cd doc a vs ns G Y ho hd hcd hmg hobj hints hlen hg=>?_
 have KX:=hY w _ Y
 obtain⟨fd,hb,hF⟩:=F w mg fa _ KX G.T.g hmg
 exact y5K KX G.T.g G.T.b G.T.builtins G.T.nolimit hg hobj hints (cO hlen hn2) hr hF hb (fun H hO hS=>hsp w H a ns hlen hO hS) fun H e s'=>hCX w H s₁ e s'
def z16(s:Stmt)(j:Nat):Stmt:=match s with
 | .ClassDef _ _ _ body _ _ _ _ _ _ _=>body.getD j (.Pass ⟨0,0,0,0⟩)
 | _=>.Pass ⟨0,0,0,0⟩
def z1q(s:Stmt):Arguments:=match s with
 | .FunctionDef _ a _ _ _ _ _ _ _ _=>a
 | _=>{ posonlyargs:=[],args:=[],vararg:=none,kwonlyargs:=[],kw_defaults:=[],kwarg:=none,defaults:=[] }
def z1g(s:Stmt):List Stmt:=match s with
 | .FunctionDef _ _ b _ _ _ _ _ _ _=>b
 | _=>[]
def z07(s:Stmt):Scope:=match s with
 | .FunctionDef _ _ _ _ _ _ sc _ _ _=>sc
 | _=>{ kind:=.function,names:=[],isGenerator:=false,isCoroutine:=false }
abbrev CX0:CXT:=fun _ _ _ _ _ _=>False
abbrev E0:XK:=fun _ _ _=>False
theorem y28{X:Cx}:z7D CX0 X E0:=fun _ _ _ _ _ _ _ h=>h.elim
structure Fun(K:PySem.W.Frag)(x qual:Str)(st:Stmt)(f:Addr)(fd:FuncData):Prop where
 ex:∃(oc:Value) (od:Option Addr) (kV doc pm:Value) (an:Option Addr) (cdv ct:Value) (osl:Array (Option Value)),
  fd=PySem.W.fnOf x qual (z1q st) (z1g st) (z07 st) .none kV doc pm an cdv ct/\K.lookup f=some ⟨oc,od,.func fd,osl⟩/\PySem.W.codeIn K cdv qual=true
 kp:PySem.W.keepIn K (.ref f)=true
section
variable{P:Program}{w:World}{K:PySem.W.Frag}{mg:Str->Option Value}{base:Heap}
theorem Fun.ok{x qual:Str}{st:Stmt}{f:Addr}{fd:FuncData}{N ps:List Str}{k:Nat}{sp:Sp}(F:Fun K x qual st f fd)(S:A2 N ps (z07 st))(len:∀vs H Q E,sp vs H Q E->vs.length=ps.length)
  (R9:∀(cdv:Value) (A:Around) (outer:List Env) (s:Shared) (H:Hp) (vs:List V) (Q:VK) (E:XK),C8 k (A.deeper (envOfC qual (z07 st) s.heap.objs.size f cdv))->sp vs H Q E->
   ∃t,PSs (T6 CX0 P w K mg base N qual (z07 st) f cdv A outer s H E).nox (z1g st) t/\t { nx:=fun _ H'=>Q .non H',rt:=Q } (z4g N vs) H):A5 P w K mg base CX0 (k+1) f fd ps sp:=by
 obtain⟨oc,od,kV,doc,pm,an,cdv,ct,osl,rfl,lk,hcd⟩:=F.ex
 refine y7m lk hcd S len fun A outer s H vs Q E hr hsp=>?_
 obtain⟨t,h,q⟩:=R9 cdv A outer s H vs Q E hr hsp
 exact⟨t,h.nox,q⟩
theorem Fun.binds{x qual:Str}{st:Stmt}{f:Addr}{fd:FuncData}{ps:List Str}(F:Fun K x qual st f fd)
  (h:∀(kV doc pm:Value) (an:Option Addr) (cdv ct:Value) (us:List Value),us.length=ps.length->bindArgs (PySem.W.fnOf x qual (z1q st) (z1g st) (z07 st) .none kV doc pm an cdv ct) ⟨us,[]⟩=pure (ps.zip us)):z1J K fd ps []:=by
 obtain⟨oc,od,kV,doc,pm,an,cdv,ct,osl,rfl,lk,hcd⟩:=F.ex
 exact .all (h kV doc pm an cdv ct)
theorem y7A{x qual:Str}{st:Stmt}{f:Addr}{oc:Value}{od an:Option Addr}{osl:Array (Option Value)}{kV doc pm cdv ct:Value}(l:K.lookup f=some ⟨oc,od,.func (PySem.W.fnOf x qual (z1q st) (z1g st) (z07 st) .none kV doc pm an cdv ct),osl⟩)
  (c:PySem.W.codeIn K cdv qual=true) (k:PySem.W.keepIn K (.ref f)=true):Fun K x qual st f (PySem.W.fnOf x qual (z1q st) (z1g st) (z07 st) .none kV doc pm an cdv ct):=⟨⟨oc,od,kV,doc,pm,an,cdv,ct,osl,rfl,l,c⟩,k⟩
end
theorem y0y{A:Around}{k:Nat}(hr:C8 k A):A.units+1<cLine:=fQ (Nat.add_le_add_left (by decide:1≤64) _) hr.units
theorem z0f{n:Nat}(h:n≤1000):n<sizeLine:=fQ h (by decide)
section
variable{X:Cx}
theorem pv(i:Nat){x:Str}{pos:Pos}(hN:X.N[i]? = some x:=by rfl)(hv:Vis X.env.scope x:=by first|exact Or.inl rfl|exact Or.inr (Or.inl rfl)|exact Or.inr (Or.inr rfl))(hd:(x == ("__debug__":Str))=false:=by decide)
  (hcd:(x == ("__classdict__":Str))=false:=by decide):PE X (.Name x pos) (S5 i):=y7K hN hv hd hcd
end
theorem C6{A B:Prop}(h:B):if false=true then A else B:=by
 rw[if_neg bI]
 exact h
theorem N0{A B:Prop}(h:A):if true=true then A else B:=by
 rw[if_pos rfl]
 exact h
theorem A9{c A B:Prop}[Decidable c](h1:c->A)(h2:¬c->B):if c then A else B:=by
 by_cases h:c
 ·rw[if_pos h]
  exact h1 h
 ·rw[if_neg h]
  exact h2 h
theorem y7P{c A B:Prop}[Decidable c](hc:c)(h:B):if (!decide c)=true then A else B:=by
 rw[decide_eq_true hc]
 exact C6 h
def A4(H H':Hp):Prop:=∀b o,H b=some o->H' b=some o
theorem A4.refl(H:Hp):A4 H H:=fun _ _ h=>h
theorem A4.trans{H H1 H2:Hp}(a:A4 H H1)(b:A4 H1 H2):A4 H H2:=fun c o h=>b c o (a c o h)
theorem A4.free{H H':Hp}(e:A4 H H'){l:Addr}(h:H' l=Option.none):H l=Option.none:=by
 cases q:H l with
 | none=>rfl
 | some o=>
  rw[e l o q] at h
  cases h
theorem A4.seq{K:PySem.W.Frag}{H H':Hp}{a:Addr}{xs:List V}(e:A4 H H')(h:SqL K H a xs):SqL K H' a xs:=by
 rcases h with (h|⟨o,h⟩)|h
 ·exact .inl (.inl (e _ _ h))
 ·exact .inl (.inr ⟨o,e _ _ h⟩)
 ·exact .inr h
abbrev noE:Value->Shared->Prop:=fun _ _=>False
theorem y0D{prog:Program}{w:World}{A:Around}{R:Result->Shared->Prop}{s:Shared}{elt target iter:Expr}{ifs:List Expr}{scope:Scope}{pos:Pos}{it acc:Value}{env:Env}(I:Nat->Shared->Prop)
  (turn:∀n s,I n s->wpAny (model prog w) A (pyNext it) (fun r s1=>match r with
   | none=>R (.ok .next) s1
   | some v=>wpAny (model prog w) A (letOwnedTupleGo target it v) (fun _ s0=>wpAny (model prog w) A (assign target env v) (fun _ s2=>
     wpAny (model prog w) A (forIn ifs true fun c r=>if r=true then do let ok <- isTrue c env (eval c env);pure (ForInStep.yield ok) else pure (ForInStep.yield r)) (fun ok s3=>
      if ok=true then wpAny (model prog w) A (eval elt env) (fun x s4=>
       wpAny (model prog w) A (call (.builtin "list.append") [acc,x]) (fun _ s5=>∃m,m<n/\I m s5) noE s4) noE s3
      else ∃m,m<n/\I m s3) noE s2) noE s0) noE s1) noE s)
  (n:Nat) (h:I n s):codeAny (model prog w) A (.compLoop (.ListComp elt [⟨target,iter,ifs,0⟩] scope pos) 0 it acc env) R s:=by
 refine codeAny_loop rfl I (fun n s hI=>?_) n h
 show wpAny _ A ((compTurn (.ListComp elt [⟨target,iter,ifs,0⟩] scope pos) 0 it acc env).onRaise (fun x=>do noteFrame x env;theTreesLotGoes x)) _ _ s
 refine wpAny_noted ?_
 rw[compTurn_list]
 refine wpAny_bind (wpAny_standAt (wpAny_bind (wpAny_mono (turn n s hI) (fun r s1 h1=>?_) fun _ _ z=>False.elim z)))
 cases r with
 | none=>exact wpAny_pure h1
 | some v=>
  refine wpAny_bind (wpAny_mono h1 (fun _ s0 h0=>?_) fun _ _ z=>False.elim z)
  refine wpAny_bind (wpAny_mono h0 (fun _ s2 h2=>wpAny_bind (wpAny_mono h2 (fun ok s3 h3=>?_) fun _ _ z=>False.elim z)) fun _ _ z=>False.elim z)
  cases ok with
  | false=>exact wpAny_pure ⟨rfl,h3⟩
  | true=>
   exact wpAny_bind (wpAny_bind (wpAny_mono h3 (fun x s4 h4=>wpAny_bind (wpAny_mono h4 (fun _ s5 h5=>wpAny_pure (wpAny_pure ⟨rfl,h5⟩)) fun _ _ z=>False.elim z)) fun _ _ z=>False.elim z))
def z7m(cells:List (Str×Addr)):List (Str×NameKind)->List (Str×Addr)->Option (List (Str×Addr))
 | [],acc=>some acc
 | (n,k)::r,acc=>if k == .free then (match cells.lookup n with
   | some a=>z7m cells r ((n,a)::acc)
   | none=>none) else z7m cells r acc
theorem z5P{env:Env}:∀(names:List (Str×NameKind)) (acc cl:List (Str×Addr)),z7m env.cells names acc=some cl->
  (forIn names acc fun(x:Str×NameKind) (cs:List (Str×Addr))=>match x with
   | (name,kind)=>if (kind == NameKind.free)=true then do let c <- cellOf env name;pure (ForInStep.yield ((name,c)::cs)) else pure (ForInStep.yield cs):Sem (List (Str×Addr)))=pure cl
 | [],acc,cl,h=>by
  have h':acc=cl:=Option.some.inj h
  subst h'
  rfl
 | (n,k)::r,acc,cl,h=>by
  rw[List.forIn_cons]
  unfold z7m at h
  by_cases hk:(k == NameKind.free)=true
  ·rw[if_pos hk] at h
   cases e:env.cells.lookup n with
   | none=>rw[e] at h;cases h
   | some a=>
    rw[e] at h
    have ih:=z5P r ((n,a)::acc) cl h
    have hc:cellOf env n=pure a:=by unfold cellOf;rw[e]
    dsimp only
    rw[if_pos hk,hc]
    simpa using ih
  ·rw[if_neg hk] at h
   have ih:=z5P r acc cl h
   dsimp only
   rw[if_neg hk]
   simpa using ih
theorem z6z{scope:Scope}{env:Env}{cl:List (Str×Addr)}(h:z7m env.cells scope.names []=some cl):closureFor scope env=pure cl:=by
 have q:=z5P (env:=env) scope.names [] cl h
 unfold closureFor
 simpa using q
theorem z7H{cells:List (Str×Addr)}:∀{names:List (Str×NameKind)}{acc cl:List (Str×Addr)},z7m cells names acc=some cl->
  (∀x c,acc.lookup x=some c->cells.lookup x=some c)->∀x c,cl.lookup x=some c->cells.lookup x=some c
 | [],acc,cl,h,ha,x,c,e=>by
  have h':acc=cl:=Option.some.inj h
  subst h'
  exact ha x c e
 | (n,k)::r,acc,cl,h,ha,x,c,e=>by
  unfold z7m at h
  by_cases hk:(k == NameKind.free)=true
  ·rw[if_pos hk] at h
   cases q:cells.lookup n with
   | none=>rw[q] at h;cases h
   | some a=>
    rw[q] at h
    refine z7H (names:=r) (acc:=(n,a)::acc) h (fun y d z=>?_) x c e
    rw[h9] at z
    cases hy:y == n with
    | true=>
     rw[hy] at z
     have z':a=d:=Option.some.inj z
     rw[<- z',beq_iff_eq.mp hy]
     exact q
    | false=>
     rw[hy] at z
     exact ha y d z
  ·rw[if_neg hk] at h
   exact z7H (names:=r) (acc:=acc) h ha x c e
theorem z5i{cells:List (Str×Addr)}:∀{names:List (Str×NameKind)}{acc cl:List (Str×Addr)},z7m cells names acc=some cl->
  ∀x,((∃c,acc.lookup x=some c)\/(x,NameKind.free)∈names)->∃c,cl.lookup x=some c
 | [],acc,cl,h,x,hx=>by
  have h':acc=cl:=Option.some.inj h
  subst h'
  rcases hx with hx|hx
  ·exact hx
  ·cases hx
 | (n,k)::r,acc,cl,h,x,hx=>by
  unfold z7m at h
  by_cases hk:(k == NameKind.free)=true
  ·rw[if_pos hk] at h
   cases q:cells.lookup n with
   | none=>rw[q] at h;cases h
   | some a=>
    rw[q] at h
    refine z5i (names:=r) (acc:=(n,a)::acc) h x ?_
    rcases hx with ⟨c,hx⟩|hx
    ·left
     rw[h9]
     cases hy:x == n with
     | true=>exact⟨a,rfl⟩
     | false=>exact⟨c,hx⟩
    ·rcases bB.mp hx with e|e
     ·left
      have e1:x=n:=congrArg Prod.fst e
      rw[h9,e1,beq_self_eq_true]
      exact⟨a,rfl⟩
     ·exact .inr e
  ·rw[if_neg hk] at h
   refine z5i (names:=r) (acc:=acc) h x ?_
   rcases hx with hx|hx
   ·exact .inl hx
   ·rcases bB.mp hx with e|e
    ·have e2:NameKind.free=k:=congrArg Prod.snd e
     exact absurd (by rw[<- e2];rfl) hk
    ·exact .inr e
theorem z7u{α β:Type}[BEq α][LawfulBEq α]:∀{l:List (α×β)}{x:α}{b:β},l.lookup x=some b->(x,b)∈l
 | [],x,b,h=>by cases h
 | (a,c)::r,x,b,h=>by
  rw[h9] at h
  cases hx:x == a with
  | true=>
   rw[hx] at h
   have h':c=b:=Option.some.inj h
   rw[beq_iff_eq.mp hx,h']
   exact bQ
  | false=>
   rw[hx] at h
   exact bL _ (z7u h)
theorem z6C{scope:Scope}{env:Env}(U5:∀y∈scope.names,y.2≠.cell){x:Str}(h:(relabel scope env).names.lookup x=some .cell\/(relabel scope env).names.lookup x=some .free):(x,NameKind.free)∈scope.names:=by
 have go:∀k,(relabel scope env).names.lookup x=some k->(k=.cell\/k=.free)->(x,NameKind.free)∈scope.names:=fun k h hk=>by
  have m:=z7u h
  obtain⟨⟨n,k'⟩,hm,e⟩:=cB.mp m
  dsimp only at e
  by_cases c:(k' == NameKind.free && env.scope.kind == .function && env.kindOf n == some .cell)=true
  ·rw[if_pos c] at e
   have e1:n=x:=congrArg Prod.fst e
   have c1:(k' == NameKind.free)=true:=by
    rw[bS,bS] at c
    exact c.1.1
   have c2:k'=.free:=eq_of_beq c1
   rw[<- e1,<- c2]
   exact hm
  ·rw[if_neg c] at e
   have e1:n=x:=congrArg Prod.fst e
   have e2:k'=k:=congrArg Prod.snd e
   rcases hk with z|z
   ·exact absurd (e2.trans z) (U5 _ hm)
   ·rw[<- e1,<- z,<- e2]
    exact hm
 rcases h with h|h
 ·exact go _ h (.inl rfl)
 ·exact go _ h (.inr rfl)
def z3S(X:Cx)(scope:Scope)(cl:List (Str×Addr))(N:List Str)(C:Addr)(s3:Shared)(H1:Hp)(ex:List Addr)(pins:List (Addr×Obj)):Cx:=
 { X with N:=N,s₀:=s3,H₀:=H1,env:=compEnvC scope cl C X.env,outer:=X.stack,ex:=ex,fn:=fun _=>false,pn:=X.pn++pins,xe:=noE }
def z7X(own:Nat)(ix:List Nat)(σ:St):St:=List.replicate own none++ix.map fun i=>(σ[i]?).join
structure E7(X:Cx)(scope:Scope)(cl:List (Str×Addr))(own D7:List Str)(ix:List Nat):Prop where
 U1:z7m X.env.cells scope.names []=some cl
 cell:∀y∈scope.names,y.2≠.cell
 kind:scope.kind=.function
 names:∀y∈scope.names,y.2=.local->scope.names.lookup y.1=some .local
 capn:D7.length=ix.length
 cap:∀(j i:Nat) (x:Str),D7[j]? = some x->ix[j]? = some i->X.N[i]? = some x/\X.env.kindOf x≠some .local/\Vis X.env.scope x/\((relabel scope X.env).names.lookup x=some .cell\/(relabel scope X.env).names.lookup x=some .free)
theorem Inv.w0l{X:Cx}{pins:List (Addr×Obj)}{σ:St}{H:Hp}{s:Shared}{D:Addr}{o:HO}(I:Inv X pins σ H s)(f:O8 X pins H D)(new:z15 X.prog X.w (upd H D o) s.heap D o):Inv X pins σ (upd H D o) s:=by
 obtain⟨f0,f1,f2,f3,f4,f5⟩:=f
 have q:=I.step (H':=upd H D o) (h':=s.heap) (g':=s.gens) (t':=s.toks) (d':=s.drawn) (ch:=[D]) (fun b hb=>by
   have e:b=D:=by simpa using hb
   subst e
   exact⟨f3,f1,f4,f5⟩)
  (fun _ _ _ _ _ e _=>e) (fun b ob _ _ _ e _=>⟨ob.slots,e⟩) (fun b ob hb _ n=>by
   have e:b≠D:=fun z=>hb (by simp[z])
   rw[z0e e];exact n)
  (fun b ob _ e=>⟨ob,e⟩) (fun b xs e=>by rw[z0e (z0i e f0)];exact e) (fun b ob u e=>by rw[z0e (z0i e f0)];exact e)
  (fun b ps e=>⟨#[],by rw[z0e (z0i e f0),e];simp⟩) (fun _ hm=>hm) (fun b u e=>by
   by_cases hb:b=D
   ·subst hb
    rw[z02] at e
    cases e
    exact new
   ·rw[z0e hb] at e
    exact(I.hok b u e).V4 (fun _ _ _ q=>q) (fun c q=>by rw[z0e (z0i q f0)];exact q) fun c xs q=>by rw[z0e (z0i q f0)];exact q) I.bare
 exact q
section
variable{X:Cx}{scope:Scope}{cl:List (Str×Addr)}{own D7:List Str}{ix:List Nat}
theorem E7.look(S:E7 X scope cl own D7 ix):∀x c,cl.lookup x=some c->X.env.cells.lookup x=some c:=
 z7H S.U1 fun x c e=>by cases e
theorem y4F{pins:List (Addr×Obj)}{σ:St}{H1:Hp}{s3:Shared}{h1:Heap}{ex:List Addr}{m:Str->Option Value}{tk:Nat}(S:E7 X scope cl own D7 ix)(I:Inv X pins σ H1 s3)
  (hex:∀b∈ex,b<s3.heap.objs.size/\b≠X.env.locals/\b∉X.fs/\(b∈X.ex\/X.s₀.heap.objs.size≤b)/\∀x c,X.env.cells.lookup x=some c->c≠b)
  (hn:h1.Ns s3.heap.objs.size m) (hk:∀b o,s3.heap.get? b=some o->h1.get? b=some o) :
  Inv (z3S X scope cl (own++D7) s3.heap.objs.size s3 H1 ex pins) [] (z7X own.length ix σ) H1 { s3 with heap:=h1,toks:=tk }:=by
 have stkN:∀b∈frs X.stack,b<s3.heap.objs.size:=fun b hb=>by
  obtain⟨_,o,ho,_⟩:=I.stack.mem hb
  exact bK ho
 have lt0:∀b o,X.base.get? b=some o->b<X.s₀.heap.objs.size:=fun b o e=>bK (I.ok.bs b o e).1
 refine⟨⟨I.ok.mod,S.kind,I.ok.glob,I.ok.blt,bC _,?_,?_,?_,I.ok.hd,I.ok.frames,.inl rfl,?_,I.bs,cO I.ok.bsz I.sz,?_,?_,I.stack,I.U7⟩,rfl,I.bare,?_,?_,?_,?_,?_,?_,?_,?_⟩
 ·intro x y c e1 e2
  exact I.ok.inj x y c (S.look x c e1) (S.look y c e2)
 ·intro x hx
  exact z5i S.U1 x (.inr (z6C S.cell hx))
 ·intro x c hf
  exact absurd hf bI
 ·intro b hb
  obtain⟨l,a1,a2,a3,a4⟩:=hex b hb
  exact⟨bW l,fun x c e=>a4 x c (S.look x c e)⟩
 ·intro b o e hb
  obtain⟨l,a1,a2,a3,a4⟩:=hex b hb
  rcases a3 with z|z
  ·exact I.ok.noex b o e z
  ·exact absurd (cN (lt0 b o e) z) (dM _)
 ·intro b hb hf
  obtain⟨l,a1,a2,a3,a4⟩:=hex b hb
  rcases bB.mp (I.P1 b hf) with z|z
  ·exact a1 z
  ·exact a2 z
 ·exact Un.kept hk
 ·refine⟨m,hn,fun i x v e1 e2 e3=>?_⟩
  have e2':(List.replicate own.length none++ix.map fun i=>(σ[i]?).join:St)[i]? = some (some v):=e2
  have e1':(own++D7)[i]? = some x:=e1
  by_cases hi:i<own.length
  ·rw[fE (by simpa using hi),gQ,if_pos hi] at e2'
   cases e2'
  ·have hi':own.length≤i:=jG hi
   rw[gC (by simpa using hi'),hV,bG] at e2'
   rw[gC hi'] at e1'
   cases q:ix[i-own.length]? with
   | none=>rw[q] at e2';cases e2'
   | some k=>
    rw[q] at e2'
    have X4:(σ[k]?).join=some v:=Option.some.inj e2'
    have e4:σ[k]? = some (some v):=by
     cases z:σ[k]? with
     | none=>rw[z] at X4;cases X4
     | some u=>rw[z] at X4;rw[show u=some v from X4]
    obtain⟨n1,n2,n3,n4⟩:=S.cap (i-own.length) k x e1' q
    obtain⟨mX,_,hl⟩:=I.loc
    obtain⟨u,r,l⟩:=hl k x v n1 e4 n3
    refine⟨u,r,?_⟩
    rcases l with ⟨kl,_⟩|⟨_,c,ec,ic⟩
    ·exact absurd kl n2
    ·obtain⟨c',ec'⟩:=z5i S.U1 x (.inr (z6C S.cell n4))
     have e5:=S.look x c' ec'
     rw[ec] at e5
     cases e5
     exact .inr ⟨n4,c,ec',ic.keeps hk⟩
 ·intro x c e
  obtain⟨v,q⟩:=I.cell x c (S.look x c e)
  exact⟨v,q.keeps hk⟩
 ·exact I.hok.fresh (bC _)
 ·intro x c e
  exact I.freeC x c (S.look x c e)
 ·intro p hp
  have hp':p∈X.pn++pins:=by
   have:p∈(X.pn++pins)++[]:=hp
   rwa [cU] at this
  obtain⟨e,n,ne,nf,d⟩:=I.pin p hp'
  refine⟨hk _ _ e,n,bW (bK e),fun z=>?_,d⟩
  rcases bB.mp (I.P1 p.1 z) with z|z
  ·exact ne z
  ·exact nf z
 ·exact I.hok.kept hk
 ·show(List.replicate own.length none++ix.map fun i=>(σ[i]?).join:St).length=(own++D7).length
  rw[bN,hV,b8,bN,S.capn]
def PTs(X:Cx)(ifs:List Expr)(t:TT):Prop:=
 ∀(pins:List (Addr×Obj)) (s:Shared) (σ:St) (H:Hp) (Q:Bool->Hp->Prop),Inv X pins σ H s->t σ H Q->
  wpAny (model X.prog X.w) X.A (forIn ifs true fun c r=>if r=true then do let ok <- isTrue c X.env (eval c X.env);pure (ForInStep.yield ok) else pure (ForInStep.yield r)) (TP X pins σ Q) X.xe s
def tYes:TT:=fun _ H Q=>Q true H
theorem z1Y:PTs X [] tYes:=fun _ _ _ H _ I h=>wpAny_tests_nil ⟨H,I,h⟩
theorem z26{c:Expr}{t:TT}(hc:PT X c t):PTs X [c] t:=fun pins s σ H Q I h=>wpAny_tests_one (hc pins s σ H Q I h)
def z5l(n:Nat)(σ σ':St):Prop:=σ'.length=σ.length/\∀i,n≤i->σ'[i]? = σ[i]?
def U0(n:Nat)(g:TG):Prop:=∀v σ H Q,g v σ H Q->g v σ H fun σ' H'=>Q σ' H'/\z5l n σ σ'
def y4E(n:Nat)(g:TGs):Prop:=∀vs σ H Q,g vs σ H Q->g vs σ H fun σ' H'=>Q σ' H'/\z5l n σ σ'
theorem z5l.refl(n:Nat)(σ:St):z5l n σ σ:=⟨rfl,fun _ _=>rfl⟩
theorem z5l.trans{n:Nat}{a b c:St}(x:z5l n a b)(y:z5l n b c):z5l n a c:=⟨y.1.trans x.1,fun i h=>(y.2 i h).trans (x.2 i h)⟩
theorem z0x{n i:Nat}(h:i<n):U0 n (y3q i):=fun v σ H Q q=>⟨q,by simp,fun j hj=>j0 (by omega)⟩
theorem z6X{n:Nat}:y4E n Z1:=fun vs σ H Q q=>⟨q.1,q.2,z5l.refl n σ⟩
def z9M(g:TG):Prop:=∀v σ H (Q Q':St->Hp->Prop),(∀σ' H',Q σ' H'->Q' σ' H')->g v σ H Q->g v σ H Q'
def z8h(g:TGs):Prop:=∀vs σ H (Q Q':St->Hp->Prop),(∀σ' H',Q σ' H'->Q' σ' H')->g vs σ H Q->g vs σ H Q'
theorem z0d{i:Nat}:z9M (y3q i):=fun _ _ _ _ _ f q=>f _ _ q
theorem z1e:z8h Z1:=fun _ _ _ _ _ f q=>⟨q.1,f _ _ q.2⟩
theorem z0P{t:TG}{u:TGs}(a:z9M t)(b:z8h u):z8h (y6Q t u):=fun vs σ H Q Q' f q=>by
 obtain⟨v,r,e,q⟩:=q
 exact⟨v,r,e,a _ _ _ _ _ (fun σ' H' z=>b _ _ _ _ _ f z) q⟩
theorem z6T{K:PySem.W.Frag}{n:Nat}{t:TGs}(a:z8h t):z9M (X8 K n t):=fun v σ H Q Q' f q=>by
 obtain⟨p,xs,e,h1,h2,q⟩:=q
 exact⟨p,xs,e,h1,h2,a _ _ _ _ _ f q⟩
theorem z20{n:Nat}{t:TG}{u:TGs}(a:U0 n t)(m:z9M t)(b:y4E n u)(m':z8h u):y4E n (y6Q t u):=fun vs σ H Q q=>by
 obtain⟨v,r,e,q⟩:=q
 refine⟨v,r,e,m _ _ _ _ _ (fun σ' H' z=>?_) (a _ _ _ _ q)⟩
 exact m' _ _ _ _ _ (fun σ2 H2 y=>⟨y.1,z.2.trans y.2⟩) (b _ _ _ _ z.1)
theorem z9f{K:PySem.W.Frag}{n k:Nat}{t:TGs}(a:y4E n t):U0 n (X8 K k t):=fun v σ H Q q=>by
 obtain⟨p,xs,e,h1,h2,q⟩:=q
 exact⟨p,xs,e,h1,h2,a _ _ _ _ q⟩
def z1A(g:TG)(tc:TT)(te:TE)(σ0:St)(x:V)(H:Hp)(ys:List V)(N:List V->Hp->Prop):Prop:=
 g x σ0 H fun σ2 H2=>tc σ2 H2 fun b H3=>if b=true then te σ2 H3 fun y H4=>N (ys++[y]) H4 else N ys H3
def y7y(own:Nat)(ix:List Nat)(wi:TI)(g:TG)(tc:TT)(te:TE)(σ:St)(H:Hp)(F:List V->Hp->Prop):Prop:=
 wi σ H fun J H1=>∃W:Nat->Nat->List V->Hp->Prop,(∃m,W 0 m [] H1)/\∀i m ys H,W i m ys H->
  (J.stop i H/\F ys H)\/(J.go i H/\ys.length<sizeLine/\∃N:List V->Hp->Prop,(∀zs H',N zs H'->∃m',m'<m/\W (i+1) m' zs H')/\
   ∀x H',J.yld i H x H'->z1A g tc te (z7X own ix σ) x H' ys N)
theorem z8y{elt iter tg:Expr}{ifs:List Expr}{pos:Pos}{pins:List (Addr×Obj)}{σ:St}{s2:Shared}{itv:Value}{g:TG}{tc:TT}{te:TE}{F:List V->Hp->Prop}{RR:Value->Addr->Result->Shared->Prop}{E:Value->Shared->Prop}
  (S:E7 X scope cl own D7 ix) (hc:X.calm=true)
  (hg:∀C s3 H1 ex pn,PG (z3S X scope cl (own++D7) C s3 H1 ex pn) tg g) (og:U0 own.length g) (mg:z9M g)
  (ht:∀C s3 H1 ex pn,PTs (z3S X scope cl (own++D7) C s3 H1 ex pn) ifs tc)
  (he:∀C s3 H1 ex pn,PE (z3S X scope cl (own++D7) C s3 H1 ex pn) elt te)
  (h:PIE X pins σ tg (fun J H1=>∃W:Nat->Nat->List V->Hp->Prop,(∃m,W 0 m [] H1)/\∀i m ys H,W i m ys H->
   (J.stop i H/\F ys H)\/(J.go i H/\ys.length<sizeLine/\∃N:List V->Hp->Prop,(∀zs H',N zs H'->∃m',m'<m/\W (i+1) m' zs H')/\
    ∀x H',J.yld i H x H'->z1A g tc te (z7X own.length ix σ) x H' ys N)) itv s2)
  (hRR:∀D C m H' ys s',Inv X pins σ (upd H' D (.lst ys)) s'->O8 X pins (upd H' D (.lst ys)) C->s'.heap.Ns C m->H' D=none->F ys H'->RR (.ref D) C (.ok .next) s') :
  wpAny (model X.prog X.w) X.A (newList []) (fun acc s3=>wpAny (model X.prog X.w) X.A (newFunctionEnv scope X.env.globals cl [] X.env.qual none .none (some X.env)) (fun cenv s4=>
   codeAny (model X.prog X.w) X.A (.compStart (.ListComp elt [⟨tg,iter,ifs,0⟩] scope pos) 0 itv acc { cenv with scope:=relabel scope X.env }) (RR acc cenv.locals) s4) E s3) E s2:=by
 obtain⟨it,fp,tn,J,H1,e,I2,T,st2,f2,W,⟨m0,w0⟩,turn⟩:=h
 subst e
 refine wpAny_newObj_type (wpAny_newFunctionEnv S.cell (by intro y hy;simp at hy) (fun h1 hns1 hsb1=>?_) S.kind)
 dsimp only at hns1 hsb1 ⊢
 generalize hH2:s2.heap.push { cls:=.type "list",dict:=none,data:=.seq ([]:List Value).toArray }=h2 at hns1 hsb1 ⊢
 have X1:∀b o,s2.heap.get? b=some o->h2.get? b=some o:=fun b o e=>hH2 ▸ b9 _ e
 have sz2:h2.objs.size=s2.heap.objs.size+1:=by rw[<- hH2,eO]
 have hDC:s2.heap.objs.size≠h2.objs.size:=by omega
 have U3:∀b o,h2.get? b=some o->h1.get? b=some o:=fun b o e=>hsb1.extBut b o (bW (bK e)) (b9 _ e)
 have w1h:h2.get? s2.heap.objs.size=some { cls:=.type "list",dict:=none,data:=.seq ([]:List Value).toArray }:=hH2 ▸ bF _ rfl
 have I3:Inv X pins σ H1 { s2 with heap:=h2,toks:=s2.toks }:=I2.kept X1
 have fD:O8 X pins H1 s2.heap.objs.size:=I2.T2 (bC _) I2.fresh
 have fDs:∀{H':Hp},H' s2.heap.objs.size=none->O8 X pins H' s2.heap.objs.size:=fun hn=>⟨hn,fD.2⟩
 have fpLt:∀b∈fp,b<s2.heap.objs.size:=fun b hb=>by
  obtain⟨o,e,_⟩:=T.obj _ _ st2 b hb
  exact bK e
 have hDfp:s2.heap.objs.size∉fp:=fun z=>dM _ (fpLt _ z)
 have w03:∀b∈s2.heap.objs.size::fp,b<h2.objs.size/\b≠X.env.locals/\b∉X.fs/\(b∈X.ex\/X.s₀.heap.objs.size≤b)/\∀x c,X.env.cells.lookup x=some c->c≠b:=fun b hb=>by
  rcases bB.mp hb with rfl|hb
  ·exact⟨by omega,fD.2.1,fD.2.2.1,fD.2.2.2.1,fD.2.2.2.2.1⟩
  ·have:=fpLt b hb
   obtain⟨_,a1,a2,a3,a4,_⟩:=f2 b hb
   exact⟨by rw[sz2];exact dE this,a1,a2,a3,a4⟩
 have I4:Inv (z3S X scope cl (own++D7) h2.objs.size { s2 with heap:=h2,toks:=s2.toks } H1 (s2.heap.objs.size::fp) pins) [] (z7X own.length ix σ) H1 { s2 with heap:=h1,toks:=s2.toks+([]:List (Str×Value)).length }:=
  y4F S I3 w03 hns1 U3
 generalize hX:z3S X scope cl (own++D7) h2.objs.size { s2 with heap:=h2,toks:=s2.toks } H1 (s2.heap.objs.size::fp) pins=Y at I4
 have HG:PG Y tg g:=by rw[<- hX];exact hg _ _ _ _ _
 have HT:PTs Y ifs tc:=by rw[<- hX];exact ht _ _ _ _ _
 have HE:PE Y elt te:=by rw[<- hX];exact he _ _ _ _ _
 have eP:Y.prog=X.prog:=by rw[<- hX];rfl
 have eW:Y.w=X.w:=by rw[<- hX];rfl
 have eK:Y.K=X.K:=by rw[<- hX];rfl
 have eA:Y.A=X.A:=by rw[<- hX];rfl
 have eC:Y.calm=true:=by rw[<- hX];exact hc
 have eE:Y.xe=noE:=by rw[<- hX];rfl
 have V8:Y.env=compEnvC scope cl h2.objs.size X.env:=by rw[<- hX];rfl
 have eEx:Y.ex=s2.heap.objs.size::fp:=by rw[<- hX];rfl
 have ePn:Y.pn=X.pn++pins:=by rw[<- hX];rfl
 have eFs:Y.fs=frs X.stack:=by rw[<- hX];rfl
 have w0h:∀x c,Y.env.cells.lookup x=some c->X.env.cells.lookup x=some c:=fun x c e=>by
  rw[V8] at e
  exact S.look x c e
 have Z6:Y.env.locals=h2.objs.size:=by rw[V8];rfl
 have fY:∀{pl:List (Addr×Obj)}{H':Hp}{b:Addr},b∈s2.heap.objs.size::fp->H' b=none->(∀p∈pl,p.1≠b)->O8 Y pl H' b:=fun {pl H' b} hb hn hpl=>by
  obtain⟨l,a1,a2,a3,a4⟩:=w03 b hb
  refine⟨hn,by rw[Z6];exact bW l,fun z=>?_,.inl (by rw[eEx];exact hb),fun x c e=>a4 x c (w0h x c e),fun p hp=>?_⟩
  ·rw[eFs] at z
   rcases bB.mp (I3.P1 b z) with z|z
   ·exact a1 z
   ·exact a2 z
  ·rcases bM.mp hp with z|z
   ·rw[ePn] at z
    rcases bB.mp hb with rfl|hb
    ·exact fD.2.2.2.2.2 p z
    ·exact(f2 b hb).2.2.2.2.2 p z
   ·exact hpl p z
 let IV:Nat->Shared->Prop:=fun n s'=>∃i ys its c H',Inv Y [] (z7X own.length ix σ) H' s'/\tn i s'.heap/\(∀b∈fp,H' b=none)/\H' s2.heap.objs.size=none/\Vals ys its/\
  s'.heap.get? s2.heap.objs.size=some { cls:=.type "list",data:=.seq its.toArray c }/\ys.length≤sizeLine/\W i n ys H'
 have loop:∀s3:Shared,s3={ s2 with heap:=h1,toks:=s2.toks+([]:List (Str×Value)).length }->
   codeAny (model X.prog X.w) X.A (.compLoop (.ListComp elt [⟨tg,iter,ifs,0⟩] scope pos) 0 (.ref it) (.ref s2.heap.objs.size) (compEnvC scope cl h2.objs.size X.env)) (RR (.ref s2.heap.objs.size) h2.objs.size) s3:=by
  rintro s3 rfl
  refine y0D IV ?_ m0 ⟨0,[],[],_,H1,I4,T.keep _ _ _ st2 fun b _ o e=>U3 b o (X1 b o e),fun b hb=>(f2 b hb).1,I2.fresh,.nil,U3 _ _ w1h,cR _,w0⟩
  rintro n s5 ⟨i,ys,its,c,H5,I5,st5,fr5,nD5,v5,gD5,z5,w5⟩
  have I5p:Inv Y [(s2.heap.objs.size,{ cls:=.type "list",data:=.seq its.toArray c })] (z7X own.length ix σ) H5 s5:=I5.N7 fun p hp=>by
   have e:p=(s2.heap.objs.size,{ cls:=.type "list",data:=.seq its.toArray c }):=by simpa using hp
   subst e
   obtain⟨_,b1,b2,_⟩:=fY (pl:=[]) (H':=H5) (b:=s2.heap.objs.size) bQ nD5 (fun p hp=>nomatch hp)
   exact⟨gD5,nD5,b1,b2,fun v z=>by cases z⟩
  have fps:∀{H':Hp},(∀b∈fp,H' b=none)->∀b∈fp,O8 Y [(s2.heap.objs.size,{ cls:=.type "list",data:=.seq its.toArray c })] H' b:=fun hn b hb=>
   fY (bL _ hb) (hn b hb) fun p hp=>by
    have e:p=(s2.heap.objs.size,{ cls:=.type "list",data:=.seq its.toArray c }):=by simpa using hp
    subst e
    exact fun z=>hDfp (by have z':s2.heap.objs.size=b:=z;rw[z'];exact hb)
  rcases turn i n ys H5 w5 with ⟨stop,fin⟩|⟨go,hlen,N,hN,step⟩
  ·have q:=T.done Y eP eW eK eC i _ s5 _ H5 noE I5p (fps fr5) st5 stop
   rw[eA] at q
   refine thn q fun r s6 ⟨hr,I6⟩=>?_
   subst hr
   have gD6:=(I6.pin (s2.heap.objs.size,{ cls:=.type "list",data:=.seq its.toArray c }) (bX _ (by simp))).1
   have u6:Un (frs X.stack) (s2.heap.objs.size::fp) H1 H5 h2 s6.heap:=by
    have:=I6.base
    rw[eFs,eEx] at this
    rw[<- hX] at this
    exact this
   have os6:s6.os=s2.os:=by
    have:=I6.os
    rw[<- hX] at this
    exact this
   have hok6:HOk X.prog X.w H5 s6.heap:=by
    have:=I6.hok
    rw[eP,eW] at this
    exact this
   have J6:Inv X pins σ H5 s6:=I3.w0T (s':=s6) os6 u6 hok6 I6.bare fun b hb=>by
    obtain⟨l,a1,a2,a3,a4⟩:=w03 b hb
    refine⟨a3,a1,a4,?_⟩
    rcases bB.mp hb with rfl|hb
    ·exact fD.2.2.2.2.2
    ·exact(f2 b hb).2.2.2.2.2
   have J7:Inv X pins σ (upd H5 s2.heap.objs.size (.lst ys)) s6:=J6.w0l (fDs nD5) ⟨z5,its,c,v5,gD6⟩
   obtain⟨mC,hC,_⟩:=I6.loc
   rw[Z6] at hC
   have nC:H5 h2.objs.size=none:=by
    have:=I6.free
    rw[Z6] at this
    exact this
   refine hRR _ _ mC H5 ys s6 J7 (I3.T2 (bC _) ?_) hC nD5 fin
   show upd H5 s2.heap.objs.size (.lst ys) h2.objs.size=none
   rw[z0e (d6 hDC)]
   exact nC
  ·have q:=T.item Y eP eW eK eC i _ s5 _ H5 noE I5p (fps fr5) st5 go
   rw[eA] at q
   refine thn q fun r s6 ⟨u,hr,h6⟩=>?_
   subst hr
   refine thn h6 fun _ s7 ⟨x,H7,I7,r7,y7,st7,fr7⟩=>?_
   have I7p:=I7.pinned (fps fr7) (T.obj _ _ st7)
   have st:=og _ _ _ _ (step x H7 y7)
   have q2:=HG _ s7 _ H7 x u _ I7p r7 st
   rw[eE,eP,eW,eA,V8] at q2
   refine thn q2 fun _ s8 ⟨σ8,H8,I8,q8,fr8⟩=>?_
   have q3:=HT _ s8 σ8 H8 _ I8 q8
   rw[eE,eP,eW,eA,V8] at q3
   refine thn q3 fun ok s9 ⟨H9,I9,q9⟩=>?_
   have back:∀{H':Hp}{s':Shared},Inv Y ([(s2.heap.objs.size,({ cls:=.type "list",data:=.seq its.toArray c }:Obj))]++y02 fp s7.heap) σ8 H' s'->
     Inv Y [] (z7X own.length ix σ) H' s'/\tn (i+1) s'.heap/\(∀b∈fp,H' b=none)/\H' s2.heap.objs.size=none/\s'.heap.get? s2.heap.objs.size=some { cls:=.type "list",data:=.seq its.toArray c }:=fun {H' s'} I'=>by
    have pD:=I'.pin (s2.heap.objs.size,{ cls:=.type "list",data:=.seq its.toArray c }) (bX _ (cM _ (by simp)))
    refine⟨(I'.N7 (pins':=[]) fun p hp=>nomatch hp).weak fr8.1.symm fun j v e=>?_,T.keep _ _ _ st7 fun b hb o e=>(I'.pin (b,o) (bX _ (bX _ (z4n hb e)))).1,fun b hb=>?_,pD.2.1,pD.1⟩
    ·by_cases hj:j<own.length
     ·have e':(List.replicate own.length none++ix.map fun i=>(σ[i]?).join:St)[j]? = some (some v):=e
      rw[fE (by simpa using hj),gQ,if_pos hj] at e'
      cases e'
     ·rw[fr8.2 j (jG hj)]
      exact e
    ·obtain⟨o,e,d⟩:=T.obj _ _ st7 b hb
     exact(I'.pin (b,o) (bX _ (bX _ (z4n hb e)))).2.1
   cases ok with
   | false=>
    obtain⟨m',hm,w9⟩:=hN _ _ (show N ys H9 from q9)
    obtain⟨b1,b2,b3,b4,b5⟩:=back I9
    exact⟨m',hm,i+1,ys,its,c,H9,b1,b2,b3,b4,v5,b5,z5,w9⟩
   | true=>
    have q9':te σ8 H9 fun y H4=>N (ys++[y]) H4:=q9
    have q4:=HE _ s9 σ8 H9 _ I9 q9'
    rw[eE,eP,eW,eA,V8] at q4
    refine thn q4 fun yv s10 ⟨y,H10,I10,r10,n10⟩=>?_
    obtain⟨b1,b2,b3,b4,b5⟩:=back I10
    obtain⟨m',hm,w10⟩:=hN _ _ n10
    have hl:=v5.length
    refine call_meets c7 ⟨_,b5,rfl⟩ PySem.F.entry_list_append (PySem.F.args_list_append_2 _ _) (PySem.list_append s2.heap.objs.size its.toArray c yv (by rw[bH];omega)) ⟨b5,?_⟩
    have q5:=PySem.IsL.update b5 (fun a=>a.push yv)
    have e5:its.toArray.push yv=(its++[yv]).toArray:=by simp
    rw[e5] at q5
    have k5:∀b o,b≠s2.heap.objs.size->s10.heap.get? b=some o->(s10.heap.update s2.heap.objs.size (Obj.mapSeq fun a=>a.push yv)).get? b=some o:=fun b o hb e=>
     (cI s10.heap (Obj.mapSeq fun a=>a.push yv) (d6 hb)).trans e
    obtain⟨f0,f1,f2',f3,f4,f5⟩:=fY (pl:=[]) (H':=H10) (b:=s2.heap.objs.size) bQ b4 (fun p hp=>nomatch hp)
    have b1':=b1.turned (t':=s10.toks) k5 f0 f1 f3 f4 f5
    refine⟨m',hm,i+1,ys++[y],its++[yv],_,H10,b1',T.keep _ _ _ b2 fun b hb o e=>k5 b o (fun z=>hDfp (by rw[<- z];exact hb)) e,b3,b4,v5.append (.cons r10 .nil),q5,?_,w10⟩
    ·rw[bN,dO]
     omega
 exact codeAny_compStart_list (loop _ rfl) (T.self _ 0 _ _ _ (T.keep _ _ _ st2 fun b _ o e=>U3 b o (X1 b o e)) (loop _ rfl))
def y7Y(own:Nat)(ix:List Nat)(wi:TI)(g:TG)(tc:TT)(te:TE):TE:=fun σ H Q=>y7y own ix wi g tc te σ H fun ys H'=>∀D,H' D=none->Q (.ref D) (upd H' D (.lst ys))
theorem z1i{elt iter tg:Expr}{ifs:List Expr}{pos:Pos}{wi:TI}{g:TG}{tc:TT}{te:TE}(own D7:List Str)(ix:List Nat)
  (hc:X.calm=true) (S:E7 X scope cl own D7 ix) (hi:PI X tg iter wi)
  (hg:∀C s3 H1 ex pn,PG (z3S X scope cl (own++D7) C s3 H1 ex pn) tg g) (og:U0 own.length g) (mg:z9M g)
  (ht:∀C s3 H1 ex pn,PTs (z3S X scope cl (own++D7) C s3 H1 ex pn) ifs tc)
  (he:∀C s3 H1 ex pn,PE (z3S X scope cl (own++D7) C s3 H1 ex pn) elt te)
  (hs:∀x,foldedSetIterable iter X.env x=pure x:=by intro _;rfl) :
  PE X (.ListComp elt [⟨tg,iter,ifs,0⟩] scope pos) (y7Y own.length ix wi g tc te):=by
 intro pins s σ H Q I h
 rw[eval_ListComp]
 refine wpAny_comprehension_free (use:=none) rfl hs (z6z S.U1) S.kind S.names (thn (hi pins s σ H _ I h) fun v s1 h1=>thn h1 fun itv s2 h2=>?_)
 refine z8y (RR:=fun acc C=>compPost (model X.prog X.w) X.A X.xe none (EP X pins σ Q) acc C) S hc hg og mg ht he h2 ?_
 intro D C m H' ys s' I' fC hn hD fin
 refine⟨m,hn,fun h' sb=>?_⟩
 obtain⟨f0,f1,f2,f3,f4,f5⟩:=fC
 have I2:=I'.turned (t':=s'.toks) (h':=h') (it:=C) (fun b o hb e=>(sb.2 b hb).trans e) f0 f1 f3 f4 f5
 exact⟨.ref D,_,I2,rfl,fin D hD⟩
theorem z4X{elt iter tg:Expr}{ifs:List Expr}{pos pos' spos:Pos}{x:Str}{i:Nat}{wi:TI}{g:TG}{tc:TT}{te:TE}(own D7:List Str)(ix:List Nat)
  (hc:X.calm=true) (hN:X.N.Nodup) (hx:X.N[i]? = some x) (hl:Loc X.env.scope x) (S:E7 X scope cl own D7 ix) (hi:PI X tg iter wi)
  (hg:∀C s3 H1 ex pn,PG (z3S X scope cl (own++D7) C s3 H1 ex pn) tg g) (og:U0 own.length g) (mg:z9M g)
  (ht:∀C s3 H1 ex pn,PTs (z3S X scope cl (own++D7) C s3 H1 ex pn) ifs tc)
  (he:∀C s3 H1 ex pn,PE (z3S X scope cl (own++D7) C s3 H1 ex pn) elt te)
  (hsw:swapsWith (.ListComp elt [⟨tg,iter,ifs,0⟩] scope pos) (some (.Name x pos')) spos.line X.env=pure true:=by rfl)
  (hf:X.fn x=true\/X.env.scope.names.lookup x=some .local:=by first|exact .inl rfl|exact .inr rfl|assumption)
  (hs:∀x,foldedSetIterable iter X.env x=pure x:=by intro _;rfl) :
  PS X (.Assign [.Name x pos'] (.ListComp elt [⟨tg,iter,ifs,0⟩] scope pos) spos) (Z4 (y7Y own.length ix wi g tc te) (y3q i)):=by
 intro pins s σ H D I h
 rw[exec_Assign_Name_used _ _ _ _ hsw]
 refine wpAny_bind (wpAny_standAt (wpAny_bind ?_))
 show wpAny _ X.A (do let _ <- comprehension (.ListComp elt [⟨tg,iter,ifs,0⟩] scope pos) scope X.env _ (newList []) false (eval iter X.env) (some (assign (.Name x pos') X.env))) _ _ s
 refine wpAny_bind (wpAny_mono (wpAny_comprehension_free (use:=some (assign (.Name x pos') X.env)) (Q:=fun _ s'=>SP X pins D .next s') rfl hs (z6z S.U1) S.kind S.names
  (thn (hi pins s σ H _ I h) fun v s1 h1=>thn h1 fun itv s2 h2=>?_)) (fun _ s' hq=>wpAny_pure (wpAny_pure hq)) fun _ _ e=>e)
 refine z8y (RR:=fun acc C=>compPost (model X.prog X.w) X.A X.xe (some (assign (.Name x pos') X.env)) (fun _ s'=>SP X pins D .next s') acc C) S hc hg og mg ht he h2 ?_
 intro D' C m H' ys s' I' fC hn hD fin
 obtain⟨f0,f1,f2,f3,f4,f5⟩:=fC
 obtain⟨oC,es,ep,hoC,hdC,hr⟩:=id hn
 show wpAny _ X.A (assign (.Name x pos') X.env (.ref D')) _ _ _
 have Ip:Inv X (pins++[(C,oC)]) σ (upd H' D' (.lst ys)) s':=I'.N7 fun p hp=>(bM.mp hp).elim (fun z=>I'.pin p (bX _ z)) fun z=>by
  have e:p=(C,oC):=by simpa using z
  subst e
  exact⟨hoC,f0,f1,f2,fun v z=>by rw[hdC] at z;cases z⟩
 refine thn (z0j hN hx hl hf (pins++[(C,oC)]) s' σ _ (.ref D') (.ref D') _ Ip rfl (fin D' hD)) fun _ s3 ⟨σ3,H3,I3,q3⟩=>?_
 have pC:=I3.pin (C,oC) (bX _ (bX _ (by simp)))
 refine⟨m,⟨oC,es,ep,pC.1,hdC,hr⟩,fun h' sb=>?_⟩
 have I4:Inv X pins σ3 H3 s3:=I3.N2
 exact⟨σ3,H3,I4.turned (t':=s3.toks) (h':=h') (it:=C) (fun b o hb e=>(sb.2 b hb).trans e) pC.2.1 f1 f3 f4 f5,q3⟩
end
section
variable{prog:Program}{w:World}{A:Around}{R:Result->Shared->Prop}{I:Addr}{fp wr:List Addr}{n:Nat}{P:Nat->Value->Prop}{St:Nat->Heap->Prop}
theorem y5p(W:Walks prog w A.in1 I fp wr n P St)(bt:Nat->Nat->Bool)(P0:CmpOf prog w A.in1 .Gt P bt)(S:Addr)(hSf:S∉fp)(kw:List (Str×Value)) :
  ∀(k j:Nat) (s:Shared) (vb:Value) (c:Nat),n-(j+1)=k->j+1≤n->St (j+1) s.heap->P (argBest bt j) vb->
  s.heap.get? S=some { cls:=.type "list",dict:=none,data:=.seq #[vb,vb] c,slots:=#[] }->
  (∀v h' tk,P (argBest bt (n-1)) v->(∀b o,b∉wr->b≠S->s.heap.get? b=some o->h'.get? b=some o)->R (.ok (.ret v)) { s with heap:=h',toks:=tk })->
  codeAny (model prog w) A (.builtin "max.loop" ⟨[.ref I,.none,.ref S],kw⟩) R s:=by
 have hSw:S∉wr:=fun h=>hSf (W.sub _ h)
 have K1:(toString "max"++toString ".loop":String)="max.loop":=by decide
 intro k
 induction k with
 | zero=>
  intro j s vb c hk hj hst hPb hS hR
  have hin:j+1=n:=by omega
  refine codeAny_builtin fU ?_
  rw[c9 dB _]
  show wpAny _ A.in1 (seqItems? (.ref S) >>= _) _ _ s
  refine wpAny_bind (wpAny_seqItems hS rfl ?_)
  show wpAny _ A.in1 (tryCatch (pyNext (.ref I)) _ >>= _) _ _ s
  refine wpAny_bind (wpAny_tryCatch (W.done s _ _ (hin ▸ hst) fun h' tk hk'=>?_))
  have hS':=hk' S _ hSw hS
  show wpAny _ A.in1 (updateSeq S (fun _=>#[]) >>= _) _ _ _
  refine wpAny_bind ?_
  refine wpAny_updateSeq hS' rfl (wpAny_bind (wpAny_letGo (wpAny_pure ?_)))
  refine hR vb _ tk (by rw[<- hin];exact hPb) fun b o hbw hbS e=>(cI _ _ (d6 hbS)).trans (hk' b o hbw e)
 | succ k ih=>
  intro j s vb c hk hj hst hPb hS hR
  have hlt:j+1<n:=by omega
  refine codeAny_builtin fU ?_
  rw[c9 dB _]
  show wpAny _ A.in1 (seqItems? (.ref S) >>= _) _ _ s
  refine wpAny_bind (wpAny_seqItems hS rfl ?_)
  show wpAny _ A.in1 (tryCatch (pyNext (.ref I)) _ >>= _) _ _ s
  refine wpAny_bind (wpAny_tryCatch (W.item (j+1) s _ _ hlt hst fun v h' tk hP hst' hk'=>?_))
  have hS':=hk' S _ hSw hS
  show wpAny _ A.in1 (tryCatch (holding [v,v] (richCompare .Gt v vb >>= _)) _ >>= _) _ _ _
  refine wpAny_bind (wpAny_tryCatch (wpAny_holding (wpAny_bind (P0 (j+1) (argBest bt j) v vb _ _ _ hP hPb ?_))))
  refine wpAny_bind (wpAny_holding (wpAny_truthy_bool ?_))
  refine wpAny_bind (wpAny_letGo (wpAny_pure ?_))
  cases hb:bt (j+1) (argBest bt j) with
  | true=>
   simp only[if_true]
   refine wpAny_bind ?_
   refine wpAny_updateSeq hS' rfl (wpAny_bind (wpAny_letGo ?_))
   rw[K1]
   refine wpAny_pure ⟨plainId_quiet dB _,ih (j+1) _ v _ (by omega) hlt (W.frame _ _ _ hst' fun b hbf o e=>?_) (by simp only[argBest,hb,if_true];exact hP) (cW _ hS' rfl)
    fun v' h'' tk'' hP' hk''=>?_⟩
   ·exact(cI _ _ (fun h:S=b=>hSf (by rw[h];exact hbf))).trans e
   ·exact hR v' h'' tk'' hP' fun b o hbw hbS e=>hk'' b o hbw hbS ((cI _ _ (d6 hbS)).trans (hk' b o hbw e))
  | false=>
   simp only[e8,if_false]
   refine wpAny_bind (wpAny_letGo ?_)
   rw[K1]
   refine wpAny_pure ⟨plainId_quiet dB _,ih (j+1) _ vb c (by omega) hlt hst' (by simp only[argBest,hb,e8,if_false];exact hPb) hS' fun v' h'' tk'' hP' hk''=>?_⟩
   exact hR v' h'' tk'' hP' fun b o hbw hbS e=>hk'' b o hbw hbS (hk' b o hbw e)
theorem y4c(W:Walks prog w A.in1 I fp wr n P St)(bt:Nat->Nat->Bool)(P0:CmpOf prog w A.in1 .Gt P bt)(S:Addr)(hSf:S∉fp)(kw:List (Str×Value))(hn:0<n){s:Shared}{c:Nat}(hst:St 0 s.heap)
  (hS:s.heap.get? S=some { cls:=.type "list",dict:=none,data:=.seq #[] c,slots:=#[] })
  (hR:∀v h' tk,P (argBest bt (n-1)) v->(∀b o,b∉wr->b≠S->s.heap.get? b=some o->h'.get? b=some o)->R (.ok (.ret v)) { s with heap:=h',toks:=tk }) :
  codeAny (model prog w) A (.builtin "max.loop" ⟨[.ref I,.none,.ref S],kw⟩) R s:=by
 have hSw:S∉wr:=fun h=>hSf (W.sub _ h)
 have K1:(toString "max"++toString ".loop":String)="max.loop":=by decide
 refine codeAny_builtin fU ?_
 rw[c9 dB _]
 show wpAny _ A.in1 (seqItems? (.ref S) >>= _) _ _ s
 refine wpAny_bind (wpAny_seqItems hS rfl ?_)
 show wpAny _ A.in1 (tryCatch (pyNext (.ref I)) _ >>= _) _ _ s
 refine wpAny_bind (wpAny_tryCatch (W.item 0 s _ _ hn hst fun v h' tk hP hst' hk'=>?_))
 have hS':=hk' S _ hSw hS
 show wpAny _ A.in1 (updateSeq S (fun _=>#[v,v]) >>= _) _ _ _
 refine wpAny_bind ?_
 refine wpAny_updateSeq hS' rfl ?_
 rw[K1]
 refine wpAny_pure ⟨plainId_quiet dB _,y5p W bt P0 S hSf kw _ 0 _ v _ rfl hn (W.frame _ _ _ hst' fun b hbf o e=>?_) hP (cW _ hS' rfl) fun v' h'' tk'' hP' hk''=>?_⟩
 ·exact(cI _ _ (fun h:S=b=>hSf (by rw[h];exact hbf))).trans e
 ·exact hR v' h'' tk'' hP' fun b o hbw hbS e=>hk'' b o hbw hbS ((cI _ _ (d6 hbS)).trans (hk' b o hbw e))
theorem y5C(W:Walks prog w A.in1 I fp wr n P St)(S:Addr)(hSf:S∉fp)(kn:Str)(d:Value)(hn:n=0){s:Shared}{c:Nat}(hst:St 0 s.heap)
  (hS:s.heap.get? S=some { cls:=.type "list",dict:=none,data:=.seq #[] c,slots:=#[] })
  (hR:∀h' tk,(∀b o,b∉wr->s.heap.get? b=some o->h'.get? b=some o)->R (.ok (.ret d)) { s with heap:=h',toks:=tk }) :
  codeAny (model prog w) A (.builtin "max.loop" ⟨[.ref I,.none,.ref S],[(kn,d)]⟩) R s:=by
 refine codeAny_builtin fU ?_
 rw[c9 dB _]
 show wpAny _ A.in1 (seqItems? (.ref S) >>= _) _ _ s
 refine wpAny_bind (wpAny_seqItems hS rfl ?_)
 show wpAny _ A.in1 (tryCatch (pyNext (.ref I)) _ >>= _) _ _ s
 refine wpAny_bind (wpAny_tryCatch (W.done s _ _ (hn ▸ hst) fun h' tk hk'=>?_))
 exact wpAny_bind (wpAny_rule (wpAny_pure (hR h' tk hk')))
theorem z6L(a v:Value):argsOk "max" ⟨[a],[(Str.ofString "default",v)]⟩:=by unfold argsOk;kernel_rfl
theorem y58{x d:Value}{s:Shared}{E:Value->Shared->Prop}{Q:Value->Shared->Prop}
  (h:wpAny (model prog w) A.in1 (pyIter x) (fun it s2=>∃I fp wr n P St bt,it=.ref I/\Walks prog w A.in1 I fp wr n P St/\St 0 s2.heap/\(∀b∈fp,b<s2.heap.objs.size)/\CmpOf prog w A.in1 .Gt P bt/\
   (n=0->∀h' tk,(∀b o,b∉wr->s2.heap.get? b=some o->h'.get? b=some o)->Q d { s2 with heap:=h',toks:=tk })/\
   (0<n->∀v h' tk,P (argBest bt (n-1)) v->(∀b o,b∉wr->s2.heap.get? b=some o->h'.get? b=some o)->Q v { s2 with heap:=h',toks:=tk })) E s) :
  wpAny (model prog w) A (call (.builtin "max") [x] [(Str.ofString "default",d)]) Q E s:=by
 have K1:(toString "max"++toString ".loop":String)="max.loop":=by decide
 refine kmk_tree PySem.F.kind_max PySem.F.plain_max PySem.F.entry_max (z6L _ _) ?_
 show wpAny _ A.in1 (Builtin.Builtins.bindParams "max" ["key","default"] 0 ⟨[],[(Str.ofString "default",d)]⟩ >>= _) _ _ s
 refine wpAny_bind (wpAny_of_eq (show Builtin.Builtins.bindParams "max" ["key","default"] 0 ⟨[],[(Str.ofString "default",d)]⟩=pure [none,some d] from by kernel_rfl) ?_)
 refine wpAny_bind (wpAny_pure ?_)
 refine wpAny_bind (wpAny_mono h (fun it s2 h2=>?_) fun _ _ e=>e)
 obtain⟨I,fp,wr,n,P,St,bt,rfl,W,hst,hfp,P0,hQ0,hQ⟩:=h2
 refine wpAny_bind (wpAny_newObj_type ?_)
 have hSf:s2.heap.objs.size∉fp:=fun hm=>dM _ (hfp _ hm)
 rw[K1]
 refine wpAny_pure ⟨plainId_quiet dB _,?_⟩
 by_cases hn:n=0
 ·exact y5C W s2.heap.objs.size hSf _ d hn (W.frame _ _ _ hst fun b _ o e=>b9 _ e) (bF _ rfl) fun h' tk hk=>hQ0 hn h' tk fun b o hbw e=>hk b o hbw (b9 _ e)
 ·exact y4c W bt P0 s2.heap.objs.size hSf _ (fR hn) (W.frame _ _ _ hst fun b _ o e=>b9 _ e) (bF _ rfl) fun v h' tk hP hk=>
   hQ (fR hn) v h' tk hP fun b o hbw e=>hk b o hbw (bW (bK e)) (b9 _ e)
theorem y4U(W:Walks prog w A.in1 I fp wr n P St)(bt:Nat->Nat->Bool)(P0:CmpOf prog w A.in1 .Lt P bt)(S:Addr)(hSf:S∉fp)(kw:List (Str×Value)) :
  ∀(k j:Nat) (s:Shared) (vb:Value) (c:Nat),n-(j+1)=k->j+1≤n->St (j+1) s.heap->P (argBest bt j) vb->
  s.heap.get? S=some { cls:=.type "list",dict:=none,data:=.seq #[vb,vb] c,slots:=#[] }->
  (∀v h' tk,P (argBest bt (n-1)) v->(∀b o,b∉wr->b≠S->s.heap.get? b=some o->h'.get? b=some o)->R (.ok (.ret v)) { s with heap:=h',toks:=tk })->
  codeAny (model prog w) A (.builtin "min.loop" ⟨[.ref I,.none,.ref S],kw⟩) R s:=by
 have hSw:S∉wr:=fun h=>hSf (W.sub _ h)
 have K1:(toString "min"++toString ".loop":String)="min.loop":=by decide
 intro k
 induction k with
 | zero=>
  intro j s vb c hk hj hst hPb hS hR
  have hin:j+1=n:=by omega
  refine codeAny_builtin fV ?_
  rw[c9 dC _]
  show wpAny _ A.in1 (seqItems? (.ref S) >>= _) _ _ s
  refine wpAny_bind (wpAny_seqItems hS rfl ?_)
  show wpAny _ A.in1 (tryCatch (pyNext (.ref I)) _ >>= _) _ _ s
  refine wpAny_bind (wpAny_tryCatch (W.done s _ _ (hin ▸ hst) fun h' tk hk'=>?_))
  have hS':=hk' S _ hSw hS
  show wpAny _ A.in1 (updateSeq S (fun _=>#[]) >>= _) _ _ _
  refine wpAny_bind ?_
  refine wpAny_updateSeq hS' rfl (wpAny_bind (wpAny_letGo (wpAny_pure ?_)))
  refine hR vb _ tk (by rw[<- hin];exact hPb) fun b o hbw hbS e=>(cI _ _ (d6 hbS)).trans (hk' b o hbw e)
 | succ k ih=>
  intro j s vb c hk hj hst hPb hS hR
  have hlt:j+1<n:=by omega
  refine codeAny_builtin fV ?_
  rw[c9 dC _]
  show wpAny _ A.in1 (seqItems? (.ref S) >>= _) _ _ s
  refine wpAny_bind (wpAny_seqItems hS rfl ?_)
  show wpAny _ A.in1 (tryCatch (pyNext (.ref I)) _ >>= _) _ _ s
  refine wpAny_bind (wpAny_tryCatch (W.item (j+1) s _ _ hlt hst fun v h' tk hP hst' hk'=>?_))
  have hS':=hk' S _ hSw hS
  show wpAny _ A.in1 (tryCatch (holding [v,v] (richCompare .Lt v vb >>= _)) _ >>= _) _ _ _
  refine wpAny_bind (wpAny_tryCatch (wpAny_holding (wpAny_bind (P0 (j+1) (argBest bt j) v vb _ _ _ hP hPb ?_))))
  refine wpAny_bind (wpAny_holding (wpAny_truthy_bool ?_))
  refine wpAny_bind (wpAny_letGo (wpAny_pure ?_))
  cases hb:bt (j+1) (argBest bt j) with
  | true=>
   simp only[if_true]
   refine wpAny_bind ?_
   refine wpAny_updateSeq hS' rfl (wpAny_bind (wpAny_letGo ?_))
   rw[K1]
   refine wpAny_pure ⟨plainId_quiet dC _,ih (j+1) _ v _ (by omega) hlt (W.frame _ _ _ hst' fun b hbf o e=>?_) (by simp only[argBest,hb,if_true];exact hP) (cW _ hS' rfl)
    fun v' h'' tk'' hP' hk''=>?_⟩
   ·exact(cI _ _ (fun h:S=b=>hSf (by rw[h];exact hbf))).trans e
   ·exact hR v' h'' tk'' hP' fun b o hbw hbS e=>hk'' b o hbw hbS ((cI _ _ (d6 hbS)).trans (hk' b o hbw e))
  | false=>
   simp only[e8,if_false]
   refine wpAny_bind (wpAny_letGo ?_)
   rw[K1]
   refine wpAny_pure ⟨plainId_quiet dC _,ih (j+1) _ vb c (by omega) hlt hst' (by simp only[argBest,hb,e8,if_false];exact hPb) hS' fun v' h'' tk'' hP' hk''=>?_⟩
   exact hR v' h'' tk'' hP' fun b o hbw hbS e=>hk'' b o hbw hbS (hk' b o hbw e)
theorem y2U(W:Walks prog w A.in1 I fp wr n P St)(bt:Nat->Nat->Bool)(P0:CmpOf prog w A.in1 .Lt P bt)(S:Addr)(hSf:S∉fp)(kw:List (Str×Value))(hn:0<n){s:Shared}{c:Nat}(hst:St 0 s.heap)
  (hS:s.heap.get? S=some { cls:=.type "list",dict:=none,data:=.seq #[] c,slots:=#[] })
  (hR:∀v h' tk,P (argBest bt (n-1)) v->(∀b o,b∉wr->b≠S->s.heap.get? b=some o->h'.get? b=some o)->R (.ok (.ret v)) { s with heap:=h',toks:=tk }) :
  codeAny (model prog w) A (.builtin "min.loop" ⟨[.ref I,.none,.ref S],kw⟩) R s:=by
 have hSw:S∉wr:=fun h=>hSf (W.sub _ h)
 have K1:(toString "min"++toString ".loop":String)="min.loop":=by decide
 refine codeAny_builtin fV ?_
 rw[c9 dC _]
 show wpAny _ A.in1 (seqItems? (.ref S) >>= _) _ _ s
 refine wpAny_bind (wpAny_seqItems hS rfl ?_)
 show wpAny _ A.in1 (tryCatch (pyNext (.ref I)) _ >>= _) _ _ s
 refine wpAny_bind (wpAny_tryCatch (W.item 0 s _ _ hn hst fun v h' tk hP hst' hk'=>?_))
 have hS':=hk' S _ hSw hS
 show wpAny _ A.in1 (updateSeq S (fun _=>#[v,v]) >>= _) _ _ _
 refine wpAny_bind ?_
 refine wpAny_updateSeq hS' rfl ?_
 rw[K1]
 refine wpAny_pure ⟨plainId_quiet dC _,y4U W bt P0 S hSf kw _ 0 _ v _ rfl hn (W.frame _ _ _ hst' fun b hbf o e=>?_) hP (cW _ hS' rfl) fun v' h'' tk'' hP' hk''=>?_⟩
 ·exact(cI _ _ (fun h:S=b=>hSf (by rw[h];exact hbf))).trans e
 ·exact hR v' h'' tk'' hP' fun b o hbw hbS e=>hk'' b o hbw hbS ((cI _ _ (d6 hbS)).trans (hk' b o hbw e))
theorem y5E(W:Walks prog w A.in1 I fp wr n P St)(S:Addr)(hSf:S∉fp)(kn:Str)(d:Value)(hn:n=0){s:Shared}{c:Nat}(hst:St 0 s.heap)
  (hS:s.heap.get? S=some { cls:=.type "list",dict:=none,data:=.seq #[] c,slots:=#[] })
  (hR:∀h' tk,(∀b o,b∉wr->s.heap.get? b=some o->h'.get? b=some o)->R (.ok (.ret d)) { s with heap:=h',toks:=tk }) :
  codeAny (model prog w) A (.builtin "min.loop" ⟨[.ref I,.none,.ref S],[(kn,d)]⟩) R s:=by
 refine codeAny_builtin fV ?_
 rw[c9 dC _]
 show wpAny _ A.in1 (seqItems? (.ref S) >>= _) _ _ s
 refine wpAny_bind (wpAny_seqItems hS rfl ?_)
 show wpAny _ A.in1 (tryCatch (pyNext (.ref I)) _ >>= _) _ _ s
 refine wpAny_bind (wpAny_tryCatch (W.done s _ _ (hn ▸ hst) fun h' tk hk'=>?_))
 exact wpAny_bind (wpAny_rule (wpAny_pure (hR h' tk hk')))
theorem z6K(a v:Value):argsOk "min" ⟨[a],[(Str.ofString "default",v)]⟩:=by unfold argsOk;kernel_rfl
theorem y5A{x d:Value}{s:Shared}{E:Value->Shared->Prop}{Q:Value->Shared->Prop}
  (h:wpAny (model prog w) A.in1 (pyIter x) (fun it s2=>∃I fp wr n P St bt,it=.ref I/\Walks prog w A.in1 I fp wr n P St/\St 0 s2.heap/\(∀b∈fp,b<s2.heap.objs.size)/\CmpOf prog w A.in1 .Lt P bt/\
   (n=0->∀h' tk,(∀b o,b∉wr->s2.heap.get? b=some o->h'.get? b=some o)->Q d { s2 with heap:=h',toks:=tk })/\
   (0<n->∀v h' tk,P (argBest bt (n-1)) v->(∀b o,b∉wr->s2.heap.get? b=some o->h'.get? b=some o)->Q v { s2 with heap:=h',toks:=tk })) E s) :
  wpAny (model prog w) A (call (.builtin "min") [x] [(Str.ofString "default",d)]) Q E s:=by
 have K1:(toString "min"++toString ".loop":String)="min.loop":=by decide
 refine kmk_tree PySem.F.kind_min PySem.F.plain_min PySem.F.entry_min (z6K _ _) ?_
 show wpAny _ A.in1 (Builtin.Builtins.bindParams "min" ["key","default"] 0 ⟨[],[(Str.ofString "default",d)]⟩ >>= _) _ _ s
 refine wpAny_bind (wpAny_of_eq (show Builtin.Builtins.bindParams "min" ["key","default"] 0 ⟨[],[(Str.ofString "default",d)]⟩=pure [none,some d] from by kernel_rfl) ?_)
 refine wpAny_bind (wpAny_pure ?_)
 refine wpAny_bind (wpAny_mono h (fun it s2 h2=>?_) fun _ _ e=>e)
 obtain⟨I,fp,wr,n,P,St,bt,rfl,W,hst,hfp,P0,hQ0,hQ⟩:=h2
 refine wpAny_bind (wpAny_newObj_type ?_)
 have hSf:s2.heap.objs.size∉fp:=fun hm=>dM _ (hfp _ hm)
 rw[K1]
 refine wpAny_pure ⟨plainId_quiet dC _,?_⟩
 by_cases hn:n=0
 ·exact y5E W s2.heap.objs.size hSf _ d hn (W.frame _ _ _ hst fun b _ o e=>b9 _ e) (bF _ rfl) fun h' tk hk=>hQ0 hn h' tk fun b o hbw e=>hk b o hbw (b9 _ e)
 ·exact y2U W bt P0 s2.heap.objs.size hSf _ (fR hn) (W.frame _ _ _ hst fun b _ o e=>b9 _ e) (bF _ rfl) fun v h' tk hP hk=>
   hQ (fR hn) v h' tk hP fun b o hbw e=>hk b o hbw (bW (bK e)) (b9 _ e)
end
theorem z8K(f:Nat->Int):∀k,argBest (fun i j=>decide (f i > f j)) k≤k/\∀i,i≤k->f i≤f (argBest (fun i j=>decide (f i > f j)) k)
 | 0=>⟨bC _,fun i hi=>by rw[Nat.le_zero.mp hi];exact dN _⟩
 | k+1=>by
  obtain⟨h1,h2⟩:=z8K f k
  unfold argBest
  by_cases c:f (k+1) > f (argBest (fun i j=>decide (f i > f j)) k)
  ·rw[if_pos (decide_eq_true c)]
   refine⟨bC _,fun i hi=>?_⟩
   by_cases e:i=k+1
   ·rw[e];exact dN _
   ·have:=h2 i (by omega)
    omega
  ·rw[if_neg (by rw[decide_eq_false c];exact bI)]
   refine⟨by omega,fun i hi=>?_⟩
   by_cases e:i=k+1
   ·rw[e];omega
   ·exact h2 i (by omega)
theorem z9e(f:Nat->Int):∀k,argBest (fun i j=>decide (f i<f j)) k≤k/\∀i,i≤k->f (argBest (fun i j=>decide (f i<f j)) k)≤f i
 | 0=>⟨bC _,fun i hi=>by rw[Nat.le_zero.mp hi];exact dN _⟩
 | k+1=>by
  obtain⟨h1,h2⟩:=z9e f k
  unfold argBest
  by_cases c:f (k+1)<f (argBest (fun i j=>decide (f i<f j)) k)
  ·rw[if_pos (decide_eq_true c)]
   refine⟨bC _,fun i hi=>?_⟩
   by_cases e:i=k+1
   ·rw[e];exact dN _
   ·have:=h2 i (by omega)
    omega
  ·rw[if_neg (by rw[decide_eq_false c];exact bI)]
   refine⟨by omega,fun i hi=>?_⟩
   by_cases e:i=k+1
   ·rw[e];omega
   ·exact h2 i (by omega)
section
variable{X:Cx}
def SqI(K:PySem.W.Frag)(H:Hp)(p:Addr)(ns:List Int):Prop:=SqL K H p (ns.map V.int)\/SqT K H p (ns.map V.int)
theorem z2C{ns:List Int}{its:List Value}(r:Vals (ns.map V.int) its):∀(i:Nat) (v:Value),its.toArray[i]? = some v->∃t,v=.int (ns.getD i 0) t:=by
 intro i v e
 have e':its[i]? = some v:=by simpa using e
 have hi:i<its.length:=(cD.mp e').1
 have hl:=r.length
 rw[b8] at hl
 obtain⟨u,hu,ru⟩:=r.get (i:=i) (x:=.int (ns.getD i 0)) (by
  rw[bG,bJ]
  have:ns[i]? = some ns[i]:=bD (by omega)
  rw[this];rfl)
 rw[e'] at hu
 cases hu
 exact ru
theorem z5D{pins:List (Addr×Obj)}{σ:St}{H:Hp}{s:Shared}{p:Addr}{ns:List Int}{A:Around}{E:Value->Shared->Prop}{Q:Value->Shared->Prop}(I:Inv X pins σ H s)(hh:A.handled=none)(hq:SqI X.K H p ns)
  (h:∀(it:Addr) (fp:List Addr) (St:Nat->Heap->Prop) (its:List Value) (s2:Shared),Vals (ns.map V.int) its->Walks X.prog X.w A it fp [it] its.toArray.size (fun i v=>its.toArray[i]? = some v) St->St 0 s2.heap->(∀b∈fp,b<s2.heap.objs.size)->
   (∀h' tk,(∀b o,b∉[it]->s2.heap.get? b=some o->h'.get? b=some o)->Inv X pins σ H { s2 with heap:=h',toks:=tk })->Q (.ref it) s2) :
  wpAny (model X.prog X.w) A (pyIter (.ref p)) Q E s:=by
 have back:∀(o:Obj) (h':Heap) (tk:Nat),(∀b ob,b∉[s.heap.objs.size]->(s.heap.push o).get? b=some ob->h'.get? b=some ob)->Inv X pins σ H { s with heap:=h',toks:=tk }:=fun o h' tk k=>
  I.kept fun b ob e=>k b ob (fun z=>absurd (bK e) (by rw[bA.mp z];exact dM _)) (b9 _ e)
 rcases hq with hq|hq
 ·obtain⟨its,r,pl,hz⟩:=I.list hq
  have hlt:p<s.heap.objs.size:=by obtain⟨_,e,_⟩:=pl.isList;exact bK e
  refine wpAny_pyIter_list pl.isList ?_
  refine h s.heap.objs.size [s.heap.objs.size,p] _ its _ r (Walks.list hh s.heap.objs.size p (bW hlt) its.toArray) ⟨⟨_,bF _ rfl,rfl,rfl⟩,pl.isList.push _⟩ (fun b hb=>?_) fun h' tk k=>back _ h' tk k
  show b<(s.heap.push _).objs.size
  rw[eO]
  rcases bB.mp hb with rfl|hb
  ·exact eQ _
  ·rw[bA.mp hb];exact dE hlt
 ·obtain⟨its,r,pl,hz⟩:=I.tuple hq
  have hlt:p<s.heap.objs.size:=by obtain⟨_,e,_⟩:=pl;exact bK e
  refine wpAny_pyIter_tuple (show s.heap.IsTuple p its.toArray from pl) ?_
  refine h s.heap.objs.size [s.heap.objs.size,p] _ its _ r (Walks.tuple hh s.heap.objs.size p (bW hlt) its.toArray) ⟨⟨_,bF _ rfl,rfl,rfl⟩,?_⟩ (fun b hb=>?_) fun h' tk k=>back _ h' tk k
  ·obtain⟨o,e,c⟩:=(show s.heap.IsTuple p its.toArray from pl)
   exact⟨o,b9 _ e,c⟩
  ·show b<(s.heap.push _).objs.size
   rw[eO]
   rcases bB.mp hb with rfl|hb
   ·exact eQ _
   ·rw[bA.mp hb];exact dE hlt
def y5Y(K:PySem.W.Frag)(le:Int->Int->Prop)(ta td:TA):TE:=fun σ H Q=>ta σ H fun xs H1=>td σ H1 fun ds H2=>∃p ns d,xs=[.ref p]/\ds=[d]/\SqI K H2 p ns/\(ns=[]->Q d H2)/\∀m,m∈ns->(∀y∈ns,le y m)->Q (.int m) H2
theorem z6Q{ns:List Int}{i:Nat}(h:i<ns.length):ns.getD i 0∈ns:=by
 rw[bJ,bD h]
 exact eU h
theorem z6O{ns:List Int}{y:Int}(h:y∈ns):∃i,i<ns.length/\ns.getD i 0=y:=by
 obtain⟨i,hi,e⟩:=List.mem_iff_getElem.mp h
 refine⟨i,hi,?_⟩
 rw[bJ,bD hi]
 exact e
theorem y3b{e:Expr}{p pos kp:Pos}{dx:Expr}{ta td:TA}(hc:X.calm=true)(hg:Gl X "max")(hm:X.mg "max"=none)(ha:PA X [e] ta)(hd:PK X [⟨some (Str.ofString "default"),dx,kp⟩] td)
  (he:backTo pos (starEach [e] X.env)=(false,eval e X.env)::backTo pos (starEach [] X.env):=by rfl)
  (Q0:(backTo pos (starEach [e] X.env)).any (·.1)=false:=by rfl)
  (B3:(backToKw pos (keywordEach [⟨some (Str.ofString "default"),dx,kp⟩] X.env)).all (·.1.isSome)=true:=by rfl)
  (hkw:(backToKw pos (keywordEach [⟨some (Str.ofString "default"),dx,kp⟩] X.env)).any (·.1.isNone)=false:=by rfl) :
  PE X (.Call (.Name "max" p) [e] [⟨some (Str.ofString "default"),dx,kp⟩] pos) (y5Y X.K (fun y m=>y≤m) ta td):=by
 intro pins s σ H Q I h
 refine wpAny_Call_Name_kw (z6G I hg hm fA ?_)
 refine PyProof.Rows.callWith_kw (thn (ha pos pins s σ H _ I h) fun us s1 ⟨vs,H1,I1,r,q⟩=>?_) he Q0 B3 hkw
 refine thn (hd pos pins s1 σ H1 _ I1 q) fun ws s2 ⟨zs,H2,I2,rz,q2⟩=>?_
 obtain⟨a,ns,d,e1,e2,hq,q0,q1⟩:=q2
 subst e1 e2
 obtain⟨u,rfl,ru⟩:=z34 r
 cases ru
 obtain⟨dv,rfl,rd⟩:=z34 rz
 show wpAny _ X.A (call (.builtin "max") [.ref a] [(Str.ofString "default",dv)]) _ _ _
 refine y58 (z5D (A:=X.A.in1) I2 (I2.ok.hd hc) hq fun it fp St its s3 rv W st hfp back=>?_)
 have hl:=rv.length
 rw[b8] at hl
 refine⟨it,fp,[it],_,_,St,_,rfl,W,st,hfp,CmpOf.ints_gt (fun i=>ns.getD i 0) (z2C rv),fun hn h' tk k=>?_,fun hn v h' tk hv k=>?_⟩
 ·rw[bH] at hn
  exact⟨d,H2,back h' tk k,rd,q0 (cT (by omega))⟩
 ·rw[bH] at hn hv
  obtain⟨t,rfl⟩:=z2C rv _ _ hv
  obtain⟨b1,b2⟩:=z8K (fun i=>ns.getD i 0) (its.length-1)
  refine⟨.int _,H2,back h' tk k,⟨t,rfl⟩,q1 _ (z6Q (by omega)) fun y hy=>?_⟩
  obtain⟨i,hi,rfl⟩:=z6O hy
  exact b2 i (by omega)
theorem y37{e:Expr}{p pos kp:Pos}{dx:Expr}{ta td:TA}(hc:X.calm=true)(hg:Gl X "min")(hm:X.mg "min"=none)(ha:PA X [e] ta)(hd:PK X [⟨some (Str.ofString "default"),dx,kp⟩] td)
  (he:backTo pos (starEach [e] X.env)=(false,eval e X.env)::backTo pos (starEach [] X.env):=by rfl)
  (Q0:(backTo pos (starEach [e] X.env)).any (·.1)=false:=by rfl)
  (B3:(backToKw pos (keywordEach [⟨some (Str.ofString "default"),dx,kp⟩] X.env)).all (·.1.isSome)=true:=by rfl)
  (hkw:(backToKw pos (keywordEach [⟨some (Str.ofString "default"),dx,kp⟩] X.env)).any (·.1.isNone)=false:=by rfl) :
  PE X (.Call (.Name "min" p) [e] [⟨some (Str.ofString "default"),dx,kp⟩] pos) (y5Y X.K (fun y m=>m≤y) ta td):=by
 intro pins s σ H Q I h
 refine wpAny_Call_Name_kw (z6G I hg hm fZ ?_)
 refine PyProof.Rows.callWith_kw (thn (ha pos pins s σ H _ I h) fun us s1 ⟨vs,H1,I1,r,q⟩=>?_) he Q0 B3 hkw
 refine thn (hd pos pins s1 σ H1 _ I1 q) fun ws s2 ⟨zs,H2,I2,rz,q2⟩=>?_
 obtain⟨a,ns,d,e1,e2,hq,q0,q1⟩:=q2
 subst e1 e2
 obtain⟨u,rfl,ru⟩:=z34 r
 cases ru
 obtain⟨dv,rfl,rd⟩:=z34 rz
 show wpAny _ X.A (call (.builtin "min") [.ref a] [(Str.ofString "default",dv)]) _ _ _
 refine y5A (z5D (A:=X.A.in1) I2 (I2.ok.hd hc) hq fun it fp St its s3 rv W st hfp back=>?_)
 have hl:=rv.length
 rw[b8] at hl
 refine⟨it,fp,[it],_,_,St,_,rfl,W,st,hfp,CmpOf.ints_lt (fun i=>ns.getD i 0) (z2C rv),fun hn h' tk k=>?_,fun hn v h' tk hv k=>?_⟩
 ·rw[bH] at hn
  exact⟨d,H2,back h' tk k,rd,q0 (cT (by omega))⟩
 ·rw[bH] at hn hv
  obtain⟨t,rfl⟩:=z2C rv _ _ hv
  obtain⟨b1,b2⟩:=z9e (fun i=>ns.getD i 0) (its.length-1)
  refine⟨.int _,H2,back h' tk k,⟨t,rfl⟩,q1 _ (z6Q (by omega)) fun y hy=>?_⟩
  obtain⟨i,hi,rfl⟩:=z6O hy
  exact b2 i (by omega)
def N4(i:Int)(n:Nat):List V:=(List.range n).map fun(k:Nat)=>V.int (i+(k:Int))
theorem y4e:z2U X (.type "range") (fun xs H Q=>∃i j,xs=[.int i,.int j]/\∀p,H p=none->Q (.ref p) (upd H p (.rng i j))):=by
 intro pins s σ H xs us Q I r h
 obtain⟨i,j,rfl,q⟩:=h
 obtain⟨u,w',rfl,⟨t,rfl⟩,⟨t',rfl⟩⟩:=y5M r
 refine call_range_2 ?_
 refine⟨.ref s.heap.objs.size,_,I.laid (fun b o e=>b9 _ e) (bC _) (show z15 X.prog X.w _ _ _ (.rng i j) from⟨t,t',s.toks,bF _ rfl⟩),rfl,q _ (I.hok.fresh (bC _))⟩
theorem z92{prog:Program}{w:World}{A:Around}{E:Value->Shared->Prop}{s:Shared}{Q:List Value->Shared->Prop}{r:Addr}{a b c:Int}{t u v:Tok}{n:Nat}(hh:A.handled=none)(hr:IsRange s.heap r a b c t u v)(T8:Builtin.Range.small a b c=true)
  (hn:Builtin.Range.rangeSize a b c=n) (hlen:n≤2^24)
  (hQ:∀h' tk acc,(∀b o,s.heap.get? b=some o->h'.get? b=some o)->ItemsOf (fun i v=>∃t,v=.int (a+i*c) t) acc n->Q acc.toList { s with heap:=h',toks:=tk }) :
  wpAny (model prog w) A (collect (.ref r)) Q E s:=by
 unfold collect
 refine wpAny_bind (wpAny_runValue (codeAny_builtin PySem.F.entry_proto_collect ?_))
 rw[c9 g9 _]
 show wpAny _ A.in1 (newList [] >>= fun l=>again (.builtin "list.__iadd__" ⟨[l,.ref r],[]⟩)) _ _ s
 refine wpAny_bind (wpAny_newObj_type ?_)
 refine wpAny_pure ⟨plainId_quiet dW _,codeAny_builtin PySem.F.entry_list_iadd ?_⟩
 rw[c9 dW _]
 show wpAny _ A.in1 (Builtin.List.listExtendWith (.ref s.heap.objs.size) (.ref r) (.ref s.heap.objs.size)) _ _ _
 have hS:(s.heap.push { cls:=.type "list",data:=.seq ([]:List Value).toArray }).get? s.heap.objs.size=some { cls:=.type "list",data:=.seq #[] 0 }:=bF _ rfl
 have fin:∀(r':Result) (s':Shared),(∃h' tk acc c',r'=.ok (.ret (.ref s.heap.objs.size))/\s'={ s with heap:=h',toks:=tk }/\(∀b o,s.heap.get? b=some o->h'.get? b=some o)/\
   h'.get? s.heap.objs.size=some { cls:=.type "list",dict:=none,data:=.seq acc c',slots:=#[] }/\ItemsOf (fun i v=>∃t,v=.int (a+i*c) t) acc n)->
   match r' with
   | Except.ok (Flow.ret v)=>wpAny (model prog w) A (match v with
     | Value.ref a=>do
      match (<- load a).data with
       | Data.seq xs _=>pure xs.toList
       | _=>unsupported "internal:collect"
     | _=>unsupported "internal:collect") Q E s'
   | Except.ok _=>False
   | Except.error e=>E e s':=by
  rintro r' s' ⟨h',tk,acc,c',rfl,rfl,hk,hS',hacc⟩
  show wpAny _ A (load s.heap.objs.size >>= _) _ _ _
  refine wpAny_bind (wpAny_load hS' ?_)
  exact wpAny_pure (hQ h' tk acc hk hacc)
 refine wpAny_mono (wpAny_extend_range (A:=A) (R:=fun r' s'=>∃h' tk acc c',r'=.ok (.ret (.ref s.heap.objs.size))/\s'={ s with heap:=h',toks:=tk }/\(∀b o,s.heap.get? b=some o->h'.get? b=some o)/\
   h'.get? s.heap.objs.size=some { cls:=.type "list",dict:=none,data:=.seq acc c',slots:=#[] }/\ItemsOf (fun i v=>∃t,v=.int (a+i*c) t) acc n)
  (s:={ s with heap:=s.heap.push { cls:=.type "list",data:=.seq ([]:List Value).toArray } }) hh (b9 _ hr) T8 hn hlen s.heap.objs.size _ 0 hS
  fun h' tk acc c' hk hS' hacc=>⟨h',tk,acc,c',rfl,rfl,fun b o e=>hk b o (bW (bK e)) (b9 _ e),hS',hacc⟩) (fun f s' h=>?_) (fun e s' h=>?_)
 ·cases f with
  | done f=>exact fin _ _ h
  | again c'=>exact⟨h.1,codeAny_mono h.2 fun r' s'' hr'=>fin _ _ hr'⟩
 ·obtain⟨_,_,_,_,e,_⟩:=h
  cases e
theorem z6Z(r:Addr)(a b:Int)(t u v:Tok)(n:Nat)(T8:Builtin.Range.small a b 1=true)(hn:Builtin.Range.rangeSize a b 1=n)(hlen:n≤2^24) :
  Meets (Builtin.«tuple.__new__» ⟨[.type "tuple",.ref r],[]⟩)
   (fun A R s=>A.handled=none/\IsRange s.heap r a b 1 t u v/\∀(h':Heap) (tk:Nat) (acc:Array Value),(∀b o,s.heap.get? b=some o->h'.get? b=some o)->ItemsOf (fun i v=>∃t,v=.int (a+i*1) t) acc n->
    R (.ok (.ret (.ref h'.objs.size))) { s with heap:=h'.push { cls:=.type "tuple",data:=.seq acc },toks:=tk }):=
 .of_wp fun prog w A R s h=>by
  obtain⟨hp,g,d,tk0,os⟩:=s
  obtain⟨hh,hr,h⟩:=h
  have hsub:=sub_tuple_self
  have hinit:=init_tuple_lookup
  have hmh:=madeHere_tuple
  have hT:Shared.TypeIs ⟨hp,g,d,tk0,os⟩ (.ref r) "range":=⟨_,hr,rfl⟩
  have hh1:A.in1.handled=none:=hh
  wp_walk using wpAny_typeOf hT,z92 hh1 hr T8 hn hlen
  intro h' tk acc hk hacc
  show wpAny _ _ (Builtin.Tuple.tupleExact acc.toList.toArray >>= fun v=>ret v) _ _ _
  unfold Builtin.Tuple.tupleExact
  refine wpAny_bind (wpAny_newObj_type ?_ (show acc.toList.toArray.size≤sizeLine by simp only[Array.toArray_toList];rw[hacc.1,sizeLine_eq];omega))
  refine wpAny_pure ⟨_,rfl,?_⟩
  have e:acc.toList.toArray=acc:=by simp
  rw[e]
  exact h h' tk acc hk hacc
theorem y12{a:Int}{acc:Array Value}{n:Nat}(h:ItemsOf (fun i v=>∃t,v=Value.int (a+(i:Int)*1) t) acc n):Vals (N4 a n) acc.toList:=by
 have go:∀(l:List Value) (k:Nat),(∀(j:Nat) (v:Value),l[j]? = some v->∃t,v=Value.int (a+((k+j:Nat):Int)) t)->Vals ((List.range' k l.length).map fun(j:Nat)=>V.int (a+(j:Int))) l:=by
  intro l
  induction l with
  | nil=>intro k _;exact .nil
  | cons x r ih=>
   intro k hx
   rw[bZ,List.range'_succ,cG]
   refine .cons ?_ (ih (k+1) fun j v e=>?_)
   ·obtain⟨t,e⟩:=hx 0 x rfl
    exact⟨t,e⟩
   ·obtain⟨t,e'⟩:=hx (j+1) v (by simpa using e)
    refine⟨t,e'.trans ?_⟩
    congr 1
    omega
 have q:=go acc.toList 0 fun j v e=>by
  obtain⟨t,e'⟩:=h.2 j v (by simpa using e)
  exact⟨t,by rw[e'];congr 1;first|done|omega⟩
 unfold N4
 rw[List.range_eq_range']
 have hn:acc.toList.length=n:=by simpa using h.1
 rw[hn] at q
 exact q
theorem z87(hc:X.calm=true):z2U X (.type "tuple") (fun xs H Q=>∃p i j,xs=[.ref p]/\H p=some (.rng i j)/\(-(2^62)≤i/\i<2^62/\-(2^62)≤j/\j<2^62)/\(j-i).toNat≤2^24/\
  ∀l,H l=none->Q (.ref l) (upd H l (.tup (N4 i (j-i).toNat)))):=by
 intro pins s σ H xs us Q I r h
 obtain⟨p,i,j,rfl,hp,⟨h1,h2,h3,h4⟩,hlen,q⟩:=h
 obtain⟨u,rfl,rx⟩:=z34 r
 cases rx
 obtain⟨t,u',v,e⟩:=(show z15 X.prog X.w H s.heap p (.rng i j) from I.hok p _ hp)
 have hn:Builtin.Range.rangeSize i j 1=(((j-i).toNat:Nat):Int):=by rw[rangeSize_one];split<;>omega
 refine callType_new PySem.F.called_tuple (by decide) (PySem.F.typeCall_tuple_1 _) (PySem.F.newCall_tuple_1 _) (fun obj=>PySem.F.args_object_init_2 obj _) PySem.F.entry_tuple_new
  (z6Z p i j t u' v _ (small_one h1 h2 h3 h4) hn hlen) ⟨I.ok.hd hc,e,fun h' tk acc hk hacc=>⟨⟨_,bF _ rfl,rfl⟩,?_⟩⟩
 have I1:Inv X pins σ H { s with heap:=h',toks:=tk }:=I.kept hk
 have z:(N4 i (j-i).toNat).length≤sizeLine:=by unfold N4;rw[b8,dF,sizeLine_eq];omega
 have I2:Inv X pins σ (upd H h'.objs.size (.tup (N4 i (j-i).toNat))) { s with heap:=h'.push { cls:=.type "tuple",data:=.seq acc },toks:=tk }:=
  I1.laid (t':=tk) (fun b o e=>b9 _ e) (bC _) (show z15 X.prog X.w _ _ _ (.tup _) from⟨z,acc.toList,y12 hacc,by simpa using PlT.new h' acc⟩)
 exact⟨.ref h'.objs.size,_,I2,rfl,q _ (I1.hok.fresh (bC _))⟩
theorem Vals.ins{x:V}{u:Value}(r:RelV x u){xs:List V}{us:List Value}(h:Vals xs us)(k:Nat):Vals (xs.take k++x::xs.drop k) (us.take k++u::us.drop k):=
 (h.take k).append (.cons r (h.drop k))
def y6t:V->List V->Hp->VK->Prop:=fun x vs H Q=>∃l xs i y,x=.ref l/\vs=[.int i,y]/\H l=some (.lst xs)/\0≤i/\i≤xs.length/\xs.length<sizeLine/\Q .non (upd H l (.lst (xs.take i.toNat++y::xs.drop i.toNat)))
theorem y0k:MtM X "list.insert" y6t:=by
 intro pins s σ H x vs v us Q I rx rv h
 obtain⟨l,xs,i,y,rfl,rfl,hH,h0,h1,hz,q⟩:=h
 cases rx
 obtain⟨u,w',rfl,⟨t,rfl⟩,ry⟩:=rv.two
 obtain⟨z,its,n,r,hl,e⟩:=I.T5 hH
 have hn:=z5A
 have hs:sizeLine=16777216:=sizeLine_eq
 have fit:¬(!Builtin.List.listFitsIndex i)=true:=by
  rw[fitsIndex_both (by omega) (by omega)]
  decide
 refine call_meets gJ ⟨_,e,rfl⟩ PySem.F.entry_list_insert (PySem.F.args_list_insert_3 _ _ _) (AutoSeq1.list_insert_list_int_val_1 l its.toArray n i t w' fit (by rw[bH];omega)) ⟨e,?_⟩
 refine⟨.non,_,I.Y2 (its':=its.take i.toNat++w'::its.drop i.toNat) hH e ?_ (Vals.ins ry r i.toNat) ?_,rfl,q⟩
 ·have e1:(if i<0 then (i+(its.toArray.size:Int)).toNat else min i.toNat its.toArray.size)=i.toNat:=by
   rw[if_neg (by omega),bH,j3 (by omega)]
  show((its.toArray.extract 0 (if i<0 then (i+(its.toArray.size:Int)).toNat else min i.toNat its.toArray.size)).push w'++its.toArray.extract (if i<0 then (i+(its.toArray.size:Int)).toNat else min i.toNat its.toArray.size))=_
  rw[e1]
  apply Array.toList_inj.mp
  simp
  rw[cZ (by rw[dQ];omega)]
 ·rw[bN,bZ,bO,dQ]
  omega
theorem z7F:z2U X (.builtin "sorted") (fun xs H Q=>∃(p:Addr) (ns:List Int),xs=[.ref p]/\SqL X.K H p (ns.map V.int)/\ns.length<64/\
  ∀(l:Addr) (ns':List Int),H l=none->ns'.Perm ns->ns'.Pairwise (·≤·)->Q (.ref l) (upd H l (.lst (ns'.map V.int)))):=by
 intro pins s σ H xs us Q I r h
 obtain⟨p,ns,rfl,hq,h64,q⟩:=h
 obtain⟨u,rfl,rx⟩:=z34 r
 cases rx
 obtain⟨its,rv,pl,hz⟩:=I.list hq
 have hl:=rv.length
 rw[b8] at hl hz
 refine sorted_ints pl.isList (y24 rv) (by omega) fun out ns' a1 a2 a3=>?_
 obtain⟨e,he⟩:=sortedAll_at s.heap its out
 have hlen:=a2.length_eq
 refine⟨.ref (s.heap.objs.size+1),_,I.laid (t':=s.toks) (fun b o e=>sortedAll_old e) (e7 _) (show z15 X.prog X.w _ _ _ (.lst (ns'.map V.int)) from⟨?_,out.toList,e,z46 a1,?_⟩),rfl,q _ ns' (I.hok.fresh (e7 _)) a2 a3⟩
 ·rw[b8,hlen];exact hz
 ·simpa using he
end
section
variable{X:Cx}{tg:Expr}
end
abbrev z9K(J:It)(g:TG)(tc:TT)(te:TE)(σ0:St)(H1:Hp)(F:List V->Hp->Prop):Prop:=
 ∃W:Nat->Nat->List V->Hp->Prop,(∃m,W 0 m [] H1)/\∀i m ys H,W i m ys H->
  (J.stop i H/\F ys H)\/(J.go i H/\ys.length<sizeLine/\∃N:List V->Hp->Prop,(∀zs H',N zs H'->∃m',m'<m/\W (i+1) m' zs H')/\
   ∀x H',J.yld i H x H'->z1A g tc te σ0 x H' ys N)
theorem z2O{K:PySem.W.Frag}{a:Addr}{xs:List V}{g:TG}{tc:TT}{te:TE}{σ0:St}{H1:Hp}{F:List V->Hp->Prop}(Pv:Nat->List V->Hp->Prop)(h0:Pv 0 [] H1)
  (hl:∀i ys H,i≤xs.length->Pv i ys H->SqL K H a xs/\ys.length<sizeLine)
  (hs:∀i x ys H,xs[i]? = some x->Pv i ys H->z1A g tc te σ0 x H ys (Pv (i+1))) (hd:∀ys H,Pv xs.length ys H->F ys H):z9K (Itl K a) g tc te σ0 H1 F:=by
 refine⟨fun i m ys H=>m=xs.length-i/\i≤xs.length/\Pv i ys H,⟨xs.length,by simp,cR _,h0⟩,?_⟩
 rintro i m ys H ⟨rfl,hi,p⟩
 obtain⟨q,z⟩:=hl i ys H hi p
 by_cases hlt:i<xs.length
 ·refine .inr ⟨⟨xs,xs[i],q,by simp[hlt]⟩,z,Pv (i+1),fun zs H' p'=>⟨xs.length-(i+1),by omega,rfl,hlt,p'⟩,fun x H' y=>?_⟩
  obtain⟨e,y⟩:=y
  subst e
  exact hs i x ys _ (y xs q) p
 ·have e:i=xs.length:=by omega
  subst e
  exact .inl ⟨⟨xs,q,bC _⟩,hd ys H p⟩
theorem z1O{K:PySem.W.Frag}{a:Addr}{xs:List V}{g:TG}{tc:TT}{te:TE}{σ0:St}{H1:Hp}{F:List V->Hp->Prop}(Pv:Nat->List V->Hp->Prop)(h0:Pv 0 [] H1)
  (hl:∀i ys H,i≤xs.length->Pv i ys H->SqT K H a xs/\ys.length<sizeLine)
  (hs:∀i x ys H,xs[i]? = some x->Pv i ys H->z1A g tc te σ0 x H ys (Pv (i+1))) (hd:∀ys H,Pv xs.length ys H->F ys H):z9K (Itt K a) g tc te σ0 H1 F:=by
 refine⟨fun i m ys H=>m=xs.length-i/\i≤xs.length/\Pv i ys H,⟨xs.length,by simp,cR _,h0⟩,?_⟩
 rintro i m ys H ⟨rfl,hi,p⟩
 obtain⟨q,z⟩:=hl i ys H hi p
 by_cases hlt:i<xs.length
 ·refine .inr ⟨⟨xs,xs[i],q,by simp[hlt]⟩,z,Pv (i+1),fun zs H' p'=>⟨xs.length-(i+1),by omega,rfl,hlt,p'⟩,fun x H' y=>?_⟩
  obtain⟨e,y⟩:=y
  subst e
  exact hs i x ys _ (y xs q) p
 ·have e:i=xs.length:=by omega
  subst e
  exact .inl ⟨⟨xs,q,bC _⟩,hd ys H p⟩
theorem z8I{lo:Int}{n:Nat}{g:TG}{tc:TT}{te:TE}{σ0:St}{H1:Hp}{F:List V->Hp->Prop}(Pv:Nat->List V->Hp->Prop)(h0:Pv 0 [] H1)
  (hl:∀i ys H,i≤n->Pv i ys H->ys.length<sizeLine)
  (hs:∀i ys H,i<n->Pv i ys H->z1A g tc te σ0 (.int (lo+i)) H ys (Pv (i+1))) (hd:∀ys H,Pv n ys H->F ys H):z9K (Itr lo n) g tc te σ0 H1 F:=by
 refine⟨fun i m ys H=>m=n-i/\i≤n/\Pv i ys H,⟨n,by simp,cR _,h0⟩,?_⟩
 rintro i m ys H ⟨rfl,hi,p⟩
 have z:=hl i ys H hi p
 by_cases hlt:i<n
 ·refine .inr ⟨hlt,z,Pv (i+1),fun zs H' p'=>⟨n-(i+1),by omega,rfl,hlt,p'⟩,fun x H' y=>?_⟩
  obtain⟨e,y⟩:=y
  subst e y
  exact hs i ys _ hlt p
 ·have e:i=n:=by omega
  subst e
  exact .inl ⟨bC _,hd ys H p⟩
def z2h{α:Type}(p:α->Bool)(f:α->V)(zs:List α):List V:=(zs.filter p).map f
theorem z5V{α:Type}(p:α->Bool)(f:α->V)(zs:List α)(z:α):z2h p f (zs++[z])=if p z=true then z2h p f zs++[f z] else z2h p f zs:=by
 unfold z2h
 rw[dR,bE]
 cases h:p z<;>simp[h]
theorem z98{α:Type}(p:α->Bool)(f:α->V)(zs:List α):(z2h p f zs).length≤zs.length:=by
 unfold z2h
 rw[b8]
 exact cF _ _
theorem z0r{α:Type}{zs:List α}{i:Nat}{z:α}(h:zs[i]? = some z):zs.take (i+1)=zs.take i++[z]:=by
 rw[eI,h]
 rfl
theorem y09{K:PySem.W.Frag}{a:Addr}{ns:List Int}{g:TG}{tc:TT}{te:TE}{σ0:St}{H1:Hp}{F:List V->Hp->Prop}(p:Int->Bool)(f:Int->V)(hq:SqL K H1 a (ns.map V.int))(hz:ns.length≤1000)
  (hs:∀n ys N,n∈ns->N (if p n=true then ys++[f n] else ys) H1->z1A g tc te σ0 (.int n) H1 ys N) (hd:F (z2h p f ns) H1):z9K (Itl K a) g tc te σ0 H1 F:=by
 refine z2O (xs:=ns.map V.int) (fun i ys H=>H=H1/\ys=z2h p f (ns.take i)) ⟨rfl,rfl⟩ (fun i ys H hi hp=>?_) (fun i x ys H hx hp=>?_) (fun ys H hp=>?_)
 ·obtain⟨rfl,rfl⟩:=hp
  refine⟨hq,z0f ?_⟩
  have h1:=z98 p f (ns.take i)
  have h2:=List.length_take_le i ns
  have h3:(ns.take i).length≤ns.length:=by rw[bO];omega
  omega
 ·obtain⟨rfl,rfl⟩:=hp
  rw[bG] at hx
  cases e:ns[i]? with
  | none=>rw[e] at hx;cases hx
  | some n=>
   rw[e] at hx
   cases hx
   refine hs n _ _ (bR e) ⟨rfl,?_⟩
   rw[z0r e,z5V]
 ·obtain⟨rfl,rfl⟩:=hp
  rw[b8,bV]
  exact hd
theorem z8r{K:PySem.W.Frag}{a:Addr}{ns:List Int}{g:TG}{tc:TT}{te:TE}{σ0:St}{H1:Hp}{F:List V->Hp->Prop}(p:Int->Bool)(f:Int->V)(hq:SqT K H1 a (ns.map V.int))(hz:ns.length≤1000)
  (hs:∀n ys N,n∈ns->N (if p n=true then ys++[f n] else ys) H1->z1A g tc te σ0 (.int n) H1 ys N) (hd:F (z2h p f ns) H1):z9K (Itt K a) g tc te σ0 H1 F:=by
 refine z1O (xs:=ns.map V.int) (fun i ys H=>H=H1/\ys=z2h p f (ns.take i)) ⟨rfl,rfl⟩ (fun i ys H hi hp=>?_) (fun i x ys H hx hp=>?_) (fun ys H hp=>?_)
 ·obtain⟨rfl,rfl⟩:=hp
  refine⟨hq,z0f ?_⟩
  have h1:=z98 p f (ns.take i)
  have h3:(ns.take i).length≤ns.length:=by rw[bO];omega
  omega
 ·obtain⟨rfl,rfl⟩:=hp
  rw[bG] at hx
  cases e:ns[i]? with
  | none=>rw[e] at hx;cases hx
  | some n=>
   rw[e] at hx
   cases hx
   refine hs n _ _ (bR e) ⟨rfl,?_⟩
   rw[z0r e,z5V]
 ·obtain⟨rfl,rfl⟩:=hp
  rw[b8,bV]
  exact hd
def upI(lo:Int)(n:Nat):List Int:=(List.range n).map fun(k:Nat)=>lo+(k:Int)
theorem z5J(lo:Int)(n:Nat):upI lo (n+1)=upI lo n++[lo+(n:Int)]:=by
 unfold upI
 rw[List.range_succ,bE]
 rfl
theorem z0M(lo:Int)(n:Nat):(upI lo n).length=n:=by unfold upI;rw[b8,dF]
theorem z17{lo:Int}{n:Nat}{x:Int}:x∈upI lo n↔lo≤x/\x<lo+n:=by
 unfold upI
 rw[cB]
 constructor
 ·rintro⟨k,hk,rfl⟩
  have:=eM.mp hk
  omega
 ·rintro⟨h1,h2⟩
  exact⟨(x-lo).toNat,eM.mpr (by omega),by omega⟩
theorem z7y{lo:Int}{n:Nat}{g:TG}{tc:TT}{te:TE}{σ0:St}{H1:Hp}{F:List V->Hp->Prop}(p:Int->Bool)(f:Int->V)(hz:n≤1000)
  (hs:∀k ys N,lo≤k->k<lo+n->N (if p k=true then ys++[f k] else ys) H1->z1A g tc te σ0 (.int k) H1 ys N) (hd:F (z2h p f (upI lo n)) H1):z9K (Itr lo n) g tc te σ0 H1 F:=by
 refine z8I (fun i ys H=>H=H1/\ys=z2h p f (upI lo i)) ⟨rfl,rfl⟩ (fun i ys H hi hp=>?_) (fun i ys H hx hp=>?_) (fun ys H hp=>?_)
 ·obtain⟨rfl,rfl⟩:=hp
  have h1:=z98 p f (upI lo i)
  rw[z0M] at h1
  exact z0f (by omega)
 ·obtain⟨rfl,rfl⟩:=hp
  refine hs _ _ _ (by omega) (by omega) ⟨rfl,?_⟩
  rw[z5J,z5V]
 ·obtain⟨rfl,rfl⟩:=hp
  exact hd
section
variable{X:Cx}
theorem z0T:z2U X (.builtin "isinstance") (fun xs H Q=>∃x T t b,xs=[x,.ty T]/\N9 X.K H x t/\PySem.W.kitOne X.K t (.type T)=some b/\Q (.bl b) H):=by
 intro pins s σ H xs us Q I r h
 obtain⟨x,T,t,b,rfl,ty,e,q⟩:=h
 obtain⟨u,w',rfl,rx,ry⟩:=y5M r
 cases (show w'=Value.type T from ry)
 exact y3c I rx ty e fun tk=>⟨.bl b,H,I.tok _,rfl,q⟩
theorem y7E(hu:X.A.units<cLine):OpR X (compareOp .NotEq) (fun x y H Q=>∃a b xs,x=.ref a/\y=.ref b/\SqL X.K H a xs/\SqL X.K H b []/\Q (.bl (!xs.isEmpty)) H):=by
 intro pins s σ H x y v u Q I rx ry h
 obtain⟨a,b,xs,rfl,rfl,ha,hb,q⟩:=h
 cases rx
 cases ry
 obtain⟨its,r,pl,hz⟩:=I.list ha
 obtain⟨K8,r2,pl2,hz2⟩:=I.list hb
 cases r2
 have hl:=r.length
 cases xs with
 | nil=>
  cases r
  exact SeqAt.RcNeAt.lists (e:=fun _=>true) pl.isList pl2.isList rfl hu (fun j h1 _=>absurd h1 (gI _)) X.prog X.w X.xe _ ⟨.bl false,H,I,rfl,q⟩
 | cons x0 xr=>
  refine SeqAt.RcNeAt.lists_lengths pl.isList pl2.isList ?_ hu X.prog X.w X.xe _ ⟨.bl true,H,I,rfl,q⟩
  rw[bH,<- hl]
  rfl
end
def y1o(N:List Str)(kind:Str->Option NameKind)(rl:List (Str×NameKind)):List Str->List Nat->Bool
 | x::xs,i::is=>decide (N[i]? = some x) && (decide (kind x=some .cell) || decide (kind x=some .free)) && (decide (rl.lookup x=some .cell) || decide (rl.lookup x=some .free)) && y1o N kind rl xs is
 | _,_=>true
theorem y65{N:List Str}{kind:Str->Option NameKind}{rl:List (Str×NameKind)}:∀{D7:List Str}{ix:List Nat},y1o N kind rl D7 ix=true->∀(j i:Nat) (x:Str),D7[j]? = some x->ix[j]? = some i->
  N[i]? = some x/\(kind x=some .cell\/kind x=some .free)/\(rl.lookup x=some .cell\/rl.lookup x=some .free)
 | [],_,_,j,i,x,e,_=>by simp at e
 | _::_,[],_,j,i,x,_,e=>by simp at e
 | y::ys,k::ks,h,j,i,x,e1,e2=>by
  unfold y1o at h
  rw[bS,bS,bS,Bool.or_eq_true,Bool.or_eq_true] at h
  obtain⟨⟨⟨h1,h2⟩,h3⟩,h4⟩:=h
  cases j with
  | zero=>
   simp at e1 e2
   subst e1 e2
   exact⟨of_decide_eq_true h1,h2.imp of_decide_eq_true of_decide_eq_true,h3.imp of_decide_eq_true of_decide_eq_true⟩
  | succ j=>exact y65 h4 j i x (by simpa using e1) (by simpa using e2)
theorem z0u{X:Cx}{scope:Scope}{cl:List (Str×Addr)}{own D7:List Str}{ix:List Nat}(U1:z7m X.env.cells scope.names []=some cl)(cell:∀y∈scope.names,y.2≠.cell)(kind:scope.kind=.function)
  (names:∀y∈scope.names,y.2=.local->scope.names.lookup y.1=some .local) (n:D7.length=ix.length) (cap:y1o X.N X.env.kindOf (relabel scope X.env).names D7 ix=true):E7 X scope cl own D7 ix:=
 ⟨U1,cell,kind,names,n,fun j i x e1 e2=>by
  obtain⟨a,b,c⟩:=y65 cap j i x e1 e2
  refine⟨a,fun z=>?_,b.elim (fun q=>.inr (.inl q)) (fun q=>.inr (.inr q)),c⟩
  rcases b with b|b<;>(rw[b] at z;cases z)⟩
theorem z9j{X:Cx}{K:PySem.W.Frag}{es:List Expr}{k:Nat}{t:TGs}{n:Nat}{pos:Pos}(hK:X.K=K)(hc:X.calm=true)(h:PGs X es t)
  (hn:(assignEach es X.env).length=n:=by rfl) (hst:(assignEach es X.env).findIdx? (·.1)=none:=by rfl):PG X (.Tuple es k pos) (X8 K n t):=by
 subst hK
 exact y7n hc h hn hst
structure Cal(P:Program)(w:World)(K:PySem.W.Frag)(mg:Str->Option Value)(base:Heap)(k:Nat)(x:Str)(ps:List Str)(sp:Sp):Prop where
 ex:∃(f:Addr) (fd:FuncData),A5 P w K mg base CX0 k f fd ps sp/\z1J K fd ps []/\PySem.W.keepIn K (.ref f)=true/\mg x=some (.ref f)
theorem Cal.mk'{P:Program}{w:World}{K:PySem.W.Frag}{mg:Str->Option Value}{base:Heap}{k:Nat}{x:Str}{ps:List Str}{sp:Sp}{f:Addr}{fd:FuncData}(a:A5 P w K mg base CX0 k f fd ps sp)(b:z1J K fd ps [])(c:PySem.W.keepIn K (.ref f)=true)(d:mg x=some (.ref f)) :
  Cal P w K mg base k x ps sp:=⟨⟨f,fd,a,b,c,d⟩⟩
theorem z0k{X:Cx}{k:Nat}{x:Str}{ps:List Str}{sp:Sp}{e:Expr}{es:List Expr}{t:TA}{p pos:Pos}(G:Cal X.prog X.w X.K X.mg X.base k x ps sp)(hr:C8 k X.A)(hg:Gl X x)(ha:PA X (e::es) t)
  (hdb:(x == ("__debug__":Str))=false:=by decide) (he:starEach (e::es) X.env=(false,eval e X.env)::starEach es X.env:=by rfl) (hpl:(backTo pos (starEach es X.env)).any (·.1)=false:=by rfl) :
  PE X (.Call (.Name x p) (e::es) [] pos) (y6j sp [] E0 t):=by
 obtain⟨f,fd,a,b,c,d⟩:=G.ex
 exact y33 a hr hg d c b .nil y28 ha hdb he hpl
def N8(z:Str)(lo hi:Option Int):Str:=⟨((z.cps.toList.drop (HT.sIx z.length 0 lo)).take (HT.sIx z.length z.length hi-HT.sIx z.length 0 lo)).toArray⟩
theorem z96{x y:Str}(h:x.cps.toList=y.cps.toList):x=y:=by
 obtain⟨a⟩:=x
 obtain⟨b⟩:=y
 exact congrArg Str.mk (Array.toList_inj.mp h)
theorem z1B(z:Str):z.cps.toList.length=z.length:=by simp[Str.length]
theorem y0B(lo hi:Option Int)(n:Nat):Builtin.Str.strSliceIndices lo hi 1 n=(List.range (HT.sIx n n hi-HT.sIx n 0 lo)).map (fun k=>HT.sIx n 0 lo+k):=by
 obtain⟨h1,h2,h3⟩:=z6E lo hi n
 have e:Builtin.Str.strSliceIndices lo hi 1 n=sliceRange (sliceBounds lo hi none n).1 (sliceBounds lo hi none n).2.1 1:=by
  unfold Builtin.Str.strSliceIndices sliceBounds
  cases lo<;>cases hi<;>rfl
 rw[e,h1,h2,sliceRange_one]
theorem y4X{z:Str}{t:Tok}{l u:Option (Int×Tok)}{Q:Value->Shared->Prop}{s:Shared}(hz:z.length≤sizeLine)(h:∀t' tk,Q (.str (N8 z (l.map (·.1)) (u.map (·.1))) t') { s with toks:=tk }):(sliceMade z t l u none).post Q s:=by
 have picked:slicePicked z l u none=(List.range (HT.sIx z.length z.length (u.map (·.1))-HT.sIx z.length 0 (l.map (·.1)))).map (fun k=>HT.sIx z.length 0 (l.map (·.1))+k):=y0B _ _ _
 have items:(slicePicked z l u none).filterMap (z.cps[·]?)=(N8 z (l.map (·.1)) (u.map (·.1))).cps.toList:=by
  rw[picked,pick_run]
  rfl
 have lh:=HT.y67 z.length z.length (bC _) (u.map (·.1))
 unfold sliceMade
 by_cases c:(((none:Option (Int×Tok)).map (·.1)).getD 1 == 1 && (slicePicked z l u none).length == z.length)=true
 ·rw[if_pos c]
  rw[bS] at c
  have c2:(slicePicked z l u none).length=z.length:=eq_of_beq c.2
  rw[picked,b8,dF] at c2
  have e:N8 z (l.map (·.1)) (u.map (·.1))=z:=by
   apply z96
   show(z.cps.toList.drop _).take _=_
   by_cases hz0:z.length=0
   ·have:z.cps.toList=[]:=cT (by rw[z1B];exact hz0)
    rw[this]
    simp
   ·have e1:HT.sIx z.length 0 (l.map (·.1))=0:=by omega
    rw[e1,gP,cZ]
    rw[z1B]
    omega
  have:=h t s.toks
  rw[e] at this
  exact this
 ·rw[if_neg c,items]
  refine⟨?_,?_⟩
  ·show(((N8 z (l.map (·.1)) (u.map (·.1))).cps.toList.toArray).size)≤sizeLine
   rw[bH]
   show((z.cps.toList.drop _).take _).length≤_
   rw[bO,dQ,z1B]
   omega
  ·have:=h s.toks (s.toks+1)
   have e:(⟨(N8 z (l.map (·.1)) (u.map (·.1))).cps.toList.toArray⟩:Str)=N8 z (l.map (·.1)) (u.map (·.1)):=z96 (by simp)
   rw[e]
   exact this
section
variable{X:Cx}
theorem z6D{v:Value}{o:Option Int}(h:IsPart v o):∃p:Option (Int×Tok),v=partValue p/\p.map (·.1)=o:=by
 cases h with
 | none=>exact⟨none,rfl,rfl⟩
 | int i t=>exact⟨some (i,t),rfl,rfl⟩
def rSlS:V->Option Int->Option Int->Hp->VK->Prop:=fun x lo hi H Q=>∃z,x=.str z/\z.length≤sizeLine/\Q (.str (N8 z lo hi)) H
theorem y69:SlR X rSlS:=by
 intro pins s σ H x v vl vu lo hi sl Q I rx hs pl pu h
 obtain⟨z,rfl,hz,q⟩:=h
 obtain⟨t,rfl⟩:=rx
 obtain⟨l,rfl,rfl⟩:=z6D pl
 obtain⟨u,rfl,rfl⟩:=z6D pu
 refine⟨"str",_,slot_str_getitem.lookup,typeIs_str s z t,?_⟩
 obtain⟨o,ho,hc,hd⟩:=hs
 refine wpAny_getItem_str_slice (l:=l) (u:=u) (st:=none) ⟨o,ho,hc,hd⟩ rfl (y4X hz fun t' tk=>?_)
 exact⟨.str _,H,I.tok _,⟨_,rfl⟩,q⟩
def X0(z:Str)(n:Nat):Str:=⟨(List.replicate n z.cps.toList).flatten.toArray⟩
theorem y0Z(z:Array Nat):∀(n:Nat) (acc:Array Nat),(List.foldl (fun a b=>a++b) acc (List.replicate n z)).toList=acc.toList++(List.replicate n z.toList).flatten
 | 0,acc=>by simp
 | n+1,acc=>by
  rw[List.replicate_succ,cS,y0Z z n]
  simp[List.replicate_succ]
theorem y2f:OpR X (binaryOp .Mult) (fun x y H Q=>∃z n,x=.str z/\y=.int n/\1≤n/\n≤1000/\z.length≤1000/\Q (.str (X0 z n.toNat)) H):=by
 intro pins s σ H x y v u Q I rx ry h
 obtain⟨z,n,rfl,rfl,h1,h2,hz,q⟩:=h
 obtain⟨t,rfl⟩:=rx
 obtain⟨t',rfl⟩:=ry
 have hs:sizeLine=16777216:=sizeLine_eq
 have hm:z.length*n.toNat≤1000*1000:=Nat.mul_le_mul hz (by omega)
 have fin:∀t' tk,EP X pins σ Q (.str (X0 z n.toNat) t') { s with toks:=tk }:=fun t' tk=>⟨.str _,H,I.tok _,⟨_,rfl⟩,q⟩
 refine PySem.P.mul_str ?_ (fun _ _=>?_) (fun _ _=>?_) ?_
 ·rw[decide_eq_false (show ¬n < -(2^63:Int) by omega),decide_eq_false (show ¬n≥2^63 by omega)]
  rfl
 ·have:(1000:Int)≤(2^63-1) / n:=by
   apply Int.le_ediv_of_mul_le (by omega)
   have:1000*n≤1000*1000:=Int.mul_le_mul_of_nonneg_left h2 (by decide)
   omega
  omega
 ·unfold Builtin.Str.tooLong
  exact decide_eq_false (by omega)
 ·rw[if_neg (by omega)]
  by_cases c:(n == 1 || z.length == 0)=true
  ·rw[if_pos c]
   have e:X0 z n.toNat=z:=by
    apply z96
    show((List.replicate n.toNat z.cps.toList).flatten.toArray).toList=_
    rw[Bool.or_eq_true] at c
    rcases c with c|c
    ·have:n=1:=eq_of_beq c
     subst this
     simp
    ·have:z.length=0:=eq_of_beq c
     have:z.cps.toList=[]:=cT (by rw[z1B];exact this)
     rw[this]
     simp
   have:=fin t s.toks
   rw[e] at this
   exact this
  ·rw[if_neg c]
   have e:(⟨(List.replicate n.toNat z.cps).foldl (·++·) #[]⟩:Str)=X0 z n.toNat:=by
    apply z96
    show(List.foldl (fun a b=>a++b) #[] (List.replicate n.toNat z.cps)).toList=((List.replicate n.toNat z.cps.toList).flatten.toArray).toList
    rw[y0Z]
    simp
   refine⟨?_,?_⟩
   ·rw[e,<- z1B]
    show((List.replicate n.toNat z.cps.toList).flatten.toArray).toList.length≤sizeLine
    have:((List.replicate n.toNat z.cps.toList).flatten.toArray).toList.length=n.toNat*z.length:=by
     simp[List.length_flatten,List.map_replicate,z1B]
     rfl
    rw[this,Nat.mul_comm]
    omega
   ·rw[e]
    exact fin _ _
end
end L2
namespace L2
open PySem
inductive DV where
 | non|bl (b:Bool)|int (i:Int)|str (x:Str)|tup (l:List DV)
mutual
def A7(H:Hp):DV->V->Prop
 | .non,x=>x=.non
 | .bl b,x=>x=.bl b
 | .int i,x=>x=.int i
 | .str s,x=>x=.str s
 | .tup ds,x=>∃a xs,x=.ref a/\H a=some (.tup xs)/\xs.length≤1000000/\z08 H ds xs
def z08(H:Hp):List DV->List V->Prop
 | [],xs=>xs=[]
 | d::ds,xs=>∃x r,xs=x::r/\A7 H d x/\z08 H ds r
end
mutual
theorem A7.keep{H H':Hp}(s:A4 H H'):∀(d:DV) (x:V),A7 H d x->A7 H' d x
 | .non,_,h=>h
 | .bl _,_,h=>h
 | .int _,_,h=>h
 | .str _,_,h=>h
 | .tup ds,_,h=>by
  unfold A7 at h ⊢
  obtain⟨a,xs,e,h1,h2,h3⟩:=h
  exact⟨a,xs,e,s _ _ h1,h2,z08.keep s ds xs h3⟩
theorem z08.keep{H H':Hp}(s:A4 H H'):∀(ds:List DV) (xs:List V),z08 H ds xs->z08 H' ds xs
 | [],_,h=>h
 | d::ds,_,h=>by
  unfold z08 at h ⊢
  obtain⟨x,r,e,h1,h2⟩:=h
  exact⟨x,r,e,A7.keep s d x h1,z08.keep s ds r h2⟩
end
mutual
theorem A7.over{H:Hp}{l:Addr}{o o':HO}(hl:H l=some o)(hn:∀xs,o≠.tup xs):∀(d:DV) (x:V),A7 H d x->A7 (upd H l o') d x
 | .non,_,h=>h
 | .bl _,_,h=>h
 | .int _,_,h=>h
 | .str _,_,h=>h
 | .tup ds,_,h=>by
  unfold A7 at h ⊢
  obtain⟨a,xs,e,h1,h2,h3⟩:=h
  exact⟨a,xs,e,by rw[z0e (z5h h1 hl (fun z=>hn xs z.symm))];exact h1,h2,z08.over hl hn ds xs h3⟩
theorem z08.over{H:Hp}{l:Addr}{o o':HO}(hl:H l=some o)(hn:∀xs,o≠.tup xs):∀(ds:List DV) (xs:List V),z08 H ds xs->z08 (upd H l o') ds xs
 | [],_,h=>h
 | d::ds,_,h=>by
  unfold z08 at h ⊢
  obtain⟨x,r,e,h1,h2⟩:=h
  exact⟨x,r,e,A7.over hl hn d x h1,z08.over hl hn ds r h2⟩
end
theorem z08.length{H:Hp}:∀{ds:List DV}{xs:List V},z08 H ds xs->xs.length=ds.length
 | [],_,h=>by unfold z08 at h;rw[h];rfl
 | d::ds,_,h=>by
  unfold z08 at h
  obtain⟨x,r,rfl,_,h2⟩:=h
  rw[bZ,bZ,z08.length h2]
theorem z08.get{H:Hp}:∀{ds:List DV}{xs:List V},z08 H ds xs->∀(i:Nat) (d:DV),ds[i]? = some d->∃x,xs[i]? = some x/\A7 H d x
 | [],_,_,i,d,e=>by simp at e
 | d0::ds,_,h,0,d,e=>by
  unfold z08 at h
  obtain⟨x,r,rfl,h1,_⟩:=h
  simp at e
  subst e
  exact⟨x,rfl,h1⟩
 | d0::ds,_,h,i+1,d,e=>by
  unfold z08 at h
  obtain⟨x,r,rfl,_,h2⟩:=h
  obtain⟨y,e1,e2⟩:=z08.get h2 i d (by simpa using e)
  exact⟨y,by simpa using e1,e2⟩
theorem z08.at{H:Hp}:∀{ds:List DV}{xs:List V},z08 H ds xs->∀(i:Nat) (x:V),xs[i]? = some x->∃d,ds[i]? = some d/\A7 H d x
 | [],_,h,i,x,e=>by
  unfold z08 at h
  subst h
  simp at e
 | d0::ds,_,h,0,x,e=>by
  unfold z08 at h
  obtain⟨x0,r,rfl,h1,_⟩:=h
  simp at e
  subst e
  exact⟨d0,rfl,h1⟩
 | d0::ds,_,h,i+1,x,e=>by
  unfold z08 at h
  obtain⟨x0,r,rfl,_,h2⟩:=h
  obtain⟨y,e1,e2⟩:=z08.at h2 i x (by simpa using e)
  exact⟨y,by simpa using e1,e2⟩
theorem z08.nil{H:Hp}:z08 H [] []:=by unfold z08;rfl
theorem z08.cons{H:Hp}{d:DV}{ds:List DV}{x:V}{xs:List V}(h:A7 H d x)(t:z08 H ds xs):z08 H (d::ds) (x::xs):=by unfold z08;exact⟨x,xs,rfl,h,t⟩
theorem z08.snoc{H:Hp}:∀{ds:List DV}{xs:List V}{d:DV}{x:V},z08 H ds xs->A7 H d x->z08 H (ds++[d]) (xs++[x])
 | [],_,_,_,h,q=>by
  unfold z08 at h
  subst h
  exact z08.cons q .nil
 | d0::ds,_,_,_,h,q=>by
  unfold z08 at h
  obtain⟨x0,r,rfl,h1,h2⟩:=h
  exact z08.cons h1 (z08.snoc h2 q)
theorem z0H{H:Hp}(i:Int):A7 H (.int i) (.int i):=by unfold A7;rfl
theorem z2E{H:Hp}(x:Str):A7 H (.str x) (.str x):=by unfold A7;rfl
theorem y1c{H:Hp}:A7 H .non .non:=by unfold A7;rfl
theorem z0A{H:Hp}{a:Addr}{xs:List V}{ds:List DV}(h:H a=some (.tup xs))(hl:ds.length≤1000000)(t:z08 H ds xs):A7 H (.tup ds) (.ref a):=by
 unfold A7
 exact⟨a,xs,rfl,h,by rw[t.length];exact hl,t⟩
theorem z6d{H:Hp}:∀(l:List Str),z08 H (l.map DV.str) (l.map V.str)
 | []=>.nil
 | i::r=>.cons (z2E i) (z6d r)
theorem z4H{H:Hp}:∀{l:List Str}{xs:List V},z08 H (l.map DV.str) xs->xs=l.map V.str
 | [],_,h=>by unfold z08 at h;exact h
 | i::r,_,h=>by
  rw[cG] at h
  unfold z08 at h
  obtain⟨x,t,rfl,h1,h2⟩:=h
  unfold A7 at h1
  rw[h1,z4H h2]
  rfl
theorem z0q{H:Hp}{ds:List DV}{x:V}(h:A7 H (.tup ds) x):∃a xs,x=.ref a/\H a=some (.tup xs)/\xs.length≤1000000/\z08 H ds xs:=by
 unfold A7 at h
 exact h
theorem z0S{H:Hp}{i:Int}{x:V}(h:A7 H (.int i) x):x=.int i:=by unfold A7 at h;exact h
theorem z2i{H:Hp}{i:Str}{x:V}(h:A7 H (.str i) x):x=.str i:=by unfold A7 at h;exact h
theorem z09{H:Hp}{d:DV}{ds:List DV}{xs:List V}(h:z08 H (d::ds) xs):∃x r,xs=x::r/\A7 H d x/\z08 H ds r:=by
 unfold z08 at h
 exact h
theorem z0G{H:Hp}{xs:List V}(h:z08 H [] xs):xs=[]:=by unfold z08 at h;exact h
mutual
def DV.deep:DV->Nat
 | .tup ds=>DV.O5 ds+1
 | _=>0
def DV.O5:List DV->Nat
 | []=>0
 | d::ds=>max d.deep (DV.O5 ds)
end
def y2a:V->Bool
 | .non=>true
 | .bl _=>true
 | .int _=>true
 | .str _=>true
 | _=>false
def z4w(H:Hp):Nat->V->V->Prop
 | 0,x,y=>x=y/\y2a x=true
 | n+1,x,y=>(x=y/\y2a x=true)\/∃(a b:Addr) (xs ys:List V),x=.ref a/\y=.ref b/\H a=some (.tup xs)/\H b=some (.tup ys)/\xs.length=ys.length/\ys.length≤1000000/\
   ∀(i:Nat) (u v:V),xs[i]? = some u->ys[i]? = some v->z4w H n u v
theorem z4w.keep{H H':Hp}(s:A4 H H'):∀{n:Nat}{x y:V},z4w H n x y->z4w H' n x y
 | 0,_,_,h=>h
 | n+1,x,y,h=>by
  rcases h with h|⟨a,b,xs,ys,e1,e2,h1,h2,hl,hm,h⟩
  ·exact .inl h
  ·exact .inr ⟨a,b,xs,ys,e1,e2,s _ _ h1,s _ _ h2,hl,hm,fun i u v hu hv=>z4w.keep s (h i u v hu hv)⟩
theorem z4w.up{H:Hp}:∀{n:Nat}{x y:V},z4w H n x y->z4w H (n+1) x y
 | 0,_,_,h=>.inl h
 | n+1,x,y,h=>by
  rcases h with h|⟨a,b,xs,ys,e1,e2,h1,h2,hl,hm,h⟩
  ·exact .inl h
  ·exact .inr ⟨a,b,xs,ys,e1,e2,h1,h2,hl,hm,fun i u v hu hv=>z4w.up (h i u v hu hv)⟩
theorem z4w.mono{H:Hp}{x y:V}{n m:Nat}(h:z4w H n x y)(hm:n≤m):z4w H m x y:=by
 induction hm with
 | refl=>exact h
 | step _ ih=>exact ih.up
mutual
theorem z8b{H:Hp}:∀(d:DV) (x y:V),A7 H d x->A7 H d y->z4w H d.deep x y
 | .non,x,y,h1,h2=>by
  unfold A7 at h1 h2
  subst h1 h2
  exact⟨rfl,rfl⟩
 | .bl _,x,y,h1,h2=>by
  unfold A7 at h1 h2
  subst h1 h2
  exact⟨rfl,rfl⟩
 | .int _,x,y,h1,h2=>by
  unfold A7 at h1 h2
  subst h1 h2
  exact⟨rfl,rfl⟩
 | .str _,x,y,h1,h2=>by
  unfold A7 at h1 h2
  subst h1 h2
  exact⟨rfl,rfl⟩
 | .tup ds,x,y,h1,h2=>by
  unfold A7 at h1 h2
  obtain⟨a,xs,rfl,a1,a2,a3⟩:=h1
  obtain⟨b,ys,rfl,b1,b2,b3⟩:=h2
  unfold DV.deep
  exact .inr ⟨a,b,xs,ys,rfl,rfl,a1,b1,by rw[a3.length,b3.length],b2,z83 ds xs ys a3 b3⟩
theorem z83{H:Hp}:∀(ds:List DV) (xs ys:List V),z08 H ds xs->z08 H ds ys->∀(i:Nat) (u v:V),xs[i]? = some u->ys[i]? = some v->z4w H (DV.O5 ds) u v
 | [],xs,ys,h1,h2,i,u,v,e1,e2=>by
  unfold z08 at h1
  subst h1
  simp at e1
 | d::ds,xs,ys,h1,h2,0,u,v,e1,e2=>by
  unfold z08 at h1 h2
  obtain⟨x,r,rfl,a1,a2⟩:=h1
  obtain⟨y,t,rfl,b1,b2⟩:=h2
  simp at e1 e2
  subst e1 e2
  unfold DV.O5
  exact(z8b d x y a1 b1).mono (Nat.le_max_left _ _)
 | d::ds,xs,ys,h1,h2,i+1,u,v,e1,e2=>by
  unfold z08 at h1 h2
  obtain⟨x,r,rfl,a1,a2⟩:=h1
  obtain⟨y,t,rfl,b1,b2⟩:=h2
  unfold DV.O5
  exact(z83 ds r t a2 b2 i u v (by simpa using e1) (by simpa using e2)).mono (Nat.le_max_right _ _)
end
end L2
namespace L2
open PySem PySem.Spec PyProof.Rows
section
variable{κ:Type}[DecidableEq κ]
def C5(ks:List κ):List κ:=ks.foldl (fun acc k=>if k∈acc then acc else acc++[k]) []
theorem z7o(ks:List κ)(k:κ):C5 (ks++[k])=if k∈C5 ks then C5 ks else C5 ks++[k]:=by
 unfold C5
 rw[gS]
 rfl
theorem y3u{ks:List κ}{i:Nat}{k:κ}(h:ks[i]? = some k):C5 (ks.take (i+1))=if k∈C5 (ks.take i) then C5 (ks.take i) else C5 (ks.take i)++[k]:=by
 have e:ks.take (i+1)=ks.take i++[k]:=by rw[eI,h]<;>rfl
 rw[e,z7o]
theorem z79(k:κ):∀(ks acc:List κ),k∈ks.foldl (fun acc k=>if k∈acc then acc else acc++[k]) acc↔k∈acc\/k∈ks
 | [],acc=>by simp
 | x::r,acc=>by
  rw[cS,z79 k r]
  by_cases h:x∈acc
  ·rw[if_pos h,bB]
   constructor
   ·rintro(a|a)
    ·exact .inl a
    ·exact .inr (.inr a)
   ·rintro(a|rfl|a)
    ·exact .inl a
    ·exact .inl h
    ·exact .inr a
  ·rw[if_neg h,bM,bA,bB,or_assoc]
theorem z2D{k:κ}{ks:List κ}:k∈C5 ks↔k∈ks:=by unfold C5;rw[z79];simp
theorem z7A:∀(ks acc:List κ),(ks.foldl (fun acc k=>if k∈acc then acc else acc++[k]) acc).length≤acc.length+ks.length
 | [],acc=>by simp
 | x::r,acc=>by
  rw[cS]
  refine cO (z7A r _) ?_
  by_cases h:x∈acc
  ·rw[if_pos h,bZ];omega
  ·rw[if_neg h,bN,bZ,bZ,j4];omega
theorem z5H(ks:List κ):(C5 ks).length≤ks.length:=by
 have:=z7A ks []
 simpa [C5] using this
theorem z8t:∀(ks acc:List κ),(acc++ks).Nodup->ks.foldl (fun acc k=>if k∈acc then acc else acc++[k]) acc=acc++ks
 | [],acc,_=>by simp
 | x::r,acc,h=>by
  have hx:x∉acc:=fun hx=>by
   rw[gT] at h
   exact h.2.2 x hx x (bQ) rfl
  rw[cS,if_neg hx,z8t r (acc++[x]) (by rw[fX];exact h),fX]
  rfl
theorem y0E{ks:List κ}(h:ks.Nodup):C5 ks=ks:=by
 have:=z8t ks [] (by simpa using h)
 simpa [C5] using this
end
section
variable{prog:Program}{w:World}{A:Around}{κ:Type}[DecidableEq κ]{kd:KeyKind prog w κ}{I:Addr}{fp wr:List Addr}{G:Array GenState->Array GenState->Prop}{n:Nat}{P:Nat->Value->Prop}{St:Nat->Shared->Prop}
abbrev z5C(kd:KeyKind prog w κ)(h:Heap)(a:Addr)(ks:List κ):Prop:=h.SetOf kd a (fun k=>decide (k∈ks)) (C5 ks).length
theorem z5C.at{h h':Heap}{a:Addr}{ks:List κ}(x:z5C kd h a ks)(e:∀o,h.get? a=some o->h'.get? a=some o):z5C kd h' a ks:=by
 obtain⟨o,es,ep,t,ho,r⟩:=x
 exact⟨o,es,ep,t,e o ho,r⟩
theorem z9d{R:Result->Shared->Prop}(W:WalksS prog w A.in1 I fp wr G n P St){a:Addr}(out:a∉fp){ks:List κ}(lk:ks.length=n)
  (vals:∀i v,P i v->∃k,ks[i]? = some k/\kd.is k v=true/\v.scannable=true) (few:n+1<scanBound) :
  ∀(todo i:Nat) (s:Shared),i+todo=n->St i s->z5C kd s.heap a (ks.take i)->
   (∀s',Moved (a::wr) G s s'->z5C kd s'.heap a ks->R (.ok (.ret .none)) s')->codeAny (model prog w) A (.builtin "set.update.loop" ⟨[.ref a,.ref I],[]⟩) R s
 | 0,i,s,ei,st,sx,fin=>by
  have e:ks.take i=ks:=cZ (by omega)
  rw[e] at sx
  have ei':i=n:=by omega
  subst ei'
  refine codeAny_builtin F.entry_set_update_loop ?_
  rw[c9 gR _]
  refine wpAny_bind (W.done s _ _ st fun s' mv=>wpAny_pure (fin s' (mv.mono fun b hb=>.tail _ hb) (sx.at fun o=>mv.heap a o fun q=>out (W.sub _ q))))
 | todo+1,i,s,ei,st,sx,fin=>by
  refine codeAny_builtin F.entry_set_update_loop ?_
  rw[c9 gR _]
  refine wpAny_bind (W.item i s _ _ (by omega) st fun v s1 hv st1 mv=>?_)
  obtain⟨k,ek,iv,sc⟩:=vals i v hv
  have sx1:=sx.at (h':=s1.heap) fun o=>mv.heap a o fun q=>out (W.sub _ q)
  refine wpAny_bind (wpAny_holding (m:=setAdd a v) ?_)
  unfold setAdd
  refine wpAny_holding (wpAny_bind (kd.pyHash iv ?_))
  have lm:=z5H (ks.take i)
  rw[bO] at lm
  refine wpAny_setAddHashed_of (s:={ s1 with toks:=s1.toks+1 }) iv sc sx1 (by omega) fun h2 sb sx2=>?_
  have sx3:z5C kd h2 a (ks.take (i+1)):=by
   have e1:(fun k'=>decide (k'∈ks.take i) || decide (k'=k))=fun k'=>decide (k'∈ks.take (i+1)):=by
    funext k'
    rw[eI,ek]
    simp[Bool.decide_or]
   have e2:(if decide (k∈ks.take i)=true then (C5 (ks.take i)).length else (C5 (ks.take i)).length+1)=(C5 (ks.take (i+1))).length:=by
    rw[y3u ek]
    by_cases hk:k∈ks.take i
    ·rw[if_pos (decide_eq_true hk),if_pos (z2D.mpr hk)]
    ·rw[if_neg (by simpa using hk),if_neg (fun q=>hk (z2D.mp q)),bN]
     rfl
   rw[e1,e2] at sx2
   exact sx2
  have far:∀b,b≠a->h2.get? b=s1.heap.get? b:=fun b hb=>sb.2 b hb
  refine wpAny_pure ⟨plainId_quiet gR _,z9d W out lk vals few todo (i+1) _ (by omega) (W.frame _ s1 _ _ st1 (e7 _) fun b hb o q=>?_) sx3 fun s3 mv3 sx4=>?_⟩
  ·rw[far b fun z=>out (z ▸ hb)];exact q
  ·refine fin s3 (.trans W.gtrans ((mv.mono fun b hb=>.tail _ hb).then_heap (e7 _) fun b o hb q=>?_) mv3) sx4
   rw[far b fun z=>hb (z ▸ .head _)];exact q
end
namespace Ty
theorem z9T:isSubtype (.type "tuple") (.type "set")=pure false:=by rw[isSubtype_type];kernel_rfl
theorem z44:isSubtype (.type "tuple") (.type "frozenset")=pure false:=by rw[isSubtype_type];kernel_rfl
end Ty
abbrev E5(led:Bool):Obj:={ cls:=.type "set",dict:=none,data:=.set #[] 0 (.fresh 0 0 led) }
section
variable{prog:Program}{w:World}{A:Around}{E:Value->Shared->Prop}{s:Shared}{κ:Type}[DecidableEq κ]{kd:KeyKind prog w κ}
theorem y5y{T:String}{p:Addr}{o:Obj}{its:Array Value}{c0:Nat}{ks:List κ}{Q:Value->Shared->Prop}(hh:A.handled=none)(hp:s.heap.get? p=some o)(hc:o.cls=.type T)(hd:o.data=.seq its c0)(hT:T="list"\/T="tuple")
  (lk:ks.length=its.size) (vals:∀(i:Nat) v,its[i]? = some v->∃k,ks[i]? = some k/\kd.is k v=true/\v.scannable=true) (few:its.size+1<scanBound)
  (fin:∀(h':Heap) (t:Nat),z5C kd h' s.heap.objs.size ks->(∀b u,b<s.heap.objs.size->s.heap.get? b=some u->h'.get? b=some u)->Q (.ref s.heap.objs.size) { s with heap:=h',toks:=t }) :
  wpAny (model prog w) A (call (.type "set") [.ref p]) Q E s:=by
 obtain⟨c,tl,hmro⟩:=d7.mro
 have g1:=d7.made
 have g2:=d7.sub
 refine wpAny_call (codeAny_of_tree (wpAny_pure ⟨Code.quiet_builtin _ (by decide +kernel),codeAny_builtin F.entry_type_call ?_⟩))
 rw[Around.under_plain (weight_type_call_type "set" [.ref p] []) rfl]
 have g3:=d7.notType
 have g4:=d7.canCreate
 have g5:=F.typeCall_set_1 (.ref p)
 repeat (any_goals (first|assumption|wp_step))
 refine codeAny_mono (code_set_new_1 (.ref p) (E:=E) (Q₁:=fun u s1=>∃led,u=.ref s.heap.objs.size/\s1={ s with heap:=s.heap.push (E5 led) }) fun led=>⟨led,rfl,rfl⟩) fun r s1 q1=>?_
 rcases r with e|(_|_|_|u)
 all_goals try exact q1.elim
 all_goals try exact q1
 obtain⟨led,rfl,rfl⟩:=q1
 have at1:(s.heap.push (E5 led)).get? s.heap.objs.size=some (E5 led):=bF _ rfl
 have ty1:Shared.TypeIs { s with heap:=s.heap.push (E5 led) } (.ref s.heap.objs.size) "set":=⟨_,at1,rfl⟩
 have g6:=d7.init.lookup
 have g7:=d7.init.bind (.ref s.heap.objs.size)
 repeat (any_goals (first|assumption|wp_step))
 refine codeAny_mono (codeAny_call_builtin (R:=wants (fun r s2=>r=.none/\∃h' t,s2={ s with heap:=h',toks:=t }/\z5C kd h' s.heap.objs.size ks/\∀b u,b<s.heap.objs.size->s.heap.get? b=some u->h'.get? b=some u) E)
  d7.init.plain F.entry_set_init (check_set_init_1 ty1 ?_)) fun r s2 q2=>?_
 case _=>
  have hpS:p<s.heap.objs.size:=bK hp
  obtain⟨oc,od,oa,os⟩:=o
  simp only at hc hd
  subst hc;subst hd
  have hp1:(s.heap.push (E5 led)).get? p=some { cls:=.type T,dict:=od,data:=.seq its c0,slots:=os }:=b9 _ hp
  have f1:isSubtype (.type T) (.type "set")=pure false:=by rcases hT with rfl|rfl<;>first|exact F.sub_list_set|exact Ty.z9T
  have f2:isSubtype (.type T) (.type "frozenset")=pure false:=by rcases hT with rfl|rfl<;>first|exact F.sub_list_frozenset|exact Ty.z44
  have f3:(Value.type T == Value.type "dict")=false:=by rcases hT with rfl|rfl<;>decide
  have hh3:A.in1.in1.in1.handled=none:=by simp[hh]
  have sz:(s.heap.push (E5 led)).objs.size=s.heap.objs.size+1:=eO _ _
  have apart:p≠(s.heap.push (E5 led)).objs.size:=by rw[sz];exact bW (dE hpS)
  have out:s.heap.objs.size∉[(s.heap.push (E5 led)).objs.size,p]:=by rw[sz,bB,bA];exact fun z=>z.elim (bW (eQ _)) (fG hpS)
  have z4g:∀x:Obj,z5C kd ((s.heap.push (E5 led)).push x) s.heap.objs.size (ks.take 0):=fun x=>by
   have z:=(setObjOf_fresh (knd:=kd) led).setOf (b9 x at1) (by unfold scanBound;omega)
   have e:(fun k:κ=>decide (k∈ks.take 0))=fun _=>false:=by funext k;simp
   show Heap.SetOf kd _ _ (fun k=>decide (k∈ks.take 0)) _
   rw[e]
   exact z
  have ends:∀(x:Obj) (s':Shared),Moved [s.heap.objs.size,(s.heap.push (E5 led)).objs.size] (fun a b=>b=a) { s with heap:=(s.heap.push (E5 led)).push x } s'->z5C kd s'.heap s.heap.objs.size ks->
    ∃h' t,s'={ s with heap:=h',toks:=t }/\z5C kd h' s.heap.objs.size ks/\∀b u,b<s.heap.objs.size->s.heap.get? b=some u->h'.get? b=some u:=fun x s' mv sx=>by
   obtain⟨h',g',d',t',o'⟩:=s'
   obtain rfl:g'=s.gens:=mv.gens
   obtain rfl:d'=s.drawn:=mv.drawn
   obtain rfl:o'=s.os:=mv.os
   exact⟨h',t',rfl,sx,fun b u hb q=>mv.heap b u (by rw[sz,bB,bA];exact fun z=>z.elim (bW hb) (bW (dE hb))) (b9 _ (b9 _ q))⟩
  unfold Builtin.«set.__init__» noKeywords Builtin.Frozenset.updateFrom
  generalize hPI:pyIter=PI
  wp_walk
  subst hPI
  rcases hT with rfl|rfl
  ·have hl:(s.heap.push (E5 led)).IsList p its:=⟨_,hp1,rfl,c0,rfl⟩
   refine wpAny_pyIter_list hl (wpAny_bind (wpAny_runValue ?_))
   refine z9d (kd:=kd) ((Walks.list hh3 _ p apart its).toS) out lk vals few its.size 0 _ (g0 _) ⟨⟨_,bF _ rfl,rfl,rfl⟩,hl.push _⟩ (z4g _) fun s' mv sx=>?_
   exact wpAny_pure (wpAny_pure ⟨rfl,ends _ s' mv sx⟩)
  ·have hl:(s.heap.push (E5 led)).IsTuple p its:=⟨_,hp1,rfl,c0,rfl⟩
   refine wpAny_pyIter_tuple hl (wpAny_bind (wpAny_runValue ?_))
   refine z9d (kd:=kd) ((Walks.tuple hh3 _ p apart its).toS) out lk vals few its.size 0 _ (g0 _) ⟨⟨_,bF _ rfl,rfl,rfl⟩,hl.push _⟩ (z4g _) fun s' mv sx=>?_
   exact wpAny_pure (wpAny_pure ⟨rfl,ends _ s' mv sx⟩)
 ·rcases r with e|(_|_|_|u)
  all_goals try exact q2.elim
  all_goals try exact q2
  obtain⟨rfl,h',t,rfl,sx,kp⟩:=q2
  repeat (any_goals (first|assumption|wp_step))
  exact fin _ _ sx kp
end
section
variable{X:Cx}
def P5(P:Program)(w:World)(a:Addr)(zs:List Str):HO:=.ext fun h=>z5C (strKind P w) h a zs
theorem P5.new{P:Program}{w:World}{H:Hp}{h:Heap}{a:Addr}{zs:List Str}(x:z5C (strKind P w) h a zs):z15 P w H h a (P5 P w a zs):=by
 refine⟨x,?_,fun h1 h2 y e=>z5C.at y e⟩
 obtain⟨o,_,_,_,e,_⟩:=x
 exact⟨o,e⟩
theorem y1s:∀{zs:List Str}{us:List Value},Vals (zs.map V.str) us->∀(i:Nat) (v:Value),us[i]? = some v->∃(k:Str) (t:Tok),zs[i]? = some k/\v=.str k t
 | [],_,.nil,i,v,h=>by simp at h
 | z::zs,u::us,.cons r rs,0,v,h=>by
  simp at h
  subst h
  obtain⟨t,rfl⟩:=r
  exact⟨z,t,rfl,rfl⟩
 | z::zs,u::us,.cons r rs,i+1,v,h=>by
  simp at h
  obtain⟨k,t,a,b⟩:=y1s rs i v h
  exact⟨k,t,by simpa using a,b⟩
theorem z4y(hc:X.calm=true):z2U X (.type "set") (fun xs H Q=>∃p zs,xs=[.ref p]/\(SqL X.K H p (zs.map V.str)\/SqT X.K H p (zs.map V.str))/\zs.length≤1000/\∀l,H l=none->Q (.ref l) (upd H l (P5 X.prog X.w l zs))):=by
 intro pins s σ H xs us Q I r h
 obtain⟨p,zs,rfl,hq,hl,q⟩:=h
 obtain⟨u,rfl,rx⟩:=z34 r
 cases rx
 have go:∀(T:String) (o:Obj) (its:List Value) (c0:Nat),s.heap.get? p=some o->o.cls=.type T->o.data=.seq its.toArray c0->(T="list"\/T="tuple")->Vals (zs.map V.str) its->wpAny (model X.prog X.w) X.A (call (.type "set") [.ref p]) (EP X pins σ Q) X.xe s:=
  fun T o its c0 ho hcl hda hT rv=>by
   have ln:zs.length=its.length:=by have:=rv.length;rwa [b8] at this
   refine y5y (kd:=strKind X.prog X.w) (ks:=zs) (I.ok.hd hc) ho hcl hda hT (by simpa using ln) (fun i v hv=>?_) (by simp[scanBound];omega) fun h' t sx kp=>?_
   ·obtain⟨k,t,a,rfl⟩:=y1s rv i v (by simpa using hv)
    exact⟨k,a,strKind_is _ _ _ _,rfl⟩
   ·refine⟨.ref s.heap.objs.size,_,I.laid (a:=s.heap.objs.size) (o:=P5 X.prog X.w s.heap.objs.size zs) (h':=h') (t':=t) (fun b u q1=>kp b u (bK q1) q1) (bC _) (P5.new sx),rfl,q _ (I.hok.fresh (bC _))⟩
 rcases hq with hq|hq
 ·obtain⟨its,rv,pl,_⟩:=I.list hq
  obtain⟨o,ho,hcl,n,hda⟩:=pl.isList
  exact go "list" o its n ho hcl hda (.inl rfl) rv
 ·obtain⟨its,rv,pl,_⟩:=I.tuple hq
  obtain⟨o,ho,hcl,n,hda⟩:=pl
  exact go "tuple" o its n ho hcl hda (.inr rfl) rv
theorem z5y:z2U X (.builtin "len") (fun xs H Q=>∃p zs,xs=[.ref p]/\H p=some (P5 X.prog X.w p zs)/\zs.length≤1000/\Q (.int (C5 zs).length) H):=by
 intro pins s σ H xs us Q I r h
 obtain⟨p,zs,rfl,hp,hl,q⟩:=h
 obtain⟨u,rfl,rx⟩:=z34 r
 cases rx
 obtain⟨⟨o,es,ep,t,e1,e2,e3,_,_,_,e4,e5⟩,_⟩:=(show z15 X.prog X.w H s.heap p (P5 X.prog X.w p zs) from I.hok p _ hp)
 have:=z5H zs
 exact PySem.call_len_set e1 e2 e3 e4 (by omega) ⟨.int (C5 zs).length,H,I.tok _,⟨s.toks+1,by rw[e5]⟩,q⟩
end
section
variable{κ:Type}[DecidableEq κ]
def J0(kvs:List (κ×V))(k:κ):Option V:=(kvs.find? fun kv=>decide (kv.1=k)).map (·.2)
def putK(kvs:List (κ×V))(k:κ)(v:V):List (κ×V):=
 if (kvs.any fun kv=>decide (kv.1=k))=true then kvs.map (fun kv=>if kv.1=k then (kv.1,v) else kv) else kvs++[(k,v)]
theorem z5x{p:κ×V}{r:List (κ×V)}{k:κ}(e:p.1=k):J0 (p::r) k=some p.2:=by simp[J0,dJ,e]
theorem z5n{p:κ×V}{r:List (κ×V)}{k:κ}(e:¬p.1=k):J0 (p::r) k=J0 r k:=by simp[J0,dJ,e]
theorem z6V(k:κ):∀kvs:List (κ×V),(kvs.any fun kv=>decide (kv.1=k))=(J0 kvs k).isSome
 | []=>rfl
 | p::r=>by
  rw[fP]
  by_cases e:p.1=k
  ·simp only[z5x e,decide_eq_true e,Bool.true_or,Option.isSome_some]
  ·rw[z5n e,decide_eq_false e,Bool.false_or];exact z6V k r
theorem z7W(kvs:List (κ×V))(k:κ)(v:V):(putK kvs k v).length≤kvs.length+1:=by
 unfold putK
 split
 ·rw[b8];omega
 ·rw[bN,bZ,j4];omega
theorem y5s{kvs:List (κ×V)}{k:κ}(v:V)(h:J0 kvs k=none):putK kvs k v=kvs++[(k,v)]:=by
 unfold putK
 rw[z6V,h]
 exact if_neg (by decide)
theorem M0.O2{o:Option V}{u:Option Value}(r:M0 o u):o.isSome=u.isSome:=by
 cases o with
 | none=>cases u with
  | none=>rfl
  | some _=>exact(show False from r).elim
 | some _=>cases u with
  | none=>exact(show False from r).elim
  | some _=>rfl
theorem KV.val{kvs:List (κ×V)}{vs:List (κ×Value)}(r:KV kvs vs)(k:κ):M0 (J0 kvs k) (valueAt vs k):=by
 unfold KV at r
 induction r with
 | nil=>exact True.intro
 | @cons p q ps qs h t ih=>
  obtain⟨h1,h2⟩:=h
  by_cases e:p.1=k
  ·have e':q.1=k:=h1.symm.trans e
   have b:valueAt (q::qs) k=some q.2:=by simp[valueAt,dJ,e']
   rw[z5x e,b];exact h2
  ·have e':¬q.1=k:=fun z=>e (h1.trans z)
   have b:valueAt (q::qs) k=valueAt qs k:=by simp[valueAt,dJ,e']
   rw[z5n e,b];exact ih
theorem KV.any{kvs:List (κ×V)}{vs:List (κ×Value)}(r:KV kvs vs)(k:κ):(kvs.any fun kv=>decide (kv.1=k))=vs.any fun kv=>decide (kv.1=k):=by
 unfold KV at r
 induction r with
 | nil=>rfl
 | cons h t ih=>rw[fP,fP,ih,h.1]
theorem KV.w0a{kvs:List (κ×V)}{vs:List (κ×Value)}(r:KV kvs vs)(k:κ){y:V}{u:Value}(ry:RelV y u) :
  KV (kvs.map fun kv=>if kv.1=k then (kv.1,y) else kv) (vs.map fun kv=>if kv.1=k then (kv.1,u) else kv):=by
 unfold KV at r ⊢
 induction r with
 | nil=>exact .nil
 | @cons p q ps qs h t ih=>
  rw[cG,cG]
  refine .cons ?_ ih
  obtain⟨h1,h2⟩:=h
  by_cases e:p.1=k
  ·rw[if_pos e,if_pos (h1.symm.trans e)];exact⟨h1,ry⟩
  ·rw[if_neg e,if_neg (fun z=>e (h1.trans z))];exact⟨h1,h2⟩
theorem KV.put{kvs:List (κ×V)}{vs:List (κ×Value)}(r:KV kvs vs)(k:κ){y:V}{u:Value}(ry:RelV y u):KV (putK kvs k y) (stored vs k u):=by
 unfold putK stored
 rw[r.any k]
 by_cases e:(vs.any fun kv=>decide (kv.1=k))=true
 ·rw[if_pos e,if_pos e];exact r.w0a k ry
 ·rw[if_neg e,if_neg e];exact jA r ⟨rfl,ry⟩
theorem KV.keys{kvs:List (κ×V)}{vs:List (κ×Value)}(r:KV kvs vs):kvs.map (·.1)=vs.map (·.1):=by
 unfold KV at r
 induction r with
 | nil=>rfl
 | cons h t ih=>rw[cG,cG,ih,h.1]
theorem KV.length{kvs:List (κ×V)}{vs:List (κ×Value)}(r:KV kvs vs):kvs.length=vs.length:=Paired.length r
end
theorem y3G{P:Program}{w:World}{k:Key}{u:Value}(r:RelV (kV k) u):(z1r P w).is k u=true:=by
 cases k with
 | inl i=>obtain⟨t,e⟩:=(show ∃t,u=Value.int i t from r);subst e;exact y0C P w i t
 | inr x=>obtain⟨t,e⟩:=(show ∃t,u=Value.str x t from r);subst e;exact y0R P w x t
theorem z9Q{P:Program}{w:World}:∀{ks:List Key}{us:List Value},Vals (ks.map kV) us->ItemsAre (z1r P w) ks us
 | [],_,r=>by rw[List.map_nil] at r;cases r;exact .nil
 | k::ks,_,r=>by
  rw[cG] at r
  cases r with
  | cons h t=>exact .cons (y3G h) (z9Q t)
abbrev KT(H:Hp):List (List Key×V)->List (List Key×Addr×Value)->Prop:=Paired fun p q=>p.1=q.1/\H q.2.1=some (.tup (p.1.map kV))/\RelV p.2 q.2.2
theorem KT.val{H:Hp}{kvs:List (List Key×V)}{xs:List (List Key×Addr×Value)}(r:KT H kvs xs)(k:List Key):M0 (J0 kvs k) ((atKey xs k).map (·.2)):=by
 induction r with
 | nil=>exact True.intro
 | @cons p q ps qs h t ih=>
  obtain⟨h1,_,h2⟩:=h
  by_cases e:p.1=k
  ·have e':q.1=k:=h1.symm.trans e
   have b:atKey (q::qs) k=some q.2:=by simp[atKey,dJ,e']
   rw[z5x e,b];exact h2
  ·have e':¬q.1=k:=fun z=>e (h1.trans z)
   have b:atKey (q::qs) k=atKey qs k:=by simp[atKey,dJ,e']
   rw[z5n e,b];exact ih
theorem KT.w0a{H:Hp}{kvs:List (List Key×V)}{xs:List (List Key×Addr×Value)}(r:KT H kvs xs)(k:List Key){y:V}{u:Value}(ry:RelV y u) :
  KT H (kvs.map fun kv=>if kv.1=k then (kv.1,y) else kv) (xs.map (putAt k u)):=by
 induction r with
 | nil=>exact .nil
 | @cons p q ps qs h t ih=>
  rw[cG,cG]
  refine .cons ?_ ih
  obtain⟨h1,h2,h3⟩:=h
  unfold putAt
  by_cases e:p.1=k
  ·rw[if_pos e,if_pos (h1.symm.trans e)];exact⟨h1,h2,ry⟩
  ·rw[if_neg e,if_neg (fun z=>e (h1.trans z))];exact⟨h1,h2,h3⟩
theorem KT.put{H:Hp}{kvs:List (List Key×V)}{xs:List (List Key×Addr×Value)}(r:KT H kvs xs)(k:List Key){b:Addr}{y:V}{u:Value}(hb:H b=some (.tup (k.map kV)))(ry:RelV y u) :
  KT H (putK kvs k y) (storedH xs k b u):=by
 have e:(kvs.any fun kv=>decide (kv.1=k))=(atKey xs k).isSome:=by
  rw[z6V,(r.val k).O2,Option.isSome_map]
 unfold putK storedH
 rw[e]
 by_cases q:(atKey xs k).isSome=true
 ·rw[if_pos q,if_pos q];exact r.w0a k ry
 ·rw[if_neg q,if_neg q];exact jA r ⟨rfl,hb,ry⟩
theorem KT.keeps{H H':Hp}{kvs:List (List Key×V)}{xs:List (List Key×Addr×Value)}(r:KT H kvs xs)(ht:∀b ys,H b=some (.tup ys)->H' b=some (.tup ys)):KT H' kvs xs:=
 Paired.V0 r fun _ _ z=>⟨z.1,ht _ _ z.2.1,z.2.2⟩
section
variable{P:Program}{w:World}{H:Hp}{h:Heap}{a:Addr}
theorem y7M{u:HO}(ok:HOk P w H h)(e:Rd H a u):z15 P w H h a u:=e.ok ok
theorem y5m{kvs:List (Key×V)}(ok:HOk P w H h)(e:Rd H a (.dK kvs)):kvs.length≤sizeLine/\(a == sysModules)=false/\∃vs,KV kvs vs/\h.DictOf (z1r P w) a vs:=
 show z15 P w H h a (.dK kvs) from y7M ok e
theorem y7u{kvs:List (Key×V)}(ok:HOk P w H h)(e:H a=some (.dK kvs)):kvs.length≤sizeLine/\(a == sysModules)=false/\∃vs,KV kvs vs/\h.DictOf (z1r P w) a vs:=y5m ok (.inl e)
theorem y15{ks:List Key}(ok:HOk P w H h)(e:H a=some (.tup (ks.map kV))):(tupleKind (z1r P w)).is h ks a:=by
 obtain⟨_,its,r,o,h1,h2,⟨n,h3⟩,_⟩:=(show z15 P w H h a (.tup (ks.map kV)) from ok a _ e)
 exact⟨o,its.toArray,n,h1,h2,h3,by simpa using z9Q r⟩
theorem y4J{kvs:List (List Key×V)}(ok:HOk P w H h)(e:Rd H a (.dT kvs)):kvs.length≤sizeLine/\(a == sysModules)=false/\
  ∃xs,KT H kvs xs/\h.DictOfH (tupleKind (z1r P w)) a xs:=by
 obtain⟨z,y,xs,r,o,es,ep,h1,h2,h3,h4,h5⟩:=(show z15 P w H h a (.dT kvs) from y7M ok e)
 refine⟨z,y,xs,r,o,es,ep,h1,h2,h3,h4,fun x hx=>?_,h5⟩
 have all:∀{l:List (List Key×V)}{m:List (List Key×Addr×Value)},KT H l m->∀x∈m,(tupleKind (z1r P w)).is h x.1 x.2.1:=by
  intro l m q
  induction q with
  | nil=>intro x hx;exact nomatch hx
  | @cons p q ps qs hq t ih=>
   intro x hx
   rcases bB.mp hx with e|hx
   ·subst e
    exact y15 ok (by rw[<- hq.1];exact hq.2.1)
   ·exact ih x hx
 exact all r x hx
theorem w0V{kvs:List (List Key×V)}(ok:HOk P w H h)(e:H a=some (.dT kvs)):kvs.length≤sizeLine/\(a == sysModules)=false/\
  ∃xs,KT H kvs xs/\h.DictOfH (tupleKind (z1r P w)) a xs:=y4J ok (.inl e)
end
def L8(H:Hp)(a:Addr)(y:V)(r:Option V):Prop:=
 (∃kvs k,Rd H a (.dK kvs)/\y=kV k/\r=J0 kvs k)\/∃kvs k b,Rd H a (.dT kvs)/\y=.ref b/\H b=some (.tup (k.map kV))/\r=J0 kvs k
def W8(H:Hp)(a:Addr)(y v:V)(H':Hp):Prop:=
 (∃kvs k,H a=some (.dK kvs)/\y=kV k/\kvs.length<sizeLine/\H'=upd H a (.dK (putK kvs k v)))\/
 ∃kvs k b,H a=some (.dT kvs)/\y=.ref b/\H b=some (.tup (k.map kV))/\kvs.length<sizeLine/\H'=upd H a (.dT (putK kvs k v))
theorem L8.k{H:Hp}{a:Addr}{kvs:List (Key×V)}{k:Key}(e:H a=some (.dK kvs)):L8 H a (kV k) (J0 kvs k):=.inl ⟨kvs,k,.inl e,rfl,rfl⟩
theorem W8.k{H:Hp}{a:Addr}{kvs:List (Key×V)}{k:Key}{v:V}(e:H a=some (.dK kvs))(hl:kvs.length<sizeLine):W8 H a (kV k) v (upd H a (.dK (putK kvs k v))):=.inl ⟨kvs,k,e,rfl,hl,rfl⟩
section
variable{X:Cx}{pins:List (Addr×Obj)}{σ:St}{H:Hp}{s:Shared}{a:Addr}{y v:V}{u r:Value}{o:Option V}{A:Around}{E:Value->Shared->Prop}
theorem Inv.big(I:Inv X pins σ H s):sysModules<s.heap.objs.size:=by
 have h:mainGlobals<s.heap.objs.size:=(I.mod.glob.keeps I.bk).lt
 exact jH (by decide) h
theorem y4d{Q:Value->Shared->Prop}(hu:A.units+1<cLine)(I:Inv X pins σ H s)(g:L8 H a y (some v))(ry:RelV y u)(h:∀w' s',Inv X pins σ H s'->RelV v w'->Q w' s') :
  wpAny (model X.prog X.w) A (getItem (.ref a) u) Q E s:=by
 rcases g with ⟨kvs,k,e,ey,l⟩|⟨kvs,k,b,e,ey,eb,l⟩
 ·subst ey
  obtain⟨z,hd,vs,rel,dd⟩:=y5m I.hok e
  obtain⟨w',hw,rw'⟩:=M0.some_of (v:=v) (o:=valueAt vs k) (by rw[l];exact rel.val k)
  exact wpAny_getItem_of (y3G ry) dd.mapOf hw (h w' _ (I.tok _) rw')
 ·subst ey
  cases (show u=Value.ref b from ry)
  obtain⟨z,hd,xs,rel,dd⟩:=y4J I.hok e
  obtain⟨w',hw,rw'⟩:=M0.some_of (v:=v) (o:=(atKey xs k).map (·.2)) (by rw[l];exact rel.val k)
  obtain⟨p,hp,hp2⟩:=cE.mp hw
  refine wpAny_getItem_heap (tupleKind_room_in1 hu) (y15 I.hok eb) dd hp ?_
  rw[hp2]
  exact h w' _ (I.tok _) rw'
theorem d_in{Q:Value->Shared->Prop}(hu:A.units+1<cLine)(I:Inv X pins σ H s)(g:L8 H a y o)(ry:RelV y u)(h:∀s',Inv X pins σ H s'->Q (.bool o.isSome) s') :
  wpAny (model X.prog X.w) A (compareOp .In u (.ref a)) Q E s:=by
 rcases g with ⟨kvs,k,e,ey,l⟩|⟨kvs,k,b,e,ey,eb,l⟩
 ·subst ey
  obtain⟨z,hd,vs,rel,dd⟩:=y5m I.hok e
  refine wpAny_in_of (y3G ry) hd dd.mapOf ?_
  rw[<- (rel.val k).O2,<- l]
  exact h _ (I.tok _)
 ·subst ey
  cases (show u=Value.ref b from ry)
  obtain⟨z,hd,xs,rel,dd⟩:=y4J I.hok e
  refine wpAny_in_heap (tupleKind_room_in1 hu) (y15 I.hok eb) hd dd ?_
  have q:=(rel.val k).O2
  rw[Option.isSome_map] at q
  rw[<- q,<- l]
  exact h _ (I.tok _)
theorem y3P{h':Heap}{t':Nat}{ob:HO}(I:Inv X pins σ H s)(mu:Mut (H a))(hs:Heap.SameBut a s.heap h')(he:∃q,h'.get? a=some q)(new:z15 X.prog X.w (upd H a ob) h' a ob) :
  Inv X pins σ (upd H a ob) { s with heap:=h',toks:=t' }:=
 I.write (x:=a) (e:=a) mu (.inl rfl) (fun b q hb z=>(hs.2 b hb).trans z) he new
theorem y5T{P:Program}{w:World}{H':Hp}{h':Heap}{kvs:List (Key×V)}{vs:List (Key×Value)}(z:kvs.length≤sizeLine)(hd:(a == sysModules)=false)(rel:KV kvs vs)(dd:h'.DictOf (z1r P w) a vs) :
  z15 P w H' h' a (.dK kvs):=⟨z,hd,vs,rel,dd⟩
theorem y3t{H':Hp}{Q:Unit->Shared->Prop}(hu:A.units+1<cLine)(I:Inv X pins σ H s)(g:W8 H a y v H')(ry:RelV y u)(rv:RelV v r)(h:∀s',Inv X pins σ H' s'->Q () s') :
  wpAny (model X.prog X.w) A (setItem (.ref a) u r) Q E s:=by
 rcases g with ⟨kvs,k,e,ey,l,eH⟩|⟨kvs,k,b,e,ey,eb,l,eH⟩
 ·subst ey eH
  obtain⟨z,hd,vs,rel,dd⟩:=y7u I.hok e
  have hz:vs.length≤sizeLine:=by rw[<- rel.length];exact z
  have hl:(putK kvs k v).length≤sizeLine:=by have:=z7W kvs k v;omega
  refine wpAny_setItem_pairs (hsz:=hz) (y3G ry) dd fun h' dd' hs=>h _ ?_
  have he:∃q,h'.get? a=some q:=let ⟨q,_,_,hq,_⟩:=dd';⟨q,hq⟩
  exact y3P I (by rw[e];exact True.intro) hs he (y5T hl hd (rel.put k rv) dd')
 ·subst ey eH
  cases (show u=Value.ref b from ry)
  obtain⟨z,hd,xs,rel,dd⟩:=w0V I.hok e
  have hz:xs.length≤sizeLine:=by rw[<- Paired.length rel];exact z
  have hl:(putK kvs k v).length≤sizeLine:=by have:=z7W kvs k v;omega
  refine wpAny_setItem_heap (hsz:=hz) (tupleKind_room_in1 hu) (y15 I.hok eb) dd fun h' dd' hs=>h _ ?_
  obtain⟨q,es,ep,hq,h2,h3,h4,_,h5⟩:=dd'
  refine y3P I (by rw[e];exact True.intro) hs ⟨q,hq⟩ ⟨hl,hd,_,(rel.put k eb rv).keeps fun c ys ec=>?_,q,es,ep,hq,h2,h3,h4,h5⟩
  rw[z0e (z5h ec e (fun z=>nomatch z))]
  exact ec
end
section
variable{X:Cx}{pins:List (Addr×Obj)}{σ:St}{H:Hp}{s:Shared}{a:Addr}{kvs:List (Key×V)}{k:Key}{u:Value}{A:Around}{E:Value->Shared->Prop}
end
def NoSl(i:Expr):Prop:=∀ov iv,subscripted i false ov iv=operate [ov,iv] (getItem ov iv)
theorem y6F{prog:Program}{w:World}{A:Around}{E:Value->Shared->Prop}{s:Shared}{env:Env}{value slice:Expr}{pos:Pos}{T id:String}{Q:Value->Shared->Prop}
  (hl:typeLookup (.type T) "__getitem__"=pure (some (.builtin id))) (hs:NoSl slice)
  (h:wpAny (model prog w) A (eval value env) (fun o s₁=>wpAny (model prog w) A (eval slice env) (fun i s₂=>s₂.TypeIs o T/\wpAny (model prog w) A (getItem o i) Q E s₂) E s₁) E s) :
  wpAny (model prog w) A (eval (.Subscript value slice pos) env) Q E s:=by
 refine Subscript_ (wpAny_mono h (fun o s₁ h₁=>wpAny_mono h₁ (fun i s₂ h₂=>?_) fun _ _ x=>x) fun _ _ x=>x)
 obtain⟨hT,h₂⟩:=h₂
 unfold subscriptTail
 refine wpAny_bind ?_
 rw[getitemInPython_of_ne hT.not_modules]
 refine wpAny_bind (wpAny_specialOf hT hl ?_)
 have fin:wpAny (model prog w) A (subscripted slice false o i) (fun r s₃=>wpAny (model prog w) A (letTemporaryGo value o r >>= fun _=>pure r) Q E s₃) E s₂:=by
  rw[hs o i]
  exact wpAny_operating (wpAny_mono h₂ (fun r s₃ h₃=>wpAny_bind (wpAny_letTemporaryGo (wpAny_pure h₃))) fun _ _ x=>x)
 first
  | exact wpAny_pure (wpAny_bind fin)
  | exact wpAny_bind (wpAny_pure (wpAny_bind fin))
  | exact wpAny_bind fin
theorem y0q{X:Cx}{pins:List (Addr×Obj)}{σ:St}{H:Hp}{s:Shared}{a:Addr}{y:V}{o:Option V}(I:Inv X pins σ H s)(g:L8 H a y o):s.TypeIs (.ref a) "dict":=by
 rcases g with ⟨kvs,k,e,_,_⟩|⟨kvs,k,b,e,_,_,_⟩
 ·obtain⟨_,_,vs,_,dd⟩:=y5m I.hok e
  exact dd.typeIs
 ·obtain⟨_,_,xs,_,dd⟩:=y4J I.hok e
  exact dd.typeIs
def w0u(td ty:TE):TE:=fun σ H Q=>td σ H fun x H1=>ty σ H1 fun y H2=>∃a v,x=.ref a/\L8 H2 a y (some v)/\Q v H2
def tDIn(ty td:TE):TE:=fun σ H Q=>ty σ H fun y H1=>td σ H1 fun x H2=>∃a o,x=.ref a/\L8 H2 a y o/\Q (.bl o.isSome) H2
def w0Z(td ty tv:TE):TS:=fun D σ H=>tv σ H fun v H1=>td σ H1 fun x H2=>ty σ H2 fun y H3=>∃a H4,x=.ref a/\W8 H3 a y v H4/\D.nx σ H4
section
variable{X:Cx}{o i e value:Expr}{pos pos' tpos:Pos}{td ty tv:TE}
theorem z7n(hu:X.A.units+1<cLine)(ho:PE X o td)(hi:PE X i ty)(hs:NoSl i):PE X (.Subscript o i pos) (w0u td ty):=by
 intro pins s σ H Q I h
 refine y6F PySem.F.slot_dict_getitem.lookup hs (thn (ho pins s σ H _ I h) fun u s1 ⟨x,H1,I1,rx,q1⟩=>thn (hi pins s1 σ H1 _ I1 q1) fun iv s2 hz=>?_)
 obtain⟨y,H2,I2,ry,a,v,ex,g,q2⟩:=hz
 subst ex
 obtain rfl:u=Value.ref a:=rx
 exact⟨y0q I2 g,y4d hu I2 g ry fun w' s3 I3 rw'=>⟨v,H2,I3,rw',q2⟩⟩
theorem y49(hu:X.A.units+1<cLine)(hi:PE X i ty)(ho:PE X o td):PC X .In i o (tDIn ty td):=by
 intro pins s σ H Q I h
 refine thn (hi pins s σ H _ I h) fun iv s1 ⟨y,H1,I1,ry,q1⟩=>thn (ho pins s1 σ H1 _ I1 q1) fun u s2 hz=>?_
 obtain⟨x,H2,I2,rx,a,ov,ex,g,q2⟩:=hz
 subst ex
 obtain rfl:u=Value.ref a:=rx
 exact d_in hu I2 g ry fun s3 I3=>⟨.bl ov.isSome,H2,I3,rfl,q2⟩
theorem y6h(hu:X.A.units+1<cLine)(ho:PE X o td)(hi:PE X i ty)(hv:PE X value tv)(hs:swapsWith value (some (.Subscript o i pos')) pos.line X.env=pure false) :
  PS X (.Assign [.Subscript o i pos'] value pos) (w0Z td ty tv):=by
 intro pins s σ H D I h
 refine wpAny_Assign_Subscript (thn (hv pins s σ H _ I h) fun r s1 ⟨v,H1,I1,rv,q1⟩=>thn (ho pins s1 σ H1 _ I1 q1) fun u s2 ⟨x,H2,I2,rx,q2⟩=>thn (hi pins s2 σ H2 _ I2 q2) fun iv s3 hz=>?_) hs
 obtain⟨y,H3,I3,ry,a,H4,ex,g,q3⟩:=hz
 subst ex
 obtain rfl:u=Value.ref a:=rx
 exact y3t hu I3 g ry rv fun s4 I4=>⟨σ,H4,I4,q3⟩
end
theorem y4H{P:Program}{w:World}{H:Hp}(h:Heap)(hb:sysModules<h.objs.size):z15 P w H (h.push { cls:=.type "dict",data:=.dict #[] }) h.objs.size (.dK []):=
 ⟨cR _,beq_eq_false_iff_ne.mpr (d6 (bW hb)),[],.nil,Heap.DictOf.new h⟩
def y7W:TE:=fun _ H Q=>∀p,H p=none->Q (.ref p) (upd H p (.dK []))
section
variable{X:Cx}{pos:Pos}
theorem y5x:PE X (.Dict [] [] pos) y7W:=fun pins s σ H Q I h=>
 wpAny_Dict_empty ⟨.ref s.heap.objs.size,_,I.laid (a:=s.heap.objs.size) (o:=.dK []) (t':=s.toks) (fun _ _ q=>b9 _ q) (bC _) (y4H s.heap I.big),rfl,h _ (I.hok.fresh (bC _))⟩
end
section
variable{X:Cx}{pins:List (Addr×Obj)}{σ:St}{H:Hp}{s:Shared}{a:Addr}{y d:V}{u r:Value}{o:Option V}{A:Around}{E:Value->Shared->Prop}
end
section
variable{X:Cx}{o e f:Expr}{apos S9:Pos}{td ty tx:TE}
end
section
variable{X:Cx}{pins:List (Addr×Obj)}{σ:St}{H:Hp}{s:Shared}{a:Addr}{kvs:List (Key×V)}{A:Around}{E:Value->Shared->Prop}
end
section
variable{X:Cx}{pins:List (Addr×Obj)}{σ:St}{H:Hp}{s:Shared}{a:Addr}{y:V}{u:Value}{A:Around}{E:Value->Shared->Prop}
end
structure D4(P:Program)(w:World)(K:PySem.W.Frag)(mg:Str->Option Value)(base:Heap)(k:Nat)(C:Addr)(m:Str)(ps:List Str)(sp:Sp):Prop where
 cl:Cls K C
 ex:∃(f:Addr) (fd:FuncData),A5 P w K mg base CX0 k f fd ps sp/\z1J K fd ps []/\Meth K C m f
theorem D4.mk'{P:Program}{w:World}{K:PySem.W.Frag}{mg:Str->Option Value}{base:Heap}{k:Nat}{C:Addr}{m:Str}{ps:List Str}{sp:Sp}{f:Addr}{fd:FuncData}(c:Cls K C)(a:A5 P w K mg base CX0 k f fd ps sp)(b:z1J K fd ps [])(d:Meth K C m f) :
  D4 P w K mg base k C m ps sp:=⟨c,f,fd,a,b,d⟩
section
variable{X:Cx}{k:Nat}{C:Addr}{m x:Str}{ps:List Str}{sp:Sp}{o e:Expr}{es:List Expr}{ta:TE}{t:TA}{p pos apos:Pos}{pl:Sem Bool}
theorem z2b(G:D4 X.prog X.w X.K X.mg X.base k C m ps sp)(hr:C8 k X.A)(he:PE X o ta)(ha:PA X (e::es) t)
  (hst:starEach (e::es) X.env=(false,eval e X.env)::starEach es X.env:=by rfl) (hpl:(backTo pos (starEach es X.env)).any (·.1)=false:=by rfl)
  (ht:eval (.Call (.Attribute o m apos) (e::es) [] pos) X.env=(do
   let ov <- eval o X.env
   standAt apos.atName
   let (f,first) <- holding [ov] (getMethod ov m pl)
   callWith pos f first (backTo pos (starEach (e::es) X.env)) (backToKw pos (keywordEach [] X.env))):=by rfl) :
  PE X (.Call (.Attribute o m apos) (e::es) [] pos) (y3J C m sp [] E0 ta t):=by
 obtain⟨f,fd,a,b,d⟩:=G.ex
 exact y3a he G.cl d a hr b .nil y28 ha hst hpl ht
theorem z30(G:D4 X.prog X.w X.K X.mg X.base k C m ps sp)(hr:C8 k X.A)(he:PE X o ta)
  (ht:eval (.Call (.Attribute o m apos) [] [] pos) X.env=(do
   let ov <- eval o X.env
   standAt apos.atName
   let (f,first) <- holding [ov] (getMethod ov m pl)
   callWith pos f first (backTo pos (starEach [] X.env)) (backToKw pos (keywordEach [] X.env))):=by rfl) :
  PE X (.Call (.Attribute o m apos) [] [] pos) (y3J C m sp [] E0 ta V2):=by
 obtain⟨f,fd,a,b,d⟩:=G.ex
 exact y4G he G.cl d a hr b .nil y28 ht
end
structure Mkr(P:Program)(w:World)(K:PySem.W.Frag)(mg:Str->Option Value)(base:Heap)(k:Nat)(C:Addr)(x:Str)(ps:List Str)(sp:Sp):Prop where
 ex:∃(f:Addr) (fd:FuncData),A5 P w K mg base CX0 k f fd ps sp/\z1J K fd ps []/\Mk K C f/\mg x=some (.ref C)
theorem Mkr.mk'{P:Program}{w:World}{K:PySem.W.Frag}{mg:Str->Option Value}{base:Heap}{k:Nat}{C:Addr}{x:Str}{ps:List Str}{sp:Sp}{f:Addr}{fd:FuncData}(a:A5 P w K mg base CX0 k f fd ps sp)(b:z1J K fd ps [])(c:Mk K C f)(d:mg x=some (.ref C)) :
  Mkr P w K mg base k C x ps sp:=⟨f,fd,a,b,c,d⟩
section
variable{X:Cx}{k:Nat}{C:Addr}{m x:Str}{ps:List Str}{sp:Sp}{o e:Expr}{es:List Expr}{ta:TE}{t:TA}{p pos apos:Pos}
theorem y2w(G:Mkr X.prog X.w X.K X.mg X.base k C x ps sp)(hr:C8 (k+1) X.A)(hg:Gl X x)(ha:PA X (e::es) t)
  (hdb:(x == ("__debug__":Str))=false:=by decide) (he:starEach (e::es) X.env=(false,eval e X.env)::starEach es X.env:=by rfl) (hpl:(backTo pos (starEach es X.env)).any (·.1)=false:=by rfl) :
  PE X (.Call (.Name x p) (e::es) [] pos) (y7T C sp [] E0 t):=by
 obtain⟨f,fd,a,b,c,d⟩:=G.ex
 exact y7d c a hr hg d b .nil y28 ha hdb he hpl
theorem z2F{n:Int}(hg:Gl X x)(hm:∃t,X.mg x=some (.int n t))(hd:(x == ("__debug__":Str))=false:=by decide):PE X (.Name x pos) (tC (.int n)):=by
 obtain⟨t,e⟩:=hm
 exact y3g hg e ⟨t,rfl⟩ hd
end
def y5O(K:PySem.W.Frag):List V->Hp->VK->Prop:=fun xs H Q=>∃p ys,xs=[.ref p]/\((SqL K H p ys/\∀l,H l=none->Q (.ref l) (upd H l (.tup ys)))\/(SqT K H p ys/\Q (.ref p) H))
section
variable{X:Cx}{K:PySem.W.Frag}
theorem z85(h:X.K=K):z2U X (.type "tuple") (y5O K):=by
 subst h
 exact z0t
end
section
variable{X:Cx}
def y7o(K:PySem.W.Frag)(le:Int->Int->Prop):List V->Hp->VK->Prop:=fun xs H Q=>∃p ns,xs=[.ref p]/\SqI K H p ns/\ns≠[]/\∀m,m∈ns->(∀y∈ns,le y m)->Q (.int m) H
theorem z7v(hc:X.calm=true):z2U X (.builtin "max") (y7o X.K fun y m=>y≤m):=by
 intro pins s σ H xs us Q I r h
 obtain⟨a,ns,rfl,hq,hn,q⟩:=h
 obtain⟨u,rfl,ru⟩:=z34 r
 cases ru
 refine call_max_walk (z5D (A:=X.A.in1) I (I.ok.hd hc) hq fun it fp St its s3 rv W st hfp back=>?_)
 have hl:=rv.length
 rw[b8] at hl
 have h0:0<its.length:=by
  rw[<- hl]
  exact fK.mpr hn
 refine⟨it,fp,[it],_,_,St,_,rfl,W,st,hfp,by rw[bH];exact h0,CmpOf.ints_gt (fun i=>ns.getD i 0) (z2C rv),fun v h' tk hv k=>?_⟩
 rw[bH] at hv
 obtain⟨t,rfl⟩:=z2C rv _ _ hv
 obtain⟨b1,b2⟩:=z8K (fun i=>ns.getD i 0) (its.length-1)
 refine⟨.int _,H,back h' tk k,⟨t,rfl⟩,q _ (z6Q (by omega)) fun y hy=>?_⟩
 obtain⟨i,hi,rfl⟩:=z6O hy
 exact b2 i (by omega)
theorem z7Y(hc:X.calm=true):z2U X (.builtin "min") (y7o X.K fun y m=>m≤y):=by
 intro pins s σ H xs us Q I r h
 obtain⟨a,ns,rfl,hq,hn,q⟩:=h
 obtain⟨u,rfl,ru⟩:=z34 r
 cases ru
 refine call_min_walk (z5D (A:=X.A.in1) I (I.ok.hd hc) hq fun it fp St its s3 rv W st hfp back=>?_)
 have hl:=rv.length
 rw[b8] at hl
 have h0:0<its.length:=by
  rw[<- hl]
  exact fK.mpr hn
 refine⟨it,fp,[it],_,_,St,_,rfl,W,st,hfp,by rw[bH];exact h0,CmpOf.ints_lt (fun i=>ns.getD i 0) (z2C rv),fun v h' tk hv k=>?_⟩
 rw[bH] at hv
 obtain⟨t,rfl⟩:=z2C rv _ _ hv
 obtain⟨b1,b2⟩:=z9e (fun i=>ns.getD i 0) (its.length-1)
 refine⟨.int _,H,back h' tk k,⟨t,rfl⟩,q _ (z6Q (by omega)) fun y hy=>?_⟩
 obtain⟨i,hi,rfl⟩:=z6O hy
 exact b2 i (by omega)
theorem y7w(hu:X.A.units<cLine):OpR X (compareOp .Eq) (fun x y H Q=>∃a b xs,x=.ref a/\y=.ref b/\SqL X.K H a xs/\SqL X.K H b []/\Q (.bl xs.isEmpty) H):=by
 intro pins s σ H x y v u Q I rx ry h
 obtain⟨a,b,xs,rfl,rfl,ha,hb,q⟩:=h
 cases rx
 cases ry
 obtain⟨its,r,pl,hz⟩:=I.list ha
 obtain⟨K8,r2,pl2,hz2⟩:=I.list hb
 cases r2
 have hl:=r.length
 cases xs with
 | nil=>
  cases r
  exact SeqAt.RcAt.lists (e:=fun _=>true) pl.isList pl2.isList rfl hu (fun j h1 _=>absurd h1 (gI _)) X.prog X.w X.xe _ ⟨.bl true,H,I,rfl,q⟩
 | cons x0 xr=>
  refine SeqAt.RcAt.lists_lengths pl.isList pl2.isList ?_ hu X.prog X.w X.xe _ ⟨.bl false,H,I,rfl,q⟩
  rw[bH,<- hl]
  rfl
end
end L2
namespace L2
open PySem
def Ris(xs:Array Nat):Prop:=∀i j,i<j->j<xs.size->xs.getD i 0<xs.getD j 0
theorem y5H{xs:Array Nat}{i d e:Nat}(h:i<xs.size):xs.getD i d=xs.getD i e:=by simp[Array.getD,h]
structure Lo(xs:Array Nat)(j r:Nat):Prop where
 le:r≤xs.size
 lt:∀i,i<r->xs.getD i 0<j
 ge:∀i,r≤i->i<xs.size->j≤xs.getD i 0
theorem z8Q{xs:Array Nat}{j:Nat}(hr:Ris xs):∀(fuel lo hi:Nat),hi-lo≤fuel->lo≤hi->hi≤xs.size->(∀i,i<lo->xs.getD i 0<j)->(∀i,hi≤i->i<xs.size->j≤xs.getD i 0)->Lo xs j (SetTable.below.go xs j fuel lo hi)
 | 0,lo,hi,h,hl,hs,a,b=>by
  unfold SetTable.below.go
  have:lo=hi:=by omega
  subst this
  exact⟨hs,a,b⟩
 | fuel+1,lo,hi,h,hl,hs,a,b=>by
  unfold SetTable.below.go
  by_cases c:lo<hi
  ·rw[if_pos c]
   have m1:lo≤(lo+hi) / 2:=by omega
   have m2:(lo+hi) / 2<hi:=by omega
   have m3:(lo+hi) / 2<xs.size:=by omega
   dsimp only
   rw[y5H (e:=0) m3]
   by_cases d:xs.getD ((lo+hi) / 2) 0<j
   ·rw[if_pos d]
    refine z8Q hr fuel _ hi (by omega) (by omega) hs (fun i hi'=>?_) b
    by_cases e:i=(lo+hi) / 2
    ·rw[e];exact d
    ·exact jH (hr i _ (by omega) m3) d
   ·rw[if_neg d]
    refine z8Q hr fuel lo _ (by omega) m1 (by omega) a fun i hi' hz=>?_
    by_cases e:i=(lo+hi) / 2
    ·rw[e];omega
    ·have:=hr _ i (show(lo+hi) / 2<i by omega) hz
     omega
  ·rw[if_neg c]
   have:lo=hi:=by omega
   subst this
   exact⟨hs,a,b⟩
theorem y1w{xs:Array Nat}(hr:Ris xs)(j:Nat):Lo xs j (SetTable.below xs j):=
 z8Q hr _ _ _ (by omega) (cR _) (bC _) (fun _ h=>absurd h (gI _)) fun i h h'=>by omega
theorem Lo.at{xs:Array Nat}{j r:Nat}(h:Lo xs j r){i:Nat}(hi:i<xs.size)(e:xs.getD i 0=j)(hr:Ris xs):r=i:=by
 rcases Nat.lt_trichotomy r i with a|a|a
 ·have h1:=h.ge r (bC _) (by omega)
  have h2:=hr r i a hi
  omega
 ·exact a
 ·have:=h.lt i a
  omega
theorem z8F{xs:Array Nat}{p j:Nat}(hp:p≤xs.size)(i:Nat):(SetTable.insertAt xs p j).getD i 0=if i<p then xs.getD i 0 else if i=p then j else xs.getD (i-1) 0:=by
 unfold SetTable.insertAt
 simp only[Array.getD_eq_getD_getElem?]
 by_cases h1:i<p
 ·rw[if_pos h1,Array.getElem?_append_left (by simp;omega),Array.getElem?_push,if_neg (by simp;omega),Array.getElem?_extract]
  rw[if_pos (by omega),g0]
 ·rw[if_neg h1]
  by_cases h2:i=p
  ·subst h2
   rw[if_pos rfl,Array.getElem?_append_left (by simp;omega),Array.getElem?_push,if_pos (by simp[j3 hp])]
   rfl
  ·rw[if_neg h2,Array.getElem?_append_right (by simp;omega),Array.getElem?_extract]
   have e:p+(i-((xs.extract 0 p).push j).size)=i-1:=by simp;omega
   rw[e]
   by_cases h3:i-1<xs.size
   ·rw[if_pos (by simp;omega)]
   ·rw[if_neg (by simp;omega),fW (by omega)]
theorem y5e{α:Type}{xs:Array α}{p:Nat}{j:α}(hp:p≤xs.size):(SetTable.insertAt xs p j).size=xs.size+1:=by
 unfold SetTable.insertAt
 simp
 omega
theorem y6u{xs:Array Nat}{j:Nat}(hr:Ris xs)(hj:xs[SetTable.below xs j]? ≠ some j):Ris (SetTable.insertAt xs (SetTable.below xs j) j):=by
 have lo:=y1w hr j
 generalize SetTable.below xs j=p at lo hj
 intro a b hab hb
 rw[y5e lo.le] at hb
 rw[z8F lo.le,z8F lo.le]
 have hne:∀i,i<xs.size->p≤i->j<xs.getD i 0:=fun i hi hpi=>by
  have h1:=lo.ge i hpi hi
  rcases Nat.lt_or_ge j (xs.getD i 0) with q|q
  ·exact q
  ·have e:xs.getD i 0=j:=by omega
   have:=lo.at hi e hr
   subst this
   refine absurd ?_ hj
   rw[cX hi]
   simp[Array.getD,hi] at e
   rw[e]
 by_cases a1:a<p
 ·rw[if_pos a1]
  by_cases b1:b<p
  ·rw[if_pos b1]
   have:=lo.le
   exact hr a b hab (by omega)
  ·rw[if_neg b1]
   by_cases b2:b=p
   ·rw[if_pos b2]
    exact lo.lt a a1
   ·rw[if_neg b2]
    exact jH (lo.lt a a1) (hne _ (by omega) (by omega))
 ·rw[if_neg a1,if_neg (show ¬b<p by omega),if_neg (show ¬b=p by omega)]
  by_cases a2:a=p
  ·rw[if_pos a2]
   exact hne _ (by omega) (by omega)
  ·rw[if_neg a2]
   exact hr _ _ (by omega) (by omega)
structure N3(t:SetTable):Prop where
 ris:Ris t.place
 dum:t.dummies=#[]
theorem y42(n:Nat):Ris (Array.range n):=fun i j h hj=>by
 have hj':j<n:=by simpa using hj
 simp[Array.getD,hj',show i<n by omega]
 omega
theorem z3I(t:SetTable)(n:Nat):N3 (t.standIn n):=⟨y42 n,rfl⟩
theorem y2m{t:SetTable}(hd:t.dummies=#[]){j:Nat}(h:t.slot j=.empty):t.place[SetTable.below t.place j]? ≠ some j:=by
 intro e
 unfold SetTable.slot at h
 dsimp only at h
 rw[e] at h
 simp at h
theorem y1Q{t:SetTable}(hd:t.dummies=#[]){j:Nat}:t.slot j≠.dummy:=by
 unfold SetTable.slot
 dsimp only
 intro h
 split at h
 ·cases h
 ·split at h
  ·rename_i h2
   rw[hd] at h2
   unfold SetTable.has at h2
   simp at h2
  ·cases h
theorem y1b{t:SetTable}{ha:Nat->Int}{h:Int}(hd:t.dummies=#[])(hne:∀i,(ha i == h)=false):∀(fuel:Nat) (p:SetTable.Probe) (j:Nat) (d:Option Nat),p.dummy=none->SetTable.probe.go t ha h fuel p=some (.empty j d)->d=none/\t.slot j=.empty
 | 0,p,j,d,_,e=>by
  unfold SetTable.probe.go at e
  cases e
 | fuel+1,p,j,d,hp,e=>by
  unfold SetTable.probe.go at e
  cases hs:t.slot p.j with
  | empty=>
   rw[hs] at e
   simp at e
   obtain⟨rfl,rfl⟩:=e
   exact⟨hp,hs⟩
  | dummy=>exact absurd hs (y1Q hd)
  | live i=>
   rw[hs] at e
   dsimp only at e
   rw[hne i,if_neg bI] at e
   refine y1b hd hne fuel _ j d ?_ e
   unfold SetTable.advance
   split
   ·exact hp
   ·exact hp
theorem y1X{t:SetTable}{es:Array (Int×Value)}{h:Int}{x:Value}(k:N3 t):N3 (layNew t es h x).2.1/\(layNew t es h x).2.1.led=t.led:=by
 unfold layNew
 cases e:t.freeSlot h with
 | none=>exact⟨z3I _ _,rfl⟩
 | some q=>
  obtain⟨slot,wd⟩:=q
  have ok:t.place[SetTable.below t.place slot]? ≠ some slot:=by
   unfold SetTable.freeSlot at e
   cases ep:t.probe (fun _=>h+1) h (t.probeStart h) with
   | none=>rw[ep] at e;cases e
   | some m=>
    rw[ep] at e
    cases m with
    | candidate a b c=>cases e
    | empty j d=>
     obtain⟨d0,hs⟩:=y1b k.dum (fun _=>by simp;omega) _ _ j d rfl ep
     subst d0
     simp at e
     obtain⟨rfl,_⟩:=e
     exact y2m k.dum hs
  dsimp only
  have kp:N3 (t.put slot).1/\(t.put slot).1.led=t.led:=by
   unfold SetTable.put
   refine⟨⟨y6u k.ris ok,?_⟩,rfl⟩
   dsimp only
   rw[k.dum]
   split
   ·rename_i h2
    unfold SetTable.has at h2
    simp at h2
   ·rfl
  unfold SetTable.orStandIn
  split
  ·exact kp
  ·exact⟨z3I _ _,kp.2⟩
theorem y5r{l:List Nat}(hp:l.Pairwise (· < ·)):Ris l.toArray:=fun i j hij hj=>by
 have hj':j<l.length:=by simpa using hj
 have:=List.pairwise_iff_getElem.mp hp i j (by omega) hj' hij
 simp[Array.getD,hj',show i<l.length by omega]
 exact this
theorem y50(owner:Array (Option Nat))(m:Nat):Ris (((List.range m).filterMap fun j=>(owner.getD j none).map (j,·)).map (·.1)).toArray:=by
 have hp:(((List.range m).filterMap fun j=>(owner.getD j none).map (j,·)).map (·.1)).Pairwise (· < ·):=by
  rw[dY]
  refine List.Pairwise.filterMap _ ?_ gX
  intro a b hab c hc d hd
  simp only[cE] at hc hd
  obtain⟨_,_,rfl⟩:=hc
  obtain⟨_,_,rfl⟩:=hd
  exact hab
 exact y5r hp
theorem y4u{t:SetTable}{es:Array (Int×Value)}{wanted:Nat}:N3 (relayAll t es wanted).2.1/\(relayAll t es wanted).2.1.led=t.led:=by
 unfold relayAll
 cases e:t.relaid (es.map (·.1)) wanted with
 | none=>exact⟨z3I _ _,rfl⟩
 | some q=>
  obtain⟨t',order⟩:=q
  dsimp only
  split
  ·unfold SetTable.relaid SetTable.laid at e
   simp only[Option.bind_eq_bind,Option.bind_eq_some_iff] at e
   obtain⟨owner,_,e2⟩:=e
   injection e2 with e2
   injection e2 with e3 e4
   subst e3
   exact⟨⟨y50 _ _,rfl⟩,rfl⟩
  ·exact⟨z3I _ _,rfl⟩
section
variable{prog:Program}{w:World}{A:Around}{E:Value->Shared->Prop}{s:Shared}{κ:Type}[DecidableEq κ]{kd:KeyKind prog w κ}{led:Bool}
def F5(kd:KeyKind prog w κ)(led:Bool)(h:Heap)(a:Addr)(ks:List κ):Prop:=
 ∃o es ep t,h.get? a=some o/\o.ExactSet/\o.data=.set es ep t/\ElemsOf kd es.toList/\(∀k,k∈ks↔∃e∈es.toList,kd.is k e.2=true)/\es.size<scanBound/\t.fits es.size=true/\es.size=(C5 ks).length/\N3 t/\t.led=led
theorem F5.at{h h':Heap}{a:Addr}{ks:List κ}(x:F5 kd led h a ks)(e:∀o,h.get? a=some o->h'.get? a=some o):F5 kd led h' a ks:=by
 obtain⟨o,es,ep,t,ho,r⟩:=x
 exact⟨o,es,ep,t,e o ho,r⟩
theorem F5.stored{h:Heap}{a:Addr}{o:Obj}{es es':Array (Int×Value)}{ep:Nat}{t t':SetTable}{ks:List κ}(ho:h.get? a=some o)(hx:o.ExactSet)(hd:o.data=.set es ep t)(el:ElemsOf kd es'.toList)(mem:∀k,k∈ks↔∃e∈es'.toList,kd.is k e.2=true)
  (few:es'.size<scanBound) (fit:t'.fits es'.size=true) (sz:es'.size=(C5 ks).length) (tab:N3 t') (hl:t'.led=led) :
  (h.update a (Obj.putSet es' t')).get? a=some { o with data:=.set es' (ep+1) t' }/\F5 kd led (h.update a (Obj.putSet es' t')) a ks:=by
 have g:(h.update a (Obj.putSet es' t')).get? a=some { o with data:=.set es' (ep+1) t' }:=by
  have:=cW (Obj.putSet es' t') ho (by rw[putSet_of es' t' hd];rfl)
  rw[putSet_of es' t' hd] at this
  exact this
 exact⟨g,_,es',ep+1,t',g,hx,rfl,el,mem,few,fit,sz,tab,hl⟩
theorem z9Y{g:Bool->Sem Unit}(hg:∀(b:Bool) (s₁:Shared) (Q':Unit->Shared->Prop),Q' () s₁->wpAny (model prog w) A (g b) Q' E s₁){a:Addr}{o:Obj}{es es1:Array (Int×Value)}{ep:Nat}{t t2:SetTable}{ks:List κ}(ho:s.heap.get? a=some o)(hx:o.ExactSet)(hd:o.data=.set es ep t)
  (el:ElemsOf kd es1.toList) (mem:∀k,k∈ks↔∃e∈es1.toList,kd.is k e.2=true) (few:es1.size<scanBound) (fit:t2.fits es1.size=true) (sz:es1.size=(C5 ks).length) (tab:N3 t2) (hl:t2.led=led) {wd:Bool}{R:Option Bool->Shared->Prop}
  (fin:∀h',Heap.SameBut a s.heap h'->F5 kd led h' a ks->R (some true) { s with heap:=h' }) :
  wpAny (model prog w) A (do
    storeSet a es1 t2
    if (!wd && t2.tooFull)=true then do
      g (relayAll t2 es1 (SetTable.grown es1.size)).2.2
      storeSet a (relayAll t2 es1 (SetTable.grown es1.size)).1 (relayAll t2 es1 (SetTable.grown es1.size)).2.1
      pure (some true)
     else pure (some true)) R E s:=by
 refine wpAny_bind (wpAny_storeSet_of ho hd ?_ (fits_of_scanBound few))
 obtain⟨g1,w1⟩:=F5.stored ho hx hd el mem few fit sz tab hl
 have sb1:=fL s.heap a (Obj.putSet es1 t2)
 split
 ·have pm:=relayAll_perm t2 es1 (SetTable.grown es1.size)
  have ft:=relayAll_fits t2 es1 (SetTable.grown es1.size)
  have tb:=y4u (t:=t2) (es:=es1) (wanted:=SetTable.grown es1.size)
  generalize relayAll t2 es1 (SetTable.grown es1.size)=L at pm ft tb
  obtain⟨es2,t3,gave⟩:=L
  dsimp only at pm ft tb ⊢
  have sz2:es2.size=es1.size:=by rw[<- cJ,pm.length_eq,cJ]
  refine wpAny_bind (hg _ _ _ (wpAny_bind (wpAny_storeSet_of g1 rfl ?_ (fits_of_scanBound (by omega)))))
  obtain⟨_,w2⟩:=F5.stored (kd:=kd) (ks:=ks) g1 hx rfl (el.perm pm) (fun k=>(mem k).trans ⟨fun⟨e,he,q⟩=>⟨e,pm.mem_iff.mpr he,q⟩,fun⟨e,he,q⟩=>⟨e,pm.mem_iff.mp he,q⟩⟩) (by omega) ft (by omega) tb.1 (tb.2.trans hl)
  exact wpAny_pure (fin _ (sb1.trans (fL _ a _)) w2)
 ·exact wpAny_pure (fin _ sb1 w1)
theorem y5l{a:Addr}{ks:List κ}{k:κ}{x:Value}{Q:Bool->Shared->Prop}(iv:kd.is k x=true)(sc:x.scannable=true)(hS:F5 kd led s.heap a ks)(room:ks.length+1<scanBound)
  (fin:∀(b:Bool) (h':Heap),Heap.SameBut a s.heap h'->F5 kd led h' a (ks++[k])->Q b { s with heap:=h' }):wpAny (model prog w) A (setAddHashed a x (kd.hash k)) Q E s:=by
 obtain⟨o,es,ep,t,ho,hx,hd,hel,mem,hb,fit,sz,tab,hl⟩:=hS
 have lm:=z5H ks
 unfold setAddHashed setAddHashedIn
 refine wpAny_holding (wpAny_bind (wpAny_setState_of ho hd fit ?_))
 dsimp only
 rw[byScan_of sc hb hel,if_pos rfl]
 unfold setAddByScan
 refine wpAny_bind (wpAny_bind (wpAny_rule (wpAny_bind (wpAny_setScan_of iv ho hd fit hel ?_))))
 cases hr:List.findIdx? (fun e=>kd.is k e.2) es.toList with
 | some j=>
  obtain⟨hj,hpj,_⟩:=List.findIdx?_eq_some_iff_getElem.mp hr
  have hk:k∈ks:=(mem k).mpr ⟨_,eU hj,hpj⟩
  refine wpAny_pure (wpAny_pure ?_)
  have e:s={ s with heap:=s.heap }:=by cases s;rfl
  rw[e]
  refine fin _ s.heap (Heap.SameBut.refl a s.heap) ⟨o,es,ep,t,ho,hx,hd,hel,fun k'=>?_,hb,fit,?_,tab,hl⟩
  ·rw[<- mem k',bM,bA]
   exact⟨fun h=>h.elim id fun e=>e ▸ hk,.inl⟩
  ·rw[z7o,if_pos (z2D.mpr hk)]
   exact sz
 | none=>
  have hk:k∉ks:=fun hk=>by
   obtain⟨e,he,hp⟩:=(mem k).mp hk
   have:=List.findIdx?_eq_none_iff.mp hr e he
   rw[hp] at this
   cases this
  have gw:∀(b:Bool) {s₁:Shared}{Q':Unit->Shared->Prop},Q' () s₁->wpAny (model prog w) A (match b with|true=>rule "set.scan.the-table-gave-way"|false=>pure ()) Q' E s₁:=fun b _ _ hq=>by
   cases b
   ·exact wpAny_pure hq
   ·exact wpAny_rule hq
  have pm:=layNew_perm t es (kd.hash k) x
  have ft:=layNew_fits t es (kd.hash k) x
  have tb:=y1X (es:=es) (h:=kd.hash k) (x:=x) tab
  generalize layNew t es (kd.hash k) x=L at pm ft tb
  obtain⟨es1,t1,wd,gave⟩:=L
  dsimp only at pm ft tb ⊢
  rw[Array.toList_push] at pm
  have el1:ElemsOf kd es1.toList:=(hel.push iv sc).perm pm
  have mem1:∀k',k'∈ks++[k]↔∃e∈es1.toList,kd.is k' e.2=true:=fun k'=>by
   rw[bM,bA,mem k']
   constructor
   ·rintro(⟨e,he,hp⟩|rfl)
    ·exact⟨e,pm.mem_iff.mpr (cM _ he),hp⟩
    ·exact⟨_,pm.mem_iff.mpr (bX _ bQ),iv⟩
   ·rintro⟨e,he,hp⟩
    rcases bM.mp (pm.mem_iff.mp he) with he|he
    ·exact .inl ⟨e,he,hp⟩
    ·rw[bA] at he
     subst he
     exact .inr (kd.inj x k' k hp iv)
  have sz1:es1.size=(C5 (ks++[k])).length:=by
   rw[z7o,if_neg (fun q=>hk (z2D.mp q)),bN,<- sz,<- cJ,pm.length_eq,bN,cJ]
   rfl
  have lm1:=z5H (ks++[k])
  rw[bN,bZ,j4] at lm1
  have few1:es1.size<scanBound:=by omega
  refine wpAny_bind (gw _ ?_)
  have fin':∀h',Heap.SameBut a s.heap h'->F5 kd led h' a (ks++[k])->Q true { s with heap:=h' }:=fun h' sb sw=>fin true h' sb sw
  split
  ·refine wpAny_bind ?_
   rw[hashByValue_scannable 8 sc]
   refine wpAny_pure (z9Y (fun b _ _ hq=>gw b hq) ho hx hd el1 mem1 few1 ?_ sz1 ?_ ?_ fun h' sb sw=>wpAny_pure (fin' h' sb sw))
   ·split
    ·exact ft
    ·exact SetTable.fits_plain_off ft
   ·split
    ·exact tb.1
    ·exact⟨tb.1.ris,tb.1.dum⟩
   ·split
    ·exact tb.2.trans hl
    ·exact tb.2.trans hl
  ·refine wpAny_bind (wpAny_pure ?_)
   rw[if_pos rfl]
   exact z9Y (fun b _ _ hq=>gw b hq) ho hx hd el1 mem1 few1 ft sz1 tb.1 (tb.2.trans hl) fun h' sb sw=>wpAny_pure (fin' h' sb sw)
abbrev z8a(w:World):Bool:=!w.params.followText "set-order"
theorem z8N(x:Value){Q:Value->Shared->Prop}(h:Q (.ref s.heap.objs.size) { s with heap:=s.heap.push (E5 (z8a w)) }) :
  codeAny (model prog w) A (.call (.builtin "set.__new__") ⟨[.type "set",x],[]⟩) (wants Q E) s:=by
 refine codeAny_of_tree (show wpAny _ A.in1 (do checkBuiltinCall "set.__new__" ⟨[.type "set",x],[]⟩;again (.builtin "set.__new__" ⟨[.type "set",x],[]⟩)) _ _ s from ?_)
 refine wpAny_bind (wpAny_of_eq (PySem.F.newCall_set_1 x) (wpAny_pure ⟨plainId_quiet F.plain_set_new _,codeAny_builtin F.entry_set_new ?_⟩))
 rw[c9 F.plain_set_new _];unfold Builtin.«set.__new__» Builtin.Frozenset.newClass
 have hsub:=sub_set_self
 obtain⟨hp,g,d,tk,os⟩:=s;dsimp only
 wp_walk
 refine wpAny_askSetting (wpAny_pure ?_);dsimp only;simp only[newObj]
 exact wpAny_bind (wpAny_alloc (wpAny_pure (wpAny_pure h)))
theorem z7N{R:Result->Shared->Prop}{I:Addr}{fp wr:List Addr}{G:Array GenState->Array GenState->Prop}{n:Nat}{P:Nat->Value->Prop}{St:Nat->Shared->Prop}(W:WalksS prog w A.in1 I fp wr G n P St){a:Addr}(out:a∉fp){ks:List κ}(lk:ks.length=n)
  (vals:∀(i:Nat) v,P i v->∃k,ks[i]? = some k/\kd.is k v=true/\v.scannable=true) (few:n+1<scanBound) :
  ∀(todo i:Nat) (s:Shared),i+todo=n->St i s->F5 kd led s.heap a (ks.take i)->
   (∀s',Moved (a::wr) G s s'->F5 kd led s'.heap a ks->R (.ok (.ret .none)) s')->codeAny (model prog w) A (.builtin "set.update.loop" ⟨[.ref a,.ref I],[]⟩) R s
 | 0,i,s,ei,st,sx,fin=>by
  have e:ks.take i=ks:=cZ (by omega)
  rw[e] at sx
  have ei':i=n:=by omega
  subst ei'
  refine codeAny_builtin gK ?_
  rw[c9 eZ _]
  refine wpAny_bind (W.done s _ _ st fun s' mv=>wpAny_pure (fin s' (mv.mono fun b hb=>.tail _ hb) (sx.at fun o=>mv.heap a o fun q=>out (W.sub _ q))))
 | todo+1,i,s,ei,st,sx,fin=>by
  refine codeAny_builtin gK ?_
  rw[c9 eZ _]
  refine wpAny_bind (W.item i s _ _ (by omega) st fun v s1 hv st1 mv=>?_)
  obtain⟨k,ek,iv,sc⟩:=vals i v hv
  have sx1:=sx.at (h':=s1.heap) fun o=>mv.heap a o fun q=>out (W.sub _ q)
  refine wpAny_bind (wpAny_holding (m:=setAdd a v) ?_)
  unfold setAdd
  refine wpAny_holding (wpAny_bind (kd.pyHash iv ?_))
  refine y5l (s:={ s1 with toks:=s1.toks+1 }) iv sc sx1 (by rw[bO];omega) fun bb h2 sb sx2=>?_
  have e1:ks.take i++[k]=ks.take (i+1):=by rw[eI,ek]<;>rfl
  rw[e1] at sx2
  have far:∀b,b≠a->h2.get? b=s1.heap.get? b:=fun b hb=>sb.2 b hb
  refine wpAny_pure ⟨plainId_quiet eZ _,z7N W out lk vals few todo (i+1) _ (by omega) (W.frame _ s1 _ _ st1 (e7 _) fun b hb o q=>?_) sx2 fun s3 mv3 sx4=>?_⟩
  ·rw[far b fun z=>out (z ▸ hb)];exact q
  ·refine fin s3 (.trans W.gtrans ((mv.mono fun b hb=>.tail _ hb).then_heap (e7 _) fun b o hb q=>?_) mv3) sx4
   rw[far b fun z=>hb (z ▸ .head _)];exact q
theorem y2K{T:String}{p:Addr}{o:Obj}{its:Array Value}{c0:Nat}{ks:List κ}{Q:Value->Shared->Prop}(hh:A.handled=none)(hp:s.heap.get? p=some o)(hc:o.cls=.type T)(hd:o.data=.seq its c0)(hT:T="list"\/T="tuple")
  (lk:ks.length=its.size) (vals:∀(i:Nat) v,its[i]? = some v->∃k,ks[i]? = some k/\kd.is k v=true/\v.scannable=true) (few:its.size+1<scanBound)
  (fin:∀(h':Heap) (t:Nat),F5 kd (z8a w) h' s.heap.objs.size ks->(∀b u,b<s.heap.objs.size->s.heap.get? b=some u->h'.get? b=some u)->Q (.ref s.heap.objs.size) { s with heap:=h',toks:=t }) :
  wpAny (model prog w) A (call (.type "set") [.ref p]) Q E s:=by
 obtain⟨c,tl,hmro⟩:=d7.mro
 have g1:=d7.made
 have g2:=d7.sub
 refine wpAny_call (codeAny_of_tree (wpAny_pure ⟨Code.quiet_builtin _ (by decide +kernel),codeAny_builtin F.entry_type_call ?_⟩))
 rw[Around.under_plain (weight_type_call_type "set" [.ref p] []) rfl]
 have g3:=d7.notType
 have g4:=d7.canCreate
 have g5:=PySem.F.typeCall_set_1 (.ref p)
 repeat (any_goals (first|assumption|wp_step))
 refine codeAny_mono (z8N (.ref p) (E:=E) (Q:=fun u s1=>u=.ref s.heap.objs.size/\s1={ s with heap:=s.heap.push (E5 (z8a w)) }) ⟨rfl,rfl⟩) fun r s1 q1=>?_
 rcases r with e|(_|_|_|u)
 all_goals try exact q1.elim
 all_goals try exact q1
 obtain⟨rfl,rfl⟩:=q1
 generalize hled:z8a w=led at *
 have at1:(s.heap.push (E5 led)).get? s.heap.objs.size=some (E5 led):=bF _ rfl
 have ty1:Shared.TypeIs { s with heap:=s.heap.push (E5 led) } (.ref s.heap.objs.size) "set":=⟨_,at1,rfl⟩
 have g6:=d7.init.lookup
 have g7:=d7.init.bind (.ref s.heap.objs.size)
 repeat (any_goals (first|assumption|wp_step))
 refine codeAny_mono (codeAny_call_builtin (R:=wants (fun r s2=>r=.none/\∃h' t,s2={ s with heap:=h',toks:=t }/\F5 kd led h' s.heap.objs.size ks/\∀b u,b<s.heap.objs.size->s.heap.get? b=some u->h'.get? b=some u) E)
  d7.init.plain F.entry_set_init (check_set_init_1 ty1 ?_)) fun r s2 q2=>?_
 case _=>
  have hpS:p<s.heap.objs.size:=bK hp
  obtain⟨oc,od,oa,os⟩:=o
  simp only at hc hd
  subst hc;subst hd
  have hp1:(s.heap.push (E5 led)).get? p=some { cls:=.type T,dict:=od,data:=.seq its c0,slots:=os }:=b9 _ hp
  have f1:isSubtype (.type T) (.type "set")=pure false:=by rcases hT with rfl|rfl<;>first|exact PySem.F.sub_list_set|exact Ty.z9T
  have f2:isSubtype (.type T) (.type "frozenset")=pure false:=by rcases hT with rfl|rfl<;>first|exact PySem.F.sub_list_frozenset|exact Ty.z44
  have f3:(Value.type T == Value.type "dict")=false:=by rcases hT with rfl|rfl<;>decide
  have hh3:A.in1.in1.in1.handled=none:=by simp[hh]
  have sz:(s.heap.push (E5 led)).objs.size=s.heap.objs.size+1:=eO _ _
  have apart:p≠(s.heap.push (E5 led)).objs.size:=by rw[sz];exact bW (dE hpS)
  have out:s.heap.objs.size∉[(s.heap.push (E5 led)).objs.size,p]:=by rw[sz,bB,bA];exact fun z=>z.elim (bW (eQ _)) (fG hpS)
  have z4g:∀x:Obj,F5 kd led ((s.heap.push (E5 led)).push x) s.heap.objs.size (ks.take 0):=fun x=>by
   refine⟨E5 led,#[],0,_,b9 x at1,⟨rfl,rfl,rfl⟩,rfl,fun e he=>by simp at he,fun k=>by simp,by simp[scanBound],rfl,by rw[dG];rfl,⟨fun i j _ h=>absurd h (gI _),rfl⟩,rfl⟩
  have ends:∀(x:Obj) (s':Shared),Moved [s.heap.objs.size,(s.heap.push (E5 led)).objs.size] (fun a b=>b=a) { s with heap:=(s.heap.push (E5 led)).push x } s'->F5 kd led s'.heap s.heap.objs.size ks->
    ∃h' t,s'={ s with heap:=h',toks:=t }/\F5 kd led h' s.heap.objs.size ks/\∀b u,b<s.heap.objs.size->s.heap.get? b=some u->h'.get? b=some u:=fun x s' mv sx=>by
   obtain⟨h',g',d',t',o'⟩:=s'
   obtain rfl:g'=s.gens:=mv.gens
   obtain rfl:d'=s.drawn:=mv.drawn
   obtain rfl:o'=s.os:=mv.os
   exact⟨h',t',rfl,sx,fun b u hb q=>mv.heap b u (by rw[sz,bB,bA];exact fun z=>z.elim (bW hb) (bW (dE hb))) (b9 _ (b9 _ q))⟩
  unfold Builtin.«set.__init__» noKeywords Builtin.Frozenset.updateFrom
  generalize hPI:pyIter=PI
  wp_walk
  subst hPI
  rcases hT with rfl|rfl
  ·have hl:(s.heap.push (E5 led)).IsList p its:=⟨_,hp1,rfl,c0,rfl⟩
   refine wpAny_pyIter_list hl (wpAny_bind (wpAny_runValue ?_))
   refine z7N (kd:=kd) ((Walks.list hh3 _ p apart its).toS) out lk vals few its.size 0 _ (g0 _) ⟨⟨_,bF _ rfl,rfl,rfl⟩,hl.push _⟩ (z4g _) fun s' mv sx=>?_
   exact wpAny_pure (wpAny_pure ⟨rfl,ends _ s' mv sx⟩)
  ·have hl:(s.heap.push (E5 led)).IsTuple p its:=⟨_,hp1,rfl,c0,rfl⟩
   refine wpAny_pyIter_tuple hl (wpAny_bind (wpAny_runValue ?_))
   refine z7N (kd:=kd) ((Walks.tuple hh3 _ p apart its).toS) out lk vals few its.size 0 _ (g0 _) ⟨⟨_,bF _ rfl,rfl,rfl⟩,hl.push _⟩ (z4g _) fun s' mv sx=>?_
   exact wpAny_pure (wpAny_pure ⟨rfl,ends _ s' mv sx⟩)
 ·rcases r with e|(_|_|_|u)
  all_goals try exact q2.elim
  all_goals try exact q2
  obtain⟨rfl,h',t,rfl,sx,kp⟩:=q2
  repeat (any_goals (first|assumption|wp_step))
  exact fin _ _ sx kp
end
end L2
namespace L2
open PySem PySem.Spec PyProof.Rows
namespace Ty
theorem z1y:Slot "set_iterator" "__next__" "set_iterator.__next__":=
 .of (owner:="set_iterator") (n:="__next__") (by rw[typeLookup_type,builtinLookup_eq_fast];kernel_rfl) (by decide +kernel) (by decide +kernel) (by decide +kernel) (by first|exact .inl (by decide +kernel)|exact .inr (by decide +kernel)) (by rw[isSubtype_type];kernel_rfl)
theorem z4r:entryFor table "set_iterator.__next__"=some Builtin.«set_iterator.__next__»:=entryFor_of_tree (by kernel_rfl)
theorem y1H:entryFor table "set.__iter__"=some Builtin.«frozenset.__iter__»:=entryFor_alias (id':="frozenset.__iter__") (by kernel_rfl) rfl (by decide +kernel) (by kernel_rfl)
theorem z5p(a:Value):argsOk "set_iterator.__next__" ⟨[a],[]⟩:=by unfold argsOk;kernel_rfl
end Ty
theorem z5N{α:Type}:∀(l:List α) (i:Nat) (h:i<l.length),(l[i]::l.eraseIdx i).Perm l
 | x::r,0,h=>List.Perm.refl _
 | x::r,i+1,h=>by
  have:=z5N r i (by simpa using h)
  rw[List.eraseIdx_cons_succ,List.getElem_cons_succ]
  exact(List.Perm.swap x _ _).trans (this.cons x)
theorem y4j{α:Type}(next:Nat->Nat):∀(fuel k:Nat) (left:List α) (out:Array α),left.length=fuel->(pickOrder.go next fuel k left out).toList.Perm (out.toList++left)
 | 0,k,left,out,h=>by
  unfold pickOrder.go
  rw[cT h,cU]
 | fuel+1,k,left,out,h=>by
  unfold pickOrder.go
  have hi:next k%left.length<left.length:=Nat.mod_lt _ (by omega)
  rw[bD hi]
  dsimp only
  refine(y4j next fuel (k+1) _ _ (by rw[gD hi];omega)).trans ?_
  rw[Array.toList_push,fX]
  exact List.Perm.append_left _ (z5N _ _ hi)
theorem z7r{α:Type}(next:Nat->Nat)(xs:Array α):(pickOrder next xs).toList.Perm xs.toList:=by
 have:=y4j next xs.size 0 xs.toList #[] (by simp)
 simpa [pickOrder] using this
section
variable{prog:Program}{w:World}{A:Around}{E:Value->Shared->Prop}{s:Shared}
theorem y22{α:Type}(n:Nat):∀(xs:List α) (s:Shared) (Q:List α->Shared->Prop),xs.length=n->(∀(ys:List α) (d:Drawn),ys.Perm xs->Q ys { s with drawn:=d })->wpAny (model prog w) A (drawOrder n xs) Q E s:=by
 induction n with
 | zero=>
  intro xs s Q h fin
  rw[cT h] at fin ⊢
  exact wpAny_pure (fin [] s.drawn (List.Perm.refl _))
 | succ n ih=>
  intro xs s Q h fin
  obtain⟨x,r,rfl⟩:=cP h
  show wpAny _ _ (choose .order (x::r).length >>= _) _ _ s
  have hi:(model prog w).w.draws .order (s.drawn.get .order)%(x::r).length<(x::r).length:=Nat.mod_lt _ (Nat.succ_pos _)
  refine wpAny_bind (fun Γ p hΓ=>?_)
  unfold choose
  rw[Sem.wp_choose]
  refine⟨by simp,?_⟩
  show wpAny _ _ _ _ _ _
  generalize (model prog w).w.draws .order (s.drawn.get .order)%(x::r).length=i at hi
  rw[bD hi]
  dsimp only
  refine wpAny_bind (ih _ _ _ (by rw[gD hi,h];rfl) fun ys d hp=>wpAny_pure (fin _ d ?_))
  exact(hp.cons _).trans (z5N _ _ hi)
abbrev z5f(f:Value)(i n:Nat)(a:Addr)(ep:Nat):Obj:={ cls:=.type "set_iterator",dict:=none,data:=.fields #[f,.int i 0,.ref a,.int n 0,.int ep 0],slots:=#[] }
theorem y1m{I a:Addr}{o:Obj}{es:Array (Int×Value)}{ep:Nat}{t:SetTable}{slot i nx:Nat}{x:Value}{Q:Option Value->Shared->Prop}(hI:s.heap.get? I=some (z5f (.int slot 0) i es.size a ep))(ho:s.heap.get? a=some o)(hd:o.data=.set es ep t)(fit:t.fits es.size=true)
  (step:∀(A':Around) (E':Value->Shared->Prop) (Q':Option (Value×Nat)->Shared->Prop),Q' (some (x,nx)) s->wpAny (model prog w) A' (setNext a slot i ep) Q' E' s)
  (fin:∀h',h'.get? I=some (z5f (.int nx 0) (i+1) es.size a ep)->Heap.SameBut I s.heap h'->Q (some x) { s with heap:=h' }):wpAny (model prog w) A (pyNext (.ref I)) Q E s:=by
 have hT:s.TypeIs (.ref I) "set_iterator":=⟨_,hI,rfl⟩
 unfold pyNext
 refine wpAny_bind (wpAny_attempt (wpAny_callSpecial?_slot (name:=Str.ofString "__next__") hT Ty.z1y (wpAny_call_entry Ty.z1y hT Ty.z4r ?_ (Ty.z5p _))))
 show wpAny _ _ (fieldsOf (.ref I) >>= _) _ _ s
 refine wpAny_bind (wpAny_fieldsOf hI rfl ?_)
 dsimp only
 unfold setEntries
 refine wpAny_bind (wpAny_bind (wpAny_setState_of ho hd fit (wpAny_pure ?_)))
 rw[if_neg (by simp)]
 refine wpAny_bind ?_
 simp only[dX]
 refine step _ _ _ ?_
 refine wpAny_bind (wpAny_setField_rec hI (by simp) fun h1 g1 b1=>?_)
 refine wpAny_bind (wpAny_setField_rec (s:={ s with heap:=h1 }) g1 (by simp) fun h2 g2 b2=>?_)
 refine wpAny_pure ⟨x,rfl,wpAny_pure (fin h2 ?_ (b1.trans b2))⟩
 rw[g2]
 simp[rawInt]
theorem y1g{I:Addr}{Q:Option Value->Shared->Prop}(hh:A.handled=none)(fin:∀h',(∀b o,s.heap.get? b=some o->h'.get? b=some o)->Q none { s with heap:=h' }) :
  wpAny (model prog w) A.in1 (newExc (Value.type "StopIteration") [] >>= fun x=>(raiseNew x:Sem Fin)) (fun fin s'=>∃v,fin=Fin.done (Flow.ret v)/\wpAny (model prog w) A (pure (some v)) Q E s')
   (fun e s'=>wpAny (model prog w) A (do
     let K0 <- isInstance e (Value.type "StopIteration")
     if K0=true then pure none else throw e) Q E s') s:=by
 refine wpAny_bind ?_
 simp only[newExc,newTuple]
 refine wpAny_bind (wpAny_newObj_type ?_ (by size_fits))
 refine wpAny_bind (m:=firstArgMember _ _) (wpAny_of_eq (a:=Value.none) (by first|rfl|(simp only[firstArgMember];rfl)) (wpAny_newObj_type ?_ (by size_fits)))
 simp only[raiseNew]
 refine wpAny_bind (wpAny_handled ?_)
 rw[show A.in1.handled=none from hh]
 refine wpAny_bind (wpAny_pure (wpAny_throw ?_))
 refine wpAny_bind (wpAny_isInstance (T:="StopIteration") (b:=true) ⟨_,bF _ rfl,rfl⟩ isSubtype_stop ?_)
 exact wpAny_pure (fin _ fun b o e=>b9 _ (b9 _ e))
theorem z6w{I a:Addr}{o:Obj}{es:Array (Int×Value)}{ep:Nat}{t:SetTable}{slot i:Nat}{Q:Option Value->Shared->Prop}(hh:A.handled=none)(hI:s.heap.get? I=some (z5f (.int slot 0) i es.size a ep))(ho:s.heap.get? a=some o)(hd:o.data=.set es ep t)(fit:t.fits es.size=true)
  (step:∀(A':Around) (E':Value->Shared->Prop) (Q':Option (Value×Nat)->Shared->Prop),Q' none s->wpAny (model prog w) A' (setNext a slot i ep) Q' E' s)
  (fin:∀h',(∀b o,b≠I->s.heap.get? b=some o->h'.get? b=some o)->Q none { s with heap:=h' }):wpAny (model prog w) A (pyNext (.ref I)) Q E s:=by
 have hT:s.TypeIs (.ref I) "set_iterator":=⟨_,hI,rfl⟩
 unfold pyNext
 refine wpAny_bind (wpAny_attempt (wpAny_callSpecial?_slot (name:=Str.ofString "__next__") hT Ty.z1y (wpAny_call_entry Ty.z1y hT Ty.z4r ?_ (Ty.z5p _))))
 show wpAny _ _ (fieldsOf (.ref I) >>= _) _ _ s
 refine wpAny_bind (wpAny_fieldsOf hI rfl ?_)
 dsimp only
 unfold setEntries
 refine wpAny_bind (wpAny_bind (wpAny_setState_of ho hd fit (wpAny_pure ?_)))
 rw[if_neg (by simp)]
 refine wpAny_bind ?_
 simp only[dX]
 refine step _ _ _ ?_
 refine wpAny_bind (wpAny_setField_rec hI (by simp) fun h1 g1 b1=>?_)
 exact y1g (I:=I) hh fun h' k=>fin h' fun b o hb e=>k b o ((b1.2 b hb).trans e)
theorem y2L{I a tp:Addr}{o:Obj}{es:Array (Int×Value)}{ep:Nat}{t:SetTable}{i pl:Nat}{x:Value}{hx:Int}{pls:Array Value}{Q:Option Value->Shared->Prop}(hI:s.heap.get? I=some (z5f (.ref tp) i es.size a ep))(ho:s.heap.get? a=some o)(hd:o.data=.set es ep t)(fit:t.fits es.size=true)
  (ht:s.heap.IsTuple tp pls) (hp:pls[i]? = some (.int pl 0)) (he:es[pl]? = some (hx,x))
  (fin:∀h',h'.get? I=some (z5f (.ref tp) (i+1) es.size a ep)->Heap.SameBut I s.heap h'->Q (some x) { s with heap:=h' }):wpAny (model prog w) A (pyNext (.ref I)) Q E s:=by
 have hT:s.TypeIs (.ref I) "set_iterator":=⟨_,hI,rfl⟩
 obtain⟨ot,hot,_,nt,hdt⟩:=ht
 unfold pyNext
 refine wpAny_bind (wpAny_attempt (wpAny_callSpecial?_slot (name:=Str.ofString "__next__") hT Ty.z1y (wpAny_call_entry Ty.z1y hT Ty.z4r ?_ (Ty.z5p _))))
 show wpAny _ _ (fieldsOf (.ref I) >>= _) _ _ s
 refine wpAny_bind (wpAny_fieldsOf hI rfl ?_)
 dsimp only
 unfold setEntries
 refine wpAny_bind (wpAny_bind (wpAny_setState_of ho hd fit (wpAny_pure ?_)))
 rw[if_neg (by simp)]
 refine wpAny_bind (wpAny_seqItems hot hdt ?_)
 simp only[dX,hp]
 refine wpAny_bind ?_
 unfold setNextDrawn
 refine wpAny_bind (wpAny_setState_of ho hd fit ?_)
 dsimp only
 rw[if_neg (by simp),he]
 refine wpAny_pure (wpAny_bind (wpAny_setField_rec hI (by simp) fun h1 g1 b1=>?_))
 refine wpAny_pure ⟨x,rfl,wpAny_pure (fin h1 ?_ b1)⟩
 rw[g1]
 simp[rawInt]
theorem z9m{I a tp:Addr}{o:Obj}{es:Array (Int×Value)}{ep:Nat}{t:SetTable}{i:Nat}{pls:Array Value}{Q:Option Value->Shared->Prop}(hh:A.handled=none)(hI:s.heap.get? I=some (z5f (.ref tp) i es.size a ep))(ho:s.heap.get? a=some o)(hd:o.data=.set es ep t)(fit:t.fits es.size=true)
  (ht:s.heap.IsTuple tp pls) (hp:pls[i]? = none)
  (fin:∀h',(∀b o,b≠I->s.heap.get? b=some o->h'.get? b=some o)->Q none { s with heap:=h' }):wpAny (model prog w) A (pyNext (.ref I)) Q E s:=by
 have hT:s.TypeIs (.ref I) "set_iterator":=⟨_,hI,rfl⟩
 obtain⟨ot,hot,_,nt,hdt⟩:=ht
 unfold pyNext
 refine wpAny_bind (wpAny_attempt (wpAny_callSpecial?_slot (name:=Str.ofString "__next__") hT Ty.z1y (wpAny_call_entry Ty.z1y hT Ty.z4r ?_ (Ty.z5p _))))
 show wpAny _ _ (fieldsOf (.ref I) >>= _) _ _ s
 refine wpAny_bind (wpAny_fieldsOf hI rfl ?_)
 dsimp only
 unfold setEntries
 refine wpAny_bind (wpAny_bind (wpAny_setState_of ho hd fit (wpAny_pure ?_)))
 rw[if_neg (by simp)]
 refine wpAny_bind (wpAny_seqItems hot hdt ?_)
 simp only[dX,hp]
 refine wpAny_bind (wpAny_setField_rec hI (by simp) fun h1 g1 b1=>?_)
 refine wpAny_bind (wpAny_setField_rec (s:={ s with heap:=h1 }) g1 (by simp) fun h2 g2 b2=>?_)
 exact y1g (I:=I) hh fun h' k=>fin h' fun b o hb e=>k b o ((b2.2 b hb).trans ((b1.2 b hb).trans e))
theorem z9J{a:Addr}{o:Obj}{es:Array (Int×Value)}{ep:Nat}{t:SetTable}{slot i:Nat}{Q:Option (Value×Nat)->Shared->Prop}(ho:s.heap.get? a=some o)(hd:o.data=.set es ep t)(fit:t.fits es.size=true)(ht:w.params.followText "set-order"=true)
  (h:Q ((pickOrder (w.params.setOrder a ep) es)[i]?.map fun e=>(e.2,slot)) s):wpAny (model prog w) A (setNext a slot i ep) Q E s:=by
 unfold setNext
 refine wpAny_bind (wpAny_setState_of ho hd fit ?_)
 dsimp only
 unfold setsByText
 refine wpAny_bind (wpAny_bind (wpAny_askSetting (wpAny_pure ?_)))
 dsimp only
 have ht':(model prog w).w.params.followText "set-order"=true:=ht
 rw[if_pos ht',if_neg (by simp)]
 unfold setWalk
 refine wpAny_bind (wpAny_bind (wpAny_setState_of ho hd fit ?_))
 dsimp only
 unfold setsByText
 refine wpAny_bind (wpAny_bind (wpAny_askSetting (wpAny_pure ?_)))
 dsimp only
 rw[if_pos ht']
 exact wpAny_bind (wpAny_askSetting (wpAny_pure (wpAny_pure h)))
theorem z8C{a:Addr}{o:Obj}{es:Array (Int×Value)}{ep:Nat}{t:SetTable}{slot i:Nat}{Q:Option (Value×Nat)->Shared->Prop}(ho:s.heap.get? a=some o)(hd:o.data=.set es ep t)(fit:t.fits es.size=true)(ht:w.params.followText "set-order"=false)
  (hdr:(!t.plain && decide (es.size > 1))=false) (hl:t.led=true) (h:Q (match es[SetTable.below t.place slot]?,t.place[SetTable.below t.place slot]? with|some (_,x),some j=>some (x,j+1)|_,_=>none) s):wpAny (model prog w) A (setNext a slot i ep) Q E s:=by
 unfold setNext
 refine wpAny_bind (wpAny_setState_of ho hd fit ?_)
 dsimp only
 unfold setsByText
 refine wpAny_bind (wpAny_bind (wpAny_askSetting (wpAny_pure ?_)))
 dsimp only
 have ht':(model prog w).w.params.followText "set-order"=false:=ht
 rw[ht',if_neg bI]
 show wpAny _ _ (if (!t.plain && decide (es.size > 1))=true then _ else _) _ _ _
 rw[hdr,if_neg bI]
 refine wpAny_bind ?_
 show wpAny _ _ (if (!t.led && !es.isEmpty)=true then _ else _) _ _ _
 rw[hl,if_neg (by simp)]
 exact wpAny_pure (wpAny_pure h)
end
namespace Ty
theorem y3n:Slot "set_iterator" "__iter__" "set_iterator.__iter__":=
 .of (owner:="set_iterator") (n:="__iter__") (by rw[typeLookup_type,builtinLookup_eq_fast];kernel_rfl) (by decide +kernel) (by decide +kernel) (by decide +kernel) (by first|exact .inl (by decide +kernel)|exact .inr (by decide +kernel)) (by rw[isSubtype_type];kernel_rfl)
theorem y4O:entryFor table "set_iterator.__iter__"=some Builtin.«dict_keyiterator.__iter__»:=entryFor_alias (id':="dict_keyiterator.__iter__") (by kernel_rfl) (by first|rfl|decide +kernel) (by decide +kernel) (by kernel_rfl)
theorem y6X(a:Value):argsOk "set_iterator.__iter__" ⟨[a],[]⟩:=by unfold argsOk;kernel_rfl
end Ty
theorem z7f{prog:Program}{w:World}{A:Around}{E:Value->Shared->Prop}{s:Shared}{I:Addr}{f:Value}{i n ep:Nat}{a:Addr}{Q:Value->Shared->Prop}(hI:s.heap.get? I=some (z5f f i n a ep))(q:Q (.ref I) s):wpAny (model prog w) A (pyIter (.ref I)) Q E s:=by
 have hT:s.TypeIs (.ref I) "set_iterator":=⟨_,hI,rfl⟩
 refine wpAny_pyIter_slot hT Ty.y3n (wpAny_call_entry Ty.y3n hT Ty.y4O ?_ (Ty.y6X _))
 show wpAny _ _ (ret (.ref I)) _ _ s
 exact wpAny_pure ⟨_,rfl,"set_iterator",_,hT,Ty.z1y.lookup,q⟩
section
variable{prog:Program}{w:World}{A:Around}{E:Value->Shared->Prop}{s:Shared}{κ:Type}[DecidableEq κ]{kd:KeyKind prog w κ}
theorem y3D{α β:Type}{f:α->Option β}:∀{l:List α},(∀x∈l,(f x).isSome=true)->∀(i:Nat),(l.filterMap f)[i]? = l[i]?.bind f
 | [],_,i=>by simp
 | x::r,h,i=>by
  cases e:f x with
  | none=>
   have:=h x bQ
   rw[e] at this
   cases this
  | some y=>
   rw[eJ,e]
   dsimp only
   cases i with
   | zero=>simp[e]
   | succ i=>simpa using y3D (fun z hz=>h z (bL _ hz)) i
theorem y41{I a:Addr}{o:Obj}{es:Array (Int×Value)}{ep:Nat}{t:SetTable}(hh:A.handled=none)(ne:a≠I)(hd:o.data=.set es ep t)(fit:t.fits es.size=true)(ht:w.params.followText "set-order"=true) :
  Walks prog w A I [I,a] [I] es.size (fun i v=>((pickOrder (w.params.setOrder a ep) es).toList.map (·.2))[i]? = some v) (fun i h=>h.get? I=some (z5f (.int ((0:Nat):Int) 0) i es.size a ep)/\h.get? a=some o) where
 sub:=fun b hb=>by simp at hb;simp[hb]
 frame:=fun i h h' st k=>⟨k I (by simp) _ st.1,k a (by simp) _ st.2⟩
 item:=fun i s Q E hi st fin=>by
  have sz:(pickOrder (w.params.setOrder a ep) es).size=es.size:=by rw[<- cJ,(z7r _ es).length_eq,cJ]
  have e1:(pickOrder (w.params.setOrder a ep) es)[i]? = some (pickOrder (w.params.setOrder a ep) es)[i]:=cX (by omega)
  refine y1m (x:=(pickOrder (w.params.setOrder a ep) es)[i].2) (nx:=0) st.1 st.2 hd fit (fun A' E' Q' q=>z9J st.2 hd fit ht (by rw[e1];exact q)) fun h' g b=>?_
  refine fin _ h' s.toks ?_ ⟨g,(b.2 a ne).trans st.2⟩ fun b' o' hb e=>(b.2 b' (fun z=>hb (by simp[z]))).trans e
  rw[bG,dP,e1]
  rfl
 done:=fun s Q E st fin=>by
  have sz:(pickOrder (w.params.setOrder a ep) es).size=es.size:=by rw[<- cJ,(z7r _ es).length_eq,cJ]
  refine z6w hh st.1 st.2 hd fit (fun A' E' Q' q=>z9J st.2 hd fit ht (by rw[fW (by omega)];exact q)) fun h' k=>?_
  exact fin h' s.toks fun b o' hb e=>k b o' (fun z=>hb (by simp[z])) e
 self:=fun i s Q E st q=>z7f st.1 q
def slotAt(t:SetTable)(i:Nat):Nat:=if i=0 then 0 else t.place.getD (i-1) 0+1
theorem z8i{t:SetTable}(hr:Ris t.place){i:Nat}(hi:i≤t.place.size):SetTable.below t.place (slotAt t i)=i:=by
 have lo:=y1w hr (slotAt t i)
 generalize SetTable.below t.place (slotAt t i)=r at lo
 unfold slotAt at lo
 rcases Nat.lt_trichotomy r i with h|h|h
 ·have h1:=lo.ge r (bC _) (by omega)
  rw[if_neg (by omega)] at h1
  by_cases e:r=i-1
  ·subst e
   omega
  ·have:=hr r (i-1) (by omega) (by omega)
   omega
 ·exact h
 ·have h1:=lo.lt i h
  have:=lo.le
  by_cases e:i=0
  ·rw[if_pos e] at h1
   omega
  ·rw[if_neg e] at h1
   have:=hr (i-1) i (by omega) (by omega)
   omega
theorem z9O{t:SetTable}{n:Nat}(h:t.fits n=true):t.place.size=n:=by
 unfold SetTable.fits at h
 rw[bS,beq_iff_eq] at h
 exact h.1
theorem y1T{I a:Addr}{o:Obj}{es:Array (Int×Value)}{ep:Nat}{t:SetTable}(hh:A.handled=none)(ne:a≠I)(hd:o.data=.set es ep t)(fit:t.fits es.size=true)(tab:N3 t)(ht:w.params.followText "set-order"=false)(hdr:(!t.plain && decide (es.size > 1))=false)(hl:t.led=true) :
  Walks prog w A I [I,a] [I] es.size (fun i v=>(es.toList.map (·.2))[i]? = some v) (fun i h=>h.get? I=some (z5f (.int (slotAt t i:Nat) 0) i es.size a ep)/\h.get? a=some o) where
 sub:=fun b hb=>by simp at hb;simp[hb]
 frame:=fun i h h' st k=>⟨k I (by simp) _ st.1,k a (by simp) _ st.2⟩
 item:=fun i s Q E hi st fin=>by
  have ps:=z9O fit
  have bs:=z8i tab.ris (i:=i) (by omega)
  have e1:es[i]? = some es[i]:=cX hi
  have e2:t.place[i]? = some t.place[i]:=cX (by omega)
  have e3:slotAt t (i+1)=t.place[i]+1:=by
   unfold slotAt
   rw[if_neg (by omega),Nat.add_sub_cancel]
   simp[Array.getD,show i<t.place.size by omega]
  refine y1m (x:=es[i].2) (nx:=slotAt t (i+1)) st.1 st.2 hd fit (fun A' E' Q' q=>z8C st.2 hd fit ht hdr hl (by rw[bs,e1,e2];dsimp only;rw[<- e3];exact q)) fun h' g b=>?_
  refine fin _ h' s.toks ?_ ⟨g,(b.2 a ne).trans st.2⟩ fun b' o' hb e=>(b.2 b' (fun z=>hb (by simp[z]))).trans e
  rw[bG,dP,e1]
  rfl
 done:=fun s Q E st fin=>by
  have ps:=z9O fit
  have bs:=z8i tab.ris (i:=es.size) (by omega)
  refine z6w hh st.1 st.2 hd fit (fun A' E' Q' q=>z8C st.2 hd fit ht hdr hl (by rw[bs,fW (bC _)];exact q)) fun h' k=>?_
  exact fin h' s.toks fun b o' hb e=>k b o' (fun z=>hb (by simp[z])) e
 self:=fun i s Q E st q=>z7f st.1 q
theorem y1Y{I a tp:Addr}{o:Obj}{es:Array (Int×Value)}{ep:Nat}{t:SetTable}{ord:List Nat}(hh:A.handled=none)(ne:a≠I)(net:tp≠I)(hd:o.data=.set es ep t)(fit:t.fits es.size=true)(hp:ord.Perm (List.range es.size)) :
  Walks prog w A I [I,a,tp] [I] es.size (fun i v=>(ord.filterMap fun j=>es[j]?.map (·.2))[i]? = some v) (fun i h=>h.get? I=some (z5f (.ref tp) i es.size a ep)/\h.get? a=some o/\h.IsTuple tp (ord.map fun(j:Nat)=>rawInt j).toArray) where
 sub:=fun b hb=>by simp at hb;simp[hb]
 frame:=fun i h h' st k=>⟨k I (by simp) _ st.1,k a (by simp) _ st.2.1,st.2.2.at fun o e=>k tp (by simp) _ e⟩
 item:=fun i s Q E hi st fin=>by
  have lo:ord.length=es.size:=by rw[hp.length_eq,dF]
  have hj:ord[i]? = some ord[i]:=bD (by omega)
  have hlt:ord[i]<es.size:=eM.mp (hp.mem_iff.mp (eU _))
  have e1:es[ord[i]]? = some es[ord[i]]:=cX hlt
  refine y2L (x:=es[ord[i]].2) (hx:=es[ord[i]].1) (pl:=ord[i]) st.1 st.2.1 hd fit st.2.2 (by simp[hj,rawInt]) e1 fun h' g b=>?_
  refine fin _ h' s.toks ?_ ⟨g,(b.2 a ne).trans st.2.1,st.2.2.at fun o e=>(b.2 tp net).trans e⟩ fun b' o' hb e=>(b.2 b' (fun z=>hb (by simp[z]))).trans e
  have all:∀j∈ord,(es[j]?.map (·.2)).isSome=true:=fun j hj=>by
   have:=eM.mp (hp.mem_iff.mp hj)
   rw[cX this]
   rfl
  rw[y3D all,hj]
  simp[e1]
 done:=fun s Q E st fin=>by
  have lo:ord.length=es.size:=by rw[hp.length_eq,dF]
  refine z9m hh st.1 st.2.1 hd fit st.2.2 (by simp[lo]) fun h' k=>?_
  exact fin h' s.toks fun b o' hb e=>k b o' (fun z=>hb (by simp[z])) e
 self:=fun i s Q E st q=>z7f st.1 q
theorem z8H{es:Array (Int×Value)}{ord:List Nat}(hp:ord.Perm (List.range es.size)):(ord.filterMap fun j=>es[j]?.map (·.2)).Perm (es.toList.map (·.2)):=by
 have e:(List.range es.size).filterMap (fun j=>es[j]?.map (·.2))=es.toList.map (·.2):=by
  refine List.ext_getElem? fun i=>?_
  rw[y3D (fun j hj=>by
   rw[cX (eM.mp hj)]
   rfl),bG]
  by_cases h:i<es.size
  ·rw[j8 h,dP]
   rfl
  ·have n1:(List.range es.size)[i]? = none:=g8 (by rw[dF];omega)
   have n2:es.toList[i]? = none:=g8 (by rw[cJ];omega)
   rw[n1,n2]
   rfl
 rw[<- e]
 exact hp.filterMap _
structure J4(kd:KeyKind prog w κ)(ks:List κ)(ord:List Value):Prop where
 len:ord.length=(C5 ks).length
 mem:∀k,k∈ks↔∃v∈ord,kd.is k v=true
 key:∀v∈ord,∃k,kd.is k v=true
theorem J4.of{ks:List κ}{es:Array (Int×Value)}{ord:List Value}(hp:ord.Perm (es.toList.map (·.2)))(hel:ElemsOf kd es.toList)(mem:∀k,k∈ks↔∃e∈es.toList,kd.is k e.2=true)(sz:es.size=(C5 ks).length):J4 kd ks ord:=by
 refine⟨by rw[hp.length_eq,b8,cJ,sz],fun k=>?_,fun v hv=>?_⟩
 ·rw[mem k]
  constructor
  ·rintro⟨e,he,q⟩
   exact⟨e.2,hp.mem_iff.mpr (gF he),q⟩
  ·rintro⟨v,hv,q⟩
   obtain⟨e,he,rfl⟩:=cB.mp (hp.mem_iff.mp hv)
   exact⟨e,he,q⟩
 ·obtain⟨e,he,rfl⟩:=cB.mp (hp.mem_iff.mp hv)
  obtain⟨⟨k,hk,_⟩,_⟩:=hel e he
  exact⟨k,hk⟩
theorem y5f{a:Addr}{ks:List κ}{Q:Value->Shared->Prop}(hh:A.handled=none)(hS:F5 kd (z8a w) s.heap a ks)
  (fin:∀(I:Addr) (fp:List Addr) (n:Nat) (ord:List Value) (P:Nat->Value->Prop) (St:Nat->Heap->Prop) (h2:Heap) (d2:Drawn),Walks prog w A I fp [I] n P St->(∀i v,P i v->ord[i]? = some v)->ord.length=n->St 0 h2->(∀b∈fp,b=a\/s.heap.objs.size≤b)->s.heap.objs.size≤I->
   (∀b o,s.heap.get? b=some o->h2.get? b=some o)->J4 kd ks ord->Q (.ref I) { s with heap:=h2,drawn:=d2 }):wpAny (model prog w) A (pyIter (.ref a)) Q E s:=by
 obtain⟨o,es,ep,t,ho,hx,hd,hel,mem,few,fit,sz,tab,hl⟩:=hS
 have hT:s.TypeIs (.ref a) "set":=⟨o,ho,hx.1⟩
 have ha:a<s.heap.objs.size:=bK ho
 refine wpAny_pyIter_slot hT PySem.F.slot_set_iter (wpAny_call_entry PySem.F.slot_set_iter hT Ty.y1H ?_ (PySem.F.args_set_iter_1 _))
 show wpAny _ _ (Builtin.Frozenset.sizeOf a >>= _) _ _ s
 unfold Builtin.Frozenset.sizeOf setEntries
 refine wpAny_bind (wpAny_bind (wpAny_bind (wpAny_setState_of ho hd fit (wpAny_pure (wpAny_pure ?_)))))
 dsimp only
 unfold setDrawn
 refine wpAny_bind (wpAny_bind (wpAny_setState_of ho hd fit ?_))
 dsimp only
 unfold setsByText
 refine wpAny_bind (wpAny_bind (wpAny_askSetting (wpAny_pure ?_)))
 refine wpAny_pure ?_
 show wpAny _ _ (if (!w.params.followText "set-order" && (!t.plain && decide (es.size > 1)))=true then _ else _) _ _ s
 have hgo:∀b∈[s.heap.objs.size,a],b=a\/s.heap.objs.size≤b:=fun b hb=>by
  rcases bB.mp hb with rfl|hb
  ·exact .inr (bC _)
  ·exact .inl (bA.mp hb)
 have plain:(!w.params.followText "set-order" && (!t.plain && decide (es.size > 1)))=false->wpAny (model prog w) A.in1 (do
   let first <- pure (rawInt 0)
   let K0 <- setEpoch a
   let K0 <- newFields "set_iterator" [first,rawInt 0,Value.ref a,rawInt ↑es.size,rawInt ↑K0]
   (ret K0:Sem Fin)) (fun fin s'=>∃v,fin=Fin.done (Flow.ret v)/\∃T' r,s'.TypeIs v T'/\typeLookup (Value.type T') (Str.ofString "__next__")=pure (some r)/\Q v s') E s:=fun hc=>by
  refine wpAny_bind (wpAny_pure (wpAny_bind (wpAny_setEpoch_of ho hd fit (wpAny_bind (wpAny_newObj_type (wpAny_pure ⟨_,rfl,"set_iterator",_,⟨_,bF _ rfl,rfl⟩,Ty.z1y.lookup,?_⟩))))))
  have hI:(s.heap.push (z5f (.int ((0:Nat):Int) 0) 0 es.size a ep)).get? s.heap.objs.size=some (z5f (.int ((0:Nat):Int) 0) 0 es.size a ep):=bF _ rfl
  have ha2:(s.heap.push (z5f (.int ((0:Nat):Int) 0) 0 es.size a ep)).get? a=some o:=b9 _ ho
  have eS:({ s with heap:=s.heap.push (z5f (.int ((0:Nat):Int) 0) 0 es.size a ep) }:Shared)={ s with heap:=s.heap.push (z5f (.int ((0:Nat):Int) 0) 0 es.size a ep),drawn:=s.drawn }:=rfl
  cases hb:w.params.followText "set-order" with
  | true=>
   have lp:(pickOrder (w.params.setOrder a ep) es).toList.Perm es.toList:=z7r _ _
   exact fin s.heap.objs.size [s.heap.objs.size,a] es.size ((pickOrder (w.params.setOrder a ep) es).toList.map (·.2)) _ _ _ s.drawn (y41 hh (bW ha) hd fit hb) (fun i v q=>q) (by rw[b8,lp.length_eq,cJ]) ⟨hI,ha2⟩ hgo (bC _)
    (fun b o' e=>b9 _ e) (J4.of (lp.map _) hel mem sz)
  | false=>
   rw[hb] at hc
   have hl':t.led=true:=by rw[hl];unfold z8a;rw[hb];rfl
   exact fin s.heap.objs.size [s.heap.objs.size,a] es.size (es.toList.map (·.2)) _ _ _ s.drawn (y1T hh (bW ha) hd fit tab hb (by simpa using hc) hl') (fun i v q=>q) (by rw[b8,cJ]) ⟨hI,ha2⟩ hgo (bC _)
    (fun b o' e=>b9 _ e) (J4.of (List.Perm.refl _) hel mem sz)
 cases hc:(!w.params.followText "set-order" && (!t.plain && decide (es.size > 1))) with
 | false=>
  rw[if_neg bI]
  exact plain hc
 | true=>
  rw[if_pos rfl]
  refine wpAny_bind (y22 es.size (List.range es.size) s _ dF fun ord d hp=>?_)
  have lo:ord.length=es.size:=by rw[hp.length_eq,dF]
  have l4:es.size<4096:=few
  simp only[newTuple]
  refine wpAny_bind (wpAny_newObj_type ?_ (by
   show(ord.map fun(i:Nat)=>rawInt (i:Int)).toArray.size≤sizeLine
   rw[bH,b8,lo,sizeLine_eq]
   omega))
  have ho2:=b9 { cls:=.type "tuple",data:=.seq (ord.map fun(i:Nat)=>rawInt (i:Int)).toArray } ho
  refine wpAny_bind (wpAny_setEpoch_of (s:={ s with heap:=s.heap.push { cls:=.type "tuple",data:=.seq (ord.map fun(i:Nat)=>rawInt (i:Int)).toArray },drawn:=d }) ho2 hd fit (wpAny_bind (wpAny_newObj_type (wpAny_pure ⟨_,rfl,"set_iterator",_,⟨_,bF _ rfl,rfl⟩,Ty.z1y.lookup,?_⟩))))
  have s1:(s.heap.push { cls:=.type "tuple",data:=.seq (ord.map fun(i:Nat)=>rawInt (i:Int)).toArray }).objs.size=s.heap.objs.size+1:=eO _ _
  have ht:(s.heap.push { cls:=.type "tuple",data:=.seq (ord.map fun(i:Nat)=>rawInt (i:Int)).toArray }).IsTuple s.heap.objs.size (ord.map fun(i:Nat)=>rawInt (i:Int)).toArray:=⟨_,bF _ rfl,rfl,_,rfl⟩
  refine fin _ [_,a,s.heap.objs.size] es.size (ord.filterMap fun j=>es[j]?.map (·.2)) _ _ _ d (y1Y hh (by rw[s1];exact bW (dE ha)) (by rw[s1];exact bW (eQ _)) hd fit hp) (fun i v q=>q) ?_ ⟨bF _ rfl,b9 _ ho2,ht.push _⟩ (fun b hb=>?_) ?_ (fun b o' e=>b9 _ (b9 _ e)) (J4.of (z8H hp) hel mem sz)
  ·rw[(z8H hp).length_eq,b8,cJ]
  ·rcases bB.mp hb with rfl|hb
   ·right
    rw[s1]
    exact e7 _
   ·rcases bB.mp hb with rfl|hb
    ·exact .inl rfl
    ·rw[bA.mp hb]
     exact .inr (bC _)
  ·rw[s1]
   exact e7 _
theorem y5n{r:Addr}{Q:Bool->Shared->Prop}(hT:s.TypeIs (.ref r) "set")(h:Q false s):wpAny (model prog w) A (Builtin.List.listLengthHint (.ref r)) Q E s:=by
 unfold Builtin.List.listLengthHint
 refine wpAny_bind (wpAny_specialOf hT PySem.F.slot_set_len.lookup ?_)
 generalize hid:("set.__len__":String)=id0;wp_delta
 rw[show splitId id0=some ("set","__len__") from by subst hid;decide +kernel];subst hid
 refine wpAny_bind (wpAny_isInstance (T:="set") (b:=true) hT (by rw[isSubtype_type];kernel_rfl) (wpAny_ite_split (fun hab=>absurd hab (by decide)) fun _=>wpAny_ite_split (fun _=>wpAny_bind (wpAny_typeOf hT (wpAny_pure h))) fun hab=>absurd (by decide +kernel) hab))
theorem y1V{R:Result->Shared->Prop}{a:Addr}{ks:List κ}(hh:A.handled=none)(hS:F5 kd (z8a w) s.heap a ks)(few:(C5 ks).length≤sizeLine)(S:Addr)(hSa:S≠a)(res:Value)(c0:Nat)(hL:s.heap.get? S=some { cls:=.type "list",data:=.seq #[] c0 })
  (fin:∀(h':Heap) (tk:Nat) (d:Drawn) (acc:Array Value) (c':Nat),(∀b o,b≠S->s.heap.get? b=some o->h'.get? b=some o)->h'.get? S=some { cls:=.type "list",dict:=none,data:=.seq acc c',slots:=#[] }->J4 kd ks acc.toList->R (.ok (.ret res)) { s with heap:=h',toks:=tk,drawn:=d }) :
  wpAny (model prog w) A.in1 (Builtin.List.listExtendWith (.ref S) (.ref a) res)
   (fun fin s'=>match fin with|.done f=>R (.ok f) s'|.again c'=>c'.quiet=true/\codeAny (model prog w) A c' R s') (fun e s'=>R (.error e) s') s:=by
 have hT:s.TypeIs (.ref a) "set":=by
  obtain⟨o,es,ep,t,ho,hx,_⟩:=hS
  exact⟨o,ho,hx.1⟩
 have hSlt:S<s.heap.objs.size:=bK hL
 unfold Builtin.List.listExtendWith
 refine wpAny_bind (wpAny_typeOf (T:="set") hT ?_)
 have h1:Builtin.List.listSameRef (.ref S) (.ref a)=false:=by simp[Builtin.List.listSameRef,hSa]
 simp only[h1,show(Value.type "set" == Value.type "list")=false by decide,show(Value.type "set" == Value.type "tuple")=false by decide,Bool.or_false,e8,if_false]
 refine wpAny_bind (y5f (A:=A.in1) hh hS fun I fp n ord P St h2 d2 W hP ln st hfp hI kp so=>?_)
 have hL2:=kp _ _ hL
 have out:S∉fp:=fun m=>by
  rcases hfp S m with e|e
  ·exact hSa e
  ·exact absurd hSlt (Nat.not_lt.mpr e)
 have key:∀(h:Heap) (c1 tk:Nat),St 0 h->(∀b o,b≠S->s.heap.get? b=some o->h.get? b=some o)->h.get? S=some { cls:=.type "list",data:=.seq #[] c1 }->
   codeAny (model prog w) A (.builtin "list.extend.loop" ⟨[.ref S,.ref I,res],[]⟩) R { s with heap:=h,toks:=tk,drawn:=d2 }:=fun h c1 tk hst k hS1=>by
  refine codeAny_extend_loopS W.toS (by rw[<- ln,so.len];exact few) S out res n 0 _ #[] c1 rfl (cR _) hst hS1 (ItemsOf.nil _) fun s' acc c' mv hS' items=>?_
  obtain⟨h',g',d',t',o'⟩:=s'
  obtain rfl:g'=s.gens:=mv.gens
  obtain rfl:d'=d2:=mv.drawn
  obtain rfl:o'=s.os:=mv.os
  have ea:acc.toList=ord:=List.ext_getElem? fun i=>by
   by_cases hi:i<n
   ·have hi2:i<acc.size:=by rw[items.1];exact hi
    have e1:acc[i]? = some acc[i]:=cX hi2
    rw[dP,e1,hP i _ (items.2 i _ e1)]
   ·rw[dP,fW (by rw[items.1];omega),g8 (by omega)]
  refine fin h' t' d' acc c' (fun b o hb e=>mv.heap b o (fun m=>?_) (k b o hb e)) hS' (by rw[ea];exact so)
  rcases bB.mp m with e'|m
  ·exact hb e'
  ·exact absurd (bK e) (Nat.not_lt.mpr (by rw[bA.mp m];exact hI))
 have hT2:Shared.TypeIs { s with heap:=h2,drawn:=d2 } (.ref a) "set":=by
  obtain⟨o,ho,hc⟩:=hT
  exact⟨o,kp _ _ ho,hc⟩
 refine wpAny_bind (wpAny_holding (y5n hT2 ?_))
 refine wpAny_ite_split (fun _=>?_) fun _=>wpAny_pure ⟨plainId_quiet PySem.F.plain_extend_loop _,key _ c0 _ st (fun b o _ e=>kp b o e) hL2⟩
 refine wpAny_bind (wpAny_rule (wpAny_bind (show wpAny _ _ (updateSeq S (·.push .none) >>= fun _=>updateSeq S (·.pop)) _ _ _ from wpAny_bind (wpAny_updateSeq hL2 rfl ?_))))
 have g2:=cW (Obj.mapSeq (·.push Value.none)) hL2 rfl
 refine wpAny_updateSeq (hz:=by seq_fits) g2 rfl ?_
 have g3:=cW (Obj.mapSeq (·.pop)) g2 rfl
 have oth:∀b o,b≠S->h2.get? b=some o->((h2.update S (Obj.mapSeq (·.push Value.none))).update S (Obj.mapSeq (·.pop))).get? b=some o:=fun b o hb e=>(cI _ _ (d6 hb)).trans ((cI _ _ (d6 hb)).trans e)
 exact wpAny_pure ⟨plainId_quiet PySem.F.plain_extend_loop _,key _ _ _ (W.frame 0 _ _ st fun b hb o e=>oth b o (fun z=>out (z ▸ hb)) e) (fun b o hb e=>oth b o hb (kp b o e)) g3⟩
theorem y0z{R:List Value->Shared->Prop}{a:Addr}{ks:List κ}(hh:A.handled=none)(hS:F5 kd (z8a w) s.heap a ks)(few:(C5 ks).length≤sizeLine)
  (fin:∀(h':Heap) (tk:Nat) (d:Drawn) (vs:List Value),(∀b o,s.heap.get? b=some o->h'.get? b=some o)->s.heap.objs.size<h'.objs.size->J4 kd ks vs->R vs { s with heap:=h',toks:=tk,drawn:=d }):wpAny (model prog w) A (collect (.ref a)) R E s:=by
 have ha:a<s.heap.objs.size:=by
  obtain⟨o,es,ep,t,ho,_⟩:=hS
  exact bK ho
 unfold collect
 refine wpAny_bind (wpAny_runValue (codeAny_builtin entry_proto_collect' ?_))
 rw[c9 g9 _]
 refine(show wpAny _ A.in1 (newList [] >>= fun l=>again (.builtin "list.__iadd__" ⟨[l,.ref a],[]⟩)) _ _ s from wpAny_bind (wpAny_newObj_type (wpAny_pure ⟨plainId_quiet dW _,codeAny_builtin entry_list_iadd' ?_⟩)))
 rw[c9 dW _]
 have g1:(s.heap.push { cls:=.type "list",data:=.seq ([]:List Value).toArray }).get? s.heap.objs.size=some { cls:=.type "list",data:=.seq #[] }:=bF _ rfl
 have ext:=y1V (A:=A) (s:={ s with heap:=s.heap.push { cls:=.type "list",data:=.seq ([]:List Value).toArray } }) (kd:=kd) (ks:=ks)
  (R:=fun(q:Result) (s':Shared)=>∃(h':Heap) (tk:Nat) (d:Drawn) (acc:Array Value) (c':Nat),q=.ok (.ret (.ref s.heap.objs.size))/\s'={ s with heap:=h',toks:=tk,drawn:=d }/\(∀b o,s.heap.get? b=some o->h'.get? b=some o)/\
   h'.get? s.heap.objs.size=some { cls:=.type "list",dict:=none,data:=.seq acc c',slots:=#[] }/\J4 kd ks acc.toList)
  hh (hS.at fun o e=>b9 _ e) few s.heap.objs.size (fG ha) (.ref s.heap.objs.size) 0 g1
  (fun h' tk d acc c' k hS' so=>⟨h',tk,d,acc,c',rfl,rfl,fun b o e=>k b o (bW (bK e)) (b9 _ e),hS',so⟩)
 refine(show wpAny _ A.in1 (Builtin.List.listExtendWith (.ref s.heap.objs.size) (.ref a) (.ref s.heap.objs.size)) _ _ _ from wpAny_mono ext (fun r s' x=>?_) fun e s' x=>?_)
 ·cases r with
  | done f=>
   obtain⟨h',tk,d,acc,c',e,rfl,k,hS',so⟩:=x
   cases e
   exact(show wpAny _ A (load s.heap.objs.size >>= _) _ _ _ from wpAny_bind (wpAny_load hS' (wpAny_pure (fin h' tk d _ k (bK hS') so))))
  | again c1=>
   refine⟨x.1,codeAny_mono x.2 fun q s2 y=>?_⟩
   obtain⟨h',tk,d,acc,c',rfl,rfl,k,hS',so⟩:=y
   exact(show wpAny _ A (load s.heap.objs.size >>= _) _ _ _ from wpAny_bind (wpAny_load hS' (wpAny_pure (fin h' tk d _ k (bK hS') so))))
 ·obtain⟨_,_,_,_,_,e',_⟩:=x
  cases e'
end
theorem y3l{α:Type}[DecidableEq α]:∀{l1 l2:List α},l1.Nodup->(∀x∈l1,x∈l2)->l2.length=l1.length->l1.Perm l2
 | [],l2,_,_,h=>by
  rw[cT h]
 | x::r,l2,nd,sub,h=>by
  rw[cV] at nd
  have hx:=sub x bQ
  have hp:=List.perm_cons_erase hx
  refine((y3l (l1:=r) (l2:=l2.erase x) nd.2 (fun y hy=>?_) ?_).cons x).trans hp.symm
  ·have ne:y≠x:=fun e=>nd.1 (e ▸ hy)
   exact(j5 ne).mpr (sub y (bL _ hy))
  ·rw[gL hx,h]
   rfl
theorem z62{κ:Type}[DecidableEq κ](ks:List κ):(C5 ks).Nodup:=by
 have go:∀(ks acc:List κ),acc.Nodup->(ks.foldl (fun acc k=>if k∈acc then acc else acc++[k]) acc).Nodup:=by
  intro ks
  induction ks with
  | nil=>intro acc h;exact h
  | cons k r ih=>
   intro acc h
   rw[cS]
   refine ih _ ?_
   by_cases hk:k∈acc
   ·rw[if_pos hk];exact h
   ·rw[if_neg hk,gT]
    exact⟨h,by simp,fun a h1 b h2 e=>by rw[bA] at h2;subst h2;subst e;exact hk h1⟩
 exact go ks [] List.nodup_nil
section
variable{X:Cx}
theorem Inv.X5{pins:List (Addr×Obj)}{σ:St}{H:Hp}{s:Shared}(I:Inv X pins σ H s)(d:Drawn):Inv X pins σ H { s with drawn:=d }:=by
 cases I
 constructor<;>assumption
def N6(P:Program)(w:World)(a:Addr)(ns:List Int):HO:=.ext fun h=>F5 (intKind P w) (z8a w) h a ns
theorem N6.new{P:Program}{w:World}{H:Hp}{h:Heap}{a:Addr}{ns:List Int}(x:F5 (intKind P w) (z8a w) h a ns):z15 P w H h a (N6 P w a ns):=by
 refine⟨x,?_,fun h1 h2 y e=>F5.at y e⟩
 obtain⟨o,_,_,_,e,_⟩:=x
 exact⟨o,e⟩
theorem z3z(hc:X.calm=true):z2U X (.type "set") (fun xs H Q=>∃p ns,xs=[.ref p]/\SqI X.K H p ns/\ns.length≤1000/\∀l,H l=none->Q (.ref l) (upd H l (N6 X.prog X.w l ns))):=by
 intro pins s σ H xs us Q I r h
 obtain⟨p,ns,rfl,hq,hl,q⟩:=h
 obtain⟨u,rfl,rx⟩:=z34 r
 cases rx
 have go:∀(T:String) (o:Obj) (its:List Value) (c0:Nat),s.heap.get? p=some o->o.cls=.type T->o.data=.seq its.toArray c0->(T="list"\/T="tuple")->Vals (ns.map V.int) its->wpAny (model X.prog X.w) X.A (call (.type "set") [.ref p]) (EP X pins σ Q) X.xe s:=
  fun T o its c0 ho hcl hda hT rv=>by
   have ln:ns.length=its.length:=by have:=rv.length;rwa [b8] at this
   refine y2K (kd:=intKind X.prog X.w) (ks:=ns) (I.ok.hd hc) ho hcl hda hT (by simpa using ln) (fun i v hv=>?_) (by simp[scanBound];omega) fun h' t sx kp=>?_
   ·obtain⟨t,rfl⟩:=z2C rv i v hv
    have hi:i<ns.length:=by
     have:=(Array.getElem?_eq_some_iff.mp hv).1
     simp at this
     omega
    refine⟨ns.getD i 0,?_,intKind_is _ _ _ _,rfl⟩
    rw[bJ,bD hi]
    rfl
   ·refine⟨.ref s.heap.objs.size,_,I.laid (a:=s.heap.objs.size) (o:=N6 X.prog X.w s.heap.objs.size ns) (h':=h') (t':=t) (fun b u q1=>kp b u (bK q1) q1) (bC _) (N6.new sx),rfl,q _ (I.hok.fresh (bC _))⟩
 rcases hq with hq|hq
 ·obtain⟨its,rv,pl,_⟩:=I.list hq
  obtain⟨o,ho,hcl,n,hda⟩:=pl.isList
  exact go "list" o its n ho hcl hda (.inl rfl) rv
 ·obtain⟨its,rv,pl,_⟩:=I.tuple hq
  obtain⟨o,ho,hcl,n,hda⟩:=pl
  exact go "tuple" o its n ho hcl hda (.inr rfl) rv
theorem y0O{P:Program}{w:World}{ns:List Int}{vs:List Value}(so:J4 (intKind P w) ns vs):∃ks,IntsAre vs ks/\ks.Perm (C5 ns):=by
 have all:∀{l:List Value},(∀v∈l,∃k,(intKind P w).is k v=true)->∃ks,IntsAre l ks:=by
  intro l
  induction l with
  | nil=>intro _;exact⟨[],.nil⟩
  | cons v r ih=>
   intro h
   obtain⟨k,hk⟩:=h v bQ
   obtain⟨t,rfl⟩:=Value.isInt_shape hk
   obtain⟨ks,hks⟩:=ih fun x hx=>h x (bL _ hx)
   exact⟨k::ks,.cons k t hks⟩
 obtain⟨ks,hi⟩:=all so.key
 have mm:∀{l:List Value}{ks:List Int},IntsAre l ks->∀k,(∃v∈l,(intKind P w).is k v=true)->k∈ks:=by
  intro l ks h
  induction h with
  | nil=>rintro k ⟨v,hv,_⟩;cases hv
  | cons n t h ih=>
   rintro k ⟨v,hv,hk⟩
   rcases bB.mp hv with rfl|hv
   ·obtain⟨t',e⟩:=Value.isInt_shape (show Value.isInt k (.int n t)=true from hk)
    cases e
    exact bQ
   ·exact bL _ (ih k ⟨v,hv,hk⟩)
 refine⟨ks,hi,(y3l (z62 ns) (fun k hk=>mm hi k ((so.mem k).mp (z2D.mp hk))) ?_).symm⟩
 rw[<- IntsAre.length hi,so.len]
theorem z6Y(hc:X.calm=true):z2U X (.builtin "sorted") (fun xs H Q=>∃(p:Addr) (ns:List Int),xs=[.ref p]/\H p=some (N6 X.prog X.w p ns)/\(C5 ns).length<64/\
  ∀(l:Addr) (ms:List Int),H l=none->ms.Perm (C5 ns)->ms.Pairwise (·≤·)->Q (.ref l) (upd H l (.lst (ms.map V.int)))):=by
 intro pins s σ H xs us Q I r h
 obtain⟨p,ns,rfl,hp,h64,q⟩:=h
 obtain⟨u,rfl,rx⟩:=z34 r
 cases rx
 obtain⟨sw,_⟩:=(show z15 X.prog X.w H s.heap p (N6 X.prog X.w p ns) from I.hok p _ hp)
 refine Calls.call_function_entry kind_sorted plain_sorted entry_sorted (args_sorted1 _) ?_
 unfold Builtin.«sorted»
 refine wpAny_bind (m:=checkCount "sorted" 1 1 _) (wpAny_pure ?_)
 refine wpAny_bind (y0z (A:=X.A.in1) (kd:=intKind X.prog X.w) (I.ok.hd hc) sw (by rw[sizeLine_eq];omega) fun h' tk d vs kp slt so=>?_)
 obtain⟨ks,hi,pk⟩:=y0O so
 have lv:vs.length<64:=by rw[IntsAre.length hi,pk.length_eq];exact h64
 refine wpAny_bind (wpAny_newList ?_ (by rw[sizeLine_eq];omega))
 have g1:(h'.push (seqObj "list" vs.toArray 0)).get? h'.objs.size=some (seqObj "list" vs.toArray 0):=bF _ rfl
 refine wpAny_bind (wpAny_holding (wpAny_call_entry slot_list_sort ⟨_,g1,rfl⟩ entry_list_sort (list_sort_tree g1 hi lv fun out ns' a1 a2 a3=>⟨_,rfl,?_⟩) (args_list_sort _)))
 refine wpAny_pure ⟨_,rfl,?_⟩
 obtain⟨e,he⟩:=sortedHeap_at (out:=out) g1
 have old:∀b o,s.heap.get? b=some o->(sortedHeap (h'.push (seqObj "list" vs.toArray 0)) h'.objs.size vs out).get? b=some o:=fun b o e=>by
  have hb:=bK (kp b o e)
  rw[sortedHeap_old (bW hb) (by rw[size_push'];exact dE hb)]
  exact b9 _ (kp b o e)
 have sle:s.heap.objs.size≤h'.objs.size:=dZ slt
 refine⟨.ref h'.objs.size,_,(I.X5 d).laid (a:=h'.objs.size) (o:=.lst (ns'.map V.int)) (t':=tk) old sle (show z15 X.prog X.w _ _ _ (.lst (ns'.map V.int)) from⟨?_,out.toList,e,z46 a1,?_⟩),rfl,q _ ns' (I.hok.fresh sle) (a2.trans pk) a3⟩
 ·rw[b8,a2.length_eq,pk.length_eq,sizeLine_eq]
  omega
 ·simpa using he
end
theorem z2n:Slot "reversed" "__next__" "reversed.__next__":=
 .of (owner:="reversed") (n:="__next__") (by rw[typeLookup_type,builtinLookup_eq_fast];kernel_rfl) (by decide +kernel) (by decide +kernel) (by decide +kernel) (by first|exact .inl (by decide +kernel)|exact .inr (by decide +kernel)) (by rw[isSubtype_type];kernel_rfl)
theorem z6p:Slot "reversed" "__iter__" "reversed.__iter__":=
 .of (owner:="reversed") (n:="__iter__") (by rw[typeLookup_type,builtinLookup_eq_fast];kernel_rfl) (by decide +kernel) (by decide +kernel) (by decide +kernel) (by first|exact .inl (by decide +kernel)|exact .inr (by decide +kernel)) (by rw[isSubtype_type];kernel_rfl)
theorem y0b:Slot "reversed" "__init__" "object.__init__":=
 .of (owner:="object") (n:="__init__") (by rw[typeLookup_type,builtinLookup_eq_fast];kernel_rfl) (by decide +kernel) (by decide +kernel) (by decide +kernel) (by first|exact .inl (by decide +kernel)|exact .inr (by decide +kernel)) (by rw[isSubtype_type];kernel_rfl)
theorem z5B:entryFor table "reversed.__next__"=some Builtin.«reversed.__next__»:=entryFor_of_tree (by kernel_rfl)
theorem z9h:entryFor table "reversed.__iter__"=some Builtin.«dict_keyiterator.__iter__»:=entryFor_alias (id':="dict_keyiterator.__iter__") (by kernel_rfl) (by first|rfl|decide +kernel|(unfold String.splitOn;simp +decide [String.splitOnAux])) (by decide +kernel) (by kernel_rfl)
theorem z6J(a:Value):argsOk "reversed.__next__" ⟨[a],[]⟩:=by unfold argsOk;kernel_rfl
theorem y0d(a:Value):argsOk "reversed.__iter__" ⟨[a],[]⟩:=by unfold argsOk;kernel_rfl
theorem z7M:TypeCalled "reversed" "reversed.__new__" "object.__init__":=
 ⟨by decide +kernel,by decide +kernel,⟨_,_,PySem.F.mro_reversed⟩,PySem.F.made_reversed,by decide +kernel,PySem.F.sub_reversed_self,y0b⟩
theorem z8X:typeLookup (.type "tuple") "__reversed__"=pure none:=by rw[typeLookup_type,builtinLookup_eq_fast];kernel_rfl
theorem y1G:isSubtype (.type "tuple") (.type "dict")=pure false:=by rw[isSubtype_type];kernel_rfl
abbrev z9k(t:Addr)(i:Int):Obj:={ cls:=.type "reversed",dict:=none,data:=.fields #[.ref t,rawInt i],slots:=#[] }
section
variable{prog:Program}{w:World}{A:Around}{E:Value->Shared->Prop}{s:Shared}
theorem y0P{t:Addr}{items:Array Value}{Q:Value->Shared->Prop}(ht:IsTup s.heap t items)(hf:(items.size:Int)<2^63)(h:∀tk,Q (.ref s.heap.objs.size) { s with heap:=s.heap.push (z9k t ((items.size:Int)-1)),toks:=tk }) :
  codeAny (model prog w) A (.call (.builtin "reversed.__new__") ⟨[.type "reversed",.ref t],[]⟩) (wants Q E) s:=by
 refine codeAny_of_tree ?_
 show wpAny _ A.in1 (do checkBuiltinCall "reversed.__new__" ⟨[.type "reversed",.ref t],[]⟩;again (.builtin "reversed.__new__" ⟨[.type "reversed",.ref t],[]⟩)) _ _ s
 refine wpAny_bind (wpAny_of_eq (PySem.F.newCall_reversed_1 _) (wpAny_pure ⟨plainId_quiet PySem.F.plain_reversed_new _,codeAny_builtin PySem.F.entry_reversed_new ?_⟩))
 rw[c9 PySem.F.plain_reversed_new _]
 unfold Builtin.«reversed.__new__»
 refine wpAny_bind (wpAny_of_eq (newClass_reversed _) ?_)
 try dsimp only
 refine wpAny_bind (wpAny_of_eq (a:=()) (by first|rfl|kernel_rfl) ?_)
 refine wpAny_bind (wpAny_of_eq (a:=()) (by first|rfl|kernel_rfl) ?_)
 try dsimp only
 refine wpAny_bind (wpAny_specialOf ht.typeIs z8X ?_)
 try dsimp only
 refine wpAny_bind ?_
 show wpAny _ _ (isInstance (.ref t) (.type "dict") >>= fun b=>_) _ _ _
 refine wpAny_bind (wpAny_isInstance (T:="tuple") ht.typeIs y1G ?_)
 rw[if_neg (by decide)]
 refine wpAny_bind (wpAny_specialOf ht.typeIs slot_tuple_getitem.lookup ?_)
 dsimp only
 rw[if_pos (by decide +kernel)]
 refine wpAny_pure ?_
 rw[if_neg (by decide)]
 refine wpAny_bind (len_tuple ht hf ?_)
 refine wpAny_bind (wpAny_of_eq (a:=some (items.size:Int)) rfl ?_)
 dsimp only
 refine wpAny_bind ?_
 show wpAny _ _ (newObj (.type "reversed") (.fields #[.ref t,rawInt ((items.size:Int)-1)])) _ _ _
 exact wpAny_newObj_type (wpAny_pure (h _)) (by size_fits)
theorem y6s{t:Addr}{items:Array Value}{Q:Value->Shared->Prop}(ht:IsTup s.heap t items)(hf:(items.size:Int)<2^63)(h:∀tk,Q (.ref s.heap.objs.size) { s with heap:=s.heap.push (z9k t ((items.size:Int)-1)),toks:=tk }) :
  wpAny (model prog w) A (call (.type "reversed") [.ref t]) Q E s:=by
 refine callType_codes (Q₁:=fun obj s₁=>obj=.ref s.heap.objs.size/\∃tk,s₁={ s with heap:=s.heap.push (z9k t ((items.size:Int)-1)),toks:=tk }) z7M (PySem.F.typeCall_reversed_1 _) F.entry_object_init (y0P ht hf fun tk=>⟨rfl,tk,rfl⟩) ?_
 rintro obj s₁ ⟨rfl,tk,rfl⟩
 have ty:Shared.TypeIs { s with heap:=s.heap.push (z9k t ((items.size:Int)-1)),toks:=tk } (.ref s.heap.objs.size) "reversed":=⟨_,bF _ rfl,rfl⟩
 exact⟨ty,F.args_object_init_2 _ _,object_init_meets z7M.init.lookup z7M.made (by decide) _ _ _ _ _ ⟨ty,rfl,h tk⟩⟩
theorem y6o{I t:Addr}{i:Nat}{items:Array Value}{x:Value}{Q:Option Value->Shared->Prop}(hI:s.heap.get? I=some (z9k t (i:Int)))(ht:IsTup s.heap t items)(hx:items[i]? = some x)(hz:(items.size:Int)<2^63)
  (hQ:∀h' tk,h'.get? I=some (z9k t ((i:Int)-1))->Heap.SameBut I s.heap h'->Q (some x) { s with heap:=h',toks:=tk }):wpAny (model prog w) A (pyNext (.ref I)) Q E s:=by
 have ty:s.TypeIs (.ref I) "reversed":=⟨_,hI,rfl⟩
 have hi:i<items.size:=(Array.getElem?_eq_some_iff.mp hx).1
 unfold pyNext
 refine wpAny_bind (wpAny_attempt (wpAny_callSpecial?_slot (name:=Str.ofString "__next__") ty z2n
  (wpAny_call_entry z2n ty z5B ?_ (z6J _))))
 unfold Builtin.«reversed.__next__»
 refine wpAny_bind (wpAny_of_eq (a:=(Value.ref I,[])) rfl ?_)
 try dsimp only
 refine wpAny_bind (wpAny_field hI rfl (x:=.ref t) rfl ?_)
 refine wpAny_bind (wpAny_field hI rfl (x:=rawInt (i:Int)) rfl ?_)
 show wpAny _ _ (if (i:Int)<0 then _ else _) _ _ s
 rw[if_neg (by omega)]
 refine wpAny_bind (wpAny_specialOf ht.typeIs slot_tuple_getitem.lookup ?_)
 rw[if_neg (by decide)]
 refine wpAny_bind (wpAny_mkInt ?_)
 refine wpAny_bind (wpAny_attempt (getItem_tuple (j:=i) (x:=x) ht (by omega) (by omega) ?_ hx ?_))
 ·exact seqIndex_of (by omega) (by omega)
 dsimp only
 refine wpAny_bind (wpAny_field hI rfl (x:=rawInt (i:Int)) rfl ?_)
 show wpAny _ _ (setField (.ref I) 1 (rawInt ((i:Int)-1)) >>= _) _ _ _
 refine wpAny_bind (wpAny_setField hI rfl (by simp) ?_)
 refine wpAny_pure ⟨x,rfl,wpAny_pure (hQ _ _ ?_ (fL ..))⟩
 exact cW _ hI rfl
theorem y7V{I t:Addr}{Q:Option Value->Shared->Prop}(hh:A.handled=none)(hI:s.heap.get? I=some (z9k t (-1)))
  (hQ:∀h',Heap.ExtBut I s.heap h'->Q none { s with heap:=h' }):wpAny (model prog w) A (pyNext (.ref I)) Q E s:=by
 have ty:s.TypeIs (.ref I) "reversed":=⟨_,hI,rfl⟩
 unfold pyNext
 refine wpAny_bind (wpAny_attempt (wpAny_callSpecial?_slot (name:=Str.ofString "__next__") ty z2n
  (wpAny_call_entry z2n ty z5B ?_ (z6J _))))
 unfold Builtin.«reversed.__next__»
 refine wpAny_bind (wpAny_of_eq (a:=(Value.ref I,[])) rfl ?_)
 try dsimp only
 refine wpAny_bind (wpAny_field hI rfl (x:=.ref t) rfl ?_)
 refine wpAny_bind (wpAny_field hI rfl (x:=rawInt (-1)) rfl ?_)
 show wpAny _ _ (if (-1:Int)<0 then _ else _) _ _ s
 rw[if_pos (by decide)]
 refine wpAny_bind (wpAny_rule ?_)
 refine wpAny_bind ?_
 show wpAny _ _ (setField (.ref I) 1 (rawInt (-1)) >>= fun _=>setField (.ref I) 0 .none) _ _ _
 refine wpAny_bind (wpAny_setField hI rfl (by simp) ?_)
 have g1:=cW (Obj.mapFields (·.setIfInBounds 1 (rawInt (-1)))) hI rfl
 have b1:Heap.SameBut I s.heap (s.heap.update I (Obj.mapFields (·.setIfInBounds 1 (rawInt (-1))))):=fL ..
 refine wpAny_setField (vs:=#[.ref t,rawInt (-1)]) g1 rfl (by simp) ?_
 have b2:Heap.SameBut I (s.heap.update I (Obj.mapFields (·.setIfInBounds 1 (rawInt (-1))))) ((s.heap.update I (Obj.mapFields (·.setIfInBounds 1 (rawInt (-1))))).update I (Obj.mapFields (·.setIfInBounds 0 .none))):=fL ..
 refine wpAny_bind ?_
 unfold Builtin.SmallTypes.stopIteration
 refine wpAny_bind ?_
 simp only[newExc,newTuple]
 refine wpAny_bind (wpAny_newObj_type ?_ (by size_fits))
 refine wpAny_bind (m:=firstArgMember _ _) (wpAny_of_eq (a:=Value.none) (by first|rfl|(simp only[firstArgMember];rfl)) (wpAny_newObj_type ?_ (by size_fits)))
 simp only[raiseNew]
 refine wpAny_bind (wpAny_handled ?_)
 rw[show A.in1.handled=none from hh]
 refine wpAny_bind (wpAny_pure (wpAny_throw ?_))
 refine wpAny_bind (wpAny_isInstance (T:="StopIteration") (b:=true) ⟨_,bF _ rfl,rfl⟩ isSubtype_stop ?_)
 exact wpAny_pure (hQ _ fun b o hb e=>b9 _ (b9 _ ((b2.2 b hb).trans ((b1.2 b hb).trans e))))
theorem y4B{I t:Addr}{i:Int}{Q:Value->Shared->Prop}(hI:s.heap.get? I=some (z9k t i))(h:Q (.ref I) s):wpAny (model prog w) A (pyIter (.ref I)) Q E s:=by
 have ty:s.TypeIs (.ref I) "reversed":=⟨_,hI,rfl⟩
 refine wpAny_pyIter_slot ty z6p (wpAny_call_entry z6p ty z9h ?_ (y0d _))
 show wpAny _ _ (ret (.ref I)) _ _ s
 exact wpAny_pure ⟨_,rfl,"reversed",_,ty,z2n.lookup,h⟩
end
def Itv(K:PySem.W.Frag)(a:Addr)(n:Nat):It:=
 ⟨fun i H=>i<n/\∃xs,SqT K H a xs/\xs.length=n,fun i H x H'=>H'=H/\∀xs,SqT K H a xs->xs.reverse[i]? = some x,fun i H=>n≤i⟩
theorem y54{P:Program}{w:World}{K:PySem.W.Frag}{tg:Expr}(a it:Addr)(n:Nat):Turn P w K tg (Itv K a n) [it] it (fun i h=>i≤n/\h.get? it=some (z9k a ((n:Int)-1-(i:Int)))) where
 mem:=by simp
 obj:=fun i h st b hb=>by
  have e:b=it:=by simpa using hb
  subst e
  exact⟨_,st.2,fun v z=>by
   have z':Data.fields _=Data.cell v:=z
   cases z'⟩
 keep:=fun i h h' st k=>⟨st.1,k it (by simp) _ st.2⟩
 item:=by
  intro X hP hw hK hc i pins s σ H E I hf st hg
  subst hP hw hK
  obtain⟨hi,xs,hq,hn⟩:=hg
  obtain⟨its,rv,p,hz⟩:=I.tuple hq
  have ln:xs.length=its.length:=rv.length
  have hk:n-1-i<xs.length:=by omega
  obtain⟨u,hu,ru⟩:=rv.get (bD hk)
  obtain⟨f0,f1,f2,f3,f4,f5⟩:=hf it (by simp)
  have e1:(n:Int)-1-(i:Int)=((n-1-i:Nat):Int):=by omega
  have st1:=st.2
  rw[e1] at st1
  refine y6o st1 (show IsTup s.heap a its.toArray from p) (x:=u) (by simpa using hu) ?_ fun h' tk st' sb=>?_
  ·have:its.toArray.size=xs.length:=by simp[ln]
   rw[this]
   have:=fQ hz z5A
   omega
  have I1:Inv X pins σ H { s with heap:=h',toks:=tk }:=I.turned (t':=tk) (fun b o hb e=>(sb.2 b hb).trans e) f0 f1 f3 f4 f5
  refine⟨u,rfl,y5D (s:={ s with heap:=h',toks:=tk }) st' rfl rfl (by decide) ⟨xs[n-1-i],H,I1,ru,⟨rfl,fun ys hy=>?_⟩,⟨hi,?_⟩,fun b hb=>(hf b hb).1⟩⟩
  ·rw[I.Q7 hy hq,List.getElem?_reverse (by omega),bD (by omega)]
   congr 2
   omega
  ·have e2:(n:Int)-1-((i+1:Nat):Int)=((n-1-i:Nat):Int)-1:=by omega
   rw[e2]
   exact st'
 done:=by
  intro X hP hw hK hc i pins s σ H E I hf st hg
  subst hP hw hK
  obtain⟨f0,f1,f2,f3,f4,f5⟩:=hf it (by simp)
  have hg':n≤i:=hg
  have st1:=st.2
  rw[show(n:Int)-1-(i:Int)=-1 by have:=st.1;omega] at st1
  exact y7V (I.ok.hd hc) st1 fun h' eb=>⟨rfl,I.turned (t':=s.toks) (fun b o hb e=>eb b o hb e) f0 f1 f3 f4 f5⟩
 self:=fun _ _ _ _ _ st h=>y4B st.2 h
section
variable{X:Cx}{tg:Expr}
def iRev(K:PySem.W.Frag)(ta:TA):TI:=fun σ H R=>ta σ H fun vs H1=>∃a xs,vs=[.ref a]/\SqT K H1 a xs/\R (Itv K a xs.length) H1
theorem y5S{e:Expr}{ta:TA}{p pos:Pos}(hg:Gl X "reversed")(hm:X.mg "reversed"=none)(ha:PA X [e] ta)(hs:starEach [e] X.env=[(false,eval e X.env)]:=by rfl):PI X tg (.Call (.Name "reversed" p) [e] [] pos) (iRev X.K ta):=by
 intro pins s σ H R I h
 refine Call_ (z6G I hg hm boot_reversed (eY (thn (ha pos pins s σ H _ I h) fun us s1 ⟨vs,H1,I1,r1,q1⟩=>?_) hs rfl))
 obtain⟨a,xs,e,hq,q⟩:=q1
 subst e
 cases r1 with
 | cons r rr=>
  cases rr
  cases r
  obtain⟨its,rv,p,hz⟩:=I1.tuple hq
  have ln:(its.toArray.size:Int)=xs.length:=by simp[rv.length]
  refine y6s (show IsTup s1.heap a its.toArray from p) ?_ fun tk=>?_
  ·rw[ln]
   have:=fQ hz z5A
   omega
  refine y4B (bF _ rfl) ?_
  refine⟨s1.heap.objs.size,[s1.heap.objs.size],_,_,H1,rfl,I1.kept (t':=tk) fun b o e=>b9 _ e,y54 a _ xs.length,⟨cR _,?_⟩,fun b hb=>?_,q⟩
  ·rw[show(xs.length:Int)-1-((0:Nat):Int)=(its.toArray.size:Int)-1 by rw[ln];simp]
   exact bF _ rfl
  ·have e:b=s1.heap.objs.size:=by simpa using hb
   subst e
   exact I1.T2 (bC _) (I1.hok.fresh (bC _))
end
theorem y4N{K:PySem.W.Frag}{a:Addr}{xs:List V}{g:TG}{tc:TT}{te:TE}{σ0:St}{H1:Hp}{F:List V->Hp->Prop}(Pv:Nat->List V->Hp->Prop)(h0:Pv 0 [] H1)
  (hl:∀i ys H,i≤xs.length->Pv i ys H->SqT K H a xs/\ys.length<sizeLine)
  (hs:∀i x ys H,xs.reverse[i]? = some x->Pv i ys H->z1A g tc te σ0 x H ys (Pv (i+1))) (hd:∀ys H,Pv xs.length ys H->F ys H):z9K (Itv K a xs.length) g tc te σ0 H1 F:=by
 refine⟨fun i m ys H=>m=xs.length-i/\i≤xs.length/\Pv i ys H,⟨xs.length,by simp,cR _,h0⟩,?_⟩
 rintro i m ys H ⟨rfl,hi,p⟩
 obtain⟨q,z⟩:=hl i ys H hi p
 by_cases hlt:i<xs.length
 ·refine .inr ⟨⟨hlt,xs,q,rfl⟩,z,Pv (i+1),fun zs H' p'=>⟨xs.length-(i+1),by omega,rfl,hlt,p'⟩,fun x H' y=>?_⟩
  obtain⟨e,y⟩:=y
  subst e
  exact hs i x ys _ (y xs q) p
 ·have e:i=xs.length:=by omega
  subst e
  exact .inl ⟨bC _,hd ys H p⟩
theorem y6I{K:PySem.W.Frag}{a:Addr}{xs:List V}{g:TG}{tb:TS}{D:Ends}{σ:St}{H:Hp}(Pv:Nat->St->Hp->Prop)(h0:Pv 0 σ H)(hl:∀i σ H,i≤xs.length->Pv i σ H->SqT K H a xs)
  (hs:∀i x σ H,xs.reverse[i]? = some x->Pv i σ H->g x σ H fun σ2 H2=>tb { D with nx:=Pv (i+1),ct:=Pv (i+1),bk:=D.nx } σ2 H2) (hd:∀σ H,Pv xs.length σ H->D.nx σ H) :
  ∃W:Nat->Nat->St->Hp->Prop,(∃m,W 0 m σ H)/\∀i m σ H,W i m σ H->
   ((Itv K a xs.length).stop i H/\D.nx σ H)\/((Itv K a xs.length).go i H/\∃N:St->Hp->Prop,(∀σ' H',N σ' H'->∃m',m'<m/\W (i+1) m' σ' H')/\∀x H',(Itv K a xs.length).yld i H x H'->g x σ H' fun σ2 H2=>tb { D with nx:=N,ct:=N,bk:=D.nx } σ2 H2):=by
 refine⟨fun i m σ H=>m=xs.length-i/\i≤xs.length/\Pv i σ H,⟨xs.length,by simp,cR _,h0⟩,?_⟩
 rintro i m σ H ⟨rfl,hi',p⟩
 have q:=hl i σ H hi' p
 by_cases hlt:i<xs.length
 ·refine .inr ⟨⟨hlt,xs,q,rfl⟩,Pv (i+1),fun σ' H' p'=>⟨xs.length-(i+1),by omega,rfl,hlt,p'⟩,fun x H' y=>?_⟩
  obtain⟨e,y⟩:=y
  subst e
  exact hs i x σ _ (y xs q) p
 ·have e:i=xs.length:=by omega
  subst e
  exact .inl ⟨bC _,hd σ H p⟩
theorem len0{us:List Value}{p:List Value->Prop}(h:us.length=0)(k:p []):p us:=by rw[cT h];exact k
theorem O7{us:List Value}{p:List Value->Prop}(h:us.length=1)(k:∀a,p [a]):p us:=by
 obtain⟨a,r,rfl⟩:=cP h
 exact len0 (p:=fun r=>p (a::r)) (Nat.succ.inj h) (k a)
theorem X6{us:List Value}{p:List Value->Prop}(h:us.length=2)(k:∀a b,p [a,b]):p us:=by
 obtain⟨a,r,rfl⟩:=cP h
 exact O7 (p:=fun r=>p (a::r)) (Nat.succ.inj h) (k a)
theorem V3{us:List Value}{p:List Value->Prop}(h:us.length=3)(k:∀a b c,p [a,b,c]):p us:=by
 obtain⟨a,r,rfl⟩:=cP h
 exact X6 (p:=fun r=>p (a::r)) (Nat.succ.inj h) (k a)
theorem len4{us:List Value}{p:List Value->Prop}(h:us.length=4)(k:∀a b c d,p [a,b,c,d]):p us:=by
 obtain⟨a,r,rfl⟩:=cP h
 exact V3 (p:=fun r=>p (a::r)) (Nat.succ.inj h) (k a)
theorem len5{us:List Value}{p:List Value->Prop}(h:us.length=5)(k:∀a b c d e,p [a,b,c,d,e]):p us:=by
 obtain⟨a,r,rfl⟩:=cP h
 exact len4 (p:=fun r=>p (a::r)) (Nat.succ.inj h) (k a)
theorem len6{us:List Value}{p:List Value->Prop}(h:us.length=6)(k:∀a b c d e f,p [a,b,c,d,e,f]):p us:=by
 obtain⟨a,r,rfl⟩:=cP h
 exact len5 (p:=fun r=>p (a::r)) (Nat.succ.inj h) (k a)
theorem Cal.mono{P:Program}{w:World}{K:PySem.W.Frag}{mg:Str->Option Value}{base:Heap}{j k:Nat}{x:Str}{ps:List Str}{sp:Sp}(G:Cal P w K mg base j x ps sp)(h:j≤k):Cal P w K mg base k x ps sp:=by
 obtain⟨f,fd,a,b,c,d⟩:=G.ex
 exact⟨f,fd,a.mono h,b,c,d⟩
theorem D4.mono{P:Program}{w:World}{K:PySem.W.Frag}{mg:Str->Option Value}{base:Heap}{j k:Nat}{C:Addr}{m:Str}{ps:List Str}{sp:Sp}(G:D4 P w K mg base j C m ps sp)(h:j≤k):D4 P w K mg base k C m ps sp:=by
 obtain⟨f,fd,a,b,c⟩:=G.ex
 exact⟨G.cl,f,fd,a.mono h,b,c⟩
theorem Mkr.mono{P:Program}{w:World}{K:PySem.W.Frag}{mg:Str->Option Value}{base:Heap}{j k:Nat}{C:Addr}{x:Str}{ps:List Str}{sp:Sp}(G:Mkr P w K mg base j C x ps sp)(h:j≤k):Mkr P w K mg base k C x ps sp:=by
 obtain⟨f,fd,a,b,c,d⟩:=G.ex
 exact⟨f,fd,a.mono h,b,c,d⟩
theorem z2d{X:Cx}{x z:Str}{pos:Pos}(hg:Gl X x)(hm:∃t,X.mg x=some (.str z t))(hd:(x == ("__debug__":Str))=false:=by decide):PE X (.Name x pos) (tC (.str z)):=by
 obtain⟨t,e⟩:=hm
 exact y3g hg e ⟨t,rfl⟩ hd
section
variable{X:Cx}
theorem z6H{P:Program}{w:World}:∀{ns:List Int}{vs:List Value},vs.length=ns.length->(∀(j:Nat) (v:Value),vs[j]? = some v->∃k:Key,(ns.map Sum.inl)[j]? = some k/\(z1r P w).is k v=true)->IntsAre vs ns
 | [],[],_,_=>.nil
 | [],_::_,h,_=>by cases h
 | _::_,[],h,_=>by cases h
 | n::ns,v::vs,h,q=>by
  obtain⟨k,e,hk⟩:=q 0 v rfl
  cases e
  rcases z1a (show y0A (Sum.inl n) v=true from hk) with ⟨i,t,e1,rfl⟩|⟨x,t,e1,_⟩
  ·cases e1
   exact .cons n t (z6H (Nat.succ.inj h) fun j u hu=>q (j+1) u hu)
  ·cases e1
theorem z9A{prog:Program}{w:World}{A:Around}{E:Value->Shared->Prop}{s:Shared}{R:List Value->Shared->Prop}{T:String}{r d:Addr}{n:Nat}{P:Nat->Value->Prop}{OK:Heap->Prop}(K:PySem.W.KdlSrc prog w T r d n P OK)(hh:A.handled=none)(hok:OK s.heap)(hn:n≤sizeLine)
  (fin:∀(h':Heap) (tk:Nat) (acc:Array Value),(∀b o,s.heap.get? b=some o->h'.get? b=some o)->s.heap.objs.size<h'.objs.size->ItemsOf P acc n->R acc.toList { s with heap:=h',toks:=tk }):wpAny (model prog w) A (collect (.ref r)) R E s:=by
 have hlt:=K.there _ hok
 unfold collect
 refine wpAny_bind (wpAny_runValue (codeAny_builtin entry_proto_collect' ?_))
 rw[c9 g9 _]
 refine(show wpAny _ A.in1 (newList [] >>= fun l=>again (.builtin "list.__iadd__" ⟨[l,.ref r],[]⟩)) _ _ s from wpAny_bind (wpAny_newObj_type (wpAny_pure ⟨plainId_quiet dW _,codeAny_builtin entry_list_iadd' ?_⟩)))
 rw[c9 dW _]
 have g1:(s.heap.push { cls:=.type "list",data:=.seq ([]:List Value).toArray }).get? s.heap.objs.size=some { cls:=.type "list",data:=.seq #[] }:=bF _ rfl
 have ext:=PySem.W.kdl_extend (A:=A) (s:={ s with heap:=s.heap.push { cls:=.type "list",data:=.seq ([]:List Value).toArray } })
  (R:=fun(q:Result) (s':Shared)=>∃(h':Heap) (tk:Nat) (acc:Array Value) (c':Nat),q=.ok (.ret (.ref s.heap.objs.size))/\s'={ s with heap:=h',toks:=tk }/\(∀b o,s.heap.get? b=some o->h'.get? b=some o)/\
   h'.get? s.heap.objs.size=some { cls:=.type "list",dict:=none,data:=.seq acc c',slots:=#[] }/\ItemsOf P acc n)
  K hh (K.keep _ _ hok fun b _ o e=>b9 _ e) s.heap.objs.size (fG hlt.1) (fG hlt.2) (.ref s.heap.objs.size) 0 g1
  (fun h' tk acc c' k hS' so=>⟨h',tk,acc,c',rfl,rfl,fun b o e=>k b o (bW (bK e)) (b9 _ e),hS',so⟩) hn
 refine(show wpAny _ A.in1 (Builtin.List.listExtendWith (.ref s.heap.objs.size) (.ref r) (.ref s.heap.objs.size)) _ _ _ from wpAny_mono ext (fun f s' x=>?_) fun e s' x=>?_)
 ·cases f with
  | done f=>
   obtain⟨h',tk,acc,c',e,rfl,k,hS',so⟩:=x
   cases e
   exact(show wpAny _ A (load s.heap.objs.size >>= _) _ _ _ from wpAny_bind (wpAny_load hS' (wpAny_pure (fin h' tk _ k (bK hS') so))))
  | again c1=>
   refine⟨x.1,codeAny_mono x.2 fun q s2 y=>?_⟩
   obtain⟨h',tk,acc,c',rfl,rfl,k,hS',so⟩:=y
   exact(show wpAny _ A (load s.heap.objs.size >>= _) _ _ _ from wpAny_bind (wpAny_load hS' (wpAny_pure (fin h' tk _ k (bK hS') so))))
 ·obtain⟨_,_,_,_,e',_⟩:=x
  cases e'
theorem z6M(hc:X.calm=true):z2U X (.builtin "sorted") (fun xs H Q=>∃(p:Addr) (kvs:List (Key×V)) (ns:List Int),xs=[.ref p]/\H p=some (.dK kvs)/\kvs.map (·.1)=ns.map Sum.inl/\ns.length<64/\
  ∀(l:Addr) (ms:List Int),H l=none->ms.Perm ns->ms.Pairwise (·≤·)->Q (.ref l) (upd H l (.lst (ms.map V.int)))):=by
 intro pins s σ H xs us Q I r h
 obtain⟨p,kvs,ns,rfl,hp,hk,h64,q⟩:=h
 obtain⟨u,rfl,rx⟩:=z34 r
 cases rx
 obtain⟨_,lo,kv,rk,dd⟩:=y7u I.hok hp
 obtain⟨ep,hat⟩:=dd.dictAt
 have lk:kv.length=ns.length:=by
  have e1:=rk.length
  have e2:=congrArg List.length hk
  rw[b8,b8] at e2
  omega
 refine Calls.call_function_entry kind_sorted plain_sorted entry_sorted (args_sorted1 _) ?_
 unfold Builtin.«sorted»
 refine wpAny_bind (m:=checkCount "sorted" 1 1 _) (wpAny_pure ?_)
 refine wpAny_bind (z9A (A:=X.A.in1) (PySem.W.kdl_dict (knd:=z1r X.prog X.w) (kvs:=kv) (ep:=ep) lo) (I.ok.hd hc) hat (by rw[sizeLine_eq];omega) fun h' tk acc kp slt items=>?_)
 have hi:IntsAre acc.toList ns:=z6H (P:=X.prog) (w:=X.w) (by rw[cJ,items.1,lk]) fun j v hv=>by
  obtain⟨k,x,e,ik⟩:=items.2 j v (by rw[<- dP];exact hv)
  refine⟨k,?_,ik⟩
  rw[<- hk,rk.keys,bG,e]
  rfl
 have lv:acc.toList.length<64:=by rw[IntsAre.length hi];exact h64
 refine wpAny_bind (wpAny_newList ?_ (by rw[sizeLine_eq];omega))
 have g1:(h'.push (seqObj "list" acc.toList.toArray 0)).get? h'.objs.size=some (seqObj "list" acc.toList.toArray 0):=bF _ rfl
 refine wpAny_bind (wpAny_holding (wpAny_call_entry slot_list_sort ⟨_,g1,rfl⟩ entry_list_sort (list_sort_tree g1 hi lv fun out ns' a1 a2 a3=>⟨_,rfl,?_⟩) (args_list_sort _)))
 refine wpAny_pure ⟨_,rfl,?_⟩
 obtain⟨e,he⟩:=sortedHeap_at (out:=out) g1
 have sle:s.heap.objs.size≤h'.objs.size:=dZ slt
 have old:∀b o,s.heap.get? b=some o->(sortedHeap (h'.push (seqObj "list" acc.toList.toArray 0)) h'.objs.size acc.toList out).get? b=some o:=fun b o e=>by
  have hb:=bK (kp b o e)
  rw[sortedHeap_old (bW hb) (by rw[size_push'];exact dE hb)]
  exact b9 _ (kp b o e)
 refine⟨.ref h'.objs.size,_,I.laid (a:=h'.objs.size) (o:=.lst (ns'.map V.int)) (t':=tk) old sle (show z15 X.prog X.w _ _ _ (.lst (ns'.map V.int)) from⟨?_,out.toList,e,z46 a1,?_⟩),rfl,q _ ns' (I.hok.fresh sle) a2 a3⟩
 ·rw[b8,a2.length_eq,sizeLine_eq]
  omega
 ·simpa using he
end
theorem z84:typeLookup (.type "list") "keys"=pure none:=am_miss_of_fast (by kernel_rfl)
theorem z7c:typeLookup (.type "tuple") "keys"=pure none:=am_miss_of_fast (by kernel_rfl)
theorem z9F:typeLookup (.type "list") "__getattr__"=pure none:=by rw[typeLookup_type,builtinLookup_eq_fast];kernel_rfl
theorem z8O:typeLookup (.type "tuple") "__getattr__"=pure none:=by rw[typeLookup_type,builtinLookup_eq_fast];kernel_rfl
section
variable{prog:Program}{w:World}{A:Around}{E:Value->Shared->Prop}{s:Shared}
theorem y0g{a:Addr}{items:Array Value}{n:Nat}{sl:Array (Option Value)}{u:Tok}{R:Result->Shared->Prop}(hA:A.handled=none)(ho:s.heap.get? a=some ⟨.type "list",none,.seq items n,sl⟩)(h:∀h' tk e,Heap.NewAttrErr s.heap h' e (.ref a) "keys"->R (.error (.ref e)) { s with heap:=h',toks:=tk }) :
  wpAny (model prog w) A.in1 (Builtin.«object.__getattribute__» ⟨[.ref a,.str "keys" u],[]⟩) (fun fin s'=>match fin with|.done f=>R (.ok f) s'|.again c'=>c'.quiet=true/\codeAny (model prog w) A c' R s') (fun e s'=>R (.error e) s') s:=by
 obtain⟨hp,g,d,tk,os⟩:=s
 have hT:(⟨hp,g,d,tk,os⟩:Shared).TypeIs (.ref a) "list":=⟨_,ho,rfl⟩
 have f1:=z84
 unfold Builtin.«object.__getattribute__»
 repeat (any_goals (first|assumption|wp_step))
 exact wpAny_raiseAttrError hA h (attrMsg_fits (by decide +kernel) (by decide +kernel))
theorem z8V{a:Addr}{items:Array Value}{n:Nat}{sl:Array (Option Value)}{u:Tok}{R:Result->Shared->Prop}(hA:A.handled=none)(ho:s.heap.get? a=some ⟨.type "tuple",none,.seq items n,sl⟩)(h:∀h' tk e,Heap.NewAttrErr s.heap h' e (.ref a) "keys"->R (.error (.ref e)) { s with heap:=h',toks:=tk }) :
  wpAny (model prog w) A.in1 (Builtin.«object.__getattribute__» ⟨[.ref a,.str "keys" u],[]⟩) (fun fin s'=>match fin with|.done f=>R (.ok f) s'|.again c'=>c'.quiet=true/\codeAny (model prog w) A c' R s') (fun e s'=>R (.error e) s') s:=by
 obtain⟨hp,g,d,tk,os⟩:=s
 have hT:(⟨hp,g,d,tk,os⟩:Shared).TypeIs (.ref a) "tuple":=⟨_,ho,rfl⟩
 have f1:=z7c
 unfold Builtin.«object.__getattribute__»
 repeat (any_goals (first|assumption|wp_step))
 exact wpAny_raiseAttrError hA h (attrMsg_fits (by decide +kernel) (by decide +kernel))
theorem z89{a:Addr}{items:Array Value}{n:Nat}{sl:Array (Option Value)}{u:Tok}{R:Result->Shared->Prop}(hA:A.handled=none)(ho:s.heap.get? a=some ⟨.type "list",none,.seq items n,sl⟩)(h:∀h' tk e,Heap.NewAttrErr s.heap h' e (.ref a) "keys"->R (.error (.ref e)) { s with heap:=h',toks:=tk }) :
  codeAny (model prog w) A (.call (.builtin "list.__getattribute__") ⟨[.ref a,.str "keys" u],[]⟩) R s:=
 codeAny_call_builtin fH.plain F.entry_list_ga (fH.check _ _ _ _ _ _ _ _ (show s.TypeIs (.ref a) "list" from⟨_,ho,rfl⟩) (F.args_list_getattribute_2 _ _) (y0g (R:=R) hA ho h))
theorem z88{a:Addr}{items:Array Value}{n:Nat}{sl:Array (Option Value)}{Q:Option Value->Shared->Prop}(hA:A.handled=none)(ho:s.heap.get? a=some ⟨.type "list",none,.seq items n,sl⟩)(h:∀h' tk,(∀b o,s.heap.get? b=some o->h'.get? b=some o)->Q none { s with heap:=h',toks:=tk }) :
  wpAny (model prog w) A (getAttr? (.ref a) "keys") Q E s:=by
 obtain⟨hp,g,d,tk,os⟩:=s
 have hT:∀tk',(⟨hp,g,d,tk',os⟩:Shared).TypeIs (.ref a) "list":=fun _=>⟨_,ho,rfl⟩
 have f1:=sub_AttributeError
 have f3:=fH.lookup
 have f4:=fH.bind (.ref a)
 have f5:=z9F
 unfold getAttr? getAttrBy? getAttrBy
 repeat (any_goals (first|assumption|exact hT _|wp_step))
 refine z89 (s:=⟨hp,g,d,tk+1,os⟩) hA ho fun h' tk' e hx=>?_
 obtain⟨t',u',he⟩:=hx.there
 show wpAny _ _ (getattributeRaised _ _ _ _ _ _ _) _ _ _
 unfold getattributeRaised
 repeat (any_goals (first|assumption|wp_step))
 exact h _ _ hx.keeps
theorem z74{a:Addr}{items:Array Value}{n:Nat}{sl:Array (Option Value)}{u:Tok}{R:Result->Shared->Prop}(hA:A.handled=none)(ho:s.heap.get? a=some ⟨.type "tuple",none,.seq items n,sl⟩)(h:∀h' tk e,Heap.NewAttrErr s.heap h' e (.ref a) "keys"->R (.error (.ref e)) { s with heap:=h',toks:=tk }) :
  codeAny (model prog w) A (.call (.builtin "tuple.__getattribute__") ⟨[.ref a,.str "keys" u],[]⟩) R s:=
 codeAny_call_builtin fF.plain F.entry_tuple_ga (fF.check _ _ _ _ _ _ _ _ (show s.TypeIs (.ref a) "tuple" from⟨_,ho,rfl⟩) (F.args_tuple_getattribute_2 _ _) (z8V (R:=R) hA ho h))
theorem z72{a:Addr}{items:Array Value}{n:Nat}{sl:Array (Option Value)}{Q:Option Value->Shared->Prop}(hA:A.handled=none)(ho:s.heap.get? a=some ⟨.type "tuple",none,.seq items n,sl⟩)(h:∀h' tk,(∀b o,s.heap.get? b=some o->h'.get? b=some o)->Q none { s with heap:=h',toks:=tk }) :
  wpAny (model prog w) A (getAttr? (.ref a) "keys") Q E s:=by
 obtain⟨hp,g,d,tk,os⟩:=s
 have hT:∀tk',(⟨hp,g,d,tk',os⟩:Shared).TypeIs (.ref a) "tuple":=fun _=>⟨_,ho,rfl⟩
 have f1:=sub_AttributeError
 have f3:=fF.lookup
 have f4:=fF.bind (.ref a)
 have f5:=z8O
 unfold getAttr? getAttrBy? getAttrBy
 repeat (any_goals (first|assumption|exact hT _|wp_step))
 refine z74 (s:=⟨hp,g,d,tk+1,os⟩) hA ho fun h' tk' e hx=>?_
 obtain⟨t',u',he⟩:=hx.there
 show wpAny _ _ (getattributeRaised _ _ _ _ _ _ _) _ _ _
 unfold getattributeRaised
 repeat (any_goals (first|assumption|wp_step))
 exact h _ _ hx.keeps
end
theorem z4E:entryFor table "dict.update.loop"=some Builtin.«dict.update.loop»:=entryFor_of_tree (by kernel_rfl)
theorem z1K:plainId "dict.update.loop"=true:=by decide +kernel
section
variable{prog:Program}{w:World}{A:Around}{κ:Type}[DecidableEq κ]{kd:KeyKind prog w κ}{I:Addr}{fp wr:List Addr}{G:Array GenState->Array GenState->Prop}{n:Nat}{P:Nat->Value->Prop}{St:Nat->Shared->Prop}
def z9N(kd:KeyKind prog w κ)(h:Heap)(v:Value)(kv:κ×Value)(out:List Addr):Prop:=∃(a:Addr) (o:Obj) (T:String) (k:Value) (c:Nat),v=.ref a/\h.get? a=some o/\o.cls=.type T/\(T="list"\/T="tuple")/\o.data=.seq #[k,kv.2] c/\kd.is kv.1 k=true/\a∉out
theorem z6W{R:Result->Shared->Prop}(W:WalksS prog w A.in1 I fp wr G n P St){d:Addr}(out:d∉fp){h0:Heap}{vs:List (κ×Value)}(lk:vs.length=n)
  (vals:∀i v,P i v->∃kv,vs[i]? = some kv/\z9N kd h0 v kv (d::wr)) (few:n≤1000) :
  ∀(todo i:Nat) (s:Shared),i+todo=n->St i s->s.heap.DictOf kd d (merged [] (vs.take i))->(∀b o,b∉d::wr->h0.get? b=some o->s.heap.get? b=some o)->
   (∀s',Moved (d::wr) G s s'->s'.heap.DictOf kd d (merged [] vs)->R (.ok (.ret .none)) s')->codeAny (model prog w) A (.builtin "dict.update.loop" ⟨[.ref d,.ref I,rawInt i,.none],[]⟩) R s
 | 0,i,s,ei,st,sx,kp,fin=>by
  have e:vs.take i=vs:=cZ (by omega)
  rw[e] at sx
  have ei':i=n:=by omega
  subst ei'
  refine codeAny_builtin z4E ?_
  rw[c9 z1K _]
  refine wpAny_bind (W.done s _ _ st fun s' mv=>wpAny_bind (wpAny_pure (wpAny_pure (fin s' (mv.mono fun b hb=>.tail _ hb) (sx.at fun o=>mv.heap d o fun q=>out (W.sub _ q))))))
 | todo+1,i,s,ei,st,sx,kp,fin=>by
  refine codeAny_builtin z4E ?_
  rw[c9 z1K _]
  refine wpAny_bind (W.item i s _ _ (by omega) st fun v s1 hv st1 mv=>?_)
  obtain⟨⟨key,y⟩,ek,a,o,T,k,c,rfl,ho,hc,hT,hd,ik,na⟩:=vals i v hv
  have sx1:=sx.at (h':=s1.heap) fun o=>mv.heap d o fun q=>out (W.sub _ q)
  have ho1:s1.heap.get? a=some o:=mv.heap a o (fun q=>na (.tail _ q)) (kp a o na ho)
  have ty:s1.TypeIs (.ref a) T:=⟨o,ho1,hc⟩
  refine wpAny_bind (wpAny_holding (m:=(Builtin.Dict.pairItems (.ref a)).tryCatch _ >>= _) (wpAny_bind (wpAny_tryCatch ?_)))
  unfold Builtin.Dict.pairItems
  refine wpAny_bind (wpAny_typeOf ty ?_)
  rw[if_pos (by rcases hT with rfl|rfl<;>decide)]
  refine wpAny_bind (wpAny_seqItems ho1 hd (wpAny_pure ?_))
  show wpAny _ _ (holding [k,y] (dictSet d k y)) _ _ _
  have lm:=merged_length_le [] (vs.take i)
  rw[bO,j4] at lm
  refine wpAny_holding (wpAny_dictSet_pairs (hsz:=by rw[sizeLine_eq];omega) ik sx1 fun h2 sx2 sb=>?_)
  rw[<- merged_take_succ [] vs i (key,y) ek] at sx2
  have far:∀b,b≠d->h2.get? b=s1.heap.get? b:=fun b hb=>sb.2 b hb
  refine wpAny_pure ⟨plainId_quiet z1K _,z6W W out lk vals few todo (i+1) _ (by omega) (W.frame _ s1 _ _ st1 (e7 _) fun b hb o q=>?_) sx2 (fun b o nb q=>?_) fun s3 mv3 sx4=>?_⟩
  ·rw[far b fun z=>out (z ▸ hb)];exact q
  ·rw[far b fun z=>nb (z ▸ .head _)]
   exact mv.heap b o (fun q=>nb (.tail _ q)) (kp b o nb q)
  ·refine fin s3 (.trans W.gtrans ((mv.mono fun b hb=>.tail _ hb).then_heap (e7 _) fun b o hb q=>?_) mv3) sx4
   rw[far b fun z=>hb (z ▸ .head _)];exact q
end
section
variable{prog:Program}{w:World}{A:Around}{E:Value->Shared->Prop}{s:Shared}{κ:Type}[DecidableEq κ]{kd:KeyKind prog w κ}
theorem y6R{T:String}{p:Addr}{its:Array Value}{c0:Nat}{sl:Array (Option Value)}{vs:List (κ×Value)}{Q:Value->Shared->Prop}(hh:A.handled=none)(hp:s.heap.get? p=some ⟨.type T,none,.seq its c0,sl⟩)(hT:T="list"\/T="tuple")
  (lk:vs.length=its.size) (vals:∀(i:Nat) v,its[i]? = some v->∃kv,vs[i]? = some kv/\z9N kd s.heap v kv []) (few:its.size≤1000) (nd:(vs.map (·.1)).Nodup)
  (fin:∀(h':Heap) (t:Nat),h'.DictOf kd s.heap.objs.size vs->(∀b u,s.heap.get? b=some u->h'.get? b=some u)->Q (.ref s.heap.objs.size) { s with heap:=h',toks:=t }) :
  wpAny (model prog w) A (call (.type "dict") [.ref p]) Q E s:=by
 refine callType_codes (Q₁:=fun obj s₁=>obj=.ref s.heap.objs.size/\s₁={ s with heap:=s.heap.push { cls:=.type "dict",data:=.dict #[] } }) PySem.F.kt_called_dict (PySem.F.kt_typeCall_dict_1 _) F.entry_dict_init (kt_code_dict_new _ ⟨rfl,rfl⟩) ?_
 rintro obj s₁ ⟨rfl,rfl⟩
 have w00:(s.heap.push { cls:=.type "dict",data:=.dict #[] }).DictOf kd s.heap.objs.size []:=Heap.DictOf.new s.heap
 have hp1:(s.heap.push { cls:=.type "dict",data:=.dict #[] }).get? p=some ⟨.type T,none,.seq its c0,sl⟩:=b9 _ hp
 have hpl:p<s.heap.objs.size:=bK hp
 refine⟨w00.typeIs,F.args_dict_init_2 _ _,?_⟩
 unfold Builtin.«dict.__init__»
 refine wpAny_bind ?_
 unfold Builtin.Dict.selfAndRest
 refine wpAny_bind (wpAny_notOrdered_dict w00.typeIs ?_)
 show wpAny _ _ (pure (s.heap.objs.size,[Value.ref p])) _ _ _
 refine wpAny_pure ?_
 show wpAny _ _ (Builtin.Dict.updateFrom "dict.__init__" s.heap.objs.size (.ref p) [] .none) _ _ _
 unfold Builtin.Dict.updateFrom
 refine wpAny_bind (wpAny_typeOf (T:=T) ⟨_,hp1,rfl⟩ ?_)
 rw[if_pos (by rcases hT with rfl|rfl<;>decide)]
 have main:∀(h1:Heap) (tk:Nat),(∀b o,(s.heap.push { cls:=.type "dict",data:=.dict #[] }).get? b=some o->h1.get? b=some o)->
   wpAny (model prog w) A.in1.in1 (do
    rule (toString "dict.__init__"++toString ".from-pairs")
    return <- again (.builtin "dict.update.loop" ⟨[.ref s.heap.objs.size,<- pyIter (.ref p),rawInt 0,.none],[]⟩))
    (fun fin s'=>match fin with|.done f=>wants (fun r s₂=>r=.none/\Q (.ref s.heap.objs.size) s₂) E (.ok f) s'|.again c'=>c'.quiet=true/\codeAny (model prog w) A.in1 c' (wants (fun r s₂=>r=.none/\Q (.ref s.heap.objs.size) s₂) E) s')
    (fun e s'=>wants (fun r s₂=>r=.none/\Q (.ref s.heap.objs.size) s₂) E (.error e) s') { s with heap:=h1,toks:=tk }:=by
  intro h1 tk k1
  have hd1:=w00.keep k1
  have dlt:s.heap.objs.size<h1.objs.size:=by
   obtain⟨_,_,_,e,_⟩:=hd1
   exact bK e
  have hp2:=k1 _ _ hp1
  have apart:p≠h1.objs.size:=bW (bK hp2)
  have out:s.heap.objs.size∉[h1.objs.size,p]:=by rw[bB,bA];exact fun z=>z.elim (bW dlt) (fG hpl)
  have hh2:A.in1.in1.handled=none:=by simp[hh]
  have nin:∀{b:Addr}{o:Obj},s.heap.get? b=some o->b∉[s.heap.objs.size,h1.objs.size]:=fun e m=>by
   have hb:=bK e
   rcases bB.mp m with z|z
   ·exact absurd hb (by rw[z];exact dM _)
   ·rw[bA] at z
    exact absurd (jH hb dlt) (by rw[z];exact dM _)
  have Y6:∀(i:Nat) v,its[i]? = some v->∃kv,vs[i]? = some kv/\z9N kd s.heap v kv [s.heap.objs.size,h1.objs.size]:=fun i v hv=>by
   obtain⟨kv,e,a,o,T,k,c,e1,e2,e3,e4,e5,e6,_⟩:=vals i v hv
   exact⟨kv,e,a,o,T,k,c,e1,e2,e3,e4,e5,e6,nin e2⟩
  have ends:∀(x:Obj) (s':Shared),Moved [s.heap.objs.size,h1.objs.size] (fun a b=>b=a) { s with heap:=h1.push x,toks:=tk } s'->s'.heap.DictOf kd s.heap.objs.size (merged [] vs)->Q (.ref s.heap.objs.size) s':=fun x s' mv sx=>by
   obtain⟨h',g',d',t',o'⟩:=s'
   obtain rfl:g'=s.gens:=mv.gens
   obtain rfl:d'=s.drawn:=mv.drawn
   obtain rfl:o'=s.os:=mv.os
   rw[merged_nil_of_nodup vs nd] at sx
   exact fin h' t' sx fun b u q=>mv.heap b u (nin q) (b9 _ (k1 _ _ (b9 _ q)))
  refine wpAny_bind (wpAny_rule ?_)
  rcases hT with rfl|rfl
  ·have hl:h1.IsList p its:=⟨_,hp2,rfl,c0,rfl⟩
   refine wpAny_bind (wpAny_pyIter_list hl (wpAny_pure ⟨plainId_quiet z1K _,?_⟩))
   exact z6W (kd:=kd) ((Walks.list hh2 _ p apart its).toS) out (h0:=s.heap) lk Y6 few its.size 0 _ (g0 _) ⟨⟨_,bF _ rfl,rfl,rfl⟩,hl.push _⟩ (by rw[dG];exact hd1.push _) (fun b o _ q=>b9 _ (k1 _ _ (b9 _ q))) fun s' mv sx=>⟨rfl,ends _ s' mv sx⟩
  ·have hl:h1.IsTuple p its:=⟨_,hp2,rfl,c0,rfl⟩
   refine wpAny_bind (wpAny_pyIter_tuple hl (wpAny_pure ⟨plainId_quiet z1K _,?_⟩))
   exact z6W (kd:=kd) ((Walks.tuple hh2 _ p apart its).toS) out (h0:=s.heap) lk Y6 few its.size 0 _ (g0 _) ⟨⟨_,bF _ rfl,rfl,rfl⟩,hl.push _⟩ (by rw[dG];exact hd1.push _) (fun b o _ q=>b9 _ (k1 _ _ (b9 _ q))) fun s' mv sx=>⟨rfl,ends _ s' mv sx⟩
 have hh2:A.in1.in1.handled=none:=by simp[hh]
 rcases hT with rfl|rfl
 ·refine wpAny_bind (z88 hh2 hp1 fun h1 tk k1=>?_)
  exact main h1 tk k1
 ·refine wpAny_bind (z72 hh2 hp1 fun h1 tk k1=>?_)
  exact main h1 tk k1
end
section
variable{X:Cx}
def y40(K:PySem.W.Frag)(H:Hp)(u:V)(kv:Key×V):Prop:=∃a,u=.ref a/\(SqL K H a [kV kv.1,kv.2]\/SqT K H a [kV kv.1,kv.2])
def SqP(K:PySem.W.Frag)(H:Hp)(p:Addr)(ys:List V):Prop:=SqL K H p ys\/H p=some (.tup ys)
def y7e(K:PySem.W.Frag):List V->Hp->VK->Prop:=fun xs H Q=>∃p ys kvs,xs=[.ref p]/\SqP K H p ys/\Paired (y40 K H) ys kvs/\ys.length≤1000/\(kvs.map (·.1)).Nodup/\∀l,H l=none->Q (.ref l) (upd H l (.dK kvs))
theorem z8G{pins:List (Addr×Obj)}{σ:St}{H:Hp}{s:Shared}(I:Inv X pins σ H s):∀{ys:List V}{kvs:List (Key×V)}{its:List Value},Paired (y40 X.K H) ys kvs->Vals ys its->
  ∃vs,KV kvs vs/\vs.length=its.length/\∀(i:Nat) v,its[i]? = some v->∃kv,vs[i]? = some kv/\z9N (z1r X.prog X.w) s.heap v kv []
 | _,_,_,.nil,.nil=>⟨[],.nil,rfl,fun i v h=>by simp at h⟩
 | _::ys,kv::kvs,_::its,.cons ⟨a,e,hq⟩ t,.cons r rr=>by
  obtain⟨vs,k1,l1,p1⟩:=z8G I t rr
  subst e
  cases r
  have go:∀(T:String) (o:Obj) (us:List Value) (c:Nat),s.heap.get? a=some o->o.cls=.type T->(T="list"\/T="tuple")->o.data=.seq us.toArray c->Vals [kV kv.1,kv.2] us->
    ∃vs',KV (kv::kvs) vs'/\vs'.length=(Value.ref a::its).length/\∀(i:Nat) v,(Value.ref a::its)[i]? = some v->∃kv,vs'[i]? = some kv/\z9N (z1r X.prog X.w) s.heap v kv []:=fun T o us c h1 h2 h3 h4 h5=>by
   obtain⟨u1,u2,rfl,r1,r2⟩:=y5M h5
   refine⟨(kv.1,u2)::vs,.cons ⟨rfl,r2⟩ k1,by rw[bZ,bZ,l1],fun i v hv=>?_⟩
   cases i with
   | zero=>
    simp at hv
    subst hv
    exact⟨_,rfl,a,o,T,u1,c,rfl,h1,h2,h3,by simpa using h4,y3G r1,by simp⟩
   | succ i=>exact p1 i v (by simpa using hv)
  rcases hq with hq|hq
  ·obtain⟨us,rv,pl,_⟩:=I.list hq
   obtain⟨o,ho,hcl,n,hda⟩:=pl.isList
   exact go "list" o us n ho hcl (.inl rfl) hda rv
  ·obtain⟨us,rv,pl,_⟩:=I.tuple hq
   obtain⟨o,ho,hcl,n,hda⟩:=pl
   exact go "tuple" o us n ho hcl (.inr rfl) hda rv
theorem z4a{K:PySem.W.Frag}(hK:X.K=K)(hc:X.calm=true):z2U X (.type "dict") (y7e K):=by
 subst hK
 intro pins s σ H xs us Q I r h
 obtain⟨p,ys,kvs,rfl,hq,pr,hl,nd,q⟩:=h
 obtain⟨u,rfl,rx⟩:=z34 r
 cases rx
 have go:∀(T:String) (its:List Value) (c0:Nat) (sl:Array (Option Value)),s.heap.get? p=some ⟨.type T,none,.seq its.toArray c0,sl⟩->(T="list"\/T="tuple")->Vals ys its->wpAny (model X.prog X.w) X.A (call (.type "dict") [.ref p]) (EP X pins σ Q) X.xe s:=
  fun T its c0 sl ho hT rv=>by
   obtain⟨vs,k1,l1,p1⟩:=z8G I pr rv
   have ln:ys.length=its.length:=rv.length
   refine y6R (kd:=z1r X.prog X.w) (vs:=vs) (I.ok.hd hc) ho hT (by simpa using l1) (fun i v hv=>p1 i v (by simpa using hv)) (by simp;omega) (by rw[<- k1.keys];exact nd) fun h' t dd kp=>?_
   have big:=I.big
   refine⟨.ref s.heap.objs.size,_,I.laid (a:=s.heap.objs.size) (o:=.dK kvs) (h':=h') (t':=t) kp (bC _) (y5T ?_ ?_ k1 dd),rfl,q _ (I.hok.fresh (bC _))⟩
   ·have:=k1.length
    rw[sizeLine_eq]
    omega
   ·exact beq_false_of_ne (fG big)
 rcases hq with hq|hq
 ·obtain⟨its,rv,pl,_⟩:=I.list hq
  obtain⟨o,n,ho,hcl,hdi,hda⟩:=pl
  obtain⟨oc,od,oa,os⟩:=o
  simp only at hcl hdi hda
  subst hcl hdi hda
  exact go "list" its n os ho (.inl rfl) rv
 ·obtain⟨_,its,rv,o,ho,hcl,⟨n,hda⟩,hdi⟩:=(show z15 X.prog X.w H s.heap p (.tup ys) from I.hok p _ hq)
  obtain⟨oc,od,oa,os⟩:=o
  simp only at hcl hdi hda
  subst hcl hdi hda
  exact go "tuple" its n os ho (.inr rfl) rv
end
def SqS(K:PySem.W.Frag)(t:Bool)(H:Hp)(a:Addr)(xs:List V):Prop:=if t then SqL K H a xs else SqT K H a xs
theorem SqS.of{K:PySem.W.Frag}{H:Hp}{a:Addr}{xs:List V}(h:SqL K H a xs\/SqT K H a xs):∃t,SqS K t H a xs:=h.elim (fun q=>⟨true,q⟩) fun q=>⟨false,q⟩
theorem SqS.keep{K:PySem.W.Frag}{t:Bool}{H H':Hp}{a:Addr}{xs:List V}(s:A4 H H')(h:SqS K t H a xs):SqS K t H' a xs:=by
 cases t
 ·rcases(show SqT K H a xs from h) with (h|⟨o,h⟩)|h
  ·exact .inl (.inl (s _ _ h))
  ·exact .inl (.inr ⟨o,s _ _ h⟩)
  ·exact .inr h
 ·exact s.seq (show SqL K H a xs from h)
def Its(K:PySem.W.Frag)(t:Bool)(a:Addr):It:=if t then Itl K a else Itt K a
section
variable{X:Cx}{tg:Expr}
def iSeq(K:PySem.W.Frag)(tl:TE):TI:=fun σ H R=>tl σ H fun x H1=>∃a t,x=.ref a/\(∃xs,SqS K t H1 a xs)/\R (Its K t a) H1
theorem y4a{l:Expr}{tl:TE}(hl:PE X l tl):PI X tg l (iSeq X.K tl):=by
 intro pins s σ H R I h
 refine thn (hl pins s σ H _ I h) fun v s1 ⟨x,H1,I1,r1,q1⟩=>?_
 obtain⟨a,t,e,⟨xs,hq⟩,q⟩:=q1
 subst e
 cases r1
 cases t
 ·obtain⟨its,rv,p,hz⟩:=I1.tuple hq
  refine wpAny_pyIter_tuple (show s1.heap.IsTuple a its.toArray from p) ?_
  refine⟨s1.heap.objs.size,[s1.heap.objs.size],_,_,H1,rfl,I1.kept (t':=s1.toks) fun b o e=>b9 _ e,z8l a _,⟨_,bF _ rfl,rfl,rfl⟩,fun b hb=>?_,q⟩
  have e:b=s1.heap.objs.size:=by simpa using hb
  subst e
  exact I1.T2 (bC _) (I1.hok.fresh (bC _))
 ·obtain⟨its,rv,p,hz⟩:=I1.list hq
  refine wpAny_pyIter_list p.isList ?_
  refine⟨s1.heap.objs.size,[s1.heap.objs.size],_,_,H1,rfl,I1.kept (t':=s1.toks) fun b o e=>b9 _ e,z9z a _,⟨_,bF _ rfl,rfl,rfl⟩,fun b hb=>?_,q⟩
  have e:b=s1.heap.objs.size:=by simpa using hb
  subst e
  exact I1.T2 (bC _) (I1.hok.fresh (bC _))
end
theorem y1r{K:PySem.W.Frag}{t:Bool}{a:Addr}{xs:List V}{g:TG}{tc:TT}{te:TE}{σ0:St}{H1:Hp}{F:List V->Hp->Prop}(Pv:Nat->List V->Hp->Prop)(h0:Pv 0 [] H1)
  (hl:∀i ys H,i≤xs.length->Pv i ys H->SqS K t H a xs/\ys.length<sizeLine)
  (hs:∀i x ys H,xs[i]? = some x->Pv i ys H->z1A g tc te σ0 x H ys (Pv (i+1))) (hd:∀ys H,Pv xs.length ys H->F ys H):z9K (Its K t a) g tc te σ0 H1 F:=by
 cases t
 ·exact z1O Pv h0 hl hs hd
 ·exact z2O Pv h0 hl hs hd
theorem y6v{K:PySem.W.Frag}{t:Bool}{a:Addr}{xs:List V}{g:TG}{tb:TS}{D:Ends}{σ:St}{H:Hp}(Pv:Nat->St->Hp->Prop)(h0:Pv 0 σ H)(hl:∀i σ H,i≤xs.length->Pv i σ H->SqS K t H a xs)
  (hs:∀i x σ H,xs[i]? = some x->Pv i σ H->g x σ H fun σ2 H2=>tb { D with nx:=Pv (i+1),ct:=Pv (i+1),bk:=D.nx } σ2 H2) (hd:∀σ H,Pv xs.length σ H->D.nx σ H) :
  ∃W:Nat->Nat->St->Hp->Prop,(∃m,W 0 m σ H)/\∀i m σ H,W i m σ H->
   ((Its K t a).stop i H/\D.nx σ H)\/((Its K t a).go i H/\∃N:St->Hp->Prop,(∀σ' H',N σ' H'->∃m',m'<m/\W (i+1) m' σ' H')/\∀x H',(Its K t a).yld i H x H'->g x σ H' fun σ2 H2=>tb { D with nx:=N,ct:=N,bk:=D.nx } σ2 H2):=by
 cases t
 ·exact z93 Pv h0 hl hs hd
 ·exact z1m Pv h0 hl hs hd
section
variable{prog:Program}{w:World}{A:Around}{E:Value->Shared->Prop}
theorem z9L{it t:Addr}{items:Array Value}(hne:t≠it):∀(n i:Nat) (s:Shared) (Q:List Value->Shared->Prop),s.heap.IsListIter it t i->s.heap.IsList t items->i+n≤items.size->
  (∀h',h'.IsListIter it t (i+n)->Heap.SameBut it s.heap h'->Q ((items.toList.drop i).take n) { s with heap:=h' })->wpAny (model prog w) A (draw (.ref it) n) Q E s
 | 0,i,s,Q,hit,_,_,hQ=>by
  show wpAny _ _ (pure []) Q E s
  exact wpAny_pure (by simpa using hQ s.heap hit (Heap.SameBut.refl ..))
 | n+1,i,s,Q,hit,ht,hle,hQ=>by
  have hlt:i<items.size:=by omega
  show wpAny _ _ (pyNext (.ref it) >>= _) Q E s
  refine wpAny_bind (wpAny_pyNext_list_item hit ht (x:=items[i]) (by simp[hlt]) fun h₁ hit₁ hs₁=>?_)
  refine wpAny_bind (wpAny_holding (z9L hne n (i+1) _ _ hit₁ (ht.at fun o e=>(hs₁.2 t hne).trans e) (by omega) fun h₂ hit₂ hs₂=>wpAny_pure ?_))
  have hd:items.toList.drop i=items[i]::items.toList.drop (i+1):=by simp[List.drop_eq_getElem_cons,hlt]
  have:=hQ h₂ (by rw[show i+(n+1)=i+1+n by omega];exact hit₂) (hs₁.trans hs₂)
  rw[hd,List.take_succ_cons] at this
  exact this
theorem y0H{s:Shared}{t:Addr}{items:Array Value}{Q:List Value->Shared->Prop}(hh:A.handled=none)(ht:s.heap.IsList t items)
  (hQ:∀h',Heap.ExtBut s.heap.objs.size s.heap h'->Q items.toList { s with heap:=h' }):wpAny (model prog w) A (unpackItems (.ref t) items.size none) Q E s:=by
 have hlt:t≠s.heap.objs.size:=by obtain⟨o,ho,_⟩:=ht;exact bW (bK ho)
 unfold unpackItems
 refine wpAny_bind ?_
 unfold notIterableAtAll
 refine wpAny_bind (wpAny_specialOf ht.typeIs PySem.F.slot_list_iter.lookup ?_)
 refine wpAny_pure ?_
 simp only[e8,if_false]
 refine wpAny_bind (wpAny_holding (wpAny_pyIter_list ht ?_))
 refine wpAny_bind (wpAny_holding (z9L hlt items.size 0 _ _ ⟨_,bF _ rfl,rfl,rfl⟩ (ht.push _) (by omega) fun h₁ hit₁ hs₁=>?_))
 have B3:List.take items.size (List.drop 0 items.toList)=items.toList:=by
  rw[gP];exact cZ (by simp)
 rw[B3]
 rw[if_neg (by simp)]
 have ht₁:h₁.IsList t items:=(ht.push _).at fun o e=>(hs₁.2 t hlt).trans e
 refine wpAny_bind (wpAny_holding (wpAny_pyNext_list_end hh hit₁ ht₁ (by simp) fun h₂ he₂=>?_))
 simp only[Option.isSome_none,e8,if_false]
 exact wpAny_pure (hQ h₂ fun b o hb e=>he₂ b o hb (hs₁.extBut b o hb (b9 _ e)))
theorem z5M{s:Shared}{env:Env}{elts:List Expr}{x1}{pos:Pos}{t:Addr}{items:Array Value}{Q:Unit->Shared->Prop}(hh:A.handled=none)(ht:s.heap.IsList t items)
  (hn:(assignEach elts env).length=items.size) (w0M:(assignEach elts env).findIdx? (·.1)=none)
  (h:∀h',Heap.ExtBut s.heap.objs.size s.heap h'->wpAny (model prog w) A (assignInOrder ((assignEach elts env).map (·.2)) items.toList) Q E { s with heap:=h' }) :
  wpAny (model prog w) A (assign (.Tuple elts x1 pos) env (.ref t)) Q E s:=by
 rw[assign_Tuple]
 refine wpAny_bind (wpAny_standAt ?_)
 unfold unpack
 rw[hn,w0M]
 exact wpAny_bind (wpAny_holding (y0H hh ht h))
end
def w05(K:PySem.W.Frag)(n:Nat)(t:TGs):TG:=fun v σ H Q=>∃a xs,v=.ref a/\(SqL K H a xs\/SqT K H a xs)/\xs.length=n/\t xs σ H Q
theorem y3W{X:Cx}{K:PySem.W.Frag}{es:List Expr}{k:Nat}{t:TGs}{n:Nat}{pos:Pos}(hK:X.K=K)(hc:X.calm=true)(h:PGs X es t)
  (hn:(assignEach es X.env).length=n:=by rfl) (hst:(assignEach es X.env).findIdx? (·.1)=none:=by rfl):PG X (.Tuple es k pos) (w05 K n t):=by
 subst hK
 intro pins s σ H v u Q I r hw
 obtain⟨a,xs,e1,hq,hl,hw⟩:=hw
 subst e1
 cases r
 rcases hq with hq|hq
 ·obtain⟨its,rv,ht,hz⟩:=I.list hq
  refine z5M (I.ok.hd hc) ht.isList (by simp[hn,<- hl,rv.length]) hst fun h' hx=>?_
  have I1:Inv X pins σ H { s with heap:=h' }:=I.kept (t':=s.toks) fun b o e=>hx b o (bW (bK e)) e
  exact h pins _ σ H xs _ Q I1 (by simpa using rv) hw
 ·obtain⟨its,rv,ht,hz⟩:=I.tuple hq
  refine assign_Tuple_tuple (I.ok.hd hc) ht (by simp[hn,<- hl,rv.length]) hst fun h' hx=>?_
  have I1:Inv X pins σ H { s with heap:=h' }:=I.kept (t':=s.toks) fun b o e=>hx b o (bW (bK e)) e
  exact h pins _ σ H xs _ Q I1 (by simpa using rv) hw
theorem y4P{K:PySem.W.Frag}{n:Nat}{t:TGs}(a:z8h t):z9M (w05 K n t):=fun v σ H Q Q' f q=>by
 obtain⟨p,xs,e,h1,h2,q⟩:=q
 exact⟨p,xs,e,h1,h2,a _ _ _ _ _ f q⟩
theorem y6q{K:PySem.W.Frag}{n k:Nat}{t:TGs}(a:y4E n t):U0 n (w05 K k t):=fun v σ H Q q=>by
 obtain⟨p,xs,e,h1,h2,q⟩:=q
 exact⟨p,xs,e,h1,h2,a _ _ _ _ q⟩
theorem y1y{X:Cx}{K:PySem.W.Frag}(hK:X.K=K):OpR X (binaryOp .Add) (y7D K):=by
 subst hK
 exact y6N
section
variable{X:Cx}
end
structure Q4(K:PySem.W.Frag)(x qual:Str)(st:Stmt)(f:Addr)(fd:FuncData)(T:Addr)(items:Array Value):Prop where
 ex:∃(oc:Value) (od:Option Addr) (kV doc pm:Value) (an:Option Addr) (cdv ct:Value) (osl:Array (Option Value)),
  fd=PySem.W.fnOf x qual (z1q st) (z1g st) (z07 st) (.ref T) kV doc pm an cdv ct/\K.lookup f=some ⟨oc,od,.func fd,osl⟩/\PySem.W.codeIn K cdv qual=true
 kp:PySem.W.keepIn K (.ref f)=true
 dt:∃(o:Obj) (n:Nat),K.lookup T=some o/\o.data=.seq items n
section
variable{P:Program}{w:World}{K:PySem.W.Frag}{mg:Str->Option Value}{base:Heap}
theorem Q4.ok{x qual:Str}{st:Stmt}{f T:Addr}{items:Array Value}{fd:FuncData}{N ps:List Str}{k:Nat}{sp:Sp}(F:Q4 K x qual st f fd T items)(S:A2 N ps (z07 st))(len:∀vs H Q E,sp vs H Q E->vs.length=ps.length)
  (R9:∀(cdv:Value) (A:Around) (outer:List Env) (s:Shared) (H:Hp) (vs:List V) (Q:VK) (E:XK),C8 k (A.deeper (envOfC qual (z07 st) s.heap.objs.size f cdv))->sp vs H Q E->
   ∃t,PSs (T6 CX0 P w K mg base N qual (z07 st) f cdv A outer s H E).nox (z1g st) t/\t { nx:=fun _ H'=>Q .non H',rt:=Q } (z4g N vs) H):A5 P w K mg base CX0 (k+1) f fd ps sp:=by
 obtain⟨oc,od,kV,doc,pm,an,cdv,ct,osl,rfl,lk,hcd⟩:=F.ex
 refine y7m lk hcd S len fun A outer s H vs Q E hr hsp=>?_
 obtain⟨t,h,q⟩:=R9 cdv A outer s H vs Q E hr hsp
 exact⟨t,h.nox,q⟩
theorem Q4.binds{x qual:Str}{st:Stmt}{f T:Addr}{items:Array Value}{fd:FuncData}{ps:List Str}{ds:List Value}(F:Q4 K x qual st f fd T items)
  (h:∀(kV doc pm:Value) (an:Option Addr) (cdv ct:Value) (us:List Value),us.length+ds.length=ps.length->∃k,bindArgs (PySem.W.fnOf x qual (z1q st) (z1g st) (z07 st) (.ref T) kV doc pm an cdv ct) ⟨us,[]⟩=seqItems? (.ref T) >>= k/\k (some items)=pure (ps.zip (us++ds))):z1J K fd ps ds:=by
 obtain⟨oc,od,kV,doc,pm,an,cdv,ct,osl,rfl,lk,hcd⟩:=F.ex
 obtain⟨o,n,lt,hs⟩:=F.dt
 intro s us KX hl
 rw[bN] at hl
 obtain⟨k,h1,h2⟩:=h kV doc pm an cdv ct us hl
 exact .of_defaults rfl (KX _ _ lt) hs h1 h2
theorem y6x{x qual:Str}{st:Stmt}{f T:Addr}{oc oct:Value}{od odt an:Option Addr}{osl oslt:Array (Option Value)}{items:Array Value}{n:Nat}{kV doc pm cdv ct:Value}(l:K.lookup f=some ⟨oc,od,.func (PySem.W.fnOf x qual (z1q st) (z1g st) (z07 st) (.ref T) kV doc pm an cdv ct),osl⟩)
  (lt:K.lookup T=some ⟨oct,odt,.seq items n,oslt⟩) (c:PySem.W.codeIn K cdv qual=true) (k:PySem.W.keepIn K (.ref f)=true):Q4 K x qual st f (PySem.W.fnOf x qual (z1q st) (z1g st) (z07 st) (.ref T) kV doc pm an cdv ct) T items:=⟨⟨oc,od,kV,doc,pm,an,cdv,ct,osl,rfl,l,c⟩,k,_,n,lt,rfl⟩
end
structure P9(P:Program)(w:World)(K:PySem.W.Frag)(mg:Str->Option Value)(base:Heap)(k:Nat)(x:Str)(ps:List Str)(sp:Sp)(dvs:List V):Prop where
 ex:∃(f:Addr) (fd:FuncData) (ds:List Value),A5 P w K mg base CX0 k f fd ps sp/\z1J K fd ps ds/\Vals dvs ds/\PySem.W.keepIn K (.ref f)=true/\mg x=some (.ref f)
theorem P9.mk'{P:Program}{w:World}{K:PySem.W.Frag}{mg:Str->Option Value}{base:Heap}{k:Nat}{x:Str}{ps:List Str}{sp:Sp}{dvs:List V}{ds:List Value}{f:Addr}{fd:FuncData}(v:Vals dvs ds)(a:A5 P w K mg base CX0 k f fd ps sp)(b:z1J K fd ps ds)(c:PySem.W.keepIn K (.ref f)=true)(d:mg x=some (.ref f)) :
  P9 P w K mg base k x ps sp dvs:=⟨⟨f,fd,ds,a,b,v,c,d⟩⟩
theorem P9.mono{P:Program}{w:World}{K:PySem.W.Frag}{mg:Str->Option Value}{base:Heap}{j k:Nat}{x:Str}{ps:List Str}{sp:Sp}{dvs:List V}(G:P9 P w K mg base j x ps sp dvs)(h:j≤k):P9 P w K mg base k x ps sp dvs:=by
 obtain⟨f,fd,ds,a,b,v,c,d⟩:=G.ex
 exact⟨f,fd,ds,a.mono h,b,v,c,d⟩
theorem y73{X:Cx}{k:Nat}{x:Str}{ps:List Str}{sp:Sp}{dvs:List V}{e:Expr}{es:List Expr}{t:TA}{p pos:Pos}(G:P9 X.prog X.w X.K X.mg X.base k x ps sp dvs)(hr:C8 k X.A)(hg:Gl X x)(ha:PA X (e::es) t)
  (hdb:(x == ("__debug__":Str))=false:=by decide) (he:starEach (e::es) X.env=(false,eval e X.env)::starEach es X.env:=by rfl) (hpl:(backTo pos (starEach es X.env)).any (·.1)=false:=by rfl) :
  PE X (.Call (.Name x p) (e::es) [] pos) (y6j sp dvs E0 t):=by
 obtain⟨f,fd,ds,a,b,v,c,d⟩:=G.ex
 exact y33 a hr hg d c b v y28 ha hdb he hpl
structure L3(P:Program)(w:World)(K:PySem.W.Frag)(mg:Str->Option Value)(base:Heap)(k:Nat)(C:Addr)(m:Str)(ps:List Str)(sp:Sp)(dvs:List V):Prop where
 cl:Cls K C
 ex:∃(f:Addr) (fd:FuncData) (ds:List Value),A5 P w K mg base CX0 k f fd ps sp/\z1J K fd ps ds/\Vals dvs ds/\Meth K C m f
theorem L3.mk'{P:Program}{w:World}{K:PySem.W.Frag}{mg:Str->Option Value}{base:Heap}{k:Nat}{C:Addr}{m:Str}{ps:List Str}{sp:Sp}{dvs:List V}{ds:List Value}{f:Addr}{fd:FuncData}(v:Vals dvs ds)(c:Cls K C)(a:A5 P w K mg base CX0 k f fd ps sp)(b:z1J K fd ps ds)(d:Meth K C m f) :
  L3 P w K mg base k C m ps sp dvs:=⟨c,f,fd,ds,a,b,v,d⟩
theorem L3.mono{P:Program}{w:World}{K:PySem.W.Frag}{mg:Str->Option Value}{base:Heap}{j k:Nat}{C:Addr}{m:Str}{ps:List Str}{sp:Sp}{dvs:List V}(G:L3 P w K mg base j C m ps sp dvs)(h:j≤k):L3 P w K mg base k C m ps sp dvs:=by
 obtain⟨f,fd,ds,a,b,v,c⟩:=G.ex
 exact⟨G.cl,f,fd,ds,a.mono h,b,v,c⟩
theorem y5z{X:Cx}{k:Nat}{C:Addr}{m:Str}{ps:List Str}{sp:Sp}{dvs:List V}{o e:Expr}{es:List Expr}{ta:TE}{t:TA}{pos apos:Pos}{pl:Sem Bool}(G:L3 X.prog X.w X.K X.mg X.base k C m ps sp dvs)(hr:C8 k X.A)(he:PE X o ta)(ha:PA X (e::es) t)
  (hst:starEach (e::es) X.env=(false,eval e X.env)::starEach es X.env:=by rfl) (hpl:(backTo pos (starEach es X.env)).any (·.1)=false:=by rfl)
  (ht:eval (.Call (.Attribute o m apos) (e::es) [] pos) X.env=(do
   let ov <- eval o X.env
   standAt apos.atName
   let (f,first) <- holding [ov] (getMethod ov m pl)
   callWith pos f first (backTo pos (starEach (e::es) X.env)) (backToKw pos (keywordEach [] X.env))):=by rfl) :
  PE X (.Call (.Attribute o m apos) (e::es) [] pos) (y3J C m sp dvs E0 ta t):=by
 obtain⟨f,fd,ds,a,b,v,d⟩:=G.ex
 exact y3a he G.cl d a hr b v y28 ha hst hpl ht
end L2
namespace HT
open PySem PySem.Spec PyProof.Rows L2
section
variable{prog:Program}{w:World}{A:Around}{E:Value->Shared->Prop}{s:Shared}
theorem z67{t sl:Addr}{items:Array Value}{vl vu:Value}{lo hi:Option Int}{Q:Value->Shared->Prop}(ht:IsTup s.heap t items)(hs:s.heap.IsSliceOf sl vl vu .none)(pl:IsPart vl lo)(pu:IsPart vu hi)
  (hw:sIx items.size 0 lo=0/\sIx items.size items.size hi=items.size) (h:Q (.ref t) s):wpAny (model prog w) A (getItem (.ref t) (.ref sl)) Q E s:=by
 obtain⟨os,hos,hcs,hds⟩:=id hs
 have hTs:s.TypeIs (.ref sl) "slice":=⟨os,hos,hcs⟩
 unfold getItem
 try with_reducible refine wpAny_holding ?_
 first|refine wpAny_bind (wpAny_pure ?_)|skip
 refine wpAny_bind (wpAny_sequenceKey ht.typeIs (by decide) ?_)
 refine wpAny_bind (wpAny_callSpecial?_slot (name:=Str.ofString "__getitem__") ht.typeIs d8
  (wpAny_call_entry d8 ht.typeIs entry_tuple_getitem ?_ (args_tuple_getitem _ _)))
 show wpAny _ _ (Builtin.Tuple.tupleItemsOf (.ref t) >>= _) _ _ s
 refine wpAny_bind (tupleItemsOf_ ht ?_)
 refine wpAny_bind (wpAny_typeOf hTs ?_)
 rw[if_pos (by decide)]
 refine wpAny_bind (z3V hs pl pu ?_)
 have hyes:(((sIx items.size 0 lo:Nat):Int) == 0 && (1:Int) == 1 && (sIx items.size items.size hi-sIx items.size 0 lo) == items.size)=true:=by
  rw[hw.1,hw.2]
  simp
 show wpAny _ _ (if (((sIx items.size 0 lo:Nat):Int) == 0 && (1:Int) == 1 && (sIx items.size items.size hi-sIx items.size 0 lo) == items.size)=true then _ else _) _ _ s
 rw[if_pos hyes]
 refine wpAny_bind (m:=Builtin.Tuple.tupleIsExact _) (wpAny_bind (wpAny_typeOf ht.typeIs (wpAny_pure ?_)))
 rw[if_pos (by decide)]
 refine wpAny_bind (wpAny_rule ?_)
 exact wpAny_pure ⟨_,rfl,wpAny_pure h⟩
end
end HT
namespace L2
open PySem PySem.Spec PyProof.Rows
def z3s:List V->List V->Bool
 | [],[]=>true
 | x::xs,y::ys=>eqV x y && z3s xs ys
 | _,_=>false
theorem y1A:∀xs ys:List V,((List.range (min xs.length ys.length)).all (fun j=>eqV (xs.getD j .non) (ys.getD j .non)) && xs.length == ys.length)=z3s xs ys
 | [],[]=>rfl
 | [],_::_=>rfl
 | _::_,[]=>rfl
 | x::xs,y::ys=>by
  have ih:=y1A xs ys
  unfold z3s
  rw[<- ih,bZ,bZ,Nat.succ_min_succ,List.range_succ_eq_map,fO,jI,Bool.and_assoc]
  congr 1
  congr 1
  rw[dH]
  simp
theorem z90:∀{x:V},z21 x=true->eqV x x=true:=fun {x} h=>by
 cases x with
 | non=>rfl
 | bl b=>exact beq_self_eq_true b
 | int i=>exact beq_self_eq_true i
 | str z=>exact beq_self_eq_true z
 | _=>exact absurd (show false=true from h) bI
theorem z8n:∀{xs:List V},xs.all z21=true->z3s xs xs=true
 | [],_=>rfl
 | x::xs,h=>by
  rw[fO,bS] at h
  unfold z3s
  rw[z90 h.1,z8n h.2]
  rfl
theorem y0S:∀{xs:List V}{us:List Value},Vals xs us->xs.all z21=true->∀(j:Nat) (h:j<us.length),RelV (xs.getD j .non) us[j]/\z21 (xs.getD j .non)=true
 | _,_,.nil,_,j,h=>absurd h (gI _)
 | x::xs,u::us,.cons r t,f,0,h=>by
  rw[fO,bS] at f
  exact⟨r,f.1⟩
 | x::xs,u::us,.cons r t,f,j+1,h=>by
  rw[fO,bS] at f
  exact y0S t f.2 j (Nat.lt_of_succ_lt_succ h)
def eqI:List Value->List V->Bool
 | [],[]=>true
 | u::us,x::xs=>eqU x u && eqI us xs
 | _,_=>false
theorem y4t:∀{ys:List V}{us:List Value} (xs:List V),Vals ys us->ys.all z21=true->eqI us xs=z3s ys xs
 | _,_,[],.nil,_=>rfl
 | _,_,_::_,.nil,_=>rfl
 | y::ys,u::us,[],.cons r t,f=>rfl
 | y::ys,u::us,x::xs,.cons r t,f=>by
  rw[fO,bS] at f
  unfold eqI z3s
  rw[y4n r f.1,y4t xs t f.2]
section
variable{X:Cx}
theorem y4C{A:Around}{s:Shared}{a b:Addr}{its K8:List Value}{xs ys:List V}(pl:s.heap.IsTuple a its.toArray)(pl2:s.heap.IsTuple b K8.toArray)(r:Vals xs its)(r2:Vals ys K8)(f:xs.all z21=true)(f2:ys.all z21=true)(hu:A.units<cLine) :
  SeqAt.RcAt A s (.ref a) (.ref b) (z3s xs ys):=by
 have h:=SeqAt.RcAt.tuples (e:=fun j=>eqV (xs.getD j .non) (ys.getD j .non)) pl pl2 hu fun j h1 h2=>by
  rw[bH] at h1 h2
  obtain⟨q1,q2⟩:=y0S r f j h1
  obtain⟨q3,q4⟩:=y0S r2 f2 j h2
  exact y6c q1 q3 q2 q4
 rw[bH,bH,<- r.length,<- r2.length,y1A] at h
 exact h
def rEqT(K:PySem.W.Frag):R2:=fun x y H Q=>∃a b xs ys,x=.ref a/\y=.ref b/\SqT K H a xs/\SqT K H b ys/\xs.all z21=true/\ys.all z21=true/\Q (.bl (z3s xs ys)) H
theorem y7H(hu:X.A.units<cLine):OpR X (compareOp .Eq) (rEqT X.K):=by
 intro pins s σ H x y v u Q I rx ry h
 obtain⟨a,b,xs,ys,rfl,rfl,ha,hb,f1,f2,q⟩:=h
 cases rx
 cases ry
 obtain⟨its,r,pl,hz⟩:=I.tuple ha
 obtain⟨K8,r2,pl2,hz2⟩:=I.tuple hb
 exact y4C pl pl2 r r2 f1 f2 hu X.prog X.w X.xe _ ⟨.bl _,H,I,rfl,q⟩
def z3K(s:Shared)(xs:List V):Value->Bool
 | .ref b=>match s.heap.get? b with
  | some o=>match o.data with
   | .seq its _=>eqI its.toList xs
   | _=>false
  | none=>false
 | _=>false
def y6n(K:PySem.W.Frag):R2:=fun x y H Q=>∃a p xs us yss,x=.ref a/\y=.ref p/\SqT K H a xs/\xs.all z21=true/\SqL K H p us/\Paired (fun u ys=>∃b,u=.ref b/\SqT K H b ys/\ys.all z21=true) us yss/\Q (.bl (!yss.any fun ys=>z3s ys xs)) H
theorem y4z(hu:X.A.units+1<cLine):OpR X (compareOp .NotIn) (y6n X.K):=by
 intro pins s σ H x y v u Q I rx ry h
 obtain⟨a,p,xs,us,yss,rfl,rfl,ha,f1,hp,pr,q⟩:=h
 cases rx
 cases ry
 obtain⟨its,r,pl,hz⟩:=I.tuple ha
 obtain⟨K8,r2,pl2,hz2⟩:=I.list hp
 have item:∀(b:Addr) (ys:List V),SqT X.K H b ys->ys.all z21=true->z3K s xs (.ref b)=z3s ys xs/\SeqAt.EqAt X.A.in1 s (.ref b) (.ref a) (z3s ys xs):=fun b ys hb fb=>by
  obtain⟨its3,r3,pl3,hz3⟩:=I.tuple hb
  have e1:z3K s xs (.ref b)=z3s ys xs:=by
   obtain⟨o,ho,hc,n,hd⟩:=pl3
   unfold z3K
   simp only[ho,hd]
   exact y4t xs r3 fb
  refine⟨e1,?_⟩
  by_cases hne:b=a
  ·subst hne
   have e2:z3s ys xs=true:=by
    rw[<- e1]
    obtain⟨o,ho,hc,n,hd⟩:=pl
    unfold z3K
    simp only[ho,hd]
    rw[y4t xs r f1]
    exact z8n f1
   rw[e2]
   exact SeqAt.EqAt.same _
  ·exact SeqAt.EqAt.of_refs hne (y4C pl3 pl r3 r fb f1 hu)
 have all:∀{us:List V}{yss:List (List V)}{vs:List Value},Paired (fun u ys=>∃b,u=.ref b/\SqT X.K H b ys/\ys.all z21=true) us yss->Vals us vs->vs.any (z3K s xs)=yss.any (fun ys=>z3s ys xs)/\∀v∈vs,SeqAt.EqAt X.A.in1 s v (.ref a) (z3K s xs v):=by
  intro us yss vs pr
  induction pr generalizing vs with
  | nil=>
   intro r
   cases r
   exact⟨rfl,fun v hv=>(nomatch hv)⟩
  | cons h t ih=>
   intro r
   cases r with
   | cons r1 rt=>
    obtain⟨b,rfl,hb,fb⟩:=h
    cases r1
    obtain⟨i1,i2⟩:=ih rt
    obtain⟨j1,j2⟩:=item b _ hb fb
    refine⟨by rw[fP,fP,i1,j1],fun v hv=>?_⟩
    rcases bB.mp hv with rfl|hv
    ·rw[j1];exact j2
    ·exact i2 v hv
 obtain⟨a1,a2⟩:=all pr r2
 refine SeqAt.notIn_listAt (z3K s xs) pl2.isList (fun w hw=>a2 w (by simpa using hw)) ⟨.bl _,H,I,rfl,?_⟩
 rw[show K8.toArray.any (z3K s xs)=K8.any (z3K s xs) by simp,a1]
 exact q
end
def rSlA(K:PySem.W.Frag):V->Option Int->Option Int->Hp->VK->Prop:=fun x lo hi H Q=>∃a xs,x=.ref a/\SqT K H a xs/\((HT.sIx xs.length 0 lo=0/\HT.sIx xs.length xs.length hi=xs.length)->Q (.ref a) H)/\
 (¬(HT.sIx xs.length 0 lo=0/\HT.sIx xs.length xs.length hi=xs.length)->∀p,H p=none->Q (.ref p) (upd H p (.tup (M1 xs lo hi))))
theorem y6L{X:Cx}:SlR X (rSlA X.K):=by
 intro pins s σ H x v vl vu lo hi sl Q I rx hs pl pu h
 obtain⟨a,xs,rfl,hx,q1,q2⟩:=h
 by_cases hw:HT.sIx xs.length 0 lo=0/\HT.sIx xs.length xs.length hi=xs.length
 ·cases rx
  obtain⟨its,r,ht,hz⟩:=I.tuple hx
  have hlen:its.toArray.size=xs.length:=by rw[bH];exact r.length.symm
  exact⟨"tuple",_,d8.lookup,ht.typeIs,HT.z67 ht hs pl pu (by rw[hlen];exact hw) ⟨.ref a,H,I,rfl,q1 hw⟩⟩
 ·exact y64 pins s σ H (.ref a) v vl vu lo hi sl Q I rx hs pl pu ⟨a,xs,rfl,hx,hw,q2 hw⟩
section
variable{X:Cx}{tg:Expr}
end
def tCut(t u:TS):TS:=fun D σ H=>∃W:St->Hp->Prop,t { D with nx:=W } σ H/\∀σ' H',W σ' H'->u D σ' H'
theorem y6m{X:Cx}{st:Stmt}{rest:List Stmt}{t u:TS}(h1:PS X st t)(h2:PSs X rest u):PSs X (st::rest) (tCut t u):=by
 intro pins s σ H D I h
 obtain⟨W,h,hw⟩:=h
 refine wpAny_execs_cons (thn (h1 pins s σ H { D with nx:=W } I h) fun f s1 q=>?_)
 cases f with
 | next=>
  obtain⟨σ',H',I',q⟩:=q
  exact h2 pins s1 σ' H' D I' (hw σ' H' q)
 | ret v=>exact q
 | brk=>exact q
 | cont=>exact q
theorem len7{us:List Value}{p:List Value->Prop}(h:us.length=7)(k:∀a b c d e f g,p [a,b,c,d,e,f,g]):p us:=by
 match us,h with
 | [a,b,c,d,e,f,g],_=>exact k a b c d e f g
end L2
namespace HT
open PySem PySem.Spec PyProof.Rows L2
section
variable{prog:Program}{w:World}{A:Around}{E:Value->Shared->Prop}{s:Shared}
end
end HT
namespace L2
open PySem PySem.Spec PyProof.Rows
section
variable{X:Cx}
theorem z2V(zs:List Str):(zs.map V.str).all z21=true:=by
 rw[jI,jJ]
 intro z _
 rfl
end
def DfK(K:PySem.W.Frag)(x q:Str)(st:Stmt)(dV:Value)(f:Addr):Prop:=∃(oc:Value) (od:Option Addr) (kV doc pm:Value) (an:Option Addr) (cdv ct:Value) (osl:Array (Option Value)),
 K.lookup f=some ⟨oc,od,.func (PySem.W.fnOf x q (z1q st) (z1g st) (z07 st) dV kV doc pm an cdv ct),osl⟩/\PySem.W.codeIn K cdv q=true/\PySem.W.keepIn K (.ref f)=true
def DfT(K:PySem.W.Frag)(x:Str)(st:Stmt)(dV:Value)(f:Addr):Prop:=PySem.W.nsIn K mainGlobals x=some (some (.ref f))/\DfK K x x st dV f
def DfM(K:PySem.W.Frag)(C:Addr)(x q:Str)(st:Stmt)(dV:Value)(f:Addr):Prop:=PySem.W.findIn K (.ref C) x=some (some (.ref f))/\PySem.W.isFn K (.ref f)=true/\DfK K x q st dV f
def DfD(K:PySem.W.Frag)(T:Addr)(its:Array Value):Prop:=∃oct odt nt slt,K.lookup T=some ⟨oct,odt,.seq its nt,slt⟩
def DfC(K:PySem.W.Frag)(x:Str)(C:Addr):Prop:=PySem.W.nsIn K mainGlobals x=some (some (.ref C))/\PySem.W.plainGet K C Str.empty=true/\PySem.W.hasDictIn K C=true/\PySem.W.plainOver K C=true/\PySem.W.findIn K (.ref C) "__setattr__"=some (some (.builtin "object.__setattr__"))/\PySem.W.makesIn K C=true/\PySem.W.keepIn K (.ref C)=true
section
variable{K:PySem.W.Frag}{mg:Str->Option Value}{x q:Str}{st:Stmt}{f C T:Addr}{fd:FuncData}{its:Array Value}
theorem DfK.fn(h:DfK K x q st .none f):∃fd,Fun K x q st f fd:=by
 obtain⟨oc,od,kV,doc,pm,an,cdv,ct,osl,l,c,k⟩:=h
 exact⟨_,y7A l c k⟩
theorem DfK.fnD(h:DfK K x q st (.ref T) f)(d:DfD K T its):∃fd,Q4 K x q st f fd T its:=by
 obtain⟨oc,od,kV,doc,pm,an,cdv,ct,osl,l,c,k⟩:=h
 obtain⟨_,_,_,_,d⟩:=d
 exact⟨_,y6x l d c k⟩
theorem z0D{h:Heap}(X:K.In h)(G:h.Ns mainGlobals mg)(a:DfT K x st .none f):∃fd,Fun K x x st f fd/\mg x=some (.ref f):=by
 obtain⟨fd,F⟩:=a.2.fn
 exact⟨fd,F,d9 X G a.1⟩
theorem y7a{h:Heap}(X:K.In h)(G:h.Ns mainGlobals mg)(a:DfT K x st (.ref T) f)(d:DfD K T its):∃fd,Q4 K x x st f fd T its/\mg x=some (.ref f):=by
 obtain⟨fd,F⟩:=a.2.fnD d
 exact⟨fd,F,d9 X G a.1⟩
theorem z1z(a:DfM K C x q st .none f):∃fd,Fun K x q st f fd/\Meth K C x f:=by
 obtain⟨fd,F⟩:=a.2.2.fn
 exact⟨fd,F,a.1,a.2.1,F.kp⟩
theorem y4Y(a:DfM K C x q st (.ref T) f)(d:DfD K T its):∃fd,Q4 K x q st f fd T its/\Meth K C x f:=by
 obtain⟨fd,F⟩:=a.2.2.fnD d
 exact⟨fd,F,a.1,a.2.1,F.kp⟩
theorem y0u{y:Str}(c:DfC K y C)(a:DfM K C "__init__" q st .none f):∃fd,Fun K "__init__" q st f fd/\Mk K C f:=by
 obtain⟨fd,F⟩:=a.2.2.fn
 exact⟨fd,F,c.2.2.2.2.2.1,a.1,a.2.1,c.2.2.2.2.2.2⟩
theorem DfC.cls{y:Str}(c:DfC K y C):Cls K C:=⟨c.2.1,c.2.2.1,c.2.2.2.1,c.2.2.2.2.1⟩
theorem DfC.nm{h:Heap}(X:K.In h)(G:h.Ns mainGlobals mg){y:Str}(c:DfC K y C):mg y=some (.ref C):=d9 X G c.1
theorem y36{p:Str}(F:Fun K x q st f fd)(h:∀kV doc pm an cdv ct v,bindArgs (PySem.W.fnOf x q (z1q st) (z1g st) (z07 st) .none kV doc pm an cdv ct) ⟨[v],[]⟩=pure [(p,v)]:=by intros;rfl):∀(s:Shared) (v:Value),BindsTo s fd ⟨[v],[]⟩ [(p,v)]:=by
 obtain⟨oc,od,kV,doc,pm,an,cdv,ct,osl,rfl,l,c⟩:=F.ex
 exact fun s v=>.of_eq (h _ _ _ _ _ _ _)
theorem b0(F:Fun K x q st f fd)(h:∀kV doc pm an cdv ct,bindArgs (PySem.W.fnOf x q (z1q st) (z1g st) (z07 st) .none kV doc pm an cdv ct) ⟨[],[]⟩=pure (List.zip [] []):=by intros;rfl):z1J K fd [] []:=
 F.binds fun kV doc pm an cdv ct us hl=>len0 (p:=fun us=>bindArgs _ ⟨us,[]⟩=pure (List.zip _ us)) hl (h kV doc pm an cdv ct)
theorem b1{p1:Str}(F:Fun K x q st f fd)(h:∀kV doc pm an cdv ct a,bindArgs (PySem.W.fnOf x q (z1q st) (z1g st) (z07 st) .none kV doc pm an cdv ct) ⟨[a],[]⟩=pure (List.zip [p1] [a]):=by intros;rfl):z1J K fd [p1] []:=
 F.binds fun kV doc pm an cdv ct us hl=>O7 (p:=fun us=>bindArgs _ ⟨us,[]⟩=pure (List.zip _ us)) hl (h kV doc pm an cdv ct)
theorem b2{p1 p2:Str}(F:Fun K x q st f fd)(h:∀kV doc pm an cdv ct a b,bindArgs (PySem.W.fnOf x q (z1q st) (z1g st) (z07 st) .none kV doc pm an cdv ct) ⟨[a,b],[]⟩=pure (List.zip [p1,p2] [a,b]):=by intros;rfl):z1J K fd [p1,p2] []:=
 F.binds fun kV doc pm an cdv ct us hl=>X6 (p:=fun us=>bindArgs _ ⟨us,[]⟩=pure (List.zip _ us)) hl (h kV doc pm an cdv ct)
theorem b3{p1 p2 p3:Str}(F:Fun K x q st f fd)(h:∀kV doc pm an cdv ct a b c,bindArgs (PySem.W.fnOf x q (z1q st) (z1g st) (z07 st) .none kV doc pm an cdv ct) ⟨[a,b,c],[]⟩=pure (List.zip [p1,p2,p3] [a,b,c]):=by intros;rfl):z1J K fd [p1,p2,p3] []:=
 F.binds fun kV doc pm an cdv ct us hl=>V3 (p:=fun us=>bindArgs _ ⟨us,[]⟩=pure (List.zip _ us)) hl (h kV doc pm an cdv ct)
theorem b4{p1 p2 p3 p4:Str}(F:Fun K x q st f fd)(h:∀kV doc pm an cdv ct a b c d,bindArgs (PySem.W.fnOf x q (z1q st) (z1g st) (z07 st) .none kV doc pm an cdv ct) ⟨[a,b,c,d],[]⟩=pure (List.zip [p1,p2,p3,p4] [a,b,c,d]):=by intros;rfl):z1J K fd [p1,p2,p3,p4] []:=
 F.binds fun kV doc pm an cdv ct us hl=>len4 (p:=fun us=>bindArgs _ ⟨us,[]⟩=pure (List.zip _ us)) hl (h kV doc pm an cdv ct)
theorem b5{p1 p2 p3 p4 p5:Str}(F:Fun K x q st f fd)(h:∀kV doc pm an cdv ct a b c d e,bindArgs (PySem.W.fnOf x q (z1q st) (z1g st) (z07 st) .none kV doc pm an cdv ct) ⟨[a,b,c,d,e],[]⟩=pure (List.zip [p1,p2,p3,p4,p5] [a,b,c,d,e]):=by intros;rfl):z1J K fd [p1,p2,p3,p4,p5] []:=
 F.binds fun kV doc pm an cdv ct us hl=>len5 (p:=fun us=>bindArgs _ ⟨us,[]⟩=pure (List.zip _ us)) hl (h kV doc pm an cdv ct)
theorem b6{p1 p2 p3 p4 p5 p6:Str}(F:Fun K x q st f fd)(h:∀kV doc pm an cdv ct a b c d e g,bindArgs (PySem.W.fnOf x q (z1q st) (z1g st) (z07 st) .none kV doc pm an cdv ct) ⟨[a,b,c,d,e,g],[]⟩=pure (List.zip [p1,p2,p3,p4,p5,p6] [a,b,c,d,e,g]):=by intros;rfl):z1J K fd [p1,p2,p3,p4,p5,p6] []:=
 F.binds fun kV doc pm an cdv ct us hl=>len6 (p:=fun us=>bindArgs _ ⟨us,[]⟩=pure (List.zip _ us)) hl (h kV doc pm an cdv ct)
theorem b7{p1 p2 p3 p4 p5 p6 p7:Str}(F:Fun K x q st f fd)(h:∀kV doc pm an cdv ct a b c d e g i,bindArgs (PySem.W.fnOf x q (z1q st) (z1g st) (z07 st) .none kV doc pm an cdv ct) ⟨[a,b,c,d,e,g,i],[]⟩=pure (List.zip [p1,p2,p3,p4,p5,p6,p7] [a,b,c,d,e,g,i]):=by intros;rfl):z1J K fd [p1,p2,p3,p4,p5,p6,p7] []:=
 F.binds fun kV doc pm an cdv ct us hl=>len7 (p:=fun us=>bindArgs _ ⟨us,[]⟩=pure (List.zip _ us)) hl (h kV doc pm an cdv ct)
end
theorem calF(P:Program)(w:World)(K:PySem.W.Frag)(mg:Str->Option Value)(base:Heap){k:Nat}{x:Str}{ps:List Str}{sp:Sp}{st:Stmt}{f:Addr}{fd:FuncData}(F:Fun K x x st f fd/\mg x=some (.ref f))(a:A5 P w K mg base CX0 k f fd ps sp)(b:z1J K fd ps []):Cal P w K mg base k x ps sp:=.mk' a b F.1.kp F.2
theorem mclF(P:Program)(w:World)(K:PySem.W.Frag)(mg:Str->Option Value)(base:Heap){k:Nat}{C:Addr}{x q:Str}{ps:List Str}{sp:Sp}{st:Stmt}{f:Addr}{fd:FuncData}(c:Cls K C)(F:Fun K x q st f fd/\Meth K C x f)(a:A5 P w K mg base CX0 k f fd ps sp)(b:z1J K fd ps []):D4 P w K mg base k C x ps sp:=.mk' c a b F.2
theorem mkrF(P:Program)(w:World)(K:PySem.W.Frag)(mg:Str->Option Value)(base:Heap){k:Nat}{C:Addr}{x y q:Str}{ps:List Str}{sp:Sp}{st:Stmt}{f:Addr}{fd:FuncData}(c:mg x=some (.ref C))(F:Fun K y q st f fd/\Mk K C f)(a:A5 P w K mg base CX0 k f fd ps sp)(b:z1J K fd ps []):Mkr P w K mg base k C x ps sp:=.mk' a b F.2 c
theorem scp{N P:List Str}{sc:Scope}(h1:sc.kind=.function:=by rfl)(h2:sc.isCoroutine=false:=by rfl)(h3:sc.isGenerator=false:=by rfl)(h4:N.Nodup:=by decide +kernel)(h5:N.take P.length=P:=by rfl)
  (h6:∀x∈P,sc.names.lookup x=some .local\/sc.names.lookup x=some .cell:=by decide +kernel) (h7:∀y∈sc.names,y.2≠.free:=by decide +kernel):A2 N P sc:=⟨h1,h2,h3,h4,h5,h6,h7⟩
theorem rm{j k:Nat}{A:Around}(r:C8 k A)(h:j≤k:=by omega):C8 j A:=r.mono h
theorem Cal.up{P:Program}{w:World}{K:PySem.W.Frag}{mg:Str->Option Value}{base:Heap}{j k:Nat}{x:Str}{ps:List Str}{sp:Sp}(G:Cal P w K mg base j x ps sp)(h:j≤k:=by decide):Cal P w K mg base k x ps sp:=G.mono h
theorem P9.up{P:Program}{w:World}{K:PySem.W.Frag}{mg:Str->Option Value}{base:Heap}{j k:Nat}{x:Str}{ps:List Str}{sp:Sp}{d:List V}(G:P9 P w K mg base j x ps sp d)(h:j≤k:=by decide):P9 P w K mg base k x ps sp d:=G.mono h
theorem D4.up{P:Program}{w:World}{K:PySem.W.Frag}{mg:Str->Option Value}{base:Heap}{j k:Nat}{C:Addr}{x:Str}{ps:List Str}{sp:Sp}(G:D4 P w K mg base j C x ps sp)(h:j≤k:=by decide):D4 P w K mg base k C x ps sp:=G.mono h
theorem L3.up{P:Program}{w:World}{K:PySem.W.Frag}{mg:Str->Option Value}{base:Heap}{j k:Nat}{C:Addr}{x:Str}{ps:List Str}{sp:Sp}{d:List V}(G:L3 P w K mg base j C x ps sp d)(h:j≤k:=by decide):L3 P w K mg base k C x ps sp d:=G.mono h
theorem Mkr.up{P:Program}{w:World}{K:PySem.W.Frag}{mg:Str->Option Value}{base:Heap}{j k:Nat}{C:Addr}{x:Str}{ps:List Str}{sp:Sp}(G:Mkr P w K mg base j C x ps sp)(h:j≤k:=by decide):Mkr P w K mg base k C x ps sp:=G.mono h
section
variable{X:Cx}{mg:Str->Option Value}
end
end L2
namespace HT
open PySem PySem.Spec PyProof.Rows L2
section
variable{prog:Program}{w:World}{A:Around}{E:Value->Shared->Prop}{s:Shared}
end
end HT
namespace L2
open PySem PySem.Spec PyProof.Rows
section
variable{X:Cx}{es:List Expr}{ec:Nat}{tp:Pos}
end
section
variable{X:Cx}
theorem z8W(hc:X.calm=true):z2U X (.type "list") (fun xs H Q=>∃p i j,xs=[.ref p]/\H p=some (.rng i j)/\(-(2^62)≤i/\i<2^62/\-(2^62)≤j/\j<2^62)/\(j-i).toNat≤2^24/\
  ∀l,H l=none->Q (.ref l) (upd H l (.lst (N4 i (j-i).toNat)))):=by
 intro pins s σ H xs us Q I r h
 obtain⟨p,i,j,rfl,hp,⟨h1,h2,h3,h4⟩,hlen,q⟩:=h
 obtain⟨u,rfl,rx⟩:=z34 r
 cases rx
 obtain⟨t,u',v,e⟩:=(show z15 X.prog X.w H s.heap p (.rng i j) from I.hok p _ hp)
 have hn:Builtin.Range.rangeSize i j 1=(((j-i).toNat:Nat):Int):=by rw[rangeSize_one];split<;>omega
 have z:(N4 i (j-i).toNat).length≤sizeLine:=by unfold N4;rw[b8,dF,sizeLine_eq];omega
 refine call_list_range (I.ok.hd hc) e (small_one h1 h2 h3 h4) hn hlen fun h' tk acc c' hk hS hacc=>?_
 exact⟨.ref s.heap.objs.size,_,I.laid (t':=tk) hk (bC _) (show z15 X.prog X.w _ h' _ (.lst _) from⟨z,acc.toList,c',y12 hacc,by simpa using hS⟩),rfl,q _ (I.hok.fresh (bC _))⟩
theorem y43:z2U X (.type "range") (fun xs H Q=>∃j,xs=[.int j]/\∀p,H p=none->Q (.ref p) (upd H p (.rng 0 j))):=by
 intro pins s σ H xs us Q I r h
 obtain⟨j,rfl,q⟩:=h
 obtain⟨u,rfl,⟨t,rfl⟩⟩:=z34 r
 refine call_range_1 ?_
 exact⟨.ref s.heap.objs.size,_,I.laid (t':=s.toks+1+1) (fun b o e=>b9 _ e) (bC _) (show z15 X.prog X.w _ _ _ (.rng 0 j) from⟨s.toks,t,s.toks+1,bF _ rfl⟩),rfl,q _ (I.hok.fresh (bC _))⟩
theorem z5w:z2U X (.builtin "len") (fun xs H Q=>∃p ns,xs=[.ref p]/\H p=some (N6 X.prog X.w p ns)/\ns.length≤1000/\Q (.int (C5 ns).length) H):=by
 intro pins s σ H xs us Q I r h
 obtain⟨p,ns,rfl,hp,hl,q⟩:=h
 obtain⟨u,rfl,rx⟩:=z34 r
 cases rx
 obtain⟨⟨o,es,ep,t,e1,e2,e3,_,_,_,e4,e5,_⟩,_⟩:=(show z15 X.prog X.w H s.heap p (N6 X.prog X.w p ns) from I.hok p _ hp)
 have:=z5H ns
 exact PySem.call_len_set e1 e2 e3 e4 (by omega) ⟨.int (C5 ns).length,H,I.tok _,⟨s.toks+1,by rw[e5]⟩,q⟩
end
end L2
namespace My
open PySem L2
def top(i:Nat):Stmt:=PySem.Challenge.pw_backissues_k36_whole_send_for.main.body.getD i (.Pass ⟨0,0,0,0⟩)
abbrev z2q:Stmt:=top 1
abbrev z4N:Stmt:=top 2
abbrev z6h:Stmt:=top 3
abbrev z1u:Stmt:=top 4
abbrev z3P:Stmt:=top 5
abbrev z1G:Stmt:=top 6
abbrev z28:Stmt:=top 27
abbrev z24:Stmt:=top 28
abbrev z2G:Stmt:=top 29
abbrev z1H:Stmt:=top 30
abbrev z7e:Stmt:=top 35
abbrev z3a:Stmt:=top 36
abbrev z94:Stmt:=top 37
abbrev z64:Stmt:=top 38
abbrev z7E:Stmt:=top 39
abbrev z2N:Stmt:=top 40
abbrev z5U:Stmt:=top 41
abbrev z2R:Stmt:=top 43
abbrev z73:Stmt:=top 44
abbrev z70:Stmt:=top 46
abbrev z29:Stmt:=top 48
abbrev z2p:Stmt:=top 49
abbrev z3c:Stmt:=top 50
abbrev z38:Stmt:=top 51
abbrev z2o:Stmt:=z16 (top 52) 0
abbrev z1p:Stmt:=z16 (top 52) 1
abbrev z3E:Stmt:=z16 (top 52) 2
abbrev z3d:Stmt:=z16 (top 52) 3
abbrev z3B:Stmt:=z16 (top 52) 4
abbrev z2H:Stmt:=z16 (top 54) 0
abbrev z63:Stmt:=z16 (top 54) 1
abbrev z5L:Stmt:=z16 (top 54) 2
abbrev z3G:Stmt:=z16 (top 54) 3
abbrev z3g:Stmt:=z16 (top 54) 4
abbrev z37:Stmt:=z16 (top 54) 5
abbrev z1R:Stmt:=top 58
abbrev z3e:Stmt:=z16 (top 59) 0
abbrev z0X:Stmt:=z16 (top 59) 1
abbrev z19:Stmt:=z16 (top 59) 2
abbrev z5d:Stmt:=z16 (top 59) 3
abbrev z3F:Stmt:=z16 (top 59) 4
abbrev z48:Stmt:=z16 (top 59) 5
abbrev z4T:Stmt:=z16 (top 59) 6
abbrev z59:Stmt:=z16 (top 59) 7
abbrev z6f:Stmt:=z16 (top 59) 8
abbrev z55:Stmt:=z16 (top 59) 9
abbrev z8M:Stmt:=top 61
abbrev z5O:Stmt:=top 62
abbrev z7k:Stmt:=top 63
abbrev z5a:Stmt:=top 64
abbrev z4s:Stmt:=top 65
abbrev z53:Stmt:=top 66
abbrev z3H:Stmt:=top 67
abbrev z65:Stmt:=top 68
abbrev z4U:Stmt:=top 69
abbrev z42:Stmt:=top 70
abbrev z7I:Stmt:=top 71
abbrev z3f:Stmt:=top 72
abbrev z4e:Stmt:=top 73
abbrev z61:Stmt:=top 74
abbrev z5W:Stmt:=top 75
abbrev z4O:Stmt:=top 76
abbrev z5e:Stmt:=top 77
abbrev z5b:Stmt:=top 78
abbrev z60:Stmt:=top 79
abbrev z3M:Stmt:=top 80
abbrev z3n:Stmt:=top 81
abbrev z4W:Stmt:=top 82
abbrev z4Z:Stmt:=top 83
abbrev z4j:Stmt:=top 84
abbrev w0e:Stmt:=top 85
abbrev z2w:List Str:=["had"]
abbrev z4K:List Str:=["number","reach"]
abbrev z6g:List Str:=["had","number","reach"]
abbrev z14:List Str:=["had","reach"]
abbrev z3y:List Str:=["had","reach"]
abbrev z1d:List Str:=["had","reach","behind"]
abbrev z2a:List Str:=["names"]
abbrev z25:List Str:=["reach"]
abbrev z1V:List Str:=["names","reach"]
abbrev z1c:List Str:=["names","name"]
abbrev z3q:List Str:=["shelf","name"]
abbrev z3b:List Str:=["shelf","number","teller"]
abbrev z9a:List Str:=["shelf"]
abbrev z5X:List Str:=["shelf","name"]
abbrev z5r:List Str:=["shelf","name"]
abbrev z2M:List Str:=["shelf","name"]
abbrev z5Q:List Str:=["shelf"]
abbrev z2J:List Str:=["had","reach","behind"]
abbrev z3o:List Str:=["shelf","name"]
abbrev z7i:List Str:=["sets","reach"]
abbrev z2c:List Str:=["value"]
abbrev z2t:List Str:=["names","rows"]
abbrev z39:List Str:=["names","rows"]
abbrev z3j:List Str:=["rows"]
abbrev z2u:List Str:=["self","names","reach"]
abbrev z0Y:List Str:=["self","rows"]
abbrev z3D:List Str:=["self","rows"]
abbrev z3h:List Str:=["self"]
abbrev z1W:List Str:=["self","number"]
abbrev z2Q:List Str:=["self","names","reach"]
abbrev z5K:List Str:=["self","issue"]
abbrev z27:List Str:=["self"]
abbrev z5m:List Str:=["self"]
abbrev z3m:List Str:=["self","number"]
abbrev z33:List Str:=["self","number"]
abbrev z1Q:List Str:=["readers"]
abbrev z3i:List Str:=["self","names","reach","readers"]
abbrev z0L:List Str:=["self","reader"]
abbrev z0Q:List Str:=["self"]
abbrev z5c:List Str:=["self","rows"]
abbrev z3L:List Str:=["self","reader","number"]
abbrev z6x:List Str:=["self"]
abbrev z82:List Str:=["self","number"]
abbrev z7P:List Str:=["self"]
abbrev z8s:List Str:=["self","which"]
abbrev z2T:List Str:=["self","reader","deed"]
abbrev z6S:List Str:=["_law_script","_law_k"]
abbrev z4m:List Str:=["_law_cell","_law_size"]
abbrev z2K:List Str:=["_law_cell","_law_many","_law_size"]
abbrev z50:List Str:=["_law_found"]
abbrev z2e:List Str:=["_law_found","_law_due"]
abbrev z4R:List Str:=["_law_cell","_law_many"]
abbrev z3O:List Str:=["_law_times"]
abbrev z4p:List Str:=["_law_names","_law_cell","_law_many"]
abbrev z58:List Str:=["_law_figure","_law_place"]
abbrev z2Y:List Str:=["_law_sets_here","_law_cell"]
abbrev z75:List Str:=["_law_cell","_law_many"]
abbrev z3l:List Str:=["_law_row_here","_law_cell"]
abbrev z2Z:List Str:=["_law_had_here","_law_number","_law_reach"]
abbrev z6c:List Str:=["_law_had_here","_law_rows","_law_reach"]
abbrev z68:List Str:=["_law_had_here","_law_rows","_law_name"]
abbrev z52:List Str:=["_law_gaps_here","_law_number","_law_name"]
abbrev z4P:List Str:=["_law_gaps_here","_law_number","_law_name"]
abbrev z3A:List Str:=["_law_names","_law_had_here","_law_rows","_law_reach"]
abbrev z6b:List Str:=["_law_had_here","_law_reach"]
abbrev z3C:List Str:=["_law_script","_law_names"]
abbrev z2g:List Str:=["_law_names","_law_reach","_law_rows","_law_got"]
abbrev z4Y:List Str:=["_law_names","_law_reach","_law_rows","_law_got"]
abbrev z4L:List Str:=["_law_lacking","_law_many","_law_cell"]
abbrev z3Z:List Str:=["_law_names","_law_reach","_law_worlds","_law_had_here","_law_back","_law_places","_law_cell"]
abbrev plaw:List Str:=["_law_script"]
theorem z3u:A2 ["had","latest"] z2w (z07 z2q):=scp
theorem z6l:A2 ["number","reach"] z4K (z07 z4N):=scp
theorem z7p:A2 ["had","number","reach","tellers"] z6g (z07 z6h):=scp
theorem z23:A2 ["had","reach"] z14 (z07 z1u):=scp
theorem z4x:A2 ["had","reach"] z3y (z07 z3P):=scp
theorem z2j:A2 ["had","reach","behind"] z1d (z07 z1G):=scp
theorem z2X:A2 ["names"] z2a (z07 z28):=scp
theorem z2W:A2 ["reach"] z25 (z07 z24):=scp
theorem z3Q:A2 ["names","reach"] z1V (z07 z2G):=scp
theorem z2k:A2 ["names","name"] z1c (z07 z1H):=scp
theorem z8q:A2 ["shelf","name","number","values"] z3q (z07 z7e):=scp
theorem z47:A2 ["shelf","number","teller"] z3b (z07 z3a):=scp
theorem y07:A2 ["shelf","lacking"] z9a (z07 z94):=scp
theorem z7R:A2 ["shelf","name","held_from"] z5X (z07 z64):=scp
theorem z8x:A2 ["shelf","name","held_from","dark_behind"] z5r (z07 z7E):=scp
theorem z3W:A2 ["shelf","name"] z2M (z07 z2N):=scp
theorem z7Z:A2 ["shelf"] z5Q (z07 z5U):=scp
theorem z3U:A2 ["had","reach","behind","fewest","apart","dark"] z2J (z07 z2R):=scp
theorem z8c:A2 ["shelf","name","asked","held_from"] z3o (z07 z73):=scp
theorem z8m:A2 ["sets","reach","number","ahead"] z7i (z07 z70):=scp
theorem z31:A2 ["value"] z2c (z07 z29):=scp
theorem z3t:A2 ["names","rows","set_names","name","value"] z2t (z07 z2p):=scp
theorem z4i:A2 ["names","rows","values"] z39 (z07 z3c):=scp
theorem z4h:A2 ["rows"] z3j (z07 z38):=scp
theorem z3w:A2 ["self","names","reach"] z2u (z07 z2o):=scp
theorem z1U:A2 ["self","rows"] z0Y (z07 z1p):=scp
theorem z4F:A2 ["self","rows","number","sets"] z3D (z07 z3E):=scp
theorem z3X:A2 ["self"] z3h (z07 z3d):=scp
theorem z4G:A2 ["self","number"] z1W (z07 z3B):=scp
theorem z3T:A2 ["self","names","reach"] z2Q (z07 z2H):=scp
theorem z7L:A2 ["self","issue","number"] z5K (z07 z63):=scp
theorem z7K:A2 ["self"] z27 (z07 z5L):=scp
theorem z4B:A2 ["self"] z5m (z07 z3G):=scp
theorem z4b:A2 ["self","number"] z3m (z07 z3g):=scp
theorem z41:A2 ["self","number"] z33 (z07 z37):=scp
theorem z2y:A2 ["readers"] z1Q (z07 z1R):=scp
theorem z40:A2 ["self","names","reach","readers"] z3i (z07 z3e):=scp
theorem z1t:A2 ["self","reader"] z0L (z07 z0X):=scp
theorem z1E:A2 ["self"] z0Q (z07 z19):=scp
theorem z6m:A2 ["self","rows","number"] z5c (z07 z5d):=scp
theorem z4D:A2 ["self","reader","number","getting","lacked"] z3L (z07 z3F):=scp
theorem z5I:A2 ["self"] z6x (z07 z48):=scp
theorem z6o:A2 ["self","number"] z82 (z07 z4T):=scp
theorem z6u:A2 ["self"] z7P (z07 z59):=scp
theorem z7J:A2 ["self","which"] z8s (z07 z6f):=scp
theorem z6r:A2 ["self","reader","deed","behind","told","past"] z2T (z07 z55):=scp
theorem y00:A2 ["_law_script","_law_k"] z6S (z07 z8M):=scp
theorem z7a:A2 ["_law_cell","_law_size","_law_once"] z4m (z07 z5O):=scp
theorem z8u:A2 ["_law_cell","_law_many","_law_size","_law_rest","_law_mixed","_law_figures","_law_k"] z2K (z07 z7k):=scp
theorem z6I:A2 ["_law_found"] z50 (z07 z5a):=scp
theorem z7x:A2 ["_law_found","_law_due","_law_k"] z2e (z07 z4s):=scp
theorem z6v:A2 ["_law_cell","_law_many","_law_signs","_law_turn","_law_stem","_law_spot"] z4R (z07 z53):=scp
theorem z4A:A2 ["_law_times","_law_many","_law_turn"] z3O (z07 z3H):=scp
theorem z7Q:A2 ["_law_names","_law_cell","_law_many","_law_size","_law_sets_here","_law_figure","_law_mask","_law_chosen","_law_name"] z4p (z07 z65):=scp
theorem z6i:A2 ["_law_figure","_law_place"] z58 (z07 z4U):=scp
theorem z5F:A2 ["_law_sets_here","_law_cell","_law_figures","_law_rows","_law_k","_law_one","_law_place"] z2Y (z07 z42):=scp
theorem z8g:A2 ["_law_cell","_law_many","_law_flags","_law_numbers_here","_law_number","_law_jump","_law_figure"] z75 (z07 z7I):=scp
theorem z3Y:A2 ["_law_row_here","_law_cell","_law_figures","_law_told","_law_k"] z3l (z07 z3f):=scp
theorem z5o:A2 ["_law_had_here","_law_number","_law_reach","_law_above"] z2Z (z07 z4e):=scp
theorem z7s:A2 ["_law_had_here","_law_rows","_law_reach","_law_gaps_here","_law_number","_law_teller_here"] z6c (z07 z61):=scp
theorem z7U:A2 ["_law_had_here","_law_rows","_law_name","_law_held_here","_law_number","_law_row_here"] z68 (z07 z5W):=scp
theorem z6n:A2 ["_law_gaps_here","_law_number","_law_name"] z52 (z07 z4O):=scp
theorem z6B:A2 ["_law_gaps_here","_law_number","_law_name"] z4P (z07 z5e):=scp
theorem z6A:A2 ["_law_names","_law_had_here","_law_rows","_law_reach","_law_gaps_here","_law_table_here","_law_name","_law_held_here"] z3A (z07 z5b):=scp
theorem z78:A2 ["_law_had_here","_law_reach","_law_dark_here","_law_number"] z6b (z07 z60):=scp
theorem z4C:A2 ["_law_script","_law_names","_law_many","_law_sets_here"] z3C (z07 z3M):=scp
theorem z45:A2 ["_law_names","_law_reach","_law_rows","_law_got","_law_book","_law_one","_law_number"] z2g (z07 z3n):=scp
theorem z6t:A2 ["_law_names","_law_reach","_law_rows","_law_got","_law_found"] z4Y (z07 z4W):=scp
theorem z6q:A2 ["_law_lacking","_law_many","_law_cell","_law_fewer_here","_law_spare","_law_figure"] z4L (z07 z4Z):=scp
theorem z5u:A2 ["_law_names","_law_reach","_law_worlds","_law_had_here","_law_back","_law_places","_law_cell","_law_lacking","_law_number","_law_rows","_law_words_here","_law_fewer_here"] z3Z (z07 z4j):=scp
theorem y7i:A2 ["_law_script","_law_names","_law_rows","_law_reach","_law_had_here","_law_other","_law_dark_here","_law_worlds","_law_number","_law_shelf","_law_place","_law_table_here","_law_whole_here","_law_alone","_law_plan","_law_cell"] plaw (z07 w0e):=scp
structure I0(K:PySem.W.Frag)(mg:Str->Option Value)(C:Addr):Prop where
 cl:Cls K C
 mgC:mg "Office"=some (.ref C)
 n_names:z2L K C "names"
 n_reach:z2L K C "reach"
 n_written:z2L K C "written"
structure C7(K:PySem.W.Frag)(mg:Str->Option Value)(C:Addr):Prop where
 cl:Cls K C
 mgC:mg "Shelf"=some (.ref C)
 n_names:z2L K C "names"
 n_reach:z2L K C "reach"
 n_issues:z2L K C "issues"
structure F9(K:PySem.W.Frag)(mg:Str->Option Value)(C:Addr):Prop where
 cl:Cls K C
 mgC:mg "Book"=some (.ref C)
 n_office:z2L K C "office"
 n_readers:z2L K C "readers"
 n_done:z2L K C "done"
structure Bl(mg:Str->Option Value):Prop where
 len:mg "len"=none
 range:mg "range"=none
 tuple:mg "tuple"=none
 list:mg "list"=none
 max:mg "max"=none
 min:mg "min"=none
 sorted:mg "sorted"=none
 isinstance:mg "isinstance"=none
 bool:mg "bool"=none
 int:mg "int"=none
 str:mg "str"=none
 set:mg "set"=none
 reversed:mg "reversed"=none
 dict:mg "dict"=none
 zip:mg "zip"=none
 all:mg "all"=none
 MOST_NAMES:∃t,mg "MOST_NAMES"=some (.int 12 t)
 MOST_REACH:∃t,mg "MOST_REACH"=some (.int 10 t)
 MOST_NUMBERS:∃t,mg "MOST_NUMBERS"=some (.int 60 t)
 MOST_VALUE:∃t,mg "MOST_VALUE"=some (.int 1000000 t)
 MOST_READERS:∃t,mg "MOST_READERS"=some (.int 10 t)
 MOST_DEEDS:∃t,mg "MOST_DEEDS"=some (.int 400 t)
 SURE:∃t,mg "SURE"=some (.str "sure" t)
 STALE:∃t,mg "STALE"=some (.str "stale" t)
 OPEN:∃t,mg "OPEN"=some (.str "open" t)
 WRITE:∃t,mg "WRITE"=some (.str "write" t)
 DELIVER:∃t,mg "DELIVER"=some (.str "deliver" t)
theorem z01{H:Hp}{p:Addr}(h:H p=none)(o:HO):A4 H (upd H p o):=fun b u q=>by rw[z0e (z0i q h)];exact q
theorem z1N{H H':Hp}{l:Addr}{o:HO}(hs:A4 H H')(hl:H l=none):A4 H (upd H' l o):=fun b u e=>by rw[z0e (z0i e hl)];exact hs b u e
theorem y0G{n:Nat}(h:n≤1000):n≤sizeLine:=dZ (z0f h)
theorem z7j{ns:List Int}{k:Int}(h0:0≤k)(h:k<(ns.length:Int)):atI (ns.map V.int) k=some (.int (ns.getD k.toNat 0)):=by
 have hk:k.toNat<ns.length:=by omega
 have ek:k=((k.toNat:Nat):Int):=by omega
 have q:atI (ns.map V.int) ((k.toNat:Nat):Int)=some (.int (ns.getD k.toNat 0)):=z11 (by
  rw[bG,bD hk,bJ,bD hk]<;>rfl)
 rw[<- ek] at q
 exact q
theorem z6P{K:PySem.W.Frag}{H H':Hp}{a:Addr}{xs:List V}(e:A4 H H')(h:SqT K H a xs):SqT K H' a xs:=by
 rcases h with (h|⟨o,h⟩)|h
 ·exact .inl (.inl (e _ _ h))
 ·exact .inl (.inr ⟨o,e _ _ h⟩)
 ·exact .inr h
theorem z0F{p:Prop}[Decidable p](h:decide p=true):p:=of_decide_eq_true h
theorem z3v{p:Prop}[Decidable p](h:¬decide p=true):¬p:=fun q=>h (decide_eq_true q)
section
variable{P:Program}{w:World}{K:PySem.W.Frag}{mg:Str->Option Value}{base:Heap}{f:Addr}{fd:FuncData}
theorem z2f:∀{l1 l2:List Int},l1.Pairwise (· < ·)->l2.Pairwise (· < ·)->(∀x,x∈l1↔x∈l2)->l1=l2
 | [],[],_,_,_=>rfl
 | [],y::_,_,_,h=>by have:=(h y).mpr bQ;cases this
 | x::_,[],_,_,h=>by have:=(h x).mp bQ;cases this
 | x::r,y::t,p1,p2,h=>by
  rw[dS] at p1 p2
  have e:x=y:=by
   rcases bB.mp ((h x).mp bQ) with e|hx
   ·exact e
   ·rcases bB.mp ((h y).mpr bQ) with e|hy
    ·exact e.symm
    ·have:=p1.1 y hy
     have:=p2.1 x hx
     omega
  subst e
  refine congrArg (x::·) (z2f p1.2 p2.2 fun z=>⟨fun hz=>?_,fun hz=>?_⟩)
  ·rcases bB.mp ((h z).mp (bL _ hz)) with e|q
   ·have:=p1.1 z hz
    omega
   ·exact q
  ·rcases bB.mp ((h z).mpr (bL _ hz)) with e|q
   ·have:=p2.1 z hz
    omega
   ·exact q
theorem z1M(lo:Int):∀n,(upI lo n).Pairwise (· < ·)
 | 0=>List.Pairwise.nil
 | n+1=>by
  rw[z5J]
  refine dL.mpr ⟨z1M lo n,fM _ _,fun x hx y hy=>?_⟩
  have h1:=z17.mp hx
  rw[bA.mp hy]
  omega
theorem y3B(lo:Int)(n:Nat):N4 lo n=(upI lo n).map V.int:=by
 unfold N4 upI
 rw[eF]
 rfl
def w0c(K:PySem.W.Frag):Sp:=fun vs H Q _=>∃(a:Addr) (ns:List Int) (k:Int),vs=[.ref a,.int k]/\SqL K H a (ns.map V.int)/\0≤k/\Q (.int (ns.getD k.toNat 0)) H
theorem w15(M:Bl mg)(F:Fun K "_law_at" "_law_at" z8M f fd):A5 P w K mg base CX0 1 f fd z6S (w0c K):=by
 have nd:=y00.nd
 refine F.ok y00 (fun vs H Q E h=>?_) (fun cdv A outer s H vs Q E hr h=>?_)
 ·obtain⟨a,ns,k,rfl,_⟩:=h
  rfl
 obtain⟨a,ns,k,rfl,hS,h0,q⟩:=h
 refine⟨_,(z04 (z0N (z0c z8P (pv 1) (z0b z0a rfl M.len bP (z00 (pv 0) z03)) (z0n _)) (z05 (z0h (z0K z0R (pv 0) (pv 1) (fun _ _=>rfl)))) z0p) (z05 (z0h z06))),?_⟩
 have hl:(ns.map V.int).length=ns.length:=b8 _
 refine⟨_,rfl,_,rfl,a,_,rfl,.inl hS,_,_,rfl,rfl,_,rfl,?_⟩
 refine A9 (fun c=>?_) (fun c=>?_)
 ·have c':=z0F c
  rw[hl] at c'
  exact⟨_,rfl,_,rfl,a,_,_,_,rfl,rfl,hS,z7j h0 c',q⟩
 ·have c':=z3v c
  rw[hl] at c'
  have e:ns.getD k.toNat 0=0:=by rw[bJ,g8 (by omega)];rfl
  rw[e] at q
  exact q
def y3Z:Sp:=fun vs H Q _=>∃c n:Int,vs=[.int c,.int n]/\0<n/\∀r,0≤r->r<n->Q (.int r) H
theorem y79(F:Fun K "_law_pick" "_law_pick" z5O f fd):A5 P w K mg base CX0 1 f fd z4m y3Z:=by
 have nd:=z7a.nd
 refine F.ok z7a (fun vs H Q E h=>?_) (fun cdv A outer s H vs Q E hr h=>?_)
 ·obtain⟨c,n,rfl,_⟩:=h
  rfl
 obtain⟨c,n,rfl,hn,q⟩:=h
 refine⟨_,(z04 (z0N (z0c z2r (z0s z0V (pv 0) z06) z06 (z0n _)) (z05 (z0h (z0s z0V (z0s z1l (pv 0) z06) (pv 1)))) z0p) (z04 (z0l (i:=2) nd rfl (Or.inl rfl) (z0s z0V (z0s z6y (z0s z1l (pv 0) z06) z06) z06)) (z05 (z0h (z0s z0V (z0s z0V (z0s z6y (z0s z1D (pv 2) z06) z06) z06) (pv 1)))))),?_⟩
 refine⟨_,rfl,_,_,rfl,rfl,(by show(0:Int)<2;decide),rfl,_,rfl,?_⟩
 refine A9 (fun _=>?_) (fun _=>?_)
 ·exact⟨_,rfl,_,_,rfl,rfl,⟨by decide,by decide⟩,_,rfl,_,_,rfl,rfl,hn,q _ (cQ _ (by omega)) (cK _ hn)⟩
 ·refine⟨_,rfl,_,_,rfl,rfl,⟨by decide,by decide⟩,_,_,rfl,rfl,.inr ⟨by decide,by decide⟩,_,_,rfl,rfl,(by show(0:Int)<2147483647;decide),?_⟩
  refine⟨_,rfl,_,_,rfl,rfl,_,_,rfl,rfl,.inr ⟨by decide,by decide⟩,_,_,rfl,rfl,(by show(0:Int)<2147483647;decide),_,rfl,_,_,rfl,rfl,hn,?_⟩
  exact q _ (cQ _ (by omega)) (cK _ hn)
def z9p:Nat->Sp
 | 0=>fun _ _ _ _=>False
 | n+1=>fun vs H Q _=>∃x y,vs=[x,y]/\z4w H n x y/\∀H',A4 H H'->Q (.bl true) H'
theorem y3R:A5 P w K mg base CX0 0 f fd z2e (z9p 0):=
 ⟨fun vs H Q E h=>h.elim,fun A outer s H args us vs Q E _ _ _ _ h=>h.elim⟩
def tyOf:V->String
 | .non=>"NoneType"
 | .bl _=>"bool"
 | .int _=>"int"
 | _=>"str"
theorem z51{H:Hp}{x:V}(h:y2a x=true):N9 K H x (.type (tyOf x)):=by
 cases x with
 | non=>exact .non
 | bl b=>exact .bl b
 | int i=>exact .int i
 | str z=>exact .str z
 | _=>exact absurd h bI
def kitB:V->String->Bool
 | .bl _,T=>T == "bool" || T == "int"
 | .int _,T=>T == "int"
 | .str _,T=>T == "str"
 | _,_=>false
theorem z4l(T:String)(hT:T="tuple"\/T="bool"\/T="int"\/T="str"){x:V}(h:y2a x=true):PySem.W.kitOne K (.type (tyOf x)) (.type T)=some (kitB x T):=by
 cases x with
 | non=>rcases hT with rfl|rfl|rfl|rfl<;>kernel_rfl
 | bl b=>rcases hT with rfl|rfl|rfl|rfl<;>kernel_rfl
 | int i=>rcases hT with rfl|rfl|rfl|rfl<;>kernel_rfl
 | str z=>rcases hT with rfl|rfl|rfl|rfl<;>kernel_rfl
 | _=>exact absurd h bI
theorem y2p(x:V):kitB x "tuple"=false:=by cases x<;>rfl
theorem z99:PySem.W.kitOne K (.type "tuple") (.type "tuple")=some true:=by kernel_rfl
theorem y60{xs:List V}{i:Nat}(h:i<xs.length):∃v,xs[i]? = some v/\atI xs (i:Int)=some v:=⟨xs[i],bD h,z11 (bD h)⟩
theorem y6z{x:V}(h:y2a x=true):Z2 x x=true:=by
 cases x<;>first|rfl|exact absurd h bI
theorem y7b{n:Nat}(M:Bl mg)(F:Fun K "_law_same" "_law_same" z4s f fd)(M8:Cal P w K mg base n "_law_same" z2e (z9p n)) :
  A5 P w K mg base CX0 (n+1) f fd z2e (z9p (n+1)):=by
 have nd:=z7x.nd
 refine F.ok z7x (fun vs H Q E h=>?_) (fun cdv A outer s H vs Q E hr h=>?_)
 ·obtain⟨x,y,rfl,_⟩:=h
  rfl
 obtain⟨x,y,rfl,ha,q⟩:=h
 refine⟨_,(z04 (z0N (z6s (z0b z0T rfl M.isinstance cH (z00 (pv 1) (z00 (z2s (v:=.ty "tuple") rfl M.tuple bT rfl) z03)))) (z04 (z0N (PW.pt (z4v (z7S (z6s (z0b z0T rfl M.isinstance cH (z00 (pv 0) (z00 (z2s (v:=.ty "tuple") rfl M.tuple bT rfl) z03))))) (z2P (z0c z86 (z0b z0a rfl M.len bP (z00 (pv 0) z03)) (z0b z0a rfl M.len bP (z00 (pv 1) z03)) (z0n _))))) (z05 (z0h z5g)) z0p) (z04 (z1h cC rfl (z1Z rfl M.range (z00 (z0b z0a rfl M.len bP (z00 (pv 1) z03)) z03)) (z0j (i:=2) nd rfl (Or.inl rfl)) (z05 (z0N (z7S (z6s (z0k M8 (rm hr) rfl (z00 (z0K z0U (pv 0) (pv 2) (fun _ _=>rfl)) (z00 (z0K z0U (pv 1) (pv 2) (fun _ _=>rfl)) z03))))) (z05 (z0h z5g)) z0p))) (z05 (z0h z5g)))) z0p) (z04 (z0N (PW.pt (z4v (z0c z86 (z0b z0T rfl M.isinstance cH (z00 (pv 0) (z00 (z2s (v:=.ty "bool") rfl M.bool gY rfl) z03))) (z0b z0T rfl M.isinstance cH (z00 (pv 1) (z00 (z2s (v:=.ty "bool") rfl M.bool gY rfl) z03))) (z0n _)) (z2P (z0c z86 (z0b z0T rfl M.isinstance cH (z00 (pv 0) (z00 (z2s (v:=.ty "int") rfl M.int hW rfl) z03))) (z0b z0T rfl M.isinstance cH (z00 (pv 1) (z00 (z2s (v:=.ty "int") rfl M.int hW rfl) z03))) (z0n _))))) (z05 (z0h z5g)) z0p) (z04 (z0N (PW.pt (z4v (z0c z86 (z0b z0T rfl M.isinstance cH (z00 (pv 0) (z00 (z2s (v:=.ty "str") rfl M.str PyProof.Rows.boot_str rfl) z03))) (z0b z0T rfl M.isinstance cH (z00 (pv 1) (z00 (z2s (v:=.ty "str") rfl M.str PyProof.Rows.boot_str rfl) z03))) (z0n _)) (z2P (z0c z86 (y4i (z9C (pv 0))) (y4i (z9C (pv 1))) (z0n _))))) (z05 (z0h z5g)) z0p) (z05 (z0h (z4I z2r (pv 0) (pv 1) (z0n _))))))),?_⟩
 have ha':(x=y/\y2a x=true)\/∃(m:Nat) (a b:Addr) (xs ys:List V),n=m+1/\x=.ref a/\y=.ref b/\H a=some (.tup xs)/\H b=some (.tup ys)/\xs.length=ys.length/\ys.length≤1000000/\
   ∀(i:Nat) (u v:V),xs[i]? = some u->ys[i]? = some v->z4w H m u v:=by
  cases n with
  | zero=>exact .inl ha
  | succ n=>
   rcases ha with ha|⟨a,b,xs,ys,e1,e2,h1,h2,hl,hm,hi⟩
   ·exact .inl ha
   ·exact .inr ⟨n,a,b,xs,ys,rfl,e1,e2,h1,h2,hl,hm,hi⟩
 rcases ha' with ⟨rfl,hs⟩|⟨m,a,b,xs,ys,rfl,rfl,rfl,h1,h2,hl,hm,hi⟩
 ·have k1:=z4l (K:=K) "tuple" (.inl rfl) hs
  have k2:=z4l (K:=K) "bool" (.inr (.inl rfl)) hs
  have k3:=z4l (K:=K) "int" (.inr (.inr (.inl rfl))) hs
  have k4:=z4l (K:=K) "str" (.inr (.inr (.inr rfl))) hs
  rw[y2p] at k1
  refine⟨_,rfl,_,_,_,_,rfl,z51 hs,k1,_,rfl,C6 ?_⟩
  refine⟨_,rfl,_,_,_,_,rfl,z51 hs,k2,_,rfl,_,_,_,_,rfl,z51 hs,k2,rfl,_,rfl,?_⟩
  rw[decide_eq_true rfl]
  refine C6 ⟨_,rfl,_,_,_,_,rfl,z51 hs,k3,_,rfl,_,_,_,_,rfl,z51 hs,k3,rfl,_,rfl,?_⟩
  rw[decide_eq_true rfl]
  refine C6 ?_
  refine⟨_,rfl,_,_,_,_,rfl,z51 hs,k4,_,rfl,_,_,_,_,rfl,z51 hs,k4,rfl,_,rfl,?_⟩
  rw[decide_eq_true rfl]
  refine C6 ⟨_,rfl,_,rfl,rfl,_,rfl,?_⟩
  rw[decide_eq_true rfl]
  refine C6 ?_
  refine⟨_,rfl,_,rfl,y6z hs,?_⟩
  rw[decide_eq_true rfl]
  exact q H (A4.refl H)
 ·refine⟨_,rfl,_,_,_,_,rfl,.tup h2,z99,_,rfl,N0 ?_⟩
  refine⟨_,rfl,_,_,_,_,rfl,.tup h1,z99,_,rfl,C6 ?_⟩
  refine⟨_,rfl,a,xs,rfl,.inr (SqT.of h1),_,rfl,b,ys,rfl,.inr (SqT.of h2),rfl,_,rfl,?_⟩
  rw[hl,decide_eq_true rfl]
  refine C6 ?_
  refine⟨_,rfl,b,ys,rfl,.inr (SqT.of h2),_,rfl,by omega,by omega,?_⟩
  refine z2l (lo:=0) (n:=ys.length) (fun _ σ H'=>A4 H H'/\∃o,σ=[some (.ref a),some (.ref b),o]) ⟨A4.refl H,_,rfl⟩ (fun i σ H' hi' hp=>?_) (fun σ H' hp=>?_)
  ·obtain⟨hS,o,rfl⟩:=hp
   obtain⟨u,hu,au⟩:=y60 (xs:=xs) (i:=i) (by omega)
   obtain⟨v,hv,av⟩:=y60 (xs:=ys) (i:=i) hi'
   have ei:(0:Int)+(i:Int)=(i:Int):=jK _
   refine⟨_,rfl,_,rfl,a,_,_,_,rfl,rfl,SqT.of (hS _ _ h1),(by rw[ei];exact au),_,rfl,_,rfl,b,_,_,_,rfl,rfl,SqT.of (hS _ _ h2),(by rw[ei];exact av),?_⟩
   refine⟨u,v,rfl,(hi i u v hu hv).keep hS,fun H2 hS2=>⟨_,rfl,?_⟩⟩
   exact C6 ⟨hS.trans hS2,_,rfl⟩
  ·obtain⟨hS,o,rfl⟩:=hp
   exact q H' hS
theorem y1B(M:Bl mg)(F:Fun K "_law_same" "_law_same" z4s f fd)(B:z1J K fd z2e [])(N:mg "_law_same"=some (.ref f)) :
  ∀n,Cal P w K mg base n "_law_same" z2e (z9p n)
 | 0=>.mk' y3R B F.kp N
 | n+1=>.mk' (y7b M F (y1B M F B N n)) B F.kp N
theorem z91{ns:List Int}{n:Nat}(h:ns.length≤n)(hn:n≤1000):(ns.map V.int).length<sizeLine:=z0f (by rw[b8];omega)
def y1O:Sp:=fun vs H Q _=>∃c m z:Int,vs=[.int c,.int m,.int z]/\0≤m/\m≤900/\0<z/\z<1073741824/\
 ∀(l:Addr) (ns:List Int) (H':Hp),H l=none->A4 H H'->H' l=some (.lst (ns.map V.int))->ns.length=m.toNat->(∀x∈ns,0≤x/\x<z)->Q (.ref l) H'
theorem y7L(M:Bl mg)(F:Fun K "_law_row" "_law_row" z7k f fd):A5 P w K mg base CX0 1 f fd z2K y1O:=by
 have nd:=z8u.nd
 refine F.ok z8u (fun vs H Q E h=>?_) (fun cdv A outer s H vs Q E hr h=>?_)
 ·obtain⟨c,m,z,rfl,_⟩:=h
  rfl
 obtain⟨c,m,z,rfl,m0,m1,z0,z1,q⟩:=h
 refine⟨_,(z04 (z0l (i:=3) nd rfl (Or.inl rfl) (z0s z1l (pv 0) z06)) (z04 (z0l (i:=4) nd rfl (Or.inl rfl) (z0s z0V (z0s z6y (pv 3) z06) z06)) (z04 (z0l (i:=5) nd rfl (Or.inl rfl) (z1j z03)) (z04 (z1h cC rfl (z1Z rfl M.range (z00 (pv 1) z03)) (z0j (i:=6) nd rfl (Or.inl rfl)) (z04 (z0l (i:=4) nd rfl (Or.inl rfl) (z0s z0V (z0s z1D (z0s z1D (z0s z6y (pv 4) z06) (pv 6)) z06) z06)) (z05 (z0N (z0c z2r (z0s z0V (pv 0) z06) z06 (z0n _)) (z04 (z0C (z36 bY c7 cA z0O (pv 5) (z00 (z0s z0V (pv 3) (pv 2)) z03))) (z05 (z0l (i:=3) nd rfl (Or.inl rfl) (z0s z1l (pv 3) (pv 2))))) (z05 (z0C (z36 bY c7 cA z0O (pv 5) (z00 (z0s z0V (z0s z1l (pv 4) z06) (pv 2)) z03)))))))) (z05 (z0h (pv 5))))))),?_⟩
 refine⟨_,rfl,_,_,rfl,rfl,⟨by decide,by decide⟩,?_⟩
 refine⟨_,rfl,_,_,rfl,rfl,.inr ⟨by decide,by decide⟩,_,_,rfl,rfl,(by show(0:Int)<2147483647;decide),?_⟩
 refine⟨(by show 0≤sizeLine;decide),fun l hl=>?_⟩
 refine⟨_,rfl,_,rfl,by omega,by omega,?_⟩
 refine z2l (lo:=0) (n:=m.toNat) (fun i σ H'=>∃(ns:List Int) (r mx:Int) (o:Option V),ns.length=i/\(∀x∈ns,0≤x/\x<z)/\H'=upd H l (.lst (ns.map V.int))/\
  σ=[some (.int c),some (.int m),some (.int z),some (.int r),some (.int mx),some (.ref l),o]) ⟨[],_,_,_,rfl,(fun _ h=>nomatch h),rfl,rfl⟩ (fun i σ H' hi hp=>?_) (fun σ H' hp=>?_)
 ·obtain⟨ns,r,mx,o,hlen,B3,rfl,rfl⟩:=hp
  refine⟨_,rfl,_,_,rfl,rfl,.inr ⟨by decide,by decide⟩,_,rfl,_,_,rfl,rfl,_,_,rfl,rfl,_,_,rfl,rfl,(by show(0:Int)<2147483647;decide),?_⟩
  refine⟨_,rfl,_,_,rfl,rfl,(by show(0:Int)<2;decide),rfl,_,rfl,?_⟩
  have grow:∀y:Int,(∀x∈ns++[y%z],0≤x/\x<z):=fun y x hx=>by
   rcases bM.mp hx with h|h
   ·exact B3 x h
   ·rw[bA.mp h]
    exact⟨cQ _ (by omega),cK _ z0⟩
  have put:∀y:Int,upd (upd H l (.lst (ns.map V.int))) l (.lst (ns.map V.int++[.int (y%z)]))=upd H l (.lst ((ns++[y%z]).map V.int)):=fun y=>by
   rw[z4M,bE]
   rfl
  refine A9 (fun _=>?_) (fun _=>?_)
  ·refine⟨_,rfl,.inl ⟨rfl,_,SqL.of z02⟩,_,rfl,_,rfl,_,_,rfl,rfl,z0,l,_,_,rfl,rfl,z02,z91 (n:=i) (by omega) (by omega),?_⟩
   refine⟨_,rfl,_,rfl,_,_,rfl,rfl,⟨z0,z1⟩,?_⟩
   exact⟨ns++[r%z],_,_,_,by rw[bN,hlen];rfl,grow r,put r,rfl⟩
  ·refine⟨_,rfl,.inl ⟨rfl,_,SqL.of z02⟩,_,rfl,_,_,rfl,rfl,⟨by decide,by decide⟩,_,rfl,_,_,rfl,rfl,z0,l,_,_,rfl,rfl,z02,z91 (n:=i) (by omega) (by omega),?_⟩
   exact⟨ns++[_%z],_,_,_,by rw[bN,hlen];rfl,grow _,put _,rfl⟩
 ·obtain⟨ns,r,mx,o,hlen,B3,rfl,rfl⟩:=hp
  exact⟨_,rfl,q l ns _ hl (z01 hl _) z02 hlen B3⟩
theorem z2B(x:Int)(ns:List Int):inV (.int x) (ns.map V.int)=decide (x∈ns):=by
 unfold inV
 rw[dH,gM,hE,decide_eq_true_eq]
 constructor
 ·rintro⟨y,hy,e⟩
  have e':(y == x)=true:=e
  rw[<- eq_of_beq e']
  exact hy
 ·intro h
  exact⟨x,h,show(x == x)=true from beq_self_eq_true x⟩
theorem z1X(ns:List Int):(ns.map V.int).all z21=true:=by
 rw[jI,jJ]
 intro x _
 rfl
theorem y3v{l:List Int}{x:Int}(h:l.Pairwise (· < ·))(hx:∀y∈l,y<x):(l++[x]).Pairwise (· < ·):=
 dL.mpr ⟨h,fM _ _,fun a ha b hb=>by rw[bA.mp hb];exact hx a ha⟩
theorem y2G{l:List Int}(h:l.Pairwise (· < ·)):(l.map fun x=>x+1).Pairwise (· < ·):=by
 rw[dY]
 exact h.imp fun {a b} h=>by omega
theorem z9r:∀{l:List Int},l.Pairwise (·≤·)->l.Nodup->l.Pairwise (· < ·)
 | [],_,_=>.nil
 | x::r,h,n=>by
  rw[dS] at h ⊢
  rw[cV] at n
  refine⟨fun y hy=>?_,z9r h.2 n.2⟩
  have:=h.1 y hy
  have:x≠y:=fun e=>n.1 (e ▸ hy)
  omega
def y7l:Sp:=fun vs H Q _=>∃c m:Int,vs=[.int c,.int m]/\0≤m/\m≤60/\
 ∀(l:Addr) (ns:List Int) (H':Hp),H l=none->A4 H H'->H' l=some (.lst (ns.map V.int))->ns.Pairwise (· < ·)->(∀x∈ns,1≤x/\x≤m)->ns.length≤60->Q (.ref l) H'
theorem y7j(M:Bl mg)(F:Fun K "_law_had" "_law_had" z7I f fd)(B4:Cal P w K mg base 1 "_law_row" z2K y1O):A5 P w K mg base CX0 2 f fd z75 y7l:=by
 have nd:=z8g.nd
 refine F.ok z8g (fun vs H Q E h=>?_) (fun cdv A outer s H vs Q E hr h=>?_)
 ·obtain⟨c,m,rfl,_⟩:=h
  rfl
 obtain⟨c,m,rfl,m0,m1,q⟩:=h
 refine⟨_,(z04 (z0N (z0c z2r (z0s z0V (pv 0) z06) z06 (z0n _)) (z04 (z0l (i:=2) nd rfl (Or.inr rfl) (z0k B4 (rm hr) rfl (z00 (z0s z1l (pv 0) z06) (z00 (pv 1) (z00 z06 z03))))) (z05 (z0h (z1i ["_law_k"] ["_law_flags"] [2] rfl (z0u rfl (by decide +kernel) rfl (by decide +kernel) rfl rfl) (z1Z rfl M.range (z00 (pv 1) z03)) (fun _ _ _ _ _=>(z0j (i:=0) (show((["_law_k"]:List PySem.Str)++(["_law_flags"]:List PySem.Str)).Nodup from by decide +kernel) rfl (Or.inl rfl))) (z0x (by decide)) z0d (fun _ _ _ _ _=>(z26 (z0c z2r (z0K (r:=W0 K) z0R (pv 1) (pv 0) (fun _ _=>rfl)) z06 (z0n _)))) (fun _ _ _ _ _=>(z0s z1D (pv 0) z06)))))) z0p) (z04 (z0l (i:=3) nd rfl (Or.inl rfl) (z1j z03)) (z04 (z0N (z0c z2r (z0s z0V (pv 0) z06) z06 (z0n _)) (z04 (z0l (i:=4) nd rfl (Or.inl rfl) z06) (z04 (z1h cC rfl (z18 (z0k B4 (rm hr) rfl (z00 (z0s z1l (pv 0) z06) (z00 (pv 1) (z00 z06 z03))))) (z0j (i:=5) nd rfl (Or.inl rfl)) (z04 (z0l (i:=4) nd rfl (Or.inl rfl) (z0s z1D (z0s z1D (pv 4) z06) (pv 5))) (z05 (z0N (z0c y6U (pv 4) (pv 1) (z0n _)) (z05 (z0C (z36 bY c7 cA z0O (pv 3) (z00 (pv 4) z03)))) z0p)))) (z05 (z0h (pv 3))))) z0p) (z04 (z1h cC rfl (z18 (z0k B4 (rm hr) rfl (z00 (z0s z1l (pv 0) z06) (z00 z06 (z00 (z0s z1D (pv 1) z06) z03))))) (z0j (i:=6) nd rfl (Or.inl rfl)) (z05 (z0N (PW.pt (z5E (z0c z2A (pv 6) z06 (z0n _)) (z3J (z0c z1k (pv 6) (pv 3) (by with_unfolding_all rfl))))) (z05 (z0C (z36 bY c7 cA z0O (pv 3) (z00 (pv 6) z03)))) z0p))) (z05 (z0h (z0b z7F rfl M.sorted fI (z00 (pv 3) z03)))))))),?_⟩
 refine⟨_,rfl,_,_,rfl,rfl,(by show(0:Int)<3;decide),rfl,_,rfl,?_⟩
 refine A9 (fun _=>?_) (fun _=>?_)
 ·refine⟨_,rfl,_,_,rfl,rfl,⟨by decide,by decide⟩,_,rfl,_,m,2,rfl,m0,by omega,by decide,by decide,fun lf fs H1 nlf s1 e1 O7 all1=>?_⟩
  refine⟨_,rfl,_,rfl,by omega,by omega,?_⟩
  refine z7y (lo:=0) (n:=m.toNat) (fun k=>decide (fs.getD k.toNat 0=1)) (fun k=>.int (k+1)) (by omega) (fun k ys N k0 k1 hN=>?_) ?_
  ·refine⟨_,rfl,_,rfl,lf,_,_,_,rfl,rfl,SqL.of e1,z7j k0 (by omega),rfl,_,rfl,?_⟩
   refine A9 (fun c2=>?_) (fun c2=>?_)
   ·have c3:decide (fs.getD k.toNat 0=1)=true:=decide_eq_true (V.int.inj (z0F c2))
    rw[if_pos c3] at hN
    exact⟨_,rfl,_,_,rfl,rfl,hN⟩
   ·have c3:¬decide (fs.getD k.toNat 0=1)=true:=fun z=>c2 (decide_eq_true (congrArg V.int (z0F z)))
    rw[if_neg c3] at hN
    exact hN
  ·intro D hD
   have e:z2h (fun k=>decide (fs.getD k.toNat 0=1)) (fun k=>V.int (k+1)) (upI 0 m.toNat)=(((upI 0 m.toNat).filter fun k=>decide (fs.getD k.toNat 0=1)).map fun x=>x+1).map V.int:=by
    unfold z2h
    rw[eF]
    rfl
   refine q D (((upI 0 m.toNat).filter fun k=>decide (fs.getD k.toNat 0=1)).map fun x=>x+1) _ (s1.free hD) (s1.trans (z01 hD _)) ?_ (y2G ((z1M 0 _).filter _)) (fun x hx=>?_) ?_
   ·rw[z02,e]
   ·obtain⟨y,hy,rfl⟩:=cB.mp hx
    have:=z17.mp (bU.mp hy).1
    omega
   ·rw[b8]
    have h:=cF (fun k:Int=>decide (fs.getD k.toNat 0=1)) (upI 0 m.toNat)
    rw[z0M] at h
    omega
 ·refine⟨(by show 0≤sizeLine;decide),fun l hl=>?_⟩
  refine⟨_,rfl,_,_,rfl,rfl,(by show(0:Int)<3;decide),rfl,_,rfl,?_⟩
  refine A9 (fun _=>?_) (fun _=>?_)
  ·refine⟨_,rfl,_,_,rfl,rfl,⟨by decide,by decide⟩,_,rfl,_,m,15,rfl,m0,by omega,by decide,by decide,fun lf fs H1 nlf s1 e1 O7 all1=>?_⟩
   have nl:lf≠l:=fun z=>by rw[z,z02] at nlf;cases nlf
   refine⟨lf,rfl,⟨_,SqL.of e1⟩,?_⟩
   refine z1m (xs:=fs.map V.int) (fun i σ H'=>∃(ns:List Int) (x:Int) (o1 o2 o3:Option V),ns.Pairwise (· < ·)/\(∀y∈ns,1≤y/\y≤m/\y≤x)/\0≤x/\ns.length≤i/\H' l=some (.lst (ns.map V.int))/\H' lf=some (.lst (fs.map V.int))/\A4 H H'/\
    σ=[some (.int c),some (.int m),o1,some (.ref l),some (.int x),o2,o3]) ⟨[],0,_,_,_,.nil,(fun _ h=>nomatch h),dN 0,bC 0,s1 _ _ z02,e1,(z01 hl _).trans s1,rfl⟩ (fun i σ H' hi hp=>?_) (fun i x σ H' hx hp=>?_) (fun σ H' hp=>?_)
   ·obtain⟨ns,x,o1,o2,o3,_,_,_,_,_,h2,_⟩:=hp
    exact SqL.of h2
   ·obtain⟨ns,v,o1,o2,o3,p1,p2,p3,p4,p5,p6,p7,rfl⟩:=hp
    rw[bG] at hx
    cases ef:fs[i]? with
    | none=>rw[ef] at hx;cases hx
    | some j=>
     rw[ef] at hx
     cases hx
     have hj:=all1 j (bR ef)
     have hi:i<fs.length:=(cD.mp ef).1
     refine⟨_,rfl,_,_,rfl,rfl,_,rfl,_,_,rfl,rfl,?_⟩
     refine⟨_,rfl,_,rfl,_,_,rfl,rfl,_,rfl,?_⟩
     refine A9 (fun c2=>?_) (fun c2=>?_)
     ·have c3:=z0F c2
      refine⟨_,rfl,.inl ⟨rfl,_,SqL.of p5⟩,_,rfl,l,_,_,rfl,rfl,p5,z91 (n:=i) p4 (by omega),?_⟩
      refine⟨ns++[v+1+j],v+1+j,_,_,_,y3v p1 fun y hy=>by have:=p2 y hy;omega,fun y hy=>?_,by omega,by rw[bN,dO];omega,?_,?_,z1N p7 hl,rfl⟩
      ·rcases bM.mp hy with h|h
       ·have:=p2 y h;omega
       ·rw[bA.mp h];omega
      ·rw[z02,bE];rfl
      ·rw[z0e nl];exact p6
     ·exact⟨ns,v+1+j,_,_,_,p1,fun y hy=>by have:=p2 y hy;omega,by omega,by omega,p5,p6,p7,rfl⟩
   ·obtain⟨ns,x,o1,o2,o3,p1,p2,p3,p4,p5,p6,p7,rfl⟩:=hp
    rw[b8] at p4
    exact⟨_,rfl,q l ns _ hl p7 p5 p1 (fun y hy=>⟨(p2 y hy).1,(p2 y hy).2.1⟩) (by omega)⟩
  ·refine⟨_,rfl,_,_,rfl,rfl,⟨by decide,by decide⟩,_,rfl,_,_,rfl,rfl,_,4,m+1,rfl,by decide,by decide,by omega,by omega,fun lf fs H1 nlf s1 e1 O7 all1=>?_⟩
   have nl:lf≠l:=fun z=>by rw[z,z02] at nlf;cases nlf
   refine⟨lf,rfl,⟨_,SqL.of e1⟩,?_⟩
   refine z1m (xs:=fs.map V.int) (fun i σ H'=>∃(ns:List Int) (o1 o2 o3 o4:Option V),ns.Nodup/\(∀y∈ns,1≤y/\y≤m)/\ns.length≤i/\H' l=some (.lst (ns.map V.int))/\H' lf=some (.lst (fs.map V.int))/\A4 H H'/\
    σ=[some (.int c),some (.int m),o1,some (.ref l),o2,o3,o4]) ⟨[],_,_,_,_,.nil,(fun _ h=>nomatch h),bC 0,s1 _ _ z02,e1,(z01 hl _).trans s1,rfl⟩ (fun i σ H' hi hp=>?_) (fun i x σ H' hx hp=>?_) (fun σ H' hp=>?_)
   ·obtain⟨ns,o1,o2,o3,o4,_,_,_,_,h2,_⟩:=hp
    exact SqL.of h2
   ·obtain⟨ns,o1,o2,o3,o4,p1,p2,p4,p5,p6,p7,rfl⟩:=hp
    rw[bG] at hx
    cases ef:fs[i]? with
    | none=>rw[ef] at hx;cases hx
    | some j=>
     rw[ef] at hx
     cases hx
     have hj:=all1 j (bR ef)
     have hi:i<fs.length:=(cD.mp ef).1
     have same:∃(ns':List Int) (o1 o2 o3 o4:Option V),ns'.Nodup/\(∀y∈ns',1≤y/\y≤m)/\ns'.length≤i+1/\H' l=some (.lst (ns'.map V.int))/\H' lf=some (.lst (fs.map V.int))/\A4 H H'/\
       ([some (.int c),some (.int m),o1,some (.ref l),o2,o3,o4]:St)=[some (.int c),some (.int m),o1,some (.ref l),o2,o3,o4]:=⟨ns,o1,o2,o3,o4,p1,p2,by omega,p5,p6,p7,rfl⟩
     refine⟨_,rfl,_,_,rfl,rfl,_,rfl,?_⟩
     refine A9 (fun c2=>?_) (fun c2=>?_)
     ·have c3:=z0F c2
      refine⟨_,rfl,_,rfl,l,_,rfl,.inl (SqL.of p5),rfl,z1X ns,_,rfl,?_⟩
      rw[if_pos rfl,z2B]
      refine A9 (fun c4=>?_) (fun c4=>?_)
      ·have c5:j∉ns:=fun z=>by rw[decide_eq_true z] at c4;exact absurd c4 bI
       refine⟨_,rfl,.inl ⟨rfl,_,SqL.of p5⟩,_,rfl,l,_,_,rfl,rfl,p5,z91 (n:=i) p4 (by omega),?_⟩
       refine⟨ns++[j],_,_,_,_,?_,fun y hy=>?_,by rw[bN,dO];omega,?_,?_,z1N p7 hl,rfl⟩
       ·rw[gT]
        exact⟨p1,cV.mpr ⟨dU,List.nodup_nil⟩,fun y hy z hz=>by rw[bA.mp hz];exact fun e=>c5 (e ▸ hy)⟩
       ·rcases bM.mp hy with h|h
        ·exact p2 y h
        ·rw[bA.mp h];omega
       ·rw[z02,bE];rfl
       ·rw[z0e nl];exact p6
      ·exact⟨ns,_,_,_,_,p1,p2,by omega,p5,p6,p7,rfl⟩
     ·refine C6 ?_
      exact⟨ns,_,_,_,_,p1,p2,by omega,p5,p6,p7,rfl⟩
   ·obtain⟨ns,o1,o2,o3,o4,p1,p2,p4,p5,p6,p7,rfl⟩:=hp
    rw[b8] at p4
    refine⟨_,rfl,l,ns,rfl,SqL.of p5,by omega,fun l2 ns2 hl2 perm srt=>?_⟩
    refine q l2 ns2 _ (p7.free hl2) (p7.trans (z01 hl2 _)) z02 (z9r srt (perm.nodup_iff.mpr p1)) (fun x hx=>p2 x (perm.mem_iff.mp hx)) ?_
    have:=perm.length_eq
    omega
def z0W(ns:List Int):List Int:=(upI 1 60).filter fun x=>decide (x∉ns) && decide (∃y∈ns,x<y)
theorem z0y{ns:List Int}{x:Int}:x∈z0W ns↔(1≤x/\x<1+60)/\x∉ns/\∃y∈ns,x<y:=by
 unfold z0W
 rw[bU,z17,bS,decide_eq_true_eq,decide_eq_true_eq]
 rfl
theorem z4q(ns:List Int):(z0W ns).Pairwise (· < ·):=(z1M 1 60).filter _
theorem z2m(ns:List Int):(z0W ns).length≤60:=by
 have h:=cF (fun x=>decide (x∉ns) && decide (∃y∈ns,x<y)) (upI 1 60)
 rw[z0M] at h
 exact h
theorem y2Z{ns:List Int}{m:Int}(hm:m∈ns)(B3:∀x∈ns,1≤x/\x≤60)(top:∀y∈ns,y≤m):(upI 1 (m+1-1).toNat).filter (fun x=>!decide (x∈ns))=z0W ns:=
 z2f ((z1M _ _).filter _) (z4q _) fun x=>by
  have hm':=B3 m hm
  rw[bU,z17,z0y,jD,decide_eq_false_iff_not]
  constructor
  ·rintro⟨⟨a,b⟩,c⟩
   refine⟨by omega,c,m,hm,?_⟩
   have:x≠m:=fun e=>c (e ▸ hm)
   omega
  ·rintro⟨a,b,y,hy,c⟩
   have:=top y hy
   exact⟨by omega,b⟩
theorem y05:z0W []=[]:=by
 refine z2f (z4q _) .nil fun x=>?_
 rw[z0y]
 constructor
 ·rintro⟨_,_,y,hy,_⟩
  cases hy
 ·intro h
  cases h
theorem SqI.keep{K:PySem.W.Frag}{H H':Hp}{a:Addr}{ns:List Int}(e:A4 H H')(h:SqI K H a ns):SqI K H' a ns:=by
 rcases h with h|h
 ·exact .inl (e.seq h)
 ·rcases h with (h|⟨o,h⟩)|h
  ·exact .inr (.inl (.inl (e _ _ h)))
  ·exact .inr (.inl (.inr ⟨o,e _ _ h⟩))
  ·exact .inr (.inr h)
theorem z8k{c:Int->Bool}{t:Int}:∀{l:List Int},l.Pairwise (· < ·)->t∈l->c t=true->(∀y∈l,c y=true->t≤y)->l.find? c=some t
 | [],_,h,_,_=>by cases h
 | x::r,p,h,hc,hm=>by
  rw[dS] at p
  rw[dJ]
  rcases bB.mp h with rfl|h
  ·rw[hc]
  ·cases e:c x with
   | true=>
    have h1:=p.1 t h
    have h2:=hm x bQ e
    omega
   | false=>exact z8k p.2 h hc fun y hy=>hm y (bL _ hy)
theorem y3k{c:Int->Bool}{t:Int}:∀{l:List Int},l.Pairwise (· < ·)->l.find? c=some t->t∈l/\c t=true/\∀y∈l,c y=true->t≤y
 | [],_,h=>by cases h
 | x::r,p,h=>by
  rw[dS] at p
  rw[dJ] at h
  cases e:c x with
  | true=>
   rw[e] at h
   have h':x=t:=Option.some.inj h
   subst h'
   refine⟨bQ,e,fun y hy _=>?_⟩
   rcases bB.mp hy with rfl|hy
   ·exact dN _
   ·have:=p.1 y hy
    omega
  | false=>
   rw[e] at h
   obtain⟨h1,h2,h3⟩:=y3k p.2 h
   refine⟨bL _ h1,h2,fun y hy hc=>?_⟩
   rcases bB.mp hy with rfl|hy
   ·rw[e] at hc
    cases hc
   ·exact h3 y hy hc
def y0w(ns:List Int)(n r:Int)(y:Int):Bool:=decide (n<y) && decide (y-r≤n) && decide (y∈ns)
def z0E(ns:List Int)(n r:Int):Int:=((upI 1 60).find? (y0w ns n r)).getD 0
theorem z4f{ns:List Int}{n r y:Int}:y0w ns n r y=true↔n<y/\y-r≤n/\y∈ns:=by
 unfold y0w
 rw[bS,bS,decide_eq_true_eq,decide_eq_true_eq,decide_eq_true_eq,and_assoc]
theorem y1p{ns:List Int}{n r t:Int}(B3:∀x∈ns,1≤x/\x≤60)(ht:t∈ns)(h1:n<t)(h2:t-r≤n)(hm:∀y∈ns,n<y->y-r≤n->t≤y):z0E ns n r=t:=by
 unfold z0E
 rw[z8k (z1M 1 60) (t:=t) (z17.mpr (by have:=B3 t ht;omega)) (z4f.mpr ⟨h1,h2,ht⟩) fun y _ hy=>by
  obtain⟨a,b,c⟩:=z4f.mp hy
  exact hm y c a b]
 rfl
theorem z3x{ns:List Int}{n r:Int}(h:∀y∈ns,n<y->¬y-r≤n):z0E ns n r=0:=by
 unfold z0E
 have e:(upI 1 60).find? (y0w ns n r)=none:=fS.mpr fun y _ hy=>by
  obtain⟨a,b,c⟩:=z4f.mp hy
  exact h y c a b
 rw[e]
 rfl
def z7g(K:PySem.W.Frag):Sp:=fun vs H Q _=>∃(p:Addr) (ns:List Int) (n r:Int),vs=[.ref p,.int n,.int r]/\SqL K H p (ns.map V.int)/\(∀x∈ns,1≤x/\x≤60)/\ns.length≤900/\0≤r/\
 ∀H',A4 H H'->Q (.int (z0E ns n r)) H'
theorem y1R(M:Bl mg)(F:Fun K "_law_teller" "_law_teller" z4e f fd):A5 P w K mg base CX0 1 f fd z2Z (z7g K):=by
 have nd:=z5o.nd
 refine F.ok z5o (fun vs H Q E h=>?_) (fun cdv A outer s H vs Q E hr h=>?_)
 ·obtain⟨p,ns,n,r,rfl,_⟩:=h
  rfl
 obtain⟨p,ns,n,r,rfl,hS,B3,hlen,r0,q⟩:=h
 refine⟨_,(z04 (z4X (i:=3) ["_law_other"] ["_law_number"] [1] rfl nd rfl (Or.inl rfl) (z0u rfl (by decide +kernel) rfl (by decide +kernel) rfl rfl) (z18 (pv 0)) (fun _ _ _ _ _=>(z0j (i:=0) (show((["_law_other"]:List PySem.Str)++(["_law_number"]:List PySem.Str)).Nodup from by decide +kernel) rfl (Or.inl rfl))) (z0x (by decide)) z0d (fun _ _ _ _ _=>(z26 (z0c z2A (pv 0) (pv 1) (z0n _)))) (fun _ _ _ _ _=>(pv 0))) (z04 (z0N (PW.pt (z4v (z0c (y7w hr.T4) (pv 3) (z1j z03) (z0n _)) (z2P (z0c z2A (z0s z3r (z0b (z7Y rfl) rfl M.min fZ (z00 (pv 3) z03)) (pv 1)) (pv 2) (z0n _))))) (z05 (z0h z06)) z0p) (z05 (z0h (z0b (z7Y rfl) rfl M.min fZ (z00 (pv 3) z03)))))),?_⟩
 refine⟨_,rfl,p,rfl,⟨_,hS⟩,?_⟩
 refine y09 (ns:=ns) (fun y=>decide (n<y)) (fun y=>.int y) hS (by omega) (fun y ys N hy hN=>?_) (fun D hD=>?_)
 ·refine⟨_,rfl,_,rfl,_,_,rfl,rfl,_,rfl,?_⟩
  refine A9 (fun c=>?_) (fun c=>?_)
  ·rw[if_pos c] at hN
   exact⟨_,rfl,hN⟩
  ·rw[if_neg c] at hN
   exact hN
 have eD:upd H D (.lst (z2h (fun y=>decide (n<y)) (fun y=>V.int y) ns)) D=some (.lst ((ns.filter fun y=>decide (n<y)).map V.int)):=z02
 have sD:=z01 hD (.lst (z2h (fun y=>decide (n<y)) (fun y=>V.int y) ns))
 generalize upd H D (.lst (z2h (fun y=>decide (n<y)) (fun y=>V.int y) ns))=H1 at eD sD
 have mem:∀y,y∈ns.filter (fun y=>decide (n<y))↔y∈ns/\n<y:=fun y=>by rw[bU,decide_eq_true_eq]
 generalize ns.filter (fun y=>decide (n<y))=ab at eD mem
 refine⟨_,rfl,(by show 0≤sizeLine;decide),fun e0 he0=>⟨D,e0,_,rfl,rfl,SqL.of (z01 he0 _ _ _ eD),SqL.of z02,_,rfl,?_⟩⟩
 have s2:=sD.trans (z01 he0 (.lst []))
 cases ab with
 | nil=>
  refine N0 ?_
  have e:z0E ns n r=0:=z3x fun y hy h1 _=>by
   have:=(mem y).mpr ⟨hy,h1⟩
   cases this
  exact(by rw[<- e];exact q _ s2)
 | cons y0 yr=>
  refine C6 ?_
  have eL:=z01 he0 (.lst []) _ _ eD
  generalize upd H1 e0 (.lst [])=H2 at s2 eL
  refine⟨_,rfl,D,_,rfl,.inl (SqL.of eL),by simp,fun m hm hl=>⟨_,rfl,_,_,rfl,rfl,_,rfl,_,_,rfl,rfl,_,rfl,?_⟩⟩
  have hm':=(mem m).mp hm
  refine A9 (fun c=>?_) (fun c=>?_)
  ·have c':r<m-n:=z0F c
   have e:z0E ns n r=0:=z3x fun y hy h1 h2=>by
    have:=hl y ((mem y).mpr ⟨hy,h1⟩)
    omega
   exact(by rw[<- e];exact q _ s2)
  ·have c':¬r<m-n:=z3v c
   refine⟨_,rfl,D,_,rfl,.inl (SqL.of eL),by simp,fun m2 hm2 hl2=>?_⟩
   have h2:=(mem m2).mp hm2
   have e:z0E ns n r=m2:=y1p B3 h2.1 h2.2 (by have:=hl2 m hm;omega) fun y hy h1 _=>hl2 y ((mem y).mpr ⟨hy,h1⟩)
   exact(by rw[<- e];exact q _ s2)
def y5Z(K:PySem.W.Frag):Sp:=fun vs H Q _=>∃(r:Addr) (ns:List Int) (c:Int),vs=[.ref r,.int c]/\SqL K H r (ns.map V.int)/\ns.length≤60/\
 ∀(l:Addr) (ts:List Int) (H':Hp),H l=none->A4 H H'->H' l=some (.lst (ts.map V.int))->(∀x,x∈ts↔x∈ns)->ts.length≤2*ns.length->Q (.ref l) H'
theorem y4y(ts:List Int)(i:Nat)(x:Int):(ts.map V.int).take i++V.int x::(ts.map V.int).drop i=(ts.take i++x::ts.drop i).map V.int:=by
 rw[bE,cG,List.map_take,List.map_drop]
theorem y0J{ts:List Int}{i:Nat}{x y:Int}:y∈ts.take i++x::ts.drop i↔y=x\/y∈ts:=by
 rw[bM,bB]
 constructor
 ·rintro(h|h|h)
  ·exact .inr (gA h)
  ·exact .inl h
  ·exact .inr (List.mem_of_mem_drop h)
 ·rintro(h|h)
  ·exact .inr (.inl h)
  ·rw[<- List.take_append_drop i ts,bM] at h
   rcases h with h|h
   ·exact .inl h
   ·exact .inr (.inr h)
theorem y3z{ts:List Int}{i:Nat}{x:Int}(h:i≤ts.length):(ts.take i++x::ts.drop i).length=ts.length+1:=by
 rw[bN,bZ,bO,dQ]
 omega
theorem y6O(M:Bl mg)(F:Fun K "_law_shuffled" "_law_shuffled" z3f f fd)(B4:Cal P w K mg base 1 "_law_row" z2K y1O):A5 P w K mg base CX0 2 f fd z3l (y5Z K):=by
 have nd:=z3Y.nd
 refine F.ok z3Y (fun vs H Q E h=>?_) (fun cdv A outer s H vs Q E hr h=>?_)
 ·obtain⟨r,ns,c,rfl,_⟩:=h
  rfl
 obtain⟨r,ns,c,rfl,hS,hn,q⟩:=h
 refine⟨_,(z04 (z0l (i:=2) nd rfl (Or.inl rfl) (z0k B4 (rm hr) rfl (z00 (pv 1) (z00 (z0b z0a rfl M.len bP (z00 (pv 0) z03)) (z00 z06 z03))))) (z04 (z0l (i:=3) nd rfl (Or.inl rfl) (z1j z03)) (z04 (z1h cC rfl (z1Z rfl M.range (z00 (z0b z0a rfl M.len bP (z00 (pv 0) z03)) z03)) (z0j (i:=4) nd rfl (Or.inl rfl)) (z04 (z0C (z36 bY gJ PySem.F.type_list_insert y0k (pv 3) (z00 (z0s z0V (z0K z0R (pv 2) (pv 4) (fun _ _=>rfl)) (z0s z1D (pv 4) z06)) (z00 (z0K z0R (pv 0) (pv 4) (fun _ _=>rfl)) z03)))) (z05 (z0N (z0c y6B (z0K z0R (pv 2) (pv 4) (fun _ _=>rfl)) z06 (z0n _)) (z05 (z0C (z36 bY gJ PySem.F.type_list_insert y0k (pv 3) (z00 (z0s z0V (z0K z0R (pv 2) (pv 4) (fun _ _=>rfl)) (z0s z1D (pv 4) z06)) (z00 (z0K z0R (pv 0) (pv 4) (fun _ _=>rfl)) z03))))) z0p)))) (z05 (z0h (pv 3)))))),?_⟩
 have hl0:(ns.map V.int).length=ns.length:=b8 _
 refine⟨_,rfl,_,rfl,r,_,rfl,.inl hS,_,_,_,rfl,by omega,by omega,by decide,by decide,fun lf fs H1 nlf s1 e1 O7 all1=>?_⟩
 have w1j:fs.length=ns.length:=by rw[O7,hl0];rfl
 refine⟨(by show 0≤sizeLine;decide),fun l hl=>?_⟩
 have nl:lf≠l:=z0i e1 hl
 refine⟨_,rfl,r,_,rfl,.inl ((s1.trans (z01 hl _)).seq hS),_,rfl,by omega,by omega,?_⟩
 refine z2l (lo:=0) (n:=(((ns.map V.int).length:Nat):Int).toNat) (fun i σ H'=>∃(ts:List Int) (o:Option V),(∀x,x∈ts↔x∈ns.take i)/\i≤ts.length/\ts.length≤2*i/\H'=upd H1 l (.lst (ts.map V.int))/\
  σ=[some (.ref r),some (.int c),some (.ref lf),some (.ref l),o]) ⟨[],_,fun x=>j9,bC 0,bC 0,rfl,rfl⟩ (fun i σ H' hi hp=>?_) (fun σ H' hp=>?_)
 ·obtain⟨ts,o,hm,hlo,hhi,rfl,rfl⟩:=hp
  have hi':i<ns.length:=by
   have:(((ns.map V.int).length:Nat):Int).toNat=ns.length:=by rw[hl0];rfl
   omega
  have ei:(0:Int)+(i:Int)=(i:Int):=jK _
  have hif:(i:Int)<(fs.length:Int):=by omega
  have gs:∀o:HO,A4 H1 (upd H1 l o):=fun o=>z01 hl o
  have w06:∀{o:HO},SqL K (upd H1 l o) lf (fs.map V.int):=fun {o}=>SqL.of (gs o _ _ e1)
  have rget:∀{o:HO},SqL K (upd H1 l o) r (ns.map V.int):=fun {o}=>(s1.trans (gs o)).seq hS
  have atf:atI (fs.map V.int) ((0:Int)+(i:Int))=some (.int (fs.getD i 0)):=by
   rw[ei]
   exact z7j (ns:=fs) (k:=(i:Int)) (by omega) hif
  have atn:atI (ns.map V.int) ((0:Int)+(i:Int))=some (.int (ns.getD i 0)):=by
   rw[ei]
   exact z7j (ns:=ns) (k:=(i:Int)) (by omega) (by omega)
  have hget:ns[i]? = some (ns.getD i 0):=by
   rw[bJ,bD hi']
   rfl
  have hmem:∀x,x∈ns.take (i+1)↔x=ns.getD i 0\/x∈ns.take i:=fun x=>by
   rw[z0r hget,bM,bA]
   exact Or.comm
  have b1:0≤fs.getD i 0%((0:Int)+(i:Int)+1)/\fs.getD i 0%((0:Int)+(i:Int)+1)≤(i:Int):=by
   have:=cQ (fs.getD i 0) (show(0:Int)+(i:Int)+1≠0 by omega)
   have:=cK (fs.getD i 0) (show(0:Int)<(0:Int)+(i:Int)+1 by omega)
   omega
  have b2:0≤fs.getD i 0%((0:Int)+(i:Int)+2)/\fs.getD i 0%((0:Int)+(i:Int)+2)≤(i:Int)+1:=by
   have:=cQ (fs.getD i 0) (show(0:Int)+(i:Int)+2≠0 by omega)
   have:=cK (fs.getD i 0) (show(0:Int)<(0:Int)+(i:Int)+2 by omega)
   omega
  have hlen:(ts.map V.int).length=ts.length:=b8 _
  refine⟨_,rfl,.inl ⟨rfl,_,SqL.of z02⟩,_,rfl,_,rfl,lf,_,_,_,rfl,rfl,w06,atf,_,rfl,_,_,rfl,rfl,_,_,rfl,rfl,(by omega),_,rfl,_,rfl,r,_,_,_,rfl,rfl,rget,atn,l,_,_,_,rfl,rfl,z02,b1.1,by omega,z0f (by omega),?_⟩
  rw[z4M,y4y]
  have P2:=y3z (ts:=ts) (i:=(fs.getD i 0%((0:Int)+(i:Int)+1)).toNat) (x:=ns.getD i 0) (by omega)
  refine⟨_,rfl,_,rfl,lf,_,_,_,rfl,rfl,w06,atf,_,_,rfl,rfl,_,rfl,?_⟩
  refine A9 (fun _=>?_) (fun _=>?_)
  ·refine⟨_,rfl,.inl ⟨rfl,_,SqL.of z02⟩,_,rfl,_,rfl,lf,_,_,_,rfl,rfl,w06,atf,_,rfl,_,_,rfl,rfl,_,_,rfl,rfl,(by omega),_,rfl,_,rfl,r,_,_,_,rfl,rfl,rget,atn,l,_,_,_,rfl,rfl,z02,b2.1,?_,?_,?_⟩
   ·rw[b8,P2]
    omega
   ·rw[b8,P2]
    exact z0f (by omega)
   ·rw[z4M,y4y]
    have Y7:=y3z (ts:=ts.take (fs.getD i 0%((0:Int)+(i:Int)+1)).toNat++ns.getD i 0::ts.drop (fs.getD i 0%((0:Int)+(i:Int)+1)).toNat) (i:=(fs.getD i 0%((0:Int)+(i:Int)+2)).toNat) (x:=ns.getD i 0) (by rw[P2];omega)
    refine⟨_,_,fun x=>?_,?_,?_,rfl,rfl⟩
    ·rw[y0J,y0J,hmem,hm]
     constructor
     ·rintro(h|h|h)
      ·exact .inl h
      ·exact .inl h
      ·exact .inr h
     ·rintro(h|h)
      ·exact .inl h
      ·exact .inr (.inr h)
    ·rw[Y7,P2]
     omega
    ·rw[Y7,P2]
     omega
  ·refine⟨_,_,fun x=>?_,?_,?_,rfl,rfl⟩
   ·rw[y0J,hmem,hm]
   ·rw[P2]
    omega
   ·rw[P2]
    omega
 ·obtain⟨ts,o,hm,hlo,hhi,rfl,rfl⟩:=hp
  have e:(((ns.map V.int).length:Nat):Int).toNat=ns.length:=by rw[hl0];rfl
  rw[e] at hm hhi
  rw[bV] at hm
  exact⟨_,rfl,q l ts _ (s1.free hl) (s1.trans (z01 hl _)) z02 hm hhi⟩
def y4q:Sp:=fun vs H Q _=>∃i:Int,vs=[.int i]/\Q (.bl true) H
theorem y5q(M:Bl mg)(F:Fun K "_law_whole" "_law_whole" z5a f fd):A5 P w K mg base CX0 1 f fd z50 y4q:=by
 have nd:=z6I.nd
 refine F.ok z6I (fun vs H Q E h=>?_) (fun cdv A outer s H vs Q E hr h=>?_)
 ·obtain⟨i,rfl,_⟩:=h
  rfl
 obtain⟨i,rfl,q⟩:=h
 refine⟨_,(z05 (z0h (y5X (z0b z0T rfl M.isinstance cH (z00 (pv 0) (z00 (z2s (v:=.ty "int") rfl M.int hW rfl) z03))) (y5P (y7I (z0b z0T rfl M.isinstance cH (z00 (pv 0) (z00 (z2s (v:=.ty "bool") rfl M.bool gY rfl) z03)))))))),?_⟩
 have k2:=z4l (K:=K) "bool" (.inr (.inl rfl)) (x:=.int i) rfl
 have k3:=z4l (K:=K) "int" (.inr (.inr (.inl rfl))) (x:=.int i) rfl
 refine⟨_,rfl,_,_,_,_,rfl,.int i,k3,_,rfl,?_⟩
 refine N0 ⟨_,rfl,_,_,_,_,rfl,.int i,k2,?_⟩
 exact⟨_,rfl,q⟩
def sgL:List Nat:=(("mM ~aA0.xX_9":Str).cps.toList)
theorem y0F:sgL.length=12:=by decide +kernel
theorem y3N:sgL.Nodup:=by decide +kernel
abbrev W6:Str:="a stranger of twenty"
abbrev z8L:Str:="a long stem of them"
structure Nms(nm:List Str):Prop where
 nd:nm.Nodup
 lo:∀x∈nm,1≤x.length
 hi:∀x∈nm,x.length≤20
 far:W6∉nm
theorem y0U(a b:Str):(a++b).cps.toList=a.cps.toList++b.cps.toList:=by
 show(a.cps++b.cps).toList=_
 simp
theorem y6P(c:Nat):(⟨#[c]⟩:Str).cps.toList=[c]:=rfl
theorem z4c{α β:Type}{g:α->β}:∀{l:List α},l.Nodup->(∀x∈l,∀y∈l,g x=g y->x=y)->(l.map g).Nodup
 | [],_,_=>List.nodup_nil
 | x::r,n,h=>by
  rw[cV] at n
  rw[cG,cV]
  refine⟨fun hm=>?_,z4c n.2 fun a ha b hb=>h a (bL _ ha) b (bL _ hb)⟩
  obtain⟨y,hy,e⟩:=cB.mp hm
  have:=h x bQ y (bL _ hy) e.symm
  exact n.1 (this ▸ hy)
theorem y08(lo:Int)(n:Nat):(upI lo n).Nodup:=(z1M lo n).imp fun {a b} h=>by omega
theorem y1v{t a b:Int}(ht:0≤t)(ht2:t<12)(a0:0≤a)(a1:a<12)(b0:0≤b)(b1:b<12)(h:(t+a)%12=(t+b)%12):a=b:=by omega
def V9(c:Nat)(t k:Int):Str:=X0 ⟨#[c]⟩ (1+(t+k)%12).toNat
theorem z5z(c:Nat)(t k:Int):(V9 c t k).length=(1+(t+k)%12).toNat:=by
 unfold V9
 rw[<- z1B]
 show((List.replicate _ [c]).flatten.toArray).toList.length=_
 simp
theorem y6M(c:Nat){t:Int}(h0:0≤t)(h1:t<12){m:Nat}(hm:m≤12):Nms ((upI 0 m).map (V9 c t)) where
 nd:=z4c (y08 _ _) fun a ha b hb e=>by
  have ha':=z17.mp ha
  have hb':=z17.mp hb
  have e2:=congrArg Str.length e
  rw[z5z,z5z] at e2
  exact y1v h0 h1 (by omega) (by omega) (by omega) (by omega) (by omega)
 lo:=fun x hx=>by
  obtain⟨k,hk,rfl⟩:=cB.mp hx
  rw[z5z]
  omega
 hi:=fun x hx=>by
  obtain⟨k,hk,rfl⟩:=cB.mp hx
  rw[z5z]
  omega
 far:=fun hx=>by
  obtain⟨k,hk,e⟩:=cB.mp hx
  have e2:=congrArg Str.length e
  rw[z5z] at e2
  have e3:W6.length=20:=by decide +kernel
  omega
def z8R(st:Str)(sp:Int)(t k:Int):Str:=N8 st none (some sp)++⟨#[sgL.getD ((t+k)%12).toNat 0]⟩++N8 st (some sp) none
theorem y0W{n d:Nat}{v:Int}(h0:0≤v)(h1:v≤n):HT.sIx n d (some v)=v.toNat:=by
 show(if v<0 then (v+(n:Int)).toNat else min v.toNat n)=_
 rw[if_neg (by omega),j3 (by omega)]
theorem y5U(st:Str){sp:Int}(h0:0≤sp)(h1:sp≤st.length):(N8 st none (some sp)).cps.toList=st.cps.toList.take sp.toNat:=by
 show((st.cps.toList.drop 0).take (HT.sIx st.length st.length (some sp)-0))=_
 rw[y0W h0 h1,gP,jL]
theorem y6a(st:Str){sp:Int}(h0:0≤sp)(h1:sp≤st.length):(N8 st (some sp) none).cps.toList=st.cps.toList.drop sp.toNat:=by
 show((st.cps.toList.drop (HT.sIx st.length 0 (some sp))).take (st.length-HT.sIx st.length 0 (some sp)))=_
 rw[y0W h0 h1,cZ]
 rw[dQ,z1B]
 exact bC _
theorem z5v(st:Str){sp:Int}(h0:0≤sp)(h1:sp≤st.length)(t k:Int):(z8R st sp t k).cps.toList=st.cps.toList.take sp.toNat++sgL.getD ((t+k)%12).toNat 0::st.cps.toList.drop sp.toNat:=by
 unfold z8R
 rw[y0U,y0U,y5U st h0 h1,y6a st h0 h1,y6P,fX]
 rfl
theorem z7b(st:Str){sp:Int}(h0:0≤sp)(h1:sp≤st.length)(t k:Int):(z8R st sp t k).length=st.length+1:=by
 rw[<- z1B,z5v st h0 h1,bN,bZ,bO,dQ,z1B]
 omega
theorem y5t:∀s<20,∀i<12,z8L.cps.toList.take s++sgL.getD i 0::z8L.cps.toList.drop s≠W6.cps.toList:=by decide +kernel
theorem y4Q{st:Str}(hst:st=""\/st="row"\/st=z8L){sp:Int}(h0:0≤sp)(h1:sp≤st.length){t:Int}(t0:0≤t)(t1:t<12){m:Nat}(hm:m≤12):Nms ((upI 0 m).map (z8R st sp t)) where
 nd:=z4c (y08 _ _) fun a ha b hb e=>by
  have ha':=z17.mp ha
  have hb':=z17.mp hb
  have e2:(z8R st sp t a).cps.toList=(z8R st sp t b).cps.toList:=congrArg (fun z:Str=>z.cps.toList) e
  rw[z5v st h0 h1,z5v st h0 h1] at e2
  have e3:=List.append_cancel_left e2
  have e4:sgL.getD ((t+a)%12).toNat 0=sgL.getD ((t+b)%12).toNat 0:=(List.cons.inj e3).1
  have l1:((t+a)%12).toNat<sgL.length:=by rw[y0F];omega
  have l2:((t+b)%12).toNat<sgL.length:=by rw[y0F];omega
  rw[bJ,bD l1,bJ,bD l2] at e4
  have e5:=(List.getElem_inj y3N).mp e4
  exact y1v t0 t1 (by omega) (by omega) (by omega) (by omega) (by omega)
 lo:=fun x hx=>by
  obtain⟨k,hk,rfl⟩:=cB.mp hx
  rw[z7b st h0 h1]
  omega
 hi:=fun x hx=>by
  obtain⟨k,hk,rfl⟩:=cB.mp hx
  rw[z7b st h0 h1]
  have l1:("":Str).length=0:=by decide +kernel
  have l2:("row":Str).length=3:=by decide +kernel
  have l3:z8L.length=19:=by decide +kernel
  rcases hst with rfl|rfl|rfl<;>omega
 far:=fun hx=>by
  obtain⟨k,hk,e⟩:=cB.mp hx
  have l1:("":Str).length=0:=by decide +kernel
  have l2:("row":Str).length=3:=by decide +kernel
  have l3:z8L.length=19:=by decide +kernel
  have l4:W6.length=20:=by decide +kernel
  have e2:=congrArg Str.length e
  rw[z7b st h0 h1] at e2
  rcases hst with rfl|rfl|rfl
  ·omega
  ·omega
  ·have e3:(z8R z8L sp t k).cps.toList=W6.cps.toList:=congrArg (fun z:Str=>z.cps.toList) e
   rw[z5v z8L h0 h1] at e3
   exact y5t sp.toNat (by omega) ((t+k)%12).toNat (by omega) e3
def y2v:Sp:=fun vs H Q _=>∃c m:Int,vs=[.int c,.int m]/\0≤m/\m≤12/\
 ∀(l:Addr) (nm:List Str) (H':Hp),H l=none->A4 H H'->H' l=some (.lst (nm.map V.str))->nm.length=m.toNat->Nms nm->Q (.ref l) H'
theorem y1j{f:Int->V}(l:List Int):z2h (fun _=>true) f l=l.map f:=by
 unfold z2h
 rw[List.filter_eq_self.mpr fun _ _=>rfl]
theorem y4M(M:Bl mg)(F:Fun K "_law_named" "_law_named" z53 f fd):A5 P w K mg base CX0 1 f fd z4R y2v:=by
 have nd:=z6v.nd
 refine F.ok z6v (fun vs H Q E h=>?_) (fun cdv A outer s H vs Q E hr h=>?_)
 ·obtain⟨c,m,rfl,_⟩:=h
  rfl
 obtain⟨c,m,rfl,m0,m1,q⟩:=h
 refine⟨_,(z04 (z0l (i:=2) nd rfl (Or.inr rfl) z3R) (z04 (z0l (i:=3) nd rfl (Or.inr rfl) (z0s z0V (z0s z1l (pv 0) z06) z06)) (z04 (z0N (z0c z2r (z0s z0V (pv 0) z06) z06 (z0n _)) (z05 (z0h (z1i ["_law_k"] ["_law_cell","_law_turn"] [0,3] rfl (z0u rfl (by decide +kernel) rfl (by decide +kernel) rfl rfl) (z1Z rfl M.range (z00 (pv 1) z03)) (fun _ _ _ _ _=>(z0j (i:=0) (show((["_law_k"]:List PySem.Str)++(["_law_cell","_law_turn"]:List PySem.Str)).Nodup from by decide +kernel) rfl (Or.inl rfl))) (z0x (by decide)) z0d (fun _ _ _ _ _=>z1Y) (fun _ _ _ _ _=>(z0s y2f (z0K y2x z3R (z0s z0V (z0s z1l (pv 1) z06) z06) (fun _ _=>rfl)) (z0s z1D z06 (z0s z0V (z0s z1D (pv 2) (pv 0)) z06))))))) z0p) (z04 (z0l (i:=4) nd rfl (Or.inr rfl) (z0K z0R (z1j (z00 z3R (z00 z3R (z00 z3R z03)))) (z0s z0V (pv 0) z06) (fun _ _=>rfl))) (z04 (z0l (i:=5) nd rfl (Or.inr rfl) (z0s z0V (z0s z1l (pv 0) z06) (z0s z1D (z0b y01 rfl M.len bP (z00 (pv 4) z03)) z06))) (z05 (z0h (z1i ["_law_k"] ["_law_stem","_law_signs","_law_spot","_law_turn"] [4,2,5,3] rfl (z0u rfl (by decide +kernel) rfl (by decide +kernel) rfl rfl) (z1Z rfl M.range (z00 (pv 1) z03)) (fun _ _ _ _ _=>(z0j (i:=0) (show((["_law_k"]:List PySem.Str)++(["_law_stem","_law_signs","_law_spot","_law_turn"]:List PySem.Str)).Nodup from by decide +kernel) rfl (Or.inl rfl))) (z0x (by decide)) z0d (fun _ _ _ _ _=>z1Y) (fun _ _ _ _ _=>(z0s z8p (z0s z8p (z3N y69 (pv 1) z4V (z54 (pv 3))) (z0K y2x (pv 2) (z0s z0V (z0s z1D (pv 4) (pv 0)) z06) (fun _ _=>rfl))) (z3N y69 (pv 1) (z54 (pv 3)) z4V))))))))))),?_⟩
 have t0:0≤c / 4%12:=cQ _ (by decide)
 have t1:c / 4%12<12:=cK _ (by decide)
 refine⟨_,rfl,_,_,rfl,rfl,⟨by decide,by decide⟩,_,_,rfl,rfl,(by show(0:Int)<12;decide),?_⟩
 refine⟨_,rfl,_,_,rfl,rfl,(by show(0:Int)<4;decide),rfl,_,rfl,?_⟩
 refine A9 (fun _=>?_) (fun cn=>?_)
 ·obtain⟨sg,hsg⟩:∃sg,atI (("a ~":Str).cps.toList) (c / 48%3)=some sg:=by
   have h0:0≤c / 48%3:=cQ _ (by decide)
   have h1:c / 48%3<3:=cK _ (by decide)
   have ek:c / 48%3=(((c / 48%3).toNat:Nat):Int):=by omega
   have hl:(("a ~":Str).cps.toList).length=3:=by decide +kernel
   rw[ek]
   exact⟨_,z11 (bD (by rw[hl];omega))⟩
  refine⟨_,rfl,_,rfl,by omega,by omega,?_⟩
  refine z7y (lo:=0) (n:=m.toNat) (fun _=>true) (fun k=>.str (V9 sg (c / 4%12) k)) (by omega) (fun k ys N k0 k1 hN=>?_) ?_
  ·refine⟨_,rfl,_,_,rfl,rfl,⟨by decide,by decide⟩,_,_,rfl,rfl,(by show(0:Int)<3;decide),_,_,sg,rfl,rfl,(by decide +kernel),hsg,?_⟩
   refine⟨_,rfl,_,rfl,_,_,rfl,rfl,_,_,rfl,rfl,(by show(0:Int)<12;decide),_,_,rfl,rfl,_,_,rfl,rfl,?_,?_,?_,?_⟩
   ·have:=cQ (c / 4%12+k) (show(12:Int)≠0 by decide)
    omega
   ·have:=cK (c / 4%12+k) (show(0:Int)<12 by decide)
    omega
   ·show 1≤1000
    decide
   ·exact hN
  ·intro D hD
   rw[y1j]
   refine q D ((upI 0 m.toNat).map (V9 sg (c / 4%12))) _ hD (z01 hD _) ?_ (by rw[b8,z0M]) (y6M sg t0 t1 (by omega))
   rw[z02,eF]
   rfl
 ·have c4:c%4=0\/c%4=1\/c%4=2:=by
   have h1:=cQ c (show(4:Int)≠0 by decide)
   have h2:=cK c (show(0:Int)<4 by decide)
   have h3:c%4≠3:=fun e=>cn (decide_eq_true (congrArg V.int e))
   omega
  obtain⟨st,hat,hst⟩:∃st:Str,atI [V.str "",V.str "row",V.str "a long stem of them"] (c%4)=some (.str st)/\(st=""\/st="row"\/st=z8L):=by
   rcases c4 with e|e|e<;>rw[e]
   ·exact⟨_,rfl,.inl rfl⟩
   ·exact⟨_,rfl,.inr (.inl rfl)⟩
   ·exact⟨_,rfl,.inr (.inr rfl)⟩
  have stl:st.length≤19:=by
   have l1:("":Str).length=0:=by decide +kernel
   have l2:("row":Str).length=3:=by decide +kernel
   have l3:z8L.length=19:=by decide +kernel
   rcases hst with rfl|rfl|rfl<;>omega
  refine⟨(by show 3≤sizeLine;decide),fun p hp=>⟨_,rfl,_,_,rfl,rfl,(by show(0:Int)<4;decide),p,_,_,_,rfl,rfl,SqL.of z02,hat,?_⟩⟩
  refine⟨_,rfl,_,_,rfl,rfl,⟨by decide,by decide⟩,_,rfl,st,rfl,y0G (by omega),_,_,rfl,rfl,_,_,rfl,rfl,by omega,?_⟩
  have s0:0≤c / 48%((st.length:Int)+1):=cQ _ (by omega)
  have s1:c / 48%((st.length:Int)+1)≤(st.length:Int):=by
   have:=cK (c / 48) (show(0:Int)<(st.length:Int)+1 by omega)
   omega
  refine⟨_,rfl,_,rfl,by omega,by omega,?_⟩
  refine z7y (lo:=0) (n:=m.toNat) (fun _=>true) (fun k=>.str (z8R st (c / 48%((st.length:Int)+1)) (c / 4%12) k)) (by omega) (fun k ys N k0 k1 hN=>?_) ?_
  ·have i0:=cQ (c / 4%12+k) (show(12:Int)≠0 by decide)
   have i1:=cK (c / 4%12+k) (show(0:Int)<12 by decide)
   have hsg:atI (("mM ~aA0.xX_9":Str).cps.toList) ((c / 4%12+k)%12)=some (sgL.getD ((c / 4%12+k)%12).toNat 0):=by
    have ek:(c / 4%12+k)%12=((((c / 4%12+k)%12).toNat:Nat):Int):=by omega
    have l1:((c / 4%12+k)%12).toNat<sgL.length:=by rw[y0F];omega
    have q1:atI sgL ((((c / 4%12+k)%12).toNat:Nat):Int)=some (sgL.getD ((c / 4%12+k)%12).toNat 0):=z11 (by
     rw[bJ,bD l1]
     rfl)
    rw[<- ek] at q1
    exact q1
   have la:(N8 st none (some (c / 48%((st.length:Int)+1)))).length≤19:=by
    rw[<- z1B,y5U st s0 s1,bO,z1B]
    omega
   have lb:(N8 st (some (c / 48%((st.length:Int)+1))) none).length≤19:=by
    rw[<- z1B,y6a st s0 s1,dQ,z1B]
    omega
   have lc:∀(x:Nat),(⟨#[x]⟩:Str).length=1:=fun _=>rfl
   have lab:∀(x:Nat),(N8 st none (some (c / 48%((st.length:Int)+1)))++(⟨#[x]⟩:Str)).length≤20:=fun x=>by
    rw[<- z1B,y0U,bN,z1B,z1B,lc]
    omega
   refine⟨_,rfl,_,rfl,_,rfl,st,rfl,y0G (by omega),?_⟩
   refine⟨_,rfl,_,rfl,_,rfl,_,_,rfl,rfl,_,_,rfl,rfl,(by show(0:Int)<12;decide),_,_,_,rfl,rfl,(by decide +kernel),hsg,?_⟩
   refine⟨_,_,rfl,rfl,y0G (by rw[lc];omega),?_⟩
   refine⟨_,rfl,_,rfl,_,rfl,st,rfl,y0G (by omega),_,_,rfl,rfl,y0G (by have:=lab (sgL.getD ((c / 4%12+k)%12).toNat 0);omega),?_⟩
   exact hN
  ·intro D hD
   rw[y1j]
   refine q D ((upI 0 m.toNat).map (z8R st (c / 48%((st.length:Int)+1)) (c / 4%12))) _ ((z01 hp _).free hD) ((z01 hp _).trans (z01 hD _)) ?_ (by rw[b8,z0M]) (y4Q hst s0 s1 t0 t1 (by omega))
   rw[z02,eF]
   rfl
def z9v:Sp:=fun vs H Q _=>∃t:Int,vs=[.int t]/\0≤t/\t<1000000/\Q (.int (2^t.toNat)) H
theorem y20(M:Bl mg)(F:Fun K "_law_doubled" "_law_doubled" z3H f fd):A5 P w K mg base CX0 1 f fd z3O z9v:=by
 have nd:=z4A.nd
 refine F.ok z4A (fun vs H Q E h=>?_) (fun cdv A outer s H vs Q E hr h=>?_)
 ·obtain⟨t,rfl,_⟩:=h
  rfl
 obtain⟨t,rfl,t0,t1,q⟩:=h
 refine⟨_,(z04 (z0l (i:=1) nd rfl (Or.inl rfl) z06) (z04 (z1h cC rfl (z1Z rfl M.range (z00 (pv 0) z03)) (z0j (i:=2) nd rfl (Or.inl rfl)) (z05 (z0l (i:=1) nd rfl (Or.inl rfl) (z0s z6y (pv 1) z06)))) (z05 (z0h (pv 1))))),?_⟩
 refine⟨_,rfl,_,rfl,by omega,by omega,?_⟩
 refine z2l (lo:=0) (n:=t.toNat) (fun i σ H'=>H'=H/\∃o,σ=[some (.int t),some (.int (2^i)),o]) ⟨rfl,_,rfl⟩ (fun i σ H' hi hp=>?_) (fun σ H' hp=>?_)
 ·obtain⟨rfl,o,rfl⟩:=hp
  refine⟨_,rfl,_,_,rfl,rfl,.inr ⟨by decide,by decide⟩,rfl,some (.int (0+(i:Int))),?_⟩
  rw[Int.pow_succ]
  rfl
 ·obtain⟨rfl,o,rfl⟩:=hp
  exact⟨_,rfl,q⟩
def z9P(H:Hp)(l:Addr)(v:V)(s:List Str):Prop:=∃a,v=.ref a/\a≠l/\H a=some (.lst (s.map V.str))
theorem z9P.keep{H H':Hp}(g:A4 H H'){l:Addr}{v:V}{s:List Str}(h:z9P H l v s):z9P H' l v s:=let ⟨a,e,n,q⟩:=h;⟨a,e,n,g _ _ q⟩
theorem z9P.over{H:Hp}{l:Addr}{o:HO}{v:V}{s:List Str}(h:z9P H l v s):z9P (upd H l o) l v s:=let ⟨a,e,n,q⟩:=h;⟨a,e,n,by rw[z0e n];exact q⟩
abbrev z22(H:Hp)(l:Addr):List V->List (List Str)->Prop:=Paired (z9P H l)
theorem z22.keep{H H':Hp}(g:A4 H H'){l:Addr}:∀{xs:List V}{ss:List (List Str)},z22 H l xs ss->z22 H' l xs ss
 | _,_,.nil=>.nil
 | _,_,.cons r t=>.cons (r.keep g) (z22.keep g t)
theorem z22.over{H:Hp}{l:Addr}{o:HO}:∀{xs:List V}{ss:List (List Str)},z22 H l xs ss->z22 (upd H l o) l xs ss
 | _,_,.nil=>.nil
 | _,_,.cons r t=>.cons r.over (z22.over t)
theorem z22.len{H:Hp}{l:Addr}:∀{xs:List V}{ss:List (List Str)},z22 H l xs ss->xs.length=ss.length
 | _,_,.nil=>rfl
 | _,_,.cons _ t=>by rw[bZ,bZ,z22.len t]
theorem z22.get{H:Hp}{l:Addr}:∀{xs:List V}{ss:List (List Str)},z22 H l xs ss->∀(i:Nat) (s:List Str),ss[i]? = some s->∃v,xs[i]? = some v/\z9P H l v s
 | _,_,.nil,i,s,e=>by simp at e
 | _,_,.cons r t,0,s,e=>by
  simp at e
  subst e
  exact⟨_,rfl,r⟩
 | _,_,.cons r t,i+1,s,e=>by
  obtain⟨v,h1,h2⟩:=z22.get t i s (by simpa using e)
  exact⟨v,by simpa using h1,h2⟩
theorem z2V(ns:List Str):(ns.map V.str).all z21=true:=by
 rw[jI,jJ]
 intro x _
 rfl
theorem y6K{ns:List Str}{k:Int}(h0:0≤k)(h:k<(ns.length:Int)):∃x,ns[k.toNat]? = some x/\atI (ns.map V.str) k=some (.str x):=by
 have hk:k.toNat<ns.length:=by omega
 have ek:k=((k.toNat:Nat):Int):=by omega
 have q:atI (ns.map V.str) ((k.toNat:Nat):Int)=some (.str ns[k.toNat]):=z11 (by rw[bG,bD hk];rfl)
 rw[<- ek] at q
 exact⟨_,bD hk,q⟩
def y2B(K:PySem.W.Frag):Sp:=fun vs H Q _=>∃(ln:Addr) (nm:List Str) (c m:Int),vs=[.ref ln,.int c,.int m]/\SqL K H ln (nm.map V.str)/\1≤nm.length/\nm.length≤12/\0≤m/\m≤900/\
 ∀(l:Addr) (xs:List V) (ss:List (List Str)) (H':Hp),H l=none->A4 H H'->H' l=some (.lst xs)->z22 H' l xs ss->ss.length=m.toNat->(∀s∈ss,s.Sublist nm)->Q (.ref l) H'
theorem two_pow_le{n:Nat}(h:n≤12):(1:Int)≤2^n/\(2:Int)^n≤4096:=by
 have:∀k≤12,(1:Int)≤2^k/\(2:Int)^k≤4096:=by decide
 exact this n h
theorem y6E(M:Bl mg)(F:Fun K "_law_sets" "_law_sets" z65 f fd)(B4:Cal P w K mg base 1 "_law_row" z2K y1O)(J8:Cal P w K mg base 1 "_law_doubled" z3O z9v) :
  A5 P w K mg base CX0 2 f fd z4p (y2B K):=by
 have nd:=z7Q.nd
 refine F.ok z7Q (fun vs H Q E h=>?_) (fun cdv A outer s H vs Q E hr h=>?_)
 ·obtain⟨ln,nm,c,m,rfl,_⟩:=h
  rfl
 obtain⟨ln,nm,c,m,rfl,hS,n1,n2,m0,m1,q⟩:=h
 refine⟨_,(z04 (z0l (i:=3) nd rfl (Or.inl rfl) (z0k J8 (rm hr) rfl (z00 (z0b z0a rfl M.len bP (z00 (pv 0) z03)) z03))) (z04 (z0l (i:=4) nd rfl (Or.inl rfl) (z1j z03)) (z04 (z1h cC rfl (z18 (z0k B4 (rm hr) rfl (z00 (pv 1) (z00 (pv 2) (z00 (z0s z6y z06 (pv 3)) z03))))) (z0j (i:=5) nd rfl (Or.inl rfl)) (z04 (z0l (i:=6) nd rfl (Or.inl rfl) (z0s z0V (pv 5) (pv 3))) (z04 (z0l (i:=7) nd rfl (Or.inl rfl) (z1j z03)) (z04 (z1h cC rfl (z18 (pv 0)) (z0j (i:=8) nd rfl (Or.inl rfl)) (z04 (z0N (z0c z2r (z0s z0V (pv 6) z06) z06 (z0n _)) (z05 (z0C (z36 bY c7 cA z0O (pv 7) (z00 (pv 8) z03)))) z0p) (z05 (z0l (i:=6) nd rfl (Or.inl rfl) (z0s z1l (pv 6) z06))))) (z04 (z0N (z0c z2r (z0s z1l (pv 5) (pv 3)) z06 (z0n _)) (z05 (z0l (i:=7) nd rfl (Or.inl rfl) (z1j (z00 (z0K z0R (pv 0) (z0s z0V (pv 5) (z0b z0a rfl M.len bP (z00 (pv 0) z03))) (fun _ _=>rfl)) z03)))) z0p) (z04 (z0N (z0c z2r (z0s z1l (pv 5) (pv 3)) z06 (z0n _)) (z05 (z0l (i:=7) nd rfl (Or.inl rfl) (z1j z03))) z0p) (z04 (z0N (z0c z2r (z0s z1l (pv 5) (pv 3)) z06 (z0n _)) (z05 (z0l (i:=7) nd rfl (Or.inl rfl) (z0o z1v rfl M.list dD (z00 (pv 0) z03)))) z0p) (z05 (z0C (z36 bY c7 cA z0O (pv 4) (z00 (pv 7) z03))))))))))) (z05 (z0h (pv 4)))))),?_⟩
 have hl0:(nm.map V.str).length=nm.length:=b8 _
 refine⟨_,rfl,ln,_,rfl,.inl hS,_,rfl,by omega,by omega,?_⟩
 have pw:=two_pow_le n2
 rw[hl0]
 have ez:(2:Int)^(((nm.length:Nat):Int).toNat)=2^nm.length:=rfl
 rw[ez]
 generalize hz:(2:Int)^nm.length=z at pw ⊢
 refine⟨(by show 0≤sizeLine;decide),fun l hl=>?_⟩
 refine⟨_,rfl,_,rfl,_,rfl,_,_,rfl,rfl,.inl ⟨by decide,by decide⟩,c,m,4*z,rfl,m0,m1,by omega,by omega,fun lf fs H1 nlf s1 e1 O7 all1=>?_⟩
 have sl:=z01 (H:=H) hl (.lst [])
 have nl:lf≠l:=fun e=>by rw[e,z02] at nlf;cases nlf
 have el1:H1 l=some (.lst []):=s1 _ _ z02
 refine⟨lf,rfl,⟨_,SqL.of e1⟩,?_⟩
 refine z1m (xs:=fs.map V.int) (fun i σ H'=>∃(xs:List V) (ss:List (List Str)) (o1 o2 o3 o4:Option V),H' l=some (.lst xs)/\z22 H' l xs ss/\ss.length=i/\(∀s∈ss,s.Sublist nm)/\H' lf=some (.lst (fs.map V.int))/\A4 H H'/\
  σ=[some (.ref ln),some (.int c),some (.int m),some (.int z),some (.ref l),o1,o2,o3,o4]) ⟨[],[],_,_,_,_,el1,.nil,rfl,(fun _ h=>nomatch h),e1,sl.trans s1,rfl⟩ (fun i σ H' hi hp=>?_) (fun i x σ H' hx hp=>?_) (fun σ H' hp=>?_)
 ·obtain⟨xs,ss,o1,o2,o3,o4,_,_,_,_,h2,_⟩:=hp
  exact SqL.of h2
 ·obtain⟨xs,ss,o1,o2,o3,o4,p1,p2,p3,p4,p5,p6,rfl⟩:=hp
  rw[bG] at hx
  cases ef:fs[i]? with
  | none=>rw[ef] at hx;cases hx
  | some g=>
   rw[ef] at hx
   cases hx
   have hg:=all1 g (bR ef)
   have hi:i<fs.length:=(cD.mp ef).1
   have lx:=p2.len
   have cd:CDiv g z:=⟨by omega,by omega⟩
   refine⟨_,rfl,_,rfl,_,_,rfl,rfl,(by omega),?_⟩
   refine⟨(by show 0≤sizeLine;decide),fun a ha=>?_⟩
   have nal:a≠l:=fun e=>by rw[e,p1] at ha;cases ha
   have naf:a≠lf:=fun e=>by rw[e,p5] at ha;cases ha
   refine⟨_,rfl,ln,rfl,⟨_,(p6.trans (z01 ha _)).seq hS⟩,?_⟩
   refine z1m (xs:=nm.map V.str) (fun k σ H2=>∃(ch:List Str) (mk:Int) (o4:Option V),ch.Sublist (nm.take k)/\H2=upd H' a (.lst (ch.map V.str))/\
    σ=[some (.ref ln),some (.int c),some (.int m),some (.int z),some (.ref l),some (.int g),some (.int mk),some (.ref a),o4]) ⟨[],_,_,jE _,rfl,rfl⟩ (fun k σ H2 hk hp=>?_) (fun k y σ H2 hy hp=>?_) (fun σ H2 hp=>?_)
   ·obtain⟨ch,mk,o4,_,rfl,_⟩:=hp
    exact(p6.trans (z01 ha _)).seq hS
   ·obtain⟨ch,mk,o4,hch,rfl,rfl⟩:=hp
    rw[bG] at hy
    cases en:nm[k]? with
    | none=>rw[en] at hy;cases hy
    | some nk=>
     rw[en] at hy
     cases hy
     have tk:=z0r en
     have hcl:ch.length≤12:=by
      have:=hch.length_le
      rw[bO] at this
      omega
     refine⟨_,rfl,_,_,rfl,rfl,(by show(0:Int)<2;decide),rfl,_,rfl,?_⟩
     refine A9 (fun _=>?_) (fun _=>?_)
     ·refine⟨_,rfl,.inl ⟨rfl,_,SqL.of z02⟩,_,rfl,a,_,_,rfl,rfl,z02,z0f (by rw[b8];omega),?_⟩
      refine⟨_,rfl,_,_,rfl,rfl,⟨by decide,by decide⟩,ch++[nk],_,some (.str nk),?_,?_,rfl⟩
      ·rw[tk]
       exact hch.append (jE _)
      ·rw[z4M,bE]
       rfl
     ·refine⟨_,rfl,_,_,rfl,rfl,⟨by decide,by decide⟩,ch,_,some (.str nk),?_,rfl,rfl⟩
      rw[tk]
      exact hch.trans (List.sublist_append_left _ _)
   ·obtain⟨ch,mk,o4,hch,rfl,rfl⟩:=hp
    rw[b8,bV] at hch
    have fin:∀(b:Addr) (cs:List Str) (H3:Hp) (o2 o4:Option V),cs.Sublist nm->b≠l->H3 b=some (.lst (cs.map V.str))->A4 (upd H' a (.lst (ch.map V.str))) H3->
      ∃(xs':List V) (ss':List (List Str)) (o1' o2' o3' o4':Option V),upd H3 l (.lst (xs++[.ref b])) l=some (.lst xs')/\z22 (upd H3 l (.lst (xs++[.ref b]))) l xs' ss'/\ss'.length=i+1/\(∀s∈ss',s.Sublist nm)/\
       upd H3 l (.lst (xs++[.ref b])) lf=some (.lst (fs.map V.int))/\A4 H (upd H3 l (.lst (xs++[.ref b])))/\
       ([some (.ref ln),some (.int c),some (.int m),some (.int z),some (.ref l),some (.int g),o2,some (.ref b),o4]:St)=[some (.ref ln),some (.int c),some (.int m),some (.int z),some (.ref l),o1',o2',o3',o4']:=by
     intro b cs H3 o2 o4 hcs hb hb3 g3
     have g4:A4 H' H3:=(z01 ha _).trans g3
     refine⟨_,ss++[cs],_,_,_,_,z02,?_,by rw[bN,p3];rfl,fun s' hs'=>?_,?_,z1N (p6.trans g4) hl,rfl⟩
     ·exact jA (p2.keep g4).over ⟨b,rfl,hb,by rw[z0e hb];exact hb3⟩
     ·rcases bM.mp hs' with h|h
      ·exact p4 s' h
      ·rw[bA.mp h]
       exact hcs
     ·rw[z0e nl]
      exact g4 _ _ p5
    have el:∀{H3:Hp},A4 (upd H' a (.lst (ch.map V.str))) H3->H3 l=some (.lst xs):=fun {H3} g3=>g3 _ _ ((z01 ha _) _ _ p1)
    have app:∀{H3:Hp},A4 (upd H' a (.lst (ch.map V.str))) H3->xs.length<sizeLine:=fun _=>z0f (by omega)
    refine⟨_,rfl,_,rfl,_,_,rfl,rfl,cd,rfl,_,rfl,?_⟩
    refine A9 (fun d1=>?_) (fun d1=>?_)
    ·obtain⟨x1,hx1,ax1⟩:=y6K (ns:=nm) (k:=g%(((nm.map V.str).length:Nat):Int)) (cQ _ (by omega)) (by rw[hl0];exact cK _ (by omega))
     have q1:g / z=1:=V.int.inj (z0F d1)
     refine⟨_,rfl,_,rfl,_,rfl,ln,_,rfl,.inl ((p6.trans (z01 ha _)).seq hS),_,_,rfl,rfl,(by rw[hl0];omega),ln,_,_,_,rfl,rfl,(p6.trans (z01 ha _)).seq hS,ax1,(by show 1≤sizeLine;decide),fun b1 hb1=>?_⟩
     have g1:=z01 hb1 (.lst [.str x1])
     have sub1:[x1].Sublist nm:=List.singleton_sublist.mpr (bR hx1)
     refine⟨_,rfl,_,rfl,_,_,rfl,rfl,cd,rfl,_,rfl,?_⟩
     refine A9 (fun d=>absurd (show g / z=2 from V.int.inj (z0F d)) (by omega)) (fun _=>⟨_,rfl,_,rfl,_,_,rfl,rfl,cd,rfl,_,rfl,?_⟩)
     refine A9 (fun d=>absurd (show g / z=3 from V.int.inj (z0F d)) (by omega)) (fun _=>?_)
     refine⟨_,rfl,.inl ⟨rfl,_,SqL.of (el g1)⟩,_,rfl,l,_,_,rfl,rfl,el g1,app g1,?_⟩
     exact fin b1 [x1] _ _ _ sub1 (fun e=>by rw[e,(z01 ha (.lst (ch.map V.str))) _ _ p1] at hb1;cases hb1) z02 g1
    ·refine⟨_,rfl,_,rfl,_,_,rfl,rfl,cd,rfl,_,rfl,?_⟩
     refine A9 (fun d2=>?_) (fun d2=>?_)
     ·have q2:g / z=2:=V.int.inj (z0F d2)
      refine⟨(by show 0≤sizeLine;decide),fun b1 hb1=>?_⟩
      have g1:=z01 hb1 (.lst [])
      refine⟨_,rfl,_,rfl,_,_,rfl,rfl,cd,rfl,_,rfl,?_⟩
      refine A9 (fun d=>absurd (show g / z=3 from V.int.inj (z0F d)) (by omega)) (fun _=>?_)
      refine⟨_,rfl,.inl ⟨rfl,_,SqL.of (el g1)⟩,_,rfl,l,_,_,rfl,rfl,el g1,app g1,?_⟩
      exact fin b1 [] _ _ _ (List.nil_sublist _) (fun e=>by rw[e,(z01 ha (.lst (ch.map V.str))) _ _ p1] at hb1;cases hb1) z02 g1
     ·refine⟨_,rfl,_,rfl,_,_,rfl,rfl,cd,rfl,_,rfl,?_⟩
      refine A9 (fun d3=>?_) (fun d3=>?_)
      ·refine⟨_,rfl,ln,_,rfl,.inl ((p6.trans (z01 ha _)).seq hS),fun b1 hb1=>?_⟩
       have g1:=z01 hb1 (.lst (nm.map V.str))
       refine⟨_,rfl,.inl ⟨rfl,_,SqL.of (el g1)⟩,_,rfl,l,_,_,rfl,rfl,el g1,app g1,?_⟩
       exact fin b1 nm _ _ _ (jE _) (fun e=>by rw[e,(z01 ha (.lst (ch.map V.str))) _ _ p1] at hb1;cases hb1) z02 g1
      ·refine⟨_,rfl,.inl ⟨rfl,_,SqL.of (el (A4.refl _))⟩,_,rfl,l,_,_,rfl,rfl,el (A4.refl _),app (A4.refl _),?_⟩
       exact fin a ch _ _ _ hch nal z02 (A4.refl _)
 ·obtain⟨xs,ss,o1,o2,o3,o4,p1,p2,p3,p4,p5,p6,rfl⟩:=hp
  rw[b8] at p3
  exact⟨_,rfl,q l xs ss _ hl p6 p1 p2 (by rw[p3,O7]) p4⟩
abbrev Row:=List (Str×Int)
def z8T(p:Str×Int):DV:=.tup [.str p.1,.int p.2]
def K4(r:Row):DV:=.tup (r.map z8T)
theorem y4w{H:Hp}{a:Addr}{x:Str}{z:Int}(h:H a=some (.tup [.str x,.int z])):A7 H (z8T (x,z)) (.ref a):=z0A h (by show 2≤1000000;decide) (.cons (z2E x) (.cons (z0H z) .nil))
theorem y68{xs:List V}:∀ys,HO.lst xs≠.tup ys:=fun _ e=>by cases e
def y3A:Sp:=fun vs H Q _=>∃g p:Int,vs=[.int g,.int p]/\∀r,0≤r->r≤1000000->Q (.int r) H
theorem y51(F:Fun K "_law_value" "_law_value" z4U f fd):A5 P w K mg base CX0 1 f fd z58 y3A:=by
 have nd:=z6i.nd
 refine F.ok z6i (fun vs H Q E h=>?_) (fun cdv A outer s H vs Q E hr h=>?_)
 ·obtain⟨g,p,rfl,_⟩:=h
  rfl
 obtain⟨g,p,rfl,q⟩:=h
 refine⟨_,(z04 (z0N (z0c z2r (z0s z1l (pv 0) z06) z06 (z0n _)) (z05 (z0h (z0s z0V (z0s z1D (pv 0) (z0s z6y z06 (pv 1))) z06))) z0p) (z04 (z0N (z0c z2r (z0s z1l (pv 0) z06) z06 (z0n _)) (z05 (z0h (z0s z6y z06 (z0s z0V (z0s z1D (pv 0) (pv 1)) z06)))) z0p) (z05 (z0h (z0s z0V (z0s z1D (pv 0) (pv 1)) z06))))),?_⟩
 refine⟨_,rfl,_,_,rfl,rfl,⟨by decide,by decide⟩,rfl,_,rfl,?_⟩
 refine A9 (fun _=>?_) (fun _=>?_)
 ·refine⟨_,rfl,_,rfl,_,_,rfl,rfl,.inl ⟨by decide,by decide⟩,_,_,rfl,rfl,_,_,rfl,rfl,(by show(0:Int)<1000001;decide),?_⟩
  have h1:=cQ (g+7*p) (show(1000001:Int)≠0 by decide)
  have h2:=cK (g+7*p) (show(0:Int)<1000001 by decide)
  exact q _ h1 (by omega)
 ·refine⟨_,rfl,_,_,rfl,rfl,⟨by decide,by decide⟩,rfl,_,rfl,?_⟩
  have h1:=cQ (g+p) (show(2:Int)≠0 by decide)
  have h2:=cK (g+p) (show(0:Int)<2 by decide)
  refine A9 (fun _=>?_) (fun _=>?_)
  ·refine⟨_,rfl,_,rfl,_,_,rfl,rfl,_,_,rfl,rfl,(by show(0:Int)<2;decide),_,_,rfl,rfl,.inl ⟨by decide,by decide⟩,?_⟩
   exact q _ (by omega) (by omega)
  ·refine⟨_,rfl,_,rfl,_,_,rfl,rfl,_,_,rfl,rfl,(by show(0:Int)<2;decide),?_⟩
   exact q _ h1 (by omega)
structure Rws(nm:List Str)(rows:List Row):Prop where
 sub:∀r∈rows,(r.map Prod.fst).Sublist nm
 val:∀r∈rows,∀p∈r,0≤p.2/\p.2≤1000000
def z8S:Sp:=fun vs H Q _=>∃(l:Addr) (xs:List V) (ss:List (List Str)) (c:Int),vs=[.ref l,.int c]/\H l=some (.lst xs)/\z22 H l xs ss/\ss.length≤900/\(∀s∈ss,s.length≤12)/\
 ∀(lr:Addr) (us:List V) (rows:List Row) (H':Hp),H lr=none->A4 H H'->H' lr=some (.lst us)->z08 H' (rows.map K4) us->rows.map (fun r=>r.map Prod.fst)=ss->(∀r∈rows,∀p∈r,0≤p.2/\p.2≤1000000)->Q (.ref lr) H'
theorem y44(M:Bl mg)(F:Fun K "_law_valued" "_law_valued" z42 f fd)(B4:Cal P w K mg base 1 "_law_row" z2K y1O)(K6:Cal P w K mg base 1 "_law_value" z58 y3A) :
  A5 P w K mg base CX0 2 f fd z2Y z8S:=by
 have nd:=z5F.nd
 refine F.ok z5F (fun vs H Q E h=>?_) (fun cdv A outer s H vs Q E hr h=>?_)
 ·obtain⟨l,xs,ss,c,rfl,_⟩:=h
  rfl
 obtain⟨l,xs,ss,c,rfl,hL,hSs,n0,n1,q⟩:=h
 refine⟨_,(z04 (z0l (i:=2) nd rfl (Or.inl rfl) (z0k B4 (rm hr) rfl (z00 (pv 1) (z00 (z0b z0a rfl M.len bP (z00 (pv 0) z03)) (z00 z06 z03))))) (z04 (z0l (i:=3) nd rfl (Or.inl rfl) (z1j z03)) (z04 (z1h cC rfl (z1Z rfl M.range (z00 (z0b z0a rfl M.len bP (z00 (pv 0) z03)) z03)) (z0j (i:=4) nd rfl (Or.inl rfl)) (z04 (z0l (i:=5) nd rfl (Or.inl rfl) (z1j z03)) (z04 (z1h cC rfl (z1Z rfl M.range (z00 (z0b z0a rfl M.len bP (z00 (z0K z0R (pv 0) (pv 4) (fun _ _=>rfl)) z03)) z03)) (z0j (i:=6) nd rfl (Or.inl rfl)) (z05 (z0C (z36 bY c7 cA z0O (pv 5) (z00 (z1b (z00 (z0K z0R (z0K z0R (pv 0) (pv 4) (fun _ _=>rfl)) (pv 6) (fun _ _=>rfl)) (z00 (z0k K6 (rm hr) rfl (z00 (z0K z0R (pv 2) (pv 4) (fun _ _=>rfl)) (z00 (pv 6) z03))) z03))) z03))))) (z05 (z0C (z36 bY c7 cA z0O (pv 3) (z00 (z0o z0t rfl M.tuple bT (z00 (pv 5) z03)) z03))))))) (z05 (z0h (pv 3)))))),?_⟩
 have hl0:=hSs.len
 refine⟨_,rfl,_,rfl,l,_,rfl,.inl (SqL.of hL),_,_,_,rfl,by omega,by omega,by decide,by decide,fun lf fs H1 nlf s1 e1 O7 all1=>?_⟩
 have w1j:fs.length=ss.length:=by rw[O7,hl0];rfl
 refine⟨(by show 0≤sizeLine;decide),fun lr hlr=>?_⟩
 have nr:lf≠lr:=z0i e1 hlr
 have nlr0:H lr=none:=s1.free hlr
 refine⟨_,rfl,l,_,rfl,.inl (SqL.of ((s1.trans (z01 hlr _)) _ _ hL)),_,rfl,by omega,by omega,?_⟩
 refine z2l (lo:=0) (n:=((xs.length:Nat):Int).toNat) (fun i σ H'=>∃(us:List V) (rows:List Row) (o1 o2 o3:Option V),H' lr=some (.lst us)/\z08 H' (rows.map K4) us/\rows.map (fun r=>r.map Prod.fst)=ss.take i/\(∀r∈rows,∀p∈r,0≤p.2/\p.2≤1000000)/\A4 H1 H'/\
  σ=[some (.ref l),some (.int c),some (.ref lf),some (.ref lr),o1,o2,o3]) ⟨[],[],_,_,_,z02,.nil,rfl,(fun _ h=>nomatch h),z01 hlr _,rfl⟩ (fun i σ H' hi hp=>?_) (fun σ H' hp=>?_)
 ·obtain⟨us,rows,o1,o2,o3,p1,p2,p3,p4,p5,rfl⟩:=hp
  have hi':i<ss.length:=by
   have:((xs.length:Nat):Int).toNat=xs.length:=rfl
   omega
  have ei:(0:Int)+(i:Int)=(i:Int):=jK _
  have es:ss[i]? = some ss[i]:=bD hi'
  generalize ss[i]=sI at es
  have hsI:=n1 sI (bR es)
  obtain⟨v,hv,a,rfl,na,ha⟩:=hSs.get i sI es
  have lus:=p2.length
  rw[b8] at lus
  have lrows:rows.length=i:=by
   have:=congrArg List.length p3
   rw[b8,bO] at this
   omega
  have atv:atI xs ((0:Int)+(i:Int))=some (.ref a):=by rw[ei];exact z11 hv
  have gl:∀{H2:Hp},A4 H' H2->H2 l=some (.lst xs)/\H2 a=some (.lst (sI.map V.str))/\H2 lf=some (.lst (fs.map V.int)):=fun {H2} g=>⟨(s1.trans (p5.trans g)) _ _ hL,(s1.trans (p5.trans g)) _ _ ha,(p5.trans g) _ _ e1⟩
  refine⟨(by show 0≤sizeLine;decide),fun lo hlo=>?_⟩
  have go:=z01 (H:=H') hlo (.lst [])
  refine⟨_,rfl,_,rfl,l,_,_,_,rfl,rfl,SqL.of (gl go).1,atv,a,_,rfl,.inl (SqL.of (gl go).2.1),_,rfl,by omega,by rw[b8];omega,?_⟩
  have hls:(sI.map V.str).length=sI.length:=b8 _
  refine z2l (lo:=0) (n:=(((sI.map V.str).length:Nat):Int).toNat) (fun j σ H2=>∃(zs:List V) (row:Row) (o3:Option V),H2 lo=some (.lst zs)/\z08 H2 (row.map z8T) zs/\row.map Prod.fst=sI.take j/\(∀p∈row,0≤p.2/\p.2≤1000000)/\A4 H' H2/\
   σ=[some (.ref l),some (.int c),some (.ref lf),some (.ref lr),some (.int (0+(i:Int))),some (.ref lo),o3]) ⟨[],[],_,z02,.nil,rfl,(fun _ h=>nomatch h),go,rfl⟩ (fun j σ H2 hj hp=>?_) (fun σ H2 hp=>?_)
  ·obtain⟨zs,row,o3,r1,r2,r3,r4,r5,rfl⟩:=hp
   have hj':j<sI.length:=by
    have:(((sI.map V.str).length:Nat):Int).toNat=sI.length:=by rw[hls];rfl
    omega
   have ej:(0:Int)+(j:Int)=(j:Int):=jK _
   have ex:sI[j]? = some sI[j]:=bD hj'
   generalize sI[j]=x at ex
   have atx:atI (sI.map V.str) ((0:Int)+(j:Int))=some (.str x):=by
    rw[ej]
    exact z11 (by rw[bG,ex];rfl)
   have atf:atI (fs.map V.int) ((0:Int)+(i:Int))=some (.int (fs.getD i 0)):=by
    rw[ei]
    exact z7j (ns:=fs) (k:=(i:Int)) (by omega) (by omega)
   have lrow:row.length=j:=by
    have:=congrArg List.length r3
    rw[b8,bO] at this
    omega
   have lz:=r2.length
   rw[b8] at lz
   refine⟨_,rfl,.inl ⟨rfl,_,SqL.of r1⟩,_,rfl,_,rfl,l,_,_,_,rfl,rfl,SqL.of (gl r5).1,atv,_,rfl,a,_,_,_,rfl,rfl,SqL.of (gl r5).2.1,atx,?_⟩
   refine⟨_,rfl,_,rfl,lf,_,_,_,rfl,rfl,SqL.of (gl r5).2.2,atf,_,rfl,_,_,rfl,fun z z0 z1=>⟨(by show 2≤sizeLine;decide),fun t ht=>?_⟩⟩
   have gt:=z01 (H:=H2) ht (.tup [.str x,.int z])
   refine⟨lo,zs,_,rfl,rfl,gt _ _ r1,z0f (by omega),?_⟩
   refine⟨_,row++[(x,z)],some (.int (0+(j:Int))),z02,?_,?_,fun p hp=>?_,z1N (r5.trans gt) hlo,rfl⟩
   ·rw[bE]
    exact z08.over (gt _ _ r1) y68 _ _ (z08.snoc (z08.keep gt _ _ r2) (y4w z02))
   ·rw[bE,r3,z0r ex]
    rfl
   ·rcases bM.mp hp with h|h
    ·exact r4 p h
    ·rw[bA.mp h]
     exact⟨z0,z1⟩
  ·obtain⟨zs,row,o3,r1,r2,r3,r4,r5,rfl⟩:=hp
   have er:(((sI.map V.str).length:Nat):Int).toNat=sI.length:=by rw[hls];rfl
   rw[er,bV] at r3
   have lrow:row.length≤12:=by
    have:=congrArg List.length r3
    rw[b8] at this
    omega
   refine⟨_,rfl,.inl ⟨rfl,_,SqL.of (r5 _ _ p1)⟩,_,rfl,lo,_,rfl,.inl ⟨SqL.of r1,fun t ht=>?_⟩⟩
   have gt:=z01 (H:=H2) ht (.tup zs)
   have el:=(r5.trans gt) _ _ p1
   refine⟨lr,us,_,rfl,rfl,el,z0f (by omega),?_⟩
   refine⟨_,rows++[row],_,_,_,z02,?_,?_,fun r hr'=>?_,z1N (p5.trans (r5.trans gt)) hlr,rfl⟩
   ·rw[bE]
    refine z08.over el y68 _ _ (z08.snoc (z08.keep (r5.trans gt) _ _ p2) (z0A z02 ?_ (z08.keep gt _ _ r2)))
    rw[b8]
    omega
   ·rw[bE,p3,z0r es]
    exact congrArg (ss.take i++·) (congrArg (fun z=>[z]) r3)
   ·rcases bM.mp hr' with h|h
    ·exact p4 r h
    ·rw[bA.mp h]
     exact r4
 ·obtain⟨us,rows,o1,o2,o3,p1,p2,p3,p4,p5,rfl⟩:=hp
  have er:((xs.length:Nat):Int).toNat=ss.length:=by rw[hl0];rfl
  rw[er,bV] at p3
  exact⟨_,rfl,q lr us rows _ nlr0 (s1.trans p5) p1 p2 p3 p4⟩
def z9t(K:PySem.W.Frag):Sp:=fun vs H Q _=>∃(a ln:Addr) (ns:List Int) (nm:List Str),vs=[.ref a,.ref ln]/\SqL K H a (ns.map V.int)/\SqL K H ln (nm.map V.str)/\1≤nm.length/\nm.length≤12/\
 ∀(lr:Addr) (us:List V) (rows:List Row) (H':Hp),H lr=none->A4 H H'->H' lr=some (.lst us)->z08 H' (rows.map K4) us->rows.length≤60->Rws nm rows->Q (.ref lr) H'
theorem y2d(F:Fun K "_law_numbers" "_law_numbers" z3M f fd)(C0:Cal P w K mg base 1 "_law_at" z6S (w0c K))(D8:Cal P w K mg base 1 "_law_pick" z4m y3Z)
  (E9:Cal P w K mg base 2 "_law_sets" z4p (y2B K)) (D0:Cal P w K mg base 2 "_law_valued" z2Y z8S):A5 P w K mg base CX0 3 f fd z3C (z9t K):=by
 have nd:=z4C.nd
 refine F.ok z4C (fun vs H Q E h=>?_) (fun cdv A outer s H vs Q E hr h=>?_)
 ·obtain⟨a,ln,ns,nm,rfl,_⟩:=h
  rfl
 obtain⟨a,ln,ns,nm,rfl,hS,hN,n1,n2,q⟩:=h
 refine⟨_,(z04 (z0l (i:=2) nd rfl (Or.inl rfl) (z0k D8 (rm hr) rfl (z00 (z0k C0 (rm hr) rfl (z00 (pv 0) (z00 z06 z03))) (z00 z06 z03)))) (z04 (z0l (i:=3) nd rfl (Or.inl rfl) (z0k E9 (rm hr) rfl (z00 (pv 1) (z00 (z0k C0 (rm hr) rfl (z00 (pv 0) (z00 z06 z03))) (z00 (pv 2) z03))))) (z05 (z0h (z0k D0 (rm hr) rfl (z00 (pv 3) (z00 (z0k C0 (rm hr) rfl (z00 (pv 0) (z00 z06 z03))) z03))))))),?_⟩
 refine⟨_,rfl,a,ns,1,rfl,hS,by decide,_,_,rfl,(by decide),fun r h0 h1=>?_⟩
 refine⟨_,rfl,_,rfl,a,ns,2,rfl,hS,by decide,_,rfl,ln,nm,_,r,rfl,hN,n1,n2,h0,by omega,fun l xs ss H1 nl g1 e1 st len sub=>?_⟩
 refine⟨_,rfl,_,rfl,a,ns,3,rfl,g1.seq hS,by decide,l,xs,ss,_,rfl,e1,st,by omega,fun s hs=>cO (sub s hs).length_le n2,fun lr us rows H2 nlr g2 e2 tl hm hv=>?_⟩
 refine q lr us rows H2 (g1.free nlr) (g1.trans g2) e2 tl ?_ ⟨fun r hr'=>?_,hv⟩
 ·have:=congrArg List.length hm
  rw[b8] at this
  omega
 ·have:r.map Prod.fst∈ss:=by rw[<- hm];exact gF hr'
  exact sub _ this
def Q6(s:List Str):DV:=.tup (s.map DV.str)
def dnI(hi:Int)(j:Nat):List Int:=(List.range j).map fun(k:Nat)=>hi-(k:Int)
theorem y46(hi:Int)(j:Nat):(dnI hi j).length=j:=by unfold dnI;rw[b8,dF]
theorem z8Z{hi:Int}{j:Nat}{x:Int}:x∈dnI hi j↔hi-j<x/\x≤hi:=by
 unfold dnI
 rw[cB]
 constructor
 ·rintro⟨k,hk,rfl⟩
  have:=eM.mp hk
  omega
 ·rintro⟨h1,h2⟩
  exact⟨(hi-x).toNat,eM.mpr (by omega),by omega⟩
def z1F(r:Row):List Str:=r.map Prod.fst
def z0z(rows:List Row)(n:Int):Row:=rows.getD (n-1).toNat []
def y1N(rows:List Row)(k:Int):DV:=.tup [.int k,Q6 (z1F (z0z rows k))]
def z5S(n r:Int):List Int:=(dnI (n-1) (n-1).toNat).filter fun k=>decide (n-k≤r)
def y5u(rows:List Row)(n r:Int):DV:=.tup ((z5S n r).map (y1N rows))
def z13(rows:List Row)(n r:Int):DV:=.tup [.int n,K4 (z0z rows n),y5u rows n r]
theorem z9w{H:Hp}{rows:List Row}{us:List V}(h:z08 H (rows.map K4) us){k:Int}(k0:1≤k)(k1:k≤rows.length):∃v,us[(k-1).toNat]? = some v/\atI us (k-1)=some v/\A7 H (K4 (z0z rows k)) v:=by
 have hk:(k-1).toNat<rows.length:=by omega
 obtain⟨v,e,t⟩:=h.get (k-1).toNat (K4 (z0z rows k)) (by
  unfold z0z
  rw[bG,bJ,bD hk]
  rfl)
 have ek:k-1=(((k-1).toNat:Nat):Int):=by omega
 exact⟨v,e,by rw[ek];exact z11 e,t⟩
theorem z4J{H:Hp}:∀{r:Row}{xs:List V},z08 H (r.map z8T) xs->∀(i:Nat) (x:V),xs[i]? = some x->∃(p:Str×Int) (a:Addr),r[i]? = some p/\x=.ref a/\H a=some (.tup [.str p.1,.int p.2]):=by
 intro r xs h i x e
 obtain⟨d,e1,t⟩:=h.at i x e
 rw[bG] at e1
 cases er:r[i]? with
 | none=>rw[er] at e1;cases e1
 | some p=>
  rw[er] at e1
  have e2:z8T p=d:=Option.some.inj e1
  subst e2
  obtain⟨a,ys,rfl,h1,_,h2⟩:=z0q t
  obtain⟨y1,r1,rfl,t1,h3⟩:=z09 h2
  obtain⟨y2,r2,rfl,t2,h4⟩:=z09 h3
  have:=z0G h4
  subst this
  rw[z2i t1,z0S t2] at h1
  exact⟨p,a,rfl,rfl,h1⟩
theorem y3s{rows:List Row}(h:∀w∈rows,w.length≤12)(k:Int):(z0z rows k).length≤12:=by
 unfold z0z
 rw[bJ]
 cases e:rows[(k-1).toNat]? with
 | none=>exact cR _
 | some w=>exact h w (bR e)
structure E4(zs:List Str):Prop where
 lo:1≤zs.length
 hi:zs.length≤12
 nd:zs.Nodup
def SqN(K:PySem.W.Frag)(H:Hp)(p:Addr)(zs:List Str):Prop:=SqL K H p (zs.map V.str)\/SqT K H p (zs.map V.str)
theorem SqN.keep{K:PySem.W.Frag}{H H':Hp}{p:Addr}{zs:List Str}(h:A4 H H')(x:SqN K H p zs):SqN K H' p zs:=x.imp (fun q=>h.seq q) fun q=>z6P h q
def z8v(K:PySem.W.Frag):Sp:=fun vs H Q _=>∃(p:Addr) (zs:List Str),vs=[.ref p]/\SqN K H p zs/\E4 zs/\∀H',A4 H H'->Q .non H'
theorem y0N(M:Bl mg)(F:Fun K "refuse_bad_names" "refuse_bad_names" z28 f fd):A5 P w K mg base CX0 1 f fd z2a (z8v K):=by
 have nd:=z2X.nd
 refine F.ok z2X (fun vs H Q E h=>?_) (fun cdv A outer s H vs Q E hr h=>?_)
 ·obtain⟨p,zs,rfl,_⟩:=h
  rfl
 ·obtain⟨p,zs,rfl,hp,g,k⟩:=h
  refine⟨_,(z04 (z0N (z0c z8P (z0b z0a rfl M.len bP (z00 (pv 0) z03)) z06 (z0n _)) (z05 z1s) z0p) (z04 (z0N (z0c z2A (z0b z0a rfl M.len bP (z00 (pv 0) z03)) (z2F rfl M.MOST_NAMES) (z0n _)) (z05 z1s) z0p) (z05 (z0N (z0c z86 (z0b z5y rfl M.len bP (z00 (z0o (z4y rfl) rfl M.set fB (z00 (pv 0) z03)) z03)) (z0b z0a rfl M.len bP (z00 (pv 0) z03)) (z0n _)) (z05 z1s) z0p)))),?_⟩
  have:=g.lo
  have:=g.hi
  have el:(zs.map V.str).length=zs.length:=b8 _
  refine⟨_,rfl,p,_,rfl,hp,_,_,rfl,rfl,_,rfl,A9 (fun q=>absurd (z0F q) (by omega)) fun _=>?_⟩
  refine⟨_,rfl,p,_,rfl,hp,_,_,rfl,rfl,_,rfl,A9 (fun q=>absurd (z0F q) (by omega)) fun _=>?_⟩
  refine⟨_,rfl,p,zs,rfl,hp,by omega,fun l hl=>⟨l,zs,rfl,z02,by omega,_,rfl,p,zs.map V.str,rfl,SqN.keep (z01 hl _) hp,rfl,_,rfl,?_⟩⟩
  refine y7P ?_ (k _ (z01 hl _))
  rw[y0E g.nd,el]
def z8D:Sp:=fun vs H Q _=>∃r:Int,vs=[.int r]/\0≤r/\r≤10/\Q .non H
theorem y0t(M:Bl mg)(F:Fun K "refuse_bad_reach" "refuse_bad_reach" z24 f fd):A5 P w K mg base CX0 1 f fd z25 z8D:=by
 have nd:=z2W.nd
 refine F.ok z2W (fun vs H Q E h=>?_) (fun cdv A outer s H vs Q E hr h=>?_)
 ·obtain⟨r,rfl,_⟩:=h
  rfl
 ·obtain⟨r,rfl,r0,r1,k⟩:=h
  refine⟨_,(z05 (z0N (PW.pt (z4v (z0c z8P (pv 0) z06 (z0n _)) (z2P (z0c z2A (pv 0) (z2F rfl M.MOST_REACH) (z0n _))))) (z05 z1s) z0p)),?_⟩
  refine⟨_,rfl,_,_,rfl,rfl,_,rfl,A9 (fun q=>absurd (z0F q) (by omega)) fun _=>?_⟩
  exact⟨_,rfl,_,_,rfl,rfl,_,rfl,A9 (fun q=>absurd (z0F q) (by omega)) fun _=>k⟩
def HdN(K:PySem.W.Frag)(H:Hp)(p:Addr)(zs:List Str):Prop:=SqL K H p (zs.map V.str)\/H p=some (.tup (zs.map V.str))
theorem HdN.sq{K:PySem.W.Frag}{H:Hp}{p:Addr}{zs:List Str}(h:HdN K H p zs):SqN K H p zs:=h.imp id SqT.of
theorem HdN.keep{K:PySem.W.Frag}{H H':Hp}{p:Addr}{zs:List Str}(s:A4 H H')(h:HdN K H p zs):HdN K H' p zs:=h.imp (fun q=>s.seq q) fun q=>s _ _ q
def z6e(K:PySem.W.Frag):Sp:=fun vs H Q _=>∃(p:Addr) (zs:List Str) (r:Int),vs=[.ref p,.int r]/\HdN K H p zs/\E4 zs/\0≤r/\r≤10/\∀(l:Addr) (H':Hp),A4 H H'->H' l=some (.tup (zs.map V.str))->Q (.ref l) H'
theorem y0s(M:Bl mg)(F:Fun K "bulletin_names" "bulletin_names" z2G f fd)(E2:Cal P w K mg base 1 "refuse_bad_names" z2a (z8v K))(E1:Cal P w K mg base 1 "refuse_bad_reach" z25 z8D) :
  A5 P w K mg base CX0 2 f fd z1V (z6e K):=by
 have nd:=z3Q.nd
 refine F.ok z3Q (fun vs H Q E h=>?_) (fun cdv A outer s H vs Q E hr h=>?_)
 ·obtain⟨p,zs,r,rfl,_⟩:=h
  rfl
 ·obtain⟨p,zs,r,rfl,hp,g,r0,r1,k⟩:=h
  refine⟨_,(z04 (z0C (z0k E2 (rm hr) rfl (z00 (pv 0) z03))) (z04 (z0C (z0k E1 (rm hr) rfl (z00 (pv 1) z03))) (z05 (z0h (z0o z0t rfl M.tuple bT (z00 (pv 0) z03)))))),?_⟩
  refine⟨_,rfl,p,zs,rfl,hp.sq,g,fun H1 s1=>⟨_,rfl,r,rfl,r0,r1,_,rfl,p,zs.map V.str,rfl,?_⟩⟩
  rcases hp.keep s1 with hq|hq
  ·exact .inl ⟨hq,fun l hl=>k l _ (s1.trans (z01 hl _)) z02⟩
  ·exact .inr ⟨SqT.of hq,k p _ s1 hq⟩
def z0v(fp:List Addr)(H H':Hp):Prop:=∀b o,H b=some o->b∉fp->H' b=some o
theorem z0v.of{fp:List Addr}{H H':Hp}(h:A4 H H'):z0v fp H H':=fun b o e _=>h b o e
def z5Y(H:Hp)(fp:List Addr):Prop:=∀b∈fp,∀xs,H b≠some (.tup xs)
mutual
theorem A7.but{fp:List Addr}{H H':Hp}(s:z0v fp H H')(n:z5Y H fp):∀(d:DV) (x:V),A7 H d x->A7 H' d x
 | .non,_,h=>by unfold A7 at h ⊢;exact h
 | .bl _,_,h=>by unfold A7 at h ⊢;exact h
 | .int _,_,h=>by unfold A7 at h ⊢;exact h
 | .str _,_,h=>by unfold A7 at h ⊢;exact h
 | .tup ds,_,h=>by
  unfold A7 at h ⊢
  obtain⟨a,xs,e,h1,h2,h3⟩:=h
  exact⟨a,xs,e,s _ _ h1 (fun m=>n a m xs h1),h2,z08.but s n ds xs h3⟩
theorem z08.but{fp:List Addr}{H H':Hp}(s:z0v fp H H')(n:z5Y H fp):∀(ds:List DV) (xs:List V),z08 H ds xs->z08 H' ds xs
 | [],_,h=>by unfold z08 at h ⊢;exact h
 | d::ds,_,h=>by
  unfold z08 at h ⊢
  obtain⟨x,r,e,h1,h2⟩:=h
  exact⟨x,r,e,A7.but s n d x h1,z08.but s n ds r h2⟩
end
theorem z9x{H:Hp}{x dx b:Addr}{o u v:HO}(nx:H x=none)(ndx:H dx=none)(h:H b=some o):upd (upd H dx u) x v b=some o:=by
 rw[z0e (z0i h nx),z0e (z0i h ndx)]
 exact h
theorem z80{H H1:Hp}{C x dx:Addr}(s:A4 H H1)(nx:H1 x=none)(ndx:H1 dx=none):A4 H (upd (upd H1 dx (.own x)) x (.ins C dx [])):=fun _ _ e=>z9x nx ndx (s _ _ e)
theorem z76{H H1 H2:Hp}{x:Addr}(b:z0v [x] H1 H2)(m:A4 H H1)(nx:H x=none):A4 H H2:=fun c o e=>b c o (m c o e) (by
 rw[bA]
 exact z0i e nx)
theorem z69{H H1:Hp}{x dx b:Addr}(m:A4 H H1)(nx:H x=none)(ndx:H dx=none)(h:b=x\/b=dx\/H1 b=none):H b=none:=by
 rcases h with rfl|rfl|h
 ·exact nx
 ·exact ndx
 ·exact m.free h
theorem y74{fp fp' fp2:List Addr}{H7 H' GW:Hp}(bt:z0v fp H7 H')(ff:∀b∈fp',b∈fp\/H7 b=none)(gW:A4 H' GW)(hf2:∀b∈fp2,b∈fp'\/GW b=none):∀b∈fp2,b∈fp\/H7 b=none:=fun b m=>(hf2 b m).elim (ff b) fun z=>by
 cases e:H7 b with
 | none=>exact .inr rfl
 | some o=>
  by_cases nb:b∈fp
  ·exact .inl nb
  ·rw[gW _ _ (bt b o e nb)] at z
   cases z
def z0g(had:List Int):List Int:=(upI 1 60).filter fun x=>decide (x∈had)
def V7(had:List Int):Int:=(z0g had).getLastD 0
def P8(had:List Int)(n:Int):List Int:=if n∈had then had else had++[n]
theorem y1e{had:List Int}{n x:Int}:x∈P8 had n↔x∈had\/x=n:=by
 unfold P8
 by_cases h:n∈had
 ·rw[if_pos h]
  exact⟨.inl,fun q=>q.elim id fun e=>e ▸ h⟩
 ·rw[if_neg h,bM,bA]
theorem z1n{had:List Int}{x:Int}:x∈z0g had↔(1≤x/\x<1+60)/\x∈had:=by
 unfold z0g
 rw[bU,z17,decide_eq_true_eq]
 rfl
theorem z1T(had:List Int):(z0g had).Pairwise (· < ·):=(z1M 1 60).filter _
theorem z2S(had:List Int):(z0g had).length≤60:=by
 have h:=cF (fun x=>decide (x∈had)) (upI 1 60)
 rw[z0M] at h
 exact h
theorem y2o{a b:List Int}(h:∀x,x∈a↔x∈b):z0g a=z0g b:=by
 unfold z0g
 congr 1
 funext x
 exact decide_eq_decide.mpr (h x)
theorem y0T{ns ms:List Int}(nd:ns.Nodup)(B3:∀x∈ns,1≤x/\x≤60)(hp:ms.Perm ns)(hs:ms.Pairwise (·≤·)):ms=z0g ns:=by
 have n2:ms.Nodup:=hp.nodup_iff.mpr nd
 have lt:ms.Pairwise (· < ·):=by
  have:=List.pairwise_and_iff.mpr ⟨hs,n2⟩
  exact this.imp fun h=>by
   have:=h.1
   have:=h.2
   omega
 refine z2f lt (z1T _) fun x=>?_
 rw[z1n,hp.mem_iff]
 exact⟨fun h=>⟨by have:=B3 x h;omega,h⟩,fun h=>h.2⟩
abbrev ShP:=Hp->Addr->List Addr->List Str->Int->(Int->DV)->List Int->Prop
structure S4(C:Addr)(ms:List Str)(Sh:ShP):Prop where
 ins:∀{H p fp zs r iss had},Sh H p fp zs r iss had->∃dx fs,H p=some (.ins C dx fs)/\∀m∈ms,fs.lookup m=none
 own:∀{H p fp zs r iss had},Sh H p fp zs r iss had->∀b∈fp,∃o,H b=some o/\∀xs,o≠.tup xs
 keep:∀{H H' p fp gp zs r iss had},Sh H p fp zs r iss had->z0v gp H H'->(∀b∈gp,b∉fp)->z5Y H gp->Sh H' p fp zs r iss had
theorem S4.same{C:Addr}{ms:List Str}{Sh:ShP}(O:S4 C ms Sh){H H':Hp}{p:Addr}{fp:List Addr}{zs:List Str}{r:Int}{iss:Int->DV}{had:List Int}(h:Sh H p fp zs r iss had)(s:A4 H H'):Sh H' p fp zs r iss had:=
 O.keep (gp:=[]) h (.of s) (fun _ q=>by cases q) fun _ q=>by cases q
theorem S4.S7{C:Addr}{ms:List Str}{Sh:ShP}(O:S4 C ms Sh){H:Hp}{p:Addr}{fp:List Addr}{zs:List Str}{r:Int}{iss:Int->DV}{had:List Int}(h:Sh H p fp zs r iss had):z5Y H fp:=fun b m xs e=>by
 obtain⟨o,e1,n⟩:=O.own h b m
 rw[e1] at e
 exact n xs (Option.some.inj e)
def y18(K:PySem.W.Frag)(C:Addr)(Sh:ShP):Sp:=fun vs H Q _=>∃(x dx pn:Addr) (zs:List Str) (r:Int),vs=[.ref x,.ref pn,.int r]/\H x=some (.ins C dx [])/\dx≠x/\H dx=some (.own x)/\HdN K H pn zs/\E4 zs/\0≤r/\r≤10/\
 ∀(fp:List Addr) (H':Hp),(∀b∈fp,b=x\/b=dx\/H b=none)->z0v [x] H H'->(∀iss,Sh H' x fp zs r iss [])->Q .non H'
def y7v(Sh:ShP):Sp:=fun vs H Q _=>∃(p:Addr) (v:V) (fp:List Addr) (zs:List Str) (r:Int) (iss:Int->DV) (had:List Int) (n:Int) (ds:List DV),vs=[.ref p,v]/\Sh H p fp zs r iss had/\A7 H (iss n) v/\iss n=.tup (.int n::ds)/\1≤n/\n≤60/\
 ∀(fp':List Addr) (H':Hp),(∀b∈fp',b∈fp\/H b=none)->z0v fp H H'->Sh H' p fp' zs r iss (P8 had n)->Q (.bl (decide (n∉had))) H'
def z6a(Sh:ShP):Sp:=fun vs H Q _=>∃(p:Addr) (fp:List Addr) (zs:List Str) (r:Int) (iss:Int->DV) (had:List Int),vs=[.ref p]/\Sh H p fp zs r iss had/\
 ∀(l:Addr) (H':Hp),A4 H H'->H' l=some (.tup ((z0g had).map V.int))->Q (.ref l) H'
def y1E(Sh:ShP):Sp:=fun vs H Q _=>∃(p:Addr) (fp:List Addr) (zs:List Str) (r:Int) (iss:Int->DV) (had:List Int),vs=[.ref p]/\Sh H p fp zs r iss had/\∀H',A4 H H'->Q (.int (V7 had)) H'
def ShD(K:PySem.W.Frag)(C:Addr):ShP:=fun H p fp zs r iss had=>∃(dx pn pd:Addr) (fs:List (Str×V)) (kvs:List (Key×V)),fp=[p,dx,pd]/\H p=some (.ins C dx fs)/\H dx=some (.own p)/\H pn=some (.tup (zs.map V.str))/\H pd=some (.dK kvs)/\
 fs.lookup ("names":Str)=some (V.ref pn)/\fs.lookup ("reach":Str)=some (V.int r)/\fs.lookup ("issues":Str)=some (V.ref pd)/\(∀m∈(["put","had","latest","rows_of","tail_of"]:List Str),fs.lookup m=none)/\
 kvs.map (·.1)=had.map Sum.inl/\had.Nodup/\(∀n∈had,1≤n/\n≤60)/\(∀n v,(Sum.inl n,v)∈kvs->A7 H (iss n) v)/\E4 zs/\0≤r/\r≤10
theorem ShD.ins{K:PySem.W.Frag}{C:Addr}{H:Hp}{p:Addr}{fp:List Addr}{zs:List Str}{r:Int}{iss:Int->DV}{had:List Int}(h:ShD K C H p fp zs r iss had):∃dx fs,H p=some (.ins C dx fs)/\∀m∈(["put","had","latest","rows_of","tail_of"]:List Str),fs.lookup m=none:=by
 obtain⟨dx,pn,pd,fs,kvs,e,h1,h2,h3,h4,l1,l2,l3,lm,_⟩:=h
 exact⟨dx,fs,h1,lm⟩
theorem F3{K:PySem.W.Frag}{C:Addr}:S4 C ["put","had","latest"] (ShD K C):=by
 refine⟨fun h=>?_,fun h b hb=>?_,fun h s out nt=>?_⟩
 ·obtain⟨dx,fs,h1,lm⟩:=ShD.ins h
  refine⟨dx,fs,h1,fun m hm=>lm m ?_⟩
  simp only[bB,dU,or_false] at hm ⊢
  rcases hm with h|h|h<;>simp[h]
 ·obtain⟨dx,pn,pd,fs,kvs,rfl,h1,h2,h3,h4,_⟩:=h
  rcases bB.mp hb with rfl|hb
  ·exact⟨_,h1,fun xs z=>by cases z⟩
  rcases bB.mp hb with rfl|hb
  ·exact⟨_,h2,fun xs z=>by cases z⟩
  rw[bA.mp hb]
  exact⟨_,h4,fun xs z=>by cases z⟩
 ·obtain⟨dx,pn,pd,fs,kvs,rfl,h1,h2,h3,h4,l1,l2,l3,lm,kk,nd,all,tl,g⟩:=h
  exact⟨dx,pn,pd,fs,kvs,rfl,s _ _ h1 (fun m=>out _ m (by simp)),s _ _ h2 (fun m=>out _ m (by simp)),s _ _ h3 (fun m=>nt _ m _ h3),s _ _ h4 (fun m=>out _ m (by simp)),l1,l2,l3,lm,kk,nd,all,fun n v hv=>A7.but s nt _ _ (tl n v hv),g⟩
theorem y48{A0:Addr}(M:Bl mg)(T:C7 K mg A0)(F:Fun K "__init__" "Shelf.__init__" z2H f fd)(C1:Cal P w K mg base 2 "bulletin_names" z1V (z6e K)) :
  A5 P w K mg base CX0 3 f fd z2Q (y18 K A0 (ShD K A0)):=by
 have nd:=z3T.nd
 refine F.ok z3T (fun vs H Q E h=>?_) (fun cdv A outer s H vs Q E hr h=>?_)
 ·obtain⟨x,dx,pn,zs,r,rfl,_⟩:=h
  rfl
 obtain⟨x,dx,pn,zs,r,rfl,hx,ne,hdx,hn,g,r0,r1,k⟩:=h
 refine⟨_,(z04 (z5s (pv 0) (z0k C1 (rm hr) rfl (z00 (pv 1) (z00 (pv 2) z03))) rfl) (z04 (z5s (pv 0) (pv 2) rfl) (z05 (z5s (pv 0) y5x rfl)))),?_⟩
 refine⟨_,rfl,_,rfl,pn,zs,r,rfl,hn,g,r0,r1,fun l H1 s1 e1=>?_⟩
 refine⟨_,rfl,x,A0,dx,[],rfl,s1 _ _ hx,T.cl,T.n_names,by decide,?_⟩
 have z1:=z1x "names" (.ref l) []
 have z2:=z1x "reach" (.int r) (F6 "names" (.ref l) [])
 have z0:([]:List (Str×V)).length=0:=rfl
 refine⟨_,rfl,_,rfl,x,A0,dx,_,rfl,z02,T.cl,T.n_reach,(by omega),?_⟩
 rw[z4M]
 intro pd hd
 have nx:x≠pd:=z0i z02 hd
 have ndd:dx≠pd:=z0i (show upd H1 x _ dx=some _ by rw[z0e ne];exact s1 _ _ hdx) hd
 have nl:l≠x:=z5h e1 (s1 _ _ hx) (fun z=>by cases z)
 have nlp:l≠pd:=z0i (show upd H1 x _ l=some _ by rw[z0e nl];exact e1) hd
 have dfr:H1 pd=none:=by rw[z0e (d6 nx)] at hd;exact hd
 refine⟨_,rfl,x,A0,dx,_,rfl,(by rw[z0e nx,z02]),T.cl,T.n_issues,(by omega),?_⟩
 refine k [x,dx,pd] _ (fun b hb=>?_) (fun b o e nb=>?_) (fun iss=>⟨dx,l,pd,_,[],rfl,z02,?_,?_,?_,?_,?_,?_,?_,rfl,.nil,fun _ q=>(nomatch q),fun _ _ q=>(nomatch q),g,r0,r1⟩)
 ·simp only[bB,dU,or_false] at hb
  rcases hb with rfl|rfl|rfl
  ·exact .inl rfl
  ·exact .inr (.inl rfl)
  ·exact .inr (.inr (s1.free dfr))
 ·rw[bA] at nb
  rw[z0e nb,z0e (z0i e (s1.free dfr)),z0e nb]
  exact s1 _ _ e
 ·rw[z0e ne,z0e ndd,z0e ne]
  exact s1 _ _ hdx
 ·rw[z0e nl,z0e nlp,z0e nl]
  exact e1
 ·rw[z0e (d6 nx),z02]
 ·rw[z0m,if_neg (by decide +kernel),z0m,if_neg (by decide +kernel),z0m,if_pos rfl]
 ·rw[z0m,if_neg (by decide +kernel),z0m,if_pos rfl]
 ·rw[z0m,if_pos rfl]
 ·intro m hm
  simp only[bB,dU,or_false] at hm
  rcases hm with rfl|rfl|rfl|rfl|rfl<;>rw[z0m,if_neg (by decide +kernel),z0m,if_neg (by decide +kernel),z0m,if_neg (by decide +kernel)]<;>rfl
theorem y7C{α:Type}[DecidableEq α]:∀{l1 l2:List α},l1.Nodup->(∀x∈l1,x∈l2)->l1.length≤l2.length
 | [],_,_,_=>cR _
 | x::r,l2,nd,sub=>by
  rw[cV] at nd
  have hx:=sub x bQ
  have:=y7C (l1:=r) (l2:=l2.erase x) nd.2 fun y hy=>(j5 (fun(e:y=x)=>nd.1 (e ▸ hy))).mpr (sub y (bL _ hy))
  rw[gL hx] at this
  have h0:=List.length_pos_of_mem hx
  rw[bZ]
  omega
theorem y3w{had:List Int}(nd:had.Nodup)(all:∀n∈had,1≤n/\n≤60):had.length≤60:=by
 have h:=y7C (l2:=upI 1 60) nd fun n hn=>z17.mpr (by have:=all n hn;omega)
 rw[z0M] at h
 exact h
theorem y0l{kvs:List (Key×V)}{had:List Int}(kk:kvs.map (·.1)=had.map Sum.inl)(n:Int):(J0 kvs (Sum.inl n)).isSome=decide (n∈had):=by
 rw[<- z6V]
 have e:(kvs.any fun kv=>decide (kv.1=Sum.inl n))=(kvs.map (·.1)).any fun k=>decide (k=Sum.inl n):=by rw[gM];rfl
 rw[e,kk,gM]
 by_cases h:n∈had
 ·rw[decide_eq_true h,hE]
  exact⟨n,h,decide_eq_true rfl⟩
 ·rw[decide_eq_false h,jC]
  intro m hm z
  have e:=of_decide_eq_true z
  cases e
  exact h hm
theorem y7h{A0:Addr}(M:Bl mg)(T:C7 K mg A0)(F:Fun K "put" "Shelf.put" z63 f fd):A5 P w K mg base CX0 1 f fd z5K (y7v (ShD K A0)):=by
 have nd:=z7L.nd
 refine F.ok z7L (fun vs H Q E h=>?_) (fun cdv A outer s H vs Q E hr h=>?_)
 ·obtain⟨p,v,fp,zs,r,iss,had,n,ds,rfl,_⟩:=h
  rfl
 obtain⟨p,v,fp,zs,r,iss,had,n,ds,rfl,sh,tv,en,n1,n2,k⟩:=h
 have hu:=y0y hr
 refine⟨_,(z04 (z0l (i:=2) nd rfl (Or.inl rfl) (z0K z0U (pv 1) z06 (fun _ _=>rfl))) (z04 (z0N (z8o (y49 hu (pv 2) (z0J (pv 0) rfl))) (z05 (z0h z5g)) z0p) (z04 (y6h hu (z0J (pv 0) rfl) (pv 2) (pv 1) rfl) (z05 (z0h z5g))))),?_⟩
 obtain⟨dx,pn,pd,fs,kvs,rfl,h1,h2,h3,h4,l1,l2,l3,lm,kk,ndh,all,tl,g,r0,r1⟩:=sh
 rw[en] at tv
 obtain⟨a,us,rfl,ea,_,tu⟩:=z0q tv
 obtain⟨x0,ur,rfl,t0,_⟩:=z09 tu
 cases z0S t0
 refine⟨_,rfl,a,_,_,_,rfl,rfl,SqT.of ea,z11 rfl,?_⟩
 refine⟨_,rfl,_,rfl,p,A0,dx,fs,_,rfl,h1,T.cl,T.n_issues,l3,pd,_,rfl,L8.k (k:=Sum.inl n) h4,?_⟩
 refine⟨_,rfl,?_⟩
 rw[y0l kk]
 have fr:∀b∈[p,dx,pd],∃o,H b=some o:=fun b hb=>by
  simp only[bB,dU,or_false] at hb
  rcases hb with rfl|rfl|rfl
  ·exact⟨_,h1⟩
  ·exact⟨_,h2⟩
  ·exact⟨_,h4⟩
 refine A9 (fun c=>?_) (fun c=>?_)
 ·have c':=z0F c
  have e:=k [p,dx,pd] H (fun b hb=>.inl hb) (fun b o e _=>e) ⟨dx,pn,pd,fs,kvs,rfl,h1,h2,h3,h4,l1,l2,l3,lm,by unfold P8;rw[if_pos c'];exact kk,by unfold P8;rw[if_pos c'];exact ndh,fun m hm=>?_,tl,g,r0,r1⟩
  ·rw[decide_eq_false (fun z=>z c')] at e
   exact e
  ·unfold P8 at hm
   rw[if_pos c'] at hm
   exact all m hm
 ·have c':=z3v c
  have lk:kvs.length≤60:=by
   have e2:=congrArg List.length kk
   rw[b8,b8] at e2
   have:=y3w ndh all
   omega
  have en':J0 kvs (Sum.inl n:Key)=none:=by
   have:=y0l kk n
   rw[decide_eq_false c'] at this
   cases e:J0 kvs (Sum.inl n:Key) with
   | none=>rfl
   | some v=>rw[e] at this;cases this
  refine⟨_,rfl,_,rfl,p,A0,dx,fs,_,rfl,h1,T.cl,T.n_issues,l3,_,rfl,pd,_,rfl,W8.k (k:=Sum.inl n) h4 (z0f (by omega)),?_⟩
  rw[y5s _ en']
  have np:p≠pd:=z5h h1 h4 (fun z=>by cases z)
  have nx:dx≠pd:=z5h h2 h4 (fun z=>by cases z)
  have nn:pn≠pd:=z5h h3 h4 (fun z=>by cases z)
  have e:=k [p,dx,pd] (upd H pd (.dK (kvs++[(Sum.inl n,.ref a)]))) (fun b hb=>.inl hb) (fun b o e nb=>by rw[z0e (fun z=>nb (by rw[z];simp))];exact e)
   ⟨dx,pn,pd,fs,_,rfl,by rw[z0e np];exact h1,by rw[z0e nx];exact h2,by rw[z0e nn];exact h3,z02,l1,l2,l3,lm,?_,?_,fun m hm=>?_,fun m v hv=>?_,g,r0,r1⟩
  ·rw[decide_eq_true c'] at e
   exact e
  ·unfold P8
   rw[if_neg c',bE,bE,kk]
   rfl
  ·unfold P8
   rw[if_neg c',gT]
   exact⟨ndh,by simp,fun x hx y hy z=>by rw[bA] at hy;subst hy;subst z;exact c' hx⟩
  ·rcases y1e.mp hm with h|rfl
   ·exact all m h
   ·omega
  ·refine A7.over h4 (fun _ z=>by cases z) _ _ ?_
   rcases bM.mp hv with h|h
   ·exact tl m v h
   ·rw[bA] at h
    cases h
    rw[en]
    exact tv
theorem y5j{A0:Addr}(M:Bl mg)(T:C7 K mg A0)(F:Fun K "had" "Shelf.had" z5L f fd):A5 P w K mg base CX0 1 f fd z27 (z6a (ShD K A0)):=by
 have nd:=z7K.nd
 refine F.ok z7K (fun vs H Q E h=>?_) (fun cdv A outer s H vs Q E hr h=>?_)
 ·obtain⟨p,fp,zs,r,iss,had,rfl,_⟩:=h
  rfl
 obtain⟨p,fp,zs,r,iss,had,rfl,sh,k⟩:=h
 refine⟨_,(z05 (z0h (z0o z0t rfl M.tuple bT (z00 (z0b (z6M rfl) rfl M.sorted fI (z00 (z0J (pv 0) rfl) z03)) z03)))),?_⟩
 obtain⟨dx,pn,pd,fs,kvs,rfl,h1,h2,h3,h4,l1,l2,l3,lm,kk,ndh,all,tl,g,r0,r1⟩:=sh
 refine⟨_,rfl,p,A0,dx,fs,_,rfl,h1,T.cl,T.n_issues,l3,pd,kvs,had,rfl,h4,kk,fQ (y3w ndh all) (by decide),fun l ms hl hp hs=>?_⟩
 rw[y0T ndh all hp hs]
 exact⟨l,_,rfl,.inl ⟨SqL.of z02,fun t ht=>k t _ ((z01 hl _).trans (z01 ht _)) z02⟩⟩
theorem y4L{had:List Int}{m:Int}(hm:m∈z0g had)(hb:∀y∈z0g had,y≤m):m=V7 had:=by
 unfold V7
 have ne:z0g had≠[]:=fun z=>by rw[z] at hm;cases hm
 have e:(z0g had).getLastD 0=(z0g had).getLast ne:=by rw[List.getLastD_eq_getLast?,List.getLast?_eq_some_getLast ne]<;>rfl
 rw[e]
 have h1:=hb _ (List.getLast_mem ne)
 have d:z0g had=(z0g had).dropLast++[(z0g had).getLast ne]:=(List.dropLast_concat_getLast ne).symm
 have rs:=z1T had
 rw[d] at hm rs
 rcases bM.mp hm with h|h
 ·have:=(dL.mp rs).2.2 m h _ (bA.mpr rfl)
  omega
 ·exact bA.mp h
theorem y3y{A0:Addr}(M:Bl mg)(T:C7 K mg A0)(F:Fun K "latest" "Shelf.latest" z3G f fd)(B1:D4 P w K mg base 1 A0 "had" z27 (z6a (ShD K A0))):A5 P w K mg base CX0 2 f fd z5m (y1E (ShD K A0)):=by
 have nd:=z4B.nd
 refine F.ok z4B (fun vs H Q E h=>?_) (fun cdv A outer s H vs Q E hr h=>?_)
 ·obtain⟨p,fp,zs,r,iss,had,rfl,_⟩:=h
  rfl
 obtain⟨p,fp,zs,r,iss,had,rfl,sh,k⟩:=h
 refine⟨_,(z05 (z0h (y3b rfl rfl M.max (z00 (z30 B1 (rm hr) (pv 0)) z03) (z97 z06 y1i)))),?_⟩
 obtain⟨dx,fs,h1,lm⟩:=F3.ins sh
 refine⟨_,rfl,p,dx,fs,rfl,h1,lm _ (by simp),p,fp,zs,r,iss,had,rfl,sh,fun l H1 s1 e1=>?_⟩
 refine⟨l,z0g had,_,rfl,rfl,.inr (SqT.of e1),fun z=>?_,fun m hm hb=>?_⟩
 ·have e:V7 had=0:=by unfold V7;rw[z];rfl
  have:=k H1 s1
  rw[e] at this
  exact this
 ·rw[y4L hm hb]
  exact k H1 s1
def P7(ns:List Int)(rows:List Row)(r n:Int):DV:=.tup [.int n,.int (z0E ns n r),if z0E ns n r=0 then .tup [] else Q6 (z1F (z0z rows n))]
def z9i(ns:List Int)(rows:List Row)(r:Int):List DV:=(z0W ns).map (P7 ns rows r)
theorem y0h{ns:List Int}{n r:Int}:0≤z0E ns n r:=by
 unfold z0E
 cases e:(upI 1 60).find? (y0w ns n r) with
 | none=>exact dN _
 | some y=>
  have:=z17.mp (e9 e)
  show 0≤y
  omega
theorem z7w{ns:List Int}{m:Int}(hm:m∈ns\/(ns=[]/\m=0))(B3:∀x∈ns,1≤x/\x≤60)(top:∀y∈ns,y≤m):(upI 1 (m-1).toNat).filter (fun x=>!decide (x∈ns))=z0W ns:=by
 rcases hm with hm|⟨rfl,rfl⟩
 ·refine z2f ((z1M _ _).filter _) (z4q _) fun x=>?_
  have hm':=B3 m hm
  rw[bU,z17,z0y,jD,decide_eq_false_iff_not]
  constructor
  ·rintro⟨⟨a,b⟩,c⟩
   exact⟨by omega,c,m,hm,by omega⟩
  ·rintro⟨a,b,y,hy,c⟩
   have:=top y hy
   exact⟨by omega,b⟩
 ·rw[y05]
  rfl
theorem z4k{ns:List Int}(i:Nat):(upI 1 (i+1)).filter (fun x=>!decide (x∈ns))=(upI 1 i).filter (fun x=>!decide (x∈ns))++(if (1:Int)+(i:Int)∈ns then [] else [1+(i:Int)]):=by
 rw[z5J,dR,eX]
 by_cases h:(1:Int)+(i:Int)∈ns
 ·rw[if_pos h,decide_eq_true h]
  rfl
 ·rw[if_neg h,decide_eq_false h]
  rfl
def D3(w:Row)(z:Str):Option Int:=w.foldl (fun acc p=>if p.1=z then some p.2 else acc) none
theorem z9q(w:Row)(p:Str×Int)(z:Str):D3 (w++[p]) z=if p.1=z then some p.2 else D3 w z:=by
 unfold D3
 rw[gS]
 rfl
def z0w(ms:List Int)(rows:List Row)(z:Str):Option (Int×Int):=ms.foldl (fun acc n=>match D3 (z0z rows n) z with|some v=>some (n,v)|none=>acc) none
theorem z5Z(ms:List Int)(n:Int)(rows:List Row)(z:Str):z0w (ms++[n]) rows z=match D3 (z0z rows n) z with|some v=>some (n,v)|none=>z0w ms rows z:=by
 unfold z0w
 rw[gS]
 rfl
def y3j:Option (Int×Int)->DV
 | some (n,v)=>.tup [.int n,.int v]
 | none=>.tup [.int 0,.non]
def z0I(o:Option (Int×Int)):Int:=(o.map Prod.fst).getD 0
def y39:Option (Int×Int)->DV
 | some (_,v)=>.int v
 | none=>.non
theorem z5q{H:Hp}{o:Option (Int×Int)}{v:V}(h:A7 H (y3j o) v):∃(a:Addr) (y:V),v=.ref a/\H a=some (.tup [.int (z0I o),y])/\A7 H (y39 o) y:=by
 cases o with
 | none=>
  obtain⟨a,xs,rfl,ha,_,ta⟩:=z0q (show A7 H (.tup [.int 0,.non]) v from h)
  obtain⟨y1,r1,rfl,t1,h3⟩:=z09 ta
  obtain⟨y2,r2,rfl,t2,h4⟩:=z09 h3
  have:=z0G h4
  subst this
  rw[z0S t1] at ha
  exact⟨a,y2,rfl,ha,t2⟩
 | some p=>
  obtain⟨n,x⟩:=p
  obtain⟨a,xs,rfl,ha,_,ta⟩:=z0q (show A7 H (.tup [.int n,.int x]) v from h)
  obtain⟨y1,r1,rfl,t1,h3⟩:=z09 ta
  obtain⟨y2,r2,rfl,t2,h4⟩:=z09 h3
  have:=z0G h4
  subst this
  rw[z0S t1] at ha
  exact⟨a,y2,rfl,ha,t2⟩
def y2E(K:PySem.W.Frag):Sp:=fun vs H Q _=>∃(p lr:Addr) (ns:List Int) (us:List V) (rows:List Row) (z:Str),vs=[.ref p,.ref lr,.str z]/\SqL K H p (ns.map V.int)/\ns.length<64/\ns.Nodup/\(∀x∈ns,1≤x/\x≤60)/\(∀x∈ns,x≤rows.length)/\
 SqL K H lr us/\z08 H (rows.map K4) us/\∀(v:V) (H':Hp),A4 H H'->A7 H' (y3j (z0w (z0g ns) rows z)) v->Q v H'
theorem y4Z(M:Bl mg)(F:Fun K "_law_held" "_law_held" z5W f fd):A5 P w K mg base CX0 1 f fd z68 (y2E K):=by
 have nd:=z7U.nd
 refine F.ok z7U (fun vs H Q E h=>?_) (fun cdv A outer s H vs Q E hr h=>?_)
 ·obtain⟨p,lr,ns,us,rows,z,rfl,_⟩:=h
  rfl
 obtain⟨p,lr,ns,us,rows,z,rfl,hP,h64,nds,B3,hup,hR,tl,q⟩:=h
 refine⟨_,(z04 (z0l (i:=3) nd rfl (Or.inl rfl) (z1b (z00 z06 (z00 y3Y z03)))) (z04 (z1h cC rfl (z18 (z0b z7F rfl M.sorted fI (z00 (pv 0) z03))) (z0j (i:=4) nd rfl (Or.inl rfl)) (z05 (z1h cC rfl (z2I (z0K z0R (pv 1) (z0s z3r (pv 4) z06) (fun _ _=>rfl))) (z0j (i:=5) nd rfl (Or.inl rfl)) (z05 (z0N (z0c z2r (z0K z0U (pv 5) z06 (fun _ _=>rfl)) (pv 2) (z0n _)) (z05 (z0l (i:=3) nd rfl (Or.inl rfl) (z1b (z00 (pv 4) (z00 (z0K z0U (pv 5) z06 (fun _ _=>rfl)) z03))))) z0p))))) (z05 (z0h (pv 3))))),?_⟩
 refine⟨(by show 2≤sizeLine;decide),fun t0 ht0=>?_⟩
 have s1:=z01 ht0 (.tup [V.int 0,V.non])
 have e1:upd H t0 (.tup [V.int 0,V.non]) t0=some (.tup [V.int 0,V.non]):=z02
 generalize upd H t0 (.tup [V.int 0,V.non])=H1 at s1 e1
 refine⟨_,rfl,p,ns,rfl,s1.seq hP,h64,fun ls ms nls hp hs=>?_⟩
 have er:=y0T nds B3 hp hs
 have s2:=s1.trans (z01 nls (.lst (ms.map V.int)))
 have e2:=z01 nls (.lst (ms.map V.int)) _ _ e1
 have els:upd H1 ls (.lst (ms.map V.int)) ls=some (.lst (ms.map V.int)):=z02
 generalize upd H1 ls (.lst (ms.map V.int))=H2 at s2 e2 els
 refine⟨ls,rfl,⟨_,SqL.of els⟩,z1m (K:=K) (a:=ls) (xs:=ms.map V.int) (fun i σ H'=>∃(hv:V) (o1 o2:Option V),A4 H2 H'/\A7 H' (y3j (z0w (ms.take i) rows z)) hv/\σ=[some (.ref p),some (.ref lr),some (.str z),some hv,o1,o2])
  ⟨.ref t0,none,none,A4.refl _,z0A e2 (by show 2≤1000000;decide) (.cons (z0H 0) (.cons y1c .nil)),rfl⟩ (fun i σ H' _ ⟨_,_,_,g,_⟩=>SqL.of (g _ _ els)) ?_ ?_⟩
 ·rintro i x σ H' hi ⟨hv,o1,o2,g,th,rfl⟩
  obtain⟨n,hn,rfl⟩:∃n,ms[i]? = some n/\x=V.int n:=by
   rw[bG] at hi
   cases e:ms[i]? with
   | none=>rw[e] at hi;cases hi
   | some n=>rw[e] at hi;exact⟨n,rfl,(Option.some.inj hi).symm⟩
  have nin:n∈ns:=hp.mem_iff.mp (bR hn)
  have hn1:=B3 n nin
  have hn2:=hup n nin
  obtain⟨v,_,av,tv⟩:=z9w (z08.keep (s2.trans g) _ _ tl) (k:=n) hn1.1 hn2
  obtain⟨ar,xs,rfl,er',_,tp⟩:=z0q tv
  have lw:xs.length=(z0z rows n).length:=by rw[tp.length,b8]
  refine⟨_,rfl,_,rfl,_,_,rfl,rfl,lr,us,_,_,rfl,rfl,(s2.trans g).seq hR,av,ar,rfl,⟨_,SqT.of er'⟩,?_⟩
  refine z93 (K:=K) (a:=ar) (xs:=xs) (fun j σ H2'=>∃(hv:V) (o2:Option V),A4 H' H2'/\A7 H2' (y3j (match D3 ((z0z rows n).take j) z with|some v=>some (n,v)|none=>z0w (ms.take i) rows z)) hv/\
    σ=[some (.ref p),some (.ref lr),some (.str z),some hv,some (.int n),o2]) ⟨hv,o2,A4.refl _,th,rfl⟩ (fun j σ H2' _ ⟨_,_,g2,_⟩=>SqT.of (g2 _ _ er')) ?_ ?_
  ·rintro j y σ H2' hy ⟨hv2,o3,g2,th2,rfl⟩
   obtain⟨pq,b,e1',rfl,e2'⟩:=z4J tp j y hy
   have sb:SqT K H2' b [V.str pq.1,V.int pq.2]:=SqT.of (g2 _ _ e2')
   refine⟨_,rfl,b,_,0,_,rfl,rfl,sb,rfl,_,rfl,rfl,_,rfl,?_⟩
   have tk:(z0z rows n).take (j+1)=(z0z rows n).take j++[pq]:=z0r e1'
   refine A9 (fun c=>?_) (fun c=>?_)
   ·have c':pq.1=z:=by
     have:=z0F c
     injection this
    refine⟨_,rfl,_,rfl,b,_,1,_,rfl,rfl,sb,rfl,(by show 2≤sizeLine;decide),fun t ht=>?_⟩
    refine⟨.ref t,_,g2.trans (z01 ht _),?_,rfl⟩
    rw[tk,z9q,if_pos c']
    exact z0A z02 (by show 2≤1000000;decide) (.cons (z0H _) (.cons (z0H _) .nil))
   ·have c':¬pq.1=z:=fun e=>z3v c (by rw[e])
    refine⟨hv2,_,g2,?_,rfl⟩
    rw[tk,z9q,if_neg c']
    exact th2
  ·rintro σ H2' ⟨hv2,o3,g2,th2,rfl⟩
   rw[lw,bV] at th2
   refine⟨hv2,_,_,g.trans g2,?_,rfl⟩
   rw[z0r hn,z5Z]
   exact th2
 ·rintro σ H' ⟨hv,o1,o2,g,th,rfl⟩
  rw[b8,bV,er] at th
  exact⟨_,rfl,q hv H' (s2.trans g) th⟩
def y6d(K:PySem.W.Frag):Sp:=fun vs H Q _=>∃(p lr:Addr) (ns:List Int) (us:List V) (rows:List Row) (r:Int),vs=[.ref p,.ref lr,.int r]/\H p=some (.lst (ns.map V.int))/\(∀x∈ns,1≤x/\x≤60)/\ns.length≤900/\(∀x∈ns,x≤rows.length)/\
 SqL K H lr us/\z08 H (rows.map K4) us/\(∀w∈rows,w.length≤12)/\0≤r/\∀(l:Addr) (zs:List V) (H':Hp),H l=none->A4 H H'->H' l=some (.lst zs)->z08 H' (z9i ns rows r) zs->Q (.ref l) H'
theorem y70(M:Bl mg)(F:Fun K "_law_gaps" "_law_gaps" z61 f fd)(C9:Cal P w K mg base 1 "_law_teller" z2Z (z7g K)):A5 P w K mg base CX0 2 f fd z6c (y6d K):=by
 have nd:=z7s.nd
 refine F.ok z7s (fun vs H Q E h=>?_) (fun cdv A outer s H vs Q E hr h=>?_)
 ·obtain⟨p,lr,ns,us,rows,r,rfl,_⟩:=h
  rfl
 obtain⟨p,lr,ns,us,rows,r,rfl,hP,B3,hlen,hup,hR,tl,h12,r0,q⟩:=h
 refine⟨_,(z04 (z0l (i:=3) nd rfl (Or.inl rfl) (z1j z03)) (z04 (z1h cC rfl (z5j rfl M.range (z00 z06 (z00 (z0b (z7v rfl) rfl M.max fA (z00 (z0s z9V (pv 0) (z1j (z00 z06 z03))) z03)) z03))) (z0j (i:=4) nd rfl (Or.inl rfl)) (z04 (z0l (i:=5) nd rfl (Or.inl rfl) (z0k C9 (rm hr) rfl (z00 (pv 0) (z00 (pv 4) (z00 (pv 2) z03))))) (z04 (z0N (PW.pt (z5E (z0c z1k (pv 4) (pv 0) (by with_unfolding_all rfl)) (z3J (z0c z2r (pv 5) z06 (z0n _))))) (z05 (z0C (z36 bY c7 cA z0O (pv 3) (z00 (z1b (z00 (pv 4) (z00 z06 (z00 (z1b z03) z03)))) z03)))) z0p) (z05 (z0N (PW.pt (z5E (z0c z1k (pv 4) (pv 0) (by with_unfolding_all rfl)) (z3J (z0c z2A (pv 5) z06 (z0n _))))) (z05 (z0C (z36 bY c7 cA z0O (pv 3) (z00 (z1b (z00 (pv 4) (z00 (pv 5) (z00 (z0o z0t rfl M.tuple bT (z00 (z1i ["_law_row_here"] [] [] rfl (z0u rfl (by decide +kernel) rfl (by decide +kernel) rfl rfl) (z2I (z0K z0R (pv 1) (z0s z3r (pv 4) z06) (fun _ _=>rfl))) (fun _ _ _ _ _=>(z0j (i:=0) (show((["_law_row_here"]:List PySem.Str)++([]:List PySem.Str)).Nodup from by decide +kernel) rfl (Or.inl rfl))) (z0x (by decide)) z0d (fun _ _ _ _ _=>z1Y) (fun _ _ _ _ _=>(z0K (r:=N5 K) z0U (pv 0) z06 (fun _ _=>rfl)))) z03)) z03)))) z03)))) z0p))))) (z05 (z0h (pv 3))))),?_⟩
 refine⟨(by show 0≤sizeLine;decide),fun lg hlg=>?_⟩
 have s1:=z01 hlg (.lst [])
 refine⟨_,rfl,(by show 1≤sizeLine;decide),fun l0 hl0=>⟨p,l0,_,_,rfl,rfl,z01 hl0 _ _ _ (s1 _ _ hP),z02,?_,fun lc hlc=>?_⟩⟩
 ·rw[b8]
  exact dZ (z0f (by show ns.length+1≤1000;omega))
 have s2:=s1.trans ((z01 hl0 (.lst [V.int 0])).trans (z01 hlc (.lst (ns.map V.int++[V.int 0]))))
 have eg:upd (upd (upd H lg (.lst [])) l0 (.lst [V.int 0])) lc (.lst (ns.map V.int++[V.int 0])) lg=some (.lst []):=(z01 hl0 _).trans (z01 hlc _) _ _ z02
 have ec:upd (upd (upd H lg (.lst [])) l0 (.lst [V.int 0])) lc (.lst (ns.map V.int++[V.int 0])) lc=some (.lst ((ns++[0]).map V.int)):=by
  rw[z02,bE]
  rfl
 generalize upd (upd (upd H lg (.lst [])) l0 (.lst [V.int 0])) lc (.lst (ns.map V.int++[V.int 0]))=H2 at s2 eg ec
 refine⟨lc,ns++[0],rfl,.inl (SqL.of ec),by simp,fun m hm top=>?_⟩
 have hm':m∈ns\/(ns=[]/\m=0):=by
  rcases bM.mp hm with h|h
  ·exact .inl h
  ·rw[bA] at h
   subst h
   cases ns with
   | nil=>exact .inr ⟨rfl,rfl⟩
   | cons x xs=>
    have h1:=top x (by simp)
    have h2:=B3 x bQ
    omega
 have m60:0≤m/\m≤60:=by
  rcases hm' with h|⟨_,h⟩
  ·have:=B3 m h
   omega
  ·omega
 have W4:∀y∈ns,y≤m:=fun y hy=>top y (cM _ hy)
 refine⟨1,m,rfl,⟨by decide,by decide,by omega,by omega⟩,?_⟩
 refine z2l (lo:=1) (n:=(m-1).toNat) (fun i σ H'=>∃(zs:List V) (o1 o2:Option V),(∀b u,H b=some u->H' b=some u)/\H' lg=some (.lst zs)/\z08 H' (((upI 1 i).filter fun x=>!decide (x∈ns)).map (P7 ns rows r)) zs/\
   σ=[some (.ref p),some (.ref lr),some (.int r),some (.ref lg),o1,o2]) ⟨[],none,none,s2,eg,.nil,rfl⟩ (fun i σ H' hi hp=>?_) (fun σ H' hp=>?_)
 ·obtain⟨zs,o1,o2,g,eG,tG,rfl⟩:=hp
  have g':A4 H H':=g
  have hn:(1:Int)+(i:Int)≤rows.length:=by
   rcases hm' with h|⟨_,h⟩
   ·have:=hup m h
    omega
   ·omega
  have lz:zs.length≤i:=by
   rw[tG.length,b8]
   have:=cF (fun x=>!decide (x∈ns)) (upI 1 i)
   rw[z0M] at this
   exact this
  refine⟨_,rfl,_,rfl,_,rfl,p,ns,1+(i:Int),r,rfl,SqL.of (g _ _ hP),B3,hlen,r0,fun H3 s3=>?_⟩
  have t0:=y0h (ns:=ns) (n:=1+(i:Int)) (r:=r)
  have g3:A4 H H3:=g'.trans s3
  have eG3:=s3 _ _ eG
  have tG3:=z08.keep s3 _ _ tG
  refine⟨_,rfl,_,rfl,p,_,rfl,.inl (SqL.of (g3 _ _ hP)),rfl,z1X ns,_,rfl,?_⟩
  rw[if_pos rfl,z2B]
  by_cases hin:(1:Int)+(i:Int)∈ns
  ·rw[decide_eq_true hin]
   refine C6 (C6 ?_)
   refine⟨_,rfl,_,rfl,p,_,rfl,.inl (SqL.of (g3 _ _ hP)),rfl,z1X ns,_,rfl,?_⟩
   rw[if_pos rfl,z2B,decide_eq_true hin]
   refine C6 (C6 ⟨zs,_,_,g3,eG3,?_,rfl⟩)
   rw[z4k,if_pos hin,cU]
   exact tG3
  ·rw[decide_eq_false hin]
   refine N0 ⟨_,rfl,rfl,_,rfl,?_⟩
   refine A9 (fun c=>?_) (fun c=>?_)
   ·have c0:z0E ns (1+(i:Int)) r=0:=by
     have:=z0F c
     injection this
    refine⟨_,rfl,.inl ⟨rfl,_,SqL.of eG3⟩,_,rfl,(by show 0≤sizeLine;decide),fun t0 ht0=>⟨(by show 3≤sizeLine;decide),fun t ht=>?_⟩⟩
    have s4:=(z01 ht0 (.tup [])).trans (z01 ht (.tup [V.int (1+(i:Int)),V.int 0,V.ref t0]))
    have et:upd (upd H3 t0 (.tup [])) t (.tup [V.int (1+(i:Int)),V.int 0,V.ref t0]) t=some (.tup [V.int (1+(i:Int)),V.int 0,V.ref t0]):=z02
    have et0:upd (upd H3 t0 (.tup [])) t (.tup [V.int (1+(i:Int)),V.int 0,V.ref t0]) t0=some (.tup []):=z01 ht _ _ _ z02
    generalize upd (upd H3 t0 (.tup [])) t (.tup [V.int (1+(i:Int)),V.int 0,V.ref t0])=H4 at s4 et et0
    refine⟨lg,_,_,rfl,rfl,s4 _ _ eG3,z0f (by omega),?_⟩
    have g5:∀b u,H b=some u->upd H4 lg (.lst (zs++[V.ref t])) b=some u:=fun b u e=>by
     rw[z0e (z0i e hlg)]
     exact s4 _ _ (g3 _ _ e)
    have tg:A7 H4 (P7 ns rows r (1+(i:Int))) (.ref t):=by
     unfold P7
     rw[if_pos c0,c0]
     exact z0A et (by show 3≤1000000;decide) (.cons (z0H _) (.cons (z0H _) (.cons (z0A et0 (by show 0≤1000000;decide) .nil) .nil)))
    have t5:z08 (upd H4 lg (.lst (zs++[V.ref t]))) (((upI 1 (i+1)).filter fun x=>!decide (x∈ns)).map (P7 ns rows r)) (zs++[V.ref t]):=by
     rw[z4k,if_neg hin,bE]
     exact z08.over (s4 _ _ eG3) (fun _ e=>by cases e) _ _ (z08.snoc (z08.keep s4 _ _ tG3) tg)
    refine⟨_,rfl,_,rfl,p,_,rfl,.inl (SqL.of (g5 _ _ hP)),rfl,z1X ns,_,rfl,?_⟩
    rw[if_pos rfl,z2B,decide_eq_false hin]
    refine N0 ⟨_,rfl,_,_,rfl,rfl,_,rfl,?_⟩
    rw[c0]
    exact C6 ⟨_,_,_,g5,z02,t5,rfl⟩
   ·have c0:z0E ns (1+(i:Int)) r≠0:=fun e=>z3v c (by rw[e])
    refine⟨_,rfl,_,rfl,p,_,rfl,.inl (SqL.of (g3 _ _ hP)),rfl,z1X ns,_,rfl,?_⟩
    rw[if_pos rfl,z2B,decide_eq_false hin]
    refine N0 ⟨_,rfl,_,_,rfl,rfl,_,rfl,?_⟩
    rw[decide_eq_true (show(0:Int)<z0E ns (1+(i:Int)) r by omega)]
    refine N0 ?_
    obtain⟨v,_,av,tv⟩:=z9w (z08.keep g3 _ _ tl) (k:=1+(i:Int)) (by omega) hn
    obtain⟨ar,xs,rfl,er,_,tp⟩:=z0q tv
    have lw:xs.length=(z0z rows (1+(i:Int))).length:=by rw[tp.length,b8]
    have w12:=y3s h12 (1+(i:Int))
    refine⟨_,rfl,.inl ⟨rfl,_,SqL.of eG3⟩,_,rfl,_,rfl,_,rfl,_,rfl,_,_,rfl,rfl,lr,us,_,_,rfl,rfl,g3.seq hR,av,ar,rfl,⟨_,SqT.of er⟩,?_⟩
    refine z1O (xs:=xs) (fun j ys H2=>H2=H3/\ys=((z1F (z0z rows (1+(i:Int)))).take j).map V.str) ⟨rfl,rfl⟩ (fun j ys H2 hj hp=>?_) (fun j y ys H2 hy hp=>?_) (fun ys H2 hp=>?_)
    ·obtain⟨rfl,rfl⟩:=hp
     refine⟨SqT.of er,z0f ?_⟩
     rw[b8,bO]
     omega
    ·obtain⟨rfl,rfl⟩:=hp
     obtain⟨pq,b,e1,rfl,e2⟩:=z4J tp j y hy
     refine⟨_,rfl,b,_,0,_,rfl,rfl,SqT.of e2,rfl,rfl,?_⟩
     have e3:(z1F (z0z rows (1+(i:Int))))[j]? = some pq.1:=by
      unfold z1F
      rw[bG,e1]
      rfl
     rw[z0r e3,bE]
     rfl
    obtain⟨rfl,rfl⟩:=hp
    have ll:(z1F (z0z rows (1+(i:Int)))).take xs.length=z1F (z0z rows (1+(i:Int))):=cZ (by unfold z1F;rw[b8];omega)
    rw[ll]
    intro D hD
    refine⟨D,_,rfl,.inl ⟨SqL.of z02,fun t0 ht0=>⟨(by show 3≤sizeLine;decide),fun t ht=>?_⟩⟩⟩
    generalize hN:(z1F (z0z rows (1+(i:Int)))).map V.str=nv at hD ht0 ht
    have s4:=(z01 hD (.lst nv)).trans ((z01 ht0 (.tup nv)).trans (z01 ht (.tup [V.int (1+(i:Int)),V.int (z0E ns (1+(i:Int)) r),V.ref t0])))
    have et:upd (upd (upd H2 D (.lst nv)) t0 (.tup nv)) t (.tup [V.int (1+(i:Int)),V.int (z0E ns (1+(i:Int)) r),V.ref t0]) t=some (.tup [V.int (1+(i:Int)),V.int (z0E ns (1+(i:Int)) r),V.ref t0]):=z02
    have et0:upd (upd (upd H2 D (.lst nv)) t0 (.tup nv)) t (.tup [V.int (1+(i:Int)),V.int (z0E ns (1+(i:Int)) r),V.ref t0]) t0=some (.tup nv):=z01 ht _ _ _ z02
    generalize upd (upd (upd H2 D (.lst nv)) t0 (.tup nv)) t (.tup [V.int (1+(i:Int)),V.int (z0E ns (1+(i:Int)) r),V.ref t0])=H4 at s4 et et0
    refine⟨lg,_,_,rfl,rfl,s4 _ _ eG3,z0f (by omega),?_⟩
    have g5:∀b u,H b=some u->upd H4 lg (.lst (zs++[V.ref t])) b=some u:=fun b u e=>by
     rw[z0e (z0i e hlg)]
     exact s4 _ _ (g3 _ _ e)
    have tg:A7 H4 (P7 ns rows r (1+(i:Int))) (.ref t):=by
     unfold P7
     rw[if_neg c0]
     refine z0A et (by show 3≤1000000;decide) (.cons (z0H _) (.cons (z0H _) (.cons (z0A et0 ?_ ?_) .nil)))
     ·rw[b8]
      unfold z1F
      rw[b8]
      omega
     ·rw[<- hN]
      exact z6d _
    refine⟨_,_,_,g5,z02,?_,rfl⟩
    rw[z4k,if_neg hin,bE]
    exact z08.over (s4 _ _ eG3) (fun _ e=>by cases e) _ _ (z08.snoc (z08.keep s4 _ _ tG3) tg)
 ·obtain⟨zs,o1,o2,g,eG,tG,rfl⟩:=hp
  rw[z7w hm' B3 W4] at tG
  exact⟨_,rfl,q lg zs H' hlg g eG tG⟩
theorem z6U(x:Str)(ns:List Str):inV (.str x) (ns.map V.str)=decide (x∈ns):=by
 unfold inV
 rw[dH,gM,hE,decide_eq_true_eq]
 constructor
 ·rintro⟨y,hy,e⟩
  have:y=x:=by simpa [eqV] using e
  exact this ▸ hy
 ·intro h
  exact⟨x,h,by simp[eqV]⟩
def z1I(ns:List Int)(rows:List Row)(r n:Int):List Str:=if z0E ns n r=0 then [] else z1F (z0z rows n)
theorem y6J(ns:List Int)(rows:List Row)(r n:Int):P7 ns rows r n=.tup [.int n,.int (z0E ns n r),Q6 (z1I ns rows r n)]:=by
 unfold P7 z1I
 by_cases h:z0E ns n r=0
 ·rw[if_pos h,if_pos h]
  rfl
 ·rw[if_neg h,if_neg h]
def z1S(ns:List Int)(rows:List Row)(r num:Int)(z:Str):List Int:=(z0W ns).filter fun n=>decide (num<n) && decide (z∈z1I ns rows r n)
def y6e(ns:List Int)(rows:List Row)(r num:Int)(z:Str):DV:=.tup ((z1S ns rows r num z).map fun n=>.tup [.int n,.int (z0E ns n r)])
theorem z8z(ns:List Int)(rows:List Row)(r num:Int)(z:Str):(z1S ns rows r num z).length≤60:=cO (cF _ _) (z2m ns)
theorem z7z{H:Hp}{ns:List Int}{rows:List Row}{r:Int}{zs:List V}(h:z08 H (z9i ns rows r) zs){i:Nat}{x:V}(e:zs[i]? = some x) :
  ∃(n:Int) (a b:Addr),(z0W ns)[i]? = some n/\x=.ref a/\H a=some (.tup [.int n,.int (z0E ns n r),.ref b])/\H b=some (.tup ((z1I ns rows r n).map V.str)):=by
 obtain⟨d,e1,t⟩:=h.at i x e
 unfold z9i at e1
 rw[bG] at e1
 cases er:(z0W ns)[i]? with
 | none=>rw[er] at e1;cases e1
 | some n=>
  rw[er] at e1
  have e2:P7 ns rows r n=d:=Option.some.inj e1
  rw[y6J] at e2
  subst e2
  obtain⟨a,ys,rfl,h1,_,h2⟩:=z0q t
  obtain⟨y1,r1,rfl,t1,h3⟩:=z09 h2
  obtain⟨y2,r2,rfl,t2,h4⟩:=z09 h3
  obtain⟨y3,r3,rfl,t3,h5⟩:=z09 h4
  have:=z0G h5
  subst this
  obtain⟨b,ws,rfl,hb,_,tb⟩:=z0q t3
  rw[z0S t1,z0S t2] at h1
  rw[z4H tb] at hb
  exact⟨n,a,b,rfl,rfl,h1,hb⟩
theorem z7t{H:Hp}{ns:List Int}{rows:List Row}{r:Int}{zs:List V}(h:z08 H (z9i ns rows r) zs):zs.length=(z0W ns).length:=by
 rw[h.length]
 unfold z9i
 rw[b8]
def y4k(K:PySem.W.Frag):Sp:=fun vs H Q _=>∃(lg:Addr) (zs:List V) (ns:List Int) (rows:List Row) (r num:Int) (z:Str),vs=[.ref lg,.int num,.str z]/\SqL K H lg zs/\z08 H (z9i ns rows r) zs/\
 ∀(v:V) (H':Hp),A4 H H'->A7 H' (y6e ns rows r num z) v->Q v H'
theorem y5d(M:Bl mg)(F:Fun K "_law_again" "_law_again" z4O f fd):A5 P w K mg base CX0 1 f fd z52 (y4k K):=by
 have nd:=z6n.nd
 refine F.ok z6n (fun vs H Q E h=>?_) (fun cdv A outer s H vs Q E hr h=>?_)
 ·obtain⟨lg,zs,ns,rows,r,num,z,rfl,_⟩:=h
  rfl
 obtain⟨lg,zs,ns,rows,r,num,z,rfl,hG,tG,q⟩:=h
 refine⟨_,(z05 (z0h (z0o z0t rfl M.tuple bT (z00 (z1i ["_law_gap"] ["_law_number","_law_name"] [1,2] rfl (z0u rfl (by decide +kernel) rfl (by decide +kernel) rfl rfl) (z18 (pv 0)) (fun _ _ _ _ _=>(z0j (i:=0) (show((["_law_gap"]:List PySem.Str)++(["_law_number","_law_name"]:List PySem.Str)).Nodup from by decide +kernel) rfl (Or.inl rfl))) (z0x (by decide)) z0d (fun _ _ _ _ _=>(z26 (PW.pt (z5E (z0c z2A (z0K (r:=N5 K) z0U (pv 0) z06 (fun _ _=>rfl)) (pv 1) (z0n _)) (z3J (z0c (r:=rIn K false) z49 (pv 2) (z0K (r:=N5 K) z0U (pv 0) z06 (fun _ _=>rfl)) (by with_unfolding_all rfl))))))) (fun _ _ _ _ _=>(z1b (z00 (z0K (r:=N5 K) z0U (pv 0) z06 (fun _ _=>rfl)) (z00 (z0K (r:=N5 K) z0U (pv 0) z06 (fun _ _=>rfl)) z03))))) z03)))),?_⟩
 have lz:=z7t tG
 have l60:=z2m ns
 refine⟨_,rfl,lg,rfl,⟨_,hG⟩,?_⟩
 refine z2O (xs:=zs) (fun i ys H'=>A4 H H'/\z08 H' ((((z0W ns).take i).filter fun n=>decide (num<n) && decide (z∈z1I ns rows r n)).map fun n=>.tup [.int n,.int (z0E ns n r)]) ys) ⟨A4.refl _,by rw[dG];exact .nil⟩
  (fun i ys H' hi hp=>?_) (fun i x ys H' hx hp=>?_) (fun ys H' hp=>?_)
 ·obtain⟨g,t⟩:=hp
  refine⟨g.seq hG,z0f ?_⟩
  have:=cF (fun n=>decide (num<n) && decide (z∈z1I ns rows r n)) ((z0W ns).take i)
  rw[bO] at this
  rw[t.length,b8]
  omega
 ·obtain⟨g,t⟩:=hp
  obtain⟨n,a,b,en,rfl,ha,hb⟩:=z7z tG hx
  have sa:SqT K H' a [V.int n,V.int (z0E ns n r),V.ref b]:=SqT.of (g _ _ ha)
  have tks:=z0r en
  refine⟨_,rfl,a,_,0,_,rfl,rfl,sa,rfl,_,rfl,_,_,rfl,rfl,_,rfl,?_⟩
  rw[tks,dR,eX]
  refine A9 (fun c=>?_) (fun c=>?_)
  ·refine⟨_,rfl,_,rfl,a,_,2,_,rfl,rfl,sa,rfl,b,_,rfl,.inr (SqT.of (g _ _ hb)),rfl,z2V _,_,rfl,?_⟩
   rw[if_neg bI,z6U,c,gE]
   refine A9 (fun c2=>?_) (fun c2=>?_)
   ·rw[if_pos c2,bE]
    refine⟨_,rfl,a,_,0,_,rfl,rfl,sa,rfl,_,rfl,a,_,1,_,rfl,rfl,sa,rfl,(by show 2≤sizeLine;decide),fun u hu=>⟨g.trans (z01 hu _),?_⟩⟩
    exact z08.snoc (z08.keep (z01 hu _) _ _ t) (z0A z02 (by show 2≤1000000;decide) (.cons (z0H _) (.cons (z0H _) .nil)))
   ·rw[if_neg c2,fT,cU]
    exact⟨g,t⟩
  ·rw[gU.mpr c,gO]
   refine C6 ?_
   rw[if_neg bI,fT,cU]
   exact⟨g,t⟩
 ·obtain⟨g,t⟩:=hp
  rw[lz,bV] at t
  intro D hD
  refine⟨D,_,rfl,.inl ⟨SqL.of z02,fun l hl=>?_⟩⟩
  have s2:=(z01 hD (.lst ys)).trans (z01 hl (.tup ys))
  refine q _ _ (g.trans s2) (z0A z02 ?_ (z08.keep s2 _ _ t))
  have:=z8z ns rows r num z
  rw[b8]
  omega
def z1P(ns:List Int)(r num:Int):List Int:=(z0W ns).filter fun n=>decide (num<n) && decide (z0E ns n r=0)
def z0B(ns:List Int)(rows:List Row)(r num:Int)(z:Str):Str:=if 0<(z1S ns rows r num z).length then "stale" else if z1P ns r num=[] then "sure" else "open"
def y3S(K:PySem.W.Frag):Sp:=fun vs H Q _=>∃(lg:Addr) (zs:List V) (ns:List Int) (rows:List Row) (r num:Int) (z:Str),vs=[.ref lg,.int num,.str z]/\SqL K H lg zs/\z08 H (z9i ns rows r) zs/\
 ∀H',A4 H H'->Q (.str (z0B ns rows r num z)) H'
theorem y3o(M:Bl mg)(F:Fun K "_law_state" "_law_state" z5e f fd)(L7:Cal P w K mg base 1 "_law_again" z52 (y4k K)):A5 P w K mg base CX0 2 f fd z4P (y3S K):=by
 have nd:=z6B.nd
 refine F.ok z6B (fun vs H Q E h=>?_) (fun cdv A outer s H vs Q E hr h=>?_)
 ·obtain⟨lg,zs,ns,rows,r,num,z,rfl,_⟩:=h
  rfl
 obtain⟨lg,zs,ns,rows,r,num,z,rfl,hG,tG,q⟩:=h
 refine⟨_,(z04 (z0N (z0c z2A (z0b z0a rfl M.len bP (z00 (z0k L7 (rm hr) rfl (z00 (pv 0) (z00 (pv 1) (z00 (pv 2) z03)))) z03)) z06 (z0n _)) (z05 (z0h z3R)) z0p) (z04 (z0N (z0c (y7E hr.T4) (z1i ["_law_gap"] ["_law_number"] [1] rfl (z0u rfl (by decide +kernel) rfl (by decide +kernel) rfl rfl) (z18 (pv 0)) (fun _ _ _ _ _=>(z0j (i:=0) (show((["_law_gap"]:List PySem.Str)++(["_law_number"]:List PySem.Str)).Nodup from by decide +kernel) rfl (Or.inl rfl))) (z0x (by decide)) z0d (fun _ _ _ _ _=>(z26 (PW.pt (z5E (z0c z2A (z0K (r:=N5 K) z0U (pv 0) z06 (fun _ _=>rfl)) (pv 1) (z0n _)) (z3J (z0c z2r (z0K (r:=N5 K) z0U (pv 0) z06 (fun _ _=>rfl)) z06 (z0n _))))))) (fun _ _ _ _ _=>(z0K (r:=N5 K) z0U (pv 0) z06 (fun _ _=>rfl)))) (z1j z03) (z0n _)) (z05 (z0h z3R)) z0p) (z05 (z0h z3R)))),?_⟩
 have lz:=z7t tG
 have l60:=z2m ns
 refine⟨_,rfl,_,rfl,_,rfl,lg,zs,ns,rows,r,num,z,rfl,hG,tG,fun v H1 s1 t1=>?_⟩
 obtain⟨a,xs,rfl,ha,_,ta⟩:=z0q t1
 have lx:xs.length=(z1S ns rows r num z).length:=by rw[ta.length,b8]
 refine⟨a,xs,rfl,.inr (SqT.of ha),_,_,rfl,rfl,_,rfl,?_⟩
 rw[lx]
 refine A9 (fun c=>?_) (fun c=>?_)
 ·have c':(0:Int)<((z1S ns rows r num z).length:Int):=z0F c
  have e:z0B ns rows r num z="stale":=by
   unfold z0B
   rw[if_pos (by omega)]
  exact(by rw[<- e];exact q _ s1)
 have c':¬(0:Int)<((z1S ns rows r num z).length:Int):=z3v c
 have nx:¬0<(z1S ns rows r num z).length:=by omega
 refine⟨_,rfl,lg,rfl,⟨_,s1.seq hG⟩,?_⟩
 refine z2O (xs:=zs) (fun i ys H'=>H'=H1/\ys=(((z0W ns).take i).filter fun n=>decide (num<n) && decide (z0E ns n r=0)).map V.int) ⟨rfl,rfl⟩ (fun i ys H' hi hp=>?_) (fun i x ys H' hx hp=>?_) (fun ys H' hp=>?_)
 ·obtain⟨rfl,rfl⟩:=hp
  refine⟨s1.seq hG,z0f ?_⟩
  have:=cF (fun n=>decide (num<n) && decide (z0E ns n r=0)) ((z0W ns).take i)
  rw[bO] at this
  rw[b8]
  omega
 ·obtain⟨rfl,rfl⟩:=hp
  obtain⟨n,a2,b2,en,rfl,ha2,hb2⟩:=z7z (z08.keep s1 _ _ tG) hx
  have sa:SqT K H' a2 [V.int n,V.int (z0E ns n r),V.ref b2]:=SqT.of ha2
  have tks:=z0r en
  refine⟨_,rfl,a2,_,0,_,rfl,rfl,sa,rfl,_,rfl,_,_,rfl,rfl,_,rfl,?_⟩
  rw[tks,dR,eX]
  refine A9 (fun c=>?_) (fun c=>?_)
  ·refine⟨_,rfl,a2,_,1,_,rfl,rfl,sa,rfl,rfl,_,rfl,?_⟩
   rw[c,gE]
   refine A9 (fun c2=>?_) (fun c2=>?_)
   ·have c3:z0E ns n r=0:=by
     have:=z0F c2
     injection this
    rw[decide_eq_true c3,if_pos rfl,bE]
    exact⟨_,rfl,a2,_,0,_,rfl,rfl,sa,rfl,rfl,rfl⟩
   ·have c3:¬z0E ns n r=0:=fun e=>z3v c2 (by rw[e])
    rw[decide_eq_false c3,if_neg bI,fT,cU]
    exact⟨rfl,rfl⟩
  ·rw[gU.mpr c,gO]
   refine C6 ?_
   rw[if_neg bI,fT,cU]
   exact⟨rfl,rfl⟩
 ·obtain⟨rfl,rfl⟩:=hp
  rw[lz,bV]
  have ed:((z0W ns).filter fun n=>decide (num<n) && decide (z0E ns n r=0))=z1P ns r num:=rfl
  rw[ed]
  intro D hD
  refine⟨(by show 0≤sizeLine;decide),fun e0 he0=>⟨D,e0,_,rfl,rfl,SqL.of (z01 he0 _ _ _ z02),SqL.of z02,_,rfl,?_⟩⟩
  have s2:=s1.trans ((z01 hD (.lst ((z1P ns r num).map V.int))).trans (z01 he0 (.lst [])))
  cases e:z1P ns r num with
  | nil=>
   rw[e] at s2
   refine C6 ?_
   have es:z0B ns rows r num z="sure":=by
    unfold z0B
    rw[if_neg nx,if_pos e]
   exact(by rw[<- es];exact q _ s2)
  | cons y ys=>
   rw[e] at s2
   refine N0 ?_
   have es:z0B ns rows r num z="open":=by
    unfold z0B
    rw[if_neg nx,if_neg (by rw[e];simp)]
   exact(by rw[<- es];exact q _ s2)
def V6(ns:List Int)(rows:List Row)(r:Int)(z:Str):DV:=.tup [.str z,.str (z0B ns rows r (z0I (z0w (z0g ns) rows z)) z),.int (z0I (z0w (z0g ns) rows z)),y39 (z0w (z0g ns) rows z)]
def y1l(nm:List Str)(ns:List Int)(rows:List Row)(r:Int):DV:=.tup (nm.map (V6 ns rows r))
def y0m(K:PySem.W.Frag):Sp:=fun vs H Q _=>∃(ln p lr:Addr) (nm:List Str) (ns:List Int) (us:List V) (rows:List Row) (r:Int),vs=[.ref ln,.ref p,.ref lr,.int r]/\SqL K H ln (nm.map V.str)/\nm.length≤12/\H p=some (.lst (ns.map V.int))/\ns.length<64/\ns.Nodup/\(∀x∈ns,1≤x/\x≤60)/\(∀x∈ns,x≤rows.length)/\
 SqL K H lr us/\z08 H (rows.map K4) us/\(∀w∈rows,w.length≤12)/\0≤r/\∀(v:V) (H':Hp),A4 H H'->A7 H' (y1l nm ns rows r) v->Q v H'
theorem y4R(M:Bl mg)(F:Fun K "_law_table" "_law_table" z5b f fd)(N1:Cal P w K mg base 2 "_law_gaps" z6c (y6d K))(M7:Cal P w K mg base 1 "_law_held" z68 (y2E K))
  (K5:Cal P w K mg base 2 "_law_state" z4P (y3S K)):A5 P w K mg base CX0 3 f fd z3A (y0m K):=by
 have nd:=z6A.nd
 refine F.ok z6A (fun vs H Q E h=>?_) (fun cdv A outer s H vs Q E hr h=>?_)
 ·obtain⟨ln,p,lr,nm,ns,us,rows,r,rfl,_⟩:=h
  rfl
 obtain⟨ln,p,lr,nm,ns,us,rows,r,rfl,hN,n12,hP,h64,nds,B3,hup,hR,tl,h12,r0,q⟩:=h
 refine⟨_,(z04 (z0l (i:=4) nd rfl (Or.inl rfl) (z0k N1 (rm hr) rfl (z00 (pv 1) (z00 (pv 2) (z00 (pv 3) z03))))) (z04 (z0l (i:=5) nd rfl (Or.inl rfl) (z1j z03)) (z04 (z1h cC rfl (z18 (pv 0)) (z0j (i:=6) nd rfl (Or.inl rfl)) (z04 (z0l (i:=7) nd rfl (Or.inl rfl) (z0k M7 (rm hr) rfl (z00 (pv 1) (z00 (pv 2) (z00 (pv 6) z03))))) (z05 (z0C (z36 bY c7 cA z0O (pv 5) (z00 (z1b (z00 (pv 6) (z00 (z0k K5 (rm hr) rfl (z00 (pv 4) (z00 (z0K z0U (pv 7) z06 (fun _ _=>rfl)) (z00 (pv 6) z03)))) (z00 (z0K z0U (pv 7) z06 (fun _ _=>rfl)) (z00 (z0K z0U (pv 7) z06 (fun _ _=>rfl)) z03))))) z03)))))) (z05 (z0h (z0o z0t rfl M.tuple bT (z00 (pv 5) z03))))))),?_⟩
 refine⟨_,rfl,_,rfl,_,rfl,p,lr,ns,us,rows,r,rfl,hP,B3,by omega,hup,hR,tl,h12,r0,fun lg gz H1 nlg s1 eG tG=>?_⟩
 refine⟨(by show 0≤sizeLine;decide),fun lt hlt=>?_⟩
 refine⟨_,rfl,ln,rfl,⟨_,(s1.trans (z01 hlt _)).seq hN⟩,z1m (K:=K) (a:=ln) (xs:=nm.map V.str) (fun i σ H'=>∃(ts:List V) (o1 o2:Option V),(∀b u,H1 b=some u->H' b=some u)/\H' lt=some (.lst ts)/\z08 H' ((nm.take i).map (V6 ns rows r)) ts/\
   σ=[some (.ref ln),some (.ref p),some (.ref lr),some (.int r),some (.ref lg),some (.ref lt),o1,o2])
  ⟨[],none,none,z01 hlt _,z02,by rw[dG];exact .nil,rfl⟩ (fun i σ H' _ ⟨_,_,_,g,_⟩=>(s1.trans g).seq hN) ?_ ?_⟩
 ·rintro i x σ H' hi ⟨ts,o1,o2,g,eT,tT,rfl⟩
  have g':A4 H1 H':=g
  obtain⟨z,hz,rfl⟩:∃z,nm[i]? = some z/\x=V.str z:=by
   rw[bG] at hi
   cases e:nm[i]? with
   | none=>rw[e] at hi;cases hi
   | some z=>rw[e] at hi;exact⟨z,rfl,(Option.some.inj hi).symm⟩
  have lts:ts.length≤12:=by
   rw[tT.length,b8,bO]
   omega
  have sg:=s1.trans g'
  refine⟨_,rfl,_,rfl,_,rfl,p,lr,ns,us,rows,z,rfl,SqL.of (sg _ _ hP),h64,nds,B3,hup,sg.seq hR,z08.keep sg _ _ tl,fun hv H3 s3 th=>?_⟩
  obtain⟨ah,y,rfl,eh,ty⟩:=z5q th
  have sah:SqT K H3 ah [V.int (z0I (z0w (z0g ns) rows z)),y]:=SqT.of eh
  refine⟨_,rfl,.inl ⟨rfl,_,SqL.of (s3 _ _ eT)⟩,_,rfl,_,rfl,_,rfl,ah,_,0,_,rfl,rfl,sah,rfl,_,rfl,lg,gz,ns,rows,r,_,z,rfl,SqL.of (s3 _ _ (g _ _ eG)),z08.keep (g'.trans s3) _ _ tG,fun H4 s4=>?_⟩
  have sah4:SqT K H4 ah [V.int (z0I (z0w (z0g ns) rows z)),y]:=SqT.of (s4 _ _ eh)
  refine⟨_,rfl,ah,_,0,_,rfl,rfl,sah4,rfl,_,rfl,ah,_,1,_,rfl,rfl,sah4,rfl,(by show 4≤sizeLine;decide),fun t ht=>?_⟩
  have s34:=s3.trans (s4.trans (z01 ht (.tup [V.str z,V.str (z0B ns rows r (z0I (z0w (z0g ns) rows z)) z),V.int (z0I (z0w (z0g ns) rows z)),y])))
  refine⟨lt,_,_,rfl,rfl,s34 _ _ eT,z0f (by omega),?_⟩
  refine⟨_,_,_,fun b u e=>?_,z02,?_,rfl⟩
  ·rw[z0e (z0i e hlt)]
   exact s34 _ _ (g b u e)
  ·rw[z0r hz,bE]
   refine z08.over (s34 _ _ eT) (fun _ e=>by cases e) _ _ (z08.snoc (z08.keep s34 _ _ tT) (z0A z02 (by show 4≤1000000;decide) (.cons (z2E _) (.cons (z2E _) (.cons (z0H _) (.cons ?_ .nil))))))
   exact A7.keep (s4.trans (z01 ht _)) _ _ ty
 ·rintro σ H' ⟨ts,o1,o2,g,eT,tT,rfl⟩
  rw[b8,bV] at tT
  refine⟨_,rfl,lt,ts,rfl,.inl ⟨SqL.of eT,fun l hl=>?_⟩⟩
  refine q _ _ (s1.trans (A4.trans g (z01 hl _))) (z0A z02 ?_ (z08.keep (z01 hl _) _ _ tT))
  rw[b8]
  omega
theorem y5a{ds:List DV}{n:Nat}(h:∀d∈ds,d.deep≤n):DV.O5 ds≤n:=by
 induction ds with
 | nil=>unfold DV.O5;exact cR _
 | cons d r ih=>
  unfold DV.O5
  exact Nat.max_le.mpr ⟨h d bQ,ih fun x hx=>h x (bL _ hx)⟩
theorem y16{ds:List DV}{n:Nat}(h:∀d∈ds,d.deep≤n):(DV.tup ds).deep≤n+1:=by
 unfold DV.deep
 exact jF (y5a h)
theorem y1a(i:Int)(n:Nat):(DV.int i).deep≤n:=by unfold DV.deep;exact cR _
theorem y1f(i:Str)(n:Nat):(DV.str i).deep≤n:=by unfold DV.deep;exact cR _
theorem z8E{rows:List Row}{j:Nat}{k:Int}(h0:1≤k)(h:k≤j):z0z (rows.take j) k=z0z rows k:=by
 unfold z0z
 have hk:(k-1).toNat<j:=by omega
 rw[bJ,bJ,List.getElem?_take,if_pos hk]
theorem y0v{rows:List Row}{j:Nat}{n r:Int}(h0:1≤n)(h:n≤j):z13 (rows.take j) n r=z13 rows n r:=by
 unfold z13 y5u
 rw[z8E h0 h]
 have e:(z5S n r).map (y1N (rows.take j))=(z5S n r).map (y1N rows):=gG fun k hk=>by
  unfold z5S at hk
  rw[bU,z8Z] at hk
  unfold y1N
  rw[z8E (by omega) (by omega)]
 rw[e]
abbrev OfP:=Hp->Addr->List Addr->List Str->Int->List Row->Prop
structure W7(C:Addr)(ms:List Str)(Of:OfP):Prop where
 ins:∀{H p fp zs r rows},Of H p fp zs r rows->∃dx fs,H p=some (.ins C dx fs)/\∀m∈ms,fs.lookup m=none
 own:∀{H p fp zs r rows},Of H p fp zs r rows->∀b∈fp,∃o,H b=some o/\∀xs,o≠.tup xs
 keep:∀{H H' p fp gp zs r rows},Of H p fp zs r rows->z0v gp H H'->(∀b∈gp,b∉fp)->z5Y H gp->Of H' p fp zs r rows
theorem W7.same{C:Addr}{ms:List Str}{Of:OfP}(O:W7 C ms Of){H H':Hp}{p:Addr}{fp:List Addr}{zs:List Str}{r:Int}{rows:List Row}(h:Of H p fp zs r rows)(s:A4 H H'):Of H' p fp zs r rows:=
 O.keep (gp:=[]) h (.of s) (fun _ q=>by cases q) fun _ q=>by cases q
theorem W7.S7{C:Addr}{ms:List Str}{Of:OfP}(O:W7 C ms Of){H:Hp}{p:Addr}{fp:List Addr}{zs:List Str}{r:Int}{rows:List Row}(h:Of H p fp zs r rows):z5Y H fp:=fun b m xs e=>by
 obtain⟨o,e1,n⟩:=O.own h b m
 rw[e1] at e
 exact n xs (Option.some.inj e)
def z8U(K:PySem.W.Frag)(H:Hp)(fp:List Addr)(u:V)(p:Str×Int):Prop:=∃a,u=.ref a/\(SqL K H a [.str p.1,.int p.2]\/SqT K H a [.str p.1,.int p.2])/\a∉fp
def y2W(K:PySem.W.Frag)(H:Hp)(fp:List Addr)(v:V)(pr:Row):Prop:=∃a us,v=.ref a/\SqP K H a us/\a∉fp/\Paired (z8U K H fp) us pr
def z1f(zs:List Str)(pr:Row):Row:=zs.filterMap fun z=>pr.find? fun p=>decide (p.1=z)
structure GoodR(zs:List Str)(pr:Row):Prop where
 nd:(pr.map Prod.fst).Nodup
 sub:∀p∈pr,p.1∈zs
 val:∀p∈pr,0≤p.2/\p.2≤1000000
def y1x(K:PySem.W.Frag)(C:Addr)(Of:OfP):Sp:=fun vs H Q _=>∃(x dx pn:Addr) (zs:List Str) (r:Int),vs=[.ref x,.ref pn,.int r]/\H x=some (.ins C dx [])/\dx≠x/\H dx=some (.own x)/\HdN K H pn zs/\E4 zs/\0≤r/\r≤10/\
 ∀(fp:List Addr) (H':Hp),(∀b∈fp,b=x\/b=dx\/H b=none)->z0v [x] H H'->Of H' x fp zs r []->Q .non H'
def y0a(K:PySem.W.Frag)(Of:OfP):Sp:=fun vs H Q _=>∃(p:Addr) (v:V) (fp:List Addr) (zs:List Str) (r:Int) (rows:List Row) (pr:Row),vs=[.ref p,v]/\Of H p fp zs r rows/\y2W K H fp v pr/\GoodR zs pr/\pr.length≤12/\rows.length<60/\
 ∀(fp':List Addr) (H':Hp),(∀b∈fp',b∈fp\/H b=none)->z0v fp H H'->Of H' p fp' zs r (rows++[z1f zs pr])->Q (.int (rows.length+1)) H'
def z8d(Of:OfP):Sp:=fun vs H Q _=>∃(p:Addr) (fp:List Addr) (zs:List Str) (r:Int) (rows:List Row),vs=[.ref p]/\Of H p fp zs r rows/\∀H',A4 H H'->Q (.int rows.length) H'
def z5k(Of:OfP):Sp:=fun vs H Q _=>∃(p:Addr) (fp:List Addr) (zs:List Str) (r:Int) (rows:List Row) (n:Int),vs=[.ref p,.int n]/\Of H p fp zs r rows/\1≤n/\n≤rows.length/\
 ∀(v:V) (H':Hp),A4 H H'->A7 H' (z13 rows n r) v->Q v H'
theorem z32{z:Str}{zs:List Str}{pr:Row}:z1f (z::zs) pr=(match pr.find? fun p=>decide (p.1=z) with|some p=>p::z1f zs pr|none=>z1f zs pr):=by
 unfold z1f
 rw[eJ]
 cases pr.find? fun p=>decide (p.1=z)<;>rfl
theorem z6j{p:Str×Int}{w:Row}:∀{zs:List Str},p.1∉zs->z1f zs (p::w)=z1f zs w
 | [],_=>rfl
 | y::ys,h=>by
  rw[bB,not_or] at h
  rw[z32,z32,dJ,decide_eq_false h.1,z6j h.2]
theorem z57:∀{zs:List Str}{w:Row},zs.Nodup->(w.map Prod.fst).Sublist zs->z1f zs w=w
 | [],w,_,h=>by
  have:w.map Prod.fst=[]:=List.sublist_nil.mp h
  rw[List.map_eq_nil_iff] at this
  rw[this]
  rfl
 | z::zs,w,nd,h=>by
  rw[cV] at nd
  generalize e:w.map Prod.fst=l at h
  cases h with
  | cons _ h=>
   subst e
   have no:w.find? (fun p=>decide (p.1=z))=none:=fS.mpr fun p hp=>by
    have:p.1∈zs:=h.subset (gF hp)
    intro e
    exact nd.1 (of_decide_eq_true e ▸ this)
   rw[z32,no]
   exact z57 nd.2 h
  | cons_cons _ h=>
   cases w with
   | nil=>cases e
   | cons p w=>
    rw[cG] at e
    injection e with e1 e2
    subst e2
    rw[z32,dJ,decide_eq_true e1,z6j (by rw[e1];exact nd.1),z57 nd.2 h]
def tsN(n:Int)(j:Nat):List Int:=(dnI n j).filter fun k=>decide (1≤k)
def tsP(ss:List (List Str))(k:Int):DV:=.tup [.int k,Q6 (ss.getD (k-1).toNat [])]
def tsD(ss:List (List Str))(r:Int):DV:=.tup ((tsN ss.length r.toNat).map (tsP ss))
theorem y72(n:Int)(j:Nat):(tsN n j).length≤j:=by
 have h:=cF (fun k=>decide (1≤k)) (dnI n j)
 rw[y46] at h
 exact h
def y6b(K:PySem.W.Frag):Sp:=fun vs H Q _=>∃(p:Addr) (xs:List V) (ss:List (List Str)) (r:Int),vs=[.ref p,.int r]/\(SqL K H p xs\/SqT K H p xs)/\z08 H (ss.map Q6) xs/\ss.length≤59/\(∀s∈ss,s.length≤12)/\0≤r/\r≤10/\
 ∀(v:V) (H':Hp),A4 H H'->A7 H' (tsD ss r) v->Q v H'
def y03:Sp:=fun vs H Q _=>∃n r:Int,vs=[.int n,.int r]/\1≤n/\n≤60/\0≤r/\r≤10/\
 ∀(l:Addr) (H':Hp),A4 H H'->H' l=some (.tup (((upI 1 60).filter fun x=>decide (x≤n) && decide (n-x≤r)).map V.int))->Q (.ref l) H'
theorem y2c{n r:Int}(h1:1≤n)(h2:n≤60)(h3:0≤r)(h4:r≤10) :
  N4 (if n-r > 1 then n-r else 1) (n+1-(if n-r > 1 then n-r else 1)).toNat=((upI 1 60).filter fun x=>decide (x≤n) && decide (n-x≤r)).map V.int:=by
 rw[y3B]
 refine congrArg (List.map V.int) (z2f (z1M _ _) ((z1M _ _).filter _) fun x=>?_)
 rw[bU,z17,z17,bS,decide_eq_true_eq,decide_eq_true_eq]
 split<;>omega
theorem y1D(M:Bl mg)(F:Fun K "reached_by" "reached_by" z4N f fd):A5 P w K mg base CX0 1 f fd z4K y03:=by
 have nd:=z6l.nd
 refine F.ok z6l (fun vs H Q E h=>?_) (fun cdv A outer s H vs Q E hr h=>?_)
 ·obtain⟨n,r,rfl,_⟩:=h
  rfl
 obtain⟨n,r,rfl,h1,h2,h3,h4,q⟩:=h
 refine⟨_,(z05 (z0h (z0o (z87 rfl) rfl M.tuple bT (z00 (z0o y4e rfl M.range PyProof.Rows.boot_range (z00 (z0b (y4g rfl) rfl M.max fA (z00 z06 (z00 (z0s z3r (pv 0) (pv 1)) z03))) (z00 (z0s z1D (pv 0) z06) z03))) z03)))),?_⟩
 refine⟨_,rfl,_,rfl,_,_,rfl,rfl,_,_,rfl,_,rfl,_,_,rfl,rfl,_,_,rfl,fun p hp=>?_⟩
 refine⟨p,_,_,rfl,z02,⟨?_,?_,?_,?_⟩,?_,fun l hl=>?_⟩
 ·split<;>omega
 ·split<;>omega
 ·omega
 ·omega
 ·split<;>omega
 ·refine q l _ ((z01 hp _).trans (z01 hl _)) ?_
  rw[z02,y2c h1 h2 h3 h4]
theorem z7O(hi:Int)(j:Nat):(dnI hi j).Pairwise (· > ·):=by
 unfold dnI
 rw[dY]
 exact gX.imp fun h=>by omega
theorem z81{n:Int}{j:Nat}{x:Int}:x∈tsN n j↔1≤x/\n-j<x/\x≤n:=by
 unfold tsN
 rw[bU,z8Z,decide_eq_true_eq]
 omega
theorem y6p(n:Int)(j:Nat):(tsN n j).reverse.Pairwise (· < ·):=by
 rw[hZ]
 exact((z7O n j).filter _).imp fun h=>h
theorem y4f{n r:Int}(h0:0≤n)(h1:n≤59)(r0:0≤r)(r1:r≤10):((upI 1 60).filter fun x=>decide (x≤n+1) && decide (n+1-x≤r))=(tsN n r.toNat).reverse++[n+1]:=by
 refine z2f ((z1M _ _).filter _) (dL.mpr ⟨y6p _ _,fM _ _,fun x hx y hy=>?_⟩) fun x=>?_
 ·rw[hJ,z81] at hx
  rw[bA] at hy
  omega
 ·rw[bU,z17,bS,decide_eq_true_eq,decide_eq_true_eq,bM,hJ,z81,bA]
  omega
theorem y6Z(M:Bl mg)(F:Fun K "tail_for" "tail_for" z70 f fd)(L6:Cal P w K mg base 1 "reached_by" z4K y03):A5 P w K mg base CX0 2 f fd z7i (y6b K):=by
 have nd:=z8m.nd
 refine F.ok z8m (fun vs H Q E h=>?_) (fun cdv A outer s H vs Q E hr h=>?_)
 ·obtain⟨p,xs,ss,r,rfl,_⟩:=h
  rfl
 obtain⟨p,xs,ss,r,rfl,hS,tS,l60,l12,r0,r1,k⟩:=h
 refine⟨_,(z04 (z0l (i:=2) nd rfl (Or.inl rfl) (z0s z1D (z0b z0a rfl M.len bP (z00 (pv 0) z03)) z06)) (z04 (z0l (i:=3) nd rfl (Or.inl rfl) (z3N y64 (z0k L6 (rm hr) rfl (z00 (pv 2) (z00 (pv 1) z03))) z4V (z54 (y7s y5V z06)))) (z05 (z0h (z0o z0t rfl M.tuple bT (z00 (z1i ["earlier"] ["sets"] [0] rfl (z0u rfl (by decide +kernel) rfl (by decide +kernel) rfl rfl) (y5S rfl M.reversed (z00 (pv 3) z03)) (fun _ _ _ _ _=>(z0j (i:=0) (show((["earlier"]:List PySem.Str)++(["sets"]:List PySem.Str)).Nodup from by decide +kernel) rfl (Or.inl rfl))) (z0x (by decide)) z0d (fun _ _ _ _ _=>z1Y) (fun _ _ _ _ _=>(z1b (z00 (pv 0) (z00 (z0o (z85 (K:=K) rfl) rfl M.tuple bT (z00 (z0K (r:=rIx K) y7g (pv 1) (z0s z3r (pv 0) z06) (fun _ _=>rfl)) z03)) z03))))) z03)))))),?_⟩
 have lx:xs.length=ss.length:=by rw[tS.length,b8]
 have lx':(xs.length:Int)=ss.length:=by omega
 refine⟨_,rfl,p,xs,rfl,hS,_,_,rfl,rfl,?_⟩
 refine⟨_,rfl,_,rfl,(xs.length:Int)+1,r,rfl,by omega,by omega,r0,r1,fun l H1 s1 e1=>?_⟩
 rw[lx',y4f (by omega) (by omega) r0 r1] at e1
 have eL:(((tsN ss.length r.toNat).reverse++[(ss.length:Int)+1]).map V.int).length=(tsN ss.length r.toNat).length+1:=by
  rw[b8,bN,gH]
  rfl
 have sx:HT.sIx (((tsN ss.length r.toNat).reverse++[(ss.length:Int)+1]).map V.int).length (((tsN ss.length r.toNat).reverse++[(ss.length:Int)+1]).map V.int).length (some (-1))=(tsN ss.length r.toNat).length:=by
  rw[eL]
  show(if (-1:Int)<0 then (-1+(((tsN ss.length r.toNat).length+1:Nat):Int)).toNat else min (-1:Int).toNat ((tsN ss.length r.toNat).length+1))=_
  rw[if_pos (by decide)]
  omega
 have cut:M1 (((tsN ss.length r.toNat).reverse++[(ss.length:Int)+1]).map V.int) none (some (-1))=(tsN ss.length r.toNat).reverse.map V.int:=by
  unfold M1
  rw[sx]
  show List.take ((tsN ss.length r.toNat).length-0) (List.drop 0 _)=_
  rw[gP,jL,bE,List.take_left' (by rw[b8,gH])]
 refine⟨_,rfl,-1,rfl,l,_,rfl,SqT.of e1,?_,fun a ha=>?_⟩
 ·rintro⟨_,z⟩
  rw[sx,eL] at z
  omega
 rw[cut]
 have s2:=s1.trans (z01 ha (.tup ((tsN ss.length r.toNat).reverse.map V.int)))
 have e2:upd H1 a (.tup ((tsN ss.length r.toNat).reverse.map V.int)) a=some (.tup ((tsN ss.length r.toNat).reverse.map V.int)):=z02
 generalize upd H1 a (.tup ((tsN ss.length r.toNat).reverse.map V.int))=H2 at s2 e2
 have le:=y72 ss.length r.toNat
 have lr:((tsN ss.length r.toNat).reverse.map V.int).length=(tsN ss.length r.toNat).length:=by rw[b8,gH]
 refine⟨_,rfl,a,_,rfl,SqT.of e2,?_⟩
 refine y4N (fun i ys H'=>A4 H2 H'/\z08 H' (((tsN ss.length r.toNat).take i).map (tsP ss)) ys) ⟨A4.refl _,by rw[dG];exact .nil⟩ (fun i ys H' hi hp=>?_) (fun i x ys H' hx hp=>?_) (fun ys H' hp=>?_)
 ·obtain⟨g,t⟩:=hp
  refine⟨SqT.of (g _ _ e2),z0f ?_⟩
  rw[t.length,b8,bO]
  omega
 ·obtain⟨g,t⟩:=hp
  rw[<- List.map_reverse,gB,bG] at hx
  obtain⟨m,hm,rfl⟩:=cE.mp hx
  have hb:=z81.mp (bR hm)
  have hk:(m-1).toNat<ss.length:=by omega
  have t2:=z08.keep (s2.trans g) _ _ tS
  obtain⟨v,ev,tv⟩:=t2.get (m-1).toNat (Q6 (ss.getD (m-1).toNat [])) (by
   rw[bG,bJ,bD hk]
   rfl)
  have av:atI xs (m-1)=some v:=by
   have e:m-1=(((m-1).toNat:Nat):Int):=by omega
   rw[e]
   exact z11 ev
  obtain⟨b,us,rfl,eb,_,_⟩:=z0q tv
  refine⟨_,rfl,_,rfl,_,rfl,_,_,rfl,rfl,?_⟩
  have go:∀(z:A7 H' (Q6 (ss.getD (m-1).toNat [])) (.ref b)),y5O K [.ref b] H' fun x H3=>[V.int m,x].length≤sizeLine/\∀q,H3 q=none->A4 H2 (upd H3 q (.tup [.int m,x]))/\z08 (upd H3 q (.tup [.int m,x])) (((tsN ss.length r.toNat).take (i+1)).map (tsP ss)) (ys++[.ref q]):=fun z=>
   ⟨b,us,rfl,.inr ⟨SqT.of eb,by show 2≤sizeLine;decide,fun q hq=>⟨g.trans (z01 hq _),by
    rw[eI,hm,bE]
    exact z08.snoc (z08.keep (z01 hq _) _ _ t) (z0A z02 (by show 2≤1000000;decide) (.cons (z0H _) (.cons (A7.keep (z01 hq _) _ _ z) .nil)))⟩⟩⟩
  rcases hS with hS|hS
  ·exact .inl ⟨p,xs,_,.ref b,rfl,rfl,(s2.trans g).seq hS,av,go tv⟩
  ·exact .inr (.inl ⟨p,xs,_,.ref b,rfl,rfl,z6P (s2.trans g) hS,av,go tv⟩)
 ·obtain⟨g,t⟩:=hp
  rw[lr,bV] at t
  intro D hD
  refine⟨D,ys,rfl,.inl ⟨SqL.of z02,fun q hq=>k _ _ (s2.trans (g.trans ((z01 hD _).trans (z01 hq _)))) (z0A z02 ?_ (z08.keep ((z01 hD _).trans (z01 hq _)) _ _ t))⟩⟩
  rw[b8]
  omega
def kvR(p:Str×Int):Key×V:=(Sum.inr p.1,.int p.2)
def y6l(K:PySem.W.Frag):Sp:=fun vs H Q _=>∃(p:Addr) (zs:List Str) (z:Str),vs=[.ref p,.str z]/\SqN K H p zs/\z∈zs/\Q .non H
theorem z9D(x:Str)(ns:List Str):inV (.str x) (ns.map V.str)=decide (x∈ns):=by
 unfold inV
 rw[dH,gM,hE,decide_eq_true_eq]
 constructor
 ·rintro⟨y,hy,e⟩
  have:y=x:=by simpa [eqV] using e
  exact this ▸ hy
 ·intro h
  exact⟨x,h,by simp[eqV]⟩
theorem y7O(M:Bl mg)(F:Fun K "refuse_unknown_name" "refuse_unknown_name" z1H f fd):A5 P w K mg base CX0 1 f fd z1c (y6l K):=by
 have nd:=z2k.nd
 refine F.ok z2k (fun vs H Q E h=>?_) (fun cdv A outer s H vs Q E hr h=>?_)
 ·obtain⟨p,zs,z,rfl,_⟩:=h
  rfl
 obtain⟨p,zs,z,rfl,hp,hz,k⟩:=h
 refine⟨_,(z05 (z0N (z0c z1k (pv 1) (pv 0) (by with_unfolding_all rfl)) (z05 z1s) z0p)),?_⟩
 refine⟨_,rfl,_,rfl,p,_,rfl,hp,rfl,z2V zs,_,rfl,?_⟩
 rw[if_pos rfl,z9D,decide_eq_true hz]
 exact A9 (fun c=>absurd c (by decide)) fun _=>k
def y1t:Sp:=fun vs H Q _=>∃v:Int,vs=[.int v]/\0≤v/\v≤1000000/\Q .non H
theorem y3Q(M:Bl mg)(F:Fun K "refuse_bad_value" "refuse_bad_value" z29 f fd):A5 P w K mg base CX0 1 f fd z2c y1t:=by
 have nd:=z31.nd
 refine F.ok z31 (fun vs H Q E h=>?_) (fun cdv A outer s H vs Q E hr h=>?_)
 ·obtain⟨r,rfl,_⟩:=h
  rfl
 obtain⟨r,rfl,r0,r1,k⟩:=h
 refine⟨_,(z05 (z0N (PW.pt (z4v (z0c z8P (pv 0) z06 (z0n _)) (z2P (z0c z2A (pv 0) (z2F rfl M.MOST_VALUE) (z0n _))))) (z05 z1s) z0p)),?_⟩
 refine⟨_,rfl,_,_,rfl,rfl,_,rfl,A9 (fun q=>absurd (z0F q) (by omega)) fun _=>?_⟩
 exact⟨_,rfl,_,_,rfl,rfl,_,rfl,A9 (fun q=>absurd (z0F q) (by omega)) fun _=>k⟩
def z2x(K:PySem.W.Frag)(H:Hp)(u:V)(p:Str×Int):Prop:=∃a,u=.ref a/\(SqL K H a [.str p.1,.int p.2]\/SqT K H a [.str p.1,.int p.2])
theorem z2x.keep{K:PySem.W.Frag}{H H':Hp}(s:A4 H H'):∀{us:List V}{pr:Row},Paired (z2x K H) us pr->Paired (z2x K H') us pr
 | _,_,.nil=>.nil
 | _,_,.cons ⟨a,e,h⟩ t=>.cons ⟨a,e,h.imp (fun q=>s.seq q) fun q=>z6P s q⟩ (z2x.keep s t)
theorem z2x.at{K:PySem.W.Frag}{H:Hp}:∀{us:List V}{pr:Row},Paired (z2x K H) us pr->∀(i:Nat) (x:V),us[i]? = some x->∃p,pr[i]? = some p/\z2x K H x p
 | _,_,.nil,i,x,e=>by simp at e
 | _,_,.cons r t,0,x,e=>by
  simp at e
  subst e
  exact⟨_,rfl,r⟩
 | _,_,.cons r t,i+1,x,e=>by
  obtain⟨y,h1,h2⟩:=z2x.at t i x (by simpa using e)
  exact⟨y,by simpa using h1,h2⟩
theorem z2x.pairs{K:PySem.W.Frag}{H:Hp}:∀{us:List V}{pr:Row},Paired (z2x K H) us pr->Paired (y40 K H) us (pr.map kvR)
 | _,_,.nil=>.nil
 | _,_,.cons ⟨a,e,h⟩ t=>.cons ⟨a,e,h⟩ (z2x.pairs t)
theorem z2x.of{K:PySem.W.Frag}{H:Hp}{fp:List Addr}:∀{us:List V}{pr:Row},Paired (z8U K H fp) us pr->Paired (z2x K H) us pr
 | _,_,.nil=>.nil
 | _,_,.cons ⟨a,e,h,_⟩ t=>.cons ⟨a,e,h⟩ (z2x.of t)
theorem SqP.or{K:PySem.W.Frag}{H:Hp}{a:Addr}{us:List V}(h:SqP K H a us):SqL K H a us\/SqT K H a us:=h.imp id SqT.of
theorem SqP.keep{K:PySem.W.Frag}{H H':Hp}{a:Addr}{us:List V}(s:A4 H H')(h:SqP K H a us):SqP K H' a us:=h.imp (fun q=>s.seq q) fun q=>s _ _ q
def y0c(K:PySem.W.Frag):Sp:=fun vs H Q _=>∃(pn a:Addr) (zs:List Str) (us:List V) (pr:Row),vs=[.ref pn,.ref a]/\SqN K H pn zs/\SqP K H a us/\Paired (z2x K H) us pr/\GoodR zs pr/\pr.length≤12/\∀H',A4 H H'->Q .non H'
theorem y27(M:Bl mg)(F:Fun K "refuse_bad_rows" "refuse_bad_rows" z2p f fd)(B5:Cal P w K mg base 1 "refuse_unknown_name" z1c (y6l K))
  (E3:Cal P w K mg base 1 "refuse_bad_value" z2c y1t):A5 P w K mg base CX0 2 f fd z2t (y0c K):=by
 have nd:=z3t.nd
 refine F.ok z3t (fun vs H Q E h=>?_) (fun cdv A outer s H vs Q E hr h=>?_)
 ·obtain⟨pn,a,zs,us,pr,rfl,_⟩:=h
  rfl
 obtain⟨pn,a,zs,us,pr,rfl,hn,ha,hp,g,l12,k⟩:=h
 refine⟨_,(z04 (z4X (i:=2) ["name","value"] [] [] rfl nd rfl (Or.inl rfl) (z0u rfl (by decide +kernel) rfl (by decide +kernel) rfl rfl) (y4a (pv 1)) (fun _ _ _ _ _=>(y3W (K:=K) (n:=2) rfl rfl (z1C (z0j (i:=0) (show((["name","value"]:List PySem.Str)++([]:List PySem.Str)).Nodup from by decide +kernel) rfl (Or.inl rfl)) (z1C (z0j (i:=1) (show((["name","value"]:List PySem.Str)++([]:List PySem.Str)).Nodup from by decide +kernel) rfl (Or.inl rfl)) z66)))) (y6q (z20 (z0x (by decide)) z0d (z20 (z0x (by decide)) z0d z6X z1e) (z0P z0d z1e))) (y4P (z0P z0d (z0P z0d z1e))) (fun _ _ _ _ _=>z1Y) (fun _ _ _ _ _=>(pv 0))) (z04 (z1h cC rfl (z18 (pv 2)) (z0j (i:=3) nd rfl (Or.inl rfl)) (z05 (z0C (z0k B5 (rm hr) rfl (z00 (pv 0) (z00 (pv 3) z03)))))) (z04 (z0N (z0c z86 (z0b z5y rfl M.len bP (z00 (z0o (z4y rfl) rfl M.set fB (z00 (pv 2) z03)) z03)) (z0b z0a rfl M.len bP (z00 (pv 2) z03)) (z0n _)) (z05 z1s) z0p) (z05 (z1h cC rfl (y4a (pv 1)) (y3W (K:=K) (n:=2) rfl rfl (z1C (z0j (i:=3) nd rfl (Or.inl rfl)) (z1C (z0j (i:=4) nd rfl (Or.inl rfl)) z66))) (z05 (z0C (z0k E3 (rm hr) rfl (z00 (pv 4) z03))))))))),?_⟩
 obtain⟨t,ht⟩:=SqS.of (SqP.or ha)
 have lu:us.length=pr.length:=hp.length
 refine⟨_,rfl,a,t,rfl,⟨_,ht⟩,?_⟩
 refine y1r (xs:=us) (fun i ys H'=>H'=H/\ys=((pr.take i).map Prod.fst).map V.str) ⟨rfl,rfl⟩ (fun i ys H' hi hq=>?_) (fun i x ys H' hx hq=>?_) (fun ys H' hq=>?_)
 ·obtain⟨rfl,rfl⟩:=hq
  refine⟨ht,z0f ?_⟩
  rw[b8,b8,bO]
  omega
 ·obtain⟨rfl,rfl⟩:=hq
  obtain⟨p,ep,b,rfl,hb⟩:=z2x.at hp i x hx
  refine⟨b,_,rfl,hb,rfl,_,_,rfl,_,_,rfl,rfl,?_⟩
  refine⟨_,rfl,rfl,?_⟩
  rw[z0r ep,bE,bE]
  rfl
 obtain⟨rfl,rfl⟩:=hq
 rw[lu,bV]
 intro D hD
 have s1:=z01 hD (.lst ((pr.map Prod.fst).map V.str))
 have e1:upd H' D (.lst ((pr.map Prod.fst).map V.str)) D=some (.lst ((pr.map Prod.fst).map V.str)):=z02
 generalize upd H' D (.lst ((pr.map Prod.fst).map V.str))=H1 at s1 e1
 have hn1:=SqN.keep s1 hn
 have ht1:=SqS.keep s1 ht
 have hp1:=z2x.keep s1 hp
 refine⟨_,rfl,D,rfl,⟨_,SqL.of e1⟩,z1m (K:=K) (a:=D) (xs:=(pr.map Prod.fst).map V.str) (fun i σ H2=>∃o:Option V,H2=H1/\σ=[some (.ref pn),some (.ref a),some (.ref D),o,none]) ⟨none,rfl,rfl⟩ (fun i σ H2 _ ⟨_,e,_⟩=>e ▸ SqL.of e1) (fun i x σ H2 hx hq=>?_) (fun σ H2 hq=>?_)⟩
 ·obtain⟨o,rfl,rfl⟩:=hq
  rw[bG] at hx
  obtain⟨z,ez,rfl⟩:=cE.mp hx
  have hz:z∈zs:=by
   obtain⟨p,hpm,rfl⟩:=cB.mp (bR ez)
   exact g.sub p hpm
  exact⟨_,rfl,_,rfl,pn,zs,z,rfl,hn1,hz,_,rfl,rfl⟩
 obtain⟨o,rfl,rfl⟩:=hq
 have lf:(pr.map Prod.fst).length=pr.length:=b8 _
 refine⟨_,rfl,D,pr.map Prod.fst,rfl,.inl (SqL.of e1),by omega,fun l hl=>⟨l,pr.map Prod.fst,rfl,z02,by omega,_,rfl,D,_,rfl,.inl (SqL.of (z01 hl _ _ _ e1)),rfl,_,rfl,?_⟩⟩
 refine y7P (by rw[y0E g.nd,b8 (f:=V.str)]) ?_
 have s2:=s1.trans (z01 hl (P5 P w l (pr.map Prod.fst)))
 have ht2:=SqS.keep (z01 hl (P5 P w l (pr.map Prod.fst))) ht1
 have hp2:=z2x.keep (z01 hl (P5 P w l (pr.map Prod.fst))) hp1
 refine⟨_,rfl,a,t,rfl,⟨_,ht2⟩,?_⟩
 refine y6v (xs:=us) (fun i σ H3=>∃o1 o2:Option V,H3=upd H2 l (P5 P w l (pr.map Prod.fst))/\σ=[some (.ref pn),some (.ref a),some (.ref D),o1,o2]) ⟨_,_,rfl,rfl⟩ (fun i σ H3 _ ⟨_,_,e,_⟩=>e ▸ ht2) (fun i x σ H3 hx hq=>?_) (fun σ H3 hq=>?_)
 ·obtain⟨o1,o2,rfl,rfl⟩:=hq
  obtain⟨p,ep,b,rfl,hb⟩:=z2x.at hp2 i x hx
  have hv:=g.val p (bR ep)
  refine⟨b,_,rfl,hb,rfl,_,_,rfl,_,_,rfl,rfl,?_⟩
  exact⟨_,rfl,p.2,rfl,hv.1,hv.2,_,_,rfl,rfl⟩
 ·obtain⟨o1,o2,rfl,rfl⟩:=hq
  exact k _ s2
def z9S(K:PySem.W.Frag):Sp:=fun vs H Q _=>∃(pn a:Addr) (zs:List Str) (us:List V) (pr:Row),vs=[.ref pn,.ref a]/\SqN K H pn zs/\zs.length≤12/\SqP K H a us/\Paired (z2x K H) us pr/\(pr.map Prod.fst).Nodup/\pr.length≤12/\∀(v:V) (H':Hp),A4 H H'->A7 H' (K4 (z1f zs pr)) v->Q v H'
theorem z8Y{z:Str}:∀{pr:Row},J0 (pr.map kvR) (Sum.inr z:Key)=(pr.find? fun p=>decide (p.1=z)).map fun p=>V.int p.2
 | []=>rfl
 | p::w=>by
  rw[cG,dJ]
  by_cases e:p.1=z
  ·rw[z5x (show(kvR p).1=Sum.inr z by unfold kvR;rw[e]),decide_eq_true e]
   rfl
  ·rw[z5n (show ¬(kvR p).1=Sum.inr z from fun q=>e (Sum.inr.inj q)),decide_eq_false e]
   exact z8Y
theorem z9Z(zs:List Str)(z:Str)(pr:Row):z1f (zs++[z]) pr=z1f zs pr++(match pr.find? fun p=>decide (p.1=z) with|some p=>[p]|none=>[]):=by
 unfold z1f
 rw[List.filterMap_append,eJ]
 cases pr.find? fun p=>decide (p.1=z)<;>rfl
theorem z56(zs:List Str)(pr:Row):(z1f zs pr).length≤zs.length:=List.length_filterMap_le _ _
theorem y1P(M:Bl mg)(F:Fun K "rows_in_order" "rows_in_order" z3c f fd):A5 P w K mg base CX0 1 f fd z39 (z9S K):=by
 have nd:=z4i.nd
 refine F.ok z4i (fun vs H Q E h=>?_) (fun cdv A outer s H vs Q E hr h=>?_)
 ·obtain⟨pn,a,zs,us,pr,rfl,_⟩:=h
  rfl
 obtain⟨pn,a,zs,us,pr,rfl,hn,z12,ha,hp,ndr,l12,k⟩:=h
 have hu:=y0y hr
 refine⟨_,(z04 (z0l (i:=2) nd rfl (Or.inr rfl) (z0o (z4a (K:=K) rfl rfl) rfl M.dict gZ (z00 (pv 1) z03))) (z05 (z0h (z0o z0t rfl M.tuple bT (z00 (z1i ["name"] ["values"] [2] rfl (z0u rfl (by decide +kernel) rfl (by decide +kernel) rfl rfl) (y4a (pv 0)) (fun _ _ _ _ _=>(z0j (i:=0) (show((["name"]:List PySem.Str)++(["values"]:List PySem.Str)).Nodup from by decide +kernel) rfl (Or.inl rfl))) (z0x (by decide)) z0d (fun _ _ _ _ _=>(z26 (z8o (y49 hu (pv 0) (pv 1))))) (fun _ _ _ _ _=>(z1b (z00 (pv 0) (z00 (z7n hu (pv 1) (pv 0) (fun _ _=>rfl)) z03))))) z03))))),?_⟩
 have lu:us.length=pr.length:=hp.length
 refine⟨_,rfl,a,us,pr.map kvR,rfl,ha,z2x.pairs hp,by omega,?_,fun d hd=>?_⟩
 ·have e:(pr.map kvR).map (·.1)=(pr.map Prod.fst).map Sum.inr:=by rw[eF,eF];rfl
  rw[e,dA,dY]
  exact(dA.mp ndr).imp fun h e=>h (Sum.inr.inj e)
 have s1:=z01 hd (.dK (pr.map kvR))
 have e1:upd H d (.dK (pr.map kvR)) d=some (.dK (pr.map kvR)):=z02
 generalize upd H d (.dK (pr.map kvR))=H1 at s1 e1
 obtain⟨t,ht⟩:=SqS.of (SqN.keep s1 hn)
 refine⟨_,rfl,pn,t,rfl,⟨_,ht⟩,?_⟩
 refine y1r (xs:=zs.map V.str) (fun i ys H'=>A4 H1 H'/\z08 H' ((z1f (zs.take i) pr).map z8T) ys) ⟨A4.refl _,by rw[dG];exact .nil⟩ (fun i ys H' hi hq=>?_) (fun i x ys H' hx hq=>?_) (fun ys H' hq=>?_)
 ·obtain⟨g,t'⟩:=hq
  refine⟨SqS.keep g ht,z0f ?_⟩
  have:=z56 (zs.take i) pr
  rw[bO] at this
  rw[t'.length,b8]
  omega
 ·obtain⟨g,t'⟩:=hq
  rw[bG] at hx
  obtain⟨z,ez,rfl⟩:=cE.mp hx
  refine⟨_,rfl,_,rfl,d,_,rfl,L8.k (k:=Sum.inr z) (g _ _ e1),_,rfl,?_⟩
  rw[z8Y,z0r ez,z9Z]
  cases ev:pr.find? fun p=>decide (p.1=z) with
  | none=>
   refine C6 ⟨g,?_⟩
   rw[cU]
   exact t'
  | some p=>
   have ep:p.1=z:=by
    have:=j6 ev
    exact of_decide_eq_true this
   refine N0 ⟨_,rfl,_,rfl,_,rfl,d,_,rfl,(show L8 _ d (kV (Sum.inr z)) (some (V.int p.2)) by rw[<- show J0 (pr.map kvR) (Sum.inr z:Key)=some (V.int p.2) by rw[z8Y,ev];rfl];exact L8.k (g _ _ e1)),(by show 2≤sizeLine;decide),fun q hq=>⟨g.trans (z01 hq _),?_⟩⟩
   rw[bE]
   refine z08.snoc (z08.keep (z01 hq _) _ _ t') ?_
   rw[<- ep]
   exact z0A z02 (by show 2≤1000000;decide) (.cons (z2E _) (.cons (z0H _) .nil))
 ·obtain⟨g,t'⟩:=hq
  rw[b8,bV] at t'
  intro D hD
  refine⟨D,ys,rfl,.inl ⟨SqL.of z02,fun q hq=>k _ _ (s1.trans (g.trans ((z01 hD _).trans (z01 hq _)))) (z0A z02 ?_ (z08.keep ((z01 hD _).trans (z01 hq _)) _ _ t'))⟩⟩
  have:=z56 zs pr
  rw[b8]
  omega
def y3p:Sp:=fun vs H Q _=>∃(a:Addr) (xs:List V) (w:Row),vs=[.ref a]/\H a=some (.tup xs)/\z08 H (w.map z8T) xs/\w.length≤12/\∀(l:Addr) (H':Hp),A4 H H'->H' l=some (.tup ((z1F w).map V.str))->Q (.ref l) H'
theorem y57(M:Bl mg)(F:Fun K "names_of_rows" "names_of_rows" z38 f fd):A5 P w K mg base CX0 1 f fd z3j y3p:=by
 have nd:=z4h.nd
 refine F.ok z4h (fun vs H Q E h=>?_) (fun cdv A outer s H vs Q E hr h=>?_)
 ·obtain⟨a,xs,w,rfl,_⟩:=h
  rfl
 obtain⟨a,xs,w,rfl,ha,tw,l12,k⟩:=h
 refine⟨_,(z05 (z0h (z0o z0t rfl M.tuple bT (z00 (z1i ["name","value"] [] [] rfl (z0u rfl (by decide +kernel) rfl (by decide +kernel) rfl rfl) (z2I (pv 0)) (fun _ _ _ _ _=>(z9j (K:=K) (n:=2) rfl rfl (z1C (z0j (i:=0) (show((["name","value"]:List PySem.Str)++([]:List PySem.Str)).Nodup from by decide +kernel) rfl (Or.inl rfl)) (z1C (z0j (i:=1) (show((["name","value"]:List PySem.Str)++([]:List PySem.Str)).Nodup from by decide +kernel) rfl (Or.inl rfl)) z66)))) (z9f (z20 (z0x (by decide)) z0d (z20 (z0x (by decide)) z0d z6X z1e) (z0P z0d z1e))) (z6T (z0P z0d (z0P z0d z1e))) (fun _ _ _ _ _=>z1Y) (fun _ _ _ _ _=>(pv 0))) z03)))),?_⟩
 have lx:xs.length=w.length:=by rw[tw.length,b8]
 refine⟨_,rfl,a,rfl,⟨_,SqT.of ha⟩,?_⟩
 refine z1O (xs:=xs) (fun i ys H'=>H'=H/\ys=(z1F (w.take i)).map V.str) ⟨rfl,rfl⟩ (fun i ys H' hi hq=>?_) (fun i x ys H' hx hq=>?_) (fun ys H' hq=>?_)
 ·obtain⟨rfl,rfl⟩:=hq
  refine⟨SqT.of ha,z0f ?_⟩
  unfold z1F
  rw[b8,b8,bO]
  omega
 ·obtain⟨rfl,rfl⟩:=hq
  obtain⟨p,b,ep,rfl,hb⟩:=z4J tw i x hx
  refine⟨b,_,rfl,SqT.of hb,rfl,_,_,rfl,_,_,rfl,rfl,?_⟩
  refine⟨_,rfl,rfl,?_⟩
  unfold z1F
  rw[z0r ep,bE,bE]
  rfl
 ·obtain⟨rfl,rfl⟩:=hq
  rw[lx,bV]
  intro D hD
  exact⟨D,_,rfl,.inl ⟨SqL.of z02,fun q hq=>k q _ ((z01 hD _).trans (z01 hq _)) z02⟩⟩
def OfD(K:PySem.W.Frag)(C:Addr):OfP:=fun H p fp zs r rows=>∃(dx pn pl:Addr) (fs:List (Str×V)) (xs:List V),fp=[p,dx,pl]/\H p=some (.ins C dx fs)/\H dx=some (.own p)/\H pn=some (.tup (zs.map V.str))/\H pl=some (.lst xs)/\
 fs.lookup ("names":Str)=some (V.ref pn)/\fs.lookup ("reach":Str)=some (V.int r)/\fs.lookup ("written":Str)=some (V.ref pl)/\(∀m∈(["refuse_writing","write","latest","issue"]:List Str),fs.lookup m=none)/\
 z08 H ((upI 1 rows.length).map fun n=>z13 rows n r) xs/\rows.length≤60/\(∀w∈rows,w.length≤12)/\E4 zs/\0≤r/\r≤10
theorem O0{K:PySem.W.Frag}{C:Addr}:W7 C ["write","latest","issue"] (OfD K C):=by
 refine⟨fun h=>?_,fun h b hb=>?_,fun h s out nt=>?_⟩
 ·obtain⟨dx,pn,pl,fs,xs,e,h1,h2,h3,h4,l1,l2,l3,lm,_⟩:=h
  refine⟨dx,fs,h1,fun m hm=>lm m ?_⟩
  simp only[bB,dU,or_false] at hm ⊢
  rcases hm with h|h|h<;>simp[h]
 ·obtain⟨dx,pn,pl,fs,xs,rfl,h1,h2,h3,h4,_⟩:=h
  rcases bB.mp hb with rfl|hb
  ·exact⟨_,h1,fun xs z=>by cases z⟩
  rcases bB.mp hb with rfl|hb
  ·exact⟨_,h2,fun xs z=>by cases z⟩
  rw[bA.mp hb]
  exact⟨_,h4,fun xs z=>by cases z⟩
 ·obtain⟨dx,pn,pl,fs,xs,rfl,h1,h2,h3,h4,l1,l2,l3,lm,tl,g⟩:=h
  exact⟨dx,pn,pl,fs,xs,rfl,s _ _ h1 (fun m=>out _ m (by simp)),s _ _ h2 (fun m=>out _ m (by simp)),s _ _ h3 (fun m=>nt _ m _ h3),s _ _ h4 (fun m=>out _ m (by simp)),l1,l2,l3,lm,z08.but s nt _ _ tl,g⟩
theorem y2C{A1:Addr}(M:Bl mg)(T:I0 K mg A1)(F:Fun K "__init__" "Office.__init__" z2o f fd)(C1:Cal P w K mg base 2 "bulletin_names" z1V (z6e K)) :
  A5 P w K mg base CX0 3 f fd z2u (y1x K A1 (OfD K A1)):=by
 have nd:=z3w.nd
 refine F.ok z3w (fun vs H Q E h=>?_) (fun cdv A outer s H vs Q E hr h=>?_)
 ·obtain⟨x,dx,pn,zs,r,rfl,_⟩:=h
  rfl
 obtain⟨x,dx,pn,zs,r,rfl,hx,ne,hdx,hn,g,r0,r1,k⟩:=h
 refine⟨_,(z04 (z5s (pv 0) (z0k C1 (rm hr) rfl (z00 (pv 1) (z00 (pv 2) z03))) rfl) (z04 (z5s (pv 0) (pv 2) rfl) (z05 (z5s (pv 0) (z1j z03) rfl)))),?_⟩
 refine⟨_,rfl,_,rfl,pn,zs,r,rfl,hn,g,r0,r1,fun l H1 s1 e1=>?_⟩
 refine⟨_,rfl,x,A1,dx,[],rfl,s1 _ _ hx,T.cl,T.n_names,by decide,?_⟩
 have z1:=z1x "names" (.ref l) []
 have z2:=z1x "reach" (.int r) (F6 "names" (.ref l) [])
 have z0:([]:List (Str×V)).length=0:=rfl
 refine⟨_,rfl,_,rfl,x,A1,dx,_,rfl,z02,T.cl,T.n_reach,(by omega),?_⟩
 rw[z4M]
 refine⟨(by show 0≤sizeLine;decide),fun pd hd=>?_⟩
 have nx:x≠pd:=z0i z02 hd
 have ndd:dx≠pd:=z0i (show upd H1 x _ dx=some _ by rw[z0e ne];exact s1 _ _ hdx) hd
 have nl:l≠x:=z5h e1 (s1 _ _ hx) (fun z=>by cases z)
 have nlp:l≠pd:=z0i (show upd H1 x _ l=some _ by rw[z0e nl];exact e1) hd
 have dfr:H1 pd=none:=by rw[z0e (d6 nx)] at hd;exact hd
 refine⟨_,rfl,x,A1,dx,_,rfl,(by rw[z0e nx,z02]),T.cl,T.n_written,(by omega),?_⟩
 refine k [x,dx,pd] _ (fun b hb=>?_) (fun b o e nb=>?_) ⟨dx,l,pd,_,[],rfl,z02,?_,?_,?_,?_,?_,?_,?_,.nil,by decide,fun _ q=>(nomatch q),g,r0,r1⟩
 ·simp only[bB,dU,or_false] at hb
  rcases hb with rfl|rfl|rfl
  ·exact .inl rfl
  ·exact .inr (.inl rfl)
  ·exact .inr (.inr (s1.free dfr))
 ·rw[bA] at nb
  rw[z0e nb,z0e (z0i e (s1.free dfr)),z0e nb]
  exact s1 _ _ e
 ·rw[z0e ne,z0e ndd,z0e ne]
  exact s1 _ _ hdx
 ·rw[z0e nl,z0e nlp,z0e nl]
  exact e1
 ·rw[z0e (d6 nx),z02]
 ·rw[z0m,if_neg (by decide +kernel),z0m,if_neg (by decide +kernel),z0m,if_pos rfl]
 ·rw[z0m,if_neg (by decide +kernel),z0m,if_pos rfl]
 ·rw[z0m,if_pos rfl]
 ·intro m hm
  simp only[bB,dU,or_false] at hm
  rcases hm with rfl|rfl|rfl|rfl<;>rw[z0m,if_neg (by decide +kernel),z0m,if_neg (by decide +kernel),z0m,if_neg (by decide +kernel)]<;>rfl
theorem y0M{A1:Addr}(M:Bl mg)(T:I0 K mg A1)(F:Fun K "latest" "Office.latest" z3d f fd):A5 P w K mg base CX0 1 f fd z3h (z8d (OfD K A1)):=by
 have nd:=z3X.nd
 refine F.ok z3X (fun vs H Q E h=>?_) (fun cdv A outer s H vs Q E hr h=>?_)
 ·obtain⟨p,fp,zs,r,rows,rfl,_⟩:=h
  rfl
 obtain⟨p,fp,zs,r,rows,rfl,of,k⟩:=h
 refine⟨_,(z05 (z0h (z0b z0a rfl M.len bP (z00 (z0J (pv 0) rfl) z03)))),?_⟩
 obtain⟨dx,pn,pl,fs,xs,rfl,h1,h2,h3,h4,l1,l2,l3,lm,tl,r60,w12,g,r0,r1⟩:=of
 have lx:xs.length=rows.length:=by rw[tl.length,b8,z0M]
 refine⟨_,rfl,p,A1,dx,fs,_,rfl,h1,T.cl,T.n_written,l3,pl,xs,rfl,.inl (SqL.of h4),?_⟩
 rw[lx]
 exact k H (A4.refl _)
theorem y2k{A1:Addr}(M:Bl mg)(T:I0 K mg A1)(F:Fun K "issue" "Office.issue" z3B f fd):A5 P w K mg base CX0 1 f fd z1W (z5k (OfD K A1)):=by
 have nd:=z4G.nd
 refine F.ok z4G (fun vs H Q E h=>?_) (fun cdv A outer s H vs Q E hr h=>?_)
 ·obtain⟨p,fp,zs,r,rows,n,rfl,_⟩:=h
  rfl
 obtain⟨p,fp,zs,r,rows,n,rfl,of,n1,n2,k⟩:=h
 refine⟨_,(z04 (z0N (PW.pt (z4v (z0c z8P (pv 1) z06 (z0n _)) (z2P (z0c z2A (pv 1) (z0b z0a rfl M.len bP (z00 (z0J (pv 0) rfl) z03)) (z0n _))))) (z05 z1s) z0p) (z05 (z0h (z0K z0R (z0J (pv 0) rfl) (z0s z3r (pv 1) z06) (fun _ _=>rfl))))),?_⟩
 obtain⟨dx,pn,pl,fs,xs,rfl,h1,h2,h3,h4,l1,l2,l3,lm,tl,r60,w12,g,r0,r1⟩:=of
 have lx:xs.length=rows.length:=by rw[tl.length,b8,z0M]
 refine⟨_,rfl,_,_,rfl,rfl,_,rfl,A9 (fun q=>absurd (z0F q) (by omega)) fun _=>?_⟩
 refine⟨_,rfl,_,rfl,p,A1,dx,fs,_,rfl,h1,T.cl,T.n_written,l3,pl,xs,rfl,.inl (SqL.of h4),_,_,rfl,rfl,_,rfl,A9 (fun q=>absurd (z0F q) (by omega)) fun _=>?_⟩
 have hk:(n-1).toNat<rows.length:=by omega
 obtain⟨v,ev,tv⟩:=tl.get (n-1).toNat (z13 rows n r) (by
  unfold upI
  rw[bG,bG,j8 hk]
  show some (z13 rows (1+((n-1).toNat:Int)) r)=_
  rw[show(1:Int)+((n-1).toNat:Int)=n by omega])
 have av:atI xs (n-1)=some v:=by
  rw[show n-1=(((n-1).toNat:Nat):Int) by omega]
  exact z11 ev
 exact⟨_,rfl,p,A1,dx,fs,_,rfl,h1,T.cl,T.n_written,l3,_,rfl,_,_,rfl,rfl,pl,xs,_,v,rfl,rfl,SqL.of h4,av,k v H (A4.refl _) tv⟩
def z7G(K:PySem.W.Frag)(Of:OfP):Sp:=fun vs H Q _=>∃(p a:Addr) (fp:List Addr) (zs:List Str) (r:Int) (rows:List Row) (us:List V) (pr:Row),vs=[.ref p,.ref a]/\Of H p fp zs r rows/\SqP K H a us/\Paired (z2x K H) us pr/\GoodR zs pr/\pr.length≤12/\rows.length<60/\∀H',A4 H H'->Q .non H'
theorem y1L{A1:Addr}(M:Bl mg)(T:I0 K mg A1)(F:Fun K "refuse_writing" "Office.refuse_writing" z1p f fd)(E8:Cal P w K mg base 2 "refuse_bad_rows" z2t (y0c K)) :
  A5 P w K mg base CX0 3 f fd z0Y (z7G K (OfD K A1)):=by
 have nd:=z1U.nd
 refine F.ok z1U (fun vs H Q E h=>?_) (fun cdv A outer s H vs Q E hr h=>?_)
 ·obtain⟨p,a,fp,zs,r,rows,us,pr,rfl,_⟩:=h
  rfl
 obtain⟨p,a,fp,zs,r,rows,us,pr,rfl,of,ha,hp,g',l12,l60,k⟩:=h
 refine⟨_,(z04 (z0N (z0c y6B (z0b z0a rfl M.len bP (z00 (z0J (pv 0) rfl) z03)) (z2F rfl M.MOST_NUMBERS) (z0n _)) (z05 z1s) z0p) (z05 (z0C (z0k E8 (rm hr) rfl (z00 (z0J (pv 0) rfl) (z00 (pv 1) z03)))))),?_⟩
 obtain⟨dx,pn,pl,fs,xs,rfl,h1,h2,h3,h4,l1,l2,l3,lm,tl,r60,w12,g,r0,r1⟩:=of
 have lx:xs.length=rows.length:=by rw[tl.length,b8,z0M]
 refine⟨_,rfl,p,A1,dx,fs,_,rfl,h1,T.cl,T.n_written,l3,pl,xs,rfl,.inl (SqL.of h4),_,_,rfl,rfl,_,rfl,A9 (fun q=>absurd (z0F q) (by omega)) fun _=>?_⟩
 exact⟨_,rfl,p,A1,dx,fs,_,rfl,h1,T.cl,T.n_names,l1,_,rfl,pn,a,zs,us,pr,rfl,.inr (SqT.of h3),ha,hp,g',l12,fun H' s=>k H' s⟩
theorem y0Q(rows:List Row)(x:Row){n r:Int}(n1:1≤n)(n2:n≤rows.length):z13 (rows++[x]) n r=z13 rows n r:=by
 have e:=y0v (rows:=rows++[x]) (j:=rows.length) (r:=r) n1 n2
 rw[List.take_left] at e
 exact e.symm
theorem y2y(m:Nat)(r:Int)(r0:0≤r):z5S ((m:Int)+1) r=tsN m r.toNat:=by
 have w0D:∀{l1 l2:List Int},l1.Pairwise (· > ·)->l2.Pairwise (· > ·)->(∀x,x∈l1↔x∈l2)->l1=l2:=fun {l1 l2} p1 p2 h=>by
  have e:=z2f (l1:=l1.reverse) (l2:=l2.reverse) (hZ.mpr p1) (hZ.mpr p2) fun x=>by rw[hJ,hJ];exact h x
  have e2:=congrArg List.reverse e
  rw[gB,gB] at e2
  exact e2
 refine w0D ((z7O _ _).filter _) ((z7O _ _).filter _) fun x=>?_
 rw[z81]
 unfold z5S
 rw[bU,z8Z,decide_eq_true_eq]
 omega
theorem y4r(rows:List Row)(x:Row)(r:Int)(r0:0≤r):y5u (rows++[x]) ((rows.length:Int)+1) r=tsD (rows.map z1F) r:=by
 unfold y5u tsD
 rw[y2y _ _ r0,b8]
 congr 1
 refine gG fun k hk=>?_
 have hk:=z81.mp hk
 unfold y1N tsP z0z
 have h1:(k-1).toNat<rows.length:=by omega
 rw[bJ,bJ,fE h1,bG,bD h1]
 rfl
theorem y1J{A1:Addr}(M:Bl mg)(T:I0 K mg A1)(F:Fun K "write" "Office.write" z3E f fd)(B0:D4 P w K mg base 3 A1 "refuse_writing" z0Y (z7G K (OfD K A1)))
  (F7:Cal P w K mg base 1 "names_of_rows" z3j y3p) (F8:Cal P w K mg base 1 "rows_in_order" z39 (z9S K)) (O3:Cal P w K mg base 2 "tail_for" z7i (y6b K)) :
  A5 P w K mg base CX0 4 f fd z3D (y0a K (OfD K A1)):=by
 have nd:=z4F.nd
 refine F.ok z4F (fun vs H Q E h=>?_) (fun cdv A outer s H vs Q E hr h=>?_)
 ·obtain⟨p,v,fp,zs,r,rows,pr,rfl,_⟩:=h
  rfl
 obtain⟨p,v,fp,zs,r,rows,pr,rfl,of,⟨a,us,rfl,ha,na,hp⟩,gr,l12,l60,k⟩:=h
 refine⟨_,(z04 (z0C (z2b B0 (rm hr) (pv 0) (z00 (pv 1) z03))) (z04 (z0l (i:=2) nd rfl (Or.inl rfl) (z0s z1D (z0b z0a rfl M.len bP (z00 (z0J (pv 0) rfl) z03)) z06)) (z04 (z4X (i:=3) ["issue"] [] [] rfl nd rfl (Or.inl rfl) (z0u rfl (by decide +kernel) rfl (by decide +kernel) rfl rfl) (z18 (z0J (pv 0) rfl)) (fun _ _ _ _ _=>(z0j (i:=0) (show((["issue"]:List PySem.Str)++([]:List PySem.Str)).Nodup from by decide +kernel) rfl (Or.inl rfl))) (z0x (by decide)) z0d (fun _ _ _ _ _=>z1Y) (fun _ _ _ _ _=>(z0k F7 (rm hr) rfl (z00 (z0K (r:=N5 K) z0U (pv 0) z06 (fun _ _=>rfl)) z03)))) (z04 (z0C (z36 bY c7 cA z0O (z0J (pv 0) rfl) (z00 (z1b (z00 (pv 2) (z00 (z0k F8 (rm hr) rfl (z00 (z0J (pv 0) rfl) (z00 (pv 1) z03))) (z00 (z0k O3 (rm hr) rfl (z00 (pv 3) (z00 (z0J (pv 0) rfl) z03))) z03)))) z03))) (z05 (z0h (pv 2))))))),?_⟩
 have hp':=z2x.of hp
 obtain⟨dx,pn,pl,fs,xs,rfl,h1,h2,h3,h4,l1,l2,l3,lm,tl,r60,w12,g,r0,r1⟩:=id of
 have lx:xs.length=rows.length:=by rw[tl.length,b8,z0M]
 refine⟨_,rfl,p,dx,fs,rfl,h1,lm _ (by simp),_,rfl,p,a,_,zs,r,rows,us,pr,rfl,of,ha,hp',gr,l12,l60,fun H1 s1=>?_⟩
 refine⟨_,rfl,p,A1,dx,fs,_,rfl,s1 _ _ h1,T.cl,T.n_written,l3,pl,xs,rfl,.inl (SqL.of (s1 _ _ h4)),_,_,rfl,rfl,?_⟩
 refine⟨_,rfl,p,A1,dx,fs,_,rfl,s1 _ _ h1,T.cl,T.n_written,l3,pl,rfl,⟨_,SqL.of (s1 _ _ h4)⟩,?_⟩
 refine z2O (xs:=xs) (fun i ys H'=>A4 H1 H'/\z08 H' (((rows.take i).map z1F).map Q6) ys) ⟨A4.refl _,by rw[dG];exact .nil⟩ (fun i ys H' hi hq=>?_) (fun i x ys H' hx hq=>?_) (fun ys H' hq=>?_)
 ·obtain⟨gg,t⟩:=hq
  refine⟨SqL.of (gg _ _ (s1 _ _ h4)),z0f ?_⟩
  rw[t.length,b8,b8,bO]
  omega
 ·obtain⟨gg,t⟩:=hq
  have hi:i<rows.length:=by
   have:=(cD.mp hx).1
   omega
  obtain⟨d,ed,td⟩:=tl.at i x hx
  unfold upI at ed
  rw[bG,bG,j8 hi] at ed
  have ed':z13 rows (1+(i:Int)) r=d:=Option.some.inj ed
  subst ed'
  have ew:z0z rows (1+(i:Int))=rows[i]:=by
   unfold z0z
   rw[show(1+(i:Int)-1).toNat=i by omega,bJ,bD hi]
   rfl
  obtain⟨b,bs,rfl,eb,_,tb⟩:=z0q td
  obtain⟨x0,ur,rfl,t0,tb⟩:=z09 tb
  obtain⟨x1,ur,rfl,t1,tb⟩:=z09 tb
  rw[ew] at t1
  obtain⟨c,cs,rfl,ec,_,tc⟩:=z0q t1
  refine⟨_,rfl,b,_,_,_,rfl,rfl,SqT.of (gg _ _ (s1 _ _ eb)),z11 rfl,c,cs,rows[i],rfl,gg _ _ (s1 _ _ ec),z08.keep (s1.trans gg) _ _ tc,w12 _ (eU hi),fun l H2 s2 e2=>⟨gg.trans s2,?_⟩⟩
  rw[z0r (bD hi),bE,bE]
  refine z08.snoc (z08.keep s2 _ _ t) (z0A e2 ?_ (z6d _))
  have:=w12 _ (eU hi)
  unfold z1F
  rw[b8,b8]
  omega
 obtain⟨gg,t⟩:=hq
 rw[lx,bV] at t
 intro D hD
 have s2:=s1.trans (gg.trans (z01 hD (.lst ys)))
 have eD:upd H' D (.lst ys) D=some (.lst ys):=z02
 have t2:=z08.keep (z01 hD (.lst ys)) _ _ t
 generalize upd H' D (.lst ys)=H2 at s2 eD t2
 have l60':((rows.map z1F)).length≤59:=by rw[b8];omega
 refine⟨_,rfl,p,A1,dx,fs,_,rfl,s2 _ _ h1,T.cl,T.n_written,l3,.inl ⟨rfl,_,SqL.of (s2 _ _ h4)⟩,?_⟩
 refine⟨_,rfl,_,rfl,p,A1,dx,fs,_,rfl,s2 _ _ h1,T.cl,T.n_names,l1,_,rfl,pn,a,zs,us,pr,rfl,.inr (SqT.of (s2 _ _ h3)),g.hi,SqP.keep s2 ha,z2x.keep s2 hp',gr.nd,l12,fun v1 H3 s3 tv1=>?_⟩
 have s23:=s2.trans s3
 refine⟨_,rfl,_,rfl,p,A1,dx,fs,_,rfl,s23 _ _ h1,T.cl,T.n_reach,l2,D,ys,rows.map z1F,r,rfl,.inl (SqL.of (s3 _ _ eD)),z08.keep s3 _ _ t2,l60',?_,r0,r1,fun v2 H4 s4 tv2=>?_⟩
 ·intro w' hw'
  obtain⟨w0,hw0,rfl⟩:=cB.mp hw'
  have:=w12 w0 hw0
  unfold z1F
  rw[b8]
  exact this
 refine⟨(by show 3≤sizeLine;decide),fun q hq=>?_⟩
 have s24:=s23.trans (s4.trans (z01 hq (.tup [V.int ((xs.length:Int)+1),v1,v2])))
 have eq':upd H4 q (.tup [V.int ((xs.length:Int)+1),v1,v2]) q=some (.tup [V.int ((xs.length:Int)+1),v1,v2]):=z02
 have tv1':=A7.keep (s4.trans (z01 hq (.tup [V.int ((xs.length:Int)+1),v1,v2]))) _ _ tv1
 have tv2':=A7.keep (z01 hq (.tup [V.int ((xs.length:Int)+1),v1,v2])) _ _ tv2
 generalize upd H4 q (.tup [V.int ((xs.length:Int)+1),v1,v2])=H5 at s24 eq' tv1' tv2'
 refine⟨pl,xs,.ref q,rfl,rfl,s24 _ _ h4,z0f (by omega),?_⟩
 refine⟨_,rfl,?_⟩
 have np:p≠pl:=z5h h1 h4 (fun z=>by cases z)
 have nx:dx≠pl:=z5h h2 h4 (fun z=>by cases z)
 have nn:pn≠pl:=z5h h3 h4 (fun z=>by cases z)
 have h5:=s24 _ _ h4
 have e:=k [p,dx,pl] (upd H5 pl (.lst (xs++[.ref q]))) (fun b hb=>.inl hb) (fun b o e nb=>by rw[z0e (fun z=>nb (by rw[z];simp))];exact s24 _ _ e)
  ⟨dx,pn,pl,fs,_,rfl,by rw[z0e np];exact s24 _ _ h1,by rw[z0e nx];exact s24 _ _ h2,by rw[z0e nn];exact s24 _ _ h3,z02,l1,l2,l3,lm,?_,?_,?_,g,r0,r1⟩
 ·rw[<- lx] at e
  exact e
 ·refine z08.over h5 (fun _ z=>by cases z) _ _ ?_
  rw[bN,dO,z5J,bE]
  have e1:(upI 1 rows.length).map (fun n=>z13 (rows++[z1f zs pr]) n r)=(upI 1 rows.length).map fun n=>z13 rows n r:=gG fun n hn=>by
   have:=z17.mp hn
   exact y0Q rows _ (by omega) (by omega)
  rw[e1]
  refine z08.snoc (z08.keep s24 _ _ tl) ?_
  have en:(1:Int)+(rows.length:Int)=(rows.length:Int)+1:=by omega
  have er:z0z (rows++[z1f zs pr]) ((rows.length:Int)+1)=z1f zs pr:=by
   unfold z0z
   rw[show((rows.length:Int)+1-1).toNat=rows.length by omega,bJ,List.getElem?_concat_length]
   rfl
  show A7 H5 (z13 (rows++[z1f zs pr]) (1+(rows.length:Int)) r) (.ref q)
  unfold z13
  rw[en,er,y4r rows _ r r0]
  rw[lx] at eq'
  exact z0A eq' (by show 3≤1000000;decide) (.cons (z0H _) (.cons tv1' (.cons tv2' .nil)))
 ·rw[bN,dO]
  omega
 ·intro w' hw'
  rcases bM.mp hw' with hw'|hw'
  ·exact w12 w' hw'
  ·rw[bA] at hw'
   rw[hw']
   exact cO (z56 zs pr) g.hi
abbrev C2:=Option Int×Int
def z35:C2->List V
 | (none,n)=>[.str "write",.int n]
 | (some r,n)=>[.str "deliver",.int r,.int n]
def z4z(H:Hp)(u:V)(d:C2):Prop:=∃b,u=.ref b/\H b=some (.tup (z35 d))
theorem z3p{H:Hp}{us:List V}{log:List C2}(h:Paired (z4z H) us log):us.length=log.length:=by
 induction h with
 | nil=>rfl
 | cons _ _ ih=>rw[bZ,bZ,ih]
def R1(log:List C2)(rd:Int):List Int:=log.foldl (fun acc d=>if d.1=some rd then P8 acc d.2 else acc) []
theorem y2D(log:List C2)(d:C2)(rd:Int):R1 (log++[d]) rd=if d.1=some rd then P8 (R1 log rd) d.2 else R1 log rd:=by
 unfold R1
 rw[gS]
 rfl
theorem y4T{log:List C2}{rd n:Int}:n∈R1 log rd↔((some rd,n):C2)∈log:=by
 have go:∀(log:List C2) (acc:List Int),n∈log.foldl (fun acc d=>if d.1=some rd then P8 acc d.2 else acc) acc↔n∈acc\/((some rd,n):C2)∈log:=by
  intro log
  induction log with
  | nil=>intro acc;exact⟨.inl,fun h=>h.elim id fun q=>(nomatch q)⟩
  | cons d log ih=>
   intro acc
   rw[cS,ih,bB]
   obtain⟨a,m⟩:=d
   by_cases c:a=some rd
   ·subst c
    rw[if_pos rfl,y1e,or_assoc]
    exact or_congr j9 (or_congr ⟨fun e=>by rw[e],fun e=>congrArg Prod.snd e⟩ j9)
   ·rw[if_neg c]
    exact or_congr j9 ⟨.inr,fun h=>h.elim (fun e=>absurd (congrArg Prod.fst e).symm c) id⟩
 unfold R1
 rw[go]
 exact⟨fun h=>h.elim (fun q=>(nomatch q)) id,.inr⟩
abbrev BkP:=Hp->Addr->List Addr->List Str->Int->Int->List Row->List C2->Prop
structure V5(C:Addr)(ms:List Str)(Bk:BkP):Prop where
 ins:∀{H p fp zs r k rows log},Bk H p fp zs r k rows log->∃dx fs,H p=some (.ins C dx fs)/\∀m∈ms,fs.lookup m=none
 own:∀{H p fp zs r k rows log},Bk H p fp zs r k rows log->∀b∈fp,∃o,H b=some o/\∀xs,o≠.tup xs
 keep:∀{H H' p fp gp zs r k rows log},Bk H p fp zs r k rows log->z0v gp H H'->(∀b∈gp,b∉fp)->z5Y H gp->Bk H' p fp zs r k rows log
theorem V5.same{C:Addr}{ms:List Str}{Bk:BkP}(O:V5 C ms Bk){H H':Hp}{p:Addr}{fp:List Addr}{zs:List Str}{r k:Int}{rows:List Row}{log:List C2}(h:Bk H p fp zs r k rows log)(s:A4 H H'):Bk H' p fp zs r k rows log:=
 O.keep (gp:=[]) h (.of s) (fun _ q=>by cases q) fun _ q=>by cases q
theorem V5.S7{C:Addr}{ms:List Str}{Bk:BkP}(O:V5 C ms Bk){H:Hp}{p:Addr}{fp:List Addr}{zs:List Str}{r k:Int}{rows:List Row}{log:List C2}(h:Bk H p fp zs r k rows log):z5Y H fp:=fun b m xs e=>by
 obtain⟨o,e1,n⟩:=O.own h b m
 rw[e1] at e
 exact n xs (Option.some.inj e)
def y10(K:PySem.W.Frag)(C:Addr)(Bk:BkP):Sp:=fun vs H Q _=>∃(x dx pn:Addr) (zs:List Str) (r k:Int),vs=[.ref x,.ref pn,.int r,.int k]/\H x=some (.ins C dx [])/\dx≠x/\H dx=some (.own x)/\HdN K H pn zs/\E4 zs/\0≤r/\r≤10/\1≤k/\k≤10/\
 ∀(fp:List Addr) (H':Hp),(∀b∈fp,b=x\/b=dx\/H b=none)->z0v [x] H H'->Bk H' x fp zs r k [] []->Q .non H'
def y0f(K:PySem.W.Frag)(Bk:BkP):Sp:=fun vs H Q _=>∃(p:Addr) (v:V) (fp:List Addr) (zs:List Str) (r k:Int) (rows:List Row) (log:List C2) (pr:Row),vs=[.ref p,v]/\Bk H p fp zs r k rows log/\y2W K H fp v pr/\GoodR zs pr/\pr.length≤12/\rows.length<60/\log.length<400/\
 ∀(fp':List Addr) (H':Hp),(∀b∈fp',b∈fp\/H b=none)->z0v fp H H'->Bk H' p fp' zs r k (rows++[z1f zs pr]) (log++[(none,(rows.length:Int)+1)])->Q (.int (rows.length+1)) H'
def z7C(Bk:BkP):Sp:=fun vs H Q _=>∃(p:Addr) (fp:List Addr) (zs:List Str) (r k:Int) (rows:List Row) (log:List C2) (rd n:Int),vs=[.ref p,.int rd,.int n]/\Bk H p fp zs r k rows log/\1≤rd/\rd≤k/\1≤n/\n≤rows.length/\log.length<400/\
 ∀(H':Hp),z0v fp H H'->Bk H' p fp zs r k rows (log++[(some rd,n)])->Q (.bl (decide (((some rd,n):C2)∉log))) H'
def y31(Bk:BkP):Sp:=fun vs H Q _=>∃(p:Addr) (fp:List Addr) (zs:List Str) (r k:Int) (rows:List Row) (log:List C2),vs=[.ref p]/\Bk H p fp zs r k rows log/\Q (.int log.length) H
def w08:Option Nat->V
 | none=>.non
 | some d=>.int d
def z5G(Bk:BkP)(Sh:ShP):Sp:=fun vs H Q _=>∃(p:Addr) (fp:List Addr) (zs:List Str) (r k:Int) (rows:List Row) (log:List C2) (rd:Int) (o:Option Nat),vs=[.ref p,.int rd,w08 o]/\Bk H p fp zs r k rows log/\1≤rd/\rd≤k/\(∀d,o=some d->d≤log.length)/\
 ∀(x:Addr) (fq:List Addr) (H':Hp),(∀b∈fq,H b=none)->A4 H H'->Sh H' x fq zs r (fun n=>z13 rows n r) (R1 (log.take (o.getD log.length)) rd)->Q (.ref x) H'
theorem R4.but{fp:List Addr}{H H':Hp}{us:List V}{log:List C2}(s:z0v fp H H')(n:z5Y H fp)(h:Paired (z4z H) us log):Paired (z4z H') us log:=
 L2.Paired.V0 h fun u d ⟨b,e,q⟩=>⟨b,e,s _ _ q fun m=>n b m _ q⟩
structure BkIn(K:PySem.W.Frag)(CB CO:Addr)(H:Hp)(p dx po pd:Addr)(fs:List (Str×V))(fo:List Addr)(us:List V)(zs:List Str)(r k:Int)(rows:List Row)(log:List C2):Prop where
 hp:H p=some (.ins CB dx fs)
 hdx:H dx=some (.own p)
 of:OfD K CO H po fo zs r rows
 hd:H pd=some (.lst us)
 ds:Paired (z4z H) us log
 npo:p∉fo
 ndo:dx∉fo
 ndn:pd∉fo
 lo:fs.lookup ("office":Str)=some (V.ref po)
 lr:fs.lookup ("readers":Str)=some (V.int k)
 ld:fs.lookup ("done":Str)=some (V.ref pd)
 lm:∀m∈(["refuse_unknown_reader","refuse_further_deed","write","deliver","latest","issue","deeds","deed","shelf"]:List Str),fs.lookup m=none
 l4:log.length≤400
 in1:∀d∈log,1≤d.2/\d.2≤rows.length
 k1:1≤k
 k10:k≤10
def BkD(K:PySem.W.Frag)(CB CO:Addr):BkP:=fun H p fp zs r k rows log=>∃(dx po pd:Addr) (fs:List (Str×V)) (fo:List Addr) (us:List V),fp=p::dx::pd::fo/\BkIn K CB CO H p dx po pd fs fo us zs r k rows log
theorem w02{K:PySem.W.Frag}{CB CO:Addr}:V5 CB ["write","deliver","latest","issue","deeds","deed","shelf"] (BkD K CB CO):=by
 refine⟨fun h=>?_,fun h b hb=>?_,fun h s out nt=>?_⟩
 ·obtain⟨dx,po,pd,fs,fo,us,rfl,B⟩:=h
  refine⟨dx,fs,B.hp,fun m hm=>B.lm m ?_⟩
  exact bL _ (bL _ hm)
 ·obtain⟨dx,po,pd,fs,fo,us,rfl,B⟩:=h
  rcases bB.mp hb with rfl|hb
  ·exact⟨_,B.hp,fun xs z=>by cases z⟩
  rcases bB.mp hb with rfl|hb
  ·exact⟨_,B.hdx,fun xs z=>by cases z⟩
  rcases bB.mp hb with rfl|hb
  ·exact⟨_,B.hd,fun xs z=>by cases z⟩
  exact O0.own B.of b hb
 ·obtain⟨dx,po,pd,fs,fo,us,rfl,B⟩:=h
  exact⟨dx,po,pd,fs,fo,us,rfl,{ B with
   hp:=s _ _ B.hp fun m=>out _ m (by simp)
   hdx:=s _ _ B.hdx fun m=>out _ m (by simp)
   of:=O0.keep B.of s (fun b m z=>out b m (by simp[z])) nt
   hd:=s _ _ B.hd fun m=>out _ m (by simp)
   ds:=R4.but s nt B.ds }⟩
def z6k:Sp:=fun vs H Q _=>∃k:Int,vs=[.int k]/\1≤k/\k≤10/\Q .non H
theorem z9b(M:Bl mg)(F:Fun K "refuse_bad_readers" "refuse_bad_readers" z1R f fd):A5 P w K mg base CX0 1 f fd z1Q z6k:=by
 have nd:=z2y.nd
 refine F.ok z2y (fun vs H Q E h=>?_) (fun cdv A outer s H vs Q E hr h=>?_)
 ·obtain⟨r,rfl,_⟩:=h
  rfl
 ·obtain⟨r,rfl,r0,r1,k⟩:=h
  refine⟨_,(z05 (z0N (PW.pt (z4v (z0c z8P (pv 0) z06 (z0n _)) (z2P (z0c z2A (pv 0) (z2F rfl M.MOST_READERS) (z0n _))))) (z05 z1s) z0p)),?_⟩
  refine⟨_,rfl,_,_,rfl,rfl,_,rfl,A9 (fun q=>absurd (z0F q) (by omega)) fun _=>?_⟩
  exact⟨_,rfl,_,_,rfl,rfl,_,rfl,A9 (fun q=>absurd (z0F q) (by omega)) fun _=>k⟩
def z4S(Bk:BkP):Sp:=fun vs H Q _=>∃(p:Addr) (fp:List Addr) (zs:List Str) (r k:Int) (rows:List Row) (log:List C2) (rd:Int),vs=[.ref p,.int rd]/\Bk H p fp zs r k rows log/\1≤rd/\rd≤k/\Q .non H
theorem z9y{A3 A1:Addr}(M:Bl mg)(T:F9 K mg A3)(F:Fun K "refuse_unknown_reader" "Book.refuse_unknown_reader" z0X f fd):A5 P w K mg base CX0 1 f fd z0L (z4S (BkD K A3 A1)):=by
 have nd:=z1t.nd
 refine F.ok z1t (fun vs H Q E h=>?_) (fun cdv A outer s H vs Q E hr h=>?_)
 ·obtain⟨p,fp,zs,r,k,rows,log,rd,rfl,_⟩:=h
  rfl
 obtain⟨p,fp,zs,r,k,rows,log,rd,rfl,⟨dx,po,pd,fs,fo,us,rfl,B⟩,r1,r2,q⟩:=h
 refine⟨_,(z05 (z0N (PW.pt (z4v (z0c z8P (pv 1) z06 (z0n _)) (z2P (z0c z2A (pv 1) (z0J (pv 0) rfl) (z0n _))))) (z05 z1s) z0p)),?_⟩
 refine⟨_,rfl,_,_,rfl,rfl,_,rfl,A9 (fun q=>absurd (z0F q) (by omega)) fun _=>?_⟩
 exact⟨_,rfl,_,rfl,p,A3,dx,fs,_,rfl,B.hp,T.cl,T.n_readers,B.lr,_,_,rfl,rfl,_,rfl,A9 (fun q=>absurd (z0F q) (by omega)) fun _=>q⟩
def z71(Bk:BkP):Sp:=fun vs H Q _=>∃(p:Addr) (fp:List Addr) (zs:List Str) (r k:Int) (rows:List Row) (log:List C2),vs=[.ref p]/\Bk H p fp zs r k rows log/\log.length<400/\Q .non H
theorem y2h{A3 A1:Addr}(M:Bl mg)(T:F9 K mg A3)(F:Fun K "refuse_further_deed" "Book.refuse_further_deed" z19 f fd):A5 P w K mg base CX0 1 f fd z0Q (z71 (BkD K A3 A1)):=by
 have nd:=z1E.nd
 refine F.ok z1E (fun vs H Q E h=>?_) (fun cdv A outer s H vs Q E hr h=>?_)
 ·obtain⟨p,fp,zs,r,k,rows,log,rfl,_⟩:=h
  rfl
 obtain⟨p,fp,zs,r,k,rows,log,rfl,⟨dx,po,pd,fs,fo,us,rfl,B⟩,l4,q⟩:=h
 refine⟨_,(z05 (z0N (z0c y6B (z0b z0a rfl M.len bP (z00 (z0J (pv 0) rfl) z03)) (z2F rfl M.MOST_DEEDS) (z0n _)) (z05 z1s) z0p)),?_⟩
 have lu:=z3p B.ds
 exact⟨_,rfl,p,A3,dx,fs,_,rfl,B.hp,T.cl,T.n_done,B.ld,pd,us,rfl,.inl (SqL.of B.hd),_,_,rfl,rfl,_,rfl,A9 (fun q=>absurd (z0F q) (by omega)) fun _=>q⟩
theorem y2j{A3 A1:Addr}(M:Bl mg)(T:F9 K mg A3)(F:Fun K "deeds" "Book.deeds" z59 f fd):A5 P w K mg base CX0 1 f fd z7P (y31 (BkD K A3 A1)):=by
 have nd:=z6u.nd
 refine F.ok z6u (fun vs H Q E h=>?_) (fun cdv A outer s H vs Q E hr h=>?_)
 ·obtain⟨p,fp,zs,r,k,rows,log,rfl,_⟩:=h
  rfl
 obtain⟨p,fp,zs,r,k,rows,log,rfl,⟨dx,po,pd,fs,fo,us,rfl,B⟩,q⟩:=h
 refine⟨_,(z05 (z0h (z0b z0a rfl M.len bP (z00 (z0J (pv 0) rfl) z03)))),?_⟩
 have lu:=z3p B.ds
 refine⟨_,rfl,p,A3,dx,fs,_,rfl,B.hp,T.cl,T.n_done,B.ld,pd,us,rfl,.inl (SqL.of B.hd),?_⟩
 rw[lu]
 exact q
theorem y3E{A3 A1:Addr}(M:Bl mg)(T:F9 K mg A3)(F:Fun K "__init__" "Book.__init__" z3e f fd)(R0:Mkr P w K mg base 3 A1 "Office" z2u (y1x K A1 (OfD K A1)))
  (D2:Cal P w K mg base 1 "refuse_bad_readers" z1Q z6k):A5 P w K mg base CX0 6 f fd z3i (y10 K A3 (BkD K A3 A1)):=by
 have nd:=z40.nd
 refine F.ok z40 (fun vs H Q E h=>?_) (fun cdv A outer s H vs Q E hr h=>?_)
 ·obtain⟨x,dx,pn,zs,r,k,rfl,_⟩:=h
  rfl
 obtain⟨x,dx,pn,zs,r,k,rfl,hx,ne,hdx,hn,g,r0,r1,k1,k10,q⟩:=h
 refine⟨_,(z04 (z5s (pv 0) (y2w R0 (rm hr) rfl (z00 (pv 1) (z00 (pv 2) z03))) rfl) (z04 (z0C (z0k D2 (rm hr) rfl (z00 (pv 3) z03))) (z04 (z5s (pv 0) (pv 3) rfl) (z05 (z5s (pv 0) (z1j z03) rfl))))),?_⟩
 refine⟨_,rfl,_,rfl,fun po dxo nx ndx neo=>?_⟩
 have m1:=z80 (C:=A1) (A4.refl H) nx ndx
 refine⟨po,dxo,pn,zs,r,rfl,z02,neo,by rw[z0e neo,z02],HdN.keep m1 hn,g,r0,r1,fun fo H1 ff sb of=>⟨rfl,?_⟩⟩
 have s1:A4 H H1:=z76 sb m1 nx
 have f1:∀b∈fo,H b=none:=fun b hb=>z69 m1 nx ndx (ff b hb)
 refine⟨_,rfl,x,A3,dx,[],rfl,s1 _ _ hx,T.cl,T.n_office,by decide,?_⟩
 have z1:=z1x "office" (.ref po) []
 have z2:=z1x "readers" (.int k) (F6 "office" (.ref po) [])
 have z0:([]:List (Str×V)).length=0:=rfl
 refine⟨_,rfl,k,rfl,k1,k10,?_⟩
 refine⟨_,rfl,_,rfl,x,A3,dx,_,rfl,z02,T.cl,T.n_readers,(by omega),?_⟩
 rw[z4M]
 refine⟨(by show 0≤sizeLine;decide),fun pd hd=>?_⟩
 have nxp:x≠pd:=z0i z02 hd
 have dfr:H1 pd=none:=by rw[z0e (d6 nxp)] at hd;exact hd
 have ndd:dx≠pd:=z0i (s1 _ _ hdx) dfr
 have out:∀{b:Addr}{o:HO},H b=some o->b∉fo:=fun e m=>by rw[f1 _ m] at e;cases e
 refine⟨_,rfl,x,A3,dx,_,rfl,(by rw[z0e nxp,z02]),T.cl,T.n_done,(by omega),?_⟩
 have sx:z0v [x] H1 (upd (upd (upd H1 x (.ins A3 dx (F6 "readers" (.int k) (F6 "office" (.ref po) [])))) pd (.lst [])) x (.ins A3 dx (F6 "done" (.ref pd) (F6 "readers" (.int k) (F6 "office" (.ref po) []))))):=fun b o e nb=>by
  rw[bA] at nb
  rw[z0e nb,z0e (z0i e dfr),z0e nb]
  exact e
 refine q (x::dx::pd::fo) _ (fun b hb=>?_) (fun b o e nb=>sx b o (s1 _ _ e) nb) ⟨dx,po,pd,_,fo,[],rfl,⟨z02,?_,?_,?_,.nil,out hx,out hdx,?_,?_,?_,?_,?_,by decide,fun _ q=>(nomatch q),k1,k10⟩⟩
 ·rcases bB.mp hb with rfl|hb
  ·exact .inl rfl
  rcases bB.mp hb with rfl|hb
  ·exact .inr (.inl rfl)
  rcases bB.mp hb with rfl|hb
  ·exact .inr (.inr (s1.free dfr))
  ·exact .inr (.inr (f1 b hb))
 ·exact sx _ _ (s1 _ _ hdx) (by rw[bA];exact ne)
 ·refine O0.keep of sx (fun b m=>?_) fun b m xs e=>?_
  ·rw[bA.mp m]
   exact out hx
  ·rw[bA.mp m,s1 _ _ hx] at e
   cases e
 ·rw[z0e (d6 nxp),z02]
 ·intro m
  obtain⟨o,e,_⟩:=O0.own of pd m
  rw[dfr] at e
  cases e
 ·rw[z0m,if_neg (by decide +kernel),z0m,if_neg (by decide +kernel),z0m,if_pos rfl]
 ·rw[z0m,if_neg (by decide +kernel),z0m,if_pos rfl]
 ·rw[z0m,if_pos rfl]
 ·intro m hm
  simp only[bB,dU,or_false] at hm
  rcases hm with rfl|rfl|rfl|rfl|rfl|rfl|rfl|rfl|rfl<;>rw[z0m,if_neg (by decide +kernel),z0m,if_neg (by decide +kernel),z0m,if_neg (by decide +kernel)]<;>rfl
theorem y66{K:PySem.W.Frag}{CB CO:Addr}{H H1:Hp}{p dx po pd t:Addr}{fs:List (Str×V)}{fo fo':List Addr}{us:List V}{zs:List Str}{r k:Int}{rows U6:List Row}{log:List C2}{d:C2}(B:BkIn K CB CO H p dx po pd fs fo us zs r k rows log)
  (sb:z0v fo H H1) (of:OfD K CO H1 po fo' zs r U6) (ff:∀b∈fo',b∈fo\/H b=none) (ht:H1 t=some (.tup (z35 d))) (hl:rows.length≤U6.length) (hd1:1≤d.2/\d.2≤U6.length) (l4:log.length<400) :
  z0v (p::dx::pd::fo) H (upd H1 pd (.lst (us++[.ref t])))/\BkD K CB CO (upd H1 pd (.lst (us++[.ref t]))) p (p::dx::pd::fo') zs r k U6 (log++[d]):=by
 have ntf:z5Y H fo:=O0.S7 B.of
 have hd':=sb _ _ B.hd B.ndn
 have out:∀{b:Addr}{o:HO},H b=some o->b∉fo->b∉fo':=fun e n m=>(ff _ m).elim n fun z=>by rw[z] at e;cases e
 have s2:z0v [pd] H1 (upd H1 pd (.lst (us++[.ref t]))):=fun b o e nb=>by
  rw[bA] at nb
  rw[z0e nb]
  exact e
 have nt2:z5Y H1 [pd]:=fun b m xs e=>by
  rw[bA.mp m,hd'] at e
  cases e
 have npd:p≠pd:=z5h B.hp B.hd (fun z=>by cases z)
 have ndd:dx≠pd:=z5h B.hdx B.hd (fun z=>by cases z)
 refine⟨fun b o e nb=>?_,dx,po,pd,fs,fo',us++[.ref t],rfl,{ B with
  hp:=by rw[z0e npd];exact sb _ _ B.hp B.npo
  hdx:=by rw[z0e ndd];exact sb _ _ B.hdx B.ndo
  of:=O0.keep of s2 (fun b m=>by rw[bA.mp m];exact out B.hd B.ndn) nt2
  hd:=z02
  ds:=?_
  npo:=out B.hp B.npo
  ndo:=out B.hdx B.ndo
  ndn:=out B.hd B.ndn
  l4:=by rw[bN];exact l4
  in1:=fun x hx=>?_ }⟩
 ·rw[bB,bB,bB,not_or,not_or,not_or] at nb
  rw[z0e nb.2.2.1]
  exact sb _ _ e nb.2.2.2
 ·exact jA (R4.but s2 nt2 (R4.but sb ntf B.ds)) ⟨t,rfl,s2 _ _ ht fun m=>nt2 t m _ ht⟩
 ·rcases bM.mp hx with hx|hx
  ·have:=B.in1 x hx
   omega
  ·rw[bA.mp hx]
   exact hd1
theorem y1K{A3 A1:Addr}(M:Bl mg)(T:F9 K mg A3)(F:Fun K "write" "Book.write" z5d f fd)(B0:D4 P w K mg base 3 A1 "refuse_writing" z0Y (z7G K (OfD K A1)))
  (J9:D4 P w K mg base 4 A1 "write" z3D (y0a K (OfD K A1))) (A8:D4 P w K mg base 1 A3 "refuse_further_deed" z0Q (z71 (BkD K A3 A1))) :
  A5 P w K mg base CX0 5 f fd z5c (y0f K (BkD K A3 A1)):=by
 have nd:=z6m.nd
 refine F.ok z6m (fun vs H Q E h=>?_) (fun cdv A outer s H vs Q E hr h=>?_)
 ·obtain⟨p,v,fp,zs,r,k,rows,log,pr,rfl,_⟩:=h
  rfl
 obtain⟨p,v,fp,zs,r,k,rows,log,pr,rfl,bk,⟨a,vs,rfl,ha,na,hpr⟩,gr,l12,l60,l4,q⟩:=h
 refine⟨_,(z04 (z0C (z2b B0 (rm hr) (z0J (pv 0) rfl) (z00 (pv 1) z03))) (z04 (z0C (z30 A8 (rm hr) (pv 0))) (z04 (z0l (i:=2) nd rfl (Or.inl rfl) (z2b J9 (rm hr) (z0J (pv 0) rfl) (z00 (pv 1) z03))) (z04 (z0C (z36 bY c7 cA z0O (z0J (pv 0) rfl) (z00 (z1b (z00 (z2d rfl M.WRITE) (z00 (pv 2) z03))) z03))) (z05 (z0h (pv 2))))))),?_⟩
 obtain⟨dx,po,pd,fs,fo,us,rfl,B⟩:=id bk
 have no:∀{b:Addr},b∉p::dx::pd::fo->b∉fo:=fun n m=>n (by simp[m])
 have hand:Paired (z8U K H fo) vs pr:=L2.Paired.V0 hpr fun u x ⟨b,e,q,n⟩=>⟨b,e,q,no n⟩
 obtain⟨dxo,pno,plo,fso,xso,efo,h1,h2,h3,h4,l1,l2,l3,lmo,_⟩:=id B.of
 refine⟨_,rfl,p,A3,dx,fs,_,rfl,B.hp,T.cl,T.n_office,B.lo,po,dxo,fso,rfl,h1,lmo _ (by simp),_,rfl,po,a,fo,zs,r,rows,vs,pr,rfl,B.of,ha,z2x.of hand,gr,l12,l60,fun H1 s1=>?_⟩
 refine⟨_,rfl,p,dx,fs,rfl,s1 _ _ B.hp,B.lm _ (by simp),p,_,zs,r,k,rows,log,rfl,w02.same bk s1,l4,?_⟩
 have ha1:y2W K H1 fo (.ref a) pr:=⟨a,vs,rfl,SqP.keep s1 ha,no na,L2.Paired.V0 hand fun u x ⟨b,e,q,n⟩=>⟨b,e,q.imp (fun z=>s1.seq z) fun z=>z6P s1 z,n⟩⟩
 refine⟨_,rfl,p,A3,dx,fs,_,rfl,s1 _ _ B.hp,T.cl,T.n_office,B.lo,po,dxo,fso,rfl,s1 _ _ h1,lmo _ (by simp),_,rfl,po,.ref a,fo,zs,r,rows,pr,rfl,O0.same B.of s1,ha1,gr,l12,l60,fun fo' H2 ff sb of2=>?_⟩
 have sb2:z0v fo H H2:=fun b o e n=>sb _ _ (s1 _ _ e) n
 have lu:=z3p B.ds
 refine⟨_,rfl,p,A3,dx,fs,_,rfl,sb2 _ _ B.hp B.npo,T.cl,T.n_done,B.ld,.inl ⟨rfl,_,SqL.of (sb2 _ _ B.hd B.ndn)⟩,?_⟩
 refine⟨_,rfl,(by show 2≤sizeLine;decide),fun t ht=>⟨pd,us,_,rfl,rfl,z01 ht _ _ _ (sb2 _ _ B.hd B.ndn),z0f (by omega),?_⟩⟩
 have s3:=z01 ht (.tup [V.str "write",V.int ((rows.length:Int)+1)])
 have et:upd H2 t (.tup [V.str "write",V.int ((rows.length:Int)+1)]) t=some (.tup (z35 (none,(rows.length:Int)+1))):=z02
 have sb3:z0v fo H (upd H2 t (.tup [V.str "write",V.int ((rows.length:Int)+1)])):=fun b o e n=>s3 _ _ (sb2 _ _ e n)
 have of3:=O0.same of2 s3
 obtain⟨g1,g2⟩:=y66 B sb3 of3 (fun b m=>(ff b m).imp id fun z=>s1.free z) et (by rw[bN];omega) ⟨by show(1:Int)≤rows.length+1;omega,by show((rows.length:Int)+1)≤_;rw[bN];exact dN _⟩ l4
 refine⟨_,rfl,q (p::dx::pd::fo') _ (fun b hb=>?_) g1 g2⟩
 rcases bB.mp hb with rfl|hb
 ·exact .inl (by simp)
 rcases bB.mp hb with rfl|hb
 ·exact .inl (by simp)
 rcases bB.mp hb with rfl|hb
 ·exact .inl (by simp)
 exact(ff b hb).imp (fun z=>by simp[z]) fun z=>s1.free z
theorem y2S(d:C2)(rd n:Int):z3s (z35 d) (z35 (some rd,n))=decide (d=(some rd,n)):=by
 obtain⟨a,m⟩:=d
 cases a with
 | none=>
  rw[decide_eq_false (fun e=>by cases e)]
  rfl
 | some r=>
  show(eqV (.str "deliver") (.str "deliver") && (eqV (.int r) (.int rd) && (eqV (.int m) (.int n) && true)))=_
  rw[z90 rfl,gE,Bool.and_true,dH,bS,decide_eq_true_eq]
  show(r == rd)=true/\(m == n)=true↔_
  rw[beq_iff_eq,beq_iff_eq]
  exact⟨fun h=>by rw[h.1,h.2],fun h=>by cases h;exact⟨rfl,rfl⟩⟩
theorem y53(log:List C2)(rd n:Int):(!(log.map z35).any fun ys=>z3s ys (z35 (some rd,n)))=decide (((some rd,n):C2)∉log):=by
 rw[gM,dH,jD,decide_eq_true_eq,jC]
 refine⟨fun h m=>h _ m ?_,fun h d hd e=>h ?_⟩
 ·show z3s _ _=true
  rw[y2S]
  exact decide_eq_true rfl
 ·have e':z3s (z35 d) (z35 (some rd,n))=true:=e
  rw[y2S] at e'
  rw[<- of_decide_eq_true e']
  exact hd
theorem z9n(d:C2):(z35 d).all z21=true:=by
 obtain⟨a,m⟩:=d
 cases a<;>rfl
theorem y0j{A3 A1:Addr}(M:Bl mg)(T:F9 K mg A3)(F:Fun K "deliver" "Book.deliver" z3F f fd)(B7:D4 P w K mg base 1 A1 "issue" z1W (z5k (OfD K A1)))
  (A6:D4 P w K mg base 1 A3 "refuse_unknown_reader" z0L (z4S (BkD K A3 A1))) (A8:D4 P w K mg base 1 A3 "refuse_further_deed" z0Q (z71 (BkD K A3 A1))) :
  A5 P w K mg base CX0 5 f fd z3L (z7C (BkD K A3 A1)):=by
 have nd:=z4D.nd
 refine F.ok z4D (fun vs H Q E h=>?_) (fun cdv A outer s H vs Q E hr h=>?_)
 ·obtain⟨p,fp,zs,r,k,rows,log,rd,n,rfl,_⟩:=h
  rfl
 obtain⟨p,fp,zs,r,k,rows,log,rd,n,rfl,bk,r1,r2,n1,n2,l4,q⟩:=h
 have hu:=y0y hr
 refine⟨_,(z04 (z0C (z2b B7 (rm hr) (z0J (pv 0) rfl) (z00 (pv 2) z03))) (z04 (z0C (z2b A6 (rm hr) (pv 0) (z00 (pv 1) z03))) (z04 (z0C (z30 A8 (rm hr) (pv 0))) (z04 (z0l (i:=3) nd rfl (Or.inl rfl) (z1b (z00 (z2d rfl M.DELIVER) (z00 (pv 1) (z00 (pv 2) z03))))) (z04 (z0l (i:=4) nd rfl (Or.inl rfl) (z4I (y4z hu) (pv 3) (z0J (pv 0) rfl) (by with_unfolding_all rfl))) (z04 (z0C (z36 bY c7 cA z0O (z0J (pv 0) rfl) (z00 (pv 3) z03))) (z05 (z0h (pv 4))))))))),?_⟩
 obtain⟨dx,po,pd,fs,fo,us,rfl,B⟩:=id bk
 obtain⟨dxo,pno,plo,fso,xso,efo,h1,h2,h3,h4,l1,l2,l3,lmo,_⟩:=id B.of
 refine⟨_,rfl,p,A3,dx,fs,_,rfl,B.hp,T.cl,T.n_office,B.lo,po,dxo,fso,rfl,h1,lmo _ (by simp),_,rfl,po,fo,zs,r,rows,n,rfl,B.of,n1,n2,fun v H1 s1 _=>?_⟩
 have bk1:=w02.same bk s1
 refine⟨_,rfl,p,dx,fs,rfl,s1 _ _ B.hp,B.lm _ (by simp),_,rfl,p,_,zs,r,k,rows,log,rd,rfl,bk1,r1,r2,?_⟩
 refine⟨_,rfl,p,dx,fs,rfl,s1 _ _ B.hp,B.lm _ (by simp),p,_,zs,r,k,rows,log,rfl,bk1,l4,?_⟩
 refine⟨_,rfl,_,rfl,(by show 3≤sizeLine;decide),fun t ht=>?_⟩
 have s2:=s1.trans (z01 ht (.tup [V.str "deliver",V.int rd,V.int n]))
 have et:upd H1 t (.tup [V.str "deliver",V.int rd,V.int n]) t=some (.tup (z35 (some rd,n))):=z02
 generalize upd H1 t (.tup [V.str "deliver",V.int rd,V.int n])=H2 at s2 et
 have lu:=z3p B.ds
 have prs:Paired (fun u ys=>∃b,u=.ref b/\SqT K H2 b ys/\ys.all z21=true) us (log.map z35):=by
  have go:∀{us:List V}{log:List C2},Paired (z4z H) us log->Paired (fun u ys=>∃b,u=.ref b/\SqT K H2 b ys/\ys.all z21=true) us (log.map z35):=by
   intro us log h
   induction h with
   | nil=>exact .nil
   | cons h t ih=>
    obtain⟨b,e,q⟩:=h
    exact .cons ⟨b,e,SqT.of (s2 _ _ q),z9n _⟩ ih
  exact go B.ds
 refine⟨_,rfl,_,rfl,p,A3,dx,fs,_,rfl,s2 _ _ B.hp,T.cl,T.n_done,B.ld,t,pd,_,us,_,rfl,rfl,SqT.of et,z9n _,SqL.of (s2 _ _ B.hd),prs,?_⟩
 rw[y53]
 refine⟨_,rfl,p,A3,dx,fs,_,rfl,s2 _ _ B.hp,T.cl,T.n_done,B.ld,.inl ⟨rfl,_,SqL.of (s2 _ _ B.hd)⟩,_,rfl,pd,us,_,rfl,rfl,s2 _ _ B.hd,z0f (by omega),?_⟩
 obtain⟨g1,g2⟩:=y66 B (.of s2) (O0.same B.of s2) (fun b m=>.inl m) et (bC _) ⟨n1,n2⟩ l4
 exact⟨_,rfl,q _ g1 g2⟩
theorem y2I{xs:List V}{k:Nat}(h:k≤xs.length):M1 xs none (some (k:Int))=xs.take k:=by
 unfold M1
 have e1:HT.sIx xs.length 0 none=0:=rfl
 have e2:HT.sIx xs.length xs.length (some (k:Int))=k:=by
  rw[HT.y4A,j3 h]
 rw[e1,e2,gP,jL]
theorem y5v{H:Hp}:∀{us:List V}{log:List C2},Paired (z4z H) us log->∀(c i:Nat) (u:V),(us.take c)[i]? = some u->∃d,(log.take c)[i]? = some d/\z4z H u d:=by
 intro us log h
 induction h with
 | nil=>intro c i u e;rw[List.take_nil] at e;simp at e
 | cons h t ih=>
  intro c i u e
  cases c with
  | zero=>simp at e
  | succ c=>
   rw[List.take_succ_cons] at e ⊢
   cases i with
   | zero=>
    simp at e
    subst e
    exact⟨_,rfl,h⟩
   | succ i=>
    obtain⟨d,q1,q2⟩:=ih c i u (by simpa using e)
    exact⟨d,by simpa using q1,q2⟩
theorem y59(d:C2)(rd:Int):z3s ((z35 d).take 2) [.str "deliver",.int rd]=decide (d.1=some rd):=by
 obtain⟨a,m⟩:=d
 cases a with
 | none=>
  rw[decide_eq_false (fun e=>by cases e)]
  rfl
 | some r=>
  show(eqV (.str "deliver") (.str "deliver") && (eqV (.int r) (.int rd) && true))=_
  rw[z90 rfl,gE,Bool.and_true,dH,decide_eq_true_eq]
  show(r == rd)=true↔_
  rw[beq_iff_eq]
  exact⟨fun h=>by rw[h],fun h=>Option.some.inj h⟩
theorem z8B{A3 A1 A0 T0:Addr}{items:Array Value}(M:Bl mg)(T:F9 K mg A3)(TO:I0 K mg A1)(F:Q4 K "shelf" "Book.shelf" z55 f fd T0 items)(B7:D4 P w K mg base 1 A1 "issue" z1W (z5k (OfD K A1)))
  (A6:D4 P w K mg base 1 A3 "refuse_unknown_reader" z0L (z4S (BkD K A3 A1))) (R7:Mkr P w K mg base 3 A0 "Shelf" z2Q (y18 K A0 (ShD K A0)))
  (K3:D4 P w K mg base 1 A0 "put" z5K (y7v (ShD K A0))):A5 P w K mg base CX0 6 f fd z2T (z5G (BkD K A3 A1) (ShD K A0)):=by
 have nd:=z6r.nd
 refine F.ok z6r (fun vs H Q E h=>?_) (fun cdv A outer s H vs Q E hr h=>?_)
 ·obtain⟨p,fp,zs,r,k,rows,log,rd,o,rfl,_⟩:=h
  rfl
 obtain⟨p,fp,zs,r,k,rows,log,rd,o,rfl,bk,r1,r2,od,q⟩:=h
 refine⟨_,(z04 (z0l (i:=3) nd rfl (Or.inl rfl) (z9g (z8o (z9C (pv 2))) (z0b z0a rfl M.len bP (z00 (z0J (pv 0) rfl) z03)) (pv 2))) (z04 (z0N (PW.pt (z4v (z0c z8P (pv 3) z06 (z0n _)) (z2P (z0c z2A (pv 3) (z0b z0a rfl M.len bP (z00 (z0J (pv 0) rfl) z03)) (z0n _))))) (z05 z1s) z0p) (z04 (z0C (z2b A6 (rm hr) (pv 0) (z00 (pv 1) z03))) (z04 (z0l (i:=4) nd rfl (Or.inl rfl) (y2w R7 (rm hr) rfl (z00 (z0J (z0J (pv 0) rfl) rfl) (z00 (z0J (z0J (pv 0) rfl) rfl) z03)))) (z04 (z1h cC rfl (z18 (z3N y0I (z0J (pv 0) rfl) z4V (z54 (pv 3)))) (z0j (i:=5) nd rfl (Or.inl rfl)) (z05 (z0N (z0c (y7H hr.T4) (z3N y6L (pv 5) z4V (z54 z06)) (z1b (z00 (z2d rfl M.DELIVER) (z00 (pv 1) z03))) (z0n _)) (z05 (z0C (z2b K3 (rm hr) (pv 4) (z00 (z2b B7 (rm hr) (z0J (pv 0) rfl) (z00 (z0K z0U (pv 5) z06 (fun _ _=>rfl)) z03)) z03)))) z0p))) (z05 (z0h (pv 4)))))))),?_⟩
 obtain⟨dx,po,pd,fs,fo,us,rfl,B⟩:=id bk
 obtain⟨dxo,pno,plo,fso,xso,efo,h1,h2,h3,h4,l1,l2,l3,lmo,_,_,_,g,r0,r10⟩:=id B.of
 have lu:=z3p B.ds
 have cle:o.getD log.length≤log.length:=by
  cases o with
  | none=>exact bC _
  | some d=>exact od d rfl
 have beh:∀(Qk:VK),Qk (.int (o.getD log.length:Nat)) H->tIf (tB (w0b (S5 2))) (tCB (fun xs H_1 Q=>∃p ys,xs=[V.ref p]/\(SqL K H_1 p ys\/SqT K H_1 p ys)/\Q (V.int ys.length) H_1) (y5L (w01 K (S5 0) "done") V2)) (S5 2) (z4g ["self","reader","deed","behind","told","past"] [.ref p,.int rd,w08 o]) H Qk:=fun Qk hq=>by
  cases o with
  | none=>
   refine⟨_,rfl,_,rfl,N0 ⟨_,rfl,p,A3,dx,fs,_,rfl,B.hp,T.cl,T.n_done,B.ld,pd,us,rfl,.inl (SqL.of B.hd),?_⟩⟩
   rw[lu]
   exact hq
  | some d=>exact⟨_,rfl,_,rfl,C6 ⟨_,rfl,hq⟩⟩
 refine beh _ ?_
 generalize o.getD log.length=c at cle q
 clear beh
 refine⟨_,rfl,_,_,rfl,rfl,_,rfl,A9 (fun q=>absurd (z0F q) (by omega)) fun _=>⟨_,rfl,_,rfl,p,A3,dx,fs,_,rfl,B.hp,T.cl,T.n_done,B.ld,pd,us,rfl,.inl (SqL.of B.hd),_,_,rfl,rfl,_,rfl,A9 (fun q=>absurd (z0F q) (by omega)) fun _=>?_⟩⟩
 refine⟨_,rfl,p,dx,fs,rfl,B.hp,B.lm _ (by simp),_,rfl,p,_,zs,r,k,rows,log,rd,rfl,bk,r1,r2,?_⟩
 refine⟨_,rfl,p,A3,dx,fs,_,rfl,B.hp,T.cl,T.n_office,B.lo,po,A1,dxo,fso,_,rfl,h1,TO.cl,TO.n_names,l1,_,rfl,p,A3,dx,fs,_,rfl,B.hp,T.cl,T.n_office,B.lo,po,A1,dxo,fso,_,rfl,h1,TO.cl,TO.n_reach,l2,fun x dxs nx ndx ne=>?_⟩
 have m1:=z80 (C:=A0) (A4.refl H) nx ndx
 refine⟨x,dxs,pno,zs,r,rfl,z02,ne,by rw[z0e ne,z02],.inr (m1 _ _ h3),g,r0,r10,fun fq H1 ff sb sh=>⟨rfl,?_⟩⟩
 have s1:A4 H H1:=z76 sb m1 nx
 have f1:∀b∈fq,H b=none:=fun b hb=>z69 m1 nx ndx (ff b hb)
 have sh1:ShD K A0 H1 x fq zs r (fun n=>z13 rows n r) []:=sh _
 refine⟨_,rfl,p,A3,dx,fs,_,rfl,s1 _ _ B.hp,T.cl,T.n_done,B.ld,_,rfl,_,rfl,pd,_,rfl,SqL.of (s1 _ _ B.hd),fun lq hlq=>?_⟩
 rw[y2I (by omega)]
 have s2:=s1.trans (z01 hlq (.lst (us.take c)))
 have e2:upd H1 lq (.lst (us.take c)) lq=some (.lst (us.take c)):=z02
 have sh2:=F3.same sh1 (z01 hlq (.lst (us.take c)))
 have f2:lq∉fq:=fun m=>by
  obtain⟨o,e,_⟩:=F3.own sh1 lq m
  rw[hlq] at e
  cases e
 generalize upd H1 lq (.lst (us.take c))=H2 at s2 e2 sh2
 have nt2:z5Y H2 fq:=F3.S7 sh2
 have out:∀{b:Addr}{o:HO},H b=some o->b∉fq:=fun e m=>by rw[f1 _ m] at e;cases e
 have lt:(us.take c).length=c:=by rw[bO];omega
 refine⟨lq,rfl,⟨_,SqL.of e2⟩,z1m (K:=K) (a:=lq) (xs:=us.take c) (fun i σ H'=>∃(fq':List Addr) (o5:Option V),z0v fq H2 H'/\ShD K A0 H' x fq' zs r (fun n=>z13 rows n r) (R1 ((log.take c).take i) rd)/\(∀b∈fq',b∈fq\/H2 b=none)/\
   σ=[some (.ref p),some (.int rd),some (w08 o),some (.int c),some (.ref x),o5]) ⟨fq,none,.of (A4.refl _),sh2,fun b m=>.inl m,rfl⟩ (fun i σ H' _ ⟨_,_,bt,_⟩=>SqL.of (bt _ _ e2 f2)) ?_ ?_⟩
 ·rintro i u σ H' hi ⟨fq',o5,bt,shx,ffx,rfl⟩
  obtain⟨d,ed,b,rfl,hb⟩:=y5v B.ds c i u hi
  have sk:∀{b:Addr}{o:HO},H b=some o->H' b=some o:=fun e=>bt _ _ (s2 _ _ e) (out e)
  have hin:=B.in1 d (gA (bR ed))
  have l2d:2≤(z35 d).length:=by
   obtain⟨a,m⟩:=d
   cases a
   ·show 2≤2;decide
   ·show 2≤3;decide
  have cut:∀(Qk:VK),(∀(t1:Addr) (G:Hp),A4 H' G->G t1=some (.tup ((z35 d).take 2))->Qk (.ref t1) G)->rSlA K (.ref b) none (some 2) H' Qk:=fun Qk hq=>by
   refine⟨b,_,rfl,SqT.of (sk hb),fun hw=>hq b H' (A4.refl _) ?_,fun _ t1 ht1=>hq t1 _ (z01 ht1 _) ?_⟩
   ·rw[sk hb,cZ]
    have:=hw.2
    have e:HT.sIx (z35 d).length (z35 d).length (some (2:Int))=min 2 (z35 d).length:=HT.y4A _ _ 2
    omega
   ·rw[z02]
    exact congrArg (fun z=>some (HO.tup z)) (y2I (k:=2) l2d)
  refine⟨_,rfl,_,rfl,cut _ fun t1 G sG e1'=>⟨_,rfl,(by show 2≤sizeLine;decide),fun t2 ht2=>?_⟩⟩
  have s3:=sG.trans (z01 ht2 (.tup [V.str "deliver",V.int rd]))
  have e3:upd G t2 (.tup [V.str "deliver",V.int rd]) t1=some (.tup ((z35 d).take 2)):=z01 ht2 _ _ _ e1'
  have e4:upd G t2 (.tup [V.str "deliver",V.int rd]) t2=some (.tup [V.str "deliver",V.int rd]):=z02
  generalize upd G t2 (.tup [V.str "deliver",V.int rd])=H3 at s3 e3 e4
  have fl:((z35 d).take 2).all z21=true:=by
   obtain⟨a,m⟩:=d
   cases a<;>rfl
  refine⟨t1,t2,_,_,rfl,rfl,SqT.of e3,SqT.of e4,fl,rfl,_,rfl,?_⟩
  rw[y59,z0r ed,y2D]
  have sh3:=F3.same shx s3
  refine A9 (fun cc=>?_) (fun cc=>?_)
  ·have c':=z0F cc
   rw[if_pos c']
   obtain⟨a,n⟩:=d
   have ea:a=some rd:=c'
   subst ea
   obtain⟨d1,g1,z1,w1⟩:=F3.ins sh3
   refine⟨_,rfl,x,d1,g1,rfl,z1,w1 _ (by simp),_,rfl,p,A3,dx,fs,_,rfl,s3 _ _ (sk B.hp),T.cl,T.n_office,B.lo,po,dxo,fso,rfl,s3 _ _ (sk h1),lmo _ (by simp),_,rfl,b,_,2,_,rfl,rfl,SqT.of (s3 _ _ (sk hb)),rfl,po,fo,zs,r,rows,n,rfl,?_,hin.1,hin.2,fun v H4 s4 tv=>?_⟩
   ·exact O0.same (O0.keep (O0.same B.of s2) bt (fun b m z=>by
     obtain⟨o,e,_⟩:=O0.own B.of b z
     exact out e m) nt2) s3
   have n60:rows.length≤60:=by
    obtain⟨_,_,_,_,_,_,_,_,_,_,_,_,_,_,_,n60,_⟩:=B.of
    exact n60
   refine⟨x,v,fq',zs,r,_,_,n,_,rfl,F3.same sh3 s4,tv,rfl,hin.1,by have:=hin.2;have:n≤rows.length:=this;omega,fun fq2 H5 ff5 sb5 sh5=>?_⟩
   have g4:=s3.trans s4
   exact⟨fq2,_,(fun b o e nb=>sb5 b o (g4 _ _ (bt b o e nb)) fun m=>(ffx b m).elim nb fun z=>by rw[e] at z;cases z),sh5,y74 bt ffx g4 ff5,rfl⟩
  ·have c':=z3v cc
   rw[if_neg c']
   exact⟨fq',_,fun b o e nb=>s3 _ _ (bt b o e nb),sh3,ffx,rfl⟩
 ·rintro σ H' ⟨fq',o5,bt,shx,ffx,rfl⟩
  rw[lt,List.take_take,Nat.min_self] at shx
  exact⟨_,rfl,q x fq' H' (fun b m=>(ffx b m).elim (f1 b) fun z=>s2.free z) (fun b o e=>bt _ _ (s2 _ _ e) (out e)) shx⟩
def HT(H:Hp)(u:V)(p:Str×Int):Prop:=∃b,u=.ref b/\H b=some (.tup [.str p.1,.int p.2])
theorem HT.keep{H H':Hp}(g:A4 H H'):∀{us:List V}{pr:Row},Paired (HT H) us pr->Paired (HT H') us pr
 | _,_,.nil=>.nil
 | _,_,.cons ⟨b,e,h⟩ t=>.cons ⟨b,e,g _ _ h⟩ (HT.keep g t)
theorem HT.hand{K:PySem.W.Frag}{H:Hp}{fp:List Addr}(no:z5Y H fp):∀{us:List V}{pr:Row},Paired (HT H) us pr->Paired (z8U K H fp) us pr
 | _,_,.nil=>.nil
 | _,_,.cons ⟨b,e,h⟩ t=>.cons ⟨b,e,.inr (SqT.of h),fun m=>no b m _ h⟩ (HT.hand no t)
def L9(n:Nat):List C2:=(upI 1 n).map fun k=>(none,k)
def O6(hs:List Int):List C2:=hs.map fun n=>(some 1,n)
theorem y4l(i:Nat):L9 (i+1)=L9 i++[(none,(i:Int)+1)]:=by
 unfold L9
 rw[z5J,bE,Int.add_comm]
 rfl
theorem y1n(i:Nat):(L9 i).length=i:=by
 unfold L9
 rw[b8,z0M]
theorem y2V(hs:List Int)(n:Int):O6 (hs++[n])=O6 hs++[(some 1,n)]:=by
 unfold O6
 rw[bE]
 rfl
theorem y7z{m:Nat}{hs:List Int}{n:Int}:((some 1,n):C2)∈L9 m++O6 hs↔n∈hs:=by
 rw[bM]
 unfold L9 O6
 rw[cB,cB]
 constructor
 ·rintro(⟨k,_,e⟩|⟨k,hk,e⟩)
  ·cases e
  ·cases e
   exact hk
 ·exact fun h=>.inr ⟨n,h,rfl⟩
theorem y7X{m:Nat}{hs:List Int}(n:Int):n∈R1 (L9 m++O6 hs) 1↔n∈hs:=by rw[y4T,y7z]
theorem y2N{ns ms:List Int}(h:∀x,x∈ns↔x∈ms)(B3:∀x∈ms,1≤x/\x≤60)(x:Int):x∈z0g ns↔x∈ms:=by
 rw[z1n,h]
 exact⟨fun q=>q.2,fun q=>⟨by have:=B3 x q;omega,q⟩⟩
theorem y19{H:Hp}:∀{w:Row}{xs:List V},z08 H (w.map z8T) xs->Paired (HT H) xs w
 | [],xs,h=>by
  rw[z0G h]
  exact .nil
 | p::w,xs,h=>by
  obtain⟨x,r,rfl,t,h'⟩:=z09 h
  obtain⟨a,us,rfl,ea,_,tu⟩:=z0q (show A7 H (.tup [.str p.1,.int p.2]) x from t)
  obtain⟨y1,r1,rfl,t1,h3⟩:=z09 tu
  obtain⟨y2,r2,rfl,t2,h4⟩:=z09 h3
  have:=z0G h4
  subst this
  rw[z2i t1,z0S t2] at ea
  exact .cons ⟨a,rfl,ea⟩ (y19 h')
def y63(Sh:ShP):Sp:=fun vs H Q _=>∃(x:Addr) (fp:List Addr) (nm:List Str) (r:Int) (rows:List Row) (had:List Int),vs=[.ref x]/\Sh H x fp nm r (fun n=>z13 rows n r) had/\E4 nm/\Rws nm rows/\rows.length≤60/\(∀n∈had,1≤n/\n≤rows.length)/\0≤r/\r≤10/\
 ∀(v:V) (H':Hp),A4 H H'->A7 H' (y1l nm (z0g had) rows r) v->Q v H'
theorem y1M(nm:List Str)(ns:List Int)(rows:List Row)(r:Int):(y1l nm ns rows r).deep≤2:=y16 fun d hd=>by
 obtain⟨z,_,rfl⟩:=cB.mp hd
 unfold V6
 refine y16 fun d hd=>?_
 rcases bB.mp hd with rfl|hd
 ·exact y1f _ _
 rcases bB.mp hd with rfl|hd
 ·exact y1f _ _
 rcases bB.mp hd with rfl|hd
 ·exact y1a _ _
 rw[bA.mp hd]
 cases z0w (z0g ns) rows z with
 | none=>unfold y39 DV.deep;exact cR _
 | some p=>exact y1a _ _
def y1h(Sh:ShP):Sp:=fun vs H Q _=>∃(x:Addr) (fp:List Addr) (nm:List Str) (r:Int) (rows:List Row) (had:List Int),vs=[.ref x]/\Sh H x fp nm r (fun n=>z13 rows n r) had/\E4 nm/\Rws nm rows/\rows.length≤60/\(∀n∈had,1≤n/\n≤rows.length)/\0≤r/\r≤10/\
 ∀(v:V) (H':Hp),A4 H H'->A7 H' (.tup (z9i (z0g had) rows r)) v->Q v H'
def y62(K:PySem.W.Frag):Sp:=fun vs H Q _=>∃(p:Addr) (ns:List Int),vs=[.ref p]/\SqI K H p ns/\(∀x∈ns,1≤x/\x≤60)/\
 ∀(l:Addr) (H':Hp),H l=none->A4 H H'->H' l=some (.tup ((z0W ns).map V.int))->Q (.ref l) H'
theorem y6G(M:Bl mg)(F:Fun K "lacking_numbers" "lacking_numbers" z2q f fd):A5 P w K mg base CX0 1 f fd z2w (y62 K):=by
 have nd:=z3u.nd
 refine F.ok z3u (fun vs H Q E h=>?_) (fun cdv A outer s H vs Q E hr h=>?_)
 ·obtain⟨p,ns,rfl,_⟩:=h
  rfl
 obtain⟨p,ns,rfl,hS,B3,q⟩:=h
 refine⟨_,(z04 (z0l (i:=1) nd rfl (Or.inl rfl) (y3b rfl rfl M.max (z00 (pv 0) z03) (z97 z06 y1i))) (z05 (z0h (z0o z0t rfl M.tuple bT (z00 (z1i ["number"] ["had"] [0] rfl (z0u rfl (by decide +kernel) rfl (by decide +kernel) rfl rfl) (z5j rfl M.range (z00 z06 (z00 (z0s z1D (pv 1) z06) z03))) (fun _ _ _ _ _=>(z0j (i:=0) (show((["number"]:List PySem.Str)++(["had"]:List PySem.Str)).Nodup from by decide +kernel) rfl (Or.inl rfl))) (z0x (by decide)) z0d (fun _ _ _ _ _=>(z26 (z0c (r:=rIn K true) z1k (pv 0) (pv 1) (by with_unfolding_all rfl)))) (fun _ _ _ _ _=>(pv 0))) z03))))),?_⟩
 refine⟨_,rfl,p,ns,.int 0,rfl,rfl,hS,fun hnil=>?_,fun m hm top=>?_⟩
 ·subst hnil
  refine⟨_,rfl,_,_,rfl,rfl,_,_,rfl,⟨by decide,by decide,by decide,by decide⟩,?_⟩
  refine z7y (lo:=1) (n:=0) (fun _=>true) (fun k=>.int k) (by decide) (fun k ys N k0 k1 hN=>by omega) ?_
  intro D hD
  refine⟨D,_,rfl,.inl ⟨SqL.of z02,fun l hl=>?_⟩⟩
  have h1:H l=none:=(z01 hD _).free hl
  refine q l _ h1 ((z01 hD _).trans (z01 hl _)) ?_
  rw[z02,y05]
  rfl
 ·have hm':=B3 m hm
  refine⟨_,rfl,_,_,rfl,rfl,_,_,rfl,⟨by decide,by decide,by omega,by omega⟩,?_⟩
  refine z7y (lo:=1) (n:=(m+1-1).toNat) (fun k=>!decide (k∈ns)) (fun k=>.int k) (by omega) (fun k ys N k0 k1 hN=>?_) ?_
  ·refine⟨_,rfl,_,rfl,p,_,rfl,hS,rfl,z1X ns,_,rfl,?_⟩
   rw[if_pos rfl,z2B]
   refine A9 (fun c=>?_) (fun c=>?_)
   ·rw[if_pos c] at hN
    exact⟨_,rfl,hN⟩
   ·rw[if_neg c] at hN
    exact hN
  ·intro D hD
   refine⟨D,_,rfl,.inl ⟨SqL.of z02,fun l hl=>?_⟩⟩
   have h1:H l=none:=(z01 hD _).free hl
   refine q l _ h1 ((z01 hD _).trans (z01 hl _)) ?_
   rw[z02]
   have e:z2h (fun k=>!decide (k∈ns)) (fun k=>V.int k) (upI 1 (m+1-1).toNat)=(z0W ns).map V.int:=by
    unfold z2h
    rw[y2Z hm B3 top]
   rw[e]
def y17(K:PySem.W.Frag):Sp:=fun vs H Q _=>∃(p:Addr) (ns:List Int) (n r:Int),vs=[.ref p,.int n,.int r]/\SqI K H p ns/\(∀x∈ns,1≤x/\x≤60)/\ns.length≤900/\
 ∀H',A4 H H'->Q (.int (z0E ns n r)) H'
theorem y2X(M:Bl mg)(F:Fun K "teller_of" "teller_of" z6h f fd):A5 P w K mg base CX0 1 f fd z6g (y17 K):=by
 have nd:=z7p.nd
 refine F.ok z7p (fun vs H Q E h=>?_) (fun cdv A outer s H vs Q E hr h=>?_)
 ·obtain⟨p,ns,n,r,rfl,_⟩:=h
  rfl
 obtain⟨p,ns,n,r,rfl,hS,B3,hlen,q⟩:=h
 have fin:∀D,H D=none->(z2h (fun y=>decide (n<y) && decide (y-r≤n)) (fun y=>V.int y) ns=(ns.filter fun y=>decide (n<y) && decide (y-r≤n)).map V.int):=fun _ _=>rfl
 have Y8:(ns.filter fun y=>decide (n<y) && decide (y-r≤n))=[]->z0E ns n r=0:=fun e=>z3x fun y hy h1 h2=>by
  have:y∈ns.filter fun y=>decide (n<y) && decide (y-r≤n):=bU.mpr ⟨hy,by rw[decide_eq_true h1,decide_eq_true h2];rfl⟩
  rw[e] at this
  cases this
 have Y5:∀m,m∈(ns.filter fun y=>decide (n<y) && decide (y-r≤n))->(∀y∈(ns.filter fun y=>decide (n<y) && decide (y-r≤n)),m≤y)->z0E ns n r=m:=fun m hm hl=>by
  rw[bU,bS,decide_eq_true_eq,decide_eq_true_eq] at hm
  exact y1p B3 hm.1 hm.2.1 hm.2.2 fun y hy h1 h2=>hl y (bU.mpr ⟨hy,by rw[decide_eq_true h1,decide_eq_true h2];rfl⟩)
 rcases hS with hS|hS
 ·refine⟨_,(z04 (z4X (i:=3) ["above"] ["number","reach"] [1,2] rfl nd rfl (Or.inl rfl) (z0u rfl (by decide +kernel) rfl (by decide +kernel) rfl rfl) (z18 (pv 0)) (fun _ _ _ _ _=>(z0j (i:=0) (show((["above"]:List PySem.Str)++(["number","reach"]:List PySem.Str)).Nodup from by decide +kernel) rfl (Or.inl rfl))) (z0x (by decide)) z0d (fun _ _ _ _ _=>(z26 (PW.pt (z5E (z0c z2A (pv 0) (pv 1) (z0n _)) (z3J (z0c y6U (z0s z3r (pv 0) (pv 2)) (pv 1) (z0n _))))))) (fun _ _ _ _ _=>(pv 0))) (z05 (z0h (y37 rfl rfl M.min (z00 (pv 3) z03) (z97 z06 y1i))))),?_⟩
  refine⟨_,rfl,p,rfl,⟨_,hS⟩,?_⟩
  refine y09 (ns:=ns) (fun y=>decide (n<y) && decide (y-r≤n)) (fun y=>.int y) hS (by omega) (fun y ys N hy hN=>?_) (fun D hD=>?_)
  ·refine⟨_,rfl,_,rfl,_,_,rfl,rfl,_,rfl,?_⟩
   refine A9 (fun c=>?_) (fun c=>?_)
   ·refine⟨_,rfl,_,rfl,_,_,rfl,rfl,_,rfl,_,_,rfl,rfl,_,rfl,?_⟩
    rw[c,gE] at hN
    refine A9 (fun c2=>?_) (fun c2=>?_)
    ·rw[if_pos c2] at hN
     exact⟨_,rfl,hN⟩
    ·rw[if_neg c2] at hN
     exact hN
   ·rw[gU.mpr c,gO] at hN
    exact C6 hN
  ·refine⟨_,rfl,D,_,.int 0,rfl,rfl,.inl (SqL.of z02),fun e=>?_,fun m hm hl=>?_⟩
   ·have:=q _ (z01 hD (.lst (z2h (fun y=>decide (n<y) && decide (y-r≤n)) (fun y=>V.int y) ns)))
    rw[Y8 e] at this
    exact this
   ·have:=q _ (z01 hD (.lst (z2h (fun y=>decide (n<y) && decide (y-r≤n)) (fun y=>V.int y) ns)))
    rw[Y5 m hm hl] at this
    exact this
 ·refine⟨_,(z04 (z4X (i:=3) ["above"] ["number","reach"] [1,2] rfl nd rfl (Or.inl rfl) (z0u rfl (by decide +kernel) rfl (by decide +kernel) rfl rfl) (z2I (pv 0)) (fun _ _ _ _ _=>(z0j (i:=0) (show((["above"]:List PySem.Str)++(["number","reach"]:List PySem.Str)).Nodup from by decide +kernel) rfl (Or.inl rfl))) (z0x (by decide)) z0d (fun _ _ _ _ _=>(z26 (PW.pt (z5E (z0c z2A (pv 0) (pv 1) (z0n _)) (z3J (z0c y6U (z0s z3r (pv 0) (pv 2)) (pv 1) (z0n _))))))) (fun _ _ _ _ _=>(pv 0))) (z05 (z0h (y37 rfl rfl M.min (z00 (pv 3) z03) (z97 z06 y1i))))),?_⟩
  refine⟨_,rfl,p,rfl,⟨_,hS⟩,?_⟩
  refine z8r (ns:=ns) (fun y=>decide (n<y) && decide (y-r≤n)) (fun y=>.int y) hS (by omega) (fun y ys N hy hN=>?_) (fun D hD=>?_)
  ·refine⟨_,rfl,_,rfl,_,_,rfl,rfl,_,rfl,?_⟩
   refine A9 (fun c=>?_) (fun c=>?_)
   ·refine⟨_,rfl,_,rfl,_,_,rfl,rfl,_,rfl,_,_,rfl,rfl,_,rfl,?_⟩
    rw[c,gE] at hN
    refine A9 (fun c2=>?_) (fun c2=>?_)
    ·rw[if_pos c2] at hN
     exact⟨_,rfl,hN⟩
    ·rw[if_neg c2] at hN
     exact hN
   ·rw[gU.mpr c,gO] at hN
    exact C6 hN
  ·refine⟨_,rfl,D,_,.int 0,rfl,rfl,.inl (SqL.of z02),fun e=>?_,fun m hm hl=>?_⟩
   ·have:=q _ (z01 hD (.lst (z2h (fun y=>decide (n<y) && decide (y-r≤n)) (fun y=>V.int y) ns)))
    rw[Y8 e] at this
    exact this
   ·have:=q _ (z01 hD (.lst (z2h (fun y=>decide (n<y) && decide (y-r≤n)) (fun y=>V.int y) ns)))
    rw[Y5 m hm hl] at this
    exact this
def Pr(H:Hp)(u:V)(p:Int×Int):Prop:=∃a,u=.ref a/\H a=some (.tup [.int p.1,.int p.2])
theorem Pr.keep{H H':Hp}(s:A4 H H'){u:V}{p:Int×Int}(h:Pr H u p):Pr H' u p:=let ⟨a,e,q⟩:=h;⟨a,e,s _ _ q⟩
abbrev Prs(H:Hp):List V->List (Int×Int)->Prop:=Paired (Pr H)
theorem Prs.keep{H H':Hp}(s:A4 H H'):∀{xs:List V}{ps:List (Int×Int)},Prs H xs ps->Prs H' xs ps
 | _,_,.nil=>.nil
 | _,_,.cons r t=>.cons (r.keep s) (Prs.keep s t)
theorem Prs.get{H:Hp}:∀{xs:List V}{ps:List (Int×Int)},Prs H xs ps->∀(i:Nat) (u:V),xs[i]? = some u->∃p,ps[i]? = some p/\Pr H u p
 | _,_,.nil,i,u,e=>by simp at e
 | _,_,.cons r t,0,u,e=>by
  simp at e
  subst e
  exact⟨_,rfl,r⟩
 | _,_,.cons r t,i+1,u,e=>by
  obtain⟨p,h1,h2⟩:=Prs.get t i u (by simpa using e)
  exact⟨p,by simpa using h1,h2⟩
theorem Prs.snoc{H:Hp}{xs:List V}{ps:List (Int×Int)}{u:V}{p:Int×Int}(h:Prs H xs ps)(q:Pr H u p):Prs H (xs++[u]) (ps++[p]):=jA h q
theorem Prs.len{H:Hp}:∀{xs:List V}{ps:List (Int×Int)},Prs H xs ps->xs.length=ps.length
 | _,_,.nil=>rfl
 | _,_,.cons _ t=>by rw[bZ,bZ,Prs.len t]
def P6(ns:List Int)(r:Int):List (Int×Int):=(z0W ns).map fun n=>(n,z0E ns n r)
def z2v(ns:List Int)(r:Int):List Int:=((P6 ns r).filter fun q=>decide (q.2=0)).map Prod.fst
def y75(K:PySem.W.Frag):Sp:=fun vs H Q _=>∃(p:Addr) (ns:List Int) (r:Int),vs=[.ref p,.int r]/\SqI K H p ns/\(∀x∈ns,1≤x/\x≤60)/\ns.length≤900/\
 ∀(l:Addr) (xs:List V) (H':Hp),A4 H H'->H' l=some (.tup xs)->Prs H' xs (P6 ns r)->Q (.ref l) H'
theorem y7R(M:Bl mg)(F:Fun K "lacking_with_tellers" "lacking_with_tellers" z1u f fd)(E6:Cal P w K mg base 1 "lacking_numbers" z2w (y62 K))
  (M5:Cal P w K mg base 1 "teller_of" z6g (y17 K)):A5 P w K mg base CX0 2 f fd z14 (y75 K):=by
 have nd:=z23.nd
 refine F.ok z23 (fun vs H Q E h=>?_) (fun cdv A outer s H vs Q E hr h=>?_)
 ·obtain⟨p,ns,r,rfl,_⟩:=h
  rfl
 obtain⟨p,ns,r,rfl,hS,B3,hlen,q⟩:=h
 refine⟨_,(z05 (z0h (z0o z0t rfl M.tuple bT (z00 (z1i ["number"] ["had","reach"] [0,1] rfl (z0u rfl (by decide +kernel) rfl (by decide +kernel) rfl rfl) (z2I (z0k E6 (rm hr) rfl (z00 (pv 0) z03))) (fun _ _ _ _ _=>(z0j (i:=0) (show((["number"]:List PySem.Str)++(["had","reach"]:List PySem.Str)).Nodup from by decide +kernel) rfl (Or.inl rfl))) (z0x (by decide)) z0d (fun _ _ _ _ _=>z1Y) (fun _ _ _ _ _=>(z1b (z00 (pv 0) (z00 (z0k M5 (rm hr) rfl (z00 (pv 1) (z00 (pv 0) (z00 (pv 2) z03)))) z03))))) z03)))),?_⟩
 refine⟨_,rfl,p,ns,rfl,hS,B3,fun lt H1 nlt s1 e1=>⟨lt,rfl,⟨_,SqT.of e1⟩,?_⟩⟩
 have ll:=z2m ns
 refine z1O (xs:=(z0W ns).map V.int) (fun i ys H'=>A4 H1 H'/\Prs H' ys (((z0W ns).take i).map fun n=>(n,z0E ns n r))) ⟨A4.refl _,.nil⟩ (fun i ys H' hi hp=>?_) (fun i x ys H' hx hp=>?_) (fun ys H' hp=>?_)
 ·obtain⟨g,pr⟩:=hp
  refine⟨SqT.of (g _ _ e1),z0f ?_⟩
  rw[pr.len,b8,bO]
  omega
 ·obtain⟨g,pr⟩:=hp
  rw[bG] at hx
  cases e:(z0W ns)[i]? with
  | none=>rw[e] at hx;cases hx
  | some n=>
   rw[e] at hx
   cases hx
   refine⟨_,rfl,_,rfl,_,rfl,_,rfl,p,ns,n,r,rfl,SqI.keep (s1.trans g) hS,B3,hlen,fun H2 g2=>⟨(by show 2≤sizeLine;decide),fun t ht=>?_⟩⟩
   refine⟨g.trans (g2.trans (z01 ht _)),?_⟩
   rw[z0r e,bE]
   exact Prs.snoc (pr.keep (g2.trans (z01 ht _))) ⟨t,rfl,z02⟩
 ·obtain⟨g,pr⟩:=hp
  rw[b8,bV] at pr
  intro D hD
  refine⟨D,_,rfl,.inl ⟨SqL.of z02,fun l hl=>?_⟩⟩
  exact q l ys _ (s1.trans (g.trans ((z01 hD _).trans (z01 hl _)))) z02 (pr.keep ((z01 hD _).trans (z01 hl _)))
def y5N(K:PySem.W.Frag):Sp:=fun vs H Q _=>∃(p:Addr) (ns:List Int) (r:Int),vs=[.ref p,.int r]/\SqI K H p ns/\(∀x∈ns,1≤x/\x≤60)/\ns.length≤900/\
 ∀(l:Addr) (H':Hp),A4 H H'->H' l=some (.tup ((z2v ns r).map V.int))->Q (.ref l) H'
theorem y2u(ns:List Int)(r:Int):(P6 ns r).length≤60:=by
 unfold P6
 rw[b8]
 exact z2m ns
theorem y76(M:Bl mg)(F:Fun K "dark_numbers" "dark_numbers" z3P f fd)(B2:Cal P w K mg base 2 "lacking_with_tellers" z14 (y75 K)):A5 P w K mg base CX0 3 f fd z3y (y5N K):=by
 have nd:=z4x.nd
 refine F.ok z4x (fun vs H Q E h=>?_) (fun cdv A outer s H vs Q E hr h=>?_)
 ·obtain⟨p,ns,r,rfl,_⟩:=h
  rfl
 obtain⟨p,ns,r,rfl,hS,B3,hlen,q⟩:=h
 refine⟨_,(z05 (z0h (z0o z0t rfl M.tuple bT (z00 (z1i ["number","teller"] [] [] rfl (z0u rfl (by decide +kernel) rfl (by decide +kernel) rfl rfl) (z2I (z0k B2 (rm hr) rfl (z00 (pv 0) (z00 (pv 1) z03)))) (fun _ _ _ _ _=>(z9j (K:=K) (n:=2) rfl rfl (z1C (z0j (i:=0) (show((["number","teller"]:List PySem.Str)++([]:List PySem.Str)).Nodup from by decide +kernel) rfl (Or.inl rfl)) (z1C (z0j (i:=1) (show((["number","teller"]:List PySem.Str)++([]:List PySem.Str)).Nodup from by decide +kernel) rfl (Or.inl rfl)) z66)))) (z9f (z20 (z0x (by decide)) z0d (z20 (z0x (by decide)) z0d z6X z1e) (z0P z0d z1e))) (z6T (z0P z0d (z0P z0d z1e))) (fun _ _ _ _ _=>(z26 (z0c z2r (pv 1) z06 (z0n _)))) (fun _ _ _ _ _=>(pv 0))) z03)))),?_⟩
 refine⟨_,rfl,_,rfl,p,ns,r,rfl,hS,B3,hlen,fun lt xs H1 s1 e1 pr1=>⟨lt,rfl,⟨_,SqT.of e1⟩,?_⟩⟩
 have ll:=y2u ns r
 have lx:=pr1.len
 refine z1O (xs:=xs) (fun i ys H'=>H'=H1/\ys=(((P6 ns r).take i).filter fun q=>decide (q.2=0)).map fun q=>V.int q.1) ⟨rfl,rfl⟩ (fun i ys H' hi hp=>?_) (fun i x ys H' hx hp=>?_) (fun ys H' hp=>?_)
 ·obtain⟨rfl,rfl⟩:=hp
  refine⟨SqT.of e1,z0f ?_⟩
  have h1:=cF (fun q:Int×Int=>decide (q.2=0)) ((P6 ns r).take i)
  rw[b8]
  rw[bO] at h1
  omega
 ·obtain⟨rfl,rfl⟩:=hp
  obtain⟨⟨n,t⟩,e,a,rfl,ha⟩:=pr1.get i x hx
  refine⟨a,_,rfl,SqT.of ha,rfl,_,_,rfl,_,_,rfl,rfl,?_⟩
  refine⟨_,rfl,rfl,_,rfl,?_⟩
  rw[z0r e,dR,eX,bE]
  refine A9 (fun c=>?_) (fun c=>?_)
  ·have c':decide (t=0)=true:=decide_eq_true (V.int.inj (z0F c))
   refine⟨_,rfl,rfl,?_⟩
   rw[if_pos c']
   rfl
  ·have c':¬decide (t=0)=true:=fun z=>c (decide_eq_true (congrArg V.int (z0F z)))
   refine⟨rfl,?_⟩
   rw[if_neg c']
   simp
 ·obtain⟨rfl,rfl⟩:=hp
  rw[lx,bV]
  intro D hD
  refine⟨D,_,rfl,.inl ⟨SqL.of z02,fun l hl=>?_⟩⟩
  refine q l _ (s1.trans ((z01 hD _).trans (z01 hl _))) ?_
  rw[z02]
  unfold z2v
  rw[eF]
  rfl
theorem z9G(ns:List Int)(r:Int):(z2v ns r).length≤60:=by
 have h:=cF (fun q:Int×Int=>decide (q.2=0)) (P6 ns r)
 have:=y2u ns r
 unfold z2v
 rw[b8]
 omega
def z10(ns:List Int)(r b:Int):List Int:=(z2v ns r).filter fun y=>decide (b<y)
def z95(K:PySem.W.Frag):Sp:=fun vs H Q _=>∃(p:Addr) (ns:List Int) (r b:Int),vs=[.ref p,.int r,.int b]/\SqI K H p ns/\(∀x∈ns,1≤x/\x≤60)/\ns.length≤900/\
 ∀(l:Addr) (H':Hp),A4 H H'->H' l=some (.tup ((z10 ns r b).map V.int))->Q (.ref l) H'
theorem y3H(M:Bl mg)(F:Fun K "dark_numbers_behind" "dark_numbers_behind" z1G f fd)(J5:Cal P w K mg base 3 "dark_numbers" z3y (y5N K)):A5 P w K mg base CX0 4 f fd z1d (z95 K):=by
 have nd:=z2j.nd
 refine F.ok z2j (fun vs H Q E h=>?_) (fun cdv A outer s H vs Q E hr h=>?_)
 ·obtain⟨p,ns,r,b,rfl,_⟩:=h
  rfl
 obtain⟨p,ns,r,b,rfl,hS,B3,hlen,q⟩:=h
 refine⟨_,(z05 (z0h (z0o z0t rfl M.tuple bT (z00 (z1i ["number"] ["behind"] [2] rfl (z0u rfl (by decide +kernel) rfl (by decide +kernel) rfl rfl) (z2I (z0k J5 (rm hr) rfl (z00 (pv 0) (z00 (pv 1) z03)))) (fun _ _ _ _ _=>(z0j (i:=0) (show((["number"]:List PySem.Str)++(["behind"]:List PySem.Str)).Nodup from by decide +kernel) rfl (Or.inl rfl))) (z0x (by decide)) z0d (fun _ _ _ _ _=>(z26 (z0c z2A (pv 0) (pv 1) (z0n _)))) (fun _ _ _ _ _=>(pv 0))) z03)))),?_⟩
 refine⟨_,rfl,_,rfl,p,ns,r,rfl,hS,B3,hlen,fun lt H1 s1 e1=>⟨lt,rfl,⟨_,SqT.of e1⟩,?_⟩⟩
 have ll:=z9G ns r
 refine z8r (ns:=z2v ns r) (fun y=>decide (b<y)) (fun y=>.int y) (SqT.of e1) (by omega) (fun y ys N hy hN=>?_) (fun D hD=>?_)
 ·refine⟨_,rfl,_,rfl,_,_,rfl,rfl,_,rfl,?_⟩
  refine A9 (fun c=>?_) (fun c=>?_)
  ·rw[if_pos c] at hN
   exact⟨_,rfl,hN⟩
  ·rw[if_neg c] at hN
   exact hN
 ·exact⟨D,_,rfl,.inl ⟨SqL.of z02,fun l hl=>q l _ (s1.trans ((z01 hD _).trans (z01 hl _))) z02⟩⟩
def y1d(Sh:ShP):Sp:=fun vs H Q _=>∃(p:Addr) (fp:List Addr) (zs:List Str) (r:Int) (iss:Int->DV) (had:List Int) (n:Int) (d0 d1 d2:DV),vs=[.ref p,.int n]/\Sh H p fp zs r iss had/\n∈had/\iss n=.tup [d0,d1,d2]/\∀v,A7 H d2 v->Q v H
theorem z8J{kvs:List (Key×V)}{had:List Int}(kk:kvs.map (·.1)=had.map Sum.inl){n:Int}(h:n∈had):∃v,J0 kvs (Sum.inl n:Key)=some v/\((Sum.inl n:Key),v)∈kvs:=by
 have e:=y0l kk n
 rw[decide_eq_true h] at e
 cases ev:J0 kvs (Sum.inl n:Key) with
 | none=>rw[ev] at e;cases e
 | some v=>
  refine⟨v,rfl,?_⟩
  unfold J0 at ev
  obtain⟨⟨k,u⟩,hf,rfl⟩:=cE.mp ev
  have h1:=e9 hf
  have h2:=j6 hf
  simp only[decide_eq_true_eq] at h2
  rw[h2] at h1
  exact h1
theorem y3d{A0:Addr}(M:Bl mg)(T:C7 K mg A0)(F:Fun K "tail_of" "Shelf.tail_of" z37 f fd):A5 P w K mg base CX0 1 f fd z33 (y1d (ShD K A0)):=by
 have nd:=z41.nd
 refine F.ok z41 (fun vs H Q E h=>?_) (fun cdv A outer s H vs Q E hr h=>?_)
 ·obtain⟨p,fp,zs,r,iss,had,n,d0,d1,d2,rfl,_⟩:=h
  rfl
 obtain⟨p,fp,zs,r,iss,had,n,d0,d1,d2,rfl,sh,hn,en,k⟩:=h
 have hu:=y0y hr
 refine⟨_,(z05 (z0h (z0K z0U (z7n hu (z0J (pv 0) rfl) (pv 1) (fun _ _=>rfl)) z06 (fun _ _=>rfl)))),?_⟩
 obtain⟨dx,pn,pd,fs,kvs,rfl,h1,h2,h3,h4,l1,l2,l3,lm,kk,ndh,all,tl,g,r0,r1⟩:=sh
 obtain⟨v,ev,mv⟩:=z8J kk hn
 have tv:=tl n v mv
 rw[en] at tv
 obtain⟨a,us,rfl,ea,_,tu⟩:=z0q tv
 obtain⟨x0,ur,rfl,t0,tu⟩:=z09 tu
 obtain⟨x1,ur,rfl,t1,tu⟩:=z09 tu
 obtain⟨x2,ur,rfl,t2,tu⟩:=z09 tu
 refine⟨_,rfl,p,A0,dx,fs,_,rfl,h1,T.cl,T.n_issues,l3,_,rfl,pd,_,rfl,(by rw[<- ev];exact L8.k (k:=Sum.inl n) h4),?_⟩
 exact⟨a,_,_,x2,rfl,rfl,SqT.of ea,z11 rfl,k x2 t2⟩
theorem y55(n r:Int):(z5S n r).Nodup:=by
 have h:(dnI (n-1) (n-1).toNat).Nodup:=by
  unfold dnI
  rw[dA,dY]
  exact gX.imp fun h=>by omega
 exact h.filter _
theorem y4s{n r k:Int}:k∈z5S n r↔1≤k/\k<n/\n-k≤r:=by
 unfold z5S
 rw[bU,z8Z,decide_eq_true_eq]
 omega
theorem z8f{K:PySem.W.Frag}{H:Hp}{rows:List Row}:∀{ks:List Int}{xs:List V},z08 H (ks.map (y1N rows)) xs->∃kvs:List (Key×V),Paired (y40 K H) xs kvs/\kvs.map (·.1)=ks.map Sum.inl/\∀k v,((Sum.inl k:Key),v)∈kvs->A7 H (Q6 (z1F (z0z rows k))) v
 | [],xs,h=>by
  rw[z0G h]
  exact⟨[],.nil,rfl,fun _ _ q=>(nomatch q)⟩
 | k::ks,xs,h=>by
  obtain⟨x,r,rfl,t,h⟩:=z09 h
  obtain⟨kvs,p1,p2,p3⟩:=z8f h
  obtain⟨a,us,rfl,ea,_,tu⟩:=z0q t
  obtain⟨x0,ur,rfl,t0,tu⟩:=z09 tu
  obtain⟨x1,ur,rfl,t1,tu⟩:=z09 tu
  have:=z0G tu
  subst this
  cases z0S t0
  refine⟨(Sum.inl k,x1)::kvs,.cons ⟨a,rfl,.inr (SqT.of ea)⟩ p1,by rw[cG,cG,p2],fun m v hv=>?_⟩
  rcases bB.mp hv with e|hv
  ·cases e
   exact t1
  ·exact p3 m v hv
def y6Y(rows:List Row)(n t:Int):DV:=if t=0 then .tup [] else Q6 (z1F (z0z rows n))
def y5R(Sh:ShP):Sp:=fun vs H Q _=>∃(x:Addr) (n t:Int) (fp:List Addr) (nm:List Str) (r:Int) (rows:List Row) (had:List Int),vs=[.ref x,.int n,.int t]/\Sh H x fp nm r (fun n=>z13 rows n r) had/\(t≠0->t∈had/\t≤60/\n∈z5S t r)/\
 ∀(v:V) (H':Hp),A4 H H'->A7 H' (y6Y rows n t) v->Q v H'
theorem y6H{A0:Addr}(M:Bl mg)(T:C7 K mg A0)(F:Fun K "names_told_of" "names_told_of" z3a f fd)(G8:D4 P w K mg base 1 A0 "tail_of" z33 (y1d (ShD K A0))) :
  A5 P w K mg base CX0 2 f fd z3b (y5R (ShD K A0)):=by
 have nd:=z47.nd
 refine F.ok z47 (fun vs H Q E h=>?_) (fun cdv A outer s H vs Q E hr h=>?_)
 ·obtain⟨x,n,t,fp,nm,r,rows,had,rfl,_⟩:=h
  rfl
 obtain⟨x,n,t,fp,nm,r,rows,had,rfl,sh,ht,k⟩:=h
 have hu:=y0y hr
 refine⟨_,(z04 (z0N (z0c z2r (pv 2) z06 (z0n _)) (z05 (z0h (z1b z03))) z0p) (z05 (z0h (z7n hu (z0o (z4a (K:=K) rfl rfl) rfl M.dict gZ (z00 (z2b G8 (rm hr) (pv 0) (z00 (pv 2) z03)) z03)) (pv 1) (fun _ _=>rfl))))),?_⟩
 refine⟨_,rfl,rfl,_,rfl,A9 (fun c=>?_) (fun c=>?_)⟩
 ·have c':t=0:=V.int.inj (z0F c)
  refine⟨(by show 0≤sizeLine;decide),fun l hl=>k _ _ (z01 hl _) ?_⟩
  unfold y6Y
  rw[if_pos c']
  exact z0A z02 (by show 0≤1000000;decide) .nil
 ·have c':t≠0:=fun z=>c (decide_eq_true (congrArg V.int z))
  obtain⟨th,t60,tn⟩:=ht c'
  obtain⟨dx,fs,h1,lm⟩:∃dx fs,H x=some (.ins A0 dx fs)/\fs.lookup ("tail_of":Str)=none:=by
   obtain⟨dx,pn,pd,fs,kvs,_,h1,_,_,_,_,_,_,lm,_⟩:=sh
   exact⟨dx,fs,h1,lm _ (by simp)⟩
  refine⟨_,rfl,x,dx,fs,rfl,h1,lm,_,rfl,x,fp,nm,r,_,had,t,_,_,_,rfl,sh,th,rfl,fun v tv=>?_⟩
  obtain⟨a,us,rfl,ea,_,tu⟩:=z0q tv
  obtain⟨kvs,p1,p2,p3⟩:=z8f (K:=K) tu
  have lu:us.length≤1000:=by
   rw[tu.length,b8]
   unfold z5S
   have:=cF (fun k=>decide (t-k≤r)) (dnI (t-1) (t-1).toNat)
   rw[y46] at this
   omega
  refine⟨a,us,kvs,rfl,.inr ea,p1,lu,?_,fun l hl=>?_⟩
  ·rw[p2]
   rw[dA,dY]
   exact(dA.mp (y55 t r)).imp fun h e=>h (Sum.inl.inj e)
  ·obtain⟨v,ev,mv⟩:=z8J p2 tn
   refine⟨_,rfl,l,_,rfl,(by rw[<- ev];exact L8.k (k:=Sum.inl n) z02),?_⟩
   refine k v _ (z01 hl _) ?_
   unfold y6Y
   rw[if_neg c']
   exact A7.keep (z01 hl _) _ _ (p3 n v mv)
theorem y4W{had:List Int}{r n:Int}(h60:∀n∈had,1≤n/\n≤60)(hn:n∈z0W (z0g had))(h:z0E (z0g had) n r≠0):z0E (z0g had) n r∈had/\z0E (z0g had) n r≤60/\n∈z5S (z0E (z0g had) n r) r:=by
 unfold z0E at h ⊢
 cases e:(upI 1 60).find? (y0w (z0g had) n r) with
 | none=>rw[e] at h;exact absurd rfl h
 | some y=>
  obtain⟨_,hc,_⟩:=y3k (z1M 1 60) e
  obtain⟨a,b,c⟩:=z4f.mp hc
  have hy:=(z1n.mp c).2
  have:=h60 y hy
  have:=(z0y.mp hn).1
  show y∈had/\y≤60/\n∈z5S y r
  exact⟨hy,by omega,y4s.mpr (by omega)⟩
theorem y4h{A0:Addr}(M:Bl mg)(T:C7 K mg A0)(F:Fun K "gaps_of" "gaps_of" z94 f fd)(B1:D4 P w K mg base 1 A0 "had" z27 (z6a (ShD K A0)))
  (B2:Cal P w K mg base 2 "lacking_with_tellers" z14 (y75 K)) (H0:Cal P w K mg base 2 "names_told_of" z3b (y5R (ShD K A0))) :
  A5 P w K mg base CX0 3 f fd z9a (y1h (ShD K A0)):=by
 have nd:=y07.nd
 refine F.ok y07 (fun vs H Q E h=>?_) (fun cdv A outer s H vs Q E hr h=>?_)
 ·obtain⟨x,fp,nm,r,rows,had,rfl,_⟩:=h
  rfl
 obtain⟨x,fp,nm,r,rows,had,rfl,sh,gn,rw',l60,hh,r0,r1,k⟩:=h
 refine⟨_,(z04 (z0l (i:=1) nd rfl (Or.inl rfl) (z0k B2 (rm hr) rfl (z00 (z30 B1 (rm hr) (pv 0)) (z00 (z0J (pv 0) rfl) z03)))) (z05 (z0h (z0o z0t rfl M.tuple bT (z00 (z1i ["number","teller"] ["shelf"] [0] rfl (z0u rfl (by decide +kernel) rfl (by decide +kernel) rfl rfl) (z2I (pv 1)) (fun _ _ _ _ _=>(z9j (K:=K) (n:=2) rfl rfl (z1C (z0j (i:=0) (show((["number","teller"]:List PySem.Str)++(["shelf"]:List PySem.Str)).Nodup from by decide +kernel) rfl (Or.inl rfl)) (z1C (z0j (i:=1) (show((["number","teller"]:List PySem.Str)++(["shelf"]:List PySem.Str)).Nodup from by decide +kernel) rfl (Or.inl rfl)) z66)))) (z9f (z20 (z0x (by decide)) z0d (z20 (z0x (by decide)) z0d z6X z1e) (z0P z0d z1e))) (z6T (z0P z0d (z0P z0d z1e))) (fun _ _ _ _ _=>z1Y) (fun _ _ _ _ _=>(z1b (z00 (pv 0) (z00 (pv 1) (z00 (z0k H0 (rm hr) rfl (z00 (pv 2) (z00 (pv 0) (z00 (pv 1) z03)))) z03)))))) z03))))),?_⟩
 have h60:∀n∈had,1≤n/\n≤60:=fun n hn=>by have:=hh n hn;omega
 obtain⟨dx,fs,h1,lm,lr⟩:∃dx fs,H x=some (.ins A0 dx fs)/\fs.lookup ("had":Str)=none/\fs.lookup ("reach":Str)=some (V.int r):=by
  obtain⟨dx,pn,pd,fs,kvs,_,h1,_,_,_,_,lr,_,lm,_⟩:=sh
  exact⟨dx,fs,h1,lm _ (by simp),lr⟩
 refine⟨_,rfl,x,dx,fs,rfl,h1,lm,x,fp,nm,r,_,had,rfl,sh,fun l H1 s1 e1=>?_⟩
 refine⟨_,rfl,x,A0,dx,fs,_,rfl,s1 _ _ h1,T.cl,T.n_reach,lr,l,z0g had,r,rfl,.inr (SqT.of e1),fun n hn=>h60 n (z1n.mp hn).2,cO (z2S had) (by decide),fun lt xs H2 s2 e2 pr2=>?_⟩
 have sh2:ShD K A0 H2 x fp nm r (fun n=>z13 rows n r) had:=F3.same sh (s1.trans s2)
 have lx:xs.length=(z0W (z0g had)).length:=by rw[pr2.len];unfold P6;rw[b8]
 have ll:=z2m (z0g had)
 refine⟨_,rfl,lt,rfl,⟨_,SqT.of e2⟩,?_⟩
 refine z1O (xs:=xs) (fun i ys H'=>A4 H2 H'/\z08 H' (((z0W (z0g had)).take i).map (P7 (z0g had) rows r)) ys) ⟨A4.refl _,by rw[dG];exact .nil⟩ (fun i ys H' hi hp=>?_) (fun i y ys H' hy hp=>?_) (fun ys H' hp=>?_)
 ·obtain⟨g,t⟩:=hp
  refine⟨SqT.of (g _ _ e2),z0f ?_⟩
  rw[t.length,b8,bO]
  omega
 ·obtain⟨g,t⟩:=hp
  obtain⟨⟨n,tl⟩,e,a,rfl,ha⟩:=pr2.get i y hy
  unfold P6 at e
  rw[bG] at e
  obtain⟨m,em,e3⟩:=cE.mp e
  cases e3
  refine⟨a,_,rfl,SqT.of (g _ _ ha),rfl,_,_,rfl,_,_,rfl,rfl,?_⟩
  refine⟨_,rfl,_,rfl,_,rfl,_,rfl,_,rfl,x,n,_,fp,nm,r,rows,had,rfl,F3.same sh2 g,y4W h60 (bR em),fun v H3 s3 tv=>?_⟩
  refine⟨(by show 3≤sizeLine;decide),fun q hq=>⟨g.trans (s3.trans (z01 hq _)),?_⟩⟩
  rw[eI,em,bE]
  exact z08.snoc (z08.keep (s3.trans (z01 hq _)) _ _ t) (z0A z02 (by show 3≤1000000;decide) (.cons (z0H _) (.cons (z0H _) (.cons (A7.keep (z01 hq _) _ _ tv) .nil))))
 ·obtain⟨g,t⟩:=hp
  rw[lx,bV] at t
  intro D hD
  refine⟨D,ys,rfl,.inl ⟨SqL.of z02,fun q hq=>k _ _ (s1.trans (s2.trans (g.trans ((z01 hD _).trans (z01 hq _))))) (z0A z02 ?_ (z08.keep ((z01 hD _).trans (z01 hq _)) _ _ t))⟩⟩
  unfold z9i
  rw[b8]
  omega
def y1q(Sh:ShP):Sp:=fun vs H Q _=>∃(p:Addr) (fp:List Addr) (zs:List Str) (r:Int) (iss:Int->DV) (had:List Int) (n:Int) (d0 d1 d2:DV),vs=[.ref p,.int n]/\Sh H p fp zs r iss had/\n∈had/\iss n=.tup [d0,d1,d2]/\∀v,A7 H d1 v->Q v H
theorem y2A{A0:Addr}(M:Bl mg)(T:C7 K mg A0)(F:Fun K "rows_of" "Shelf.rows_of" z3g f fd):A5 P w K mg base CX0 1 f fd z3m (y1q (ShD K A0)):=by
 have nd:=z4b.nd
 refine F.ok z4b (fun vs H Q E h=>?_) (fun cdv A outer s H vs Q E hr h=>?_)
 ·obtain⟨p,fp,zs,r,iss,had,n,d0,d1,d2,rfl,_⟩:=h
  rfl
 obtain⟨p,fp,zs,r,iss,had,n,d0,d1,d2,rfl,sh,hn,en,k⟩:=h
 have hu:=y0y hr
 refine⟨_,(z05 (z0h (z0K z0U (z7n hu (z0J (pv 0) rfl) (pv 1) (fun _ _=>rfl)) z06 (fun _ _=>rfl)))),?_⟩
 obtain⟨dx,pn,pd,fs,kvs,rfl,h1,h2,h3,h4,l1,l2,l3,lm,kk,ndh,all,tl,g,r0,r1⟩:=sh
 obtain⟨v,ev,mv⟩:=z8J kk hn
 have tv:=tl n v mv
 rw[en] at tv
 obtain⟨a,us,rfl,ea,_,tu⟩:=z0q tv
 obtain⟨x0,ur,rfl,t0,tu⟩:=z09 tu
 obtain⟨x1,ur,rfl,t1,tu⟩:=z09 tu
 refine⟨_,rfl,p,A0,dx,fs,_,rfl,h1,T.cl,T.n_issues,l3,_,rfl,pd,_,rfl,(by rw[<- ev];exact L8.k (k:=Sum.inl n) h4),?_⟩
 exact⟨a,_,_,x1,rfl,rfl,SqT.of ea,z11 rfl,k x1 t1⟩
theorem z9E{K:PySem.W.Frag}{H:Hp}:∀{w:Row}{xs:List V},z08 H (w.map z8T) xs->Paired (y40 K H) xs (w.map kvR)
 | [],xs,h=>by
  rw[z0G h]
  exact .nil
 | p::w,xs,h=>by
  obtain⟨x,r,rfl,t,h'⟩:=z09 h
  obtain⟨a,us,rfl,ea,_,tu⟩:=z0q t
  obtain⟨x0,ur,rfl,t0,tu⟩:=z09 tu
  obtain⟨x1,ur,rfl,t1,tu⟩:=z09 tu
  have:=z0G tu
  subst this
  rw[z2i t0,z0S t1] at ea
  exact .cons ⟨a,rfl,.inr (SqT.of ea)⟩ (z9E h')
theorem w0U(w:Row)(z:Str):∀acc:Option Int,w.foldl (fun acc p=>if p.1=z then some p.2 else acc) acc=match D3 w z with|some v=>some v|none=>acc:=by
 unfold D3
 induction w with
 | nil=>intro acc;rfl
 | cons p w ih=>
  intro acc
  rw[cS,cS,ih,ih (if p.1=z then some p.2 else none)]
  cases w.foldl (fun acc p=>if p.1=z then some p.2 else acc) none with
  | some v=>rfl
  | none=>
   by_cases h:p.1=z
   ·rw[if_pos h,if_pos h]
   ·rw[if_neg h,if_neg h]
theorem z7q(p:Str×Int)(w:Row)(z:Str):D3 (p::w) z=match D3 w z with|some v=>some v|none=>if p.1=z then some p.2 else none:=by
 conv=>lhs;unfold D3
 rw[cS,w0U]
theorem y2z{w:Row}{z:Str}(h:z∉w.map Prod.fst):D3 w z=none:=by
 induction w with
 | nil=>rfl
 | cons p w ih=>
  rw[cG,bB,not_or] at h
  rw[z7q,ih h.2,if_neg (fun e=>h.1 e.symm)]
theorem y0K{z:Str}:∀{w:Row},(w.map Prod.fst).Nodup->J0 (w.map kvR) (Sum.inr z:Key)=(D3 w z).map V.int
 | [],_=>rfl
 | p::w,h=>by
  rw[cG,cV] at h
  rw[cG,z7q]
  by_cases e:p.1=z
  ·rw[z5x (show(kvR p).1=Sum.inr z by unfold kvR;rw[e]),y2z (e ▸ h.1),if_pos e]
   rfl
  ·rw[z5n (show ¬(kvR p).1=Sum.inr z from fun q=>e (Sum.inr.inj q)),y0K h.2,if_neg e]
   cases D3 w z<;>rfl
theorem y7B{nm:List Str}{rows:List Row}(g:E4 nm)(R:Rws nm rows)(n:Int):((z0z rows n).map Prod.fst).Nodup:=by
 unfold z0z
 rw[bJ]
 cases e:rows[(n-1).toNat]? with
 | none=>exact .nil
 | some w=>exact(R.sub w (bR e)).nodup g.nd
theorem y6k{nm:List Str}{rows:List Row}(g:E4 nm)(R:Rws nm rows)(n:Int):(z0z rows n).length≤12:=by
 unfold z0z
 rw[bJ]
 cases e:rows[(n-1).toNat]? with
 | none=>exact cR _
 | some w=>
  have h:=(R.sub w (bR e)).length_le
  rw[b8] at h
  exact cO h g.hi
def z4d(Sh:ShP):Sp:=fun vs H Q _=>∃(x:Addr) (z:Str) (fp:List Addr) (nm:List Str) (r:Int) (rows:List Row) (had:List Int),vs=[.ref x,.str z]/\Sh H x fp nm r (fun n=>z13 rows n r) had/\z∈nm/\E4 nm/\Rws nm rows/\
 ∀(v:V) (H':Hp),A4 H H'->A7 H' (y3j (z0w (z0g had) rows z)) v->Q v H'
theorem y1I{A0:Addr}(M:Bl mg)(T:C7 K mg A0)(F:Fun K "held_for" "held_for" z7e f fd)(B5:Cal P w K mg base 1 "refuse_unknown_name" z1c (y6l K))
  (B1:D4 P w K mg base 1 A0 "had" z27 (z6a (ShD K A0))) (G0:D4 P w K mg base 1 A0 "rows_of" z3m (y1q (ShD K A0))) :
  A5 P w K mg base CX0 2 f fd z3q (z4d (ShD K A0)):=by
 have nd:=z8q.nd
 refine F.ok z8q (fun vs H Q E h=>?_) (fun cdv A outer s H vs Q E hr h=>?_)
 ·obtain⟨x,z,fp,nm,r,rows,had,rfl,_⟩:=h
  rfl
 obtain⟨x,z,fp,nm,r,rows,had,rfl,sh,hz,gn,R,k⟩:=h
 have hu:=y0y hr
 refine⟨_,(z04 (z0C (z0k B5 (rm hr) rfl (z00 (z0J (pv 0) rfl) (z00 (pv 1) z03)))) (z04 (z1h cC rfl (y5S rfl M.reversed (z00 (z30 B1 (rm hr) (pv 0)) z03)) (z0j (i:=2) nd rfl (Or.inl rfl)) (z04 (z0l (i:=3) nd rfl (Or.inl rfl) (z0o (z4a (K:=K) rfl rfl) rfl M.dict gZ (z00 (z2b G0 (rm hr) (pv 0) (z00 (pv 2) z03)) z03))) (z05 (z0N (z8o (y49 hu (pv 1) (pv 3))) (z05 (z0h (z1b (z00 (pv 2) (z00 (z7n hu (pv 3) (pv 1) (fun _ _=>rfl)) z03))))) z0p)))) (z05 (z0h (z1b (z00 z06 (z00 y3Y z03))))))),?_⟩
 obtain⟨dx,pn,fs,h1,h3,ln,lh,lo⟩:∃dx pn fs,H x=some (.ins A0 dx fs)/\H pn=some (.tup (nm.map V.str))/\fs.lookup ("names":Str)=some (V.ref pn)/\fs.lookup ("had":Str)=none/\fs.lookup ("rows_of":Str)=none:=by
  obtain⟨dx,pn,pd,fs,kvs,_,h1,_,h3,_,l1,_,_,lm,_⟩:=sh
  exact⟨dx,pn,fs,h1,h3,l1,lm _ (by simp),lm _ (by simp)⟩
 refine⟨_,rfl,x,A0,dx,fs,_,rfl,h1,T.cl,T.n_names,ln,_,rfl,pn,nm,z,rfl,.inr (SqT.of h3),hz,?_⟩
 refine⟨_,rfl,x,dx,fs,rfl,h1,lh,x,fp,nm,r,_,had,rfl,sh,fun l H1 s1 e1=>?_⟩
 refine⟨l,_,rfl,SqT.of e1,?_⟩
 have sh1:ShD K A0 H1 x fp nm r (fun n=>z13 rows n r) had:=F3.same sh s1
 have L1:((z0g had).map V.int).length=(z0g had).length:=b8 _
 refine y6I (fun i σ H'=>∃(o1 o2:Option V),A4 H1 H'/\z0w (z0g had) rows z=z0w ((z0g had).take ((z0g had).length-i)) rows z/\σ=[some (.ref x),some (.str z),o1,o2])
  ⟨none,none,A4.refl _,by rw[jL,bV],rfl⟩ (fun i σ H' _ ⟨_,_,g,_⟩=>SqT.of (g _ _ e1)) (fun i y σ H' hy hp=>?_) (fun σ H' hp=>?_)
 ·obtain⟨o1,o2,g,eh,rfl⟩:=hp
  rw[<- List.map_reverse,bG] at hy
  obtain⟨n,hn,rfl⟩:=cE.mp hy
  have hi:i<(z0g had).length:=by
   have:=(cD.mp hn).1
   rw[gH] at this
   exact this
  rw[List.getElem?_reverse hi] at hn
  have et:(z0g had).take ((z0g had).length-i)=(z0g had).take ((z0g had).length-(i+1))++[n]:=by
   have e:(z0g had).length-i=((z0g had).length-(i+1))+1:=by omega
   rw[e]
   refine z0r ?_
   rw[show(z0g had).length-(i+1)=(z0g had).length-1-i by omega]
   exact hn
  have nh:n∈had:=(z1n.mp (bR hn)).2
  refine⟨_,rfl,x,dx,fs,rfl,g _ _ (s1 _ _ h1),lo,_,rfl,x,fp,nm,r,_,had,n,_,_,_,rfl,F3.same sh1 g,nh,rfl,fun v tv=>?_⟩
  obtain⟨a,us,rfl,ea,_,tu⟩:=z0q tv
  have ndw:=y7B gn R n
  refine⟨a,us,(z0z rows n).map kvR,rfl,.inr ea,z9E tu,?_,?_,fun d hd=>?_⟩
  ·rw[tu.length,b8]
   have:=y6k gn R n
   omega
  ·have e:((z0z rows n).map kvR).map (·.1)=((z0z rows n).map Prod.fst).map Sum.inr:=by rw[eF,eF];rfl
   rw[e,dA,dY]
   exact(dA.mp ndw).imp fun h e=>h (Sum.inr.inj e)
  refine⟨_,rfl,_,rfl,d,_,rfl,L8.k (k:=Sum.inr z) z02,_,rfl,?_⟩
  rw[y0K ndw]
  rw[et,z5Z] at eh
  cases ev:D3 (z0z rows n) z with
  | none=>
   rw[ev] at eh
   exact C6 ⟨_,_,g.trans (z01 hd _),eh,rfl⟩
  | some v=>
   rw[ev] at eh
   refine N0 ⟨_,rfl,_,rfl,_,rfl,d,_,rfl,(show L8 _ d (kV (Sum.inr z)) (some (V.int v)) by rw[<- show J0 ((z0z rows n).map kvR) (Sum.inr z:Key)=some (V.int v) by rw[y0K ndw,ev];rfl];exact L8.k z02),(by show 2≤sizeLine;decide),fun q hq=>k _ _ (s1.trans (g.trans ((z01 hd _).trans (z01 hq _)))) ?_⟩
   rw[eh]
   exact z0A z02 (by show 2≤1000000;decide) (.cons (z0H _) (.cons (z0H _) .nil))
 ·obtain⟨o1,o2,g,eh,rfl⟩:=hp
  rw[L1,Nat.sub_self,dG] at eh
  refine⟨(by show 2≤sizeLine;decide),fun q hq=>k _ _ (s1.trans (g.trans (z01 hq _))) ?_⟩
  rw[eh]
  exact z0A z02 (by show 2≤1000000;decide) (.cons (z0H _) (.cons y1c .nil))
def z8e(Sh:ShP):Sp:=fun vs H Q _=>∃(x:Addr) (z:Str) (fp:List Addr) (nm:List Str) (r:Int) (rows:List Row) (had:List Int),vs=[.ref x,.str z]/\Sh H x fp nm r (fun n=>z13 rows n r) had/\z∈nm/\E4 nm/\Rws nm rows/\rows.length≤60/\(∀n∈had,1≤n/\n≤rows.length)/\0≤r/\r≤10/\
 ∀(v:V) (H':Hp),A4 H H'->A7 H' (y6e (z0g had) rows r (z0I (z0w (z0g had) rows z)) z) v->Q v H'
theorem y0L{A0:Addr}(M:Bl mg)(T:C7 K mg A0)(F:Fun K "set_again" "set_again" z64 f fd)(B8:Cal P w K mg base 2 "held_for" z3q (z4d (ShD K A0)))
  (Q1:Cal P w K mg base 3 "gaps_of" z9a (y1h (ShD K A0))):A5 P w K mg base CX0 4 f fd z5X (z8e (ShD K A0)):=by
 have nd:=z7R.nd
 refine F.ok z7R (fun vs H Q E h=>?_) (fun cdv A outer s H vs Q E hr h=>?_)
 ·obtain⟨x,z,fp,nm,r,rows,had,rfl,_⟩:=h
  rfl
 obtain⟨x,z,fp,nm,r,rows,had,rfl,sh,hz,gn,R,l60,hh,r0,r1,k⟩:=h
 refine⟨_,(z04 (z0l (i:=2) nd rfl (Or.inr rfl) (z0K z0U (z0k B8 (rm hr) rfl (z00 (pv 0) (z00 (pv 1) z03))) z06 (fun _ _=>rfl))) (z05 (z0h (z0o z0t rfl M.tuple bT (z00 (z1i ["number","teller","names"] ["held_from","name"] [2,1] rfl (z0u rfl (by decide +kernel) rfl (by decide +kernel) rfl rfl) (z2I (z0k Q1 (rm hr) rfl (z00 (pv 0) z03))) (fun _ _ _ _ _=>(z9j (K:=K) (n:=3) rfl rfl (z1C (z0j (i:=0) (show((["number","teller","names"]:List PySem.Str)++(["held_from","name"]:List PySem.Str)).Nodup from by decide +kernel) rfl (Or.inl rfl)) (z1C (z0j (i:=1) (show((["number","teller","names"]:List PySem.Str)++(["held_from","name"]:List PySem.Str)).Nodup from by decide +kernel) rfl (Or.inl rfl)) (z1C (z0j (i:=2) (show((["number","teller","names"]:List PySem.Str)++(["held_from","name"]:List PySem.Str)).Nodup from by decide +kernel) rfl (Or.inl rfl)) z66))))) (z9f (z20 (z0x (by decide)) z0d (z20 (z0x (by decide)) z0d (z20 (z0x (by decide)) z0d z6X z1e) (z0P z0d z1e)) (z0P z0d (z0P z0d z1e)))) (z6T (z0P z0d (z0P z0d (z0P z0d z1e)))) (fun _ _ _ _ _=>(z26 (PW.pt (z5E (z0c z2A (pv 0) (pv 3) (z0n _)) (z3J (z0c (r:=rIn K false) z49 (pv 4) (pv 2) (by with_unfolding_all rfl))))))) (fun _ _ _ _ _=>(z1b (z00 (pv 0) (z00 (pv 1) z03))))) z03))))),?_⟩
 refine⟨_,rfl,_,rfl,x,z,fp,nm,r,rows,had,rfl,sh,hz,gn,R,fun v H1 s1 tv=>?_⟩
 obtain⟨a,y,rfl,ea,_⟩:=z5q tv
 refine⟨a,_,_,_,rfl,rfl,SqT.of ea,z11 rfl,?_⟩
 have sh1:=F3.same sh s1
 refine⟨_,rfl,x,fp,nm,r,rows,had,rfl,sh1,gn,R,l60,hh,r0,r1,fun u H2 s2 tu=>?_⟩
 obtain⟨b,xs,rfl,eb,_,tb⟩:=z0q tu
 have lx:=z7t tb
 have ll:=z2m (z0g had)
 generalize z0I (z0w (z0g had) rows z)=num at *
 refine⟨b,rfl,⟨_,SqT.of eb⟩,?_⟩
 refine z1O (xs:=xs) (fun i ys H'=>A4 H2 H'/\z08 H' ((((z0W (z0g had)).take i).filter fun n=>decide (num<n) && decide (z∈z1I (z0g had) rows r n)).map fun n=>.tup [.int n,.int (z0E (z0g had) n r)]) ys) ⟨A4.refl _,.nil⟩ (fun i ys H' hi hp=>?_) (fun i y ys H' hy hp=>?_) (fun ys H' hp=>?_)
 ·obtain⟨g,t⟩:=hp
  refine⟨SqT.of (g _ _ eb),z0f ?_⟩
  rw[t.length,b8]
  have:=cF (fun n=>decide (num<n) && decide (z∈z1I (z0g had) rows r n)) ((z0W (z0g had)).take i)
  rw[bO] at this
  omega
 ·obtain⟨g,t⟩:=hp
  obtain⟨n,c,d,en,rfl,ec,ed⟩:=z7z tb hy
  refine⟨c,_,rfl,SqT.of (g _ _ ec),rfl,_,_,rfl,_,_,rfl,_,_,rfl,rfl,?_⟩
  rw[z0r en,dR,eX]
  refine⟨_,rfl,_,rfl,_,_,rfl,rfl,_,rfl,?_⟩
  have skip:¬(decide (num<n) && decide (z∈z1I (z0g had) rows r n))=true->A4 H2 H'/\z08 H' (((((z0W (z0g had)).take i).filter fun n=>decide (num<n) && decide (z∈z1I (z0g had) rows r n))++(if (decide (num<n) && decide (z∈z1I (z0g had) rows r n))=true then n::List.filter (fun n=>decide (num<n) && decide (z∈z1I (z0g had) rows r n)) [] else List.filter (fun n=>decide (num<n) && decide (z∈z1I (z0g had) rows r n)) [])).map fun n=>.tup [.int n,.int (z0E (z0g had) n r)]) ys:=fun c=>by
   rw[if_neg c,fT,cU]
   exact⟨g,t⟩
  refine A9 (fun c=>?_) (fun c=>?_)
  ·refine⟨_,rfl,_,rfl,d,_,rfl,.inr (SqT.of (g _ _ ed)),rfl,z2V _,_,rfl,?_⟩
   rw[if_neg bI,z9D]
   refine A9 (fun c2=>?_) (fun c2=>?_)
   ·refine⟨_,rfl,_,rfl,(by show 2≤sizeLine;decide),fun q hq=>⟨g.trans (z01 hq _),?_⟩⟩
    rw[if_pos (by rw[bS];exact⟨c,c2⟩),fT,bE]
    exact z08.snoc (z08.keep (z01 hq _) _ _ t) (z0A z02 (by show 2≤1000000;decide) (.cons (z0H _) (.cons (z0H _) .nil)))
   ·exact skip (by rw[bS];exact fun z=>c2 z.2)
  ·exact skip (by rw[bS];exact fun z=>c z.1)
 ·obtain⟨g,t⟩:=hp
  rw[lx,bV] at t
  intro D hD
  refine⟨D,ys,rfl,.inl ⟨SqL.of z02,fun q hq=>k _ _ (s1.trans (s2.trans (g.trans ((z01 hD _).trans (z01 hq _))))) (z0A z02 ?_ (z08.keep ((z01 hD _).trans (z01 hq _)) _ _ t))⟩⟩
  rw[b8]
  exact cO (z8z (z0g had) rows r num z) (by decide)
theorem z1L{ns:List Int}{r n:Int}:n∈z2v ns r↔n∈z0W ns/\z0E ns n r=0:=by
 unfold z2v P6
 rw[cB]
 constructor
 ·rintro⟨⟨a,b⟩,h,rfl⟩
  rw[bU,cB,decide_eq_true_eq] at h
  obtain⟨⟨m,hm,e⟩,h2⟩:=h
  cases e
  exact⟨hm,h2⟩
 ·rintro⟨h1,h2⟩
  refine⟨(n,z0E ns n r),?_,rfl⟩
  rw[bU,cB,decide_eq_true_eq]
  exact⟨⟨n,h1,rfl⟩,h2⟩
theorem z6F{ns:List Int}{r num:Int}:z1P ns r num=[]↔∀n∈z2v ns r,n≤num:=by
 unfold z1P
 rw[h8]
 constructor
 ·intro h n hn
  obtain⟨h1,h2⟩:=z1L.mp hn
  have:=h n h1
  rw[bS,decide_eq_true_eq,decide_eq_true_eq] at this
  rcases jM num n with q|q
  ·exact absurd ⟨q,h2⟩ this
  ·exact q
 ·intro h n hn
  rw[bS,decide_eq_true_eq,decide_eq_true_eq]
  rintro⟨h1,h2⟩
  have:=h n (z1L.mpr ⟨hn,h2⟩)
  omega
theorem z77{ns:List Int}{r num:Int}:z10 ns r num=[]↔z1P ns r num=[]:=by
 rw[z6F]
 unfold z10
 rw[h8]
 exact⟨fun h n hn=>Int.not_lt.mp fun z=>h n hn (decide_eq_true z),fun h n hn z=>by have:=h n hn;have:=of_decide_eq_true z;omega⟩
def z7V(Sh:ShP):Sp:=fun vs H Q _=>∃(x:Addr) (z:Str) (fp:List Addr) (nm:List Str) (r:Int) (rows:List Row) (had:List Int),vs=[.ref x,.str z]/\Sh H x fp nm r (fun n=>z13 rows n r) had/\z∈nm/\E4 nm/\Rws nm rows/\rows.length≤60/\(∀n∈had,1≤n/\n≤rows.length)/\0≤r/\r≤10/\
 ∀(H':Hp),A4 H H'->Q (.str (z0B (z0g had) rows r (z0I (z0w (z0g had) rows z)) z)) H'
theorem y2g{A0:Addr}(M:Bl mg)(T:C7 K mg A0)(F:Fun K "state_of" "state_of" z7E f fd)(B8:Cal P w K mg base 2 "held_for" z3q (z4d (ShD K A0)))
  (M3:Cal P w K mg base 4 "set_again" z5X (z8e (ShD K A0))) (B1:D4 P w K mg base 1 A0 "had" z27 (z6a (ShD K A0)))
  (B6:Cal P w K mg base 4 "dark_numbers_behind" z1d (z95 K)):A5 P w K mg base CX0 5 f fd z5r (z7V (ShD K A0)):=by
 have nd:=z8x.nd
 refine F.ok z8x (fun vs H Q E h=>?_) (fun cdv A outer s H vs Q E hr h=>?_)
 ·obtain⟨x,z,fp,nm,r,rows,had,rfl,_⟩:=h
  rfl
 obtain⟨x,z,fp,nm,r,rows,had,rfl,sh,hz,gn,R,l60,hh,r0,r1,k⟩:=h
 refine⟨_,(z04 (z0N (z0c z2A (z0b z0a rfl M.len bP (z00 (z0k M3 (rm hr) rfl (z00 (pv 0) (z00 (pv 1) z03))) z03)) z06 (z0n _)) (z05 (z0h (z2d rfl M.STALE))) z0p) (z04 (z0l (i:=2) nd rfl (Or.inl rfl) (z0K z0U (z0k B8 (rm hr) rfl (z00 (pv 0) (z00 (pv 1) z03))) z06 (fun _ _=>rfl))) (z04 (z0l (i:=3) nd rfl (Or.inl rfl) (z0k B6 (rm hr) rfl (z00 (z30 B1 (rm hr) (pv 0)) (z00 (z0J (pv 0) rfl) (z00 (pv 2) z03))))) (z05 (z0h (z9g (z0c z2A (z0b z0a rfl M.len bP (z00 (pv 3) z03)) z06 (z0n _)) (z2d rfl M.OPEN) (z2d rfl M.SURE))))))),?_⟩
 refine⟨_,rfl,_,rfl,x,z,fp,nm,r,rows,had,rfl,sh,hz,gn,R,l60,hh,r0,r1,fun v H1 s1 tv=>?_⟩
 obtain⟨a,xs,rfl,ea,_,ta⟩:=z0q tv
 have lx:=ta.length
 rw[b8] at lx
 refine⟨a,xs,rfl,.inr (SqT.of ea),_,_,rfl,rfl,_,rfl,A9 (fun c=>?_) (fun c=>?_)⟩
 ·have c':=z0F c
  have e:=k H1 s1
  unfold z0B at e
  rw[if_pos (by omega)] at e
  exact e
 ·have c':=z3v c
  have sh1:=F3.same sh s1
  refine⟨_,rfl,_,rfl,x,z,fp,nm,r,rows,had,rfl,sh1,hz,gn,R,fun v H2 s2 tv=>?_⟩
  obtain⟨b,y,rfl,eb,_⟩:=z5q tv
  refine⟨b,_,_,_,rfl,rfl,SqT.of eb,z11 rfl,?_⟩
  have sh2:=F3.same sh1 s2
  obtain⟨dx,fs,h1,lm,lr⟩:∃dx fs,H2 x=some (.ins A0 dx fs)/\fs.lookup ("had":Str)=none/\fs.lookup ("reach":Str)=some (V.int r):=by
   obtain⟨dx,pn,pd,fs,kvs,_,h1,_,_,_,_,lr,_,lm,_⟩:=sh2
   exact⟨dx,fs,h1,lm _ (by simp),lr⟩
  have h60:∀n∈z0g had,1≤n/\n≤60:=fun n hn=>by have:=hh n (z1n.mp hn).2;omega
  refine⟨_,rfl,x,dx,fs,rfl,h1,lm,x,fp,nm,r,_,had,rfl,sh2,fun l H3 s3 e3=>?_⟩
  refine⟨_,rfl,x,A0,dx,fs,_,rfl,s3 _ _ h1,T.cl,T.n_reach,lr,_,rfl,l,z0g had,r,_,rfl,.inr (SqT.of e3),h60,cO (z2S had) (by decide),fun d H4 s4 e4=>?_⟩
  have e:=k H4 (s1.trans (s2.trans (s3.trans s4)))
  unfold z0B at e
  rw[if_neg (by omega)] at e
  refine⟨_,rfl,d,_,rfl,.inr (SqT.of e4),_,_,rfl,rfl,_,rfl,?_⟩
  rw[b8]
  refine A9 (fun c=>?_) (fun c=>?_)
  ·have c2:=z0F c
   rw[if_neg (fun z=>by rw[z77.mpr z] at c2;exact absurd c2 (by decide))] at e
   exact e
  ·have c2:=z3v c
   rw[if_pos (z77.mp (fN.mp (by omega)))] at e
   exact e
theorem y26(had:List Int):z0g (z0g had)=z0g had:=z2f (z1T _) (z1T _) fun x=>by
 rw[z1n,z1n]
 exact⟨fun h=>h.2,fun h=>⟨h.1,h⟩⟩
def z7d(Sh:ShP):Sp:=fun vs H Q _=>∃(x:Addr) (z:Str) (fp:List Addr) (nm:List Str) (r:Int) (rows:List Row) (had:List Int),vs=[.ref x,.str z]/\Sh H x fp nm r (fun n=>z13 rows n r) had/\z∈nm/\E4 nm/\Rws nm rows/\rows.length≤60/\(∀n∈had,1≤n/\n≤rows.length)/\0≤r/\r≤10/\
 ∀(q:Addr) (y:V) (H':Hp),A4 H H'->H' q=some (.tup [.str (z0B (z0g had) rows r (z0I (z0w (z0g had) rows z)) z),.int (z0I (z0w (z0g had) rows z)),y])->A7 H' (y39 (z0w (z0g had) rows z)) y->Q (.ref q) H'
theorem z9B{A0:Addr}(M:Bl mg)(F:Fun K "state_and_held" "state_and_held" z2N f fd)(B8:Cal P w K mg base 2 "held_for" z3q (z4d (ShD K A0)))
  (F0:Cal P w K mg base 5 "state_of" z5r (z7V (ShD K A0))):A5 P w K mg base CX0 6 f fd z2M (z7d (ShD K A0)):=by
 have nd:=z3W.nd
 refine F.ok z3W (fun vs H Q E h=>?_) (fun cdv A outer s H vs Q E hr h=>?_)
 ·obtain⟨x,z,fp,nm,r,rows,had,rfl,_⟩:=h
  rfl
 obtain⟨x,z,fp,nm,r,rows,had,rfl,sh,hz,gn,R,l60,hh,r0,r1,k⟩:=h
 refine⟨_,(z05 (z0h (z0s (y1y (K:=K) rfl) (z1b (z00 (z0k F0 (rm hr) rfl (z00 (pv 0) (z00 (pv 1) z03))) z03)) (z0k B8 (rm hr) rfl (z00 (pv 0) (z00 (pv 1) z03)))))),?_⟩
 refine⟨_,rfl,_,rfl,x,z,fp,nm,r,rows,had,rfl,sh,hz,gn,R,l60,hh,r0,r1,fun H1 s1=>?_⟩
 refine⟨(by show 1≤sizeLine;decide),fun a ha=>?_⟩
 have g2:=s1.trans (z01 ha (.tup [.str (z0B (z0g had) rows r (z0I (z0w (z0g had) rows z)) z)]))
 have e2:upd H1 a (.tup [.str (z0B (z0g had) rows r (z0I (z0w (z0g had) rows z)) z)]) a=some (.tup [.str (z0B (z0g had) rows r (z0I (z0w (z0g had) rows z)) z)]):=z02
 generalize upd H1 a (.tup [.str (z0B (z0g had) rows r (z0I (z0w (z0g had) rows z)) z)])=H2 at g2 e2
 refine⟨_,rfl,_,rfl,x,z,fp,nm,r,rows,had,rfl,F3.same sh g2,hz,gn,R,fun v H3 s3 tv=>?_⟩
 obtain⟨b,y,rfl,eb,tb⟩:=z5q tv
 exact⟨a,b,_,_,rfl,rfl,SqT.of (s3 _ _ e2),SqT.of eb,by simp,(by show 3≤sizeLine;decide),fun z=>(nomatch z),fun _ q hq=>k q y _ (g2.trans (s3.trans (z01 hq _))) z02 (A7.keep (z01 hq _) _ _ tb)⟩
theorem y0i{A0:Addr}(M:Bl mg)(T:C7 K mg A0)(F:Fun K "knowledge" "knowledge" z5U f fd)(F1:Cal P w K mg base 6 "state_and_held" z2M (z7d (ShD K A0))):A5 P w K mg base CX0 7 f fd z5Q (y63 (ShD K A0)):=by
 have nd:=z7Z.nd
 refine F.ok z7Z (fun vs H Q E h=>?_) (fun cdv A outer s H vs Q E hr h=>?_)
 ·obtain⟨x,fp,nm,r,rows,had,rfl,_⟩:=h
  rfl
 obtain⟨x,fp,nm,r,rows,had,rfl,sh,gn,R,l60,hh,r0,r1,k⟩:=h
 refine⟨_,(z05 (z0h (z0o z0t rfl M.tuple bT (z00 (z1i ["name"] ["shelf"] [0] rfl (z0u rfl (by decide +kernel) rfl (by decide +kernel) rfl rfl) (z2I (z0J (pv 0) rfl)) (fun _ _ _ _ _=>(z0j (i:=0) (show((["name"]:List PySem.Str)++(["shelf"]:List PySem.Str)).Nodup from by decide +kernel) rfl (Or.inl rfl))) (z0x (by decide)) z0d (fun _ _ _ _ _=>z1Y) (fun _ _ _ _ _=>(z0s (y1y (K:=K) rfl) (z1b (z00 (pv 0) z03)) (z0k F1 (rm hr) rfl (z00 (pv 1) (z00 (pv 0) z03)))))) z03)))),?_⟩
 obtain⟨dx,pn,fs,h1,h3,ln⟩:∃dx pn fs,H x=some (.ins A0 dx fs)/\H pn=some (.tup (nm.map V.str))/\fs.lookup ("names":Str)=some (V.ref pn):=by
  obtain⟨dx,pn,pd,fs,kvs,_,h1,_,h3,_,l1,_⟩:=sh
  exact⟨dx,pn,fs,h1,h3,l1⟩
 have n12:=gn.hi
 refine⟨_,rfl,x,A0,dx,fs,_,rfl,h1,T.cl,T.n_names,ln,pn,rfl,⟨_,SqT.of h3⟩,?_⟩
 refine z1O (xs:=nm.map V.str) (fun i ys H'=>A4 H H'/\z08 H' ((nm.take i).map (V6 (z0g had) rows r)) ys) ⟨A4.refl _,by rw[dG];exact .nil⟩ (fun i ys H' hi hp=>?_) (fun i y ys H' hy hp=>?_) (fun ys H' hp=>?_)
 ·obtain⟨g,t⟩:=hp
  refine⟨SqT.of (g _ _ h3),z0f ?_⟩
  rw[t.length,b8,bO]
  omega
 ·obtain⟨g,t⟩:=hp
  rw[bG] at hy
  obtain⟨z,ez,rfl⟩:=cE.mp hy
  have hz:=bR ez
  have sh1:=F3.same sh g
  refine⟨_,rfl,(by show 1≤sizeLine;decide),fun a ha=>?_⟩
  have g2:=z01 ha (.tup [.str z])
  have e2:upd H' a (.tup [.str z]) a=some (.tup [.str z]):=z02
  generalize upd H' a (.tup [.str z])=H2 at g2 e2
  refine⟨_,rfl,_,rfl,x,z,fp,nm,r,rows,had,rfl,F3.same sh1 g2,hz,gn,R,l60,hh,r0,r1,fun b y H3 s3 eb tb=>?_⟩
  refine⟨a,b,_,_,rfl,rfl,SqT.of (s3 _ _ e2),SqT.of eb,by simp,(by show 4≤sizeLine;decide),fun z=>(nomatch z),fun _ q hq=>⟨g.trans (g2.trans (s3.trans (z01 hq _))),?_⟩⟩
  rw[eI,ez,bE]
  refine z08.snoc (z08.keep (g2.trans (s3.trans (z01 hq _))) _ _ t) ?_
  unfold V6
  rw[y26]
  exact z0A z02 (by show 4≤1000000;decide) (.cons (z2E _) (.cons (z2E _) (.cons (z0H _) (.cons (A7.keep (z01 hq _) _ _ tb) .nil))))
 ·obtain⟨g,t⟩:=hp
  rw[b8,bV] at t
  intro D hD
  refine⟨D,ys,rfl,.inl ⟨SqL.of z02,fun q hq=>k _ _ (g.trans ((z01 hD _).trans (z01 hq _))) (z0A z02 ?_ (z08.keep ((z01 hD _).trans (z01 hq _)) _ _ t))⟩⟩
  rw[b8]
  omega
def y7F:C2->DV
 | (none,n)=>.tup [.str "write",.int n]
 | (some r,n)=>.tup [.str "deliver",.int r,.int n]
theorem y45{H:Hp}{u:V}{d:C2}(h:z4z H u d):A7 H (y7F d) u:=by
 obtain⟨b,rfl,e⟩:=h
 obtain⟨a,n⟩:=d
 cases a with
 | none=>exact z0A e (by show 2≤1000000;decide) (.cons (z2E _) (.cons (z0H _) .nil))
 | some r=>exact z0A e (by show 3≤1000000;decide) (.cons (z2E _) (.cons (z0H _) (.cons (z0H _) .nil)))
theorem y4m{H:Hp}:∀{us:List V}{log:List C2},Paired (z4z H) us log->∀(i:Nat) (d:C2),log[i]? = some d->∃u,us[i]? = some u/\z4z H u d:=by
 intro us log h
 induction h with
 | nil=>intro i d e;simp at e
 | cons h t ih=>
  intro i d e
  cases i with
  | zero=>
   simp at e
   subst e
   exact⟨_,rfl,h⟩
  | succ i=>
   obtain⟨u,q1,q2⟩:=ih i d (by simpa using e)
   exact⟨u,by simpa using q1,q2⟩
def y2q(Bk:BkP):Sp:=fun vs H Q _=>∃(p:Addr) (fp:List Addr) (zs:List Str) (r k:Int) (rows:List Row) (log:List C2),vs=[.ref p]/\Bk H p fp zs r k rows log/\∀H',A4 H H'->Q (.int rows.length) H'
def y3K(Bk:BkP):Sp:=fun vs H Q _=>∃(p:Addr) (fp:List Addr) (zs:List Str) (r k:Int) (rows:List Row) (log:List C2) (n:Int),vs=[.ref p,.int n]/\Bk H p fp zs r k rows log/\1≤n/\n≤rows.length/\
 ∀(v:V) (H':Hp),A4 H H'->A7 H' (z13 rows n r) v->Q v H'
def y5k(Bk:BkP):Sp:=fun vs H Q _=>∃(p:Addr) (fp:List Addr) (zs:List Str) (r k:Int) (rows:List Row) (log:List C2) (i:Nat) (d:C2),vs=[.ref p,.int ((i:Int)+1)]/\Bk H p fp zs r k rows log/\log[i]? = some d/\
 ∀v,A7 H (y7F d) v->Q v H
theorem y0o{A3 A1:Addr}(M:Bl mg)(T:F9 K mg A3)(F:Fun K "latest" "Book.latest" z48 f fd)(G9:D4 P w K mg base 1 A1 "latest" z3h (z8d (OfD K A1))):A5 P w K mg base CX0 2 f fd z6x (y2q (BkD K A3 A1)):=by
 have nd:=z5I.nd
 refine F.ok z5I (fun vs H Q E h=>?_) (fun cdv A outer s H vs Q E hr h=>?_)
 ·obtain⟨p,fp,zs,r,k,rows,log,rfl,_⟩:=h
  rfl
 obtain⟨p,fp,zs,r,k,rows,log,rfl,⟨dx,po,pd,fs,fo,us,rfl,B⟩,q⟩:=h
 refine⟨_,(z05 (z0h (z30 G9 (rm hr) (z0J (pv 0) rfl)))),?_⟩
 obtain⟨dxo,pno,plo,fso,xso,efo,h1,h2,h3,h4,l1,l2,l3,lmo,_⟩:=id B.of
 exact⟨_,rfl,p,A3,dx,fs,_,rfl,B.hp,T.cl,T.n_office,B.lo,po,dxo,fso,rfl,h1,lmo _ (by simp),po,fo,zs,r,rows,rfl,B.of,q⟩
theorem y1Z{A3 A1:Addr}(M:Bl mg)(T:F9 K mg A3)(F:Fun K "issue" "Book.issue" z4T f fd)(B7:D4 P w K mg base 1 A1 "issue" z1W (z5k (OfD K A1))):A5 P w K mg base CX0 2 f fd z82 (y3K (BkD K A3 A1)):=by
 have nd:=z6o.nd
 refine F.ok z6o (fun vs H Q E h=>?_) (fun cdv A outer s H vs Q E hr h=>?_)
 ·obtain⟨p,fp,zs,r,k,rows,log,n,rfl,_⟩:=h
  rfl
 obtain⟨p,fp,zs,r,k,rows,log,n,rfl,⟨dx,po,pd,fs,fo,us,rfl,B⟩,n1,n2,q⟩:=h
 refine⟨_,(z05 (z0h (z2b B7 (rm hr) (z0J (pv 0) rfl) (z00 (pv 1) z03)))),?_⟩
 obtain⟨dxo,pno,plo,fso,xso,efo,h1,h2,h3,h4,l1,l2,l3,lmo,_⟩:=id B.of
 exact⟨_,rfl,p,A3,dx,fs,_,rfl,B.hp,T.cl,T.n_office,B.lo,po,dxo,fso,rfl,h1,lmo _ (by simp),_,rfl,po,fo,zs,r,rows,n,rfl,B.of,n1,n2,q⟩
theorem y2O{A3 A1:Addr}(M:Bl mg)(T:F9 K mg A3)(F:Fun K "deed" "Book.deed" z6f f fd):A5 P w K mg base CX0 1 f fd z8s (y5k (BkD K A3 A1)):=by
 have nd:=z7J.nd
 refine F.ok z7J (fun vs H Q E h=>?_) (fun cdv A outer s H vs Q E hr h=>?_)
 ·obtain⟨p,fp,zs,r,k,rows,log,i,d,rfl,_⟩:=h
  rfl
 obtain⟨p,fp,zs,r,k,rows,log,i,d,rfl,⟨dx,po,pd,fs,fo,us,rfl,B⟩,ed,q⟩:=h
 refine⟨_,(z04 (z0N (PW.pt (z4v (z0c z8P (pv 1) z06 (z0n _)) (z2P (z0c z2A (pv 1) (z0b z0a rfl M.len bP (z00 (z0J (pv 0) rfl) z03)) (z0n _))))) (z05 z1s) z0p) (z05 (z0h (z0K z0R (z0J (pv 0) rfl) (z0s z3r (pv 1) z06) (fun _ _=>rfl))))),?_⟩
 have lu:=z3p B.ds
 have hi:=(cD.mp ed).1
 obtain⟨u,eu,du⟩:=y4m B.ds i d ed
 have av:atI us ((i:Int)+1-1)=some u:=by
  rw[Int.add_sub_cancel]
  exact z11 eu
 refine⟨_,rfl,_,_,rfl,rfl,_,rfl,A9 (fun q=>absurd (z0F q) (by omega)) fun _=>?_⟩
 refine⟨_,rfl,_,rfl,p,A3,dx,fs,_,rfl,B.hp,T.cl,T.n_done,B.ld,pd,us,rfl,.inl (SqL.of B.hd),_,_,rfl,rfl,_,rfl,A9 (fun q=>absurd (z0F q) (by omega)) fun _=>?_⟩
 exact⟨_,rfl,p,A3,dx,fs,_,rfl,B.hp,T.cl,T.n_done,B.ld,_,rfl,_,_,rfl,rfl,pd,us,_,u,rfl,rfl,SqL.of B.hd,av,q u (y45 du)⟩
def y4S(K:PySem.W.Frag):Sp:=fun vs H Q _=>∃(a:Addr) (ns:List Int),vs=[.ref a]/\SqL K H a (ns.map V.int)/\ns.length≤63/\∀H',Q (.bl true) H'
theorem y3m{nm:List Str}{rows:List Row}(R:Rws nm rows)(h:nm.length≤12):∀w∈rows,w.length≤12:=fun w hw=>by
 have:=(R.sub w hw).length_le
 rw[b8] at this
 omega
theorem y04{α:Type}[DecidableEq α]:∀{l1 l2:List α},l1.Nodup->(∀x∈l1,x∈l2)->l1.length≤l2.length
 | [],l2,_,_=>cR _
 | x::r,l2,nd,sub=>by
  rw[cV] at nd
  have hx:=sub x bQ
  have:=y04 (l1:=r) (l2:=l2.erase x) nd.2 fun y hy=>(j5 (show y≠x from fun e=>nd.1 (e ▸ hy))).mpr (sub y (bL _ hy))
  have hl:=gL hx
  have hp:0<l2.length:=List.length_pos_of_mem hx
  rw[bZ]
  omega
theorem y6C{qs:List Int}(h:∀n∈qs,1≤n/\n≤60):(C5 qs).length<64:=by
 have h1:=y04 (z62 qs) (l2:=z0g qs) fun n hn=>z1n.mpr ⟨by have:=h n (z2D.mp hn);omega,z2D.mp hn⟩
 have h2:=z2S qs
 omega
theorem y0n{qs ms:List Int}(h:∀n∈qs,1≤n/\n≤60)(pm:ms.Perm (C5 qs))(pw:ms.Pairwise (·≤·)):ms=z0g qs:=by
 rw[y0T (z62 qs) (fun n hn=>h n (z2D.mp hn)) pm pw]
 exact y2o fun n=>z2D
theorem z1o{rows:List Row}{z:Str}:∀(ns:List Int),ns.Pairwise (· < ·)->(z0w ns rows z=none/\∀n∈ns,D3 (z0z rows n) z=none)\/∃n v,z0w ns rows z=some (n,v)/\n∈ns/\D3 (z0z rows n) z=some v/\∀m∈ns,n<m->D3 (z0z rows m) z=none:=by
 intro ns
 have rev:∀(l:List Int),l.reverse.Pairwise (· < ·)->(z0w l.reverse rows z=none/\∀n∈l.reverse,D3 (z0z rows n) z=none)\/∃n v,z0w l.reverse rows z=some (n,v)/\n∈l.reverse/\D3 (z0z rows n) z=some v/\∀m∈l.reverse,n<m->D3 (z0z rows m) z=none:=by
  intro l
  induction l with
  | nil=>intro _;exact .inl ⟨rfl,fun _ h=>(nomatch h)⟩
  | cons x l ih=>
   intro p
   rw[List.reverse_cons] at p ⊢
   obtain⟨p1,_,p2⟩:=dL.mp p
   rw[z5Z]
   cases ev:D3 (z0z rows x) z with
   | some v=>
    refine .inr ⟨x,v,rfl,bX _ (bA.mpr rfl),ev,fun m hm h=>?_⟩
    rcases bM.mp hm with hm|hm
    ·have:=p2 m hm x (bA.mpr rfl)
     omega
    ·have:=bA.mp hm
     omega
   | none=>
    rcases ih p1 with ⟨h1,h2⟩|⟨n,v,h1,h2,h3,h4⟩
    ·refine .inl ⟨h1,fun n hn=>?_⟩
     rcases bM.mp hn with hn|hn
     ·exact h2 n hn
     ·rw[bA.mp hn]
      exact ev
    ·refine .inr ⟨n,v,h1,cM _ h2,h3,fun m hm h=>?_⟩
     rcases bM.mp hm with hm|hm
     ·exact h4 m hm h
     ·rw[bA.mp hm]
      exact ev
 intro h
 have:=rev ns.reverse
 rw[gB] at this
 exact this h
theorem y4I{w:Row}{z:Str}(h:D3 w z≠none):z∈z1F w:=by
 refine cY fun hz=>h ?_
 have go:∀(w:Row),z∉z1F w->w.foldl (fun acc p=>if p.1=z then some p.2 else acc) none=none:=by
  intro w
  induction w with
  | nil=>intro _;rfl
  | cons p w ih=>
   intro hz
   unfold z1F at hz
   rw[cG,bB,not_or] at hz
   rw[cS,if_neg (fun e=>hz.1 e.symm)]
   exact ih hz.2
 exact go w hz
theorem y5o{w:Row}{z:Str}(h:z∈z1F w):∃v,D3 w z=some v:=by
 cases e:D3 w z with
 | some v=>exact⟨v,rfl⟩
 | none=>
  refine absurd h ?_
  have go:∀(w:Row),D3 w z=none->z∉z1F w:=by
   intro w
   induction w with
   | nil=>intro _ h;exact(nomatch h)
   | cons p w ih=>
    intro hz
    rw[z7q] at hz
    unfold z1F
    rw[cG,bB,not_or]
    cases e2:D3 w z with
    | some v=>rw[e2] at hz;cases hz
    | none=>
     rw[e2] at hz
     refine⟨fun e3=>?_,ih e2⟩
     have hz':(if p.1=z then some p.2 else none)=none:=hz
     rw[if_pos e3.symm] at hz'
     cases hz'
  exact go w e
def y7k(had:List Int)(m:Nat):Prop:=((m:Int)∈had\/(had=[]/\m=0))/\∀y∈had,y≤(m:Int)
theorem y7J(hs:List Int)(h:∀x∈hs,1≤x/\x≤60):∃m:Nat,y7k hs m:=by
 induction hs with
 | nil=>exact⟨0,.inr ⟨rfl,rfl⟩,fun _ q=>(nomatch q)⟩
 | cons x xs ih=>
  obtain⟨m,t⟩:=ih fun y hy=>h y (bL _ hy)
  have hx:=h x bQ
  by_cases c:(m:Int)≤x
  ·refine⟨x.toNat,.inl ?_,fun y hy=>?_⟩
   ·rw[show((x.toNat:Nat):Int)=x by omega]
    exact bQ
   ·rcases bB.mp hy with rfl|hy
    ·omega
    ·have:=t.2 y hy
     omega
  ·refine⟨m,.inl ?_,fun y hy=>?_⟩
   ·rcases t.1 with q|⟨_,q⟩
    ·exact bL _ q
    ·omega
   ·rcases bB.mp hy with rfl|hy
    ·omega
    ·exact t.2 y hy
theorem z6N(ns:List Int)(r:Int):z2v ns r=(z0W ns).filter fun n=>decide (z0E ns n r=0):=by
 unfold z2v P6
 rw[List.filter_map,eF]
 exact List.map_id _
theorem y3F{ns:List Int}{r:Int}(i:Nat):(((upI 1 (i+1)).filter fun x=>!decide (x∈ns)).filter fun n=>decide (z0E ns n r=0))=(((upI 1 i).filter fun x=>!decide (x∈ns)).filter fun n=>decide (z0E ns n r=0))++(if (1:Int)+(i:Int)∈ns then [] else if z0E ns (1+(i:Int)) r=0 then [1+(i:Int)] else []):=by
 rw[z4k,dR]
 by_cases h:(1:Int)+(i:Int)∈ns
 ·rw[if_pos h,if_pos h]
  rfl
 ·rw[if_neg h,if_neg h,eX]
  by_cases c:z0E ns (1+(i:Int)) r=0
  ·rw[if_pos c,decide_eq_true c]
   rfl
  ·rw[if_neg c,decide_eq_false c]
   rfl
def y34(K:PySem.W.Frag):Sp:=fun vs H Q _=>∃(p:Addr) (ns:List Int) (r:Int),vs=[.ref p,.int r]/\H p=some (.lst (ns.map V.int))/\(∀x∈ns,1≤x/\x≤60)/\ns.length≤900/\0≤r/\
 ∀(l:Addr) (H':Hp),H l=none->A4 H H'->H' l=some (.lst ((z2v ns r).map V.int))->Q (.ref l) H'
theorem y5i(M:Bl mg)(F:Fun K "_law_dark" "_law_dark" z60 f fd)(C9:Cal P w K mg base 1 "_law_teller" z2Z (z7g K)):A5 P w K mg base CX0 2 f fd z6b (y34 K):=by
 have nd:=z78.nd
 refine F.ok z78 (fun vs H Q E h=>?_) (fun cdv A outer s H vs Q E hr h=>?_)
 ·obtain⟨p,ns,r,rfl,_⟩:=h
  rfl
 obtain⟨p,ns,r,rfl,hP,B3,hlen,r0,q⟩:=h
 refine⟨_,(z04 (z0l (i:=2) nd rfl (Or.inl rfl) (z1j z03)) (z04 (z1h cC rfl (z5j rfl M.range (z00 z06 (z00 (z0b (z7v rfl) rfl M.max fA (z00 (z0s z9V (pv 0) (z1j (z00 z06 z03))) z03)) z03))) (z0j (i:=3) nd rfl (Or.inl rfl)) (z05 (z0N (PW.pt (z5E (z0c z1k (pv 3) (pv 0) (by with_unfolding_all rfl)) (z3J (z0c z2r (z0k C9 (rm hr) rfl (z00 (pv 0) (z00 (pv 3) (z00 (pv 1) z03)))) z06 (z0n _))))) (z05 (z0C (z36 bY c7 cA z0O (pv 2) (z00 (pv 3) z03)))) z0p))) (z05 (z0h (pv 2))))),?_⟩
 refine⟨(by show 0≤sizeLine;decide),fun lg hlg=>?_⟩
 have s1:=z01 hlg (.lst [])
 refine⟨_,rfl,(by show 1≤sizeLine;decide),fun l0 hl0=>⟨p,l0,_,_,rfl,rfl,z01 hl0 _ _ _ (s1 _ _ hP),z02,?_,fun lc hlc=>?_⟩⟩
 ·rw[b8]
  exact dZ (z0f (by show ns.length+1≤1000;omega))
 have s2:=s1.trans ((z01 hl0 (.lst [V.int 0])).trans (z01 hlc (.lst (ns.map V.int++[V.int 0]))))
 have eg:upd (upd (upd H lg (.lst [])) l0 (.lst [V.int 0])) lc (.lst (ns.map V.int++[V.int 0])) lg=some (.lst []):=(z01 hl0 _).trans (z01 hlc _) _ _ z02
 have ec:upd (upd (upd H lg (.lst [])) l0 (.lst [V.int 0])) lc (.lst (ns.map V.int++[V.int 0])) lc=some (.lst ((ns++[0]).map V.int)):=by
  rw[z02,bE]
  rfl
 generalize upd (upd (upd H lg (.lst [])) l0 (.lst [V.int 0])) lc (.lst (ns.map V.int++[V.int 0]))=H2 at s2 eg ec
 refine⟨lc,ns++[0],rfl,.inl (SqL.of ec),by simp,fun m hm top=>?_⟩
 have hm':m∈ns\/(ns=[]/\m=0):=by
  rcases bM.mp hm with h|h
  ·exact .inl h
  ·rw[bA] at h
   subst h
   cases ns with
   | nil=>exact .inr ⟨rfl,rfl⟩
   | cons x xs=>
    have h1:=top x (by simp)
    have h2:=B3 x bQ
    omega
 have m60:0≤m/\m≤60:=by
  rcases hm' with h|⟨_,h⟩
  ·have:=B3 m h
   omega
  ·omega
 have W4:∀y∈ns,y≤m:=fun y hy=>top y (cM _ hy)
 refine⟨1,m,rfl,⟨by decide,by decide,by omega,by omega⟩,?_⟩
 refine z2l (lo:=1) (n:=(m-1).toNat) (fun i σ H'=>∃(o1:Option V),A4 H H'/\H' lg=some (.lst ((((upI 1 i).filter fun x=>!decide (x∈ns)).filter fun n=>decide (z0E ns n r=0)).map V.int))/\
   σ=[some (.ref p),some (.int r),some (.ref lg),o1]) ⟨none,s2,eg,rfl⟩ (fun i σ H' hi hp=>?_) (fun σ H' hp=>?_)
 ·obtain⟨o1,g,eG,rfl⟩:=hp
  have lz:((((upI 1 i).filter fun x=>!decide (x∈ns)).filter fun n=>decide (z0E ns n r=0)).map V.int).length≤i:=by
   rw[b8]
   have h1:=cF (fun x=>!decide (x∈ns)) (upI 1 i)
   have h2:=cF (fun n=>decide (z0E ns n r=0)) ((upI 1 i).filter fun x=>!decide (x∈ns))
   rw[z0M] at h1
   omega
  refine⟨_,rfl,_,rfl,p,_,rfl,.inl (SqL.of (g _ _ hP)),rfl,z1X ns,_,rfl,?_⟩
  rw[if_pos rfl,z2B,y3F]
  by_cases hin:(1:Int)+(i:Int)∈ns
  ·rw[decide_eq_true hin,if_pos hin,cU]
   exact C6 (C6 ⟨_,g,eG,rfl⟩)
  ·rw[decide_eq_false hin,if_neg hin]
   refine N0 ⟨_,rfl,_,rfl,_,rfl,p,ns,1+(i:Int),r,rfl,SqL.of (g _ _ hP),B3,hlen,r0,fun H3 s3=>⟨rfl,_,rfl,?_⟩⟩
   refine A9 (fun c=>?_) (fun c=>?_)
   ·have c0:z0E ns (1+(i:Int)) r=0:=by
     have:=z0F c
     injection this
    rw[if_pos c0,bE]
    refine⟨_,rfl,.inl ⟨rfl,_,SqL.of (s3 _ _ eG)⟩,_,rfl,lg,_,_,rfl,rfl,s3 _ _ eG,z0f (by omega),?_⟩
    exact⟨_,z1N (g.trans s3) hlg,z02,rfl⟩
   ·have c0:z0E ns (1+(i:Int)) r≠0:=fun e=>z3v c (by rw[e])
    rw[if_neg c0,cU]
    exact⟨_,g.trans s3,s3 _ _ eG,rfl⟩
 ·obtain⟨o1,g,eG,rfl⟩:=hp
  rw[z7w hm' B3 W4,<- z6N] at eG
  exact⟨_,rfl,q lg H' hlg g eG⟩
structure F2(ns:List Int)(r b:Int)(fs as:List Int):Prop where
 len:fs.length=as.length
 fr:fs.Pairwise (· < ·)
 ar:as.Pairwise fun x y=>x+r<y
 S1:∀x∈fs,x∈z0W ns
 cov:∀d∈z10 ns r b,∃x∈fs,d≤x/\x≤d+r
 mem:∀a∈as,a∈z10 ns r b
def z9X(H:Hp)(v:V)(ns:List Int)(r b:Int):Prop:=∃(l lf la:Addr) (fs as:List Int),v=.ref l/\H l=some (.tup [.ref lf,.ref la])/\H lf=some (.tup (fs.map V.int))/\H la=some (.tup (as.map V.int))/\F2 ns r b fs as
theorem z9X.keep{H H':Hp}{v:V}{ns:List Int}{r b:Int}(s:A4 H H')(h:z9X H v ns r b):z9X H' v ns r b:=by
 obtain⟨l,lf,la,fs,as,e,h1,h2,h3,k⟩:=h
 exact⟨l,lf,la,fs,as,e,s _ _ h1,s _ _ h2,s _ _ h3,k⟩
def y11(K:PySem.W.Frag):Sp:=fun vs H Q _=>∃(p:Addr) (ns:List Int) (r b:Int),vs=[.ref p,.int r,.int b]/\SqI K H p ns/\(∀x∈ns,1≤x/\x≤60)/\ns.length≤900/\0≤r/\
 ∀(v:V) (H':Hp),A4 H H'->z9X H' v ns r b->Q v H'
theorem z4o{ns:List Int}{n r:Int}(B3:∀x∈ns,1≤x/\x≤60)(h:z0E ns n r=0):∀y∈ns,n<y->¬y-r≤n:=fun y hy h1 h2=>by
 unfold z0E at h
 cases e:(upI 1 60).find? (y0w ns n r) with
 | none=>exact fS.mp e y (z17.mpr (by have:=B3 y hy;omega)) (z4f.mpr ⟨h1,h2,hy⟩)
 | some t=>
  rw[e] at h
  have:=z17.mp (e9 e)
  have h':t=0:=h
  omega
theorem y2r{ns:List Int}{r n:Int}:n∈z2v ns r↔n∈z0W ns/\z0E ns n r=0:=by
 rw[z6N,bU,decide_eq_true_eq]
theorem y3x{ns:List Int}{r n:Int}(B3:∀x∈ns,1≤x/\x≤60)(r0:0≤r)(h:n∈z2v ns r):n+r∈z0W ns:=by
 obtain⟨h1,h2⟩:=y2r.mp h
 have z:=z4o B3 h2
 obtain⟨a,b,y,hy,c⟩:=z0y.mp h1
 have:=B3 y hy
 have:=z y hy c
 refine z0y.mpr ⟨by omega,fun hn=>?_,y,hy,by omega⟩
 rcases jM n (n+r) with q|q
 ·exact z _ hn q (by omega)
 ·have e:n+r=n:=by omega
  rw[e] at hn
  exact b hn
structure Gr(ds:List Int)(r:Int)(as:List Int):Prop where
 ar:as.Pairwise fun x y=>x+r<y
 mem:∀a∈as,a∈ds
 cov:∀d∈ds,∃a∈as,a≤d/\d≤a+r
theorem Gr.add{ds:List Int}{r d:Int}{as:List Int}(g:Gr ds r as)(h:∀a∈as,a+r<d)(r0:0≤r):Gr (ds++[d]) r (as++[d]) where
 ar:=dL.mpr ⟨g.ar,fM _ _,fun x hx y hy=>by rw[bA.mp hy];exact h x hx⟩
 mem a ha:=by
  rcases bM.mp ha with ha|ha
  ·exact cM _ (g.mem a ha)
  ·exact bX _ ha
 cov x hx:=by
  rcases bM.mp hx with hx|hx
  ·obtain⟨a,ha,q⟩:=g.cov x hx
   exact⟨a,cM _ ha,q⟩
  ·rw[bA.mp hx]
   exact⟨d,bX _ (bA.mpr rfl),dN _,by omega⟩
theorem Gr.skip{ds:List Int}{r d a:Int}{as:List Int}(g:Gr ds r as)(ha:a∈as)(h1:a≤d)(h2:d≤a+r):Gr (ds++[d]) r as where
 ar:=g.ar
 mem a ha:=cM _ (g.mem a ha)
 cov x hx:=by
  rcases bM.mp hx with hx|hx
  ·exact g.cov x hx
  ·rw[bA.mp hx]
   exact⟨a,ha,h1,h2⟩
theorem Gr.plan{ns:List Int}{r b:Int}{as:List Int}(g:Gr (z10 ns r b) r as)(B3:∀x∈ns,1≤x/\x≤60)(r0:0≤r):F2 ns r b (as.map (·+r)) as where
 len:=b8 _
 fr:=by
  rw[dY]
  exact g.ar.imp fun h=>by omega
 ar:=g.ar
 S1 x hx:=by
  obtain⟨a,ha,rfl⟩:=cB.mp hx
  exact y3x B3 r0 (bU.mp (g.mem a ha)).1
 cov d hd:=by
  obtain⟨a,ha,h1,h2⟩:=g.cov d hd
  exact⟨a+r,cB.mpr ⟨a,ha,rfl⟩,h2,by omega⟩
 mem:=g.mem
theorem y25{as:List Int}(h:as≠[]):∃(init:List Int) (z:Int),as=init++[z]:=⟨as.dropLast,as.getLast h,(List.dropLast_concat_getLast h).symm⟩
theorem y3f(M:Bl mg)(F:Fun K "fewest_numbers" "fewest_numbers" z2R f fd)(B6:Cal P w K mg base 4 "dark_numbers_behind" z1d (z95 K)):A5 P w K mg base CX0 5 f fd z2J (y11 K):=by
 have nd:=z3U.nd
 refine F.ok z3U (fun vs H Q E h=>?_) (fun cdv A outer s H vs Q E hr h=>?_)
 ·obtain⟨p,ns,r,b,rfl,_⟩:=h
  rfl
 obtain⟨p,ns,r,b,rfl,hS,B3,hlen,r0,q⟩:=h
 refine⟨_,(z04 (z0l (i:=3) nd rfl (Or.inl rfl) (z1j z03)) (z04 (z0l (i:=4) nd rfl (Or.inl rfl) (z1j z03)) (z04 (z1h cC rfl (z2I (z0k B6 (rm hr) rfl (z00 (pv 0) (z00 (pv 1) (z00 (pv 2) z03))))) (z0j (i:=5) nd rfl (Or.inl rfl)) (z05 (z0N (PW.pt (z4v (z0c z2r (z0b z0a rfl M.len bP (z00 (pv 3) z03)) z06 (z0n _)) (z2P (z0c z2A (pv 5) (z0K z0R (pv 3) (y7s y5V z06) (fun _ _=>rfl)) (z0n _))))) (z04 (z0C (z36 bY c7 cA z0O (pv 3) (z00 (z0s z1D (pv 5) (pv 1)) z03))) (z05 (z0C (z36 bY c7 cA z0O (pv 4) (z00 (pv 5) z03))))) z0p))) (z05 (z0h (z1b (z00 (z0o z0t rfl M.tuple bT (z00 (pv 3) z03)) (z00 (z0o z0t rfl M.tuple bT (z00 (pv 4) z03)) z03)))))))),?_⟩
 refine⟨(by show 0≤sizeLine;decide),fun lf hlf=>⟨(by show 0≤sizeLine;decide),fun la hla=>?_⟩⟩
 have s1:=(z01 hlf (.lst [])).trans (z01 hla (.lst []))
 have ef:upd (upd H lf (.lst [])) la (.lst []) lf=some (.lst []):=z01 hla _ _ _ z02
 have ea:upd (upd H lf (.lst [])) la (.lst []) la=some (.lst []):=z02
 have nfa:lf≠la:=z0i z02 hla
 have hla':H la=none:=(z01 hlf _).free hla
 generalize upd (upd H lf (.lst [])) la (.lst [])=H1 at s1 ef ea
 refine⟨_,rfl,_,rfl,_,rfl,p,ns,r,b,rfl,SqI.keep s1 hS,B3,hlen,fun lt H2 s2 e2=>?_⟩
 have ld:(z10 ns r b).length≤60:=cO (cF _ _) (z9G ns r)
 have rise:(z10 ns r b).Pairwise (· < ·):=by
  unfold z10
  rw[z6N]
  exact((z4q ns).filter _).filter _
 refine⟨lt,rfl,⟨_,SqT.of e2⟩,z93 (K:=K) (a:=lt) (xs:=(z10 ns r b).map V.int) (fun i σ H'=>∃(as:List Int) (o:Option V),A4 H H'/\H' lt=some (.tup ((z10 ns r b).map V.int))/\H' lf=some (.lst ((as.map (·+r)).map V.int))/\H' la=some (.lst (as.map V.int))/\as.length≤i/\Gr ((z10 ns r b).take i) r as/\
  σ=[some (.ref p),some (.int r),some (.int b),some (.ref lf),some (.ref la),o]) ⟨[],none,s1.trans s2,e2,s2 _ _ ef,s2 _ _ ea,bC 0,⟨.nil,fun _ h=>(nomatch h),fun _ h=>(nomatch h)⟩,rfl⟩ (fun i σ H' _ hp=>?_) (fun i x σ H' hx hp=>?_) (fun σ H' hp=>?_)⟩
 ·obtain⟨as,o,g,e,_⟩:=hp
  exact SqT.of e
 ·obtain⟨as,o,g,e,e3,e4,li,G,rfl⟩:=hp
  rw[bG] at hx
  obtain⟨d,ed,rfl⟩:=cE.mp hx
  have hi:i<(z10 ns r b).length:=(cD.mp ed).1
  have lm1:((as.map (·+r)).map V.int).length=as.length:=by rw[b8,b8]
  have lm2:(as.map V.int).length=as.length:=b8 _
  have up:(∀a∈as,a+r<d)->∃(as':List Int) (o:Option V),A4 H (upd (upd H' lf (.lst ((as.map (·+r)).map V.int++[V.int (d+r)]))) la (.lst (as.map V.int++[V.int d])))/\upd (upd H' lf (.lst ((as.map (·+r)).map V.int++[V.int (d+r)]))) la (.lst (as.map V.int++[V.int d])) lt=some (.tup ((z10 ns r b).map V.int))/\
    upd (upd H' lf (.lst ((as.map (·+r)).map V.int++[V.int (d+r)]))) la (.lst (as.map V.int++[V.int d])) lf=some (.lst ((as'.map (·+r)).map V.int))/\upd (upd H' lf (.lst ((as.map (·+r)).map V.int++[V.int (d+r)]))) la (.lst (as.map V.int++[V.int d])) la=some (.lst (as'.map V.int))/\as'.length≤i+1/\Gr ((z10 ns r b).take (i+1)) r as'/\
    [some (V.ref p),some (V.int r),some (V.int b),some (V.ref lf),some (V.ref la),some (V.int d)]=[some (V.ref p),some (V.int r),some (V.int b),some (V.ref lf),some (V.ref la),o]:=fun h=>by
   refine⟨as++[d],_,z1N (z1N g hlf) hla',?_,?_,?_,?_,?_,rfl⟩
   ·rw[z0e (z5h e e4 (by intro z;cases z)),z0e (z5h e e3 (by intro z;cases z))]
    exact e
   ·rw[z0e nfa,z02,bE,bE]
    rfl
   ·rw[z02,bE]
    rfl
   ·rw[bN]
    exact jF li
   ·rw[z0r ed]
    exact G.add h r0
  refine⟨_,rfl,lf,_,rfl,.inl (SqL.of e3),rfl,_,rfl,?_⟩
  rw[lm1]
  refine A9 (fun c=>?_) (fun c=>?_)
  ·have c0:as=[]:=fN.mp (by have:=z0F c;injection this with this;omega)
   refine⟨_,rfl,.inl ⟨rfl,_,SqL.of e3⟩,_,rfl,_,rfl,_,_,rfl,rfl,lf,_,_,rfl,rfl,e3,z0f (by omega),?_⟩
   refine⟨_,rfl,.inl ⟨rfl,_,SqL.of (by rw[z0e (d6 nfa)];exact e4)⟩,_,rfl,la,_,_,rfl,rfl,(by rw[z0e (d6 nfa)];exact e4),z0f (by omega),?_⟩
   exact up fun a ha=>by rw[c0] at ha;cases ha
  ·have c0:as≠[]:=fun z=>c (by rw[z];rfl)
   obtain⟨init,z,ez⟩:=y25 c0
   refine⟨_,rfl,_,rfl,_,rfl,lf,_,_,V.int (z+r),rfl,rfl,SqL.of e3,(by rw[ez,bE,bE];exact y5F _ _),_,_,rfl,rfl,_,rfl,?_⟩
   have hz:z∈as:=by rw[ez];exact bX _ (bA.mpr rfl)
   refine A9 (fun c=>?_) (fun c=>?_)
   ·have c1:=z0F c
    refine⟨_,rfl,.inl ⟨rfl,_,SqL.of e3⟩,_,rfl,_,rfl,_,_,rfl,rfl,lf,_,_,rfl,rfl,e3,z0f (by omega),?_⟩
    refine⟨_,rfl,.inl ⟨rfl,_,SqL.of (by rw[z0e (d6 nfa)];exact e4)⟩,_,rfl,la,_,_,rfl,rfl,(by rw[z0e (d6 nfa)];exact e4),z0f (by omega),?_⟩
    refine up fun a ha=>?_
    have hp:=G.ar
    rw[ez] at ha hp
    rcases bM.mp ha with h|h
    ·have:=(dL.mp hp).2.2 a h z (bA.mpr rfl)
     omega
    ·rw[bA.mp h]
     exact c1
   ·have c1:=z3v c
    refine⟨as,_,g,e,e3,e4,by omega,?_,rfl⟩
    rw[z0r ed]
    refine G.skip hz ?_ (by omega)
    have h1:=G.mem z hz
    have h2:((z10 ns r b).take i++[d]).Pairwise (· < ·):=by
     rw[<- z0r ed]
     exact rise.sublist (List.take_sublist _ _)
    exact Int.le_of_lt ((dL.mp h2).2.2 z h1 d (bA.mpr rfl))
 ·obtain⟨as,o,g,e,e3,e4,li,G,rfl⟩:=hp
  rw[b8,bV] at G
  refine⟨_,rfl,lf,_,rfl,.inl ⟨SqL.of e3,fun t1 ht1=>⟨_,rfl,la,_,rfl,.inl ⟨SqL.of (z01 ht1 _ _ _ e4),fun t2 ht2=>⟨(by show 2≤sizeLine;decide),fun t ht=>?_⟩⟩⟩⟩⟩
  exact q _ _ (g.trans ((z01 ht1 _).trans ((z01 ht2 _).trans (z01 ht _)))) ⟨t,t1,t2,_,_,rfl,z02,z01 ht _ _ _ (z01 ht2 _ _ _ z02),z01 ht _ _ _ z02,G.plan B3 r0⟩
theorem y5h{ms:List Int}{rows:List Row}{z:Str}(h:∀n∈ms,n≤60):z0I (z0w ms rows z)≤60:=by
 have go:∀(ms:List Int) (acc:Option (Int×Int)),(∀n∈ms,n≤60)->z0I acc≤60->z0I (ms.foldl (fun acc n=>match D3 (z0z rows n) z with|some v=>some (n,v)|none=>acc) acc)≤60:=by
  intro ms
  induction ms with
  | nil=>intro acc _ h;exact h
  | cons n r ih=>
   intro acc hn h0
   rw[cS]
   refine ih _ (fun x hx=>hn x (bL _ hx)) ?_
   cases D3 (z0z rows n) z with
   | none=>exact h0
   | some v=>exact hn n bQ
 exact go ms none h (by decide)
def z1w(ns:List Int)(rows:List Row)(r:Int)(as:List Str):List Int:=(as.filter fun z=>decide (z0B ns rows r (z0I (z0w ns rows z)) z="open")).map fun z=>z0I (z0w ns rows z)
def z2z(l:List Int):Int:=l.foldl min 61
theorem y13{m:Int}:∀{l:List Int}{a:Int},(m=a\/m∈l)->m≤a->(∀y∈l,m≤y)->l.foldl min a=m
 | [],a,h,_,_=>by
  rcases h with h|h
  ·exact h.symm
  ·cases h
 | y::l,a,h,ha,hl=>by
  have hy:=hl y bQ
  rw[cS]
  refine y13 ?_ (by omega) fun x hx=>hl x (bL _ hx)
  rcases h with h|h
  ·exact .inl (by omega)
  ·rcases bB.mp h with h|h
   ·exact .inl (by omega)
   ·exact .inr h
theorem y2n(ns:List Int)(rows:List Row)(r:Int)(as:List Str)(z:Str):z1w ns rows r (as++[z])=z1w ns rows r as++(if z0B ns rows r (z0I (z0w ns rows z)) z="open" then [z0I (z0w ns rows z)] else []):=by
 unfold z1w
 rw[dR,bE,eX]
 by_cases c:z0B ns rows r (z0I (z0w ns rows z)) z="open"
 ·rw[decide_eq_true c,if_pos rfl,if_pos c]
  rfl
 ·rw[decide_eq_false c,if_neg bI,if_neg c]
  rfl
def askV:Option Str->V
 | none=>.non
 | some z=>.str z
def W3(nm:List Str):Option Str->List Str
 | none=>nm
 | some z=>[z]
def z43(Sh:ShP):Sp:=fun vs H Q _=>∃(x:Addr) (o:Option Str) (fp:List Addr) (nm:List Str) (r:Int) (rows:List Row) (had:List Int),vs=[.ref x,askV o]/\Sh H x fp nm r (fun n=>z13 rows n r) had/\(∀z∈W3 nm o,z∈nm)/\E4 nm/\Rws nm rows/\rows.length≤60/\(∀n∈had,1≤n/\n≤rows.length)/\0≤r/\r≤10/\
 ∀(v:V) (H':Hp),A4 H H'->z9X H' v (z0g had) r (z2z (z1w (z0g had) rows r (W3 nm o)))->Q v H'
theorem y47(ns:List Int)(r:Int):F2 ns r 61 [] [] where
 len:=rfl
 fr:=.nil
 ar:=.nil
 S1:=fun _ h=>(nomatch h)
 cov:=fun d hd=>by
  unfold z10 at hd
  rw[bU,decide_eq_true_eq,z6N,bU] at hd
  have:=(z0y.mp hd.1.1).1
  omega
 mem:=fun _ h=>(nomatch h)
theorem z8A{A0 T0:Addr}{items:Array Value}(M:Bl mg)(T:C7 K mg A0)(F:Q4 K "send_for" "send_for" z73 f fd T0 items)(B8:Cal P w K mg base 2 "held_for" z3q (z4d (ShD K A0)))
  (F0:Cal P w K mg base 5 "state_of" z5r (z7V (ShD K A0))) (B1:D4 P w K mg base 1 A0 "had" z27 (z6a (ShD K A0)))
  (D6:Cal P w K mg base 5 "fewest_numbers" z2J (y11 K)):A5 P w K mg base CX0 6 f fd z3o (z43 (ShD K A0)):=by
 have nd:=z8c.nd
 refine F.ok z8c (fun vs H Q E h=>?_) (fun cdv A outer s H vs Q E hr h=>?_)
 ·obtain⟨x,o,fp,nm,r,rows,had,rfl,_⟩:=h
  rfl
 obtain⟨x,o,fp,nm,r,rows,had,rfl,sh,ho,gn,R,l60,hh,r0,r1,k⟩:=h
 refine⟨_,(z04 (z0l (i:=2) nd rfl (Or.inl rfl) (z9g (z8o (z9C (pv 1))) (z0J (pv 0) rfl) (z1b (z00 (pv 1) z03)))) (z04 (z4X (i:=3) ["one"] ["shelf"] [0] rfl nd rfl (Or.inl rfl) (z0u rfl (by decide +kernel) rfl (by decide +kernel) rfl rfl) (z2I (pv 2)) (fun _ _ _ _ _=>(z0j (i:=0) (show((["one"]:List PySem.Str)++(["shelf"]:List PySem.Str)).Nodup from by decide +kernel) rfl (Or.inl rfl))) (z0x (by decide)) z0d (fun _ _ _ _ _=>(z26 (z0c z2r (z0k F0 (rm hr) rfl (z00 (pv 1) (z00 (pv 0) z03))) (z2d rfl M.OPEN) (z0n _)))) (fun _ _ _ _ _=>(z0K (r:=N5 K) z0U (z0k B8 (rm hr) rfl (z00 (pv 1) (z00 (pv 0) z03))) z06 (fun _ _=>rfl)))) (z04 (z0N (z0c z2r (z0b z0a rfl M.len bP (z00 (pv 3) z03)) z06 (z0n _)) (z05 (z0h (z1b (z00 (z1b z03) (z00 (z1b z03) z03))))) z0p) (z05 (z0h (z0k D6 (rm hr) rfl (z00 (z30 B1 (rm hr) (pv 0)) (z00 (z0J (pv 0) rfl) (z00 (z0b (z7Y rfl) rfl M.min fZ (z00 (pv 3) z03)) z03))))))))),?_⟩
 obtain⟨dx,pn,fs,h1,h3,ln,lr,lm⟩:∃dx pn fs,H x=some (.ins A0 dx fs)/\H pn=some (.tup (nm.map V.str))/\fs.lookup ("names":Str)=some (V.ref pn)/\fs.lookup ("reach":Str)=some (V.int r)/\fs.lookup ("had":Str)=none:=by
  obtain⟨dx,pn,pd,fs,kvs,_,h1,_,h3,_,l1,l2,_,lm,_⟩:=sh
  exact⟨dx,pn,fs,h1,h3,l1,l2,lm _ (by simp)⟩
 have h60:∀n∈z0g had,1≤n/\n≤60:=fun n hn=>by have:=hh n (z1n.mp hn).2;omega
 have n12:=gn.hi
 have la:(W3 nm o).length≤12:=by
  cases o with
  | none=>exact n12
  | some z=>show 1≤12;decide
 have asked:∀(Qk:VK),(∀(ta:Addr) (H1:Hp),A4 H H1->H1 ta=some (.tup ((W3 nm o).map V.str))->Qk (.ref ta) H1)->tIf (tB (w0b (S5 1))) (w01 K (S5 0) "names") (tTup (y5L (S5 1) V2)) (z4g ["shelf","name","asked","held_from"] [.ref x,askV o]) H Qk:=fun Qk hq=>by
  cases o with
  | none=>exact⟨_,rfl,_,rfl,N0 ⟨_,rfl,x,A0,dx,fs,_,rfl,h1,T.cl,T.n_names,ln,hq pn H (A4.refl _) h3⟩⟩
  | some z=>exact⟨_,rfl,_,rfl,C6 ⟨_,rfl,(by show 1≤sizeLine;decide),fun t ht=>hq t _ (z01 ht _) z02⟩⟩
 refine asked _ fun ta H1 s1 e1=>?_
 generalize hAs:W3 nm o=as at *
 clear asked
 have sh1:=F3.same sh s1
 refine⟨_,rfl,ta,rfl,⟨_,SqT.of e1⟩,?_⟩
 refine z1O (xs:=as.map V.str) (fun i ys H'=>A4 H1 H'/\ys=(z1w (z0g had) rows r (as.take i)).map V.int) ⟨A4.refl _,rfl⟩ (fun i ys H' hi hp=>?_) (fun i y ys H' hy hp=>?_) (fun ys H' hp=>?_)
 ·obtain⟨g,rfl⟩:=hp
  refine⟨SqT.of (g _ _ e1),z0f ?_⟩
  unfold z1w
  rw[b8,b8]
  have h1:=cF (fun z=>decide (z0B (z0g had) rows r (z0I (z0w (z0g had) rows z)) z="open")) (as.take i)
  rw[bO] at h1
  omega
 ·obtain⟨g,rfl⟩:=hp
  rw[bG] at hy
  obtain⟨z,ez,rfl⟩:=cE.mp hy
  have hz:=ho z (bR ez)
  have sh2:=F3.same sh1 g
  refine⟨_,rfl,_,rfl,x,z,fp,nm,r,rows,had,rfl,sh2,hz,gn,R,l60,hh,r0,r1,fun H2 s2=>⟨rfl,_,rfl,?_⟩⟩
  rw[z0r ez,y2n]
  refine A9 (fun c=>?_) (fun c=>?_)
  ·have c':z0B (z0g had) rows r (z0I (z0w (z0g had) rows z)) z="open":=V.str.inj (z0F c)
   rw[if_pos c',bE]
   refine⟨_,rfl,_,rfl,x,z,fp,nm,r,rows,had,rfl,F3.same sh2 s2,hz,gn,R,fun v H3 s3 tv=>?_⟩
   obtain⟨b,y,rfl,eb,_⟩:=z5q tv
   exact⟨b,_,_,_,rfl,rfl,SqT.of eb,z11 rfl,g.trans (s2.trans s3),rfl⟩
  ·have c':¬z0B (z0g had) rows r (z0I (z0w (z0g had) rows z)) z="open":=fun e=>c (decide_eq_true (congrArg V.str e))
   rw[if_neg c',cU]
   exact⟨g.trans s2,rfl⟩
 ·obtain⟨g,rfl⟩:=hp
  rw[b8,bV]
  intro D hD
  have eD:upd H' D (.lst ((z1w (z0g had) rows r as).map V.int)) D=some (.lst ((z1w (z0g had) rows r as).map V.int)):=z02
  have s2:=s1.trans (g.trans (z01 hD (.lst ((z1w (z0g had) rows r as).map V.int))))
  generalize upd H' D (.lst ((z1w (z0g had) rows r as).map V.int))=H2 at eD s2
  refine⟨_,rfl,D,_,rfl,.inl (SqL.of eD),rfl,_,rfl,?_⟩
  rw[b8]
  refine A9 (fun c=>?_) (fun c=>?_)
  ·have c0:z1w (z0g had) rows r as=[]:=fN.mp (by have:=z0F c;injection this with this;omega)
   refine⟨(by show 0≤sizeLine;decide),fun t1 ht1=>⟨(by show 0≤sizeLine;decide),fun t2 ht2=>⟨(by show 2≤sizeLine;decide),fun t ht=>?_⟩⟩⟩
   refine k _ _ (s2.trans ((z01 ht1 _).trans ((z01 ht2 _).trans (z01 ht _)))) ⟨t,t1,t2,[],[],rfl,z02,z01 ht _ _ _ (z01 ht2 _ _ _ z02),z01 ht _ _ _ z02,?_⟩
   rw[c0]
   exact y47 _ _
  ·have c0:z1w (z0g had) rows r as≠[]:=fun e=>c (by rw[e];rfl)
   have sh2:=F3.same sh s2
   refine⟨_,rfl,x,dx,fs,rfl,s2 _ _ h1,lm,x,fp,nm,r,_,had,rfl,sh2,fun l H3 s3 e3=>?_⟩
   refine⟨_,rfl,x,A0,dx,fs,_,rfl,s3 _ _ (s2 _ _ h1),T.cl,T.n_reach,lr,_,rfl,D,_,rfl,.inl (SqL.of (s3 _ _ eD)),c0,fun m hm hl=>?_⟩
   have em:z2z (z1w (z0g had) rows r as)=m:=by
    refine y13 (.inr hm) ?_ hl
    unfold z1w at hm
    obtain⟨z,_,rfl⟩:=cB.mp hm
    have:=y5h (rows:=rows) (z:=z) fun n hn=>(h60 n hn).2
    omega
   refine⟨l,z0g had,r,m,rfl,.inr (SqT.of e3),h60,cO (z2S had) (by decide),r0,fun v H4 s4 p4=>?_⟩
   exact k v H4 (s2.trans (s3.trans s4)) (by rw[em];exact p4)
def z4u(hs:List Int)(r:Int)(rl rows:List Row):Prop:=(∀n∈hs,z0z rl n=z0z rows n)/\∀n,1≤n->(∃y∈hs,n<y)->z0E hs n r≠0->z1F (z0z rl n)=z1F (z0z rows n)
theorem z4u.refl(hs:List Int)(r:Int)(rows:List Row):z4u hs r rows rows:=⟨fun _ _=>rfl,fun _ _ _ _=>rfl⟩
theorem y5c{rl rows:List Row}{z:Str}:∀(ms:List Int),(∀n∈ms,z0z rl n=z0z rows n)->z0w ms rl z=z0w ms rows z:=by
 have go:∀(ms:List Int) (acc:Option (Int×Int)),(∀n∈ms,z0z rl n=z0z rows n)->ms.foldl (fun acc n=>match D3 (z0z rl n) z with|some v=>some (n,v)|none=>acc) acc=ms.foldl (fun acc n=>match D3 (z0z rows n) z with|some v=>some (n,v)|none=>acc) acc:=by
  intro ms
  induction ms with
  | nil=>intro acc _;rfl
  | cons n t ih=>
   intro acc h
   rw[cS,cS,h n bQ]
   exact ih _ fun k hk=>h k (bL _ hk)
 exact fun ms h=>go ms none h
theorem z4u.again{hs:List Int}{r:Int}{rl rows:List Row}(h:z4u hs r rl rows)(num:Int)(z:Str):z1S hs rl r num z=z1S hs rows r num z:=by
 unfold z1S
 refine List.filter_congr fun n hn=>?_
 obtain⟨⟨a,_⟩,_,y,hy,b⟩:=z0y.mp hn
 have:z1I hs rl r n=z1I hs rows r n:=by
  unfold z1I
  by_cases c:z0E hs n r=0
  ·rw[if_pos c,if_pos c]
  ·rw[if_neg c,if_neg c,h.2 n a ⟨y,hy,b⟩ c]
 rw[this]
theorem z4u.state{hs:List Int}{r:Int}{rl rows:List Row}(h:z4u hs r rl rows)(num:Int)(z:Str):z0B hs rl r num z=z0B hs rows r num z:=by
 unfold z0B
 rw[h.again]
theorem z4t{l ms:List Int}(h1:l.Pairwise (· < ·))(h2:∀x∈l,1≤x/\x≤60)(e:∀x,x∈ms↔x∈l):z0g ms=l:=z2f (z1T _) h1 fun x=>y2N e h2 x
theorem y06{ns:List Int}{rows:List Row}{r num:Int}{z:Str}(h:z0B ns rows r num z="open"):∃n∈z2v ns r,num<n:=by
 unfold z0B at h
 split at h
 ·exact absurd h (by decide)
 ·split at h
  ·exact absurd h (by decide)
  ·rename_i c
   refine cY fun q=>c (z6F.mpr fun n hn=>?_)
   exact Int.not_lt.mp fun z=>q ⟨n,hn,z⟩
theorem y0X{hs ht:List Int}{n r:Int}(sub:∀x∈hs,x∈ht)(h60:∀x∈ht,1≤x/\x≤60)(h:z0E hs n r≠0):z0E ht n r≠0:=fun e=>h (z3x fun y hy=>z4o h60 e y (sub y hy))
theorem y2s{hs ht:List Int}{rows:List Row}{z:Str}(p1:hs.Pairwise (· < ·))(p2:ht.Pairwise (· < ·))(h60:∀x∈ht,1≤x)(sub:∀x∈hs,x∈ht):z0I (z0w hs rows z)≤z0I (z0w ht rows z):=by
 rcases z1o (rows:=rows) (z:=z) ht p2 with ⟨q1,q2⟩|⟨n,v,q1,q2,q3,q4⟩
 ·rcases z1o (rows:=rows) (z:=z) hs p1 with ⟨e1,_⟩|⟨n',v',e1,e2,e3,_⟩
  ·rw[q1,e1]
   exact dN _
  ·rw[q2 n' (sub n' e2)] at e3
   cases e3
 ·rw[q1]
  show _≤n
  rcases z1o (rows:=rows) (z:=z) hs p1 with ⟨e1,_⟩|⟨n',v',e1,e2,e3,_⟩
  ·rw[e1]
   show(0:Int)≤n
   have:=h60 n q2
   omega
  ·rw[e1]
   show n'≤n
   rcases jM n n' with g|g
   ·rw[q4 n' (sub n' e2) g] at e3
    cases e3
   ·exact g
theorem y3O{l1 l2:List Int}(n1:l1.Nodup)(sub:∀x∈l1,x∈l2)(len:l2.length≤l1.length):∀x∈l2,x∈l1:=fun x hx=>cY fun c=>by
 have:=y04 (l1:=x::l1) (l2:=l2) (cV.mpr ⟨c,n1⟩) fun y hy=>by
  rcases bB.mp hy with rfl|hy
  ·exact hx
  ·exact sub y hy
 rw[bZ] at this
 omega
theorem y3V{hs:List Int}{r b:Int}{fs as:List Int}(k:F2 hs r b fs as):∀x∈fs,b<x:=by
 have pick:∀a∈as,∃x∈fs,a≤x/\x≤a+r:=fun a ha=>k.cov a (k.mem a ha)
 let g:Int->Int:=fun a=>(fs.find? fun x=>decide (a≤x) && decide (x≤a+r)).getD 0
 have hg:∀a∈as,g a∈fs/\a≤g a/\g a≤a+r:=fun a ha=>by
  show(fs.find? _).getD 0∈fs/\a≤(fs.find? _).getD 0/\(fs.find? _).getD 0≤a+r
  cases e:fs.find? fun x=>decide (a≤x) && decide (x≤a+r) with
  | none=>
   obtain⟨x,hx,h1,h2⟩:=pick a ha
   have:=fS.mp e x hx
   rw[decide_eq_true h1,decide_eq_true h2] at this
   exact absurd rfl this
  | some x=>
   have h1:=j6 e
   have h2:=e9 e
   rw[bS,decide_eq_true_eq,decide_eq_true_eq] at h1
   exact⟨h2,h1⟩
 clear_value g
 have inc:∀(l:List Int),l.Pairwise (fun x y=>x+r<y)->(∀a∈l,g a∈fs/\a≤g a/\g a≤a+r)->(l.map g).Pairwise (· < ·):=by
  intro l
  induction l with
  | nil=>intro _ _;exact .nil
  | cons a l ih=>
   intro p h
   rw[dS] at p
   rw[cG,dS]
   refine⟨fun y hy=>?_,ih p.2 fun a ha=>h a (bL _ ha)⟩
   obtain⟨a',ha',rfl⟩:=cB.mp hy
   have h1:=p.1 a' ha'
   have h2:=(h a bQ).2.2
   have h3:=(h a' (bL _ ha')).2.1
   omega
 have nd:(as.map g).Nodup:=(inc as k.ar hg).imp fun h=>gN h
 intro x hx
 obtain⟨a,ha,rfl⟩:=cB.mp (y3O nd (fun y hy=>by obtain⟨a,ha,rfl⟩:=cB.mp hy;exact(hg a ha).1) (by rw[b8,k.len];exact bC _) x hx)
 have h1:=(hg a ha).2.1
 have h2:=k.mem a ha
 unfold z10 at h2
 rw[bU,decide_eq_true_eq] at h2
 omega
theorem y4v{l:List Int}:∀{x:Int},x∈l->z2z l≤x:=by
 have go:∀(l:List Int) (a:Int),l.foldl min a≤a/\∀x∈l,l.foldl min a≤x:=by
  intro l
  induction l with
  | nil=>intro a;exact⟨dN _,fun x h=>nomatch h⟩
  | cons y l ih=>
   intro a
   rw[cS]
   obtain⟨h1,h2⟩:=ih (min a y)
   refine⟨by omega,fun x hx=>?_⟩
   rcases bB.mp hx with rfl|hx
   ·omega
   ·exact h2 x hx
 exact fun {x} hx=>(go l 61).2 x hx
theorem z8j{hs:List Int}{rows:List Row}{r:Int}{nm:List Str}{z:Str}(hz:z∈nm)(h:z0B hs rows r (z0I (z0w hs rows z)) z="open"):z2z (z1w hs rows r nm)≤z0I (z0w hs rows z):=by
 refine y4v ?_
 unfold z1w
 exact cB.mpr ⟨z,bU.mpr ⟨hz,decide_eq_true h⟩,rfl⟩
theorem y30{hs:List Int}{rows:List Row}{r:Int}{nm:List Str}{z:Str}{fs as:List Int}(k:F2 hs r (z2z (z1w hs rows r nm)) fs as)(hz:z∈nm)(h:z0B hs rows r (z0I (z0w hs rows z)) z="open"):fs≠[]:=fun e=>by
 obtain⟨n,hn,hl⟩:=y06 h
 have:=z8j hz h
 obtain⟨x,hx,_⟩:=k.cov n (by
  unfold z10
  rw[bU,decide_eq_true_eq]
  exact⟨hn,by omega⟩)
 rw[e] at hx
 cases hx
theorem y1U{hs ht:List Int}{rows:List Row}{r:Int}{nm:List Str}{fs as:List Int}{m:Nat}{z:Str}(k:F2 hs r (z2z (z1w hs rows r nm)) fs as)(p1:hs.Pairwise (· < ·))(p2:ht.Pairwise (· < ·))(mem:∀n,n∈ht↔n∈hs\/n∈fs)(h60:∀x∈ht,1≤x/\x≤60)(it:y7k hs m)(hz:z∈nm) :
  z0B ht rows r (z0I (z0w ht rows z)) z≠"open":=fun ho=>by
 have sub:∀x∈hs,x∈ht:=fun x hx=>(mem x).mpr (.inl hx)
 have over:=y3V k
 have mono:=y2s (rows:=rows) (z:=z) p1 p2 (fun x hx=>(h60 x hx).1) sub
 obtain⟨d,hd,hl⟩:=y06 ho
 rw[z1L,z0y] at hd
 obtain⟨⟨⟨d1,d2⟩,d3,y,hy,d4⟩,d5⟩:=hd
 have d0:z0E hs d r=0:=cY fun c=>y0X sub h60 c d5
 have ym:y≤(m:Int):=by
  rcases(mem y).mp hy with h|h
  ·exact it.2 y h
  ·obtain⟨_,_,y',hy',h'⟩:=z0y.mp (k.S1 y h)
   have:=it.2 y' hy'
   omega
 have dl:d∈z0W hs:=by
  refine z0y.mpr ⟨⟨d1,d2⟩,fun h=>d3 (sub d h),?_⟩
  rcases it.1 with h|⟨h,h'⟩
  ·exact⟨m,h,by omega⟩
  ·omega
 have dk:d∈z2v hs r:=z1L.mpr ⟨dl,d0⟩
 have dle:d≤z2z (z1w hs rows r nm):=cY fun c=>by
  obtain⟨x,hx,x1,x2⟩:=k.cov d (by
   unfold z10
   rw[bU,decide_eq_true_eq]
   exact⟨dk,by omega⟩)
  have xt:=(mem x).mpr (.inr hx)
  have:x≠d:=fun e=>d3 (e ▸ xt)
  exact absurd (by omega) (z4o h60 d5 x xt (by omega))
 have ndk:z1P hs r (z0I (z0w hs rows z))≠[]:=fun e=>by
  have:d∈z1P hs r (z0I (z0w hs rows z)):=by
   unfold z1P
   rw[bU,bS,decide_eq_true_eq,decide_eq_true_eq]
   exact⟨dl,by omega,d0⟩
  rw[e] at this
  cases this
 by_cases st:0<(z1S hs rows r (z0I (z0w hs rows z)) z).length
 ·obtain⟨n,hn⟩:=List.exists_mem_of_ne_nil _ (fK.mp st)
  unfold z1S at hn
  rw[bU,bS,decide_eq_true_eq,decide_eq_true_eq] at hn
  obtain⟨nl,n1,n2⟩:=hn
  have nt:z0E hs n r≠0:=fun e=>by
   unfold z1I at n2
   rw[if_pos e] at n2
   cases n2
  have nz:z∈z1F (z0z rows n):=by
   unfold z1I at n2
   rw[if_neg nt] at n2
   exact n2
  obtain⟨⟨na,nb⟩,nc,yn,hyn,nlt⟩:=z0y.mp nl
  have key:z0I (z0w ht rows z)<n->False:=fun hlt=>by
   by_cases nin:n∈ht
   ·obtain⟨v,ev⟩:=y5o nz
    rcases z1o (rows:=rows) (z:=z) ht p2 with ⟨_,q2⟩|⟨n',v',q1,q2,q3,q4⟩
    ·rw[q2 n nin] at ev
     cases ev
    ·rw[q1] at hlt
     rw[q4 n nin hlt] at ev
     cases ev
   ·have:n∈z1S ht rows r (z0I (z0w ht rows z)) z:=by
     unfold z1S
     rw[bU,bS,decide_eq_true_eq,decide_eq_true_eq]
     refine⟨z0y.mpr ⟨⟨na,nb⟩,nin,yn,sub yn hyn,nlt⟩,hlt,?_⟩
     unfold z1I
     rw[if_neg (y0X sub h60 nt)]
     exact nz
    have pos:0<(z1S ht rows r (z0I (z0w ht rows z)) z).length:=fK.mpr fun e=>by rw[e] at this;cases this
    unfold z0B at ho
    rw[if_pos pos] at ho
    exact absurd ho (by decide)
  have hge:n≤z0I (z0w ht rows z):=by
   rcases jM (z0I (z0w ht rows z)) n with g|g
   ·exact(key g).elim
   ·exact g
  rcases z1o (rows:=rows) (z:=z) ht p2 with ⟨q1,_⟩|⟨n',v',q1,q2,q3,q4⟩
  ·rw[q1] at hge
   have:n≤0:=hge
   omega
  ·rw[q1] at hge hl
   have hge':n≤n':=hge
   have hl':n'<d:=hl
   rcases(mem n').mp q2 with h|h
   ·rcases z1o (rows:=rows) (z:=z) hs p1 with ⟨_,e2⟩|⟨n3,v3,e1,e2,e3,e4⟩
    ·rw[e2 n' h] at q3
     cases q3
    ·rw[e1] at n1
     have n1':n3<n:=n1
     rw[e4 n' h (by omega)] at q3
     cases q3
   ·have:=over n' h
    omega
 ·have op:z0B hs rows r (z0I (z0w hs rows z)) z="open":=by
   unfold z0B
   rw[if_neg st,if_neg ndk]
  have:=z8j hz op
  omega
def hvV:Option (Int×Int)->V
 | none=>.non
 | some p=>.int p.2
def X9(ns:List Int)(rows:List Row)(r:Int)(z:Str):List V:=[.str z,.str (z0B ns rows r (z0I (z0w (z0g ns) rows z)) z),.int (z0I (z0w (z0g ns) rows z)),hvV (z0w (z0g ns) rows z)]
theorem y3L{H:Hp}{nm:List Str}{ns:List Int}{rows:List Row}{r:Int}{v:V}(h:A7 H (y1l nm ns rows r) v):∃(a:Addr) (xs:List V),v=.ref a/\H a=some (.tup xs)/\xs.length=nm.length/\
  ∀(k:Nat) (z:Str),nm[k]? = some z->∃(b:Addr),xs[k]? = some (.ref b)/\H b=some (.tup (X9 ns rows r z)):=by
 obtain⟨a,xs,rfl,ha,_,ta⟩:=z0q h
 refine⟨a,xs,rfl,ha,by rw[ta.length,b8],fun k z hz=>?_⟩
 obtain⟨x,ex,tx⟩:=ta.get k (V6 ns rows r z) (by rw[bG,hz];rfl)
 obtain⟨b,us,rfl,eb,_,tb⟩:=z0q tx
 obtain⟨y1,r1,rfl,t1,tb⟩:=z09 tb
 obtain⟨y2,r2,rfl,t2,tb⟩:=z09 tb
 obtain⟨y3,r3,rfl,t3,tb⟩:=z09 tb
 obtain⟨y4,r4,rfl,t4,tb⟩:=z09 tb
 have:=z0G tb
 subst this
 have e4:y4=hvV (z0w (z0g ns) rows z):=by
  cases e:z0w (z0g ns) rows z with
  | none=>
   rw[e] at t4
   unfold y39 A7 at t4
   exact t4
  | some p=>
   rw[e] at t4
   exact z0S t4
 rw[z2i t1,z2i t2,z0S t3,e4] at eb
 exact⟨b,ex,eb⟩
theorem z4u.w0Y{hs:List Int}{r:Int}{rl rows:List Row}(h:z4u hs r rl rows)(as:List Str):z1w hs rl r as=z1w hs rows r as:=by
 unfold My.z1w
 have e:∀z,z0w hs rl z=z0w hs rows z:=fun z=>y5c hs h.1
 have e2:(fun z=>decide (z0B hs rl r (z0I (z0w hs rl z)) z="open"))=fun z=>decide (z0B hs rows r (z0I (z0w hs rows z)) z="open"):=by
  funext z
  rw[e,h.state]
 rw[e2]
 refine gG fun z _=>?_
 rw[e]
theorem y4V{l:List Int}:z2z l=61\/z2z l∈l:=by
 have go:∀(l:List Int) (a:Int),l.foldl min a=a\/l.foldl min a∈l:=by
  intro l
  induction l with
  | nil=>intro a;exact .inl rfl
  | cons y l ih=>
   intro a
   rw[cS]
   rcases ih (min a y) with h|h
   ·rw[h]
    rcases Int.le_total a y with g|g
    ·exact .inl (by omega)
    ·refine .inr ?_
     rw[show min a y=y by omega]
     exact bQ
   ·exact .inr (bL _ h)
 exact go l 61
theorem y4K{as F:List Int}{r:Int}(ar:as.Pairwise fun x y=>x+r<y)(len:F.length<as.length):∃a∈as,∀x∈F,¬(a≤x/\x≤a+r):=cY fun c=>by
 have pick:∀a∈as,∃x∈F,a≤x/\x≤a+r:=fun a ha=>cY fun h=>c ⟨a,ha,fun x hx hh=>h ⟨x,hx,hh⟩⟩
 let g:Int->Int:=fun a=>(F.find? fun x=>decide (a≤x) && decide (x≤a+r)).getD 0
 have hg:∀a∈as,g a∈F/\a≤g a/\g a≤a+r:=fun a ha=>by
  show(F.find? _).getD 0∈F/\a≤(F.find? _).getD 0/\(F.find? _).getD 0≤a+r
  cases e:F.find? fun x=>decide (a≤x) && decide (x≤a+r) with
  | none=>
   obtain⟨x,hx,h1,h2⟩:=pick a ha
   have:=fS.mp e x hx
   rw[decide_eq_true h1,decide_eq_true h2] at this
   exact absurd rfl this
  | some x=>
   have h1:=j6 e
   have h2:=e9 e
   rw[bS,decide_eq_true_eq,decide_eq_true_eq] at h1
   exact⟨h2,h1⟩
 clear_value g
 have inc:∀(l:List Int),l.Pairwise (fun x y=>x+r<y)->(∀a∈l,g a∈F/\a≤g a/\g a≤a+r)->(l.map g).Pairwise (· < ·):=by
  intro l
  induction l with
  | nil=>intro _ _;exact .nil
  | cons a l ih=>
   intro p h
   rw[dS] at p
   rw[cG,dS]
   refine⟨fun y hy=>?_,ih p.2 fun a ha=>h a (bL _ ha)⟩
   obtain⟨a',ha',rfl⟩:=cB.mp hy
   have h1:=p.1 a' ha'
   have h2:=(h a bQ).2.2
   have h3:=(h a' (bL _ ha')).2.1
   omega
 have nd:(as.map g).Nodup:=(inc as ar hg).imp fun h=>gN h
 have:=y04 nd (l2:=F) fun y hy=>by
  obtain⟨a,ha,rfl⟩:=cB.mp hy
  exact(hg a ha).1
 rw[b8] at this
 omega
theorem y2t{hs ht F:List Int}{rows B9:List Row}{r:Int}{nm:List Str}{fs as:List Int}(k:F2 hs r (z2z (z1w hs rows r nm)) fs as)(p1:hs.Pairwise (· < ·))(p2:ht.Pairwise (· < ·))(r0:0≤r)(mem:∀n,n∈ht↔n∈hs\/n∈F)(h60:∀x∈ht,1≤x/\x≤60)
  (ag:z4u hs r rows B9) (dk:∀n∈z2v hs r,z0z B9 n=[]) (Z0:∀n∈F,n∈z0W hs) (len:F.length<fs.length):∃z∈nm,z0B ht B9 r (z0I (z0w ht B9 z)) z="open":=by
 obtain⟨a,ha,free⟩:=y4K (F:=F) k.ar (by rw[<- k.len];exact len)
 have hb:=k.mem a ha
 unfold z10 at hb
 rw[bU,decide_eq_true_eq] at hb
 obtain⟨ad,ab⟩:=hb
 obtain⟨al,a0⟩:=z1L.mp ad
 obtain⟨⟨a1,a2⟩,a3,y,hy,a4⟩:=z0y.mp al
 have sub:∀x∈hs,x∈ht:=fun x hx=>(mem x).mpr (.inl hx)
 have hs60:∀x∈hs,1≤x/\x≤60:=fun x hx=>h60 x (sub x hx)
 obtain⟨z,hz,zo,zb⟩:∃z∈nm,z0B hs rows r (z0I (z0w hs rows z)) z="open"/\z0I (z0w hs rows z)=z2z (z1w hs rows r nm):=by
  rcases y4V (l:=z1w hs rows r nm) with h|h
  ·omega
  ·unfold z1w at h
   obtain⟨z,h1,h2⟩:=cB.mp h
   rw[bU,decide_eq_true_eq] at h1
   exact⟨z,h1.1,h1.2,h2⟩
 have nag:z1S hs rows r (z0I (z0w hs rows z)) z=[]:=by
  unfold z0B at zo
  split at zo
  ·exact absurd zo (by decide)
  ·rename_i c
   exact fN.mp (by omega)
 have quiet:∀n,n∈z0W hs->z0I (z0w hs rows z)<n->z∉z1F (z0z B9 n):=fun n hn hl hz2=>by
  by_cases c:z0E hs n r=0
  ·rw[dk n (z1L.mpr ⟨hn,c⟩)] at hz2
   cases hz2
  ·obtain⟨⟨n1,_⟩,_,y',hy',n2⟩:=z0y.mp hn
   rw[<- ag.2 n n1 ⟨y',hy',n2⟩ c] at hz2
   have:n∈z1S hs rows r (z0I (z0w hs rows z)) z:=by
    unfold z1S z1I
    rw[bU,bS,decide_eq_true_eq,decide_eq_true_eq,if_neg c]
    exact⟨hn,hl,hz2⟩
   rw[nag] at this
   cases this
 have U8:∀n∈ht,z0I (z0w hs rows z)<n->D3 (z0z B9 n) z=none:=fun n hn hl=>by
  cases ev:D3 (z0z B9 n) z with
  | none=>rfl
  | some v=>
   rcases(mem n).mp hn with h|h
   ·rw[<- ag.1 n h] at ev
    rcases z1o (rows:=rows) (z:=z) hs p1 with ⟨_,q⟩|⟨n',u',q1,q2,q3,q4⟩
    ·rw[q n h] at ev
     cases ev
    ·rw[q1] at hl
     rw[q4 n h hl] at ev
     cases ev
   ·exact absurd (y4I (by rw[ev];exact fun e=>by cases e)) (quiet n (Z0 n h) hl)
 have same:z0w ht B9 z=z0w hs rows z:=by
  rcases z1o (rows:=rows) (z:=z) hs p1 with ⟨q1,_⟩|⟨n,u,q1,q2,q3,q4⟩
  ·rw[q1] at U8 ⊢
   rcases z1o (rows:=B9) (z:=z) ht p2 with ⟨e1,_⟩|⟨n',u',e1,e2,e3,e4⟩
   ·exact e1
   ·rw[U8 n' e2 (by show(0:Int)<n';have:=h60 n' e2;omega)] at e3
    cases e3
  ·rw[q1] at U8 ⊢
   rcases z1o (rows:=B9) (z:=z) ht p2 with ⟨_,e2⟩|⟨n',u',e1,e2,e3,e4⟩
   ·rw[ag.1 n q2,e2 n (sub n q2)] at q3
    cases q3
   ·have q3':=q3
    rw[ag.1 n q2] at q3'
    rcases Int.lt_trichotomy n n' with g|g|g
    ·rw[U8 n' e2 g] at e3
     cases e3
    ·subst g
     rw[q3'] at e3
     cases e3
     exact e1
    ·rw[e4 n (sub n q2) g] at q3'
     cases q3'
 refine⟨z,hz,?_⟩
 rw[same]
 have na2:z1S ht B9 r (z0I (z0w hs rows z)) z=[]:=List.eq_nil_iff_forall_not_mem.mpr fun n hn=>by
  unfold z1S at hn
  rw[bU,bS,decide_eq_true_eq,decide_eq_true_eq] at hn
  obtain⟨nl,n1,n2⟩:=hn
  obtain⟨⟨q1,q2⟩,q3,y',hy',q4⟩:=z0y.mp nl
  have nlh:n∈z0W hs:=by
   refine z0y.mpr ⟨⟨q1,q2⟩,fun h=>q3 (sub n h),?_⟩
   rcases(mem y').mp hy' with h|h
   ·exact⟨y',h,q4⟩
   ·obtain⟨_,_,y2,hy2,q5⟩:=z0y.mp (Z0 y' h)
    exact⟨y2,hy2,by omega⟩
  refine absurd ?_ (quiet n nlh n1)
  unfold z1I at n2
  split at n2
  ·cases n2
  ·exact n2
 have adk:a∈z1P ht r (z0I (z0w hs rows z)):=by
  unfold z1P
  rw[bU,bS,decide_eq_true_eq,decide_eq_true_eq]
  refine⟨z0y.mpr ⟨⟨a1,a2⟩,fun h=>?_,y,sub y hy,a4⟩,by omega,z3x fun x hx hl hle=>?_⟩
  ·rcases(mem a).mp h with h|h
   ·exact a3 h
   ·exact free a h ⟨dN _,by omega⟩
  ·rcases(mem x).mp hx with h|h
   ·exact z4o hs60 a0 x h hl hle
   ·exact free x h ⟨by omega,by omega⟩
 unfold z0B
 rw[na2,if_neg (by decide),if_neg (fun e=>by rw[e] at adk;cases adk)]
theorem y77{nm:List Str}{rows:List Row}{w:Row}(R:Rws nm rows)(nd:nm.Nodup)(hw:w∈rows):GoodR nm w/\z1f nm w=w:=by
 have sb:=R.sub w hw
 exact⟨⟨sb.nodup nd,fun p hp=>sb.subset (gF hp),fun p hp=>R.val w hw p hp⟩,z57 nd sb⟩
def y6g(H:Hp)(vs:List V)(nm:List Str)(r:Int)(rows:List Row)(gs:List Int):Prop:=∃(ln lr lg:Addr) (us:List V),vs=[.ref ln,.int r,.ref lr,.ref lg]/\H ln=some (.lst (nm.map V.str))/\E4 nm/\H lr=some (.lst us)/\z08 H (rows.map K4) us/\rows.length≤60/\Rws nm rows/\H lg=some (.lst (gs.map V.int))/\(∀n∈gs,1≤n/\n≤(rows.length:Int))/\gs.length≤300/\0≤r/\r≤10
def y3r(Sh:ShP):Sp:=fun vs H Q _=>∃(nm:List Str) (r:Int) (rows:List Row) (gs:List Int),y6g H vs nm r rows gs/\
 ∀(x:Addr) (fq:List Addr) (had:List Int) (H':Hp),A4 H H'->Sh H' x fq nm r (fun n=>z13 rows n r) had->(∀n,n∈had↔n∈gs)->Q (.ref x) H'
theorem y6A(M:Bl mg)(F:Fun K "_law_bulletin" "_law_bulletin" z3n f fd){A3 A0:Addr}{Bk:BkP}{Sh:ShP}(O:V5 A3 ["write","deliver","latest","issue","deeds","deed","shelf"] Bk)(OS:S4 A0 ["put","had","latest"] Sh)
  (W2:Mkr P w K mg base 8 A3 "Book" z3i (y10 K A3 Bk)) (L4:D4 P w K mg base 8 A3 "write" z5c (y0f K Bk)) (J3:D4 P w K mg base 8 A3 "deliver" z3L (z7C Bk))
  (K2:L3 P w K mg base 8 A3 "shelf" z2T (z5G Bk Sh) [V.non]):A5 P w K mg base CX0 10 f fd z2g (y3r Sh):=by
 have nd:=z45.nd
 refine F.ok z45 (fun vs H Q E h=>?_) (fun cdv A outer s H vs Q E hr h=>?_)
 ·obtain⟨nm,r,rows,gs,⟨ln,lr,lg,us,rfl,_⟩,_⟩:=h
  rfl
 obtain⟨nm,r,rows,gs,⟨ln,lr,lg,us,rfl,eN,gn,eR,tl,r60,R,eG,gin,gl,r0,r10⟩,q⟩:=h
 refine⟨_,(z04 (z0l (i:=4) nd rfl (Or.inl rfl) (y2w W2 (rm hr) rfl (z00 (z0o z1v rfl M.list dD (z00 (pv 0) z03)) (z00 (pv 1) (z00 z06 z03))))) (z04 (z1h cC rfl (z18 (pv 2)) (z0j (i:=5) nd rfl (Or.inl rfl)) (z05 (z0C (z2b L4 (rm hr) (pv 4) (z00 (z0o z1v rfl M.list dD (z00 (pv 5) z03)) z03))))) (z04 (z1h cC rfl (z18 (pv 3)) (z0j (i:=6) nd rfl (Or.inl rfl)) (z05 (z0C (z2b J3 (rm hr) (pv 4) (z00 z06 (z00 (pv 6) z03)))))) (z05 (z0h (y5z K2 (rm hr) (pv 4) (z00 z06 z03))))))),?_⟩
 have n12:=gn.hi
 have lus:us.length=rows.length:=by rw[tl.length,b8]
 refine⟨_,rfl,ln,nm.map V.str,rfl,.inl (SqL.of eN),fun l1 hl1=>⟨_,rfl,fun x dx nx ndx ne=>?_⟩⟩
 have mm1:=z80 (C:=A3) (z01 hl1 (.lst (nm.map V.str))) nx ndx
 refine⟨x,dx,l1,nm,r,1,rfl,z02,ne,by rw[z0e ne,z02],.inl (SqL.of (z9x nx ndx z02)),gn,r0,r10,by decide,by decide,fun fp H5 hfp b5 bk5=>⟨rfl,?_⟩⟩
 have s5:A4 H H5:=z76 b5 mm1 ((z01 hl1 _).free nx)
 have f5:∀b∈fp,H b=none:=fun b hb=>z69 mm1 ((z01 hl1 _).free nx) ((z01 hl1 _).free ndx) (hfp b hb)
 clear mm1 b5 hfp
 refine⟨_,rfl,lr,rfl,⟨_,SqL.of (s5 _ _ eR)⟩,z1m (K:=K) (a:=lr) (xs:=us) (fun i σ G=>∃(fp':List Addr) (o:Option V),A4 H G/\Bk G x fp' nm r 1 (rows.take i) (L9 i)/\(∀b∈fp',H b=none)/\
   σ=[some (.ref ln),some (.int r),some (.ref lr),some (.ref lg),some (.ref x),o,none]) ⟨fp,none,s5,bk5,f5,rfl⟩ (fun i σ G _ ⟨_,_,g,_⟩=>SqL.of (g _ _ eR)) ?_ ?_⟩
 ·rintro i u σ G hi ⟨fp',o,g,bk,ff,rfl⟩
  obtain⟨d,ed,td⟩:=(z08.keep g _ _ tl).at i u hi
  rw[bG] at ed
  obtain⟨wr,ew,rfl⟩:=cE.mp ed
  have hw:=bR ew
  have hi':i<rows.length:=(cD.mp ew).1
  obtain⟨ar,xs,rfl,er,_,tp⟩:=z0q td
  obtain⟨d2,g2,z2,w2⟩:=O.ins bk
  refine⟨_,rfl,x,d2,g2,rfl,z2,w2 _ (by simp),_,rfl,ar,xs,rfl,.inr (SqT.of er),fun l hl=>?_⟩
  have sl:=z01 hl (.lst xs)
  have el:upd G l (.lst xs) l=some (.lst xs):=z02
  have nl:l∉fp':=fun m=>by
   obtain⟨o,e,_⟩:=O.own bk l m
   rw[hl] at e
   cases e
  have bk':=O.same bk sl
  have hts:=y19 (z08.keep sl _ _ tp)
  generalize upd G l (.lst xs)=G1 at sl el bk' hts
  obtain⟨good,ino⟩:=y77 R gn.nd hw
  have lti:(rows.take i).length=i:=by rw[bO];omega
  refine⟨x,.ref l,fp',nm,r,1,rows.take i,L9 i,wr,rfl,bk',⟨l,xs,rfl,.inl (SqL.of el),nl,HT.hand (O.S7 bk') hts⟩,good,y3m R n12 wr hw,by omega,by rw[y1n];omega,fun fp2 H6 hf2 b6 bk6=>?_⟩
  rw[ino,lti,<- z0r ew,<- y4l] at bk6
  have gl:=g.trans sl
  exact⟨fp2,_,(fun b o e=>b6 b o (gl _ _ e) fun mm=>by rw[ff b mm] at e;cases e),bk6,(fun b mm=>(hf2 b mm).elim (ff b) fun z=>gl.free z),rfl⟩
 rintro σ H6 ⟨fp6,o6,g6,bk6,f6,rfl⟩
 rw[lus,bV] at bk6
 refine⟨_,rfl,lg,rfl,⟨_,SqL.of (g6 _ _ eG)⟩,z1m (K:=K) (a:=lg) (xs:=gs.map V.int) (fun i σ G=>∃(o8:Option V),A4 H G/\Bk G x fp6 nm r 1 rows (L9 rows.length++O6 (gs.take i))/\
   σ=[some (.ref ln),some (.int r),some (.ref lr),some (.ref lg),some (.ref x),o6,o8]) ⟨none,g6,by rw[dG];exact(cU (L9 rows.length)).symm ▸ bk6,rfl⟩ (fun i σ G _ ⟨_,g,_⟩=>SqL.of (g _ _ eG)) ?_ ?_⟩
 ·rintro i u σ G hi ⟨o8,g,bk,rfl⟩
  rw[bG] at hi
  obtain⟨n,en,rfl⟩:=cE.mp hi
  have hn:=gin n (bR en)
  obtain⟨d2,g2,z2,w2⟩:=O.ins bk
  have ll:(L9 rows.length++O6 (gs.take i)).length<400:=by
   rw[bN,y1n]
   unfold O6
   rw[b8,bO]
   omega
  refine⟨_,rfl,x,d2,g2,rfl,z2,w2 _ (by simp),_,rfl,x,fp6,nm,r,1,rows,_,1,n,rfl,bk,by decide,by decide,hn.1,hn.2,ll,fun G1 b1 bk1=>?_⟩
  rw[fX,<- y2V,<- z0r en] at bk1
  exact⟨_,(fun b o e=>b1 b o (g _ _ e) fun mm=>by rw[f6 _ mm] at e;cases e),bk1,rfl⟩
 rintro σ H7 ⟨o8,g7,bk7,rfl⟩
 rw[b8,bV] at bk7
 obtain⟨d3,g3,z3,w3⟩:=O.ins bk7
 refine⟨_,rfl,x,d3,g3,rfl,z3,w3 _ (by simp),x,fp6,nm,r,1,rows,_,1,none,rfl,bk7,by decide,by decide,(fun d h=>by cases h),fun x5 f5 G1 fn5 g1 sh5=>?_⟩
 rw[show(L9 rows.length++O6 gs).take (Option.getD none (L9 rows.length++O6 gs).length)=L9 rows.length++O6 gs from bV] at sh5
 exact q x5 f5 _ G1 (g7.trans g1) sh5 fun n=>y7X n
def z4Q(nm:List Str)(ns:List Int)(rows:List Row)(r:Int):List Str:=nm.map fun z=>z0B ns rows r (z0I (z0w ns rows z)) z
def y3C:Sp:=fun vs H Q _=>∃(nm:List Str) (r:Int) (rows:List Row) (gs:List Int),y6g H vs nm r rows gs/\
 ∀(l:Addr) (H':Hp),H l=none->A4 H H'->H' l=some (.lst ((z4Q nm (z0g gs) rows r).map V.str))->Q (.ref l) H'
theorem y5w(M:Bl mg)(F:Fun K "_law_words" "_law_words" z4W f fd){A0:Addr}{Sh:ShP}(OS:S4 A0 ["put","had","latest"] Sh)(M8:Cal P w K mg base 5 "_law_same" z2e (z9p 5))(D9:Cal P w K mg base 3 "_law_table" z3A (y0m K))(C4:Cal P w K mg base 10 "_law_bulletin" z2g (y3r Sh))(M9:Cal P w K mg base 8 "knowledge" z5Q (y63 Sh)):A5 P w K mg base CX0 11 f fd z4Y y3C:=by
 have nd:=z6t.nd
 refine F.ok z6t (fun vs H Q E h=>?_) (fun cdv A outer s H vs Q E hr h=>?_)
 ·obtain⟨nm,r,rows,gs,⟨ln,lr,lg,us,rfl,_⟩,_⟩:=h
  rfl
 obtain⟨nm,r,rows,gs,B,q⟩:=h
 obtain⟨ln,lr,lg,us,rfl,eN,gn,eR,tl,r60,R,eG,gin,gl,r0,r10⟩:=B
 refine⟨_,(z04 (z0l (i:=4) nd rfl (Or.inl rfl) (z0k M9 (rm hr) rfl (z00 (z0k C4 (rm hr) rfl (z00 (pv 0) (z00 (pv 1) (z00 (pv 2) (z00 (pv 3) z03))))) z03))) (z04 (z0N (z7S (z6s (z0k M8 (rm hr) rfl (z00 (pv 4) (z00 (z0k D9 (rm hr) rfl (z00 (pv 0) (z00 (z0b (z6Y rfl) rfl M.sorted fI (z00 (z0o (z3z rfl) rfl M.set fB (z00 (pv 3) z03)) z03)) (z00 (pv 2) (z00 (pv 1) z03))))) z03))))) (z05 (z0h y3Y)) z0p) (z05 (z0h (z1i ["_law_one"] [] [] rfl (z0u rfl (by decide +kernel) rfl (by decide +kernel) rfl rfl) (z2I (pv 4)) (fun _ _ _ _ _=>(z0j (i:=0) (show((["_law_one"]:List PySem.Str)++([]:List PySem.Str)).Nodup from by decide +kernel) rfl (Or.inl rfl))) (z0x (by decide)) z0d (fun _ _ _ _ _=>z1Y) (fun _ _ _ _ _=>(z0K (r:=N5 K) z0U (pv 0) z06 (fun _ _=>rfl)))))))),?_⟩
 have n12:=gn.hi
 have g60:∀n∈gs,1≤n/\n≤60:=fun n hn=>by have:=gin n hn;omega
 have inr:∀n,n∈z0g gs↔n∈gs:=fun n=>by
  rw[z1n]
  exact⟨fun h=>h.2,fun h=>⟨by have:=g60 n h;omega,h⟩⟩
 have rr:=z1T gs
 have rl:=z2S gs
 have rin:∀n∈z0g gs,1≤n/\n≤(rows.length:Int):=fun n hn=>gin n ((inr n).mp hn)
 refine⟨_,rfl,_,rfl,_,rfl,_,rfl,nm,r,rows,gs,⟨ln,lr,lg,us,rfl,eN,gn,eR,tl,r60,R,eG,gin,gl,r0,r10⟩,fun x fq had H1 s1 sh hm=>?_⟩
 have er:z0g had=z0g gs:=z4t rr (fun n hn=>by have:=rin n hn;omega) fun n=>(hm n).trans (inr n).symm
 refine⟨x,fq,nm,r,rows,had,rfl,sh,gn,R,r60,(fun n hn=>gin n ((hm n).mp hn)),r0,r10,fun v H2 s2 t2=>?_⟩
 rw[er] at t2
 have c2:=s1.trans s2
 refine⟨_,rfl,_,rfl,_,rfl,lg,gs,rfl,.inl (SqL.of (c2 _ _ eG)),by omega,fun l5 hl5=>⟨l5,_,rfl,z02,y6C g60,fun l6 ms nl6 pm pw=>?_⟩⟩
 rw[y0n g60 pm pw]
 have nl6':upd H2 l5 (N6 P w l5 gs) l6=none:=nl6
 have s6:=(z01 hl5 (N6 P w l5 gs)).trans (z01 nl6' (.lst ((z0g gs).map V.int)))
 have e6:upd (upd H2 l5 (N6 P w l5 gs)) l6 (.lst ((z0g gs).map V.int)) l6=some (.lst ((z0g gs).map V.int)):=z02
 have c6:=c2.trans s6
 refine⟨_,rfl,_,rfl,ln,l6,lr,nm,z0g gs,us,rows,r,rfl,SqL.of (c6 _ _ eN),n12,e6,by omega,rr.imp (fun h=>gN h),(fun n hn=>by have:=rin n hn;omega),(fun n hn=>(rin n hn).2),SqL.of (c6 _ _ eR),z08.keep c6 _ _ tl,y3m R n12,r0,fun tv H7 s7 tt=>?_⟩
 have s67:=s6.trans s7
 refine⟨v,tv,rfl,(z8b _ _ _ (A7.keep s67 _ _ t2) tt).mono (cO (y1M _ _ _ _) (by decide)),fun H8 s8=>⟨_,rfl,C6 ?_⟩⟩
 have c8:=c2.trans (s67.trans s8)
 obtain⟨ta,xs,rfl,ea,lx,tat⟩:=y3L (A7.keep (s67.trans s8) _ _ t2)
 have e2:z0g (z0g gs)=z0g gs:=z4t rr (fun n hn=>by have:=rin n hn;omega) fun _=>j9
 refine⟨_,rfl,ta,rfl,⟨_,SqT.of ea⟩,?_⟩
 refine z1O (xs:=xs) (fun j ys G2=>G2=H8/\ys=(z4Q (nm.take j) (z0g gs) rows r).map V.str) ⟨rfl,rfl⟩ (fun j ys G2 hj hp=>?_) (fun j u ys G2 hu hp=>?_) (fun ys G2 hp=>?_)
 ·obtain⟨rfl,rfl⟩:=hp
  refine⟨SqT.of ea,z0f ?_⟩
  unfold z4Q
  rw[b8,b8,bO]
  omega
 ·obtain⟨rfl,rfl⟩:=hp
  have hk:j<nm.length:=by have:=(cD.mp hu).1;omega
  obtain⟨b,eb,hb⟩:=tat j nm[j] (bD hk)
  rw[hu] at eb
  cases eb
  unfold X9 at hb
  rw[e2] at hb
  refine⟨_,rfl,b,_,1,_,rfl,rfl,SqT.of hb,rfl,rfl,?_⟩
  unfold z4Q
  rw[z0r (bD hk),bE,bE]
  rfl
 obtain⟨rfl,rfl⟩:=hp
 intro D hD
 rw[lx,bV]
 exact q D _ (c8.free hD) (c8.trans (z01 hD _)) z02
theorem y4p{l:List Int}{k:Nat}{x:Int}(h:x∈l.eraseIdx k):x∈l:=List.mem_of_mem_eraseIdx h
theorem z9W:∀(l:List Int) (k:Nat),(l.map V.int).eraseIdx k=(l.eraseIdx k).map V.int
 | [],k=>rfl
 | x::l,0=>rfl
 | x::l,k+1=>congrArg (V.int x::·) (z9W l k)
def y2H:Sp:=fun vs H Q _=>∃(p:Addr) (ls:List Int) (m c:Int),vs=[.ref p,.int m,.int c]/\H p=some (.lst (ls.map V.int))/\ls.length≤60/\0≤m/\m≤(ls.length:Int)/\
 ∀(l:Addr) (fs:List Int) (H':Hp),H l=none->A4 H H'->H' l=some (.lst (fs.map V.int))->fs.length=m.toNat->(∀x∈fs,x∈ls)->Q (.ref l) H'
theorem y5J(M:Bl mg)(F:Fun K "_law_fewer" "_law_fewer" z4Z f fd)(B4:Cal P w K mg base 1 "_law_row" z2K y1O):A5 P w K mg base CX0 2 f fd z4L y2H:=by
 have nd:=z6q.nd
 refine F.ok z6q (fun vs H Q E h=>?_) (fun cdv A outer s H vs Q E hr h=>?_)
 ·obtain⟨p,ls,m,c,rfl,_⟩:=h
  rfl
 obtain⟨p,ls,m,c,rfl,hP,l60,m0,ml,q⟩:=h
 refine⟨_,(z04 (z0l (i:=3) nd rfl (Or.inl rfl) (z1j z03)) (z04 (z0l (i:=4) nd rfl (Or.inl rfl) (z0o z1v rfl M.list dD (z00 (pv 0) z03))) (z04 (z1h cC rfl (z18 (z0k B4 (rm hr) rfl (z00 (pv 2) (z00 (pv 1) (z00 z06 z03))))) (z0j (i:=5) nd rfl (Or.inl rfl)) (z05 (z0C (z36 bY c7 cA z0O (pv 3) (z00 (z36 bY PySem.F.slot_list_pop PySem.F.type_list_pop y5I (pv 4) (z00 (z0s z0V (pv 5) (z0b z0a rfl M.len bP (z00 (pv 4) z03))) z03)) z03))))) (z05 (z0h (pv 3)))))),?_⟩
 refine⟨(by show 0≤sizeLine;decide),fun l1 hl1=>?_⟩
 have s1:=z01 hl1 (.lst [])
 have e1:upd H l1 (.lst []) l1=some (.lst []):=z02
 generalize upd H l1 (.lst [])=H1 at s1 e1
 refine⟨_,rfl,p,_,rfl,.inl (SqL.of (s1 _ _ hP)),fun l2 hl2=>?_⟩
 have s2:=z01 hl2 (.lst (ls.map V.int))
 have e2:upd H1 l2 (.lst (ls.map V.int)) l2=some (.lst (ls.map V.int)):=z02
 have n12:l1≠l2:=z0i e1 hl2
 have hl2':=s1.free hl2
 replace e1:=s2 _ _ e1
 replace s2:=s1.trans s2
 generalize upd H1 l2 (.lst (ls.map V.int))=H2 at s2 e2 e1
 refine⟨_,rfl,_,rfl,c,m,60,rfl,m0,by omega,by decide,by decide,fun lf fs H3 nlf s3 e3 V3 all3=>?_⟩
 have nlf':=s2.free nlf
 have nf1:lf≠l1:=fun e=>by rw[e,e1] at nlf;cases nlf
 have nf2:lf≠l2:=fun e=>by rw[e,e2] at nlf;cases nlf
 refine⟨lf,rfl,⟨_,SqL.of e3⟩,z1m (K:=K) (a:=lf) (xs:=fs.map V.int) (fun i σ G=>∃(gs sp:List Int) (o:Option V),A4 H G/\G lf=some (.lst (fs.map V.int))/\G l1=some (.lst (gs.map V.int))/\G l2=some (.lst (sp.map V.int))/\gs.length=i/\sp.length+i=ls.length/\(∀x∈gs,x∈ls)/\(∀x∈sp,x∈ls)/\
   σ=[some (.ref p),some (.int m),some (.int c),some (.ref l1),some (.ref l2),o]) ⟨[],ls,none,s2.trans s3,e3,s3 _ _ e1,s3 _ _ e2,rfl,rfl,(fun x h=>nomatch h),(fun x h=>h),rfl⟩ (fun i σ G _ ⟨_,_,_,_,g,_⟩=>SqL.of g) ?_ ?_⟩
 ·rintro i u σ G hi ⟨gs,sp,o,g,ef,eg,es,lg,lsp,ing,ins,rfl⟩
  rw[bG] at hi
  obtain⟨n,en,rfl⟩:=cE.mp hi
  have hn:=all3 n (bR en)
  have hi':=(cD.mp en).1
  have spl:0<sp.length:=by omega
  have lm:(sp.map V.int).length=sp.length:=b8 _
  have m1:=cQ n (show((sp.length:Nat):Int)≠0 by omega)
  have m2:=cK n (show(0:Int)<((sp.length:Nat):Int) by omega)
  refine⟨_,rfl,.inl ⟨rfl,_,SqL.of eg⟩,_,rfl,.inl ⟨rfl,_,SqL.of es⟩,_,rfl,_,rfl,l2,_,rfl,.inl (SqL.of es),_,_,rfl,rfl,by omega,?_⟩
  rw[lm]
  obtain⟨j,ej⟩:∃j,n%((sp.length:Nat):Int)=j:=⟨_,rfl⟩
  rw[ej] at m1 m2
  have hj:j.toNat<sp.length:=by omega
  refine⟨l2,_,j,j.toNat,.int sp[j.toNat],rfl,(by rw[<- ej]),es,by omega,by omega,PySem.StrLaws.seqIndex_nonneg m1 (by rw[lm];exact m2),(by rw[bG,bD hj];rfl),?_⟩
  refine⟨l1,_,_,rfl,rfl,(by rw[z0e n12];exact eg),z0f (by rw[b8];omega),?_⟩
  refine⟨gs++[sp[j.toNat]],sp.eraseIdx j.toNat,_,z1N (z1N g hl2') hl1,(by rw[z0e nf1,z0e nf2];exact ef),(by rw[z02,bE];rfl),(by rw[z0e n12.symm,z02,z9W]),(by rw[bN,dO,lg]),(by rw[gD hj];omega),(fun x hx=>?_),(fun x hx=>ins x (y4p hx)),rfl⟩
  rcases bM.mp hx with h|h
  ·exact ing x h
  ·rw[bA.mp h]
   exact ins _ (eU _)
 ·rintro σ G ⟨gs,sp,o,g,ef,eg,es,lg,lsp,ing,ins,rfl⟩
  rw[b8,V3] at lg
  exact⟨_,rfl,q l1 gs G hl1 g eg lg ing⟩
def z3k(H:Hp)(l:Addr)(nm:List Str)(rows:List Row)(N:Nat):Prop:=∃us,H l=some (.lst us)/\z08 H (rows.map K4) us/\rows.length=N/\Rws nm rows
theorem z3k.keep{H H':Hp}{l:Addr}{nm:List Str}{rows:List Row}{N:Nat}(s:A4 H H')(h:z3k H l nm rows N):z3k H' l nm rows N:=by
 obtain⟨us,h1,h2,h3⟩:=h
 exact⟨us,s _ _ h1,z08.keep s _ _ h2,h3⟩
theorem z9U{hs ts:List Int}(h:∀x∈hs++ts,1≤x/\x≤60)(n:Int):n∈z0g (hs++ts)↔n∈hs\/n∈ts:=by
 rw[z1n,bM]
 exact⟨fun q=>q.2,fun q=>⟨by have:=h n (bM.mpr q);omega,q⟩⟩
theorem y2b{hs ts fs as:List Int}{rows0 rows:List Row}{r:Int}{nl:List Str}(k:F2 hs r (z2z (z1w hs rows0 r nl)) fs as)(rise:hs.Pairwise (· < ·))(h60:∀x∈hs,1≤x/\x≤60)(ag:z4u hs r rows0 rows)(mem:∀x,x∈ts↔x∈fs){z:Str}(hz:z∈nl) :
  z0B (z0g (hs++ts)) rows r (z0I (z0w (z0g (hs++ts)) rows z)) z≠"open":=by
 obtain⟨m,it⟩:=y7J hs h60
 rw[ag.w0Y] at k
 have q60:∀x∈hs++ts,1≤x/\x≤60:=fun x hx=>(bM.mp hx).elim (h60 x) fun h=>by
  obtain⟨⟨a,b⟩,_,y,hy,c⟩:=z0y.mp (k.S1 x ((mem x).mp h))
  have:=h60 y hy
  omega
 have mm:=z9U q60
 exact y1U k rise (z1T _) (fun n=>(mm n).trans (or_congr_right (mem n))) (fun x hx=>((mm x).mp hx).elim (fun h=>q60 x (cM _ h)) fun h=>q60 x (bX _ h)) it hz
theorem y1S{hs ts fs as:List Int}{rows0 rows:List Row}{r:Int}{nl:List Str}(k:F2 hs r (z2z (z1w hs rows0 r nl)) fs as)(rise:hs.Pairwise (· < ·))(h60:∀x∈hs,1≤x/\x≤60)(r0:0≤r)(ag:z4u hs r rows0 rows)(dk:∀n∈z2v hs r,z0z rows n=[])(S1:∀x∈ts,x∈z0W hs)(len:ts.length<fs.length) :
  ∃z∈nl,z0B (z0g (hs++ts)) rows r (z0I (z0w (z0g (hs++ts)) rows z)) z="open":=by
 have q60:∀x∈hs++ts,1≤x/\x≤60:=fun x hx=>(bM.mp hx).elim (h60 x) fun h=>by
  obtain⟨⟨a,b⟩,_,y,hy,c⟩:=z0y.mp (S1 x h)
  have:=h60 y hy
  omega
 have mm:=z9U q60
 exact y2t k rise (z1T _) r0 mm (fun x hx=>((mm x).mp hx).elim (fun h=>q60 x (cM _ h)) fun h=>q60 x (bX _ h)) ag dk S1 len
structure X2(H:Hp)(ln lw l0 l1 l2 lh lb lp:Addr)(nm nl:List Str)(r:Int)(rows0 P4 B9:List Row)(hs fs as ps:List Int)(N:Nat):Prop where
 eN:H ln=some (.lst (nm.map V.str))
 gn:E4 nm
 r0:0≤r
 r10:r≤10
 eW:H lw=some (.lst [.ref l0,.ref l1,.ref l2])
 w0:z3k H l0 nm rows0 N
 w1:z3k H l1 nm P4 N
 w2:z3k H l2 nm B9 N
 n60:N≤60
 eH:H lh=some (.lst (hs.map V.int))
 rise:hs.Pairwise (· < ·)
 hin:∀x∈hs,1≤x/\x≤(N:Int)
 eB:H lb=some (.tup (fs.map V.int))
 k:F2 hs r (z2z (z1w hs rows0 r nl)) fs as
 eP:H lp=some (.lst (ps.map V.int))
 pin:∀k∈ps,0≤k/\k<(nm.length:Int)
 p12:ps.length≤12
 pn:∀z,z∈nl↔∃k∈ps,nm[k.toNat]? = some z
 a1:z4u hs r rows0 P4
 a2:z4u hs r rows0 B9
 dk:∀n∈z2v hs r,z0z B9 n=[]
def y1z:Sp:=fun vs H Q _=>∃(ln lw l0 l1 l2 lh lb lp:Addr) (nm nl:List Str) (r c:Int) (rows0 P4 B9:List Row) (hs fs as ps:List Int) (N:Nat),vs=[.ref ln,.int r,.ref lw,.ref lh,.ref lb,.ref lp,.int c]/\X2 H ln lw l0 l1 l2 lh lb lp nm nl r rows0 P4 B9 hs fs as ps N/\∀H',A4 H H'->Q (.bl true) H'
def z9u(nm:List Str)(f:Str->Str)(ps:List Int):List Str:=ps.map fun k=>f (nm.getD k.toNat "")
theorem y35{nm nl:List Str}{f:Str->Str}{ps:List Int}(pin:∀k∈ps,0≤k/\k<(nm.length:Int))(pn:∀z,z∈nl↔∃k∈ps,nm[k.toNat]? = some z)(y:Str):y∈z9u nm f ps↔∃z∈nl,f z=y:=by
 unfold z9u
 rw[cB]
 constructor
 ·rintro⟨k,hk,e⟩
  have:=pin k hk
  refine⟨nm.getD k.toNat "",(pn _).mpr ⟨k,hk,?_⟩,e⟩
  rw[bJ,bD (by omega)]
  rfl
 ·rintro⟨z,hz,e⟩
  obtain⟨k,hk,h⟩:=(pn z).mp hz
  refine⟨k,hk,?_⟩
  rw[bJ,h]
  exact e
theorem y4b{nm:List Str}{ns:List Int}{rows:List Row}{r k:Int}(h0:0≤k)(h1:k<(nm.length:Int)):atI ((z4Q nm ns rows r).map V.str) k=some (.str (z0B ns rows r (z0I (z0w ns rows (nm.getD k.toNat ""))) (nm.getD k.toNat ""))):=by
 obtain⟨i,rfl⟩:∃i:Nat,k=(i:Int):=⟨k.toNat,by omega⟩
 refine z11 ?_
 unfold z4Q
 rw[bG,bG,dX,bJ,bD (by omega)]
 rfl
theorem y3M(M:Bl mg)(F:Fun K "_law_mended" "_law_mended" z4j f fd)(L5:Cal P w K mg base 1 "_law_whole" z50 y4q)(J1:Cal P w K mg base 11 "_law_words" z4Y y3C)(G7:Cal P w K mg base 2 "_law_shuffled" z3l (y5Z K))(L0:Cal P w K mg base 2 "_law_fewer" z4L y2H):A5 P w K mg base CX0 12 f fd z3Z y1z:=by
 have nd:=z5u.nd
 refine F.ok z5u (fun vs H Q E h=>?_) (fun cdv A outer s H vs Q E hr h=>?_)
 ·obtain⟨ln,lw,l0,l1,l2,lh,lb,lp,nm,nl,r,c,rows0,P4,B9,hs,fs,as,ps,N,rfl,_⟩:=h
  rfl
 obtain⟨ln,lw,l0,l1,l2,lh,lb,lp,nm,nl,r,c,rows0,P4,B9,hs,fs,as,ps,N,rfl,B,q⟩:=h
 refine⟨_,(z04 (z4X (i:=7) ["_law_number"] ["_law_had_here"] [3] rfl nd rfl (Or.inl rfl) (z0u rfl (by decide +kernel) rfl (by decide +kernel) rfl rfl) (z5j rfl M.range (z00 z06 (z00 (z0b (z7v rfl) rfl M.max fA (z00 (z0s z9V (pv 3) (z1j (z00 z06 z03))) z03)) z03))) (fun _ _ _ _ _=>(z0j (i:=0) (show((["_law_number"]:List PySem.Str)++(["_law_had_here"]:List PySem.Str)).Nodup from by decide +kernel) rfl (Or.inl rfl))) (z0x (by decide)) z0d (fun _ _ _ _ _=>(z26 (z0c (r:=rIn K true) z1k (pv 0) (pv 1) (by with_unfolding_all rfl)))) (fun _ _ _ _ _=>(pv 0))) (z04 (z1h cC rfl (z2I (pv 4)) (z0j (i:=8) nd rfl (Or.inl rfl)) (z05 (z0N (PW.pt (z4v (z7S (z6s (z0k L5 (rm hr) rfl (z00 (pv 8) z03)))) (z2P (z0c z1k (pv 8) (pv 7) (by with_unfolding_all rfl))))) (z05 (z0h z5g)) z0p))) (z04 (z1h cC rfl (z18 (z3N y0I (pv 2) z4V (z54 z06))) (z0j (i:=9) nd rfl (Or.inl rfl)) (z04 (z0l (i:=10) nd rfl (Or.inr rfl) (z0k J1 (rm hr) rfl (z00 (pv 0) (z00 (pv 1) (z00 (pv 9) (z00 (z0s z9V (pv 3) (z0k G7 (rm hr) rfl (z00 (z0o z1v rfl M.list dD (z00 (pv 4) z03)) (z00 (pv 6) z03)))) z03)))))) (z05 (z0N (PW.pt (z4v (z8o (z9C (pv 10))) (z2P (z0c z49 z3R (z1i ["_law_k"] ["_law_words_here"] [10] rfl (z0u rfl (by decide +kernel) rfl (by decide +kernel) rfl rfl) (z18 (pv 5)) (fun _ _ _ _ _=>(z0j (i:=0) (show((["_law_k"]:List PySem.Str)++(["_law_words_here"]:List PySem.Str)).Nodup from by decide +kernel) rfl (Or.inl rfl))) (z0x (by decide)) z0d (fun _ _ _ _ _=>z1Y) (fun _ _ _ _ _=>(z0K (r:=W0 K) z0R (pv 1) (pv 0) (fun _ _=>rfl)))) (by with_unfolding_all rfl))))) (z05 (z0h z5g)) z0p)))) (z04 (z0N (z0c z2r (z0b z0a rfl M.len bP (z00 (pv 4) z03)) z06 (z0n _)) (z05 (z0h z5g)) z0p) (z04 (z0l (i:=11) nd rfl (Or.inl rfl) (z0k L0 (rm hr) rfl (z00 (pv 7) (z00 (z0s z3r (z0b z5w rfl M.len bP (z00 (z0o (z3z rfl) rfl M.set fB (z00 (pv 4) z03)) z03)) z06) (z00 (pv 6) z03))))) (y6m (z0N (z0c z2r (z0s z0V (pv 6) z06) z06 (z0n _)) (z05 (z0l (i:=11) nd rfl (Or.inl rfl) (z3N y0I (pv 11) z4V (z54 (z0s z0V (z0s z1l (pv 6) z06) (z0b z5w rfl M.len bP (z00 (z0o (z3z rfl) rfl M.set fB (z00 (pv 4) z03)) z03))))))) z0p) (z04 (z0l (i:=10) nd rfl (Or.inr rfl) (z0k J1 (rm hr) rfl (z00 (pv 0) (z00 (pv 1) (z00 (z0K z0R (pv 2) z06 (fun _ _=>rfl)) (z00 (z0s z9V (pv 3) (pv 11)) z03)))))) (z05 (z0h (y5X (y4i (y7c (pv 10))) (y5P (z4I z49 z3R (z1i ["_law_k"] ["_law_words_here"] [10] rfl (z0u rfl (by decide +kernel) rfl (by decide +kernel) rfl rfl) (z18 (pv 5)) (fun _ _ _ _ _=>(z0j (i:=0) (show((["_law_k"]:List PySem.Str)++(["_law_words_here"]:List PySem.Str)).Nodup from by decide +kernel) rfl (Or.inl rfl))) (z0x (by decide)) z0d (fun _ _ _ _ _=>z1Y) (fun _ _ _ _ _=>(z0K (r:=W0 K) z0R (pv 1) (pv 0) (fun _ _=>rfl)))) (by with_unfolding_all rfl))))))))))))),?_⟩
 have h60:∀x∈hs,1≤x/\x≤60:=fun x hx=>by have:=B.hin x hx;have:=B.n60;omega
 have e2:z0g hs=hs:=z4t B.rise h60 fun _=>j9
 have hl:hs.length≤60:=by rw[<- e2];exact z2S _
 refine⟨_,rfl,(by show 1≤sizeLine;decide),fun l0' hl0=>⟨lh,l0',_,_,rfl,rfl,z01 hl0 _ _ _ B.eH,z02,?_,fun lc hlc=>?_⟩⟩
 ·rw[b8]
  exact dZ (z0f (by show hs.length+1≤1000;omega))
 have sX:=(z01 hl0 (.lst [V.int 0])).trans (z01 hlc (.lst (hs.map V.int++[V.int 0])))
 have ex:upd (upd H l0' (.lst [V.int 0])) lc (.lst (hs.map V.int++[V.int 0])) lc=some (.lst ((hs++[0]).map V.int)):=by
  rw[z02,bE]
  rfl
 generalize upd (upd H l0' (.lst [V.int 0])) lc (.lst (hs.map V.int++[V.int 0]))=H1 at sX ex
 refine⟨lc,hs++[0],rfl,.inl (SqL.of ex),by simp,fun mx hmx top=>?_⟩
 have hm':mx∈hs\/(hs=[]/\mx=0):=by
  rcases bM.mp hmx with h|h
  ·exact .inl h
  ·rw[bA] at h
   subst h
   cases hs with
   | nil=>exact .inr ⟨rfl,rfl⟩
   | cons x xs=>
    have h1:=top x (by simp)
    have h2:=h60 x bQ
    omega
 have m60:0≤mx/\mx≤60:=by
  rcases hm' with h|⟨_,h⟩
  ·have:=h60 mx h
   omega
  ·omega
 have W4:∀y∈hs,y≤mx:=fun y hy=>top y (cM _ hy)
 refine⟨1,mx,rfl,⟨by decide,by decide,by omega,by omega⟩,?_⟩
 refine z8I (lo:=1) (n:=(mx-1).toNat) (fun i ys G=>G=H1/\ys=(((upI 1 i).filter fun x=>!decide (x∈hs)).map V.int)) ⟨rfl,rfl⟩ (fun i ys G hi hp=>?_) (fun i ys G hi hp=>?_) (fun ys G hp=>?_)
 ·obtain⟨rfl,rfl⟩:=hp
  refine z0f ?_
  rw[b8]
  have h1:=cF (fun x=>!decide (x∈hs)) (upI 1 i)
  rw[z0M] at h1
  omega
 ·obtain⟨rfl,rfl⟩:=hp
  refine⟨_,rfl,_,rfl,lh,_,rfl,.inl (SqL.of (sX _ _ B.eH)),rfl,z1X hs,_,rfl,?_⟩
  rw[if_pos rfl,z2B,z4k]
  by_cases hin:(1:Int)+(i:Int)∈hs
  ·rw[decide_eq_true hin,if_pos hin,cU]
   exact C6 ⟨rfl,rfl⟩
  ·rw[decide_eq_false hin,if_neg hin,bE]
   exact N0 ⟨_,rfl,rfl,rfl⟩
 obtain⟨rfl,rfl⟩:=hp
 rw[z7w hm' h60 W4]
 intro lk hlk
 have sK:=sX.trans (z01 hlk (.lst ((z0W hs).map V.int)))
 have eK:upd G lk (.lst ((z0W hs).map V.int)) lk=some (.lst ((z0W hs).map V.int)):=z02
 generalize upd G lk (.lst ((z0W hs).map V.int))=H2 at sK eK
 clear ex hlk hlc hl0 sX
 have fl:∀x∈fs,x∈z0W hs:=B.k.S1
 have fin:∀x∈fs,1≤x/\x≤(N:Int):=fun x hx=>by
  obtain⟨⟨a,b⟩,_,y,hy,d⟩:=z0y.mp (fl x hx)
  have:=B.hin y hy
  omega
 have f60:fs.length≤60:=by
  rw[<- z4t (l:=fs) B.k.fr (fun x hx=>by have:=fin x hx;have:=B.n60;omega) fun _=>j9]
  exact z2S _
 refine⟨_,rfl,lb,rfl,⟨_,SqT.of (sK _ _ B.eB)⟩,z93 (K:=K) (a:=lb) (xs:=fs.map V.int) (fun _ σ G=>A4 H2 G/\∃o:Option V,σ=[some (.ref ln),some (.int r),some (.ref lw),some (.ref lh),some (.ref lb),some (.ref lp),some (.int c),some (.ref lk),o,none,none,none]) ⟨A4.refl _,none,rfl⟩ (fun i σ G _ hp=>SqT.of (hp.1 _ _ (sK _ _ B.eB))) (fun i x σ G hx hp=>?_) (fun σ G hp=>?_)⟩
 ·obtain⟨g,o,rfl⟩:=hp
  rw[bG] at hx
  obtain⟨n,en,rfl⟩:=cE.mp hx
  refine⟨_,rfl,n,rfl,_,rfl,C6 ⟨_,rfl,_,rfl,lk,_,rfl,.inl (SqL.of (g _ _ eK)),rfl,z1X _,_,rfl,?_⟩⟩
  rw[if_pos rfl,z2B,decide_eq_true (fl n (bR en))]
  exact C6 ⟨g,_,rfl⟩
 obtain⟨g,o,rfl⟩:=hp
 have g2:=sK.trans g
 have eK2:=g _ _ eK
 clear eK sK g
 refine⟨_,rfl,_,rfl,lw,_,rfl,SqL.of (g2 _ _ B.eW),fun lv hlv=>?_⟩
 have eV:upd G lv (.lst (M1 [V.ref l0,V.ref l1,V.ref l2] none (some 2))) lv=some (.lst [V.ref l0,V.ref l1]):=z02
 have gV:=g2.trans (z01 hlv (.lst (M1 [V.ref l0,V.ref l1,V.ref l2] none (some 2))))
 have eK3:=z01 hlv (.lst (M1 [V.ref l0,V.ref l1,V.ref l2] none (some 2))) _ _ eK2
 generalize upd G lv (.lst (M1 [V.ref l0,V.ref l1,V.ref l2] none (some 2)))=H3 at eV gV eK3
 clear g2 eK2 hlv
 refine⟨lv,rfl,⟨_,SqL.of eV⟩,z1m (K:=K) (a:=lv) (xs:=[V.ref l0,V.ref l1]) (fun _ σ G=>A4 H3 G/\∃o1 o2:Option V,σ=[some (.ref ln),some (.int r),some (.ref lw),some (.ref lh),some (.ref lb),some (.ref lp),some (.int c),some (.ref lk),o,o1,o2,none]) ⟨A4.refl _,none,none,rfl⟩ (fun i σ G _ hp=>SqL.of (hp.1 _ _ eV)) (fun i x σ G hx hp=>?_) (fun σ G hp=>?_)⟩
 ·obtain⟨g,o1,o2,rfl⟩:=hp
  obtain⟨li,Q8,rfl,wi,ai⟩:∃(li:Addr) (Q8:List Row),x=.ref li/\z3k H li nm Q8 N/\z4u hs r rows0 Q8:=by
   match i,hx with
   | 0,hx=>cases hx;exact⟨l0,rows0,rfl,B.w0,z4u.refl _ _ _⟩
   | 1,hx=>cases hx;exact⟨l1,P4,rfl,B.w1,B.a1⟩
  have g4:=gV.trans g
  refine⟨_,rfl,_,rfl,_,rfl,_,rfl,_,rfl,lb,_,rfl,.inr (SqT.of (g4 _ _ B.eB)),fun lx hlx=>⟨_,rfl,lx,fs,c,rfl,SqL.of z02,f60,fun ls ts G3 nls s3 e3 mem len=>?_⟩⟩
  have sx:=z01 hlx (.lst (fs.map V.int))
  have g5:=g.trans (sx.trans s3)
  have g6:=gV.trans g5
  have q60:∀x∈hs++ts,1≤x/\x≤(N:Int):=fun x hx=>(bM.mp hx).elim (B.hin x) fun h=>fin x ((mem x).mp h)
  refine⟨lh,ls,_,_,rfl,rfl,g6 _ _ B.eH,e3,(by rw[b8,b8];exact dZ (z0f (by omega))),fun lc hlc=>?_⟩
  have sc:=z01 hlc (.lst (hs.map V.int++ts.map V.int))
  have ec:upd G3 lc (.lst (hs.map V.int++ts.map V.int)) lc=some (.lst ((hs++ts).map V.int)):=by rw[z02,bE]
  generalize upd G3 lc (.lst (hs.map V.int++ts.map V.int))=G4 at sc ec
  have g7:=g6.trans sc
  obtain⟨us,w1,w2,w3,w4⟩:=wi.keep g7
  refine⟨nm,r,Q8,hs++ts,⟨ln,li,lc,us,rfl,g7 _ _ B.eN,B.gn,w1,w2,by have:=B.n60;omega,w4,ec,(by rw[w3];exact q60),by rw[bN];omega,B.r0,B.r10⟩,fun lwd G5 nlwd s5 e5=>?_⟩
  refine⟨_,rfl,_,rfl,C6 ⟨_,rfl,lp,rfl,⟨_,SqL.of ((g7.trans s5) _ _ B.eP)⟩,?_⟩⟩
  refine z2O (xs:=ps.map V.int) (fun j ys G'=>G'=G5/\ys=(z9u nm (fun z=>z0B (z0g (hs++ts)) Q8 r (z0I (z0w (z0g (hs++ts)) Q8 z)) z) (ps.take j)).map V.str) ⟨rfl,rfl⟩ (fun j ys G' hj hp=>?_) (fun j u ys G' hu hp=>?_) (fun ys G' hp=>?_)
  ·obtain⟨rfl,rfl⟩:=hp
   refine⟨SqL.of ((g7.trans s5) _ _ B.eP),z0f ?_⟩
   unfold z9u
   rw[b8,b8,bO]
   have:=B.p12
   omega
  ·obtain⟨rfl,rfl⟩:=hp
   rw[bG] at hu
   obtain⟨k,ek,rfl⟩:=cE.mp hu
   have hk:=B.pin k (bR ek)
   refine⟨_,rfl,_,rfl,lwd,_,k,_,rfl,rfl,SqL.of e5,y4b hk.1 hk.2,?_⟩
   unfold z9u
   rw[z0r ek,bE,bE]
   exact⟨rfl,rfl⟩
  obtain⟨rfl,rfl⟩:=hp
  rw[b8,bV]
  intro D hD
  refine⟨D,_,rfl,.inl (SqL.of z02),rfl,z2V _,_,rfl,?_⟩
  rw[if_neg bI,z6U,decide_eq_false fun h=>?_]
  ·exact C6 ⟨g5.trans (sc.trans (s5.trans (z01 hD _))),_,_,rfl⟩
  ·obtain⟨z,hz,e⟩:=(y35 B.pin B.pn _).mp h
   exact y2b B.k B.rise h60 ai mem hz e
 obtain⟨g,o1,o2,rfl⟩:=hp
 have g4:=gV.trans g
 have eK4:=g _ _ eK3
 clear gV g eV eK3
 have lm:(fs.map V.int).length=fs.length:=b8 _
 refine⟨_,rfl,lb,_,rfl,.inr (SqT.of (g4 _ _ B.eB)),rfl,_,rfl,A9 (fun c0=>?_) (fun c0=>?_)⟩
 ·exact q _ g4
 have fpos:0<fs.length:=fR fun e=>z3v c0 (by rw[lm,e];rfl)
 have em:C5 fs=fs:=y0E (B.k.fr.imp fun h=>gN h)
 have fll:fs.length≤(z0W hs).length:=y04 (B.k.fr.imp fun h=>gN h) fl
 have ll:=z2m hs
 refine⟨_,rfl,_,rfl,lb,fs,rfl,.inr (SqT.of (g4 _ _ B.eB)),by omega,fun lt hlt=>⟨lt,fs,rfl,z02,by omega,?_⟩⟩
 rw[em]
 have st:=z01 hlt (N6 P w lt fs)
 refine⟨_,_,rfl,rfl,_,rfl,lk,z0W hs,(fs.length:Int)-1,c,rfl,st _ _ eK4,ll,by omega,by omega,fun lf ts G3 nlf s3 e3 V3 in3=>?_⟩
 have g5:=g4.trans (st.trans s3)
 clear g4 st s3 eK4
 refine⟨fun σ G=>∃(lf:Addr) (ts:List Int),A4 H G/\G lf=some (.lst (ts.map V.int))/\ts.length<fs.length/\(∀x∈ts,x∈z0W hs)/\σ=[some (.ref ln),some (.int r),some (.ref lw),some (.ref lh),some (.ref lb),some (.ref lp),some (.int c),some (.ref lk),o,o1,o2,some (.ref lf)],?_,?_⟩
 ·refine⟨_,rfl,_,_,rfl,rfl,(by show(0:Int)<3;decide),rfl,_,rfl,A9 (fun c1=>?_) (fun c1=>?_)⟩
  ·refine⟨_,rfl,_,rfl,_,_,rfl,rfl,⟨by decide,by decide⟩,_,rfl,lb,fs,rfl,.inr (SqT.of (g5 _ _ B.eB)),by omega,fun lt hlt=>⟨lt,fs,rfl,z02,by omega,?_⟩⟩
   rw[em]
   have st:=z01 hlt (N6 P w lt fs)
   have cut:∀i:Int,M1 (ts.map V.int) none (some (i%((fs.length:Nat):Int)))=(ts.take (i%((fs.length:Nat):Int)).toNat).map V.int:=fun i=>by
    have m1:=cQ i (show((fs.length:Nat):Int)≠0 by omega)
    have m2:=cK i (show(0:Int)<((fs.length:Nat):Int) by omega)
    obtain⟨j,ej⟩:∃j:Nat,i%((fs.length:Nat):Int)=(j:Int):=⟨(i%((fs.length:Nat):Int)).toNat,by omega⟩
    rw[ej,y2I (by rw[b8];omega),List.map_take,dX]
   refine⟨_,_,rfl,rfl,by omega,_,rfl,lf,_,rfl,SqL.of (st _ _ e3),fun lz hlz=>?_⟩
   refine⟨lz,ts.take _,g5.trans (st.trans (z01 hlz _)),z02.trans (congrArg (fun z=>some (HO.lst z)) (cut _)),?_,fun x hx=>in3 x (gA hx),rfl⟩
   rw[bO]
   omega
  ·exact⟨lf,ts,g5,e3,by omega,in3,rfl⟩
 rintro σ G6 ⟨lf,ts,g,eT,lt,tin,rfl⟩
 have tin':∀x∈ts,1≤x/\x≤(N:Int):=fun x hx=>by
  obtain⟨⟨a,b⟩,_,y,hy,d⟩:=z0y.mp (tin x hx)
  have:=B.hin y hy
  omega
 have q60:∀x∈hs++ts,1≤x/\x≤(N:Int):=fun x hx=>(bM.mp hx).elim (B.hin x) (tin' x)
 refine⟨_,rfl,_,rfl,_,rfl,lw,_,2,_,rfl,rfl,SqL.of (g _ _ B.eW),rfl,_,rfl,_,rfl,lh,lf,_,_,rfl,rfl,g _ _ B.eH,eT,(by rw[b8,b8];exact dZ (z0f (by omega))),fun lc hlc=>?_⟩
 have sc:=z01 hlc (.lst (hs.map V.int++ts.map V.int))
 have ec:upd G6 lc (.lst (hs.map V.int++ts.map V.int)) lc=some (.lst ((hs++ts).map V.int)):=by rw[z02,bE]
 generalize upd G6 lc (.lst (hs.map V.int++ts.map V.int))=G4 at sc ec
 have g7:=g.trans sc
 obtain⟨us,w1,w2,w3,w4⟩:=B.w2.keep g7
 refine⟨nm,r,B9,hs++ts,⟨ln,l2,lc,us,rfl,g7 _ _ B.eN,B.gn,w1,w2,by have:=B.n60;omega,w4,ec,(by rw[w3];exact q60),by rw[bN];omega,B.r0,B.r10⟩,fun lwd G5 nlwd s5 e5=>?_⟩
 refine⟨_,rfl,_,rfl,?_⟩
 refine N0 ⟨_,rfl,lp,rfl,⟨_,SqL.of ((g7.trans s5) _ _ B.eP)⟩,?_⟩
 refine z2O (xs:=ps.map V.int) (fun j ys G'=>G'=G5/\ys=(z9u nm (fun z=>z0B (z0g (hs++ts)) B9 r (z0I (z0w (z0g (hs++ts)) B9 z)) z) (ps.take j)).map V.str) ⟨rfl,rfl⟩ (fun j ys G' hj hp=>?_) (fun j u ys G' hu hp=>?_) (fun ys G' hp=>?_)
 ·obtain⟨rfl,rfl⟩:=hp
  refine⟨SqL.of ((g7.trans s5) _ _ B.eP),z0f ?_⟩
  unfold z9u
  rw[b8,b8,bO]
  have:=B.p12
  omega
 ·obtain⟨rfl,rfl⟩:=hp
  rw[bG] at hu
  obtain⟨k,ek,rfl⟩:=cE.mp hu
  have hk:=B.pin k (bR ek)
  refine⟨_,rfl,_,rfl,lwd,_,k,_,rfl,rfl,SqL.of e5,y4b hk.1 hk.2,?_⟩
  unfold z9u
  rw[z0r ek,bE,bE]
  exact⟨rfl,rfl⟩
 obtain⟨rfl,rfl⟩:=hp
 rw[b8,bV]
 intro D hD
 refine⟨D,_,rfl,.inl (SqL.of z02),rfl,z2V _,?_⟩
 rw[if_neg bI,z6U,decide_eq_true ((y35 B.pin B.pn _).mpr (y1S B.k B.rise h60 B.r0 B.a2 B.dk tin lt))]
 exact q _ (g7.trans (s5.trans (z01 hD _)))
theorem z08.set{H:Hp}:∀{ds:List DV}{xs:List V} (i:Nat) {d:DV}{x:V},z08 H ds xs->A7 H d x->z08 H (ds.set i d) (xs.set i x)
 | [],_,i,d,x,h,t=>by
  have:=z0G h
  subst this
  exact .nil
 | d0::ds,_,0,d,x,h,t=>by
  obtain⟨x0,r,rfl,h1,h2⟩:=z09 h
  exact .cons t h2
 | d0::ds,_,i+1,d,x,h,t=>by
  obtain⟨x0,r,rfl,h1,h2⟩:=z09 h
  exact .cons h1 (z08.set i h2 t)
theorem y61{n:Nat}{k:Int}(h0:0≤k)(h:k<(n:Int)):ixN n k=some k.toNat:=by
 unfold ixN
 rw[if_pos h0,if_pos h]
theorem y3h{rows:List Row}{n m:Int}{w:Row}(h1:1≤n)(h2:n≤(rows.length:Int))(hm:1≤m):z0z (rows.set (n-1).toNat w) m=if m=n then w else z0z rows m:=by
 unfold z0z
 rw[bJ,bJ,List.getElem?_set]
 by_cases c:m=n
 ·subst c
  rw[if_pos rfl,if_pos rfl,if_pos (by omega)]
  rfl
 ·rw[if_neg c,if_neg (by omega)]
theorem y2P{nm:List Str}{rows:List Row}{w:Row}(R:Rws nm rows)(k:Nat)(h1:(w.map Prod.fst).Sublist nm)(h2:∀p∈w,0≤p.2/\p.2≤1000000):Rws nm (rows.set k w):=by
 refine⟨fun x hx=>?_,fun x hx=>?_⟩
 ·rcases List.mem_or_eq_of_mem_set hx with h|h
  ·exact R.sub x h
  ·exact h ▸ h1
 ·rcases List.mem_or_eq_of_mem_set hx with h|h
  ·exact R.val x h
  ·exact h ▸ h2
def y2R(rows B9:List Row)(ds:List Int):Prop:=∀m,1≤m->m∉ds->z0z B9 m=z0z rows m
theorem z9R{hs:List Int}{r:Int}{rows B9:List Row}(h60:∀x∈hs,1≤x/\x≤60)(h:y2R rows B9 (z2v hs r)):z4u hs r rows B9:=by
 refine⟨fun n hn=>(h n (h60 n hn).1 fun hd=>?_).symm,fun n h1 _ h2=>?_⟩
 ·exact(z0y.mp (z1L.mp hd).1).2.1 hn
 ·rw[h n h1 fun hd=>h2 (z1L.mp hd).2]
theorem y4D{rows B9:List Row}{ds:List Int}{n:Int}{w:Row}(h:y2R rows B9 ds)(h1:1≤n)(h2:n≤(B9.length:Int)):y2R rows (B9.set (n-1).toNat w) (ds++[n]):=fun m hm hd=>by
 rw[y3h h1 h2 hm,if_neg fun e=>hd (bX _ (bA.mpr e))]
 exact h m hm fun q=>hd (cM _ q)
theorem z6R{hs:List Int}{rows:List Row}{r:Int}{nl:List Str}{fs as:List Int}(k:F2 hs r (z2z (z1w hs rows r nl)) fs as)(h60:∀x∈hs,1≤x/\x≤60):0<fs.length↔∃z∈nl,z0B hs rows r (z0I (z0w hs rows z)) z="open":=by
 refine⟨fun h=>cY fun c=>?_,fun⟨z,hz,e⟩=>fK.mpr (y30 k hz e)⟩
 have e:z1w hs rows r nl=[]:=by
  unfold z1w
  rw[h8.mpr fun z hz=>by rw[decide_eq_true_eq];exact fun e=>c ⟨z,hz,e⟩]
  rfl
 rw[e] at k
 have len:=k.len
 cases as with
 | nil=>rw[len] at h;exact absurd h (by decide)
 | cons n t=>
  have hb:=k.mem n bQ
  unfold z10 at hb
  rw[bU,decide_eq_true_eq] at hb
  obtain⟨hd,hl⟩:=hb
  obtain⟨_,_,y,hy,hlt⟩:=z0y.mp (z1L.mp hd).1
  have:=h60 y hy
  have:(61:Int)<n:=hl
  omega
theorem y7G(M:Bl mg)(F:Fun K "law" "law" w0e f fd){A0:Addr}{Sh:ShP}(OS:S4 A0 ["put","had","latest"] Sh)
  (C0:Cal P w K mg base 1 "_law_at" z6S (w0c K)) (D8:Cal P w K mg base 1 "_law_pick" z4m y3Z) (K9:Cal P w K mg base 1 "_law_named" z4R y2v) (J2:Cal P w K mg base 3 "_law_numbers" z3C (z9t K))
  (O4:Cal P w K mg base 2 "_law_had" z75 y7l) (E9:Cal P w K mg base 2 "_law_sets" z4p (y2B K)) (D0:Cal P w K mg base 2 "_law_valued" z2Y z8S) (M6:Cal P w K mg base 2 "_law_dark" z6b (y34 K)) (D9:Cal P w K mg base 3 "_law_table" z3A (y0m K))
  (C4:Cal P w K mg base 10 "_law_bulletin" z2g (y3r Sh)) (F4:Cal P w K mg base 12 "_law_mended" z3Z y1z)
  (O1:Cal P w K mg base 8 "send_for" z3o (z43 Sh)) (M4:P9 P w K mg base 8 "send_for" z3o (z43 Sh) [V.non]):A5 P w K mg base CX0 14 f fd plaw (y4S K):=by
 have nd:=y7i.nd
 refine F.ok y7i (fun vs H Q E h=>?_) (fun cdv A outer s H vs Q E hr h=>?_)
 ·obtain⟨a,ns,rfl,_⟩:=h
  rfl
 obtain⟨a,ns,rfl,hS,h63,q⟩:=h
 refine⟨_,(z04 (z0l (i:=1) nd rfl (Or.inl rfl) (z0k K9 (rm hr) rfl (z00 (z0s z1l (z0k C0 (rm hr) rfl (z00 (pv 0) (z00 z06 z03))) z06) (z00 (z0s z1D z06 (z0k D8 (rm hr) rfl (z00 (z0s z0V (z0k C0 (rm hr) rfl (z00 (pv 0) (z00 z06 z03))) z06) (z00 z06 z03)))) z03)))) (z04 (z0l (i:=2) nd rfl (Or.inl rfl) (z0k J2 (rm hr) rfl (z00 (pv 0) (z00 (pv 1) z03)))) (z04 (z0l (i:=3) nd rfl (Or.inl rfl) (z0k D8 (rm hr) rfl (z00 (z0k C0 (rm hr) rfl (z00 (pv 0) (z00 z06 z03))) (z00 z06 z03)))) (z04 (z0l (i:=4) nd rfl (Or.inl rfl) (z0k O4 (rm hr) rfl (z00 (z0k C0 (rm hr) rfl (z00 (pv 0) (z00 z06 z03))) (z00 (z0b z0a rfl M.len bP (z00 (pv 2) z03)) z03)))) (z04 (z0l (i:=5) nd rfl (Or.inl rfl) (z0k D0 (rm hr) rfl (z00 (z0k E9 (rm hr) rfl (z00 (pv 1) (z00 (z0k C0 (rm hr) rfl (z00 (pv 0) (z00 z06 z03))) (z00 (z0b z0a rfl M.len bP (z00 (pv 2) z03)) z03)))) (z00 (z0k C0 (rm hr) rfl (z00 (pv 0) (z00 z06 z03))) z03)))) (z04 (z0l (i:=6) nd rfl (Or.inl rfl) (z0k M6 (rm hr) rfl (z00 (pv 4) (z00 (pv 3) z03)))) (z04 (z0l (i:=7) nd rfl (Or.inl rfl) (z1j (z00 (pv 2) (z00 (z0o z1v rfl M.list dD (z00 (pv 2) z03)) (z00 (z0o z1v rfl M.list dD (z00 (pv 2) z03)) z03))))) (z04 (z1h cC rfl (z18 (pv 6)) (z0j (i:=8) nd rfl (Or.inl rfl)) (z04 (y6f (z0K z0R (pv 5) (z0s z3r (pv 8) z06) (fun _ _=>rfl)) (y5W (z0K z0R (pv 7) z06 (fun _ _=>rfl)) (z0s z3r (pv 8) z06) y14)) (z05 (y6f (z1b z03) (y5W (z0K z0R (pv 7) z06 (fun _ _=>rfl)) (z0s z3r (pv 8) z06) y14))))) (z04 (z0l (i:=9) nd rfl (Or.inl rfl) (z0k C4 (rm hr) rfl (z00 (pv 1) (z00 (pv 3) (z00 (pv 2) (z00 (pv 4) z03)))))) (z04 (z0l (i:=10) nd rfl (Or.inl rfl) (z0s z0V (z0k C0 (rm hr) rfl (z00 (pv 0) (z00 z06 z03))) (z0b z0a rfl M.len bP (z00 (pv 1) z03)))) (z04 (z0l (i:=11) nd rfl (Or.inl rfl) (z0k D9 (rm hr) rfl (z00 (pv 1) (z00 (pv 4) (z00 (pv 2) (z00 (pv 3) z03)))))) (z04 (z0l (i:=12) nd rfl (Or.inl rfl) (y73 M4 (rm hr) rfl (z00 (pv 9) z03))) (z04 (z0l (i:=13) nd rfl (Or.inl rfl) (z0k O1 (rm hr) rfl (z00 (pv 9) (z00 (z0K z0R (pv 1) (pv 10) (fun _ _=>rfl)) z03)))) (z04 (z1h cC rfl (z18 (z1j (z00 (pv 12) (z00 (pv 13) z03)))) (z0j (i:=14) nd rfl (Or.inl rfl)) (z05 (z0N (PW.pt (z4v (z7S (z6s (z0b z0T rfl M.isinstance cH (z00 (pv 14) (z00 (z2s (v:=.ty "tuple") rfl M.tuple bT rfl) z03))))) (z4v (z0c z86 (z0b z0a rfl M.len bP (z00 (pv 14) z03)) z06 (z0n _)) (z2P (z7S (z6s (z0b z0T rfl M.isinstance cH (z00 (z0K z0U (pv 14) z06 (fun _ _=>rfl)) (z00 (z2s (v:=.ty "tuple") rfl M.tuple bT rfl) z03))))))))) (z05 (z0h z5g)) z0p))) (z04 (z0N (z0c z86 (z4I z2A (z0b z0a rfl M.len bP (z00 (z0K z0U (pv 13) z06 (fun _ _=>rfl)) z03)) z06 (z0n _)) (z4I z2r (z0K z0U (z0K z0U (pv 11) (pv 10) (fun _ _=>rfl)) z06 (fun _ _=>rfl)) z3R (z0n _)) (z0n _)) (z05 (z0h z5g)) z0p) (z04 (z0N (z0c z86 (z4I z2A (z0b z0a rfl M.len bP (z00 (z0K z0U (pv 12) z06 (fun _ _=>rfl)) z03)) z06 (z0n _)) (z4I z49 z3R (z1i ["_law_one"] [] [] rfl (z0u rfl (by decide +kernel) rfl (by decide +kernel) rfl rfl) (z2I (pv 11)) (fun _ _ _ _ _=>(z0j (i:=0) (show((["_law_one"]:List PySem.Str)++([]:List PySem.Str)).Nodup from by decide +kernel) rfl (Or.inl rfl))) (z0x (by decide)) z0d (fun _ _ _ _ _=>z1Y) (fun _ _ _ _ _=>(z0K (r:=N5 K) z0U (pv 0) z06 (fun _ _=>rfl)))) (by with_unfolding_all rfl)) (z0n _)) (z05 (z0h z5g)) z0p) (z04 (z0l (i:=15) nd rfl (Or.inl rfl) (z0k C0 (rm hr) rfl (z00 (pv 0) (z00 z06 z03)))) (z04 (z0N (z7S (z6s (z0k F4 (rm hr) rfl (z00 (pv 1) (z00 (pv 3) (z00 (pv 7) (z00 (pv 4) (z00 (z0K z0U (pv 13) z06 (fun _ _=>rfl)) (z00 (z1j (z00 (pv 10) z03)) (z00 (pv 15) z03)))))))))) (z05 (z0h z5g)) z0p) (z05 (z0h (z0k F4 (rm hr) rfl (z00 (pv 1) (z00 (pv 3) (z00 (pv 7) (z00 (pv 4) (z00 (z0K z0U (pv 12) z06 (fun _ _=>rfl)) (z00 (z0o (z8W rfl) rfl M.list dD (z00 (z0o y43 rfl M.range PyProof.Rows.boot_range (z00 (z0b z0a rfl M.len bP (z00 (pv 1) z03)) z03)) z03)) (z00 (pv 15) z03)))))))))))))))))))))))))))),?_⟩
 refine⟨_,rfl,a,ns,0,rfl,hS,dN 0,_,_,rfl,rfl,⟨by decide,by decide⟩,?_⟩
 refine⟨_,rfl,a,ns,0,rfl,hS,dN 0,_,_,rfl,rfl,(by show(0:Int)<12;decide),_,_,rfl,(by decide),fun nk h0 h1=>⟨_,_,rfl,rfl,?_⟩⟩
 refine⟨_,_,rfl,by omega,by omega,fun ln nm H1 nln s1 eN nlen N=>?_⟩
 have n1:1≤nm.length:=by omega
 have n12:nm.length≤12:=by omega
 have gn:E4 nm:=⟨n1,n12,N.nd⟩
 refine⟨_,rfl,_,rfl,a,ln,ns,nm,rfl,s1.seq hS,SqL.of eN,n1,n12,fun lr us rows H2 nlr s2 eR tl r60 R=>?_⟩
 refine⟨_,rfl,a,ns,4,rfl,(s1.trans s2).seq hS,by decide,_,_,rfl,(by decide),fun r r0 r1=>?_⟩
 have s12:=s1.trans s2
 have lus:us.length=rows.length:=by rw[tl.length,b8]
 refine⟨_,rfl,a,ns,5,rfl,s12.seq hS,by decide,_,rfl,lr,us,rfl,.inl (SqL.of eR),_,_,rfl,by omega,by omega,fun lh hs H3 nlh s3 e3 rise B3 hl60=>?_⟩
 have s13:=s12.trans s3
 have eN3:H3 ln=some (.lst (nm.map V.str)):=s3 _ _ (s2 _ _ eN)
 have eR3:H3 lr=some (.lst us):=s3 _ _ eR
 have tl3:z08 H3 (rows.map K4) us:=z08.keep s3 _ _ tl
 have hsr:∀x∈hs,1≤x/\x≤(rows.length:Int):=fun x hx=>by have:=B3 x hx;omega
 have h60:∀x∈hs,1≤x/\x≤60:=fun x hx=>by have:=hsr x hx;omega
 refine⟨_,rfl,_,rfl,a,ns,6,rfl,s13.seq hS,by decide,_,rfl,lr,us,rfl,.inl (SqL.of eR3),ln,nm,_,_,rfl,SqL.of eN3,n1,n12,by omega,by omega,fun ls xs ss H4 nls s4 e4 sa ssl ssn=>?_⟩
 have ssl':ss.length=rows.length:=by omega
 refine⟨_,rfl,a,ns,3,rfl,(s13.trans s4).seq hS,by decide,ls,xs,ss,_,rfl,e4,sa,by omega,(fun t ht=>by have:=(ssn t ht).length_le;omega),fun lo ous orows H5 nlo s5 e5 t5 nms5 val5=>?_⟩
 have ol:orows.length=rows.length:=by rw[<- ssl',<- nms5,b8]
 have OR:Rws nm orows:=⟨fun t ht=>ssn _ (nms5 ▸ cB.mpr ⟨t,ht,rfl⟩),val5⟩
 have olu:ous.length=rows.length:=by rw[t5.length,b8,ol]
 have s45:=s4.trans s5
 have eH5:=s45 _ _ e3
 have hl':hs.length≤60:=by omega
 refine⟨_,rfl,_,rfl,lh,hs,r,rfl,eH5,h60,by omega,r0,fun ld H6 nld s6 e6=>?_⟩
 have s46:=s45.trans s6
 replace s13:=s13.trans s46
 replace eN3:=s46 _ _ eN3
 replace eR3:=s46 _ _ eR3
 replace tl3:=z08.keep s46 _ _ tl3
 replace e3:=s46 _ _ e3
 replace e5:=s6 _ _ e5
 replace t5:=z08.keep s6 _ _ t5
 clear nms5 sa ssn ssl' val5 e4 eH5 s45 s46 s4 s5 s6 eN eR tl s1 s2 s3 s12 nln nlr nlh nls nlo nld
 refine⟨_,rfl,_,rfl,lr,us,rfl,.inl (SqL.of eR3),fun l1 hl1=>⟨_,rfl,lr,us,rfl,.inl (SqL.of (z01 hl1 _ _ _ eR3)),fun l2 hl2=>⟨(by show 3≤sizeLine;decide),fun lw hlw=>?_⟩⟩⟩
 have q1:=z01 hl1 (.lst us)
 have q2:=z01 hl2 (.lst us)
 have q3:=z01 hlw (.lst [V.ref lr,V.ref l1,V.ref l2])
 have f1:H6 l1=none:=hl1
 have f2:H6 l2=none:=q1.free hl2
 have fw:H6 lw=none:=q1.free (q2.free hlw)
 have e1:upd (upd (upd H6 l1 (.lst us)) l2 (.lst us)) lw (.lst [V.ref lr,V.ref l1,V.ref l2]) l1=some (.lst us):=q3 _ _ (q2 _ _ z02)
 have e2:upd (upd (upd H6 l1 (.lst us)) l2 (.lst us)) lw (.lst [V.ref lr,V.ref l1,V.ref l2]) l2=some (.lst us):=q3 _ _ z02
 have ew:upd (upd (upd H6 l1 (.lst us)) l2 (.lst us)) lw (.lst [V.ref lr,V.ref l1,V.ref l2]) lw=some (.lst [V.ref lr,V.ref l1,V.ref l2]):=z02
 have s7:=q1.trans (q2.trans q3)
 have n12':l1≠l2:=z0i z02 hl2
 have n1w:l1≠lw:=z0i (q2 _ _ z02) hlw
 have n2w:l2≠lw:=z0i z02 hlw
 generalize upd (upd (upd H6 l1 (.lst us)) l2 (.lst us)) lw (.lst [V.ref lr,V.ref l1,V.ref l2])=H7 at e1 e2 ew s7
 clear q1 q2 q3 hl1 hl2 hlw
 have dk:∀n∈z2v hs r,1≤n/\n≤(rows.length:Int):=fun n hn=>by
  obtain⟨⟨b1,b2⟩,_,y,hy,b3⟩:=z0y.mp (z1L.mp hn).1
  have:=hsr y hy
  omega
 refine⟨_,rfl,ld,rfl,⟨_,SqL.of (s7 _ _ e6)⟩,z1m (K:=K) (a:=ld) (xs:=(z2v hs r).map V.int) (fun i σ G=>∃(u1 u2:List V) (ra rb:List Row) (o:Option V),A4 H6 G/\G l1=some (.lst u1)/\G l2=some (.lst u2)/\G lw=some (.lst [V.ref lr,V.ref l1,V.ref l2])/\z08 G (ra.map K4) u1/\z08 G (rb.map K4) u2/\ra.length=rows.length/\rb.length=rows.length/\Rws nm ra/\Rws nm rb/\y2R rows ra ((z2v hs r).take i)/\y2R rows rb ((z2v hs r).take i)/\(∀n∈(z2v hs r).take i,z0z rb n=[])/\
   σ=[some (.ref a),some (.ref ln),some (.ref lr),some (.int r),some (.ref lh),some (.ref lo),some (.ref ld),some (.ref lw),o,none,none,none,none,none,none,none]) ⟨us,us,rows,rows,none,s7,e1,e2,ew,z08.keep s7 _ _ tl3,z08.keep s7 _ _ tl3,rfl,rfl,R,R,(fun _ _ _=>rfl),(fun _ _ _=>rfl),(fun n h=>nomatch h),rfl⟩ (fun i σ G _ ⟨_,_,_,_,_,g,_⟩=>SqL.of (g _ _ e6)) ?_ ?_⟩
 ·rintro i u σ G hi ⟨u1,u2,ra,rb,o,g,e1,e2,ew,t1,t2,la,lbb,Ra,Rb,ba,bb,nb,rfl⟩
  rw[bG] at hi
  obtain⟨n,en,rfl⟩:=cE.mp hi
  have hn:=dk n (bR en)
  have ek:n-1=(((n-1).toNat:Nat):Int):=by omega
  obtain⟨ov,eo,to⟩:=(z08.keep g _ _ t5).get (n-1).toNat (K4 (z0z orows n)) (by
   rw[bG]
   unfold z0z
   rw[bJ,bD (by omega)]
   rfl)
  have hw:z0z orows n∈orows:=by
   unfold z0z
   rw[bJ,bD (by omega)]
   exact eU _
  have k1:=t1.length
  have k2:=t2.length
  rw[b8] at k1 k2
  refine⟨_,rfl,_,rfl,_,_,rfl,rfl,lo,ous,_,_,rfl,rfl,SqL.of (g _ _ e5),(by rw[ek];exact z11 eo),?_⟩
  refine⟨_,rfl,lw,_,1,_,rfl,rfl,SqL.of ew,rfl,_,rfl,_,_,rfl,rfl,l1,u1,_,_,rfl,rfl,e1,y61 (by omega) (by omega),?_⟩
  have g2:A4 H6 (upd G l1 (.lst (u1.set (n-1).toNat ov))):=z1N g f1
  have e1':upd G l1 (.lst (u1.set (n-1).toNat ov)) l1=some (.lst (u1.set (n-1).toNat ov)):=z02
  have e2':upd G l1 (.lst (u1.set (n-1).toNat ov)) l2=some (.lst u2):=by rw[z0e n12'.symm];exact e2
  have ew':upd G l1 (.lst (u1.set (n-1).toNat ov)) lw=some (.lst [V.ref lr,V.ref l1,V.ref l2]):=by rw[z0e n1w.symm];exact ew
  have t1':z08 (upd G l1 (.lst (u1.set (n-1).toNat ov))) ((ra.set (n-1).toNat (z0z orows n)).map K4) (u1.set (n-1).toNat ov):=by
   rw[List.map_set]
   exact z08.over e1 (fun _ h=>by cases h) _ _ (z08.set _ t1 to)
  have t2':z08 (upd G l1 (.lst (u1.set (n-1).toNat ov))) (rb.map K4) u2:=z08.over e1 (fun _ h=>by cases h) _ _ t2
  generalize upd G l1 (.lst (u1.set (n-1).toNat ov))=G2 at g2 e1' e2' ew' t1' t2'
  refine⟨(by show 0≤sizeLine;decide),fun t0 ht0=>?_⟩
  have q0:=z01 ht0 (.tup [])
  have e0:upd G2 t0 (.tup []) t0=some (.tup []):=z02
  replace g2:=g2.trans q0
  replace e1':=q0 _ _ e1'
  replace e2':=q0 _ _ e2'
  replace ew':=q0 _ _ ew'
  replace t1':=z08.keep q0 _ _ t1'
  replace t2':=z08.keep q0 _ _ t2'
  generalize upd G2 t0 (.tup [])=G3 at g2 e0 e1' e2' ew' t1' t2'
  refine⟨_,rfl,lw,_,2,_,rfl,rfl,SqL.of ew',rfl,_,rfl,_,_,rfl,rfl,l2,u2,_,_,rfl,rfl,e2',y61 (by omega) (by omega),?_⟩
  refine⟨u1.set (n-1).toNat ov,u2.set (n-1).toNat (.ref t0),ra.set (n-1).toNat (z0z orows n),rb.set (n-1).toNat [],_,z1N g2 f2,(by rw[z0e n12'];exact e1'),z02,(by rw[z0e n2w.symm];exact ew'),z08.over e2' (fun _ h=>by cases h) _ _ t1',?_,by rw[List.length_set];exact la,by rw[List.length_set];exact lbb,y2P Ra _ (OR.sub _ hw) (OR.val _ hw),y2P Rb _ (List.nil_sublist _) (fun p h=>nomatch h),?_,?_,fun m hm=>?_,rfl⟩
  ·rw[List.map_set]
   exact z08.over e2' (fun _ h=>by cases h) _ _ (z08.set _ t2' (z0A e0 (by show 0≤1000000;decide) .nil))
  ·rw[z0r en]
   exact y4D ba hn.1 (by omega)
  ·rw[z0r en]
   exact y4D bb hn.1 (by omega)
  ·rw[z0r en] at hm
   have m1:1≤m:=by
    rcases bM.mp hm with h|h
    ·exact(dk m (gA h)).1
    ·rw[bA.mp h]
     exact hn.1
   rw[y3h hn.1 (by omega) m1]
   split
   ·rfl
   ·rcases bM.mp hm with h|h
    ·exact nb m h
    ·exact absurd (bA.mp h) (by assumption)
 rintro σ H8 ⟨u1,u2,ra,rb,o,g,e1,e2,ew,t1,t2,la,lbb,Ra,Rb,ba,bb,nb,rfl⟩
 rw[b8,bV] at ba bb nb
 have aa:=z9R h60 ba
 have ab:=z9R h60 bb
 replace s13:=s13.trans g
 replace eN3:=g _ _ eN3
 replace eR3:=g _ _ eR3
 replace tl3:=z08.keep g _ _ tl3
 replace e3:=g _ _ e3
 clear ba bb e5 t5 e6 g f1 f2 fw OR
 have hl60':hs.length≤60:=by omega
 refine⟨_,rfl,_,rfl,_,rfl,_,rfl,nm,r,rows,hs,⟨ln,lr,lh,us,rfl,eN3,gn,eR3,tl3,r60,R,e3,hsr,by omega,r0,by omega⟩,fun x fq had H9 s9 sh hm=>?_⟩
 have er:z0g had=hs:=z4t rise h60 hm
 have hadr:∀n∈had,1≤n/\n≤(rows.length:Int):=fun n hn=>hsr n ((hm n).mp hn)
 have s139:=s13.trans s9
 have r12:=y3m R n12
 have hnd:hs.Nodup:=rise.imp fun h=>gN h
 have lnm:(nm.map V.str).length=nm.length:=b8 _
 obtain⟨pl,hpl⟩:∃pl,ns.getD (7:Int).toNat 0%(((nm.map V.str).length:Nat):Int)=pl:=⟨_,rfl⟩
 have p0:0≤pl:=by rw[<- hpl];exact cQ _ (by omega)
 have p1:pl<(nm.length:Int):=by rw[<- hpl,<- lnm];exact cK _ (by omega)
 obtain⟨z,ez⟩:∃z,nm[pl.toNat]? = some z:=⟨_,bD (by omega)⟩
 have ap:atI (nm.map V.str) pl=some (.str z):=by
  rw[show pl=((pl.toNat:Nat):Int) by omega]
  exact z11 (by rw[bG,ez];rfl)
 refine⟨_,rfl,a,ns,7,rfl,s139.seq hS,by decide,_,rfl,ln,_,rfl,.inl (SqL.of (s9 _ _ eN3)),_,_,rfl,rfl,by rw[b8];omega,?_⟩
 refine⟨_,rfl,_,rfl,_,rfl,_,rfl,ln,lh,lr,nm,hs,us,rows,r,rfl,SqL.of (s9 _ _ eN3),n12,s9 _ _ e3,by omega,hnd,h60,(fun n hn=>(hsr n hn).2),SqL.of (s9 _ _ eR3),z08.keep s9 _ _ tl3,r12,r0,fun tv H10 s10 tt=>?_⟩
 refine⟨_,rfl,x,none,fq,nm,r,rows,had,rfl,OS.same sh s10,(fun z h=>h),gn,R,r60,hadr,r0,by omega,fun v1 H11 s11 pw=>?_⟩
 have c11:=s9.trans (s10.trans s11)
 refine⟨_,rfl,_,rfl,_,rfl,ln,_,_,_,rfl,rfl,SqL.of (c11 _ _ eN3),(by rw[hpl];exact ap),x,some z,fq,nm,r,rows,had,rfl,OS.same sh (s10.trans s11),(fun y h=>by rw[bA.mp h];exact bR ez),gn,R,r60,hadr,r0,by omega,fun v2 H12 s12 pa=>?_⟩
 rw[er] at pw pa
 obtain⟨w0,wf,wa,fs1,as1,rfl,ww,wwf,wwa,k1⟩:=pw.keep s12
 obtain⟨b0,bf,ba,fs2,as2,rfl,ww2,wwf2,wwa2,k2⟩:=pa
 have c12:=c11.trans s12
 have s102:=s11.trans s12
 replace tt:=A7.keep s102 _ _ tt
 refine⟨_,rfl,_,rfl,(by show 2≤sizeLine;decide),fun lq hlq=>?_⟩
 have eq:upd H12 lq (.lst [V.ref w0,V.ref b0]) lq=some (.lst [V.ref w0,V.ref b0]):=z02
 have sq:=z01 hlq (.lst [V.ref w0,V.ref b0])
 generalize upd H12 lq (.lst [V.ref w0,V.ref b0])=H13 at eq sq
 refine⟨lq,rfl,⟨_,SqL.of eq⟩,z1m (K:=K) (a:=lq) (xs:=[V.ref w0,V.ref b0]) (fun _ σ G=>G=H13/\∃o2:Option V,σ=[some (.ref a),some (.ref ln),some (.ref lr),some (.int r),some (.ref lh),some (.ref lo),some (.ref ld),some (.ref lw),o,some (.ref x),some (.int pl),some tv,some (.ref w0),some (.ref b0),o2,none]) ⟨rfl,none,by rw[<- hpl];rfl⟩ (fun i σ G _ hp=>by rw[hp.1];exact SqL.of eq) (fun i y σ G hy hp=>?_) (fun σ G hp=>?_)⟩
 ·obtain⟨rfl,o2,rfl⟩:=hp
  obtain⟨t,tf,ta,ks,rfl,h1,h2⟩:∃(t tf ta:Addr) (ks:List Int),y=.ref t/\G t=some (.tup [.ref tf,.ref ta])/\G tf=some (.tup (ks.map V.int)):=by
   match i,hy with
   | 0,hy=>cases hy;exact⟨w0,wf,wa,fs1,rfl,sq _ _ ww,sq _ _ wwf⟩
   | 1,hy=>cases hy;exact⟨b0,bf,ba,fs2,rfl,sq _ _ ww2,sq _ _ wwf2⟩
  refine⟨_,rfl,_,_,_,_,rfl,.tup h1,z99,_,rfl,C6 ⟨_,rfl,t,_,rfl,.inr (SqT.of h1),rfl,_,rfl,C6 ⟨_,rfl,t,_,0,_,rfl,rfl,SqT.of h1,rfl,_,_,_,_,rfl,.tup h2,z99,_,rfl,C6 ⟨rfl,_,rfl⟩⟩⟩⟩
 obtain⟨rfl,o2,rfl⟩:=hp
 have e2':z0g hs=hs:=z4t rise h60 fun _=>j9
 replace c12:=c12.trans sq
 replace tt:=A7.keep sq _ _ tt
 replace ww:=sq _ _ ww
 replace wwf:=sq _ _ wwf
 replace ww2:=sq _ _ ww2
 replace wwf2:=sq _ _ wwf2
 obtain⟨ta,xs,rfl,ea,lx,tat⟩:=y3L tt
 obtain⟨b,eb,hb⟩:=tat _ _ ez
 unfold X9 at hb
 rw[e2'] at hb
 have lm2:(fs2.map V.int).length=fs2.length:=b8 _
 refine⟨_,rfl,b0,_,0,_,rfl,rfl,SqT.of ww2,rfl,bf,_,rfl,.inr (SqT.of wwf2),?_⟩
 refine⟨_,_,rfl,rfl,_,rfl,_,rfl,ta,xs,_,_,rfl,rfl,SqT.of ea,(by rw[show pl=((pl.toNat:Nat):Int) by omega];exact z11 eb),b,_,1,_,rfl,rfl,SqT.of hb,rfl,rfl,rfl,_,rfl,?_⟩
 have b2:V.bl (decide ((0:Int)<(((fs2.map V.int).length:Nat):Int)))=V.bl (decide (V.str (z0B hs rows r (z0I (z0w hs rows z)) z)=V.str "open")):=congrArg V.bl (decide_eq_decide.mpr (by
  rw[lm2]
  refine⟨fun h=>?_,fun h=>?_⟩
  ·obtain⟨y,hy,e⟩:=(z6R k2 h60).mp (by omega)
   rw[bA.mp hy] at e
   rw[e]
  ·have:=(z6R k2 h60).mpr ⟨z,bA.mpr rfl,V.str.inj h⟩
   omega))
 have b2':(!decide (V.bl (decide ((0:Int)<(((fs2.map V.int).length:Nat):Int)))=V.bl (decide (V.str (z0B hs rows r (z0I (z0w hs rows z)) z)=V.str "open"))))=false:=by rw[decide_eq_true b2];rfl
 refine A9 (fun c=>nomatch (show true=false from c.symm.trans b2')) (fun _=>?_)
 clear b2 b2' lm2
 have lm1:(fs1.map V.int).length=fs1.length:=b8 _
 refine⟨_,rfl,w0,_,0,_,rfl,rfl,SqT.of ww,rfl,wf,_,rfl,.inr (SqT.of wwf),_,_,rfl,rfl,?_⟩
 refine⟨_,rfl,ta,rfl,⟨_,SqT.of ea⟩,?_⟩
 refine z1O (xs:=xs) (fun j ys G2=>G2=G/\ys=(z4Q (nm.take j) hs rows r).map V.str) ⟨rfl,rfl⟩ (fun j ys G2 hj hp=>?_) (fun j u ys G2 hu hp=>?_) (fun ys G2 hp=>?_)
 ·obtain⟨rfl,rfl⟩:=hp
  refine⟨SqT.of ea,z0f ?_⟩
  unfold z4Q
  rw[b8,b8,bO]
  omega
 ·obtain⟨rfl,rfl⟩:=hp
  have hk:j<nm.length:=by have:=(cD.mp hu).1;omega
  obtain⟨bj,ebj,hbj⟩:=tat j nm[j] (bD hk)
  rw[hu] at ebj
  cases ebj
  unfold X9 at hbj
  rw[e2'] at hbj
  refine⟨_,rfl,bj,_,1,_,rfl,rfl,SqT.of hbj,rfl,rfl,?_⟩
  unfold z4Q
  rw[z0r (bD hk),bE,bE]
  rfl
 obtain⟨rfl,rfl⟩:=hp
 intro D hD
 rw[lx,bV]
 have sD:=z01 hD (.lst ((z4Q nm hs rows r).map V.str))
 have eD:upd G2 D (.lst ((z4Q nm hs rows r).map V.str)) D=some (.lst ((z4Q nm hs rows r).map V.str)):=z02
 refine⟨D,_,rfl,.inl (SqL.of eD),rfl,z2V _,?_⟩
 rw[if_neg bI,z6U]
 generalize upd G2 D (.lst ((z4Q nm hs rows r).map V.str))=H14 at sD
 refine⟨rfl,_,rfl,?_⟩
 have b1:V.bl (decide ((0:Int)<(((fs1.map V.int).length:Nat):Int)))=V.bl (decide (("open":Str)∈z4Q nm hs rows r)):=congrArg V.bl (decide_eq_decide.mpr (by
  rw[lm1]
  refine⟨fun h=>?_,fun h=>?_⟩
  ·obtain⟨y,hy,e⟩:=(z6R k1 h60).mp (by omega)
   exact cB.mpr ⟨y,hy,e⟩
  ·obtain⟨y,hy,e⟩:=cB.mp h
   have:=(z6R k1 h60).mpr ⟨y,hy,e⟩
   omega))
 have b1':(!decide (V.bl (decide ((0:Int)<(((fs1.map V.int).length:Nat):Int)))=V.bl (decide (("open":Str)∈z4Q nm hs rows r))))=false:=by rw[decide_eq_true b1];rfl
 refine A9 (fun c=>nomatch (show true=false from c.symm.trans b1')) (fun _=>?_)
 clear b1 b1'
 have c14:=c12.trans sD
 refine⟨_,rfl,a,ns,8,rfl,(s13.trans c14).seq hS,by decide,?_⟩
 refine⟨_,rfl,_,rfl,_,rfl,_,rfl,_,rfl,b0,_,0,_,rfl,rfl,SqT.of (sD _ _ ww2),rfl,_,rfl,(by show 1≤sizeLine;decide),fun lp hlp=>⟨_,rfl,?_⟩⟩
 have mend:∀{G:Hp}{lb lp:Addr}{nl:List Str}{fs as ps:List Int},A4 H8 G->G lb=some (.tup (fs.map V.int))->F2 hs r (z2z (z1w hs rows r nl)) fs as->G lp=some (.lst (ps.map V.int))->(∀k∈ps,0≤k/\k<(nm.length:Int))->ps.length≤12->(∀z,z∈nl↔∃k∈ps,nm[k.toNat]? = some z)->X2 G ln lw lr l1 l2 lh lb lp nm nl r rows ra rb hs fs as ps rows.length:=fun {G lb lp nl fs as ps} s hb k hp h1 h2 h3=>
  ⟨s _ _ eN3,gn,r0,by omega,s _ _ ew,z3k.keep s ⟨us,eR3,tl3,rfl,R⟩,z3k.keep s ⟨u1,e1,t1,la,Ra⟩,z3k.keep s ⟨u2,e2,t2,lbb,Rb⟩,r60,s _ _ e3,rise,hsr,hb,k,hp,h1,h2,h3,aa,ab,nb⟩
 have sp:=z01 hlp (.lst [V.int pl])
 refine⟨ln,lw,lr,l1,l2,lh,bf,lp,nm,[z],r,_,rows,ra,rb,hs,fs2,as2,[pl],rows.length,rfl,mend (c14.trans sp) (sp _ _ (sD _ _ wwf2)) k2 z02 (fun k hk=>by rw[bA.mp hk];exact⟨p0,p1⟩) (by show 1≤12;decide) (fun y=>?_),fun H15 s15=>⟨_,rfl,C6 ?_⟩⟩
 ·rw[bA]
  refine⟨fun h=>⟨pl,bA.mpr rfl,h ▸ ez⟩,fun⟨k,hk,e⟩=>?_⟩
  rw[bA.mp hk,ez] at e
  injection e with e
  exact e.symm
 have w09:=sD.trans (sp.trans s15)
 have c15:=c12.trans w09
 refine⟨_,rfl,_,rfl,_,rfl,_,rfl,_,rfl,w0,_,0,_,rfl,rfl,SqT.of (w09 _ _ ww),rfl,_,rfl,ln,_,rfl,.inl (SqL.of (c15 _ _ eN3)),_,rfl,fun pr hpr=>⟨pr,_,_,rfl,z02,?_⟩⟩
 refine⟨⟨by decide,by decide,by omega,by omega⟩,by omega,fun lp2 hlp2=>⟨_,rfl,?_⟩⟩
 have sr:=(z01 hpr (.rng 0 (((nm.map V.str).length:Nat):Int))).trans (z01 hlp2 (.lst (N4 0 ((((nm.map V.str).length:Nat):Int)-0).toNat)))
 have ep:upd (upd H15 pr (.rng 0 (((nm.map V.str).length:Nat):Int))) lp2 (.lst (N4 0 ((((nm.map V.str).length:Nat):Int)-0).toNat)) lp2=some (.lst ((upI 0 nm.length).map V.int)):=by
  rw[z02,y3B,lnm,show(((nm.length:Nat):Int)-0).toNat=nm.length by omega]
 refine⟨ln,lw,lr,l1,l2,lh,wf,lp2,nm,nm,r,_,rows,ra,rb,hs,fs1,as1,upI 0 nm.length,rows.length,rfl,mend (c15.trans sr) (sr _ _ (w09 _ _ wwf)) k1 ep (fun k hk=>by have:=z17.mp hk;omega) (by rw[z0M];exact n12) (fun y=>?_),fun H16 s16=>q _⟩
 constructor
 ·intro hy
  obtain⟨k,hk,e⟩:=List.getElem_of_mem hy
  exact⟨(k:Int),z17.mpr ⟨by omega,by omega⟩,by rw[dX,bD hk,e]⟩
 ·rintro⟨k,_,e⟩
  exact bR e
end
theorem y7U{l:PySem.W.OpenLaw}{w:World}{K:PySem.W.Frag}{h:Heap}{mg:Str->Option Value}{fa:Addr}(X:K.In h)(G:h.Ns mainGlobals mg)(hfa:mg "law"=some (.ref fa))
  {f0 f1 f2 f3 f4 f5 f6 f7 f8 f9 f10 f11 f12 f13 f14 f15 f16 f17 f18 f19 f20 f21 f22 f23 f24 f25 f26 f27 f28 f29 f30 f31 f32 f33 f34 f35 f36 f37 f38 f39 f40 f41 f42 f43 f44 f45 f46 f47 f48 f49 f50 f51 f52 f53 f54 f55 f56 f57 f58 f59 f60 f61 f62 f63 f64 f65 f66 f67 f68 f69 f70 A1 A0 A3 T18 T45:Addr}{T3 R8 Q5 S2 Q3 S0 w0H w0g w0s Z3 W5:Tok}
  (cOffice:DfC K "Office" A1)
  (cShelf:DfC K "Shelf" A0)
  (cBook:DfC K "Book" A3)
  (nOffice_names:PySem.W.findIn K (.ref A1) "names"=some none)
  (nOffice_reach:PySem.W.findIn K (.ref A1) "reach"=some none)
  (nOffice_written:PySem.W.findIn K (.ref A1) "written"=some none)
  (nShelf_names:PySem.W.findIn K (.ref A0) "names"=some none)
  (nShelf_reach:PySem.W.findIn K (.ref A0) "reach"=some none)
  (nShelf_issues:PySem.W.findIn K (.ref A0) "issues"=some none)
  (nBook_office:PySem.W.findIn K (.ref A3) "office"=some none)
  (nBook_readers:PySem.W.findIn K (.ref A3) "readers"=some none)
  (nBook_done:PySem.W.findIn K (.ref A3) "done"=some none)
  (a0:DfT K "lacking_numbers" z2q .none f0)
  (a1:DfT K "reached_by" z4N .none f1)
  (a2:DfT K "teller_of" z6h .none f2)
  (a3:DfT K "lacking_with_tellers" z1u .none f3)
  (a4:DfT K "dark_numbers" z3P .none f4)
  (a5:DfT K "dark_numbers_behind" z1G .none f5)
  (a6:DfT K "refuse_bad_names" z28 .none f6)
  (a7:DfT K "refuse_bad_reach" z24 .none f7)
  (a8:DfT K "bulletin_names" z2G .none f8)
  (a9:DfT K "refuse_unknown_name" z1H .none f9)
  (a10:DfT K "held_for" z7e .none f10)
  (a11:DfT K "names_told_of" z3a .none f11)
  (a12:DfT K "gaps_of" z94 .none f12)
  (a13:DfT K "set_again" z64 .none f13)
  (a14:DfT K "state_of" z7E .none f14)
  (a15:DfT K "state_and_held" z2N .none f15)
  (a16:DfT K "knowledge" z5U .none f16)
  (a17:DfT K "fewest_numbers" z2R .none f17)
  (a18:DfT K "send_for" z73 (.ref T18) f18)
  (a19:DfT K "tail_for" z70 .none f19)
  (a20:DfT K "refuse_bad_value" z29 .none f20)
  (a21:DfT K "refuse_bad_rows" z2p .none f21)
  (a22:DfT K "rows_in_order" z3c .none f22)
  (a23:DfT K "names_of_rows" z38 .none f23)
  (a24:DfM K A1 "__init__" "Office.__init__" z2o .none f24)
  (a25:DfM K A1 "refuse_writing" "Office.refuse_writing" z1p .none f25)
  (a26:DfM K A1 "write" "Office.write" z3E .none f26)
  (a27:DfM K A1 "latest" "Office.latest" z3d .none f27)
  (a28:DfM K A1 "issue" "Office.issue" z3B .none f28)
  (a29:DfM K A0 "__init__" "Shelf.__init__" z2H .none f29)
  (a30:DfM K A0 "put" "Shelf.put" z63 .none f30)
  (a31:DfM K A0 "had" "Shelf.had" z5L .none f31)
  (a32:DfM K A0 "latest" "Shelf.latest" z3G .none f32)
  (a33:DfM K A0 "rows_of" "Shelf.rows_of" z3g .none f33)
  (a34:DfM K A0 "tail_of" "Shelf.tail_of" z37 .none f34)
  (a35:DfT K "refuse_bad_readers" z1R .none f35)
  (a36:DfM K A3 "__init__" "Book.__init__" z3e .none f36)
  (a37:DfM K A3 "refuse_unknown_reader" "Book.refuse_unknown_reader" z0X .none f37)
  (a38:DfM K A3 "refuse_further_deed" "Book.refuse_further_deed" z19 .none f38)
  (a39:DfM K A3 "write" "Book.write" z5d .none f39)
  (a40:DfM K A3 "deliver" "Book.deliver" z3F .none f40)
  (a41:DfM K A3 "latest" "Book.latest" z48 .none f41)
  (a42:DfM K A3 "issue" "Book.issue" z4T .none f42)
  (a43:DfM K A3 "deeds" "Book.deeds" z59 .none f43)
  (a44:DfM K A3 "deed" "Book.deed" z6f .none f44)
  (a45:DfM K A3 "shelf" "Book.shelf" z55 (.ref T45) f45)
  (a46:DfT K "_law_at" z8M .none f46)
  (a47:DfT K "_law_pick" z5O .none f47)
  (a48:DfT K "_law_row" z7k .none f48)
  (a49:DfT K "_law_whole" z5a .none f49)
  (a50:DfT K "_law_same" z4s .none f50)
  (a51:DfT K "_law_named" z53 .none f51)
  (a52:DfT K "_law_doubled" z3H .none f52)
  (a53:DfT K "_law_sets" z65 .none f53)
  (a54:DfT K "_law_value" z4U .none f54)
  (a55:DfT K "_law_valued" z42 .none f55)
  (a56:DfT K "_law_had" z7I .none f56)
  (a57:DfT K "_law_shuffled" z3f .none f57)
  (a58:DfT K "_law_teller" z4e .none f58)
  (a59:DfT K "_law_gaps" z61 .none f59)
  (a60:DfT K "_law_held" z5W .none f60)
  (a61:DfT K "_law_again" z4O .none f61)
  (a62:DfT K "_law_state" z5e .none f62)
  (a63:DfT K "_law_table" z5b .none f63)
  (a64:DfT K "_law_dark" z60 .none f64)
  (a65:DfT K "_law_numbers" z3M .none f65)
  (a66:DfT K "_law_bulletin" z3n .none f66)
  (a67:DfT K "_law_words" z4W .none f67)
  (a68:DfT K "_law_fewer" z4Z .none f68)
  (a69:DfT K "_law_mended" z4j .none f69)
  (a70:DfT K "law" w0e .none f70)
  (d18:DfD K T18 #[Value.none])
  (d45:DfD K T45 #[Value.none])
  (zlen:PySem.W.nsIn K mainGlobals "len"=some none) (zrange:PySem.W.nsIn K mainGlobals "range"=some none) (ztuple:PySem.W.nsIn K mainGlobals "tuple"=some none) (zlist:PySem.W.nsIn K mainGlobals "list"=some none) (zmax:PySem.W.nsIn K mainGlobals "max"=some none) (zmin:PySem.W.nsIn K mainGlobals "min"=some none) (zsorted:PySem.W.nsIn K mainGlobals "sorted"=some none) (zisinstance:PySem.W.nsIn K mainGlobals "isinstance"=some none) (zbool:PySem.W.nsIn K mainGlobals "bool"=some none) (zint:PySem.W.nsIn K mainGlobals "int"=some none) (zstr:PySem.W.nsIn K mainGlobals "str"=some none) (zset:PySem.W.nsIn K mainGlobals "set"=some none) (zreversed:PySem.W.nsIn K mainGlobals "reversed"=some none) (zdict:PySem.W.nsIn K mainGlobals "dict"=some none) (zzip:PySem.W.nsIn K mainGlobals "zip"=some none) (zall:PySem.W.nsIn K mainGlobals "all"=some none) (vMOST_NAMES:PySem.W.nsIn K mainGlobals "MOST_NAMES"=some (some (.int 12 T3))) (vMOST_REACH:PySem.W.nsIn K mainGlobals "MOST_REACH"=some (some (.int 10 R8))) (vMOST_NUMBERS:PySem.W.nsIn K mainGlobals "MOST_NUMBERS"=some (some (.int 60 Q5))) (vMOST_VALUE:PySem.W.nsIn K mainGlobals "MOST_VALUE"=some (some (.int 1000000 S2))) (vMOST_READERS:PySem.W.nsIn K mainGlobals "MOST_READERS"=some (some (.int 10 Q3))) (vMOST_DEEDS:PySem.W.nsIn K mainGlobals "MOST_DEEDS"=some (some (.int 400 S0))) (vSURE:PySem.W.nsIn K mainGlobals "SURE"=some (some (.str "sure" w0H))) (vSTALE:PySem.W.nsIn K mainGlobals "STALE"=some (some (.str "stale" w0g))) (vOPEN:PySem.W.nsIn K mainGlobals "OPEN"=some (some (.str "open" w0s))) (vWRITE:PySem.W.nsIn K mainGlobals "WRITE"=some (some (.str "write" Z3))) (vDELIVER:PySem.W.nsIn K mainGlobals "DELIVER"=some (some (.str "deliver" W5))) :
  ∃fd:FuncData,(∀(s:Shared) (v:Value),BindsTo s fd ⟨[v],[]⟩ [("_law_script",v)])/\∀base:Heap,K.In base->base.Ns mainGlobals mg->A5 l.prog w K mg base CX0 14 fa fd ["_law_script"] (y4S K):=by
 have M:Bl mg:=⟨cL X G zlen,cL X G zrange,cL X G ztuple,cL X G zlist,cL X G zmax,cL X G zmin,cL X G zsorted,cL X G zisinstance,cL X G zbool,cL X G zint,cL X G zstr,cL X G zset,cL X G zreversed,cL X G zdict,cL X G zzip,cL X G zall,⟨_,d9 X G vMOST_NAMES⟩,⟨_,d9 X G vMOST_REACH⟩,⟨_,d9 X G vMOST_NUMBERS⟩,⟨_,d9 X G vMOST_VALUE⟩,⟨_,d9 X G vMOST_READERS⟩,⟨_,d9 X G vMOST_DEEDS⟩,⟨_,d9 X G vSURE⟩,⟨_,d9 X G vSTALE⟩,⟨_,d9 X G vOPEN⟩,⟨_,d9 X G vWRITE⟩,⟨_,d9 X G vDELIVER⟩⟩
 have D5:I0 K mg A1:=⟨cOffice.cls,cOffice.nm X G,nOffice_names,nOffice_reach,nOffice_written⟩
 have C3:C7 K mg A0:=⟨cShelf.cls,cShelf.nm X G,nShelf_names,nShelf_reach,nShelf_issues⟩
 have D1:F9 K mg A3:=⟨cBook.cls,cBook.nm X G,nBook_office,nBook_readers,nBook_done⟩
 obtain⟨_,Flacking_numbers⟩:=z0D X G a0
 obtain⟨_,Freached_by⟩:=z0D X G a1
 obtain⟨_,Fteller_of⟩:=z0D X G a2
 obtain⟨_,Flacking_with_tellers⟩:=z0D X G a3
 obtain⟨_,Fdark_numbers⟩:=z0D X G a4
 obtain⟨_,Fdark_numbers_behind⟩:=z0D X G a5
 obtain⟨_,Frefuse_bad_names⟩:=z0D X G a6
 obtain⟨_,Frefuse_bad_reach⟩:=z0D X G a7
 obtain⟨_,Fbulletin_names⟩:=z0D X G a8
 obtain⟨_,Frefuse_unknown_name⟩:=z0D X G a9
 obtain⟨_,Fheld_for⟩:=z0D X G a10
 obtain⟨_,Fnames_told_of⟩:=z0D X G a11
 obtain⟨_,Fgaps_of⟩:=z0D X G a12
 obtain⟨_,Fset_again⟩:=z0D X G a13
 obtain⟨_,Fstate_of⟩:=z0D X G a14
 obtain⟨_,Fstate_and_held⟩:=z0D X G a15
 obtain⟨_,Fknowledge⟩:=z0D X G a16
 obtain⟨_,Ffewest_numbers⟩:=z0D X G a17
 obtain⟨_,Fsend_for⟩:=y7a X G a18 d18
 have V1:=Fsend_for.1.binds (ps:=["shelf","name"]) (ds:=[]) fun _ _ _ _ _ _ us hl=>X6 (p:=fun us=>∃k,bindArgs _ ⟨us,[]⟩=seqItems? _ >>= k/\k (some _)=pure (List.zip _ (us++[]))) hl fun _ _=>⟨_,rfl,rfl⟩
 have T9:=Fsend_for.1.binds (ps:=["shelf","name"]) (ds:=[Value.none]) fun _ _ _ _ _ _ us hl=>O7 (p:=fun us=>∃k,bindArgs _ ⟨us,[]⟩=seqItems? _ >>= k/\k (some _)=pure (List.zip _ (us++[Value.none]))) (Nat.succ.inj (hl)) fun _=>⟨_,rfl,rfl⟩
 obtain⟨_,Ftail_for⟩:=z0D X G a19
 obtain⟨_,Frefuse_bad_value⟩:=z0D X G a20
 obtain⟨_,Frefuse_bad_rows⟩:=z0D X G a21
 obtain⟨_,Frows_in_order⟩:=z0D X G a22
 obtain⟨_,Fnames_of_rows⟩:=z0D X G a23
 obtain⟨_,FOffice___init__⟩:=y0u cOffice a24
 obtain⟨_,FOffice_refuse_writing⟩:=z1z a25
 obtain⟨_,FOffice_write⟩:=z1z a26
 obtain⟨_,FOffice_latest⟩:=z1z a27
 obtain⟨_,FOffice_issue⟩:=z1z a28
 obtain⟨_,FShelf___init__⟩:=y0u cShelf a29
 obtain⟨_,FShelf_put⟩:=z1z a30
 obtain⟨_,FShelf_had⟩:=z1z a31
 obtain⟨_,FShelf_latest⟩:=z1z a32
 obtain⟨_,FShelf_rows_of⟩:=z1z a33
 obtain⟨_,FShelf_tail_of⟩:=z1z a34
 obtain⟨_,Frefuse_bad_readers⟩:=z0D X G a35
 obtain⟨_,FBook___init__⟩:=y0u cBook a36
 obtain⟨_,FBook_refuse_unknown_reader⟩:=z1z a37
 obtain⟨_,FBook_refuse_further_deed⟩:=z1z a38
 obtain⟨_,FBook_write⟩:=z1z a39
 obtain⟨_,FBook_deliver⟩:=z1z a40
 obtain⟨_,FBook_latest⟩:=z1z a41
 obtain⟨_,FBook_issue⟩:=z1z a42
 obtain⟨_,FBook_deeds⟩:=z1z a43
 obtain⟨_,FBook_deed⟩:=z1z a44
 obtain⟨_,FBook_shelf⟩:=y4Y a45 d45
 have S6:=FBook_shelf.1.binds (ps:=["self","reader","deed"]) (ds:=[]) fun _ _ _ _ _ _ us hl=>V3 (p:=fun us=>∃k,bindArgs _ ⟨us,[]⟩=seqItems? _ >>= k/\k (some _)=pure (List.zip _ (us++[]))) hl fun _ _ _=>⟨_,rfl,rfl⟩
 have R6:=FBook_shelf.1.binds (ps:=["self","reader","deed"]) (ds:=[Value.none]) fun _ _ _ _ _ _ us hl=>X6 (p:=fun us=>∃k,bindArgs _ ⟨us,[]⟩=seqItems? _ >>= k/\k (some _)=pure (List.zip _ (us++[Value.none]))) (Nat.succ.inj (hl)) fun _ _=>⟨_,rfl,rfl⟩
 obtain⟨_,F_law_at⟩:=z0D X G a46
 obtain⟨_,F_law_pick⟩:=z0D X G a47
 obtain⟨_,F_law_row⟩:=z0D X G a48
 obtain⟨_,F_law_whole⟩:=z0D X G a49
 obtain⟨_,F_law_same⟩:=z0D X G a50
 obtain⟨_,F_law_named⟩:=z0D X G a51
 obtain⟨_,F_law_doubled⟩:=z0D X G a52
 obtain⟨_,F_law_sets⟩:=z0D X G a53
 obtain⟨_,F_law_value⟩:=z0D X G a54
 obtain⟨_,F_law_valued⟩:=z0D X G a55
 obtain⟨_,F_law_had⟩:=z0D X G a56
 obtain⟨_,F_law_shuffled⟩:=z0D X G a57
 obtain⟨_,F_law_teller⟩:=z0D X G a58
 obtain⟨_,F_law_gaps⟩:=z0D X G a59
 obtain⟨_,F_law_held⟩:=z0D X G a60
 obtain⟨_,F_law_again⟩:=z0D X G a61
 obtain⟨_,F_law_state⟩:=z0D X G a62
 obtain⟨_,F_law_table⟩:=z0D X G a63
 obtain⟨_,F_law_dark⟩:=z0D X G a64
 obtain⟨_,F_law_numbers⟩:=z0D X G a65
 obtain⟨_,F_law_bulletin⟩:=z0D X G a66
 obtain⟨_,F_law_words⟩:=z0D X G a67
 obtain⟨_,F_law_fewer⟩:=z0D X G a68
 obtain⟨_,F_law_mended⟩:=z0D X G a69
 obtain⟨_,Flaw⟩:=z0D X G a70
 have e:=hfa.symm.trans Flaw.2
 cases e
 refine⟨_,y36 Flaw.1,fun base _ _=>?_⟩
 have Z8:=y1B (P:=l.prog) (w:=w) (base:=base) M F_law_same.1 (b2 F_law_same.1) F_law_same.2
 have cal:=@calF l.prog w K mg base
 have mcl:=@mclF l.prog w K mg base
 have mkr:=@mkrF l.prog w K mg base
 have C0:=cal F_law_at (w15 M F_law_at.1) (b2 F_law_at.1)
 have D8:=cal F_law_pick (y79 F_law_pick.1) (b2 F_law_pick.1)
 have B4:=cal F_law_row (y7L M F_law_row.1) (b3 F_law_row.1)
 have C9:=cal F_law_teller (y1R M F_law_teller.1) (b3 F_law_teller.1)
 have L5:=cal F_law_whole (y5q M F_law_whole.1) (b1 F_law_whole.1)
 have K9:=cal F_law_named (y4M M F_law_named.1) (b2 F_law_named.1)
 have J8:=cal F_law_doubled (y20 M F_law_doubled.1) (b1 F_law_doubled.1)
 have K6:=cal F_law_value (y51 F_law_value.1) (b2 F_law_value.1)
 have E2:=cal Frefuse_bad_names (y0N M Frefuse_bad_names.1) (b1 Frefuse_bad_names.1)
 have E1:=cal Frefuse_bad_reach (y0t M Frefuse_bad_reach.1) (b1 Frefuse_bad_reach.1)
 have K3:=mcl C3.cl FShelf_put (y7h (A0:=A0) M C3 FShelf_put.1) (b2 FShelf_put.1)
 have B1:=mcl C3.cl FShelf_had (y5j (A0:=A0) M C3 FShelf_had.1) (b1 FShelf_had.1)
 have M7:=cal F_law_held (y4Z M F_law_held.1) (b3 F_law_held.1)
 have L7:=cal F_law_again (y5d M F_law_again.1) (b3 F_law_again.1)
 have L6:=cal Freached_by (y1D M Freached_by.1) (b2 Freached_by.1)
 have B5:=cal Frefuse_unknown_name (y7O M Frefuse_unknown_name.1) (b2 Frefuse_unknown_name.1)
 have E3:=cal Frefuse_bad_value (y3Q M Frefuse_bad_value.1) (b1 Frefuse_bad_value.1)
 have F8:=cal Frows_in_order (y1P M Frows_in_order.1) (b2 Frows_in_order.1)
 have F7:=cal Fnames_of_rows (y57 M Fnames_of_rows.1) (b1 Fnames_of_rows.1)
 have G9:=mcl D5.cl FOffice_latest (y0M (A1:=A1) M D5 FOffice_latest.1) (b1 FOffice_latest.1)
 have B7:=mcl D5.cl FOffice_issue (y2k (A1:=A1) M D5 FOffice_issue.1) (b2 FOffice_issue.1)
 have D2:=cal Frefuse_bad_readers (z9b M Frefuse_bad_readers.1) (b1 Frefuse_bad_readers.1)
 have A6:=mcl D1.cl FBook_refuse_unknown_reader (z9y (A3:=A3) (A1:=A1) M D1 FBook_refuse_unknown_reader.1) (b2 FBook_refuse_unknown_reader.1)
 have A8:=mcl D1.cl FBook_refuse_further_deed (y2h (A3:=A3) (A1:=A1) M D1 FBook_refuse_further_deed.1) (b1 FBook_refuse_further_deed.1)
 have Y9:=mcl D1.cl FBook_deeds (y2j (A3:=A3) (A1:=A1) M D1 FBook_deeds.1) (b1 FBook_deeds.1)
 have E6:=cal Flacking_numbers (y6G M Flacking_numbers.1) (b1 Flacking_numbers.1)
 have M5:=cal Fteller_of (y2X M Fteller_of.1) (b3 Fteller_of.1)
 have G8:=mcl C3.cl FShelf_tail_of (y3d (A0:=A0) M C3 FShelf_tail_of.1) (b2 FShelf_tail_of.1)
 have G0:=mcl C3.cl FShelf_rows_of (y2A (A0:=A0) M C3 FShelf_rows_of.1) (b2 FShelf_rows_of.1)
 have Z5:=mcl D1.cl FBook_deed (y2O (A3:=A3) (A1:=A1) M D1 FBook_deed.1) (b2 FBook_deed.1)
 have O4:=cal F_law_had (y7j M F_law_had.1 B4.up) (b2 F_law_had.1)
 have G7:=cal F_law_shuffled (y6O M F_law_shuffled.1 B4.up) (b2 F_law_shuffled.1)
 have E9:=cal F_law_sets (y6E M F_law_sets.1 B4.up J8.up) (b3 F_law_sets.1)
 have D0:=cal F_law_valued (y44 M F_law_valued.1 B4.up K6.up) (b2 F_law_valued.1)
 have C1:=cal Fbulletin_names (y0s M Fbulletin_names.1 E2.up E1.up) (b2 Fbulletin_names.1)
 have X3:=mcl C3.cl FShelf_latest (y3y (A0:=A0) M C3 FShelf_latest.1 B1.up) (b1 FShelf_latest.1)
 have N1:=cal F_law_gaps (y70 M F_law_gaps.1 C9.up) (b3 F_law_gaps.1)
 have K5:=cal F_law_state (y3o M F_law_state.1 L7.up) (b3 F_law_state.1)
 have O3:=cal Ftail_for (y6Z M Ftail_for.1 L6.up) (b2 Ftail_for.1)
 have E8:=cal Frefuse_bad_rows (y27 M Frefuse_bad_rows.1 B5.up E3.up) (b2 Frefuse_bad_rows.1)
 have J3:=mcl D1.cl FBook_deliver (y0j (A3:=A3) (A1:=A1) M D1 FBook_deliver.1 B7.up A6.up A8.up) (b3 FBook_deliver.1)
 have B2:=cal Flacking_with_tellers (y7R M Flacking_with_tellers.1 E6.up M5.up) (b2 Flacking_with_tellers.1)
 have H0:=cal Fnames_told_of (y6H (A0:=A0) M C3 Fnames_told_of.1 G8.up) (b3 Fnames_told_of.1)
 have B8:=cal Fheld_for (y1I (A0:=A0) M C3 Fheld_for.1 B5.up B1.up G0.up) (b2 Fheld_for.1)
 have X7:=mcl D1.cl FBook_latest (y0o (A3:=A3) (A1:=A1) M D1 FBook_latest.1 G9.up) (b1 FBook_latest.1)
 have Y3:=mcl D1.cl FBook_issue (y1Z (A3:=A3) (A1:=A1) M D1 FBook_issue.1 B7.up) (b2 FBook_issue.1)
 have M6:=cal F_law_dark (y5i M F_law_dark.1 C9.up) (b2 F_law_dark.1)
 have L0:=cal F_law_fewer (y5J M F_law_fewer.1 B4.up) (b3 F_law_fewer.1)
 have J2:=cal F_law_numbers (y2d F_law_numbers.1 C0.up D8.up E9.up D0.up) (b2 F_law_numbers.1)
 have R7:=mkr C3.mgC FShelf___init__ (y48 (A0:=A0) M C3 FShelf___init__.1 C1.up) (b3 FShelf___init__.1)
 have D9:=cal F_law_table (y4R M F_law_table.1 N1.up M7.up K5.up) (b4 F_law_table.1)
 have R0:=mkr D5.mgC FOffice___init__ (y2C (A1:=A1) M D5 FOffice___init__.1 C1.up) (b3 FOffice___init__.1)
 have B0:=mcl D5.cl FOffice_refuse_writing (y1L (A1:=A1) M D5 FOffice_refuse_writing.1 E8.up) (b2 FOffice_refuse_writing.1)
 have J5:=cal Fdark_numbers (y76 M Fdark_numbers.1 B2.up) (b2 Fdark_numbers.1)
 have Q1:=cal Fgaps_of (y4h (A0:=A0) M C3 Fgaps_of.1 B1.up B2.up H0.up) (b1 Fgaps_of.1)
 have J9:=mcl D5.cl FOffice_write (y1J (A1:=A1) M D5 FOffice_write.1 B0.up F7.up F8.up O3.up) (b2 FOffice_write.1)
 have W2:=mkr D1.mgC FBook___init__ (y3E (A3:=A3) (A1:=A1) M D1 FBook___init__.1 R0.up D2.up) (b4 FBook___init__.1)
 have Y4:D4 l.prog w K mg base 6 A3 "shelf" z2T (z5G (BkD K A3 A1) (ShD K A0)):=.mk' D1.cl (z8B (A3:=A3) (A1:=A1) (A0:=A0) M D1 D5 FBook_shelf.1 B7.up A6.up R7.up K3.up) S6 FBook_shelf.2
 have K2:L3 l.prog w K mg base 6 A3 "shelf" z2T (z5G (BkD K A3 A1) (ShD K A0)) [V.non]:=.mk' (.cons rfl .nil) D1.cl (z8B (A3:=A3) (A1:=A1) (A0:=A0) M D1 D5 FBook_shelf.1 B7.up A6.up R7.up K3.up) R6 FBook_shelf.2
 have B6:=cal Fdark_numbers_behind (y3H M Fdark_numbers_behind.1 J5.up) (b3 Fdark_numbers_behind.1)
 have M3:=cal Fset_again (y0L (A0:=A0) M C3 Fset_again.1 B8.up Q1.up) (b2 Fset_again.1)
 have L4:=mcl D1.cl FBook_write (y1K (A3:=A3) (A1:=A1) M D1 FBook_write.1 B0.up J9.up A8.up) (b2 FBook_write.1)
 have F0:=cal Fstate_of (y2g (A0:=A0) M C3 Fstate_of.1 B8.up M3.up B1.up B6.up) (b2 Fstate_of.1)
 have D6:=cal Ffewest_numbers (y3f M Ffewest_numbers.1 B6.up) (b3 Ffewest_numbers.1)
 have F1:=cal Fstate_and_held (z9B (A0:=A0) M Fstate_and_held.1 B8.up F0.up) (b2 Fstate_and_held.1)
 have O1:Cal l.prog w K mg base 6 "send_for" z3o (z43 (ShD K A0)):=.mk' (z8A (A0:=A0) M C3 Fsend_for.1 B8.up F0.up B1.up D6.up) V1 Fsend_for.1.kp Fsend_for.2
 have M4:P9 l.prog w K mg base 6 "send_for" z3o (z43 (ShD K A0)) [V.non]:=.mk' (.cons rfl .nil) (z8A (A0:=A0) M C3 Fsend_for.1 B8.up F0.up B1.up D6.up) T9 Fsend_for.1.kp Fsend_for.2
 have C4:=cal F_law_bulletin (y6A (A3:=A3) (A0:=A0) (Sh:=(ShD K A0)) (Bk:=(BkD K A3 A1)) M F_law_bulletin.1 w02 F3 W2.up L4.up J3.up K2.up) (b4 F_law_bulletin.1)
 have M9:=cal Fknowledge (y0i (A0:=A0) M C3 Fknowledge.1 F1.up) (b1 Fknowledge.1)
 have J1:=cal F_law_words (y5w (A0:=A0) (Sh:=(ShD K A0)) M F_law_words.1 F3 (Z8 5) D9.up C4.up M9.up) (b4 F_law_words.1)
 have F4:=cal F_law_mended (y3M M F_law_mended.1 L5.up J1.up G7.up L0.up) (b7 F_law_mended.1)
 exact y7G M Flaw.1 F3 C0.up D8.up K9.up J2.up O4.up E9.up D0.up M6.up D9.up C4.up F4.up O1.up M4.up
theorem walk{l:PySem.W.OpenLaw}{q:Program}{loose:List Str}{XP:(Str->Option Value)->Heap->Prop}{YP:World->Heap->Prop}{d:DefRec}{K:Params->PySem.W.Frag}(hn:l.most=some 63)(hdf:d.params.defaults=[])
  (hY:∀(w:World) (h:Heap),YP w h->(K w.params).In h)
  (F:∀(w:World) (mg:Str->Option Value) (fa:Addr) (h:Heap),(K w.params).In h->h.Ns mainGlobals mg->mg d.name=some (.ref fa)->
   ∃fd:FuncData,(∀(s:Shared) (u:Value),BindsTo s fd ⟨[u],[]⟩ [("_law_script",u)])/\∀base:Heap,(K w.params).In base->base.Ns mainGlobals mg->A5 l.prog w (K w.params) mg base CX0 14 fa fd ["_law_script"] (y4S (K w.params))) :
  PySem.W.WalkO q loose XP YP l.row.toRowW d [] (fun f vs=>PySem.call f vs):=
 L2.y6D (n:=63) (k:=14) (x:="_law_script") (CX:=fun _=>CX0) (sp:=fun w=>y4S (K w.params)) hn (by decide) hdf ⟨rfl,by decide,by decide⟩ hY F (fun _ _ a ns hl _ hS=>⟨a,ns,rfl,hS,hl,fun _=>rfl⟩) fun _ _ _ _ _ z=>z
theorem w18{q:Program}{loose:List Str}{XP:(Str->Option Value)->Heap->Prop}{r:PySem.W.RowW}{d:DefRec}{kwd:List (Str×Expr)}{run:Value->List Value->Sem Value}{K:Params->PySem.W.Frag}{ks:List Addr}{n t:Nat}(e:∀P,ks=(K P).map (·.1))
  (W:PySem.W.WalkO q loose XP (fun w h=>(K w.params).In h) r d kwd run):PySem.W.WalkX q loose XP (PySem.W.X.obsZ ks) (PySem.W.X.valZ K n t) r d kwd run:=
 fun w s₀ s₁ mg mb G y a o pm cd doc dV kV h1 h2 h3 h4 h5 h6 args vals as L g1 g2 g3 g4 g5=>W w s₀ s₁ mg mb G (PySem.W.InK.keeps w s₀.heap s₁.heap (PySem.W.X.z_facts e y).2.1 L.keeps) a o pm cd doc dV kV h1 h2 h3 h4 h5 h6 args vals as g1 g2 g3 g4 g5
end My
namespace PySem.W.Fast
def tw10018692133933753316:=()
def tw10065436544417394668:=()
def tw10082790934671962536:=()
def tw10133796906838054925:=()
def tw10184900085921727075:=()
def tw10213539916429970669:=()
def tw10217407050439769019:=()
def tw10244194894407768979:=()
def tw10278289540356354212:=()
def tw10303539201827882772:=()
def tw10310181645901999456:=()
def tw10315653684039509179:=()
def tw10416515710066606464:=()
def tw10431430370261355326:=()
def tw10484877654421206291:=()
def tw10500994164204746794:=()
def tw10553163540658701144:=()
def tw10632532058456084730:=()
def tw1066417749152428534:=()
def tw10676284158945563138:=()
def tw10716237831065315362:=()
def tw10722720202610567165:=()
def tw10729564597260683071:=()
def tw10745419516912244301:=()
def tw10807647534672718040:=()
def tw10819116819981126495:=()
def tw1083039289264603093:=()
def tw10842746217243590160:=()
def tw10846543138988846160:=()
def tw10903810079913640129:=()
def tw1097553774380970169:=()
def tw11011023035590995677:=()
def tw110984701665448303:=()
def tw11126904779502925544:=()
def tw11134626893753824399:=()
def tw11213635677574653794:=()
def tw11276846030926857788:=()
def tw11294286532894883323:=()
def tw11329893152143851799:=()
def tw11365824619689806735:=()
def tw11412564589211557239:=()
def tw1148092731334343961:=()
def tw11598717148745916346:=()
def tw11680583192226089583:=()
def tw11711275472288638143:=()
def tw11713898866808286625:=()
def tw11734147011867976301:=()
def tw11825560887563851453:=()
def tw11846231163404379826:=()
def tw11861403142722516361:=()
def tw11938180240152978682:=()
def tw11996374640233113770:=()
def tw12014763276740574247:=()
def tw1202706945341393374:=()
def tw12064787489994194177:=()
def tw12083588012029531131:=()
def tw12212594028706597900:=()
def tw12338487995713963523:=()
def tw12451536342748558099:=()
def tw12463178447486144999:=()
def tw1248075505067715667:=()
def tw12499280850156118172:=()
def tw12580748873130987739:=()
def tw12625110416101867024:=()
def tw12677065152338823085:=()
def tw1268273499473963824:=()
def tw1269017404418603985:=()
def tw12754011441876371777:=()
def tw12756167578174666708:=()
def tw12766946279526709599:=()
def tw12809784730706270030:=()
def tw12852705324693556088:=()
def tw12878714994281507175:=()
def tw13003121746974190481:=()
def tw13012283251558915925:=()
def tw13045508298827779372:=()
def tw13133285282002788699:=()
def tw13189978242563129723:=()
def tw13315737626051834602:=()
def tw13315981183106363475:=()
def tw13327430834411140860:=()
def tw13346164351574748410:=()
def tw13429909101210162303:=()
def tw13504157241386895285:=()
def tw13532970214923574387:=()
def tw13538153865043114125:=()
def tw13568229238503456737:=()
def tw13576347978322683407:=()
def tw13678987669319664401:=()
def tw13763335497050641108:=()
def tw13764982425222032576:=()
def tw1382235416249175817:=()
def tw13831444098297308899:=()
def tw1383481657394079929:=()
def tw13860465016590186272:=()
def tw13870819535780206166:=()
def tw1387361238353243641:=()
def tw13908500270874290437:=()
def tw13990078744605776624:=()
def tw14070320398213056014:=()
def tw14073090719523516001:=()
def tw14077292142862299993:=()
def tw14092922865078088057:=()
def tw14135075340828223563:=()
def tw14140353469117011558:=()
def tw14161757788761242459:=()
def tw14168721167948408165:=()
def tw14210710592084102581:=()
def tw14337732256528962175:=()
def tw14378932413133582571:=()
def tw14388662416201485941:=()
def tw1439276839511230300:=()
def tw14465381772160214852:=()
def tw14474294212905579977:=()
def tw14486599146705741160:=()
def tw14487825876480558775:=()
def tw14491559237276470621:=()
def tw14535436994938368892:=()
def tw14549838024264571594:=()
def tw14610547728872713823:=()
def tw14668982133825214045:=()
def tw14696684640594516374:=()
def tw1470229027415986011:=()
def tw14711619597085802175:=()
def tw14714649631436658703:=()
def tw14727313391011265581:=()
def tw1477455641228294980:=()
def tw14801135669592377261:=()
def tw14809765835149691210:=()
def tw1481654853408974229:=()
def tw14831972851458509810:=()
def tw14868738582315221810:=()
def tw14926310819421608129:=()
def tw14942131916992140719:=()
def tw14950956104558771606:=()
def tw14992795357302417125:=()
def tw15078450988851196682:=()
def tw15086368441535968968:=()
def tw15141498106215315995:=()
def tw15160790404941751932:=()
def tw15174784403698671993:=()
def tw15195565695408771836:=()
def tw15268803637277822630:=()
def tw15271335699082877214:=()
def tw15296863109187776854:=()
def tw15351551741722629855:=()
def tw15358833983294317068:=()
def tw15380592543700245875:=()
def tw15388756230092857675:=()
def tw15493068654852798538:=()
def tw15500212813097491374:=()
def tw15635541258807656031:=()
def tw15699088738661404267:=()
def tw15702463430634287576:=()
def tw15716914123016514934:=()
def tw15799255178114729576:=()
def tw15817110608570785635:=()
def tw15871976842949100813:=()
def tw15911407549684804384:=()
def tw15933265195394072092:=()
def tw15961789823753807815:=()
def tw15979641758827797400:=()
def tw16039892193338464286:=()
def tw16087286554649619786:=()
def tw16144522918858683501:=()
def tw1622289955188205939:=()
def tw16240786776438246778:=()
def tw162711619284034774:=()
def tw16334834938798119547:=()
def tw16337158751764026703:=()
def tw16440300588665884489:=()
def tw16451573906451755725:=()
def tw16452168408487148817:=()
def tw16454475442696043851:=()
def tw16489860577606707540:=()
def tw16532721347713913977:=()
def tw16558897092845978152:=()
def tw16618869719872341506:=()
def tw16638018729398390351:=()
def tw16672701266197244904:=()
def tw16727691656664816884:=()
def tw16811483657015600880:=()
def tw16848782491272409968:=()
def tw16850554264286551729:=()
def tw16854758614638579800:=()
def tw16914807543446475822:=()
def tw16958911819008188232:=()
def tw17266216277443289559:=()
def tw17382263790158767708:=()
def tw17488120958799015264:=()
def tw17525928766854549085:=()
def tw17585929759387749023:=()
def tw17611630202062205871:=()
def tw17612613045383920987:=()
def tw17650167572652094044:=()
def tw1775080033409099939:=()
def tw17835158008979696326:=()
def tw17851436245532600444:=()
def tw1792019219605339929:=()
def tw17938464985236857119:=()
def tw17952183841942975207:=()
def tw18030807926601893159:=()
def tw1805806448685759195:=()
def tw18118660940688905678:=()
def tw18146181523222677257:=()
def tw18166519213730153978:=()
def tw18191670236451004147:=()
def tw18263648059231631013:=()
def tw18366281955780574081:=()
def tw18402403814192088378:=()
def tw18435751689576521621:=()
def tw1853786707226709816:=()
def tw1896489484859745047:=()
def tw1908852387666782627:=()
def tw191124804461497861:=()
def tw1996259488384934018:=()
def tw1997954109406458256:=()
def tw2084128667623235494:=()
def tw2084152809333397760:=()
def tw2103828085453677288:=()
def tw2138130870127190015:=()
def tw2152835964205931076:=()
def tw2158917702274211240:=()
def tw2173142398479804178:=()
def tw2177367082734102069:=()
def tw2178543629191290321:=()
def tw2188001739808139795:=()
def tw2199855951599375604:=()
def tw2222869550608177271:=()
def tw228136037037938508:=()
def tw2302570383553159670:=()
def tw2303957826663575470:=()
def tw2323859639656150898:=()
def tw2353166094707049252:=()
def tw24122799100795006:=()
def tw2417099836111148466:=()
def tw2491681173169805058:=()
def tw2508570951230788503:=()
def tw2560596604237701327:=()
def tw2590624820118565265:=()
def tw2664195444080544135:=()
def tw2712637761137437500:=()
def tw2722895840195374576:=()
def tw2749081179088958932:=()
def tw2791044854425553604:=()
def tw2874385034558089560:=()
def tw2907898522336326630:=()
def tw2926205887886412824:=()
def tw2941433475296717554:=()
def tw2974431435080454299:=()
def tw2996526998106804419:=()
def tw3062580085962082882:=()
def tw312169872637173692:=()
def tw3205848801912544055:=()
def tw3341597586973676693:=()
def tw3386185024196522891:=()
def tw3389684193792479615:=()
def tw3394194278259409103:=()
def tw3537797254311459508:=()
def tw3538683240599384593:=()
def tw353962814523959658:=()
def tw3544936192736986799:=()
def tw355994185462581025:=()
def tw3617071414453482103:=()
def tw3708346142088578624:=()
def tw3735884059660160235:=()
def tw3830648507715717790:=()
def tw3884260882671303340:=()
def tw3946906441750817857:=()
def tw3969241829972541182:=()
def tw398016269253934029:=()
def tw3983427596957820881:=()
def tw3991588781041432540:=()
def tw401498204533557127:=()
def tw4017386215850428030:=()
def tw4039730800916313914:=()
def tw4045668420328451242:=()
def tw4095888939277721263:=()
def tw4169021250114167303:=()
def tw4240189630224444627:=()
def tw4377513456016967034:=()
def tw4391111107558893210:=()
def tw4396588847230822658:=()
def tw4402126623242216805:=()
def tw4412143359729214041:=()
def tw4420611240199724983:=()
def tw442149289149994689:=()
def tw4427760559700151141:=()
def tw4497298429142028570:=()
def tw4516787954917169957:=()
def tw4529516836103974911:=()
def tw4535040683877370458:=()
def tw4570213174779919138:=()
def tw4661375782490953478:=()
def tw46669392743018055:=()
def tw4680300565805196800:=()
def tw4692693460408853727:=()
def tw4728309087485498353:=()
def tw4731193995921377042:=()
def tw4809642160929319869:=()
def tw4821093991706472779:=()
def tw4832105556684356176:=()
def tw4841967934049585955:=()
def tw4987281481822474250:=()
def tw4990415901831296625:=()
def tw5036470986734917543:=()
def tw5040057399389343520:=()
def tw5117788014466630803:=()
def tw5141345812780328635:=()
def tw5152804976570762967:=()
def tw5222329163550045876:=()
def tw5337081632609221369:=()
def tw5401679695430221113:=()
def tw5467257330522085332:=()
def tw5496437079899349483:=()
def tw5500491359320533799:=()
def tw557094698817942955:=()
def tw5609585690879480501:=()
def tw56388307300464074:=()
def tw5643823730987371395:=()
def tw5655039450638531099:=()
def tw5662937745990475475:=()
def tw5664129337846015878:=()
def tw5667303328993180893:=()
def tw5682165027163938783:=()
def tw5766470325987612735:=()
def tw5783572957905326906:=()
def tw5844354660864189726:=()
def tw5877396393088314301:=()
def tw5921364052702472020:=()
def tw5924049236609608441:=()
def tw5941159315433357999:=()
def tw5970274793555101621:=()
def tw6007901671695393217:=()
def tw6166163892923323600:=()
def tw6181230881313884558:=()
def tw6236112884088697810:=()
def tw6256156901118014697:=()
def tw6302725163782379742:=()
def tw6315159963129488899:=()
def tw6339427134989518293:=()
def tw6450619417509071436:=()
def tw647435024325203003:=()
def tw653382583673611695:=()
def tw6624274463011152250:=()
def tw6721286353816782486:=()
def tw6749226818360148601:=()
def tw6756571912558677339:=()
def tw6764914874768304929:=()
def tw6766419165748527459:=()
def tw6782347192414368856:=()
def tw6880361789704412756:=()
def tw6892735657213023665:=()
def tw6912108488786041302:=()
def tw6916911403611237422:=()
def tw6972446022327857548:=()
def tw6991685833575147141:=()
def tw7027626889250165730:=()
def tw7041384249293192378:=()
def tw7123074623864396297:=()
def tw7223903239464539386:=()
def tw7234910402091970665:=()
def tw7240716555588097936:=()
def tw7278683134448391144:=()
def tw7320759811443696355:=()
def tw744555544443482551:=()
def tw7447771128599726845:=()
def tw7454232721215056796:=()
def tw7456863651340269336:=()
def tw7517789814232052678:=()
def tw7537177599138842950:=()
def tw7552794296753037392:=()
def tw7565933692404876851:=()
def tw7568794052893596686:=()
def tw7619414911916911014:=()
def tw766681073670150999:=()
def tw7684962214947406316:=()
def tw7685907634686797532:=()
def tw7687611860006842904:=()
def tw769131642847699127:=()
def tw7745060683014813798:=()
def tw7750433795956267203:=()
def tw7851076994788667006:=()
def tw7968681541299582879:=()
def tw7975766791207243346:=()
def tw8056088726703258077:=()
def tw8132467222648638479:=()
def tw8132623414623607434:=()
def tw8152161136586665239:=()
def tw8217122543269199707:=()
def tw822093200951890214:=()
def tw8233259956934190910:=()
def tw8247489146998323492:=()
def tw8259845859662009786:=()
def tw8327762741608587164:=()
def tw8444796086697316407:=()
def tw8447587607009124690:=()
def tw8550864909224650587:=()
def tw8581952105214401801:=()
def tw8599907917434112839:=()
def tw8635955614417815087:=()
def tw8656599289333185402:=()
def tw8732889869811212897:=()
def tw8747731377475585919:=()
def tw8788318028223997167:=()
def tw8804469601295378216:=()
def tw8986539873363995897:=()
def tw9005265878818326634:=()
def tw9033668614815335247:=()
def tw9084021615846994719:=()
def tw9114759426047531642:=()
def tw9137598822290267578:=()
def tw9167325769001451839:=()
def tw9171088776799211483:=()
def tw9192927494140742320:=()
def tw9197001223904907946:=()
def tw922168360052081135:=()
def tw9227474046596683009:=()
def tw9241826907221794855:=()
def tw9292567780101771217:=()
def tw9365021987963617286:=()
def tw9404223387301346102:=()
def tw9433104656622380362:=()
def tw9530063828692785972:=()
def tw9553033810741899370:=()
def tw9558172107120850742:=()
def tw9560253371495101483:=()
def tw9623592017997713185:=()
def tw9632055505269114249:=()
def tw963987816592712247:=()
def tw9679063204958808832:=()
def tw9680588913474952519:=()
def tw9696574853722536770:=()
def tw9727694020643509290:=()
def tw9835278645494160123:=()
def tw9840567844020190987:=()
def tw9893867305660163142:=()
def tw9925034389857620280:=()
def tw9942463848728869264:=()
def tw9980607591818616157:=()
def tw9993874536694962184:=()
end PySem.W.Fast
open PySem PySem.W PyProof.Rows
set_option maxRecDepth 100000 in
set_option maxHeartbeats 0 in
theorem PySem.Challenge.cw_backissues_k36_whole_send_for_holds : PySem.Challenge.rw_backissues_k36_whole_send_for.Holds := by
 w_on; o_law; z_head; (case hw => w_witness2)
 k_fill
 refine My.w18 (fun _ => by kernel_rfl) ?_
 refine My.walk (l := PySem.Challenge.rw_backissues_k36_whole_send_for) rfl rfl (fun w h Y => Y) ?F
 case F =>
  intro w mg fa h KX G hmg
  refine' My.y7U KX G hmg ?cOffice ?cShelf ?cBook ?nOffice_names ?nOffice_reach ?nOffice_written ?nShelf_names ?nShelf_reach ?nShelf_issues ?nBook_office ?nBook_readers ?nBook_done ?a0 ?a1 ?a2 ?a3 ?a4 ?a5 ?a6 ?a7 ?a8 ?a9 ?a10 ?a11 ?a12 ?a13 ?a14 ?a15 ?a16 ?a17 ?a18 ?a19 ?a20 ?a21 ?a22 ?a23 ?a24 ?a25 ?a26 ?a27 ?a28 ?a29 ?a30 ?a31 ?a32 ?a33 ?a34 ?a35 ?a36 ?a37 ?a38 ?a39 ?a40 ?a41 ?a42 ?a43 ?a44 ?a45 ?a46 ?a47 ?a48 ?a49 ?a50 ?a51 ?a52 ?a53 ?a54 ?a55 ?a56 ?a57 ?a58 ?a59 ?a60 ?a61 ?a62 ?a63 ?a64 ?a65 ?a66 ?a67 ?a68 ?a69 ?a70 ?d18 ?d45 ?zlen ?zrange ?ztuple ?zlist ?zmax ?zmin ?zsorted ?zisinstance ?zbool ?zint ?zstr ?zset ?zreversed ?zdict ?zzip ?zall ?vMOST_NAMES ?vMOST_REACH ?vMOST_NUMBERS ?vMOST_VALUE ?vMOST_READERS ?vMOST_DEEDS ?vSURE ?vSTALE ?vOPEN ?vWRITE ?vDELIVER
  case' cOffice | cShelf | cBook => exact ⟨by k_is, by k_is, by k_is, by k_is, by k_is, by k_is, by k_is⟩
  case' nOffice_names | nOffice_reach | nOffice_written | nShelf_names | nShelf_reach | nShelf_issues | nBook_office | nBook_readers | nBook_done => k_is
  case' a0 | a1 | a2 | a3 | a4 | a5 | a6 | a7 | a8 | a9 | a10 | a11 | a12 | a13 | a14 | a15 | a16 | a17 | a18 | a19 | a20 | a21 | a22 | a23 | a35 | a46 | a47 | a48 | a49 | a50 | a51 | a52 | a53 | a54 | a55 | a56 | a57 | a58 | a59 | a60 | a61 | a62 | a63 | a64 | a65 | a66 | a67 | a68 | a69 | a70 => exact ⟨by k_is, _, _, _, _, _, _, _, _, _, by k_is, by k_is, by k_is⟩
  case' a24 | a25 | a26 | a27 | a28 | a29 | a30 | a31 | a32 | a33 | a34 | a36 | a37 | a38 | a39 | a40 | a41 | a42 | a43 | a44 | a45 => exact ⟨by k_is, by k_is, _, _, _, _, _, _, _, _, _, by k_is, by k_is, by k_is⟩
  case' d18 | d45 => exact ⟨_, _, _, _, by k_is⟩
  case' zlen | zrange | ztuple | zlist | zmax | zmin | zsorted | zisinstance | zbool | zint | zstr | zset | zreversed | zdict | zzip | zall | vMOST_NAMES | vMOST_REACH | vMOST_NUMBERS | vMOST_VALUE | vMOST_READERS | vMOST_DEEDS | vSURE | vSTALE | vOPEN | vWRITE | vDELIVER => k_is